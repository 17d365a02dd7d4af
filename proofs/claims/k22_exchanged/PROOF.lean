import PyProof.Rows.All
import Wide.All
import OpenK.AllK
import Wide.FinOn
import Lean
import PyProof.EqAt
import PyProof.EqKinds
import PyProof.TupleCall
import PySem.Challenge.RW_quotefind_k22_exchanged
set_option Elab.async false
set_option linter.all false
set_option maxRecDepth 100000
set_option hygiene false in
local macro_rules
|`(tactic|o_head $H)=>`(tactic|refine holds_open (q:=HD.q HD.pw) (loose:=HD.loose) (Xt:=HD.Xt HD.pw []) (XP:=XL (HD.q HD.pw) []) (Yf:=Hook.obs $H) (Ya:=Hook.val $H) (YP:=Hook.says $H) (d:=HD.d) (kwd:=[]) (N:=HD.Ka) (HD.left HD.pw HD.WL $H fun w os=>by kernel_rfl) (Hook.of $H) (Hook.keeps $H) (fun s e=>xl_of s (Bool.and_eq_true_iff.mp e).1) XL.keeps (by kernel_rfl) (by kernel_rfl) (by kernel_rfl) (fun s e=>recFacts_of (Bool.and_eq_true_iff.mp e).2) (by rfl) (by assumption) (by decide+kernel) ⟨rfl,rfl,rfl,rfl,rfl,by decide+kernel⟩ ?hw ?hc)
|`(WX $a $b $c)=>`(@aG _ _ $a _ _ _ _ $b (by exact rfl) (Or.inl rfl) $c (by rfl) (by exact .inl rfl))
|`(Xc $a $b)=>`(@aJ _ _ $a _ $b (by exact rfl) (Or.inl rfl) (by first|exact .inl rfl|exact .inr rfl|assumption))
|`(Im $a)=>`(@aj _ _ _ _ _ $a af (by rfl))
|`(Y6 $a $b $c)=>`(@aP _ _ _ _ _ _ _ _ _ _ _ _ $a (hr.mono (by decide)) $b $c (by rfl) (by decide) (by rfl) (by rfl))
|`(Xa $a $b)=>`(@aB _ _ _ _ _ _ _ (aq K) $a $b (fun _ _=>rfl))
|`(ZM $a $b $c)=>`(@aO _ _ _ _ _ _ _ _ _ $a (by exact rfl) $b PyProof.Rows.Boot.«len» $c (by decide) (by decide) (by rfl) (by rfl))
|`(R4 $a $b)=>`(@aj _ _ _ _ _ $a $b (by rfl))
|`(ζ $a)=>`(@aC _ $a _ _ _ _ (pv 0) (by rfl) (by rfl))
|`(WB $a)=>`(List.getElem?_eq_some_iff.mp $a)
|`(RU $a $b $c)=>`(@aI _ _ _ _ _ _ _ _ $a $b $c)
|`(ZJ $a $b $c)=>`(@bF _ _ _ _ _ _ _ _ hX.own (by exact rfl) $a $b $c (by intro _;rfl))
|`(Ε $a $b $c $d $e $f)=>`(@e6 _ $a _ _ _ _ _ _ _ _ _ _ _ PySem.F.plainAttrs_list $b $c $d $e $f (by rfl) (by rfl) (by rfl) (by rfl) (by rfl) (by rfl))
|`(uj $a)=>`(@aB _ _ _ _ _ _ _ (aq K) (@aB _ _ _ _ _ _ _ (aq K) (pv 0) ai (fun _ _=>rfl)) $a (fun _ _=>rfl))
|`(Υ $a $b)=>`(@aP _ _ _ _ _ _ _ _ _ _ _ _ $a (hr.mono (by decide)) $b (@aj _ _ _ _ _ (pv 0) (@aj _ _ _ _ _ ai af (by rfl)) (by rfl)) (by rfl) (by decide) (by rfl) (by rfl))
|`(sf $a $b $c $d)=>`(@bO _ _ _ _ _ _ _ _ _ _ _ _ _ _ _ _ $a $b (hr.mono (by decide)) $c $d (by rfl) (by rfl) (by rfl))
|`(Η $a $b $c $d)=>`(@aO _ _ _ _ _ _ _ _ _ $a (by exact rfl) $b $c $d (by decide) (by decide) (by rfl) (by rfl))
|`(Β $a)=>`(@eF _ _ _ _ _ _ $a (by first|exact bo _ (by decide) (by decide)|rfl))
|`(U' $a $b)=>`(@ax _ _ _ _ _ $a $b)
|`(Z7 $a $b $c)=>`(@aT _ _ _ _ _ _ _ _ $a $b $c (aV _))
|`(R3 $a)=>`(@ao _ _ _ $a)
|`(Y7 $a)=>`(List.mem_of_getElem? $a)
|`(Dy $a)=>`(if_neg $a)
|`(X2 $a $b)=>`(@aF _ _ _ _ _ $a $b)
|`(Hz $a)=>`(if_pos $a)
|`(ZE $a)=>`(Heap.get?_push_of_some _ $a)
|`(Γ $a $b)=>`(@bf _ _ _ _ _ _ _ _ $a (@ao _ _ _ (@aM _ _ _ _ eK)) $b)
|`(ZQ $a $b $c)=>`(@aB _ _ _ _ _ _ _ $a $b $c (fun _ _=>rfl))
|`(YA $a)=>`(Option.some.inj $a)
|`(ν $a)=>`(@aj _ _ _ _ _ $a (@aj _ _ _ _ _ ai af (by rfl)) (by rfl))
|`(Zu $a $b $c)=>`(@cf _ $a _ _ _ _ _ _ _ $b $c (by rfl) (by rfl))
|`(Ν $a $b $c)=>`(@eO _ $a _ _ _ $b _ (by exact rfl) $c (by rfl) (by rfl) (by rfl))
|`(ZK $a)=>`(List.getElem?_append_left $a)
|`(Ρ $a)=>`(@aj _ _ _ _ _ $a (@aj _ _ _ _ _ (pv 3) af (by rfl)) (by rfl))
|`(ZG $a $b)=>`(@aW _ _ _ _ _ $a $b (by rfl))
|`(Z0 $a)=>`(@aM _ _ _ _ $a)
|`(ZP $a)=>`(List.getElem?_append_right $a)
|`(Χ $a $b)=>`(@aI _ _ _ _ _ _ _ _ $a (@aB _ _ _ _ _ _ _ (aq K) (pv 2) ai (fun _ _=>rfl)) $b)
|`(Ο $a)=>`(s.heap.update $a (Obj.mapSeq fun _=>(#[]:Array Value)))
|`(ZH $a)=>`(@a_ _ _ _ _ $a (by rfl))
|`(ZY $a)=>`(@cH _ _ _ $a (by intro _;rfl))
|`(Α $a $b $c $d)=>`(PyProof.Rows.envOfC $a $b s.heap.objs.size $c $d)
|`(Jh $a)=>`(arrOf $a)
|`(ZI $a $b $c)=>`(@bf _ _ _ _ _ _ _ _ $a $b $c)
|`(ZU $a)=>`(List.mem_append_right _ $a)
|`(ZZ $a)=>`(List.getElem?_eq_getElem $a)
|`(ZR $a)=>`(List.mem_cons_of_mem _ $a)
|`(Ψ $a)=>`(@aj _ _ _ _ _ $a (@aj _ _ _ _ _ (pv 2) af (by rfl)) (by rfl))
|`(ZO $a $b)=>`(@a8 _ $a _ _ _ $b (by rfl))
|`(Xs $a)=>`(wpAny_pure $a)
|`(γ $a $b $c $d $e)=>`(@fu _ _ _ _ _ _ _ _ _ $a $b $c $d $e (by decide) (by decide) (by rfl) (by rfl))
|`(Xr $a)=>`(pendingOf $a)
|`(Z5 $a)=>`(wpAny_bind $a)
|`(δ $a $b $c)=>`(@iP _ _ _ _ _ _ $a (@aC _ K _ _ _ _ (pv 0) (by rfl) (by rfl)) $b $c)
|`(Κ $a $b)=>`(@aC _ $a _ _ _ _ $b (by rfl) (by rfl))
|`(Z9 $a)=>`(Heap.lt_size $a)
|`(μ $a)=>`(@aj _ _ _ _ _ $a (@aj _ _ _ _ _ (@aB _ _ _ _ _ _ _ (aq K) (pv 0) ai (fun _ _=>rfl)) af (by rfl)) (by rfl))
|`(U_ $a)=>`(ar $a rfl)
|`(Ζ $a)=>`(absurd $a Bool.false_ne_true)
|`(Z6 $a)=>`(List.range $a)
|`(ω $a)=>`(@aj _ _ _ _ _ $a (@aj _ _ _ _ _ (@fL _ _ _ _ bQ (by rfl) (by decide)) af (by rfl)) (by rfl))
|`(ρ $a)=>`(@aj _ _ _ _ _ $a (@aj _ _ _ _ _ ai (@aj _ _ _ _ _ (@fL _ _ _ _ bQ (by rfl) (by decide)) af (by rfl)) (by rfl)) (by rfl))
|`(ky $a $b)=>`(@pw_or _ _ _ _ _ _ _ $a $b)
|`(η $a)=>`(@fL _ _ _ _ $a (by rfl) (by decide))
|`(Wt $a)=>`(av.upd $a)
|`(Μ $a)=>`(backTo $a (starEach es X.env))
|`(ς $a $b)=>`(@bf _ _ _ _ _ _ _ _ $a (@ao _ _ _ (@je _ _ _ _ _ _ _ _ _ _ hX (by exact rfl) (by exact rfl) bX.m bX.e (@aj _ _ _ _ _ dS af (by rfl)) (by decide) (by rfl) (by rfl))) $b)
|`(Z2 $a)=>`(wpS_pure $a)
|`(τ $a)=>`(seqEpoch_at $a rfl (wpAny_bind (wpAny_newTuple (wpAny_bind (wpAny_newList (wpAny_holding ?_) (Nat.zero_le _))) (by show vs.length≤_;rw[sizeLine_eq];lia))))
|`(X7 $a $b)=>`(absurd $a $b)
set_option hygiene false in
local macro_rules
|`(Ι $a)=>`(List.mem_append_left _ $a)
|`(ZT $a)=>`(gg (arrOf st) $a)
|`(Z' $a)=>`(Ne.symm $a)
|`(Λ $a $b $c $d)=>`(envOfC $a $b s.heap.objs.size $c $d)
|`(ξ $a $b $c $d $e $f)=>`(@je _ _ _ _ _ _ _ _ _ _ $a $b $c $d $e $f (by decide) (by rfl) (by rfl))
|`(ZL $a)=>`(@bJ _ _ _ _ $a)
|`(Ξ $a)=>`(List.mem_iff_getElem.mp $a)
|`(ZS $a)=>`(Nat.ne_of_lt $a)
|`(ι $a $b $c $d)=>`(@oT _ _ _ _ _ _ _ _ _ _ _ _ _ _ $a $b $c $d (by rfl) (by decide) (by rfl) (by rfl))
|`(Τ $a)=>`(List.pairwise_append.mpr $a)
|`(Θ $a $b)=>`(Nat.lt_of_lt_of_le $a $b)
|`(ZX $a $b)=>`(Nat.le_trans $a $b)
|`(Zv $a)=>`(beq_iff_eq.mpr $a)
|`(Δ $a)=>`(List.getElem_mem $a)
set_option hygiene false in
local macro_rules
|`(gO)=>`(⟨rfl,rfl,rfl,by decide+kernel,rfl,by decide+kernel,by decide+kernel⟩)
|`(Ck)=>`(⟨rfl,by decide+kernel,by decide+kernel,by decide+kernel,rfl,rfl,by decide+kernel,by decide+kernel,by decide+kernel⟩)
|`(gP)=>`((fun f7 A outer s H vs Q E hr h hX=>?_))
|`(Aj)=>`((by lia))
|`(K4)=>`((by simp))
|`(Yz)=>`((fun vs H Q E h=>?_))
|`(ZD)=>`((Nat.le_refl _))
|`(χ)=>`((wpAny_attempt (wpAny_callSpecial?_slot (name:=Str.ofString "__next__") T F.slot_dict_valueiterator_next (wpAny_call_entry F.slot_dict_valueiterator_next T F.entry_dict_valueiterator_next ?_ (F.args_dict_valueiterator_next_1 _)))))
|`(ο)=>`((@kE _ _ (.ty "list") _ _ (by exact rfl) T.jW PyProof.Rows.Boot.«list» (by exact rfl) (by decide) (by decide)))
|`(abM)=>`((wpAny_callSpecial?_slot (name:=Str.ofString "__next__") T F.slot_dict_valueiterator_next (wpAny_call_entry F.slot_dict_valueiterator_next T F.entry_dict_valueiterator_next ?_ (F.args_dict_valueiterator_next_1 _))))
|`(WC)=>`((pv 0))
|`(θ)=>`((f_ X scope (ls++cs) s3 H3 s3.heap.objs.size fp (X.pn++pins)))
|`(Zt)=>`((bG I q (by simp)))
|`(ZW)=>`((by exact rfl))
|`(Wa)=>`((pv 1))
|`(υ)=>`((listItems_at ho rfl (Z5 (listUpdate_at ho rfl ?_ (by rw[List.size_toArray,sizeLine_eq];lia) (Nat.zero_le _)))))
|`(ε)=>`((f_ X scope (ls++cs) dA eY C fp pn))
|`(Ω)=>`((seqObj "list" vs.toArray 0))
|`(Z1)=>`((ζ K))
|`(Z_)=>`((by simp;lia))
|`(Y1)=>`((pv 2))
|`(ZV)=>`((by decide))
|`(ZN)=>`((aQ (i,j)))
|`(ZF)=>`(by omega)
|`(Sz)=>`(by decide)
|`(YG)=>`(by rfl)
|`(MD)=>`(by simp)
set_option maxHeartbeats 4000000
namespace HD
open PySem PySem.W PyProof.Rows
noncomputable section
noncomputable abbrev pw:Program:=PySem.Challenge.pw_quotefind_k22_exchanged
noncomputable abbrev pq:Program:=pw
theorem WL:pw=pq:=rfl
def z0:Str:=⟨⟨[60,109,111,100,117,108,101,62]⟩⟩
def z1:Str:=⟨⟨[95,95,109,97,105,110,95,95]⟩⟩
def UO:Str:=⟨⟨[47,99,108,97,105,109,47,99,117,116,46,112,121]⟩⟩
noncomputable abbrev y0:String:=PySem.W.SL.s658472552662922059x5
noncomputable abbrev WM:String:=PySem.W.SL.s5856160107412720595x4
noncomputable abbrev R(a:Addr):Value:= .ref a
noncomputable abbrev I(i:Int):Value:= .int i 0
noncomputable abbrev N:Value:= .none
noncomputable abbrev U(v:Value):Option Value:=some v
noncomputable abbrev B:=BT.node
noncomputable abbrev L:=BT.nil
noncomputable abbrev tu(l:List Value):Obj:=⟨.type "tuple",none, .seq ⟨l⟩ 0,⟨[]⟩⟩
noncomputable abbrev fi(l:List Value):Obj:=⟨.none,none, .fields ⟨l⟩,⟨[]⟩⟩
noncomputable abbrev cd(n:Str)(t:Nat)(l a f:Int)(r8:Addr)(b:Bool)(WN:Addr)(WO WQ WR:Value)(t3:Int)(t4:Nat):Obj:=⟨.type WM,none, .fields ⟨[.str n t, .str n (t+1), .str UO (t+2),I l,I a,I 0,I 0,I f,R r8, .bool b,I 181,R WN,N,WO,WQ,WR,I t3,I l, .str UO t4]⟩,⟨[]⟩⟩
noncomputable def tp(p:Program)(i:Nat):Stmt:=p.main.body.getD i (.Pass ⟨0,0,0,0⟩)
noncomputable def b0(_:Program)(P:Params):Obj:=PySem.W.boot_o_0 P
noncomputable def b1(_:Program)(P:Params):Obj:=PySem.W.boot_o_1 P
noncomputable def b2(_:Program)(P:Params):Obj:=PySem.W.boot_o_2 P
noncomputable def b3(_:Program)(P:Params):Obj:=PySem.W.boot_o_3 P
noncomputable def b4(_:Program)(P:Params):Obj:=PySem.W.boot_o_4 P
noncomputable def b5(_:Program)(P:Params):Obj:=PySem.W.boot_o_5 P
noncomputable def b6(_:Program)(P:Params):Obj:=PySem.W.boot_o_6 P
noncomputable def b7(_:Program)(P:Params):Obj:=PySem.W.boot_o_7 P
noncomputable def b8(_:Program)(P:Params):Obj:=PySem.W.boot_o_8 P
noncomputable def b9(_:Program)(P:Params):Obj:=PySem.W.boot_o_9 P
noncomputable def UP(_:Program)(P:Params):Obj:=PySem.W.boot_o_10 P
noncomputable def UQ(p:Program)(P:Params):Obj:=tu []
noncomputable def UR(p:Program)(P:Params):Obj:=fi []
noncomputable def US(p:Program)(P:Params):Obj:=cd z0 182 1 0 0 11 false 12 N N N 185 186
noncomputable def UT(p:Program)(P:Params):Obj:=⟨(.type y0),none,.plain,⟨[U (R 13),U (R 3),U (R 3),none,U (.str z1 164),none,U (R 0)]⟩⟩
noncomputable def La(p:Program)(P:Params):List Obj:=[b0 p P,b1 p P,b2 p P,b3 p P,b4 p P,b5 p P,b6 p P,b7 p P,b8 p P,b9 p P,UP p P,UQ p P,UR p P,US p P,UT p P]
noncomputable def Ta(p:Program)(P:Params):BT:=(B (b0 p P) (B (b1 p P) (B (b3 p P) (B (b7 p P) L L) (B (UQ p P) L L)) (B (b5 p P) (B (b9 p P) L L) (B (US p P) L L))) (B (b2 p P) (B (b4 p P) (B (b8 p P) L L) (B (UR p P) L L)) (B (b6 p P) (B (UP p P) L L) (B (UT p P) L L))))
noncomputable def keep:List Nat:=[1,2,3,4,6,7,8,10,11,12,13,15,16,18,19,20,21,22,23,24,26,27,28,30,31,32,33,34,35,36,37,39,40,41,42,43,44,45,46,47,48,49,50,51,52,53,54,55,56,57]
noncomputable def loose:List Str:=[]
noncomputable def env(p:Program):Env:={scope:=p.main.scope,locals:=mainNs,globals:=mainNs,cells:=[],code:=(R 13),frame:=some 14}
noncomputable def cE(p:Program):Code:= .body (behindTheImports p) (env p)
noncomputable def qP:Pos:=⟨0,0,0,0⟩
noncomputable def pP:Pos:=⟨0,0,0,0⟩
noncomputable def bP:Pos:=⟨0,0,0,0⟩
noncomputable def fP:Pos:=⟨414,0,433,15⟩
noncomputable def an:Option Value:=(some (R 6))
noncomputable abbrev Nm:Nat:=57
noncomputable abbrev m0:Nat:=11
noncomputable abbrev Nn:Nat:=12
noncomputable abbrev Np:Nat:=1
noncomputable abbrev J_:Nat:=3705
noncomputable abbrev J':Nat:=2
noncomputable abbrev Ka:Nat:=8134
noncomputable abbrev nA:Nat:=15
noncomputable abbrev WS:Nat:=187
noncomputable abbrev WT:Nat:=187
end
end HD
namespace HD
open PySem PySem.W PyProof.Rows
noncomputable section
abbrev S0(w:World)(os:OsState):Shared:=⟨boot_heap w.params,⟨[]⟩,boot_drawn,boot_toks,os⟩
abbrev Sa(p:Program)(w:World)(os:OsState):Shared:=⟨⟨⟨La p w.params⟩,{}⟩,⟨[]⟩,{},WS,os⟩
abbrev Sb(p:Program)(w:World)(os:OsState):SharedT:=⟨Ta p w.params,nA,{},⟨[]⟩,{},WT,os⟩
abbrev q(p:Program):Program:=view p keep
abbrev Xt(p:Program)(R:WRecords):Shared→Bool:=fun s=>xlAt (q p) [] s&&recOk R s
theorem Nq(w:World)(os:OsState):topGo treeTable pq w m0 an Nn (S0 w os) (topStub pq)=some (Sa pq w os,⟨denote treeTable (cE pq),cE pq,pP,[topFrame qP]⟩):=by
 rewrite[Fast.te15667345088766844465,Fast.te14364793385576792824,Fast.te11892475500146522536];kernel_rfl
theorem Nr(w:World)(os:OsState):segRun treeTable pq w m0 an 1 Np (Sa pq w os) (blockOf (behindTheImports pq) (env pq) (cE pq) pP [topFrame qP])=some (.next,(Sb pq w os).abs,cE pq,bP):=by
 rewrite[Fast.te14374325043358763698,Fast.te14364793385576792824];kernel_rfl
def Rm(w:World)(os:OsState):=Fast.tw10110043849684766642 Fast.tw14364793385576792824 pq w m0 an 1 J_ (Sb pq w os) (piecesOf (behindTheImports pq) (env pq) (cE pq) bP [topFrame qP])
def Sm(w:World)(os:OsState):SharedT:=match Rm w os with|some (_,s,_,_)=>s|none=>Sb pq w os
theorem Nt(w:World)(os:OsState):segRunT treeTable pq w m0 an 1 J_ (Sb pq w os) (piecesOf (behindTheImports pq) (env pq) (cE pq) bP [topFrame qP])=some (.next,Sm w os,cE pq,fP):=by
 rewrite[Fast.te10110043849684766642,Fast.te14364793385576792824];kernel_rfl
def Rf(w:World)(os:OsState):=Fast.tw14082659384304107361 Fast.tw14364793385576792824 pq w m0 an J' (Sm w os).abs ⟨doneF .next,cE pq,fP,[topFrame qP]⟩
def Sf(w:World)(os:OsState):Shared:=match Rf w os with|some s=>s|none=>S0 w os
theorem Nu(w:World)(os:OsState):topRun treeTable pq w m0 an J' (Sm w os).abs ⟨doneF .next,cE pq,fP,[topFrame qP]⟩=some (Sf w os):=by
 rewrite[Fast.te14082659384304107361,Fast.te14364793385576792824];kernel_rfl
theorem Kb(w:World):((boot_heap w.params).isNs mainGlobals&&(⟨[]⟩:Array GenState).size==0,(boot_heap w.params).objs.size,(boot_heap w.params).nsMap mainGlobals "__annotations__")=(true,m0,an):=by
 rewrite[Fast.te8920871248978507458];kernel_rfl
theorem Kc:∀w:World,(fencedOpening treeTable pq w Ka).map (fun s=>(s.heap,s.gens,s.drawn,s.toks))=some (boot_heap w.params,⟨[]⟩,boot_drawn,boot_toks):=
 boot_open (by kernel_rfl) (by kernel_rfl) (fun s=>by kernel_rfl)
theorem Nv(w:World)(os:OsState):topRun treeTable pq w m0 an (Nn+(Np+(J_+J'))) (S0 w os) (topStub pq)=some (Sf w os):=by
 refine go_top (Nq w os) (piece_block (Nr w os) ?_);have h:=piece_app (rest:=[]) (segRun_of (Nt w os)) (piece_nil (env:=env pq) (Nu w os));rw[List.append_nil]at h;exact h
theorem D8(w:World)(os:OsState):
 (staticsOk (importedModules pq.main.body) (boot_heap w.params) (Sf w os).heap&&namesBound pq (Sf w os).heap&&gensDone (Sf w os)&&laidKept (boot_heap w.params) (Sf w os).heap)=true
 ∧seen ((recsOf (q pq)).map (·.name)) (ownsOf (q pq)) [] {Sf w os with gens:=#[]}=expectedOf (q pq)
 ∧(Sf w os).heap.bltView=bltViewBooted:=by
 refine⟨?_,?_,?_⟩
 ·rewrite[Fast.te5923862056798008813];kernel_rfl
 ·rewrite[Fast.te5160383126252970620,Fast.te3399658132070893891,Fast.te5991557255702980513];kernel_rfl
 ·kernel_rfl
theorem Kd(w:World)(os:OsState):
 ((Sf w os).heap.keysOk (looseW (q pq) loose) ((recsOf (q pq)).map (·.name)) ((litsOf (q pq)).map (·.1)) ((clssOf (q pq) (looseW (q pq) loose)).map (·.name))&&(Sf w os).heap.accountedOkI (importedModules pq.main.body)&&(Sf w os).heap.isNs mainGlobals&&(Sf w os).heap.isNs builtinsNs&&tablesOk (q pq) (Sf w os).heap&&Xt pq [] (Sf w os)&&(if true then(Sf w os).gens.size==0 else !leftWithCleanup (Sf w os).gens))=true:=by
 rewrite[Fast.te10880121769531294198,Fast.te821141287760084731,Fast.te3399658132070893891,Fast.te7409074990110511671,Fast.te13664370479719496447,Fast.te14722251495701143533,Fast.te5923862056798008813,Fast.te10994771534591457954];kernel_rfl
theorem Ke(w:World)(os:OsState):
 tabsOk (q pq) (Sf w os)=true
 ∧pinSeenD (q pq) (drecsOf (q pq)) (Sf w os)=pinGoodD (drecsOf (q pq))
 ∧plainSeenE (q pq) (looseW (q pq) loose) (Sf w os)=plainGoodE (q pq) (looseW (q pq) loose)
 ∧plainSeenD (q pq) loose (Sf w os)=plainGoodD (q pq) loose
 ∧wideSeen (q pq) (Sf w os)=wideGood (q pq)
 ∧clsSeenW (q pq) loose (Sf w os)=clsGoodW (q pq) loose:=by
 refine⟨?_,?_,?_,?_,?_,?_⟩
 ·rewrite[Fast.te479339242167458305];kernel_rfl
 ·rewrite[Fast.te16090120013241838585,Fast.te3247288618530077131];kernel_rfl
 ·rewrite[Fast.te2386780881361962483,Fast.te821141287760084731];kernel_rfl
 ·rewrite[Fast.te11698064438423848299];kernel_rfl
 ·rewrite[Fast.te7317090234206586261];kernel_rfl
 ·rewrite[Fast.te7369524293546568484];kernel_rfl
theorem lx{p q:Program}{lo:List Str}{Xt:Shared→Bool}{α:Type}{Yf:Shared→α}{a:α}{w:World}{N M n:Nat}{h:Heap}{gs:Array GenState}{dr:Drawn}{k:Nat}{an:Option Value}{g:OsState→Shared}
  (o:(fencedOpening treeTable p w N).map (fun s=>(s.heap,s.gens,s.drawn,s.toks))=some (h,gs,dr,k)) (z:(h.isNs mainGlobals&&gs.size==0,h.objs.size,h.nsMap mainGlobals "__annotations__")=(true,n,an))
  (r:∀os,topRun treeTable p w n an M ⟨h,gs,dr,k,os⟩ (topStub p)=some (g os)) (le:M≤N) (x1:∀os,(staticsOk (importedModules p.main.body) h (g os).heap&&namesBound p (g os).heap&&gensDone (g os)&&laidKept h (g os).heap)=true)
  (x2:∀os,openSeen q lo (importedModules p.main.body) Xt true (g os)=openGood q lo) (x3:∀os,Yf (g os)=a):(openEnds treeTable p w N).map (fun s=>(openSeen q lo (importedModules p.main.body) Xt true s,Yf s))=some (openGood q lo,a):=by
 obtain⟨⟨h,gs,dr,k,os⟩,e1,e2⟩:=Option.map_eq_some_iff.mp o;cases e2;obtain⟨y1,y2⟩:=Prod.mk.inj z;obtain⟨y2,y3⟩:=Prod.mk.inj y2;have t:=topRun_mono (N-M) _ _ _ _ (r os);rw[Nat.add_sub_cancel' le]at t;have f:topFrom treeTable p w N ⟨h,gs,dr,k,os⟩=some (g os):=by
  unfold topFrom;dsimp only;rw[y1,y2,y3,t];show(match staticsOk _ h (g os).heap&&namesBound p (g os).heap&&gensDone (g os)&&laidKept h (g os).heap with|true=>_|false=>_)=_;rw[x1 os]
 unfold openEnds;rw[e1,Option.bind_some,f];exact congrArg some (Prod.ext (x2 os) (x3 os))
theorem left(p:Program)(e:p=pq)(H:Hook)(hk:∀w os,H.obs (Sf w os)=H.val w):LeftO p (q p) loose (Xt p []) H.obs H.val Ka:=by
 subst e;intro w;exact lx (g:=Sf w) (Kc w) (Kb w) (Nv w) (Sz) (fun os=>(D8 w os).1) (fun os=>let ⟨_,x2,x3⟩:=D8 w os;let ⟨x5,x6,x7,x8,x9,x0⟩:=Ke w os;looks_pair x2 (looks_pair x3 (looks_pair (Kd w os) (looks_pair x5 (looks_pair x6 (looks_pair x7 (looks_pair x8 (looks_pair x9 x0)))))))) (hk w)
def d:DefRec:=match tp pw Nm with
 | .FunctionDef n a b _ _ _ sc _ _ ps=>⟨n,a,b,sc,ps⟩
 | _=>⟨Str.empty,default,[],default,default⟩
end
end HD
namespace HD
theorem ws:PySem.W.OpenLaw.wellSaid PySem.Challenge.rw_quotefind_k22_exchanged=true:=by
 rewrite[PySem.W.Fast.te9446332074065402090];kernel_rfl
end HD
namespace L2
open PySem PySem.Spec PyProof.Rows
abbrev Key:=Sum Int Str
def vE:Key→Value→Bool
 | .inl k,v=>Value.isInt k v
 | .inr x,v=>Value.isStrOf x v
def Rt(w:World):Key→Int
 | .inl k=>hashInt k
 | .inr x=>hashStr w x
theorem cW:∀{k:Key}{v:Value},vE k v=true→(∃i t,k=Sum.inl i∧v=Value.int i t)∨(∃x t,k=Sum.inr x∧v=Value.str x t)
 | .inl i,v,h=>by
  obtain⟨t,e⟩:=Value.isInt_shape (k:=i) (v:=v) h;exact .inl ⟨i,t,rfl,e⟩
 | .inr x,v,h=>by
  obtain⟨t,e⟩:=Value.isStrOf_shape (x:=x) (v:=v) h;exact .inr ⟨x,t,rfl,e⟩
theorem Cp(i:Int)(t:Tok):vE (.inl i) (.int i t)=true:=by simp[vE,Value.isInt]
theorem Cq(x:Str)(t:Tok):vE (.inr x) (.str x t)=true:=by simp[vE,Value.isStrOf]
theorem Kf(a b:Int):decide ((Sum.inl a:Key)=Sum.inl b)=(a==b):=by
 by_cases e:a=b
 ·subst e;simp
 ·have h:¬(Sum.inl a:Key)=Sum.inl b:=fun q=>e (Sum.inl.inj q)
  rw[decide_eq_false h];exact(beq_eq_false_iff_ne.mpr e).symm
theorem Kg(a b:Str):decide ((Sum.inr a:Key)=Sum.inr b)=decide (a=b):=by
 by_cases e:a=b
 ·subst e;simp
 ·have h:¬(Sum.inr a:Key)=Sum.inr b:=fun q=>e (Sum.inr.inj q)
  rw[decide_eq_false h,decide_eq_false e]
theorem Kh(a:Int)(b:Str):decide ((Sum.inl a:Key)=Sum.inr b)=false:=decide_eq_false (fun q=>nomatch q)
theorem Ki(a:Str)(b:Int):decide ((Sum.inr a:Key)=Sum.inl b)=false:=decide_eq_false (fun q=>nomatch q)
def cX(prog:Program)(w:World):PySem.KeyKind prog w Key where
 is:=vE
 hash:=Rt w
 inj:=fun v a b ha hb=>by
  rcases cW ha with⟨i,t,rfl,rfl⟩|⟨x,t,rfl,rfl⟩
  ·rcases cW hb with⟨j,u,rfl,e⟩|⟨y,u,rfl,e⟩
   ·injection e with e1 _;rw[e1]
   ·exact nomatch e
  ·rcases cW hb with⟨j,u,rfl,e⟩|⟨y,u,rfl,e⟩
   ·exact nomatch e
   ·injection e with e1 _;rw[e1]
 byValue:=fun k v h=>by
  rcases cW h with⟨i,t,rfl,rfl⟩|⟨x,t,rfl,rfl⟩<;>rfl
 pyHash:=fun hv h=>by
  rcases cW hv with⟨i,t,rfl,rfl⟩|⟨x,t,rfl,rfl⟩
  ·exact wpAny_pyHash_int h
  ·exact wpAny_pyHash_str h
 eqBool:=fun hu hv h=>by
  rcases cW hu with⟨i,t,rfl,rfl⟩|⟨x,t,rfl,rfl⟩
  ·rcases cW hv with⟨j,u,rfl,rfl⟩|⟨y,u,rfl,rfl⟩
   ·rw[Kf]at h;exact wpAny_eqBool_int h
   ·rw[Kh]at h;exact SeqAt.EqAt.int_str i t y u _ _ _ _ h
  ·rcases cW hv with⟨j,u,rfl,rfl⟩|⟨y,u,rfl,rfl⟩
   ·rw[Ki]at h;exact SeqAt.EqAt.str_int x t j u _ _ _ _ h
   ·rw[Kg]at h;exact wpAny_eqBool_str h
 «strs»:=fun k x t v h=>by
  rcases cW h with⟨i,u,rfl,e⟩|⟨y,u,rfl,e⟩
  ·exact nomatch e
  ·injection e with e1 _;subst e1;cases v<;>rfl
theorem yy(prog:Program)(w:World)(i:Int)(t:Tok):(cX prog w).is (.inl i) (.int i t)=true:=Cp i t
theorem yz(prog:Program)(w:World)(x:Str)(t:Tok):(cX prog w).is (.inr x) (.str x t)=true:=Cq x t
inductive V where
 |cL|bl (b:Bool)|int (i:Int)|str (x:Str)|Cr (b:Array UInt8)|I_ (b:UInt64)|ref (a:Addr)|ty (n:String)
 deriving DecidableEq
def RelV:V→Value→Prop
 | .cL,u=>u=Value.none
 | .bl b,u=>u=Value.bool b
 | .int i,u=>∃t,u=Value.int i t
 | .str x,u=>∃t,u=Value.str x t
 | .Cr b,u=>∃t,u=Value.bytes b t
 | .I_ b,u=>∃t,u=Value.float b t
 | .ref a,u=>u=Value.ref a
 | .ty n,u=>u=Value.type n
abbrev Vals:List V→List Value→Prop:=Paired RelV
theorem Vals.length{xs:List V}{us:List Value}(r:Vals xs us):xs.length=us.length:=Paired.length r
theorem Vals.get:∀{xs:List V}{us:List Value}{i:Nat}{x:V},Vals xs us→xs[i]?=some x→∃u,us[i]?=some u∧RelV x u
 | _,_,_,_, .nil,e=>by simp at e
 | _,_,0,_, .cons r _,e=>by simp at e;subst e;exact⟨_,rfl,r⟩
 | _,_,i+1,x, .cons _ t,e=>by
  obtain⟨u,h1,h2⟩:=Vals.get (i:=i) (x:=x) t (by simpa using e);exact⟨u,by simpa using h1,h2⟩
theorem Vals.set{x:V}{u:Value}(r:RelV x u):∀{xs:List V}{us:List Value}(i:Nat),Vals xs us→Vals (xs.set i x) (us.set i u)
 | _,_,_, .nil=> .nil
 | _,_,0, .cons _ t=> .cons r t
 | _,_,i+1, .cons q t=> .cons q (Vals.set r i t)
theorem Vals.append:∀{xs ys:List V}{us ws:List Value},Vals xs us→Vals ys ws→Vals (xs++ys) (us++ws)
 | _,_,_,_, .nil,s=>s
 | _,_,_,_, .cons r t,s=> .cons r (Vals.append t s)
theorem Vals.take:∀{xs:List V}{us:List Value}(n:Nat),Vals xs us→Vals (xs.take n) (us.take n)
 | _,_,0,_=> .nil
 | _,_,_+1, .nil=> .nil
 | _,_,n+1, .cons r t=> .cons r (Vals.take n t)
theorem Vals.drop:∀{xs:List V}{us:List Value}(n:Nat),Vals xs us→Vals (xs.drop n) (us.drop n)
 | _,_,0,r=>r
 | _,_,_+1, .nil=> .nil
 | _,_,n+1, .cons _ t=>Vals.drop n t
def kD:Option V→Option Value→Prop
 |some v,some u=>RelV v u
 |none,none=>True
 | _,_=>False
def KV{κ:Type}:List (κ×V)→List (κ×Value)→Prop:=Paired fun(p:κ×V)(q:κ×Value)=>p.1=q.1∧RelV p.2 q.2
def kV:Key→V
 | .inl i=> .int i
 | .inr x=> .str x
inductive HO where
 |lst (xs:List V)
 |tup (xs:List V)
 |dK (kvs:List (Key×V))|dT (kvs:List (List Key×V))
 |set (S:Int→Bool) (n:Nat)
 |ins (C dx:Addr) (fs:List (Str×V))
 |own (x:Addr)
 |xd (fs:List (Str×V))
 |met (f x:Addr)
 |Qf (lo hi:Int)
 |sJ (o:Obj) (u:HO)
 |GY (ps:Array Value)
 |ext (φ:Heap→Prop)
abbrev Hp:=Addr→Option HO
def upd(H:Hp)(a:Addr)(o:HO):Hp:=fun b=>if b=a then some o else H b
theorem ae{H:Hp}{a:Addr}{o:HO}:upd H a o a=some o:=by unfold upd;rw[if_pos rfl]
theorem ak{H:Hp}{a b:Addr}{o:HO}(h:b≠a):upd H a o b=H b:=by unfold upd;rw[Dy h]
theorem f9{H:Hp}{a:Addr}{o u:HO}:upd (upd H a o) a u=upd H a u:=by
 funext b;unfold upd;split<;>rfl
theorem ja{H:Hp}{a b:Addr}{o u:HO}(h:H a=some o)(h':H b=some u)(d:o≠u):a≠b:=by
 intro e;subst e;rw[h]at h';exact d (YA h')
theorem aE{H:Hp}{a b:Addr}{o:HO}(h:H a=some o)(h':H b=none):a≠b:=by
 intro e;subst e;rw[h]at h';cases h'
section
variable(P:Program)(w:World)
def cO(H:Hp)(h:Heap)(a:Addr):HO→Prop
 | .lst xs=>xs.length≤sizeLine∧∃(its:List Value)(n:Nat),Vals xs its∧h.get? a=some {cls:= .type "list",data:= .seq its.toArray n}
 | .tup xs=>xs.length≤sizeLine∧∃its:List Value,Vals xs its∧IsTup h a its.toArray
 | .dK kvs=>kvs.length≤sizeLine∧(a==sysModules)=false∧∃vs,KV kvs vs∧h.DictOf (cX P w) a vs
 | .dT kvs=>kvs.length≤sizeLine∧(a==sysModules)=false∧∃xs:List (List Key×Addr×Value),
   Paired (fun(p:List Key×V)(q:List Key×Addr×Value)=>p.1=q.1∧H q.2.1=some (.tup (p.1.map kV))∧RelV p.2 q.2.2) kvs xs∧
   ∃o es ep,h.get? a=some o∧o.ExactDict∧o.data= .dict es ep∧es.toList=xs.map (entryOfKey (tupleKind (cX P w)))∧(xs.map (·.1)).Nodup
 | .set S n=>h.SetOf (intKind P w) a S n
 | .ins C dx fs=>H dx=some (.own a)∧fs.length≤1000∧dx≠a∧h.get? a=some (PySem.W.instObj C dx)∧
   ∃mA,h.Ns1 dx mA∧(∀f,kD (fs.lookup f) (mA f))∧PySem.Within mA (fs.map (·.1))
 | .own _=>∃o,h.get? a=some o
 | .xd fs=>∃mA,h.Ns1 a mA∧∀f,kD (fs.lookup f) (mA f)
 | .Qf lo hi=>∃t u v,h.get? a=some {cls:= .type "range",data:= .fields #[.int lo t, .int hi u, .int 1 v]}
 | .sJ o u=>h.get? a=some o∧cO H h a u
 | .GY ps=>h.get? a=some {cls:= .none,data:= .fields ps}
 | .met f x=>h.get? a=some (PySem.W.methodObj (.ref f) (.ref x))
 | .ext φ=>φ h∧(∃o,h.get? a=some o)∧∀h1 h2:Heap,φ h1→(∀o,h1.get? a=some o→h2.get? a=some o)→φ h2
def lI(H:Hp)(h:Heap):Prop:=∀a o,H a=some o→cO P w H h a o
end
section
variable{P:Program}{w:World}{H H':Hp}{h h':Heap}{a:Addr}{o:HO}
theorem cO.lt(x:cO P w H h a o):a<h.objs.size:=by
 cases o with
 |lst xs=>obtain⟨_,_,_,_,e⟩:=x;exact Z9 e
 |tup xs=>obtain⟨_,_,_,p⟩:=x;exact p.lt
 |dK kvs=>obtain⟨_,_,_,_,o,_,_,e,_⟩:=x;exact Z9 e
 |dT kvs=>obtain⟨_,_,_,_,o,_,_,e,_⟩:=x;exact Z9 e
 |set S n=>obtain⟨o,_,_,_,e,_⟩:=x;exact Z9 e
 |ins C dx fs=>obtain⟨_,_,_,e,_⟩:=x;exact Z9 e
 |own y=>obtain⟨_,e⟩:=x;exact Z9 e
 |xd fs=>obtain⟨_,⟨_,_,_,e,_⟩,_⟩:=x;exact Z9 e
 |Qf lo hi=>obtain⟨_,_,_,e⟩:=x;exact Z9 e
 |sJ ob u=>obtain⟨e,_⟩:=x;exact Z9 e
 |GY ps=>exact Z9 (show h.get? a=some _ from x)
 |met f y=>exact Z9 (show h.get? a=some _ from x)
 |ext φ=>obtain⟨_,⟨_,e⟩,_⟩:=x;exact Z9 e
theorem Paired.Kj{α β:Type}{F G:α→β→Prop}:∀{Nw:List α}{Nx:List β},Paired F Nw Nx→(∀a b,F a b→G a b)→Paired G Nw Nx
 | _,_, .nil,_=> .nil
 | _,_, .cons r t,f=> .cons (f _ _ r) (Paired.Kj t f)
theorem cO.wB(x:cO P w H h a o)(k:∀b u,(b=a∨H b=some (.own a))→h.get? b=some u→h'.get? b=some u)
  (ho:∀b,H b=some (.own a)→H' b=some (.own a)) (ht:∀b xs,H b=some (.tup xs)→H' b=some (.tup xs)):cO P w H' h' a o:=by
 induction o with
 |lst xs=>obtain⟨z,its,n,r,e⟩:=x;exact⟨z,its,n,r,k _ _ (.inl rfl) e⟩
 |tup xs=>obtain⟨z,its,r,ob,e,c⟩:=x;exact⟨z,its,r,ob,k _ _ (.inl rfl) e,c⟩
 |dK kvs=>obtain⟨z,y,vs,r,ob,es,ep,e,c⟩:=x;exact⟨z,y,vs,r,ob,es,ep,k _ _ (.inl rfl) e,c⟩
 |dT kvs=>
  obtain⟨z,y,xs,r,ob,es,ep,e,c⟩:=x;exact⟨z,y,xs,Paired.Kj r fun p q z=>⟨z.1,ht _ _ z.2.1,z.2.2⟩,ob,es,ep,k _ _ (.inl rfl) e,c⟩
 |set S n=>obtain⟨ob,es,ep,t,e,c⟩:=x;exact⟨ob,es,ep,t,k _ _ (.inl rfl) e,c⟩
 |ins C dx fs=>
  obtain⟨d,z,ne,e,mA,⟨od,es,ep,e2,c⟩,r⟩:=x;exact⟨ho _ d,z,ne,k _ _ (.inl rfl) e,mA,⟨od,es,ep,k _ _ (.inr d) e2,c⟩,r⟩
 |own y=>obtain⟨ob,e⟩:=x;exact⟨ob,k _ _ (.inl rfl) e⟩
 |xd fs=>obtain⟨mA,⟨od,es,ep,e,c⟩,r⟩:=x;exact⟨mA,⟨od,es,ep,k _ _ (.inl rfl) e,c⟩,r⟩
 |Qf lo hi=>obtain⟨t,u,v,e⟩:=x;exact⟨t,u,v,k _ _ (.inl rfl) e⟩
 |sJ ob u ih=>obtain⟨e,q⟩:=x;exact⟨k _ _ (.inl rfl) e,ih q⟩
 |GY ps=>
  have e:h.get? a=some {cls:= .none,data:= .fields ps}:=x;show h'.get? a=some {cls:= .none,data:= .fields ps};exact k a _ (.inl rfl) e
 |met f y=>
  have e:h.get? a=some (PySem.W.methodObj (.ref f) (.ref y)):=x;show h'.get? a=some (PySem.W.methodObj (.ref f) (.ref y));exact k a _ (.inl rfl) e
 |ext φ=>obtain⟨p,⟨o,e⟩,st⟩:=x;exact⟨st _ _ p fun o q=>k _ _ (.inl rfl) q,⟨o,k _ _ (.inl rfl) e⟩,st⟩
theorem lI.lt(x:lI P w H h)(e:H a=some o):a<h.objs.size:=(x a o e).lt
theorem lI.fresh(x:lI P w H h)(e:h.objs.size≤a):H a=none:=by
 cases q:H a with
 |none=>rfl
 |some u=>exact X7 (Θ (x.lt q) e) (Nat.lt_irrefl _)
theorem lI.kept(x:lI P w H h)(k:∀b u,h.get? b=some u→h'.get? b=some u):lI P w H h':=fun a o e=>
 (x a o e).wB (fun b u _ q=>k b u q) (fun _ q=>q) fun _ _ q=>q
theorem lI.laid(x:lI P w H h)(k:∀b u,h.get? b=some u→h'.get? b=some u)(hp:h.objs.size≤a)(new:cO P w (upd H a o) h' a o):lI P w (upd H a o) h':=fun b u e=>by
 have hn:=x.fresh hp;by_cases hb:b=a
 ·subst hb;rw[ae]at e;cases e;exact new
 ·rw[ak hb]at e;exact(x b u e).wB (fun c v _ q=>k c v q) (fun c q=>by rw[ak (aE q hn)];exact q) fun c xs q=>by rw[ak (aE q hn)];exact q
end
def Rd(H:Hp)(a:Addr)(u:HO):Prop:=H a=some u∨∃o,H a=some (.sJ o u)
theorem Rd.of{H:Hp}{a:Addr}{u:HO}(h:H a=some u):Rd H a u:= .inl h
theorem Rd.ok{P:Program}{w:World}{H:Hp}{h:Heap}{a:Addr}{u:HO}(r:Rd H a u)(x:lI P w H h):cO P w H h a u:=by
 rcases r with r|⟨o,r⟩
 ·exact x a u r
 ·obtain⟨_,q⟩:=x a _ r;exact q
def Ny:Option HO→Prop
 |some (.lst _)=>True
 |some (.dK _)=>True
 |some (.dT _)=>True
 |some (.set _ _)=>True
 |some (.ins _ _ _)=>True
 |some (.ext _)=>True
 | _=>False
section
variable{P:Program}{w:World}{H:Hp}{h h':Heap}{x e:Addr}{o':HO}
theorem lI.write(ok:lI P w H h)(mu:Ny (H x))(he:e=x∨H e=some (.own x))(k:∀b u,b≠e→h.get? b=some u→h'.get? b=some u)(ME:∃u,h'.get? e=some u)
  (new:cO P w (upd H x o') h' x o'):lI P w (upd H x o') h':=fun b u q=>by
 have Nz:∀c y,H c=some (.own y)→c≠x:=fun c y r z=>by subst z;rw[r]at mu;exact mu
 have Ru:∀c xs,H c=some (.tup xs)→c≠x:=fun c xs r z=>by subst z;rw[r]at mu;exact mu
 by_cases hb:b=x
 ·subst hb;rw[ae]at q;cases q;exact new
 ·rw[ak hb]at q;by_cases Kk:b=e
  ·have q':H b=some (.own x):=by
    rcases he with z|z
    ·exact X7 (Kk.trans z) hb
    ·rw[Kk];exact z
   rw[q]at q';cases q';obtain⟨v,hv⟩:=ME;exact⟨v,by rw[Kk];exact hv⟩
  ·refine(ok b u q).wB (fun c v hc r=>k c v ?_ r) (fun c r=>by rw[ak (Nz c b r)];exact r) fun c xs r=>by rw[ak (Ru c xs r)];exact r
   rcases hc with rfl|hc
   ·exact Kk
   ·rintro rfl;rcases he with z|z
    ·exact Nz c b hc z
    ·rw[hc]at z;cases z;exact hb rfl
end
structure Un(fs ex:List Addr)(H H':Hp)(h h':Heap):Prop where
 keep:∀b o,h.get? b=some o→H b=none→b∉fs→b∉ex→h'.get? b=some o
 slot:∀b o,h.get? b=some o→H b=none→b∈fs→b∉ex→∃sl,h'.get? b=some {o with slots:=sl}
 free:∀b o,h.get? b=some o→H b=none→b∉ex→H' b=none
 there:∀b o,h.get? b=some o→b∉ex→∃o',h'.get? b=some o'
 cb:∀b xs,H b=some (.tup xs)→H' b=some (.tup xs)
 oE:∀b o u,H b=some (.sJ o u)→H' b=some (.sJ o u)
 rT:∀b ps,H b=some (.GY ps)→∃more,H' b=some (.GY (ps++more))
section
variable{fs WU ex aah:List Addr}{H H1 H2:Hp}{h h1 h2 h':Heap}{a x e:Addr}{o:HO}
theorem Un.any(u:Un fs ex H H1 h h1){b:Addr}{ob:Obj}(q:h.get? b=some ob)(n:H b=none)(hx:b∉ex):∃sl,h1.get? b=some {ob with slots:=sl}:=by
 by_cases hb:b∈fs
 ·exact u.slot b ob q n hb hx
 ·exact⟨ob.slots,u.keep b ob q n hb hx⟩
theorem Un.kept(k:∀b u,h.get? b=some u→h'.get? b=some u):Un fs ex H H h h':=
 ⟨fun b ob q _ _ _=>k b ob q,fun b ob q _ _ _=>⟨ob.slots,k b ob q⟩,fun _ _ _ n _=>n,fun b ob q _=>⟨ob,k b ob q⟩,fun _ _ q=>q,fun _ _ _ q=>q,fun _ ps q=>⟨#[],by rw[q];simp⟩⟩
theorem Un.refl:Un fs ex H H h h:=Un.kept fun _ _ q=>q
theorem Un.laid(k:∀b u,h.get? b=some u→h'.get? b=some u)(hp:h.objs.size≤a)(hn:H a=none):Un fs ex H (upd H a o) h h' where
 keep:=fun b u q _ _ _=>k b u q
 slot:=fun b u q _ _ _=>⟨u.slots,k b u q⟩
 free:=fun b u q n _=>by rw[ak (ZS (Θ (Z9 q) hp))];exact n
 there:=fun b u q _=>⟨u,k b u q⟩
 cb:=fun b xs q=>by rw[ak (aE q hn)];exact q
 oE:=fun b u xs q=>by rw[ak (aE q hn)];exact q
 rT:=fun b ps q=>⟨#[],by rw[ak (aE q hn),q];simp⟩
theorem Un.write(mu:Ny (H x))(he:e=x∨H e=some (.own x))(k:∀b u,b≠e→h.get? b=some u→h'.get? b=some u)(ME:∃u,h'.get? e=some u):Un fs ex H (upd H x o) h h':=by
 have hx:∀b,H b=none→b≠x:=fun b n z=>by subst z;rw[n]at mu;exact mu
 have hb:∀b,H b=none→b≠e:=fun b n z=>by
  subst z;rcases he with r|r
  ·exact hx b n r
  ·rw[n]at r;cases r
 have hm:∀b u,H b=some u→¬Ny (some u)→b≠x:=fun b u q nm z=>by subst z;rw[q]at mu;exact nm mu
 refine⟨fun b u q n _ _=>k b u (hb b n) q,fun b u q n _ _=>⟨u.slots,k b u (hb b n) q⟩,fun b u q n _=>by rw[ak (hx b n)];exact n,fun b u q _=>?_,
  fun b xs q=>by rw[ak (hm b _ q fun z=>z)];exact q,fun b u xs q=>by rw[ak (hm b _ q fun z=>z)];exact q,fun b ps q=>⟨#[],by rw[ak (hm b _ q fun z=>z),q];simp⟩⟩
 by_cases Kk:b=e
 ·subst Kk;exact ME
 ·exact⟨u,k b u Kk q⟩
end
def Qg(h:Heap)(H:Hp):List Addr:=(Z6 h.objs.size).filter fun a=>(H a).isSome
def wC(h:Heap)(H:Hp):Heap:=PySem.W.hideAll h (Qg h H)
theorem Cs(h:Heap)(H:Hp):(wC h H).objs.size=h.objs.size:=PySem.W.hideAll_size _ _
theorem D9{h:Heap}{H:Hp}{b:Addr}{o:Obj}(e:h.get? b=some o)(n:H b=none):(wC h H).get? b=some o:=
 PySem.W.hideAll_get _ e fun hm=>by
  have q:(H b).isSome=true:=(List.mem_filter.mp hm).2;rw[n]at q;simp at q
theorem GZ{h:Heap}{H:Hp}{b:Addr}{o:Obj}(e:(wC h H).get? b=some o):h.get? b=some o∧H b=none:=by
 have e':h.get? b=some o:=PySem.W.of_hideAll (Qg h H) e;refine⟨e',?_⟩;cases q:H b with
 |none=>rfl
 |some x=>
  have hm:b∈Qg h H:=List.mem_filter.mpr ⟨List.mem_range.mpr (Z9 e'),by simp[q]⟩;have z:(wC h H).get? b=none:=PySem.W.hideAll_none (Qg h H) hm;rw[z]at e;cases e
def G0(g h:Heap)(L:Addr):List (Addr×Obj):=(Z6 h.objs.size).filterMap fun a=>if a=L∨(g.get? a).isSome=true then none else(h.get? a).map fun o=>(a,o)
def rest(g h:Heap)(L d:Addr):List (Addr×Obj):=(G0 g h L).filter fun p=>decide (p.1≠d)
structure Mod(K:PySem.W.Frag)(mg:Str→Option Value)(base:Heap):Prop where
 MF:K.In base
 glob:base.Ns mainGlobals mg
 blt:∃mb,base.Ns builtinsNs mb∧∀x:Str,x≠"__name__"→mb x=bootBuiltins x
 nolimit:base.NoLimit
structure Cx where
 prog:Program
 w:World
 K:PySem.W.Frag
 mg:Str→Option Value
 base:Heap
 A:Around
 N:List Str
 dA:Shared
 eY:Hp
 env:Env
 outer:List Env
 stack:List Env
 ex:List Addr
 fn:Str→Bool
 calm:Bool
 pn:List (Addr×Obj)
 xe:Value→Shared→Prop
def oA(l:List Env):List Addr:=l.filterMap (·.frame)
abbrev Cx.fs(X:Cx):List Addr:=oA X.outer
def Rv(sc:Scope)(x:Str):Prop:=sc.names.lookup x=some .local∨sc.names.lookup x=some .cell∨sc.names.lookup x=some .free
def Loc(sc:Scope)(x:Str):Prop:=sc.names.lookup x=some .local∨sc.names.lookup x=some .cell
def Look(env:Env)(h:Heap)(m:Str→Option Value)(x:Str)(u:Value):Prop:=
 (env.kindOf x=some .local∧m x=some u)∨((env.kindOf x=some .cell∨env.kindOf x=some .free)∧∃c,env.cells.lookup x=some c∧h.IsCell c (some u))
structure Cx.Ok(X:Cx):Prop where
 mod:Mod X.K X.mg X.base
 kind:X.env.scope.kind= .function
 glob:X.env.globals=mainGlobals
 blt:X.env.builtins=builtinsNs
 above:X.dA.heap.objs.size≤X.env.locals
 inj:∀x y c,X.env.cells.lookup x=some c→X.env.cells.lookup y=some c→x=y
 has:∀x,(X.env.kindOf x=some .cell∨X.env.kindOf x=some .free)→∃c,X.env.cells.lookup x=some c
 Rw:∀x c,X.fn x=true→X.env.cells.lookup x=some c→X.dA.heap.objs.size≤c
 hd:X.calm=true→X.A.handled=none
 frames:X.A.frames=some X.stack
 UU:X.stack=X.outer∨(X.stack=X.env::X.outer∧X.env.frame=some X.env.locals)
 aaW:∀b∈X.ex,b≠X.env.locals∧∀x c,X.env.cells.lookup x=some c→c≠b
 bs:∀b o,X.base.get? b=some o→X.dA.heap.get? b=some o∧X.eY b=none
 Kl:X.base.objs.size≤X.dA.heap.objs.size
 Km:∀b o,X.base.get? b=some o→b∉X.ex
 NA:∀b∈X.ex,b∉X.fs
 uO:X.dA.heap.FunFrames X.base X.outer
 NB:∀b∈X.fs,X.eY b=none
structure Inv(X:Cx)(pins:List (Addr×Obj))(σ:List (Option V))(H:Hp)(s:Shared):Prop where
 ok:X.Ok
 os:s.os=X.dA.os
 bare:AllBare s.gens
 base:Un X.fs X.ex X.eY H X.dA.heap s.heap
 loc:∃m,s.heap.Ns X.env.locals m∧∀(i:Nat)(x:Str)(v:V),X.N[i]?=some x→σ[i]?=some (some v)→Rv X.env.scope x→∃u,RelV v u∧Look X.env s.heap m x u
 cell:∀x c,X.env.cells.lookup x=some c→∃v,s.heap.IsCell c v
 free:H X.env.locals=none
 mW:∀x c,X.env.cells.lookup x=some c→H c=none
 pin:∀p∈X.pn++pins,s.heap.get? p.1=some p.2∧H p.1=none∧p.1≠X.env.locals∧p.1∉X.fs∧∀v,p.2.data≠ .cell v
 bS:lI X.prog X.w H s.heap
 len:σ.length=X.N.length
section
variable{X:Cx}{pins:List (Addr×Obj)}{σ:List (Option V)}{H H':Hp}{s:Shared}{h':Heap}
theorem Cx.Ok.Rx(ok:X.Ok){b:Addr}{o:Obj}(e:X.base.get? b=some o):b∉X.fs:=fun hb=>by
 have:=(ok.uO.mem hb).1;rw[e]at this;cases this
theorem Inv.bs(I:Inv X pins σ H s):∀b o,X.base.get? b=some o→s.heap.get? b=some o∧H b=none:=fun b o e=>
 ⟨I.base.keep b o (I.ok.bs b o e).1 (I.ok.bs b o e).2 (I.ok.Rx e) (I.ok.Km b o e),I.base.free b o (I.ok.bs b o e).1 (I.ok.bs b o e).2 (I.ok.Km b o e)⟩
theorem Inv.bk(I:Inv X pins σ H s):∀b o,X.base.get? b=some o→s.heap.get? b=some o:=fun b o e=>(I.bs b o e).1
theorem Inv.mod(I:Inv X pins σ H s):Mod X.K X.mg X.base:=I.ok.mod
theorem Inv.ql(I:Inv X pins σ H s):X.K.In s.heap:=I.ok.mod.MF.keeps I.bk
theorem Inv.lt(I:Inv X pins σ H s):X.env.locals<s.heap.objs.size:=let ⟨_,hn,_⟩:=I.loc;hn.lt
theorem Inv.sz(I:Inv X pins σ H s):X.dA.heap.objs.size≤s.heap.objs.size:=ZX I.ok.above (Nat.le_of_lt I.lt)
theorem Inv.Ry(I:Inv X pins σ H s){a:Addr}(h:s.heap.objs.size≤a):a∉X.fs:=fun hb=>by
 obtain⟨_,o,ho,_⟩:=I.ok.uO.mem hb;exact X7 (Θ (Z9 ho) (ZX I.sz h)) (Nat.lt_irrefl _)
theorem Inv.Kn(I:Inv X pins σ H s):∀x c,X.env.cells.lookup x=some c→c≠X.env.locals:=fun x c e z=>by
 obtain⟨v,o,ho,hd⟩:=I.cell x c e;obtain⟨m,⟨o',es,ep,Ct,zO,_⟩,_⟩:=I.loc;rw[z,Ct]at ho;cases ho;rw[zO]at hd;cases hd
theorem Inv.uO(I:Inv X pins σ H s):s.heap.FunFrames X.base X.outer:=by
 have all:∀(l:List Env),(∀b∈oA l,b∈X.fs)→X.dA.heap.FunFrames X.base l→s.heap.FunFrames X.base l:=by
  intro l
  induction l with
  |nil=>intro _ _;trivial
  |cons env r ih=>
   intro hs hl;obtain⟨hk,⟨L,o,hf,hn,ho,hd⟩,hr⟩:=hl;have hL:L∈X.fs:=hs L (by unfold oA;rw[List.filterMap_cons,hf];exact List.mem_cons_self);obtain⟨sl,e⟩:=I.base.slot L o ho (I.ok.NB L hL) hL fun z=>I.ok.NA L z hL
   exact⟨hk,⟨L,_,hf,hn,e,hd⟩,ih (fun b hb=>hs b (by unfold oA;rw[List.filterMap_cons,hf];exact ZR hb)) hr⟩
 exact all X.outer (fun _ hb=>hb) I.ok.uO
theorem Inv.stack(I:Inv X pins σ H s):s.heap.FunFrames X.base X.stack:=by
 rcases I.ok.UU with e|⟨e,hf⟩
 ·rw[e];exact I.uO
 ·rw[e];obtain⟨m,hn,_⟩:=I.loc;refine .cons (by rw[I.ok.kind];decide) hf hn ?_ I.uO;exact Heap.get?_none_of_le (ZX I.ok.Kl I.ok.above)
theorem Inv.sX(I:Inv X pins σ H s):∀b∈oA X.stack,b∈X.env.locals::X.fs:=fun b hb=>by
 rcases I.ok.UU with e|⟨e,hf⟩
 ·rw[e]at hb;exact ZR hb
 ·rw[e]at hb;unfold oA at hb;rw[List.filterMap_cons,hf]at hb;exact hb
theorem Inv.wD(I:Inv X pins σ H s):∀b∈oA X.stack,H b=none:=fun b hb=>by
 rcases List.mem_cons.mp (I.sX b hb)with e|hb
 ·rw[e];exact I.free
 ·obtain⟨_,o,ho,_⟩:=I.ok.uO.mem hb;exact I.base.free b o ho (I.ok.NB b hb) fun z=>I.ok.NA b z hb
theorem Inv.step{g':Array GenState}{t':Nat}{d':Drawn}{ch:List Addr}(I:Inv X pins σ H s)
  (GI:∀b∈ch,(b∈X.ex∨X.dA.heap.objs.size≤b)∧b≠X.env.locals∧(∀x c,X.env.cells.lookup x=some c→c≠b)∧∀p∈X.pn++pins,p.1≠b)
  (keep:∀b o,b≠X.env.locals→b∉X.fs→b∉ch→s.heap.get? b=some o→H b=none→h'.get? b=some o)
  (slot:∀b o,b≠X.env.locals→b∈X.fs→b∉ch→s.heap.get? b=some o→H b=none→∃sl,h'.get? b=some {o with slots:=sl}) (free:∀b o,b∉ch→s.heap.get? b=some o→H b=none→H' b=none)
  (there:∀b o,b∉ch→s.heap.get? b=some o→∃o',h'.get? b=some o')
  (cb:∀b xs,H b=some (.tup xs)→H' b=some (.tup xs)) (oE:∀b o u,H b=some (.sJ o u)→H' b=some (.sJ o u)) (rT:∀b ps,H b=some (.GY ps)→∃more,H' b=some (.GY (ps++more)))
  (ns:∀m,s.heap.Ns X.env.locals m→h'.Ns X.env.locals m) (bS:lI X.prog X.w H' h') (hg:AllBare g'):
  Inv X pins σ H' {s with heap:=h',gens:=g',drawn:=d',toks:=t'}:=by
 have UW:∀b o,X.dA.heap.get? b=some o→b≠X.env.locals:=fun b o e=>ZS (Θ (Z9 e) I.ok.above)
 have Qh:∀b o,X.dA.heap.get? b=some o→b∉X.ex→b∉ch:=fun b o e hx hb=>by
  rcases(GI b hb).1 with z|z
  ·exact hx z
  ·exact X7 (Θ (Z9 e) z) (Nat.lt_irrefl _)
 have cellK:∀x c,X.env.cells.lookup x=some c→∀v,s.heap.IsCell c v→h'.IsCell c v:=fun x c e v ⟨o,ho,hd⟩=>by
  have NC:c∉ch:=fun z=>(GI c z).2.2.1 x c e rfl
  by_cases hc:c∈X.fs
  ·obtain⟨sl,q⟩:=slot c o (I.Kn x c e) hc NC ho (I.mW x c e);exact⟨_,q,hd⟩
  ·exact⟨o,keep c o (I.Kn x c e) hc NC ho (I.mW x c e),hd⟩
 refine⟨I.ok,I.os,hg,⟨fun b o e n hb hx=>?_,fun b o e n hb hx=>?_,fun b o e n hx=>?_,fun b o e hx=>?_,fun b xs e=>cb b xs (I.base.cb b xs e),fun b o xs e=>oE b o xs (I.base.oE b o xs e),fun b ps e=>?_⟩,?_,fun x c e=>?_,?_,fun x c e=>?_,fun p hp=>?_,bS,I.len⟩
 ·exact keep b o (UW b o e) hb (Qh b o e hx) (I.base.keep b o e n hb hx) (I.base.free b o e n hx)
 ·obtain⟨sl,e1⟩:=I.base.slot b o e n hb hx;obtain⟨Rz,e2⟩:=slot b _ (UW b o e) hb (Qh b o e hx) e1 (I.base.free b o e n hx);exact⟨Rz,e2⟩
 ·obtain⟨o',e1⟩:=I.base.there b o e hx;exact free b o' (Qh b o e hx) e1 (I.base.free b o e n hx)
 ·obtain⟨o',e1⟩:=I.base.there b o e hx;exact there b o' (Qh b o e hx) e1
 ·obtain⟨m1,e1⟩:=I.base.rT b ps e;obtain⟨m2,e2⟩:=rT b _ e1;exact⟨m1++m2,by rw[e2,Array.append_assoc]⟩
 ·obtain⟨m,hn,hl⟩:=I.loc;refine⟨m,ns m hn,fun i x v e1 e2 e3=>?_⟩;obtain⟨u,r,l⟩:=hl i x v e1 e2 e3;refine⟨u,r,?_⟩;rcases l with l|⟨k,c,e,z⟩
  ·exact .inl l
  ·exact .inr ⟨k,c,e,cellK x c e _ z⟩
 ·obtain⟨v,z⟩:=I.cell x c e;exact⟨v,cellK x c e v z⟩
 ·obtain⟨m,⟨o,_,_,ho,_⟩,_⟩:=I.loc;exact free _ o (fun z=>(GI _ z).2.1 rfl) ho I.free
 ·obtain⟨v,o,ho,hd⟩:=I.cell x c e;exact free c o (fun z=>(GI c z).2.2.1 x c e rfl) ho (I.mW x c e)
 ·obtain⟨e,n,ne,nf,d⟩:=I.pin p hp;have NC:p.1∉ch:=fun z=>(GI p.1 z).2.2.2 p hp rfl
  exact⟨keep p.1 p.2 ne nf NC e n,free p.1 p.2 NC e n,ne,nf,d⟩
theorem Inv.un{t':Nat}(I:Inv X pins σ H s)(u:Un X.fs [] H H' s.heap h')(bS:lI X.prog X.w H' h'):Inv X pins σ H' {s with heap:=h',toks:=t'}:=by
 obtain⟨m,⟨o,es,ep,ho,r⟩,_⟩:=id I.loc;obtain⟨sl,hL⟩:=u.any ho I.free K4;exact I.step (g':=s.gens) (d':=s.drawn) (ch:=[]) (fun _ z=>nomatch z) (fun b o _ hb _ e n=>u.keep b o e n hb K4) (fun b o _ hb _ e n=>u.slot b o e n hb K4) (fun b o _ e n=>u.free b o e n (MD)) (fun b o _ e=>u.there b o e K4) u.cb u.oE u.rT (fun m' hm=>by
  obtain⟨o',qi,Qi,Ct,r'⟩:=hm;rw[ho]at Ct;cases Ct;exact⟨_,qi,Qi,hL,r'⟩) bS I.bare
theorem Inv.call{g':Array GenState}{t':Nat}{d':Drawn}{ch:List Addr}(I:Inv X pins σ H s)(u:Un (oA X.stack) ch H H' s.heap h')(bS:lI X.prog X.w H' h')(hg:AllBare g')
  (GI:∀b∈ch,(b∈X.ex∨X.dA.heap.objs.size≤b)∧b≠X.env.locals∧(∀x c,X.env.cells.lookup x=some c→c≠b)∧∀p∈X.pn++pins,p.1≠b):
  Inv X pins σ H' {s with heap:=h',gens:=g',drawn:=d',toks:=t'}:=by
 obtain⟨m,⟨o,es,ep,ho,r⟩,_⟩:=id I.loc;obtain⟨sl,hL⟩:=u.any ho I.free fun z=>(GI _ z).2.1 rfl
 exact I.step (ch:=ch) GI (fun b o hL hb hc e n=>u.keep b o e n (fun z=>(List.mem_cons.mp (I.sX b z)).elim hL hb) hc) (fun b o _ _ hc e n=>u.any e n hc) (fun b o hc e n=>u.free b o e n hc) (fun b o hc e=>u.there b o e hc) u.cb u.oE u.rT (fun m' hm=>by
  obtain⟨o',qi,Qi,Ct,r'⟩:=hm;rw[ho]at Ct;cases Ct;exact⟨_,qi,Qi,hL,r'⟩) bS hg
theorem Inv.turned{t':Nat}{it:Addr}(I:Inv X pins σ H s)(k:∀b o,b≠it→s.heap.get? b=some o→h'.get? b=some o)(hn:H it=none)(hL:it≠X.env.locals)
  (h1:it∈X.ex∨X.dA.heap.objs.size≤it) (h2:∀x c,X.env.cells.lookup x=some c→c≠it) (h3:∀p∈X.pn++pins,p.1≠it):Inv X pins σ H {s with heap:=h',toks:=t'}:=by
 have Ja:∀b u,H b=some u→b≠it:=fun b u e z=>by rw[z,hn]at e;cases e
 refine I.step (g':=s.gens) (d':=s.drawn) (ch:=[it]) (fun b hb=>?_) (fun b o _ _ hc e _=>k b o (fun z=>hc (by simp[z])) e) (fun b o _ _ hc e _=>⟨o.slots,k b o (fun z=>hc (by simp[z])) e⟩) (fun _ _ _ _ n=>n)
  (fun b o hc e=>⟨o,k b o (fun z=>hc (by simp[z])) e⟩) (fun _ _ e=>e) (fun _ _ _ e=>e) (fun b ps e=>⟨#[],by rw[e];simp⟩) (fun m hm=>?_) (fun b u e=>?_) I.bare
 ·have e:b=it:=by simpa using hb
  subst e;exact⟨h1,hL,h2,h3⟩
 ·obtain⟨o,es,ep,ho,r⟩:=hm;exact⟨o,es,ep,k _ o (Z' hL) ho,r⟩
 ·refine(I.bS b u e).wB (fun c v hc q=>k c v ?_ q) (fun _ q=>q) fun _ _ q=>q
  rcases hc with z|z
  ·rw[z];exact Ja b u e
  ·exact Ja c _ z
theorem Inv.tok(I:Inv X pins σ H s)(t:Nat):Inv X pins σ H {s with toks:=t}:=I.un (h':=s.heap) (t':=t) Un.refl I.bS
theorem Inv.kept{t':Nat}(I:Inv X pins σ H s)(k:∀b u,s.heap.get? b=some u→h'.get? b=some u):Inv X pins σ H {s with heap:=h',toks:=t'}:=I.un (Un.kept k) (I.bS.kept k)
theorem Inv.laid{a:Addr}{o:HO}{t':Nat}(I:Inv X pins σ H s)(k:∀b u,s.heap.get? b=some u→h'.get? b=some u)(hp:s.heap.objs.size≤a)(new:cO X.prog X.w (upd H a o) h' a o):
  Inv X pins σ (upd H a o) {s with heap:=h',toks:=t'}:=I.un (Un.laid k hp (I.bS.fresh hp)) (I.bS.laid k hp new)
theorem Inv.write{x e:Addr}{o:HO}{t':Nat}(I:Inv X pins σ H s)(mu:Ny (H x))(he:e=x∨H e=some (.own x))(k:∀b u,b≠e→s.heap.get? b=some u→h'.get? b=some u)(ME:∃u,h'.get? e=some u)
  (new:cO X.prog X.w (upd H x o) h' x o):Inv X pins σ (upd H x o) {s with heap:=h',toks:=t'}:=I.un (Un.write mu he k ME) (I.bS.write mu he k ME new)
theorem Inv.Bk{Jb:List (Addr×Obj)}(I:Inv X pins σ H s)(h:∀p∈Jb,s.heap.get? p.1=some p.2∧H p.1=none∧p.1≠X.env.locals∧p.1∉X.fs∧∀v,p.2.data≠ .cell v):Inv X Jb σ H s:=
 ⟨I.ok,I.os,I.bare,I.base,I.loc,I.cell,I.free,I.mW,fun p hp=>(List.mem_append.mp hp).elim (fun z=>I.pin p (Ι z)) (h p),I.bS,I.len⟩
theorem yA{N:List Str}(hN:N.Nodup){i j:Nat}{x:Str}(a:N[i]?=some x)(b:N[j]?=some x):i=j:=by
 obtain⟨h1,e1⟩:=WB a;obtain⟨h2,e2⟩:=WB b;exact(List.getElem_inj hN).mp (e1.trans e2.symm)
theorem vF{M:Model}{A:Around}{E:Value→Shared→Prop}{i:Nat}{x:Str}{v:V}{u:Value}{Q:Unit→Shared→Prop}(I:Inv X pins σ H s)(hN:X.N.Nodup)(hi:X.N[i]?=some x)(hx:Loc X.env.scope x)(r:RelV v u)
  (h:∀s',Inv X pins (σ.set i (some v)) H s'→(∃a,Heap.SameBut a s.heap s'.heap∧(a=X.env.locals∨X.env.cells.lookup x=some a))→Q () s') (hf:X.fn x=true∨X.env.scope.names.lookup x=some .local:=by first|exact .inl rfl|exact .inr rfl|assumption):wpAny M A (storeName X.env x u) Q E s:=by
 obtain⟨m,hn,hl⟩:=id I.loc;have RA:(X.env.scope.kind== .class||(X.env.scope.kind== .module&&X.env.locals !=X.env.globals))=false:=by rw[I.ok.kind];rfl
 have ND:i<σ.length:=by rw[I.len];exact(WB hi).1
 have Kn:=I.Kn;have tracked:∀{a:Addr}{h':Heap},(∃o,s.heap.get? a=some o∧H a=none)→Heap.SameBut a s.heap h'→lI X.prog X.w H h':=fun{a h'} ha hs b ob e=>by
  obtain⟨_,_,Bl⟩:=ha;refine(I.bS b ob e).wB (fun c w' hc q=>(hs.2 c ?_).trans q) (fun _ q=>q) fun _ _ q=>q
  rintro rfl;rcases hc with rfl|hc
  ·rw[Bl]at e;cases e
  ·rw[Bl]at hc;cases hc
 rcases hx with hk|hk
 ·refine wpAny_storeName_local hk hn (fun h' D_ hs=>?_) RA;obtain⟨oL,_,_,Jc,_⟩:=id hn;refine h _ ⟨I.ok,I.os,I.bare,⟨fun b o e n hb hx=>?_,fun b o e n hb hx=>?_,I.base.free,fun b o e hx=>?_,I.base.cb,I.base.oE,I.base.rT⟩,⟨_,D_,fun j y v' e1 e2 e3=>?_⟩,fun y c e=>?_,I.free,I.mW,fun p hp=>?_,tracked ⟨oL,Jc,I.free⟩ hs,by simpa using I.len⟩ ⟨_,hs, .inl rfl⟩
  ·exact(hs.2 b (ZS (Θ (Z9 e) I.ok.above))).trans (I.base.keep b o e n hb hx)
  ·obtain⟨sl,e1⟩:=I.base.slot b o e n hb hx;exact⟨sl,(hs.2 b (ZS (Θ (Z9 e) I.ok.above))).trans e1⟩
  ·obtain⟨o',e1⟩:=I.base.there b o e hx;exact⟨o',(hs.2 b (ZS (Θ (Z9 e) I.ok.above))).trans e1⟩
  ·by_cases hj:j=i
   ·subst hj;rw[hi]at e1;cases e1;rw[List.getElem?_set_self ND]at e2;cases e2;exact⟨u,r, .inl ⟨hk,MD⟩⟩
   ·rw[List.getElem?_set_ne (Z' hj)]at e2;obtain⟨u',r',q⟩:=hl j y v' e1 e2 e3;refine⟨u',r',?_⟩;rcases q with⟨k,e⟩|⟨k,c,e,z⟩
    ·refine .inl ⟨k,?_⟩;have:y≠x:=fun e=>hj (yA hN e1 (e▸hi))
     simp[this,e]
    ·exact .inr ⟨k,c,e,z.sameBut hs (Kn y c e)⟩
  ·obtain⟨w',z⟩:=I.cell y c e;exact⟨w',z.sameBut hs (Kn y c e)⟩
  ·obtain⟨e,n,ne,nf,d⟩:=I.pin p hp;exact⟨(hs.2 p.1 ne).trans e,n,ne,nf,d⟩
 ·have NG:X.fn x=true:=by
   rcases hf with z|z
   ·exact z
   ·rw[z]at hk;cases hk
  obtain⟨c,hc⟩:=I.ok.has x (.inl hk);obtain⟨w',z⟩:=I.cell x c hc;refine wpAny_storeName_cell I.ok.kind hk hc z (fun h' Ko hs=>?_);obtain⟨oc,UX,RB⟩:=id z;refine h {s with heap:=h'} ⟨I.ok,I.os,I.bare,⟨fun b o e n hb hx=>?_,fun b o e n hb hx=>?_,I.base.free,fun b o e hx=>?_,I.base.cb,I.base.oE,I.base.rT⟩,⟨m,hn.sameBut hs (Z' (Kn x c hc)),fun j y v' e1 e2 e3=>?_⟩,fun y c' e=>?_,I.free,I.mW,fun p hp=>?_,tracked ⟨oc,UX,I.mW x c hc⟩ hs,by simpa using I.len⟩ ⟨c,hs, .inr hc⟩
  ·exact(hs.2 b (ZS (Θ (Z9 e) (I.ok.Rw x c NG hc)))).trans (I.base.keep b o e n hb hx)
  ·obtain⟨sl,e1⟩:=I.base.slot b o e n hb hx;exact⟨sl,(hs.2 b (ZS (Θ (Z9 e) (I.ok.Rw x c NG hc)))).trans e1⟩
  ·obtain⟨o',e1⟩:=I.base.there b o e hx;exact⟨o',(hs.2 b (ZS (Θ (Z9 e) (I.ok.Rw x c NG hc)))).trans e1⟩
  ·by_cases hj:j=i
   ·subst hj;rw[hi]at e1;cases e1;rw[List.getElem?_set_self ND]at e2;cases e2;exact⟨u,r, .inr ⟨.inl hk,c,hc,Ko⟩⟩
   ·rw[List.getElem?_set_ne (Z' hj)]at e2;obtain⟨u',r',q⟩:=hl j y v' e1 e2 e3;refine⟨u',r',?_⟩;rcases q with q|⟨k,c',e,z'⟩
    ·exact .inl q
    ·refine .inr ⟨k,c',e,z'.sameBut hs ?_⟩;rintro rfl;exact hj (yA hN e1 (I.ok.inj _ _ _ e hc▸hi))
  ·by_cases UY:c'=c
   ·subst UY;exact⟨_,Ko⟩
   ·obtain⟨w2,z2⟩:=I.cell y c' e;exact⟨w2,z2.sameBut hs UY⟩
  ·obtain⟨e,n,ne,nf,d⟩:=I.pin p hp;refine⟨(hs.2 p.1 ?_).trans e,n,ne,nf,d⟩;intro q;rw[q,UX]at e;have q':oc=p.2:=YA e;exact d w' (by rw[←q'];exact RB)
theorem yB{M:Model}{A:Around}{E:Value→Shared→Prop}{i:Nat}{x:Str}{v:V}{u:Value}{Q:Unit→Shared→Prop}(I:Inv X pins σ H s)(hN:X.N.Nodup)(hi:X.N[i]?=some x)(hx:Loc X.env.scope x)(r:RelV v u)
  (h:∀s',Inv X pins (σ.set i (some v)) H s'→Q () s') (hf:X.fn x=true∨X.env.scope.names.lookup x=some .local:=by first|exact .inl rfl|exact .inr rfl|assumption):wpAny M A (storeName X.env x u) Q E s:=
 vF I hN hi hx r (fun s' I' _=>h s' I') hf
theorem Inv.NH{s':Shared}{ch:List Addr}(I:Inv X pins σ H s)(ho:s'.os=s.os)(u:Un (oA X.stack) ch H H' s.heap s'.heap)(bS:lI X.prog X.w H' s'.heap)(hg:AllBare s'.gens)
  (GI:∀b∈ch,(b∈X.ex∨X.dA.heap.objs.size≤b)∧b≠X.env.locals∧(∀x c,X.env.cells.lookup x=some c→c≠b)∧∀p∈X.pn++pins,p.1≠b):Inv X pins σ H' s':=by
 obtain⟨h',g',d',t',o'⟩:=s';have e:o'=s.os:=ho;subst e;exact I.call (g':=g') (t':=t') (d':=d') u bS hg GI
end
abbrev XK:=Value→Option Addr→Hp→Prop
abbrev St:=List (Option V)
abbrev VK:=V→Hp→Prop
abbrev TE:=St→Hp→VK→Prop
abbrev TT:=St→Hp→(Bool→Hp→Prop)→Prop
abbrev TA:=St→Hp→(List V→Hp→Prop)→Prop
structure Ends where
 nx:St→Hp→Prop
 rt:VK
 bk:St→Hp→Prop:=fun _ _=>False
 ct:St→Hp→Prop:=fun _ _=>False
abbrev TS:=Ends→St→Hp→Prop
def EP(X:Cx)(pins:List (Addr×Obj))(σ:St)(Q:VK)(u:Value)(s':Shared):Prop:=∃v H',Inv X pins σ H' s'∧RelV v u∧Q v H'
def TP(X:Cx)(pins:List (Addr×Obj))(σ:St)(Q:Bool→Hp→Prop)(b:Bool)(s':Shared):Prop:=∃H',Inv X pins σ H' s'∧Q b H'
def AP(X:Cx)(pins:List (Addr×Obj))(σ:St)(Q:List V→Hp→Prop)(us:List Value)(s':Shared):Prop:=∃vs H',Inv X pins σ H' s'∧Vals vs us∧Q vs H'
def SP(X:Cx)(pins:List (Addr×Obj))(D:Ends)(f:Flow)(s':Shared):Prop:=
 match f with
 | .next=>∃bj H',Inv X pins bj H' s'∧D.nx bj H'
 | .brk=>∃bj H',Inv X pins bj H' s'∧D.bk bj H'
 | .cont=>∃bj H',Inv X pins bj H' s'∧D.ct bj H'
 | .ret u=>∃v bj H',Inv X pins bj H' s'∧RelV v u∧D.rt v H'
def PE(X:Cx)(e:Expr)(t:TE):Prop:=
 ∀(pins:List (Addr×Obj))(s:Shared)(σ:St)(H:Hp)(Q:VK),Inv X pins σ H s→t σ H Q→wpAny (model X.prog X.w) X.A (eval e X.env) (EP X pins σ Q) X.xe s
def PT(X:Cx)(e:Expr)(t:TT):Prop:=
 ∀(pins:List (Addr×Obj))(s:Shared)(σ:St)(H:Hp)(Q:Bool→Hp→Prop),Inv X pins σ H s→t σ H Q→wpAny (model X.prog X.w) X.A (isTrue e X.env (eval e X.env)) (TP X pins σ Q) X.xe s
def PW(X:Cx)(e:Expr)(t:TT):Prop:=
 ∀(whole:Sem Value)(pins:List (Addr×Obj))(s:Shared)(σ:St)(H:Hp)(Q:Bool→Hp→Prop),Inv X pins σ H s→t σ H Q→wpAny (model X.prog X.w) X.A (isTrue e X.env whole) (TP X pins σ Q) X.xe s
theorem PW.pt{X:Cx}{e:Expr}{t:TT}(h:PW X e t):PT X e t:=h _
def PA(X:Cx)(es:List Expr)(t:TA):Prop:=
 ∀(pos:Pos)(pins:List (Addr×Obj))(s:Shared)(σ:St)(H:Hp)(Q:List V→Hp→Prop),Inv X pins σ H s→t σ H Q→wpAny (model X.prog X.w) X.A (spliced (Μ pos)) (AP X pins σ Q) X.xe s
def PS(X:Cx)(st:Stmt)(t:TS):Prop:=
 ∀(pins:List (Addr×Obj))(s:Shared)(σ:St)(H:Hp)(D:Ends),Inv X pins σ H s→t D σ H→wpAny (model X.prog X.w) X.A (exec st X.env) (SP X pins D) X.xe s
def Cu(X:Cx)(st:List Stmt)(t:TS):Prop:=
 ∀(pins:List (Addr×Obj))(s:Shared)(σ:St)(H:Hp)(D:Ends),Inv X pins σ H s→t D σ H→wpAny (model X.prog X.w) X.A (execs st X.env) (SP X pins D) X.xe s
theorem cG{α:Type}{t:Sem α}{Q Q':α→Shared→Prop}{M:Model}{A:Around}{E:Value→Shared→Prop}{s:Shared}(h:wpAny M A t Q E s)(hQ:∀a s,Q a s→Q' a s):wpAny M A t Q' E s:=wpAny_mono h hQ fun _ _ x=>x
section
variable{X:Cx}
theorem bin{a b:Expr}{ta tb:TE}(ha:PE X a ta)(hb:PE X b tb){pins:List (Addr×Obj)}{s:Shared}{σ:St}{H:Hp}{R:V→V→Hp→Prop}(I:Inv X pins σ H s)(h:ta σ H fun x H1=>tb σ H1 fun y H2=>R x y H2)
  {α:Type} {Q:α→Shared→Prop} {f:Value→Value→Sem α}
  (hf:∀v u s2 x y H2,Inv X pins σ H2 s2→RelV x v→RelV y u→R x y H2→wpAny (model X.prog X.w) X.A (f v u) Q X.xe s2):
  wpAny (model X.prog X.w) X.A (eval a X.env) (fun v cc=>wpAny (model X.prog X.w) X.A (eval b X.env) (fun u qm=>wpAny (model X.prog X.w) X.A (f v u) Q X.xe qm) X.xe cc) X.xe s:=by
 refine cG (ha pins s σ H _ I h) fun v s1 ⟨x,H1,I1,r1,q1⟩=>?_
 refine cG (hb pins s1 σ H1 _ I1 q1) fun u s2 ⟨y,H2,I2,r2,q2⟩=>?_
 exact hf v u s2 x y H2 I2 r1 r2 q2
inductive Kq(i:Nat)(σ:St)(H:Hp)(Q:VK):Prop
 |mk (v:_) (_:σ[i]?=some (some v)) (_:Q v H):Kq i σ H Q
def tC(v:V):TE:=fun _ H Q=>Q v H
theorem Kr{i:Nat}{x:Str}{pos:Pos}(hN:X.N[i]?=some x)(hv:Rv X.env.scope x)(hd:(x==("__debug__":Str))=false:=by decide)(Cv:(x==("__classdict__":Str))=false:=by decide):PE X (.Name x pos) (Kq i):=by
 intro pins s σ H Q I h;obtain⟨v,e,h⟩:=h;obtain⟨m,hn,hl⟩:=I.loc;obtain⟨u,r,l⟩:=hl i x v hN e hv;have fin:EP X pins σ Q u s:=⟨v,H,I,r,h⟩
 rcases l with⟨hk,hm⟩|⟨hk,c,hc,Jd⟩
 ·exact wpAny_Name (wpAny_loadName_local I.ok.kind hk hn hm fin) hd
 ·rcases hk with hk|hk
  ·exact wpAny_Name (wpAny_loadName_cell I.ok.kind hk hc Jd fin) hd
  ·exact wpAny_Name (wpAny_loadName_free I.ok.kind hk hc Jd fin Cv) hd
theorem ai{i j pos}:PE X (.Constant (.int i) j pos) (tC (.int i)):=fun _ _ _ H _ I h=>wpAny_Constant_int ⟨.int i,H,I.tok _,⟨_,rfl⟩,h⟩
theorem eK{b j pos}:PE X (.Constant (.bool b) j pos) (tC (.bl b)):=fun _ _ _ H _ I h=>Constant_bool ⟨.bl b,H,I,rfl,h⟩
theorem jT{j pos}:PE X (.Constant .none j pos) (tC .cL):=fun _ _ _ H _ I h=>Constant_none ⟨.cL,H,I,rfl,h⟩
theorem dS{x j pos}:PE X (.Constant (.str x) j pos) (tC (.str x)):=fun _ _ _ H _ I h=>Calls.Constant_str ⟨.str x,H,I.tok _,⟨_,rfl⟩,h⟩
def Gl(X:Cx)(x:Str):Prop:=X.env.kindOf x=some .globalImplicit
theorem oF{E:Value→Shared→Prop}{pins:List (Addr×Obj)}{s:Shared}{σ:St}{H:Hp}{x:Str}{u:Value}{pos:Pos}{Q:Value→Shared→Prop}(I:Inv X pins σ H s)(hg:Gl X x)(hm:X.mg x=some u)(h:Q u s)
  (hd:(x==("__debug__":Str))=false:=by decide):wpAny (model X.prog X.w) X.A (eval (.Name x pos) X.env) Q E s:=
 Calls.Name_function_global I.ok.kind hg (Calls.loadGlobal_global (by rw[I.ok.glob];exact I.mod.glob.keeps I.bk) hm h) hd
theorem lJ{E:Value→Shared→Prop}{pins:List (Addr×Obj)}{s:Shared}{σ:St}{H:Hp}{x:Str}{u:Value}{pos:Pos}{Q:Value→Shared→Prop}(I:Inv X pins σ H s)(hg:Gl X x)(hm:X.mg x=none)(hv:bootBuiltins x=some u)(h:Q u s)
  (hn:x≠"__name__":=by decide) (hd:(x==("__debug__":Str))=false:=by decide):wpAny (model X.prog X.w) X.A (eval (.Name x pos) X.env) Q E s:=by
 obtain⟨mb,h1,h2⟩:=I.mod.blt;exact Calls.Name_function_global I.ok.kind hg (Calls.loadGlobal_builtin (by rw[I.ok.glob];exact I.mod.glob.keeps I.bk) hm (by rw[I.ok.blt];exact h1.keeps I.bk) ((h2 x hn).trans hv) h) hd
theorem Bm{x:Str}{v:V}{u:Value}{pos:Pos}(hg:Gl X x)(hm:X.mg x=some u)(r:RelV v u)(hd:(x==("__debug__":Str))=false:=by decide):PE X (.Name x pos) (tC v):=
 fun _ _ _ H _ I h=>oF I hg hm ⟨v,H,I,r,h⟩ hd
theorem kE{x:Str}{v:V}{u:Value}{pos:Pos}(hg:Gl X x)(hm:X.mg x=none)(hv:bootBuiltins x=some u)(r:RelV v u)(hn:x≠"__name__":=by decide)(hd:(x==("__debug__":Str))=false:=by decide):PE X (.Name x pos) (tC v):=
 fun _ _ _ H _ I h=>lJ I hg hm hv ⟨v,H,I,r,h⟩ hn hd
variable{a b:Expr}{ta tb:TE}{pos:Pos}
def PC(X:Cx)(op:CmpOp)(a b:Expr)(t:TE):Prop:=
 ∀(pins:List (Addr×Obj))(s:Shared)(σ:St)(H:Hp)(Q:VK),Inv X pins σ H s→t σ H Q→
  wpAny (model X.prog X.w) X.A (eval a X.env) (fun v cc=>wpAny (model X.prog X.w) X.A (eval b X.env) (fun u qm=>wpAny (model X.prog X.w) X.A (compareOp op v u) (EP X pins σ Q) X.xe qm) X.xe cc) X.xe s
theorem bo(b:Expr){op:CmpOp}(h:op≠ .In)(h2:op≠ .NotIn):behindInMarks op b=false:=by
 have e1:(op==CmpOp.In)=false:=by cases op<;>first|rfl|exact absurd rfl h
 have e2:(op==CmpOp.NotIn)=false:=by cases op<;>first|rfl|exact absurd rfl h2
 cases b<;>simp[behindInMarks,e1,e2]
def RD(ta:TE):TE:=fun σ H Q=>ta σ H fun x H1=>Q (.bl (decide (x= .cL))) H1
def NI(ta:TE):TE:=fun σ H Q=>ta σ H fun x H1=>Q (.bl (!decide (x= .cL))) H1
theorem RelV.yC{x:V}{v:Value}(r:RelV x v):(v==Value.none)=decide (x= .cL):=by
 cases x with
 |cL=>cases r;rfl
 |bl _=>cases r;rfl
 |int _=>obtain⟨t,rfl⟩:=r;rfl
 |str _=>obtain⟨t,rfl⟩:=r;rfl
 |Cr _=>obtain⟨t,rfl⟩:=r;rfl
 |I_ _=>obtain⟨t,rfl⟩:=r;rfl
 |ref _=>cases r;rfl
 |ty _=>cases r;rfl
theorem lK{j pos'}(ha:PE X a ta):PC X .Is a (.Constant .none j pos') (RD ta):=by
 intro pins s σ H Q I h;refine cG (ha pins s σ H _ I h) fun v s1 ⟨x,H1,I1,r1,q1⟩=>?_
 exact Constant_none (is_none_gen ⟨.bl _,H1,I1,by rw[r1.yC];rfl,q1⟩)
theorem oG{j pos'}(ha:PE X a ta):PC X .IsNot a (.Constant .none j pos') (NI ta):=by
 intro pins s σ H Q I h;refine cG (ha pins s σ H _ I h) fun v s1 ⟨x,H1,I1,r1,q1⟩=>?_
 exact Constant_none (isnot_none_gen ⟨.bl _,H1,I1,by rw[r1.yC];rfl,q1⟩)
inductive NJ(x:V)(H:Hp)(Q:Bool→Hp→Prop):Prop
 |mk (c:Bool) (_:x= .bl c) (_:Q c H):NJ x H Q
def tB(t:TE):TT:=fun σ H Q=>t σ H fun x H1=>NJ x H1 Q
theorem zX{op:CmpOp}{t:TE}(h:PC X op a b t)(h1:behindInMarks op b=false:=by first|exact bo _ (Sz) (Sz)|rfl):PE X (.Compare a [op] [b] pos) t:=fun pins s σ H Q I hw=>wpAny_Compare1 (h pins s σ H Q I hw) h1
theorem eF{op:CmpOp}{t:TE}(h:PC X op a b t)(h1:behindInMarks op b=false:=by first|exact bo _ (Sz) (Sz)|rfl):PT X (.Compare a [op] [b] pos) (tB t):=by
 intro pins s σ H Q I hw;refine wpAny_isTrue_Compare1 (cG (h pins s σ H _ I hw) fun v s1 h1=>cG h1 fun u s2 h2=>cG h2 fun c s3 ⟨x,H1,I1,r1,q1⟩=>?_) h1;obtain⟨d,rfl,q⟩:=q1;cases r1;exact wpAny_truthy_bool ⟨H1,I1,q⟩
theorem cH{e:Expr}{t:TE}(h:PE X e t)(he:∀whole,isTrue e X.env whole=(do let v←whole;standAt e.pos;holding [v] (truthy v)):=by intro _;rfl):PT X e (tB t):=by
 intro pins s σ H Q I hw;refine isTrue_plain (cG (h pins s σ H _ I hw) fun v s1 ⟨x,H1,I1,r1,q1⟩=>?_) (he _);obtain⟨d,rfl,q⟩:=q1;cases r1;exact wpAny_truthy_bool ⟨H1,I1,q⟩
variable{tA Qj:TT}{rest:List Expr}
def RE(t u:TT):TT:=fun σ H Q=>t σ H fun c H1=>if c=true then u σ H1 Q else Q false H1
def WV(t u:TT):TT:=fun σ H Q=>t σ H fun c H1=>if c=true then Q true H1 else u σ H1 Q
def RF(t:TT):TT:=fun σ H Q=>t σ H fun c H1=>Q (!c) H1
theorem pw_and1(ha:PT X a tA):PW X (.BoolOp .And [a] pos) tA:=by
 intro wh pins s σ H Q I h;refine isTrue_and (cG (ha pins s σ H Q I h) fun c s1 e=>?_);cases c with
 |true=>exact isTrue_and_nil e
 |false=>exact e
theorem pw_or1(ha:PT X a tA):PW X (.BoolOp .Or [a] pos) tA:=by
 intro wh pins s σ H Q I h;refine isTrue_or (cG (ha pins s σ H Q I h) fun c s1 e=>?_);cases c with
 |false=>exact isTrue_or_nil e
 |true=>exact e
theorem pw_and(ha:PT X a tA)(hb:PW X (.BoolOp .And (b::rest) pos) Qj):PW X (.BoolOp .And (a::b::rest) pos) (RE tA Qj):=by
 intro wh pins s σ H Q I h;refine isTrue_and (cG (ha pins s σ H _ I h) fun c s1 ⟨H1,I1,q1⟩=>?_);cases c with
 |true=>exact hb wh pins s1 σ H1 Q I1 q1
 |false=>exact⟨H1,I1,q1⟩
theorem pw_or(ha:PT X a tA)(hb:PW X (.BoolOp .Or (b::rest) pos) Qj):PW X (.BoolOp .Or (a::b::rest) pos) (WV tA Qj):=by
 intro wh pins s σ H Q I h;refine isTrue_or (cG (ha pins s σ H _ I h) fun c s1 ⟨H1,I1,q1⟩=>?_);cases c with
 |true=>exact⟨H1,I1,q1⟩
 |false=>exact hb wh pins s1 σ H1 Q I1 q1
theorem dJ(ha:PT X a tA):PT X (.UnaryOp .Not a pos) (RF tA):=by
 intro pins s σ H Q I h;exact isTrue_not (ha pins s σ H (fun c H1=>Q (!c) H1) I h)
def NK(ta tb:TE):TE:=fun σ H Q=>ta σ H fun x H1=>∃c,x= .bl c∧if c=true then tb σ H1 Q else Q (.bl false) H1
def NL(ta:TE):TE:=fun σ H Q=>ta σ H fun x H1=>∃c,x= .bl c∧Q (.bl (!c)) H1
theorem wF{op}{t:TE}(h:PE X a t):PE X (.BoolOp op [a] pos) t:=fun pins s σ H Q I hw=>BoolOp_one (h pins s σ H Q I hw)
theorem wG(ha:PE X a ta)(hb:PE X (.BoolOp .And (b::rest) pos) tb):PE X (.BoolOp .And (a::b::rest) pos) (NK ta tb):=by
 intro pins s σ H Q I h;refine BoolOp_and (cG (ha pins s σ H _ I h) fun v s1 ⟨x,H1,I1,r1,q1⟩=>?_);obtain⟨c,rfl,q1⟩:=q1;cases r1;refine wpAny_truthy_bool ?_;cases c with
 |true=>exact hb pins s1 σ H1 Q I1 q1
 |false=>exact⟨.bl false,H1,I1,rfl,q1⟩
theorem Kt(ha:PE X a ta):PE X (.UnaryOp .Not a pos) (NL ta):=by
 intro pins s σ H Q I h;refine UnaryOp_ (cG (ha pins s σ H _ I h) fun v s1 ⟨x,H1,I1,r1,q1⟩=>?_);obtain⟨c,rfl,q1⟩:=q1;cases r1;exact not_of (wpAny_truthy_bool ⟨.bl (!c),H1,I1,rfl,q1⟩)
def WW(t:TT)(ta tb:TE):TE:=fun σ H Q=>t σ H fun c H1=>if c=true then ta σ H1 Q else tb σ H1 Q
theorem oH{c:Expr}(hc:PT X c tA)(ha:PE X a ta)(hb:PE X b tb):PE X (.IfExp c a b pos) (WW tA ta tb):=by
 intro pins s σ H Q I h;refine wpAny_IfExp (cG (hc pins s σ H _ I h) fun d s1 ⟨H1,I1,q1⟩=>?_);cases d with
 |true=>exact ha pins s1 σ H1 Q I1 q1
 |false=>exact hb pins s1 σ H1 Q I1 q1
end
def iD(K:PySem.W.Frag)(H:Hp)(a:Addr)(xs:List V):Prop:=
 Rd H a (.lst xs)∨
  ∃(o:Obj)(its:Array Value)(n:Nat),K.lookup a=some o∧o.cls= .type "list"∧o.dict=none∧o.data= .seq its n∧its.size≤sizeLine∧Vals xs its.toList
def Ea(K:PySem.W.Frag)(H:Hp)(a:Addr)(xs:List V):Prop:=
 Rd H a (.tup xs)∨
  ∃(o:Obj)(its:Array Value)(n:Nat),K.lookup a=some o∧o.cls= .type "tuple"∧o.data= .seq its n∧its.size≤sizeLine∧Vals xs its.toList
def RG:Value→Option V
 | .none=>some .cL
 | .bool b=>some (.bl b)
 | .int i _=>some (.int i)
 | .str x _=>some (.str x)
 | .bytes b _=>some (.Cr b)
 | .float b _=>some (.I_ b)
 | .ref a=>some (.ref a)
 | .type n=>some (.ty n)
 | _=>none
theorem RelV.abs{x:V}{u:Value}(r:RelV x u):RG u=some x:=by
 cases x with
 |cL=>cases r;rfl
 |bl _=>cases r;rfl
 |int _=>obtain⟨t,rfl⟩:=r;rfl
 |str _=>obtain⟨t,rfl⟩:=r;rfl
 |Cr _=>obtain⟨t,rfl⟩:=r;rfl
 |I_ _=>obtain⟨t,rfl⟩:=r;rfl
 |ref _=>cases r;rfl
 |ty _=>cases r;rfl
theorem RelV.inj{x y:V}{u:Value}(r:RelV x u)(q:RelV y u):x=y:=YA (r.abs.symm.trans q.abs)
theorem Vals.inj:∀{xs ys:List V}{us:List Value},Vals xs us→Vals ys us→xs=ys
 | _,_,_, .nil, .nil=>rfl
 | _,_,_, .cons r t, .cons r' t'=>by rw[r.inj r',Vals.inj t t']
section
variable{X:Cx}{pins:List (Addr×Obj)}{σ:St}{H:Hp}{s:Shared}{a:Addr}{xs ys:List V}
theorem iD.of{K:PySem.W.Frag}(h:H a=some (.lst xs)):iD K H a xs:= .inl (.inl h)
theorem Ea.of{K:PySem.W.Frag}(h:H a=some (.tup xs)):Ea K H a xs:= .inl (.inl h)
theorem Inv.list(I:Inv X pins σ H s)(h:iD X.K H a xs):∃its:List Value,Vals xs its∧PlainL s.heap a its.toArray∧xs.length≤sizeLine:=by
 rcases h with h|⟨o,its,n,hk,hc,hd,hs,hz,r⟩
 ·obtain⟨z,its,n,r,e⟩:=h.ok I.bS;exact⟨its,r,⟨_,n,e,rfl,rfl,rfl⟩,z⟩
 ·refine⟨its.toList,r,⟨o,n,I.ql a o hk,hc,hd,by simpa using hs⟩,?_⟩;have e:=r.length;simp only[Array.length_toList]at e;omega
theorem Inv.tuple(I:Inv X pins σ H s)(h:Ea X.K H a xs):∃its:List Value,Vals xs its∧IsTup s.heap a its.toArray∧xs.length≤sizeLine:=by
 rcases h with h|⟨o,its,n,hk,hc,hs,hz,r⟩
 ·obtain⟨z,its,r,p⟩:=h.ok I.bS;exact⟨its,r,p,z⟩
 ·refine⟨its.toList,r,⟨o,I.ql a o hk,hc,n,by simpa using hs⟩,?_⟩;have e:=r.length;simp only[Array.length_toList]at e;omega
theorem Inv.yD(I:Inv X pins σ H s)(h:iD X.K H a xs)(h':iD X.K H a ys):xs=ys:=by
 obtain⟨its,r,⟨o,n,e,_,_,d⟩,_⟩:=I.list h;obtain⟨its',r',⟨o',n',e',_,_,d'⟩,_⟩:=I.list h';rw[e]at e';cases e';rw[d]at d';injection d' with d1 _;have:its=its':=by simpa using congrArg Array.toList d1
 subst this;exact r.inj r'
end
abbrev Cx.aao(X:Cx)(E:Value→Shared→Prop):Cx:={X with xe:=E}
section
variable{X:Cx}{pins:List (Addr×Obj)}{σ:St}{H:Hp}{s:Shared}{E:Value→Shared→Prop}
end
section
variable{X:Cx}{st:Stmt}{rest:List Stmt}{t u:TS}{e:Expr}{te:TE}{pos:Pos}
def NM:TS:=fun D σ H=>D.nx σ H
def RH(t u:TS):TS:=fun D σ H=>t {D with nx:=u D} σ H
theorem aS:Cu X [] NM:=fun _ _ σ H _ I h=>wpAny_execs_nil ⟨σ,H,I,h⟩
theorem ax(h1:PS X st t)(h2:Cu X rest u):Cu X (st::rest) (RH t u):=by
 intro pins s σ H D I h;refine wpAny_execs_cons (cG (h1 pins s σ H {D with nx:=u D} I h) fun f s1 q=>?_);cases f with
 |next=>
  obtain⟨bj,H',I',q⟩:=q;exact h2 pins s1 bj H' D I' q
 |ret v=>exact q
 |brk=>exact q
 |cont=>exact q
theorem ao(h1:PS X st t):Cu X [st] t:=by
 intro pins s σ H D I h;refine wpAny_execs_cons (cG (h1 pins s σ H D I h) fun f s1 q=>?_);cases f with
 |next=>exact wpAny_execs_nil q
 |ret v=>exact q
 |brk=>exact q
 |cont=>exact q
theorem Inv.quiet{pins:List (Addr×Obj)}{σ:St}{H:Hp}{s:Shared}(I:Inv X pins σ H s):interactive X.env=false:=by simp[interactive,I.ok.kind]
def NN(te:TE):TS:=fun D σ H=>te σ H fun _ H1=>D.nx σ H1
theorem a_(he:PE X e te)(hs:swapsWith e none pos.line X.env=pure false:=by rfl):PS X (.Expr e pos) (NN te):=by
 intro pins s σ H D I h;exact wpAny_Expr_any (cG (he pins s σ H _ I h) fun v s1 ⟨x,H1,I1,r1,q1⟩=>⟨σ,H1,I1,q1⟩) I.quiet hs
def RJ(te:TE):TS:=fun D σ H=>te σ H D.rt
theorem aM(he:PE X e te):PS X (.Return (some e) pos) (RJ te):=by
 intro pins s σ H D I h;exact wpAny_Return_some (cG (he pins s σ H _ I h) fun v s1 ⟨x,H1,I1,r1,q1⟩=>⟨x,σ,H1,I1,r1,q1⟩)
def RK(c:TT)(t u:TS):TS:=fun D σ H=>c σ H fun b H1=>if b=true then t D σ H1 else u D σ H1
theorem bf{c:Expr}{a b:List Stmt}{tc:TT}(hc:PT X c tc)(ha:Cu X a t)(hb:Cu X b u):PS X (.If c a b pos) (RK tc t u):=by
 intro pins s σ H D I h;refine wpAny_If (cG (hc pins s σ H _ I h) fun d s1 ⟨H1,I1,q1⟩=>?_);cases d with
 |true=>exact ha pins s1 σ H1 D I1 q1
 |false=>exact hb pins s1 σ H1 D I1 q1
end
abbrev TG:=V→St→Hp→(St→Hp→Prop)→Prop
abbrev Je:=List V→St→Hp→(St→Hp→Prop)→Prop
def PG(X:Cx)(target:Expr)(t:TG):Prop:=
 ∀(pins:List (Addr×Obj))(s:Shared)(σ:St)(H:Hp)(v:V)(u:Value)(Q:St→Hp→Prop),Inv X pins σ H s→RelV v u→t v σ H Q→
  wpAny (model X.prog X.w) X.A (assign target X.env u) (fun _ s'=>∃bj H',Inv X pins bj H' s'∧Q bj H') X.xe s
def NO(X:Cx)(ts:List Expr)(t:Je):Prop:=
 ∀(pins:List (Addr×Obj))(s:Shared)(σ:St)(H:Hp)(vs:List V)(us:List Value)(Q:St→Hp→Prop),Inv X pins σ H s→Vals vs us→t vs σ H Q→
  wpAny (model X.prog X.w) X.A (assignInOrder ((assignEach ts X.env).map (·.2)) us) (fun _ s'=>∃bj H',Inv X pins bj H' s'∧Q bj H') X.xe s
abbrev Ku:=V→V→V→Hp→(Hp→Prop)→Prop
def NP(X:Cx)(t:Ku):Prop:=
 ∀(pins:List (Addr×Obj))(s:Shared)(σ:St)(H:Hp)(o i v:V)(ov iv u:Value)(Q:Hp→Prop),Inv X pins σ H s→RelV o ov→RelV i iv→RelV v u→t o i v H Q→
  wpAny (model X.prog X.w) X.A (setItem ov iv u) (fun _ s'=>∃H',Inv X pins σ H' s'∧Q H') X.xe s
section
variable{X:Cx}{pos:Pos}
def Bn(i:Nat):TG:=fun v σ H Q=>Q (σ.set i (some v)) H
theorem aJ{i:Nat}{x:Str}(hN:X.N.Nodup)(hi:X.N[i]?=some x)(hx:Loc X.env.scope x)(hf:X.fn x=true∨X.env.scope.names.lookup x=some .local:=by first|exact .inl rfl|exact .inr rfl|assumption):PG X (.Name x pos) (Bn i):=by
 intro pins s σ H v u Q I r h;exact wpAny_assign_Name (yB I hN hi hx r (fun s' I'=>⟨_,H,I',h⟩) hf)
def RL:Je:=fun vs σ H Q=>vs=[]∧Q σ H
def NQ(t:TG)(u:Je):Je:=fun vs σ H Q=>∃v r,vs=v::r∧t v σ H fun bj H'=>u r bj H' Q
theorem eL:NO X [] RL:=by
 intro pins s σ H vs us Q I r h;obtain⟨e,h⟩:=h;subst e;cases r;exact assignInOrder_nil ⟨σ,H,I,h⟩
theorem aW{e:Expr}{es:List Expr}{t:TG}{u:Je}(h1:PG X e t)(h2:NO X es u)
  (hs:(assignEach (e::es) X.env).map (·.2)=assign e X.env::(assignEach es X.env).map (·.2):=by rfl):NO X (e::es) (NQ t u):=by
 intro pins s σ H vs us Q I r h;obtain⟨v,vr,e1,h⟩:=h;subst e1;cases r with
 |cons r rr=>
  rw[hs];refine assignInOrder_cons (cG (h1 pins s σ H _ _ _ I r h) fun _ s1 ⟨MI,H1,I1,q1⟩=>?_);exact h2 pins s1 MI H1 _ _ Q I1 rr q1
inductive Kv(K:PySem.W.Frag)(n:Nat)(t:Je)(v:V)(σ:St)(H:Hp)(Q:St→Hp→Prop):Prop
 |mk (a:_) (xs:_) (_:v= .ref a) (_:Ea K H a xs) (_:xs.length=n) (_:t xs σ H Q):Kv K n t v σ H Q
theorem Kx{es:List Expr}{k:Nat}{t:Je}{n:Nat}(hc:X.calm=true)(h:NO X es t)
  (hn:(assignEach es X.env).length=n:=by rfl) (vG:(assignEach es X.env).findIdx? (·.1)=none:=by rfl):PG X (.Tuple es k pos) (Kv X.K n t):=by
 intro pins s σ H v u Q I r hw;obtain⟨a,xs,e1,hq,hl,hw⟩:=hw;subst e1;cases r;obtain⟨its,rv,ht,hz⟩:=I.tuple hq;refine assign_Tuple_tuple (I.ok.hd hc) ht (by simp[hn,←hl,rv.length]) vG fun h' hx=>?_
 have I1:Inv X pins σ H {s with heap:=h'}:=I.kept (t':=s.toks) fun b o e=>hx b o (ZS (Z9 e)) e
 exact h pins _ σ H xs _ Q I1 (by simpa using rv) hw
def RM(to ti:TE)(t:Ku):TG:=fun v σ H Q=>to σ H fun o H1=>ti σ H1 fun i H2=>t o i v H2 fun H3=>Q σ H3
theorem Kz{o i:Expr}{to ti:TE}{t:Ku}(ho:PE X o to)(hi:PE X i ti)(hs:NP X t)
  (ha:∀v,assign (.Subscript o i pos) X.env v=(do
   let ov←holding [v] (eval o X.env)
   let iv←holding [v,ov] (eval i X.env)
   standAt pos
   holding [v,ov,iv] (setItem ov iv v)
   release [v,ov,iv] []):=by intro _;rfl):PG X (.Subscript o i pos) (RM to ti t):=by
 intro pins s σ H v u Q I r h;rw[ha];refine wpAny_bind (wpAny_holding (cG (ho pins s σ H _ I h) fun ov s1 ⟨x,H1,I1,r1,q1⟩=>?_));refine wpAny_bind (wpAny_holding (cG (hi pins s1 σ H1 _ I1 q1) fun iv s2 ⟨y,H2,I2,r2,q2⟩=>?_));refine wpAny_bind (wpAny_standAt (Z5 (wpAny_holding (cG (hs pins s2 σ H2 x y v ov iv u _ I2 r1 r2 r q2) fun _ s3 ⟨H3,I3,q3⟩=>?_))));exact wpAny_release ⟨σ,H3,I3,q3⟩
def KA(te:TE)(g:TG):TS:=fun D σ H=>te σ H fun x H1=>g x σ H1 D.nx
theorem zY{tg e:Expr}{te:TE}{g:TG}(he:PE X e te)(hg:PG X tg g)(hs:swapsWithSole [tg] e pos.line X.env=pure false:=by rfl)(hw:swappedStores [tg] e X.env=pure none:=by rfl)
  (h1:(assignEach [tg] X.env).map (·.2)=[assign tg X.env]:=by rfl):PS X (.Assign [tg] e pos) (KA te g):=by
 intro pins s σ H D I h;refine wpAny_Assign_stores (cG (he pins s σ H _ I h) fun v s1 ⟨x,H1,I1,r1,q1⟩=>?_) hs hw;rw[h1];exact cG (hg pins s1 σ H1 x v _ I1 r1 q1) fun _ s2 q=>q
theorem aG{i:Nat}{x:Str}{e:Expr}{te:TE}{pos':Pos}(hN:X.N.Nodup)(hi:X.N[i]?=some x)(hx:Loc X.env.scope x)(he:PE X e te)(hs:swapsWith e (some (.Name x pos')) pos.line X.env=pure false:=by rfl)(hf:X.fn x=true∨X.env.scope.names.lookup x=some .local:=by first|exact .inl rfl|exact .inr rfl|assumption):
  PS X (.Assign [.Name x pos'] e pos) (KA te (Bn i)):=by
 intro pins s σ H D I h;refine wpAny_Assign_Name (cG (he pins s σ H _ I h) fun v s1 ⟨y,H1,I1,r1,q1⟩=>?_) hs;exact yB I1 hN hi hx r1 (fun s2 I2=>⟨_,H1,I2,q1⟩) hf
end
section
variable{X:Cx}{pos:Pos}
def KC(c:TT)(tb:TS):TS:=fun D σ H=>∃W:Nat→St→Hp→Prop,(∃m,W m σ H)∧∀m σ H,W m σ H→
 c σ H fun b H1=>if b=true then ∃N:St→Hp→Prop,(∀bj H',N bj H'→∃m',m'<m∧W m' bj H')∧tb {D with nx:=N,ct:=N,bk:=D.nx} σ H1 else D.nx σ H1
theorem sY{c:Expr}{body:List Stmt}{tc:TT}{tb:TS}(hp:PassesOwn (model X.prog X.w) X.A X.env X.xe)(hc:PT X c tc)(hb:Cu X body tb):PS X (.While c body [] pos) (KC tc tb):=by
 intro pins s σ H D I h;obtain⟨W,⟨m0,w0⟩,turn⟩:=h;refine wpAny_While (codeAny_whileLoop (fun n s'=>∃bj H',Inv X pins bj H' s'∧W n bj H') ?_ m0 ⟨σ,H,I,w0⟩);rintro n s1 ⟨MI,H1,I1,w1⟩;refine wpAny_passesOwn hp (cG (hc pins s1 MI H1 _ I1 (turn n MI H1 w1)) fun b s2 ⟨H2,I2,q2⟩=>?_);cases b with
 |true=>
  obtain⟨N,hN,q2⟩:=q2;rw[if_pos rfl];refine wpAny_passesOwn hp (cG (hb pins s2 MI H2 _ I2 q2) fun f s3 q3=>?_);cases f with
  |next=>
   obtain⟨Eb,H3,I3,n3⟩:=q3;obtain⟨m',hm,w3⟩:=hN Eb H3 n3;exact⟨m',hm,Eb,H3,I3,w3⟩
  |cont=>
   obtain⟨Eb,H3,I3,n3⟩:=q3;obtain⟨m',hm,w3⟩:=hN Eb H3 n3;exact⟨m',hm,Eb,H3,I3,w3⟩
  |brk=>exact q3
  |ret v=>exact q3
 |false=>
  rw[Dy Bool.false_ne_true];exact wpAny_execs_nil ⟨MI,H2,I2,q2⟩
end
structure It where
 go:Nat→Hp→Prop
 G6:Nat→Hp→V→Hp→Prop
 stop:Nat→Hp→Prop
def iE(X:Cx)(pins:List (Addr×Obj))(H:Hp)(b:Addr):Prop:=
 H b=none∧b≠X.env.locals∧b∉X.fs∧(b∈X.ex∨X.dA.heap.objs.size≤b)∧(∀x c,X.env.cells.lookup x=some c→c≠b)∧∀p∈X.pn++pins,p.1≠b
theorem Inv.uP{X:Cx}{pins:List (Addr×Obj)}{σ:St}{H H':Hp}{s:Shared}{b:Addr}(I:Inv X pins σ H s)(hb:s.heap.objs.size≤b)(hn:H' b=none):iE X pins H' b:=by
 refine⟨hn,Nat.ne_of_gt (Θ I.lt hb),I.Ry hb, .inr (ZX I.sz hb),fun x c e z=>?_,fun p hp z=>?_⟩
 ·obtain⟨v,q⟩:=I.cell x c e;exact X7 (Θ q.lt (by rw[z];exact hb)) (Nat.lt_irrefl _)
 ·exact X7 (Θ (Z9 (I.pin p hp).1) (by rw[z];exact hb)) (Nat.lt_irrefl _)
structure Turn(P:Program)(w:World)(K:PySem.W.Frag)(tg:Expr)(J:It)(fp:List Addr)(it:Addr)(tn:Nat→Heap→Prop):Prop where
 mem:it∈fp
 obj:∀i h,tn i h→∀b∈fp,∃o,h.get? b=some o∧∀v,o.data≠ .cell v
 keep:∀i h h',tn i h→(∀b∈fp,∀o,h.get? b=some o→h'.get? b=some o)→tn i h'
 item:∀(X:Cx),X.prog=P→X.w=w→X.K=K→X.calm=true→∀(i:Nat)(pins:List (Addr×Obj))(s:Shared)(σ:St)(H:Hp)(E:Value→Shared→Prop),Inv X pins σ H s→(∀b∈fp,iE X pins H b)→tn i s.heap→J.go i H→
  wpAny (model P w) X.A (pyNext (.ref it)) (fun r s1=>∃u,r=some u∧
   wpAny (model P w) X.A (letOwnedTupleGo tg (.ref it) u) (fun _ s2=>∃x H',Inv X pins σ H' s2∧RelV x u∧J.G6 i H x H'∧tn (i+1) s2.heap∧∀b∈fp,H' b=none) E s1) E s
 done:∀(X:Cx),X.prog=P→X.w=w→X.K=K→X.calm=true→∀(i:Nat)(pins:List (Addr×Obj))(s:Shared)(σ:St)(H:Hp)(E:Value→Shared→Prop),Inv X pins σ H s→(∀b∈fp,iE X pins H b)→tn i s.heap→J.stop i H→
  wpAny (model P w) X.A (pyNext (.ref it)) (fun r s1=>r=none∧Inv X pins σ H s1) E s
 self:∀(A:Around)(i:Nat)(s:Shared)(Q:Value→Shared→Prop)(E:Value→Shared→Prop),tn i s.heap→Q (.ref it) s→wpAny (model P w) A (pyIter (.ref it)) Q E s
abbrev TI:=St→Hp→(It→Hp→Prop)→Prop
def RN(X:Cx)(pins:List (Addr×Obj))(σ:St)(tg:Expr)(R:It→Hp→Prop)(RO:Value)(s2:Shared):Prop:=
 ∃(it:Addr)(fp:List Addr)(tn:Nat→Heap→Prop)(J:It)(H':Hp),RO= .ref it∧Inv X pins σ H' s2∧Turn X.prog X.w X.K tg J fp it tn∧tn 0 s2.heap∧(∀b∈fp,iE X pins H' b)∧R J H'
def PI(X:Cx)(tg iter:Expr)(wi:TI):Prop:=
 ∀(pins:List (Addr×Obj))(s:Shared)(σ:St)(H:Hp)(R:It→Hp→Prop),Inv X pins σ H s→wi σ H R→
  wpAny (model X.prog X.w) X.A (eval iter X.env) (fun v s1=>wpAny (model X.prog X.w) X.A (pyIter v) (RN X pins σ tg R) X.xe s1) X.xe s
theorem yE{M:Model}{A:Around}{E:Value→Shared→Prop}{s:Shared}{tg:Expr}{it:Addr}{u:Value}{o:Obj}{n:String}{vs:Array Value}{Q:Unit→Shared→Prop}(ho:s.heap.get? it=some o)(hc:o.cls= .type n)(hd:o.data= .fields vs)
  (hn:["enumerate","zip","dict_itemiterator","dict_reverseitemiterator","odict_iterator","itertools.zip_longest","itertools.pairwise"].contains n=false) (hQ:Q () s):wpAny M A (letOwnedTupleGo tg (.ref it) u) Q E s:=by
 unfold letOwnedTupleGo;cases tg<;>first
  |exact Xs hQ
  |(cases u<;>first
    |exact Xs hQ
    |(refine wpAny_bind (wpAny_load ho ?_)
      rw[hc,hd];show wpAny M A (if (["enumerate","zip","dict_itemiterator","dict_reverseitemiterator","odict_iterator","itertools.zip_longest","itertools.pairwise"].contains n&&vs[0]?==some (rawInt _))=true then _ else _) Q E s;rw[Dy (by intro h;rw[hn,Bool.false_and]at h;cases h)];exact Xs hQ))
def MJ(K:PySem.W.Frag)(a:Addr):It:=
 ⟨fun i H=>∃xs x,iD K H a xs∧xs[i]?=some x,fun i H x H'=>H'=H∧∀xs,iD K H a xs→xs[i]?=some x,fun i H=>∃xs,iD K H a xs∧xs.length≤i⟩
def KD(lo:Int)(n:Nat):It:=⟨fun i _=>i<n,fun i H x H'=>H'=H∧x= .int (lo+i),fun i _=>n≤i⟩
theorem Cw{P:Program}{w:World}{K:PySem.W.Frag}{tg:Expr}(a it:Addr):Turn P w K tg (MJ K a) [it] it (fun i h=>h.IsListIter it a i) where
 mem:=MD
 obj:=fun i h st b hb=>by
  have e:b=it:=by simpa using hb
  subst e;obtain⟨o,e,c,d⟩:=st;exact⟨o,e,fun v z=>by rw[d]at z;cases z⟩
 keep:=fun i h h' st k=>st.at fun o e=>k it (MD) o e
 item:=by
  intro X hP hw hK hc i pins s σ H E I hf st hg;subst hP hw hK;obtain⟨xs,x,hq,hx⟩:=hg;obtain⟨its,rv,p,hz⟩:=I.list hq;obtain⟨u,hu,ru⟩:=rv.get hx;obtain⟨f0,f1,f2,f3,f4,f5⟩:=hf it (MD);refine wpAny_pyNext_list_item st p.isList (x:=u) (by simpa using hu) fun h' aU sb=>?_
  have I1:Inv X pins σ H {s with heap:=h'}:=I.turned (t':=s.toks) (fun b o hb e=>(sb.2 b hb).trans e) f0 f1 f3 f4 f5;obtain⟨o,e,c,d⟩:=id aU;exact⟨u,rfl,yE (s:={s with heap:=h'}) e c d (Sz) ⟨x,H,I1,ru,⟨rfl,fun ys hy=>by rw[I.yD hy hq];exact hx⟩,aU,fun b hb=>(hf b hb).1⟩⟩
 done:=by
  intro X hP hw hK hc i pins s σ H E I hf st hg;subst hP hw hK;obtain⟨xs,hq,hx⟩:=hg;obtain⟨its,rv,p,hz⟩:=I.list hq;obtain⟨f0,f1,f2,f3,f4,f5⟩:=hf it (MD);have hl:=rv.length;exact wpAny_pyNext_list_end (I.ok.hd hc) st p.isList (by simp;omega) fun h' eb=>⟨rfl,I.turned (t':=s.toks) (fun b o hb e=>eb b o hb e) f0 f1 f3 f4 f5⟩
 self:=fun _ _ _ _ _ st h=>wpAny_pyIter_listiter st h
theorem zZ{P:Program}{w:World}{K:PySem.W.Frag}{tg:Expr}(it:Addr)(lo:Int)(n:Nat):Turn P w K tg (KD lo n) [it] it (fun i h=>IsRangeIter h it (lo+(i:Nat)*1) ((n:Int)-(i:Nat)) 1) where
 mem:=MD
 obj:=fun i h st b hb=>by
  have e:b=it:=by simpa using hb
  subst e;exact⟨_,st,fun v z=>by
   have z':Data.fields _=Data.cell v:=z;cases z'⟩
 keep:=fun i h h' st k=>k it (MD) _ st
 item:=by
  intro X hP hw hK hc i pins s σ H E I hf st hg;subst hP hw hK;obtain⟨f0,f1,f2,f3,f4,f5⟩:=hf it (MD);have W:=Walks.range (prog:=X.prog) (w:=X.w) (I.ok.hd hc) it lo 1 n;refine W.item i s _ _ hg st fun v h' tk hv aU kk=>?_
  obtain⟨t,rfl⟩:=hv;have I1:Inv X pins σ H {s with heap:=h',toks:=tk}:=I.turned (fun b o hb e=>kk b o (by simpa using hb) e) f0 f1 f3 f4 f5;refine⟨_,rfl,yE (s:={s with heap:=h',toks:=tk}) (n:="range_iterator") aU rfl rfl (Sz) ⟨.int (lo+i),H,I1,⟨t,?_⟩,⟨rfl,rfl⟩,aU,fun b hb=>(hf b hb).1⟩⟩;rw[Int.mul_one]
 done:=by
  intro X hP hw hK hc i pins s σ H E I hf st hg;subst hP hw hK;obtain⟨f0,f1,f2,f3,f4,f5⟩:=hf it (MD);exact wpAny_pyNext_range_end (I.ok.hd hc) st (by have:n≤i:=hg;omega) fun h' eb=>⟨rfl,I.turned (t':=s.toks) (fun b o hb e=>eb b o hb e) f0 f1 f3 f4 f5⟩
 self:=fun _ _ _ _ _ st h=>wpAny_pyIter_rangeiter st h
section
variable{X:Cx}{tg:Expr}
def Jf(K:PySem.W.Frag)(tl:TE):TI:=fun σ H R=>tl σ H fun x H1=>∃a,x= .ref a∧(∃xs,iD K H1 a xs)∧R (MJ K a) H1
theorem G7{l:Expr}{tl:TE}(hl:PE X l tl):PI X tg l (Jf X.K tl):=by
 intro pins s σ H R I h;refine cG (hl pins s σ H _ I h) fun v s1 ⟨x,H1,I1,r1,q1⟩=>?_
 obtain⟨a,e,⟨xs,hq⟩,q⟩:=q1;subst e;cases r1;obtain⟨its,rv,p,hz⟩:=I1.list hq;refine wpAny_pyIter_list p.isList ?_;refine⟨s1.heap.objs.size,[s1.heap.objs.size],_,_,H1,rfl,I1.kept (t':=s1.toks) fun b o e=>ZE e,Cw a _,⟨_,Heap.get?_push_size _ rfl,rfl,rfl⟩,fun b hb=>?_,q⟩;have e:b=s1.heap.objs.size:=by simpa using hb
 subst e;exact I1.uP ZD (I1.bS.fresh ZD)
theorem Ec{pins:List (Addr×Obj)}{σ:St}{H:Hp}{s:Shared}{R:It→Hp→Prop}{E:Value→Shared→Prop}{lo hi:Int}{t u v:Tok}{tk:Nat}(I:Inv X pins σ H s)(h1:-(2^62)≤lo)(h2:lo<2^62)(h3:-(2^62)≤hi)(h4:hi<2^62)
  (q:R (KD lo (hi-lo).toNat) H):wpAny (model X.prog X.w) X.A (pyIter (.ref s.heap.objs.size)) (RN X pins σ tg R) E {s with heap:=s.heap.push {cls:= .type "range",data:= .fields #[.int lo t, .int hi u, .int 1 v]},toks:=tk}:=by
 refine wpAny_pyIter_range (IsRange.new ..) (small_one h1 h2 h3 h4) ?_;have I1:Inv X pins σ H {s with heap:=s.heap.push {cls:= .type "range",data:= .fields #[.int lo t, .int hi u, .int 1 v]},toks:=tk}:=I.kept fun b o e=>ZE e
 refine⟨(s.heap.push {cls:= .type "range",data:= .fields #[.int lo t, .int hi u, .int 1 v]}).objs.size,[(s.heap.push {cls:= .type "range",data:= .fields #[.int lo t, .int hi u, .int 1 v]}).objs.size],_,_,H,rfl,
  I1.kept (t':=tk) fun b o e=>ZE e,zZ _ lo (hi-lo).toNat,?_,fun b hb=>?_,q⟩
 ·have e1:lo+((0:Nat):Int)*1=lo:=MD;have e2:(((hi-lo).toNat:Nat):Int)-((0:Nat):Int)=Builtin.Range.rangeSize lo hi 1:=by rw[rangeSize_one];split<;>omega
  show IsRangeIter _ _ (lo+((0:Nat):Int)*1) ((((hi-lo).toNat:Nat):Int)-((0:Nat):Int)) 1;rw[e1,e2];exact Heap.get?_push_size _ rfl
 ·have e:b=(s.heap.push {cls:= .type "range",data:= .fields #[.int lo t, .int hi u, .int 1 v]}).objs.size:=by simpa using hb
  subst e;exact I1.uP ZD (I1.bS.fresh ZD)
def NR(ta:TA):TI:=fun σ H R=>ta σ H fun vs H1=>∃j:Int,vs=[.int j]∧-(2^62)≤j∧j<2^62∧R (KD 0 j.toNat) H1
theorem eC{a:Expr}{ta:TA}{p pos:Pos}(hg:Gl X "range")(hm:X.mg "range"=none)(ha:PA X [a] ta)(hs:starEach [a] X.env=[(false,eval a X.env)]:=by rfl):PI X tg (.Call (.Name "range" p) [a] [] pos) (NR ta):=by
 intro pins s σ H R I h;refine Call_ (lJ I hg hm boot_range (PyProof.Rows.callWith_type1 (cG (ha pos pins s σ H _ I h) fun us s1 ⟨vs,H1,I1,r1,q1⟩=>?_) hs rfl));obtain⟨j,e,q1,q2,q⟩:=q1;subst e;cases r1 with
 |cons r rr=>
  cases rr;obtain⟨t,rfl⟩:=r;exact call_range_1 (Ec I1 (ZF) (ZF) q1 q2 (by simpa using q))
def RP(wi:TI)(g:TG)(tb:TS):TS:=fun D σ H=>wi σ H fun J H1=>∃W:Nat→Nat→St→Hp→Prop,(∃m,W 0 m σ H1)∧∀i m σ H,W i m σ H→
 (J.stop i H∧D.nx σ H)∨(J.go i H∧∃N:St→Hp→Prop,(∀bj H',N bj H'→∃m',m'<m∧W (i+1) m' bj H')∧∀x H',J.G6 i H x H'→g x σ H' fun fF H2=>tb {D with nx:=N,ct:=N,bk:=D.nx} fF H2)
def sZ(fp:List Addr)(h:Heap):List (Addr×Obj):=fp.filterMap fun b=>(h.get? b).map fun o=>(b,o)
theorem gQ{fp:List Addr}{h:Heap}{b:Addr}{o:Obj}(hb:b∈fp)(e:h.get? b=some o):(b,o)∈sZ fp h:=List.mem_filterMap.mpr ⟨b,hb,by rw[e];rfl⟩
theorem Cy{fp:List Addr}{h:Heap}{p:Addr×Obj}(hp:p∈sZ fp h):p.1∈fp∧h.get? p.1=some p.2:=by
 obtain⟨b,hb,e⟩:=List.mem_filterMap.mp hp;cases q:h.get? b with
 |none=>rw[q]at e;cases e
 |some o=>
  rw[q]at e;have e':(b,o)=p:=YA e;subst e';exact⟨hb,q⟩
theorem Inv.pinned{pins:List (Addr×Obj)}{σ:St}{H:Hp}{s:Shared}{fp:List Addr}(I:Inv X pins σ H s)(hf:∀b∈fp,iE X pins H b)(ho:∀b∈fp,∃o,s.heap.get? b=some o∧∀v,o.data≠ .cell v):Inv X (pins++sZ fp s.heap) σ H s:=
 I.Bk fun p hp=>(List.mem_append.mp hp).elim (fun z=>I.pin p (ZU z)) fun z=>by
  obtain⟨hb,e⟩:=Cy z;obtain⟨f0,f1,f2,_⟩:=hf p.1 hb;obtain⟨o,e',d⟩:=ho p.1 hb;rw[e]at e';cases e';exact⟨e,f0,f1,f2,d⟩
theorem Inv.lL{pins pl:List (Addr×Obj)}{σ:St}{H:Hp}{s:Shared}(I:Inv X (pins++pl) σ H s):Inv X pins σ H s:=I.Bk fun p hp=>I.pin p (ZU (Ι hp))
theorem bF{iter:Expr}{body:List Stmt}{wi:TI}{g:TG}{tb:TS}{pos:Pos}(hp:PassesOwn (model X.prog X.w) X.A X.env X.xe)(hc:X.calm=true)(hi:PI X tg iter wi)(hg:PG X tg g)(hb:Cu X body tb)
  (hs:∀x,foldedSetIterable iter X.env x=pure x:=by intro _;rfl):PS X (.For tg iter body [] pos) (RP wi g tb):=by
 intro pins s σ H D I h;refine wpAny_For (cG (hi pins s σ H _ I h) fun v s1 h1=>cG h1 fun RO s2 h2=>?_) hs;obtain⟨it,fp,tn,J,H2,e,I2,T,dR,f2,W,⟨m0,w0⟩,turn⟩:=h2;subst e;have z9:∀{H':Hp},(∀b∈fp,H' b=none)→∀b∈fp,iE X pins H' b:=fun hn b hb=>⟨hn b hb,(f2 b hb).2⟩
 refine codeAny_forLoop_any (fun n s'=>∃i bj H',Inv X pins bj H' s'∧tn i s'.heap∧(∀b∈fp,H' b=none)∧W i n bj H') ?_ m0 ⟨0,σ,H2,I2,dR,fun b hb=>(f2 b hb).1,w0⟩;rintro n s3 ⟨i,Eb,H3,I3,Ed,MK,w3⟩;rcases turn i n Eb H3 w3 with⟨stop,qn⟩|⟨go,N,hN,step⟩
 ·refine wpAny_passesOwn hp (cG (T.done X rfl rfl rfl hc i pins s3 Eb H3 X.xe I3 (z9 MK) Ed stop) fun r s4 ⟨hr,I4⟩=>?_);subst hr;exact wpAny_execs_nil ⟨Eb,H3,I4,qn⟩
 ·refine wpAny_passesOwn hp (cG (T.item X rfl rfl rfl hc i pins s3 Eb H3 X.xe I3 (z9 MK) Ed go) fun r s4 ⟨u,hr,h4⟩=>?_);subst hr;refine wpAny_passesOwn hp (cG h4 fun _ s5 ⟨x,H5,I5,r5,y5,MN,Qk⟩=>?_);have WY:=I5.pinned (z9 Qk) (T.obj _ _ MN);refine wpAny_passesOwn hp (cG (hg _ s5 Eb H5 x u _ WY r5 (step x H5 y5)) fun _ s6 ⟨WZ,H6,I6,q6⟩=>?_);refine wpAny_passesOwn hp (cG (hb _ s6 WZ H6 _ I6 q6) fun f s7 q7=>?_);have again:∀{Ee:St}{H7:Hp},Inv X (pins++sZ fp s5.heap) Ee H7 s7→N Ee H7→∃m,m<n∧∃i bj H',Inv X pins bj H' s7∧tn i s7.heap∧(∀b∈fp,H' b=none)∧W i m bj H':=fun{Ee H7} I7 n7=>by
   obtain⟨m',hm,w7⟩:=hN Ee H7 n7;refine⟨m',hm,i+1,Ee,H7,I7.lL,T.keep _ _ _ MN fun b hb o e=>(I7.pin (b,o) (ZU (ZU (gQ hb e)))).1,fun b hb=>?_,w7⟩;obtain⟨o,e,d⟩:=T.obj _ _ MN b hb;exact(I7.pin (b,o) (ZU (ZU (gQ hb e)))).2.1
  cases f with
  |next=>obtain⟨Ee,H7,I7,n7⟩:=q7;exact again I7 n7
  |cont=>obtain⟨Ee,H7,I7,n7⟩:=q7;exact again I7 n7
  |brk=>obtain⟨Ee,H7,I7,q7⟩:=q7;exact⟨Ee,H7,I7.lL,q7⟩
  |ret v=>obtain⟨x7,Ee,H7,I7,r7,q7⟩:=q7;exact⟨x7,Ee,H7,I7.lL,r7,q7⟩
end
theorem bU{K:PySem.W.Frag}{a:Addr}{xs:List V}{g:TG}{tb:TS}{D:Ends}{σ:St}{H:Hp}(Pv:Nat→St→Hp→Prop)(h0:Pv 0 σ H)(hl:∀i σ H,i≤xs.length→Pv i σ H→iD K H a xs)
  (hs:∀i x σ H,xs[i]?=some x→Pv i σ H→g x σ H fun fF H2=>tb {D with nx:=Pv (i+1),ct:=Pv (i+1),bk:=D.nx} fF H2) (hd:∀σ H,Pv xs.length σ H→D.nx σ H):
  ∃W:Nat→Nat→St→Hp→Prop,(∃m,W 0 m σ H)∧∀i m σ H,W i m σ H→
   ((MJ K a).stop i H∧D.nx σ H)∨((MJ K a).go i H∧∃N:St→Hp→Prop,(∀bj H',N bj H'→∃m',m'<m∧W (i+1) m' bj H')∧∀x H',(MJ K a).G6 i H x H'→g x σ H' fun fF H2=>tb {D with nx:=N,ct:=N,bk:=D.nx} fF H2):=by
 refine⟨fun i m σ H=>m=xs.length-i∧i≤xs.length∧Pv i σ H,⟨xs.length,MD,Nat.zero_le _,h0⟩,?_⟩;rintro i m σ H ⟨rfl,hi,p⟩;have q:=hl i σ H hi p;by_cases il:i<xs.length
 ·refine .inr ⟨⟨xs,xs[i],q,by simp[il]⟩,Pv (i+1),fun bj H' p'=>⟨xs.length-(i+1),ZF,rfl,il,p'⟩,fun x H' y=>?_⟩;obtain⟨e,y⟩:=y;subst e;exact hs i x σ _ (y xs q) p
 ·have e:i=xs.length:=ZF;subst e;exact .inl ⟨⟨xs,q,Nat.le_refl _⟩,hd σ H p⟩
theorem ft{lo:Int}{n:Nat}{g:TG}{tb:TS}{D:Ends}{σ:St}{H:Hp}(Pv:Nat→St→Hp→Prop)(h0:Pv 0 σ H)
  (hs:∀i σ H,i<n→Pv i σ H→g (.int (lo+i)) σ H fun fF H2=>tb {D with nx:=Pv (i+1),ct:=Pv (i+1),bk:=D.nx} fF H2) (hd:∀σ H,Pv n σ H→D.nx σ H):
  ∃W:Nat→Nat→St→Hp→Prop,(∃m,W 0 m σ H)∧∀i m σ H,W i m σ H→
   ((KD lo n).stop i H∧D.nx σ H)∨((KD lo n).go i H∧∃N:St→Hp→Prop,(∀bj H',N bj H'→∃m',m'<m∧W (i+1) m' bj H')∧∀x H',(KD lo n).G6 i H x H'→g x σ H' fun fF H2=>tb {D with nx:=N,ct:=N,bk:=D.nx} fF H2):=by
 refine⟨fun i m σ H=>m=n-i∧i≤n∧Pv i σ H,⟨n,MD,Nat.zero_le _,h0⟩,?_⟩;rintro i m σ H ⟨rfl,hi,p⟩;by_cases il:i<n
 ·refine .inr ⟨il,Pv (i+1),fun bj H' p'=>⟨n-(i+1),ZF,rfl,il,p'⟩,fun x H' y=>?_⟩;obtain⟨e,y⟩:=y;subst e y;exact hs i σ _ il p
 ·have e:i=n:=ZF;subst e;exact .inl ⟨Nat.le_refl _,hd σ H p⟩
abbrev R2:=V→V→Hp→VK→Prop
def rV(X:Cx)(f:Value→Value→Sem Value)(r:R2):Prop:=
 ∀(pins:List (Addr×Obj))(s:Shared)(σ:St)(H:Hp)(x y:V)(v u:Value)(Q:VK),Inv X pins σ H s→RelV x v→RelV y u→r x y H Q→
  wpAny (model X.prog X.w) X.A (f v u) (EP X pins σ Q) X.xe s
def RQ(X:Cx)(f:Value→Sem Value)(r:V→Hp→VK→Prop):Prop:=
 ∀(pins:List (Addr×Obj))(s:Shared)(σ:St)(H:Hp)(x:V)(v:Value)(Q:VK),Inv X pins σ H s→RelV x v→r x H Q→
  wpAny (model X.prog X.w) X.A (f v) (EP X pins σ Q) X.xe s
def iJ(X:Cx)(f:Value)(r:List V→Hp→VK→Prop):Prop:=
 ∀(pins:List (Addr×Obj))(s:Shared)(σ:St)(H:Hp)(xs:List V)(us:List Value)(Q:VK),Inv X pins σ H s→Vals xs us→r xs H Q→
  wpAny (model X.prog X.w) X.A (call f us) (EP X pins σ Q) X.xe s
def Ql(r:R2)(ta tb:TE):TE:=fun σ H Q=>ta σ H fun x H1=>tb σ H1 fun y H2=>r x y H2 Q
def W0(r:V→Hp→VK→Prop)(ta:TE):TE:=fun σ H Q=>ta σ H fun x H1=>r x H1 Q
inductive rI(C:Int→Int→Prop)(g:Int→Int→V)(x:V)(y:V)(H:Hp)(Q:VK):Prop
 |mk (i:_) (j:_) (_:x= .int i) (_:y= .int j) (_:C i j) (_:Q (g i j) H):rI C g x y H Q
inductive G8(g:Int→Int→V)(x:V)(y:V)(H:Hp)(Q:VK):Prop
 |mk (i:_) (j:_) (_:x= .int i) (_:y= .int j) (_:Q (g i j) H):G8 g x y H Q
inductive rU(g:Int→V)(x:V)(H:Hp)(Q:VK):Prop
 |mk (i:_) (_:x= .int i) (_:Q (g i) H):rU g x H Q
section
variable{X:Cx}{a b c:Expr}{ta tb tc:TE}{pos:Pos}
theorem KG(ha:PE X a ta)(hb:PE X b tb){pins:List (Addr×Obj)}{s:Shared}{σ:St}{H:Hp}{R:V→V→Hp→Prop}(I:Inv X pins σ H s)
  (h:ta σ H fun x H1=>tb σ H1 fun y H2=>R x y H2) {Q:Value→Shared→Prop} {f:Value→Value→Sem Value}
  (hf:∀v u s2 x y H2,Inv X pins σ H2 s2→RelV x v→RelV y u→R x y H2→wpAny (model X.prog X.w) X.A (f v u) Q X.xe s2):
  wpAny (model X.prog X.w) X.A (eval a X.env) (fun v cc=>wpAny (model X.prog X.w) X.A (eval b X.env) (fun u qm=>wpAny (model X.prog X.w) X.A (f v u) Q X.xe qm) X.xe cc) X.xe s:=by
 refine cG (ha pins s σ H _ I h) fun v s1 ⟨x,H1,I1,r1,q1⟩=>?_
 refine cG (hb pins s1 σ H1 _ I1 q1) fun u s2 ⟨y,H2,I2,r2,q2⟩=>?_
 exact hf v u s2 x y H2 I2 r1 r2 q2
theorem aI{op:Operator}{r:R2}(ho:rV X (binaryOp op) r)(ha:PE X a ta)(hb:PE X b tb):PE X (.BinOp a op b pos) (Ql r ta tb):=by
 intro pins s σ H Q I h;exact wpAny_BinOp (KG ha hb I h fun v u s2 x y H2 I2 rx ry q=>ho pins s2 σ H2 x y v u Q I2 rx ry q)
theorem rC{op:UnaryOp}{r:V→Hp→VK→Prop}(ho:RQ X (unaryOp op) r)(ha:PE X a ta):PE X (.UnaryOp op a pos) (W0 r ta):=by
 intro pins s σ H Q I h;exact UnaryOp_ (cG (ha pins s σ H _ I h) fun v s1 ⟨x,H1,I1,r1,q1⟩=>ho pins s1 σ H1 x v Q I1 r1 q1)
theorem RR{f:Value→Value→Sem Value}{C:Int→Int→Prop}{g:Int→Int→Int}
  (rule:∀(i j:Int)(t u:Tok)(s:Shared)(Q:Value→Shared→Prop)(E:Value→Shared→Prop),C i j→Q (.int (g i j) s.toks) {s with toks:=s.toks+1}→wpAny (model X.prog X.w) X.A (f (.int i t) (.int j u)) Q E s):
  rV X f (rI C fun i j=> .int (g i j)):=by
 intro pins s σ H x y v u Q I rx ry h;obtain⟨i,j,rfl,rfl,hc,q⟩:=h;obtain⟨t,rfl⟩:=rx;obtain⟨t',rfl⟩:=ry;exact rule i j t t' s _ _ hc ⟨.int (g i j),H,I.tok _,⟨_,rfl⟩,q⟩
theorem NU{f:Value→Value→Sem Value}{g:Int→Int→Int}
  (rule:∀(i j:Int)(t u:Tok)(s:Shared)(Q:Value→Shared→Prop)(E:Value→Shared→Prop),Q (.int (g i j) s.toks) {s with toks:=s.toks+1}→wpAny (model X.prog X.w) X.A (f (.int i t) (.int j u)) Q E s):
  rV X f (G8 fun i j=> .int (g i j)):=by
 intro pins s σ H x y v u Q I rx ry h;obtain⟨i,j,rfl,rfl,q⟩:=h;obtain⟨t,rfl⟩:=rx;obtain⟨t',rfl⟩:=ry;exact rule i j t t' s _ _ ⟨.int (g i j),H,I.tok _,⟨_,rfl⟩,q⟩
theorem G9{f:Value→Value→Sem Value}{g:Int→Int→Bool}
  (rule:∀(i j:Int)(t u:Tok)(s:Shared)(Q:Value→Shared→Prop)(E:Value→Shared→Prop),Q (.bool (g i j)) s→wpAny (model X.prog X.w) X.A (f (.int i t) (.int j u)) Q E s):
  rV X f (G8 fun i j=> .bl (g i j)):=by
 intro pins s σ H x y v u Q I rx ry h;obtain⟨i,j,rfl,rfl,q⟩:=h;obtain⟨t,rfl⟩:=rx;obtain⟨t',rfl⟩:=ry;exact rule i j t t' s _ _ ⟨.bl (g i j),H,I,rfl,q⟩
def KH(i j:Int):Prop:=0<j∧j<1073741824
def KI(i j:Int):Prop:=(-(2^64)<i∧i<2^64)∨(-(2^64)<j∧j<2^64)
theorem KI.ok{i j:Int}(h:KI i j):IntMulOk i j:=by
 rcases h with⟨h1,h2⟩|⟨h1,h2⟩
 ·exact .of_left (intBits_le_64 h1 h2)
 ·exact .of_right (intBits_le_64 h1 h2)
theorem bD:rV X (binaryOp .Add) (G8 fun i j=> .int (i+j)):=NU fun _ _ _ _ _ _ _ q=>add_int q
theorem cq:rV X (binaryOp .Sub) (G8 fun i j=> .int (i-j)):=NU fun _ _ _ _ _ _ _ q=>sub_int q
theorem nB:rV X (binaryOp .Mult) (rI KI fun i j=> .int (i*j)):=RR fun _ _ _ _ _ _ _ hc q=>mul_int q hc.ok
theorem dF:rV X (binaryOp .FloorDiv) (rI KH fun i j=> .int (i/j)):=RR fun i j _ _ _ _ _ hc q=>by
 have h1:(0:Int)<j:=hc.1;have h2:j<1073741824:=hc.2;exact floordiv_int (ZF) (by rw[Int.fdiv_eq_ediv_of_nonneg i (ZF)];exact q) (.inl (PyProof.noPylong_small (ZF)))
theorem bM:rV X (binaryOp .Mod) (rI (fun _ j=>0<j) fun i j=> .int (i%j)):=RR fun i j _ _ _ _ _ hc q=>by
 have h1:(0:Int)<j:=hc;exact mod_int' (ZF) (by rw[Int.fmod_eq_emod_of_nonneg i (ZF)];exact q)
theorem W4{f:Value→Sem Value}{g:Int→Int}
  (rule:∀(i:Int)(t:Tok)(s:Shared)(Q:Value→Shared→Prop)(E:Value→Shared→Prop),Q (.int (g i) s.toks) {s with toks:=s.toks+1}→wpAny (model X.prog X.w) X.A (f (.int i t)) Q E s):
  RQ X f (rU fun i=> .int (g i)):=by
 intro pins s σ H x v Q I rx h;obtain⟨i,rfl,q⟩:=h;obtain⟨t,rfl⟩:=rx;exact rule i t s _ _ ⟨.int (g i),H,I.tok _,⟨_,rfl⟩,q⟩
theorem lM:RQ X (unaryOp .USub) (rU fun i=> .int (-i)):=W4 fun _ _ _ _ _ q=>neg_int q
end
def NV:V→V→Bool
 | .cL, .cL=>true| .cL, .int _=>true| .int _, .cL=>true| .cL, .bl _=>true| .bl _, .cL=>true| .cL, .str _=>true| .str _, .cL=>true
 | .int _, .int _=>true| .bl _, .bl _=>true| .str _, .str _=>true| .Cr _, .Cr _=>true
 | .int _, .str _=>true| .str _, .int _=>true| .bl _, .str _=>true| .str _, .bl _=>true
 | _,_=>false
def W5:R2:=fun x y H Q=>NV x y=true∧Q (.bl (decide (x=y))) H
def W6:R2:=fun x y H Q=>NV x y=true∧Q (.bl (!decide (x=y))) H
theorem Bo{i j:Int}:decide (V.int i=V.int j)=(i==j):=by
 rw[Bool.eq_iff_iff];simp
theorem Ef{i j:Bool}:decide (V.bl i=V.bl j)=(i==j):=by
 rw[Bool.eq_iff_iff];simp
theorem Bp{i j:Str}:decide (V.str i=V.str j)=(i==j):=by
 rw[Bool.eq_iff_iff];simp
theorem Br{i j:Array UInt8}:decide (V.Cr i=V.Cr j)=(i.toList==j.toList):=by
 rw[Bool.eq_iff_iff];cases i;cases j;simp
section
variable{X:Cx}{a b c:Expr}{ta tb tc:TE}{pos:Pos}
theorem bG{pins:List (Addr×Obj)}{σ:St}{H:Hp}{s:Shared}{Q:VK}{k k':Bool}(I:Inv X pins σ H s)(q:Q (.bl k) H)(e:k=k'):EP X pins σ Q (.bool k') s:=by
 subst e;exact⟨.bl k,H,I,rfl,q⟩
theorem jb:rV X (compareOp .Eq) W5:=by
 intro pins s σ H x y v u Q I rx ry h;obtain⟨hs,q⟩:=h;cases x with
 |cL=>
  cases rx;cases y with
  |cL=>cases ry;exact PySem.EqNone.eq_none_none Zt
  |bl j=>cases ry;exact PySem.EqNone.eq_none_bool Zt
  |int j=>obtain⟨t',rfl⟩:=ry;exact PySem.EqNone.eq_none_int Zt
  |str j=>obtain⟨t',rfl⟩:=ry;exact PySem.EqNone.eq_none_str Zt
  | _=>exact Ζ (show false=true from hs)
 |bl i=>
  cases rx;cases y with
  |cL=>cases ry;exact PySem.EqNone.eq_bool_none Zt
  |bl j=>cases ry;exact eq_bool (bG I q Ef)
  |str j=>obtain⟨t',rfl⟩:=ry;exact PySem.EqMixed.eq_bool_str Zt
  | _=>exact Ζ (show false=true from hs)
 |int i=>
  obtain⟨t,rfl⟩:=rx;cases y with
  |cL=>cases ry;exact PySem.EqNone.eq_int_none Zt
  |int j=>obtain⟨t',rfl⟩:=ry;exact eq_int (bG I q Bo)
  |str j=>obtain⟨t',rfl⟩:=ry;exact PySem.EqMixed.eq_int_str Zt
  | _=>exact Ζ (show false=true from hs)
 |str i=>
  obtain⟨t,rfl⟩:=rx;cases y with
  |cL=>cases ry;exact PySem.EqNone.eq_str_none Zt
  |bl j=>cases ry;exact PySem.EqMixed.eq_str_bool Zt
  |int j=>obtain⟨t',rfl⟩:=ry;exact PySem.EqMixed.eq_str_int Zt
  |str j=>obtain⟨t',rfl⟩:=ry;exact eq_str (bG I q Bp)
  | _=>exact Ζ (show false=true from hs)
 |Cr i=>
  obtain⟨t,rfl⟩:=rx;cases y with
  |Cr j=>obtain⟨t',rfl⟩:=ry;exact PySem.W.eq_bytes (bG I q Br)
  | _=>exact Ζ (show false=true from hs)
 | _=>cases y<;>exact Ζ (show false=true from hs)
theorem vH:rV X (compareOp .NotEq) W6:=by
 intro pins s σ H x y v u Q I rx ry h;obtain⟨hs,q⟩:=h;cases x with
 |cL=>
  cases rx;cases y with
  |cL=>cases ry;exact PySem.EqNone.ne_none_none Zt
  |bl j=>cases ry;exact PySem.EqNone.ne_none_bool Zt
  |int j=>obtain⟨t',rfl⟩:=ry;exact PySem.EqNone.ne_none_int Zt
  |str j=>obtain⟨t',rfl⟩:=ry;exact PySem.EqNone.ne_none_str Zt
  | _=>exact Ζ (show false=true from hs)
 |bl i=>
  cases rx;cases y with
  |cL=>cases ry;exact PySem.EqNone.ne_bool_none Zt
  |bl j=>cases ry;exact ne_bool (bG I q (congrArg not Ef))
  |str j=>obtain⟨t',rfl⟩:=ry;exact PySem.EqMixed.ne_bool_str Zt
  | _=>exact Ζ (show false=true from hs)
 |int i=>
  obtain⟨t,rfl⟩:=rx;cases y with
  |cL=>cases ry;exact PySem.EqNone.ne_int_none Zt
  |int j=>obtain⟨t',rfl⟩:=ry;exact ne_int (bG I q (congrArg not Bo))
  |str j=>obtain⟨t',rfl⟩:=ry;exact PySem.EqMixed.ne_int_str Zt
  | _=>exact Ζ (show false=true from hs)
 |str i=>
  obtain⟨t,rfl⟩:=rx;cases y with
  |cL=>cases ry;exact PySem.EqNone.ne_str_none Zt
  |bl j=>cases ry;exact PySem.EqMixed.ne_str_bool Zt
  |int j=>obtain⟨t',rfl⟩:=ry;exact PySem.EqMixed.ne_str_int Zt
  |str j=>obtain⟨t',rfl⟩:=ry;exact ne_str (bG I q (congrArg not Bp))
  | _=>exact Ζ (show false=true from hs)
 |Cr i=>
  obtain⟨t,rfl⟩:=rx;cases y with
  |Cr j=>obtain⟨t',rfl⟩:=ry;exact PySem.W.ne_bytes (bG I q (congrArg not Br))
  | _=>exact Ζ (show false=true from hs)
 | _=>cases y<;>exact Ζ (show false=true from hs)
theorem mY:rV X (compareOp .Lt) (G8 fun i j=> .bl (decide (i<j))):=G9 fun _ _ _ _ _ _ _ q=>lt_int q
theorem Bs:rV X (compareOp .LtE) (G8 fun i j=> .bl (decide (i≤j))):=G9 fun _ _ _ _ _ _ _ q=>le_int q
theorem rD:rV X (compareOp .Gt) (G8 fun i j=> .bl (decide (j<i))):=G9 fun _ _ _ _ _ _ _ q=>gt_int q
theorem Bt:rV X (compareOp .GtE) (G8 fun i j=> .bl (decide (j≤i))):=G9 fun _ _ _ _ _ _ _ q=>ge_int q
theorem aV(b:Expr){op:CmpOp}(h:op≠ .In:=by decide)(h2:op≠ .NotIn:=by decide):behindInMarks op b=false:=by
 have e1:(op==CmpOp.In)=false:=by cases op<;>first|rfl|exact absurd rfl h
 have e2:(op==CmpOp.NotIn)=false:=by cases op<;>first|rfl|exact absurd rfl h2
 cases b<;>simp[behindInMarks,e1,e2]
theorem iO{op:CmpOp}{r:R2}(ho:rV X (compareOp op) r)(ha:PE X a ta)(hb:PE X b tb)(hm:behindInMarks op b=false):PE X (.Compare a [op] [b] pos) (Ql r ta tb):=by
 intro pins s σ H Q I h;exact wpAny_Compare1 (KG ha hb I h fun v u s2 x y H2 I2 rx ry q=>ho pins s2 σ H2 x y v u Q I2 rx ry q) hm
def NW(t:TE):TT:=fun σ H Q=>t σ H fun x H'=>∃k,x= .bl k∧Q k H'
theorem aT{op:CmpOp}{r:R2}(ho:rV X (compareOp op) r)(ha:PE X a ta)(hb:PE X b tb)(hm:behindInMarks op b=false):PT X (.Compare a [op] [b] pos) (NW (Ql r ta tb)):=by
 intro pins s σ H Q I h;refine wpAny_isTrue_Compare1 (cG (ha pins s σ H _ I h) fun v s1 ⟨x,H1,I1,r1,q1⟩=>cG (hb pins s1 σ H1 _ I1 q1) fun u s2 ⟨y,H2,I2,r2,q2⟩=>
  cG (ho pins s2 σ H2 x y v u _ I2 r1 r2 q2) fun c s3 ⟨z,H3,I3,r3,k,e,q3⟩=>?_) hm
 subst e;cases r3;exact wpAny_truthy_bool ⟨H3,I3,q3⟩
theorem qo:(sizeLine:Nat)<2^63:=by rw[sizeLine_eq];decide
theorem nC:rV X (binaryOp .Add) (fun x y H Q=>∃i j,x= .str i∧y= .str j∧i.length+j.length≤sizeLine∧Q (.str (i++j)) H):=by
 intro pins s σ H x y v u Q I rx ry h;obtain⟨i,j,rfl,rfl,hz,q⟩:=h;obtain⟨t,rfl⟩:=rx;obtain⟨t',rfl⟩:=ry;exact add_str (fun t' tk=>⟨.str (i++j),H,I.tok _,⟨_,rfl⟩,q⟩) hz
theorem vals1{x:V}{us:List Value}(r:Vals [x] us):∃u,us=[u]∧RelV x u:=by
 cases r with
 |cons r1 r2=>cases r2;exact⟨_,rfl,r1⟩
theorem vals2{x y:V}{us:List Value}(r:Vals [x,y] us):∃u w',us=[u,w']∧RelV x u∧RelV y w':=by
 cases r with
 |cons r1 r2=>
  cases r2 with
  |cons r3 r4=>cases r4;exact⟨_,_,rfl,r1,r3⟩
theorem Cz(hc:X.calm=true):iJ X (.builtin "max") (fun xs H Q=>∃i j,xs=[.int i, .int j]∧Q (.int (if j>i then j else i)) H):=by
 intro pins s σ H xs us Q I r h;obtain⟨i,j,rfl,q⟩:=h;obtain⟨u,w',rfl,⟨t,rfl⟩,⟨t',rfl⟩⟩:=vals2 r;refine max_two_ints (I.ok.hd hc) fun h' tk k=>⟨_,H,I.kept k,?_,q⟩
 by_cases hj:j>i
 ·rw[Hz hj,Hz hj];exact⟨_,rfl⟩
 ·rw[Dy hj,Dy hj];exact⟨_,rfl⟩
theorem qp(hc:X.calm=true):iJ X (.builtin "min") (fun xs H Q=>∃i j,xs=[.int i, .int j]∧Q (.int (if j<i then j else i)) H):=by
 intro pins s σ H xs us Q I r h;obtain⟨i,j,rfl,q⟩:=h;obtain⟨u,w',rfl,⟨t,rfl⟩,⟨t',rfl⟩⟩:=vals2 r;refine min_two_ints (I.ok.hd hc) fun h' tk k=>⟨_,H,I.kept k,?_,q⟩
 by_cases hj:j<i
 ·rw[Hz hj,Hz hj];exact⟨_,rfl⟩
 ·rw[Dy hj,Dy hj];exact⟨_,rfl⟩
theorem qr:iJ X (.type "int") (fun xs H Q=>(∃i,xs=[.int i]∧Q (.int i) H)∨∃k,xs=[.bl k]∧Q (.int (if k then 1 else 0)) H):=by
 intro pins s σ H xs us Q I r h;rcases h with⟨i,rfl,q⟩|⟨k,rfl,q⟩
 ·obtain⟨u,rfl,t,rfl⟩:=vals1 r;exact call_int_int ⟨.int i,H,I,⟨_,rfl⟩,q⟩
 ·obtain⟨u,rfl,r1⟩:=vals1 r;cases r1;exact call_int_bool ⟨.int (if k then 1 else 0),H,I.tok _,⟨_,rfl⟩,q⟩
end
structure z_(h:Heap)(x dx C:Addr)(mA:Str→Option Value):Prop where
 obj:h.get? x=some (PySem.W.instObj C dx)
 ns:h.Ns1 dx mA
 ne:dx≠x
theorem CA{h:Heap}{dx:Addr}{mA:Str→Option Value}(n:h.Ns1 dx mA):∃od,h.get? dx=some od∧∀name,PySem.W.lookIn name od=some (mA name):=by
 obtain⟨o,es,ep,ho,hd,hk,_,hm⟩:=n;refine⟨o,ho,fun name=>?_⟩;have e:=hm name;unfold nsFind findBy at e;rw[←Array.find?_toList]at e;unfold PySem.W.lookIn;rw[hd];dsimp only;split
 ·rename_i y q
  rw[q]at e;exact congrArg some e
 ·rename_i q
  rw[q]at e;have a:es.toList.any (·.refKey)=false:=by
   rw[List.any_eq_false];intro y hy;obtain⟨z,t,oI⟩:=hk y (Array.mem_toList_iff.mp hy);simp[DictEntry.refKey,oI]
  have a':¬es.toList.any (·.refKey)=true:=by rw[a];exact Bool.false_ne_true
  rw[Dy a'];exact congrArg some e
theorem z_.look{h:Heap}{x dx C:Addr}{mA:Str→Option Value}(I:z_ h x dx C mA):∃od,PySem.W.InstAt h x (PySem.W.instObj C dx) C (some od)∧∀name,PySem.W.lookIn name od=some (mA name):=
 let ⟨od,ho,hl⟩:=CA I.ns
 ⟨od,⟨I.obj,rfl,rfl,ho⟩,hl⟩
section
variable{prog:Program}{w:World}{A:Around}{E:Value→Shared→Prop}{s:Shared}{K:PySem.W.Frag}{x dx C f:Addr}{mA:Str→Option Value}{name:Str}{v:Value}
theorem get_map{expr:Bool}{Q:Value→Shared→Prop}(X:K.In s.heap)(I:z_ s.heap x dx C mA)(hg:PySem.W.plainGet K C name=true)(hh:PySem.W.hasDictIn K C=true)
  (ha:PySem.W.findIn K (.ref C) name=some none) (hv:mA name=some v) (KJ:PySem.W.handedIn v=true) (h:Q v {s with toks:=s.toks+1}):
  wpAny (model prog w) A (getAttr (.ref x) name expr) Q E s:=by
 obtain⟨od,J,hl⟩:=I.look;exact PySem.W.get_value X J (PySem.W.plainGet_of hg).1 (PySem.W.findObj_own hh ha rfl (by rw[hl,hv])) KJ h
theorem Eh{pl:Sem Bool}{Q:Value×List Value→Shared→Prop}(X:K.In s.heap)(I:z_ s.heap x dx C mA)(hg:PySem.W.plainGet K C name=true)
  (hf:PySem.W.findIn K (.ref C) name=some (some (.ref f))) (ht:PySem.W.isFn K (.ref f)=true) (hv:mA name=none) (h:Q (.ref f,[.ref x]) s):
  wpAny (model prog w) A (getMethod (.ref x) name pl) Q E s:=by
 obtain⟨od,J,hl⟩:=I.look;exact PySem.W.method_fn X J (PySem.W.plainGet_of hg).1 (PySem.W.plainGet_of hg).2 hf (beq_iff_eq.mp ht) (by show(PySem.W.lookIn name od).map (·.isSome)=some false;rw[hl,hv];rfl) h
theorem G_{ns:List Str}{Q:Unit→Shared→Prop}(X:K.In s.heap)(I:z_ s.heap x dx C mA)
  (hs:PySem.W.findIn K (.ref C) "__setattr__"=some (some (.builtin "object.__setattr__"))) (hp:PySem.W.plainOver K C=true) (ht:PySem.W.takerIn K C name=some none) (hh:PySem.W.hasDictIn K C=true)
  (hw:PySem.Within mA ns) (hsz:ns.length≤sizeLine)
  (h:∀h',z_ h' x dx C (fun y=>if y=name then some v else mA y)→Heap.SameBut dx s.heap h'→Q () {s with heap:=h',toks:=s.toks+2}):
  wpAny (model prog w) A (setAttr (.ref x) name v) Q E s:=by
 obtain⟨od,J,hl⟩:=I.look;refine PySem.W.set_plain X J hs (PySem.W.osa_open (s:={s with toks:=s.toks+1}) (r:=none) X J hp ht fun b=>?_);obtain⟨cd,hc,zO⟩:=PySem.W.any_some hh;have hx:s.heap.get? x=some ⟨.ref C,some dx, .plain,#[]⟩:=I.obj;refine wpAny_bind (Xs (Z5 (Z5 (wpAny_loadPart hx (Z5 (PySem.W.Looks.here (s:={s with toks:=s.toks+1}) (PySem.W.looks_clsIn X hc) ?_))))));rw[zO];refine wpAny_pure (a:=some dx) (Z5 (Xs (Z5 ?_)));refine wpAny_nsSet1 (s:={s with toks:=s.toks+1}) I.ns fun h' yq KL=>?_
 obtain⟨oD,abQ,abO,W7,W8,W9⟩:=yq.count (PySem.Within.cons name v hw);refine wpAny_bind (wpAny_lookBehind W7 (by rw[W8];exact pastItsLine_dict (ZX W9 (by rw[List.length_cons];omega))) ?_);exact Xs (h _ ⟨(KL.2 _ (Z' I.ne)).trans I.obj,yq,I.ne⟩ KL)
theorem Ei{R:Result→Shared→Prop}{vs:List Value}{kw:List (Str×Value)}(X:K.In s.heap)(hm:PySem.W.makesIn K C=true)
  (hi:PySem.W.findIn K (.ref C) "__init__"=some (some (.ref f))) (hf:PySem.W.typeIn K (.ref f)=some (.type "function"))
  (h:codeAny (model prog w) (A.under (.builtin "type.__call__" ⟨.ref C::vs,kw⟩)) (.call (.ref f) ⟨.ref (s.heap.objs.size+1)::vs,kw⟩) (PySem.W.InitBack (s.heap.objs.size+1) R)
   {s with heap:=(s.heap.push PySem.W.emptyDict).push (PySem.W.instObj C s.heap.objs.size)}):
  codeAny (model prog w) A (.call (.ref C) ⟨vs,kw⟩) R s:=by
 obtain⟨hh,g,d,t,os⟩:=s;exact PySem.W.make_core (PySem.W.makes_of X hm) (PySem.W.looks_findIn X hi) (fun self=>PySem.W.bind_fn X self hf) (.inl rfl) h
end
def br(f:Str)(v:V):List (Str×V)→List (Str×V)
 |[]=>[(f,v)]
 |(g,x)::r=>if g=f then(g,v)::r else(g,x)::br f v r
theorem rE(f g:Str)(v:V):∀fs:List (Str×V),(br f v fs).lookup g=if g=f then some v else fs.lookup g
 |[]=>by
  show List.lookup g [(f,v)]=_;by_cases h:g=f
  ·have hb:(g==f)=true:=beq_iff_eq.mpr h;simp only[List.lookup,hb,Hz h]
  ·have hb:(g==f)=false:=beq_eq_false_iff_ne.mpr h;simp only[List.lookup,hb,Dy h]
 |(k,x)::r=>by
  have ih:=rE f g v r;rw[show br f v ((k,x)::r)=(if k=f then(k,v)::r else(k,x)::br f v r)from rfl];by_cases hk:k=f
  ·rw[Hz hk];by_cases h:g=k
   ·have hb:(g==k)=true:=beq_iff_eq.mpr h;simp only[List.lookup,hb,Hz (h.trans hk)]
   ·have hb:(g==k)=false:=beq_eq_false_iff_ne.mpr h;simp only[List.lookup,hb,Dy (fun e:g=f=>h (e.trans hk.symm))]
  ·rw[Dy hk];by_cases h:g=k
   ·have hb:(g==k)=true:=beq_iff_eq.mpr h;simp only[List.lookup,hb,Dy (fun e:g=f=>hk (h.symm.trans e))]
   ·have hb:(g==k)=false:=beq_eq_false_iff_ne.mpr h;simp only[List.lookup,hb];exact ih
theorem qt(f:Str)(v:V):∀fs:List (Str×V),f∈(br f v fs).map (·.1)∧∀g,g∈fs.map (·.1)→g∈(br f v fs).map (·.1)
 |[]=>⟨by simp[br],fun g h=>by simp at h⟩
 |(k,x)::r=>by
  obtain⟨i1,i2⟩:=qt f v r;rw[show br f v ((k,x)::r)=(if k=f then(k,v)::r else(k,x)::br f v r)from rfl];by_cases hk:k=f
  ·rw[Hz hk];subst hk;exact⟨MD,fun g h=>by simpa using h⟩
  ·rw[Dy hk];refine⟨?_,fun g h=>?_⟩
   ·rw[List.map_cons];exact ZR i1
   ·rw[List.map_cons]at h⊢;rcases List.mem_cons.mp h with e|e
    ·exact List.mem_cons.mpr (.inl e)
    ·exact ZR (i2 g e)
theorem aX(f:Str)(v:V):∀fs:List (Str×V),(br f v fs).length≤fs.length+1
 |[]=>by simp[br]
 |(k,x)::r=>by
  have ih:=aX f v r;rw[show br f v ((k,x)::r)=(if k=f then(k,v)::r else(k,x)::br f v r)from rfl];by_cases hk:k=f
  ·rw[Hz hk,List.length_cons,List.length_cons];omega
  ·rw[Dy hk,List.length_cons,List.length_cons];omega
theorem kD.some_of{v:V}{o:Option Value}(r:kD (some v) o):∃u,o=some u∧RelV v u:=by
 cases o with
 |none=>exact(show False from r).elim
 |some u=>exact⟨u,rfl,r⟩
theorem kD.none_of{o:Option Value}(r:kD none o):o=none:=by
 cases o with
 |none=>rfl
 |some u=>exact(show False from r).elim
theorem CB{v:V}{u:Value}(r:RelV v u):PySem.W.handedIn u=true:=by
 cases v with
 |cL=>cases(show u=Value.none from r);rfl
 |bl b=>cases(show u=Value.bool b from r);rfl
 |int i=>obtain⟨t,e⟩:=(show ∃t,u=Value.int i t from r);cases e;rfl
 |str x=>obtain⟨t,e⟩:=(show ∃t,u=Value.str x t from r);cases e;rfl
 |Cr b=>obtain⟨t,e⟩:=(show ∃t,u=Value.bytes b t from r);cases e;rfl
 |I_ b=>obtain⟨t,e⟩:=(show ∃t,u=Value.float b t from r);cases e;rfl
 |ref a=>cases(show u=Value.ref a from r);rfl
 |ty n=>cases(show u=Value.type n from r);rfl
section
variable{P:Program}{w:World}{H H':Hp}{h h':Heap}{a C dx:Addr}{fs WU:List (Str×V)}
theorem sL(bS:lI P w H h)(e:H a=some (.ins C dx fs)):∃mA,z_ h a dx C mA∧(∀f,kD (fs.lookup f) (mA f))∧PySem.Within mA (fs.map (·.1))∧fs.length≤1000∧H dx=some (.own a):=by
 obtain⟨d,z,ne,ob,mA,n,r,q⟩:=(show cO P w H h a (.ins C dx fs)from bS a _ e)
 exact⟨mA,⟨ob,n,ne⟩,r,q,z,d⟩
end
structure wH(K:PySem.W.Frag)(C:Addr):Prop where
 pg:PySem.W.plainGet K C Str.empty=true
 hd:PySem.W.hasDictIn K C=true
 po:PySem.W.plainOver K C=true
 sa:PySem.W.findIn K (.ref C) "__setattr__"=some (some (.builtin "object.__setattr__"))
theorem wH.get{K:PySem.W.Frag}{C:Addr}(c:wH K C)(f:Str):PySem.W.plainGet K C f=true:=c.pg
def bW(K:PySem.W.Frag)(C:Addr)(f:Str):Prop:=PySem.W.findIn K (.ref C) f=some none
theorem bW.NX{K:PySem.W.Frag}{C:Addr}{f:Str}(n:bW K C f):PySem.W.takerIn K C f=some none:=by
 unfold PySem.W.takerIn;rw[show PySem.W.findIn K (.ref C) f=some none from n];rfl
structure Ej(K:PySem.W.Frag)(C:Addr)(f:Str)(v:V)(u:Value):Prop where
 at_:PySem.W.findIn K (.ref C) f=some (some u)
 rel:RelV v u
 get:PySem.W.specialIn K u "__get__"=some none
 cp:PySem.W.copiedNames.contains f=false
structure Meth(K:PySem.W.Frag)(C:Addr)(m:Str)(f:Addr):Prop where
 at_:PySem.W.findIn K (.ref C) m=some (some (.ref f))
 fn:PySem.W.isFn K (.ref f)=true
 kp:PySem.W.keepIn K (.ref f)=true
section
variable{X:Cx}{pins:List (Addr×Obj)}{σ:St}{H:Hp}{s:Shared}{a C dx:Addr}{fs:List (Str×V)}{f:Str}{v:V}{A:Around}{E:Value→Shared→Prop}
theorem Aa{b:Bool}{Q:Value→Shared→Prop}(I:Inv X pins σ H s)(e:H a=some (.ins C dx fs))(c:wH X.K C)(n:bW X.K C f)(l:fs.lookup f=some v)
  (h:∀u s',Inv X pins σ H s'→RelV v u→Q u s'):wpAny (model X.prog X.w) A (getAttr (.ref a) f b) Q E s:=by
 obtain⟨mA,O,r,_,_,_⟩:=sL I.bS e;obtain⟨u,hu,ru⟩:=kD.some_of (v:=v) (o:=mA f) (by rw[←l];exact r f);exact get_map I.ql O (c.get f) c.hd n hu (CB ru) (h u _ (I.tok _) ru)
theorem nE{m:Str}{g:Addr}{pl:Sem Bool}{Q:Value×List Value→Shared→Prop}(I:Inv X pins σ H s)(e:H a=some (.ins C dx fs))(c:wH X.K C)(k:Meth X.K C m g)(l:fs.lookup m=none)
  (h:Q (.ref g,[.ref a]) s):wpAny (model X.prog X.w) A (getMethod (.ref a) m pl) Q E s:=by
 obtain⟨mA,O,r,_,_,_⟩:=sL I.bS e;have hn:mA m=none:=kD.none_of (by rw[←l];exact r m);exact Eh I.ql O (c.get m) k.at_ k.fn hn h
theorem Ab{y:V}{u:Value}{Q:Unit→Shared→Prop}(I:Inv X pins σ H s)(e:H a=some (.ins C dx fs))(c:wH X.K C)(n:bW X.K C f)(hl:fs.length<1000)(ry:RelV y u)
  (h:∀s',Inv X pins σ (upd H a (.ins C dx (br f y fs))) s'→Q () s'):wpAny (model X.prog X.w) A (setAttr (.ref a) f u) Q E s:=by
 obtain⟨mA,O,r,wi,_,ho⟩:=sL I.bS e;have hz:(fs.map (·.1)).length≤sizeLine:=by rw[List.length_map,sizeLine_eq];omega
 refine G_ I.ql O c.sa c.po n.NX c.hd wi hz fun h' O' sb=>h _ ?_
 have hd:∃o,h'.get? dx=some o:=let ⟨o,_,_,e',_⟩:=O'.ns;⟨o,e'⟩
 refine I.write (x:=a) (e:=dx) (by rw[e];exact True.intro) (.inr ho) (fun b q hb z=>(sb.2 b hb).trans z) hd ?_;refine⟨by rw[ak O.ne];exact ho,?_,O.ne,O'.obj,_,O'.ns,fun g=>?_,fun g hg=>?_⟩
 ·have:=aX f y fs;omega
 ·show kD ((br f y fs).lookup g) (if g=f then some u else mA g);rw[rE];by_cases q:g=f
  ·rw[Hz q,Hz q];exact ry
  ·rw[Dy q,Dy q];exact r g
 ·by_cases q:g=f
  ·rw[q];exact(qt f y fs).1
  ·refine(qt f y fs).2 g (wi g fun z=>hg ?_);show(if g=f then some u else mA g)=none;rw[Dy q];exact z
theorem Inv.made(I:Inv X pins σ H s):Inv X pins σ (upd (upd H s.heap.objs.size (.own (s.heap.objs.size+1))) (s.heap.objs.size+1) (.ins C s.heap.objs.size []))
  {s with heap:=(s.heap.push PySem.W.emptyDict).push (PySem.W.instObj C s.heap.objs.size)}:=by
 have e1:(s.heap.push PySem.W.emptyDict).get? s.heap.objs.size=some PySem.W.emptyDict:=Heap.get?_push_size s.heap rfl;have e2:((s.heap.push PySem.W.emptyDict).push (PySem.W.instObj C s.heap.objs.size)).get? (s.heap.objs.size+1)=some (PySem.W.instObj C s.heap.objs.size):=by
  have:=Heap.get?_push_size (s.heap.push PySem.W.emptyDict) (o:=PySem.W.instObj C s.heap.objs.size) rfl;rwa[Heap.size_push]at this
 have e3:(s.heap.push PySem.W.emptyDict).Ns s.heap.objs.size (fun _=>none):=⟨PySem.W.emptyDict,#[],_,e1,rfl,(fun e he=>absurd he K4),fun _=>rfl⟩
 have I1:=I.laid (a:=s.heap.objs.size) (o:= .own (s.heap.objs.size+1)) (h':=s.heap.push PySem.W.emptyDict) (t':=s.toks) (fun b u q=>ZE q) (Nat.le_refl _) ⟨_,e1⟩;refine I1.laid (a:=s.heap.objs.size+1) (o:= .ins C s.heap.objs.size []) (t':=s.toks) (fun b u q=>ZE q) (Nat.le_of_eq (Heap.size_push _ _)) ?_;have ne:s.heap.objs.size≠s.heap.objs.size+1:=ZS (Nat.lt_succ_self _);refine⟨by rw[ak ne,ae],Nat.zero_le _,ne,e2,fun _=>none,(Heap.Ns1.of_empty e3).at fun o q=>ZE q,fun _=>True.intro,fun y hy=>absurd rfl hy⟩
theorem Ha{prog:Program}{w:World}{env:Env}{e:Expr}{f:Str}{pos:Pos}{s:Shared}{Q:Value→Shared→Prop}(hb:attributeBase e f env (eval e env)=eval e env)
  (h:wpAny (model prog w) A (eval e env) (fun o cc=>wpAny (model prog w) A (getAttr o f true) Q E cc) E s):wpAny (model prog w) A (eval (.Attribute e f pos) env) Q E s:=
 Attribute_any_ h (by rw[arm_eval_Attribute,hb])
end
inductive Jg(K:PySem.W.Frag)(f:Str)(x:V)(H1:Hp)(Q:VK):Prop
 |mk (a:Addr) (C:Addr) (dx:Addr) (fs:List (Str×V)) (v:V) (_:x= .ref a) (_:H1 a=some (.ins C dx fs)) (_:wH K C) (_:bW K C f) (_:fs.lookup f=some v) (_:Q v H1):Jg K f x H1 Q
def NY(K:PySem.W.Frag)(ta:TE)(f:Str):TE:=fun σ H Q=>ta σ H fun x H1=>Jg K f x H1 Q
def NZ(K:PySem.W.Frag)(ta tv:TE)(f:Str):TS:=fun D σ H=>tv σ H fun y H1=>ta σ H1 fun x H2=>∃a C dx fs,x= .ref a∧H2 a=some (.ins C dx fs)∧wH K C∧bW K C f∧fs.length<1000∧
 D.nx σ (upd H2 a (.ins C dx (br f y fs)))
section
variable{X:Cx}{o e value:Expr}{f:Str}{pos pos' RS:Pos}{ta tv:TE}
theorem KN(he:PE X e ta)(hb:attributeBase e f X.env (eval e X.env)=eval e X.env):PE X (.Attribute e f pos) (NY X.K ta f):=by
 intro pins s σ H Q I h;refine Ha hb (cG (he pins s σ H _ I h) fun u s1 ⟨x,H1,I1,rx,a,C,dx,fs,v,ex,ea,c,n,l,q⟩=>?_);subst ex;obtain rfl:u=Value.ref a:=rx;exact Aa I1 ea c n l fun u' s2 I2 ru=>⟨v,H1,I2,ru,q⟩
theorem KP(ha:PE X o ta)(hv:PE X value tv)(hs:swapsWith value (some (.Attribute o f pos')) pos.line X.env=pure false):PS X (.Assign [.Attribute o f pos'] value pos) (NZ X.K ta tv f):=by
 intro pins s σ H D I h;refine plainObj_wpAny_Assign_Attribute (cG (hv pins s σ H _ I h) fun u s1 ⟨y,H1,I1,ry,q⟩=>cG (ha pins s1 σ H1 _ I1 q) fun ov s2 ⟨x,H2,I2,rx,a,C,dx,fs,ex,ea,c,n,l,q2⟩=>?_) hs;subst ex;obtain rfl:ov=Value.ref a:=rx;exact Ab I2 ea c n l ry fun s3 I3=>⟨σ,_,I3,q2⟩
theorem aaw{pl:Sem Bool}{m:Str}{apos:Pos}{args:List Expr}{pins:List (Addr×Obj)}{s:Shared}{σ:St}{H:Hp}{Q:Value→Shared→Prop}{te:TE}(he:PE X e te)(I:Inv X pins σ H s)
  (h:te σ H fun x H1=>∃a C dx fs g,x= .ref a∧H1 a=some (.ins C dx fs)∧wH X.K C∧Meth X.K C m g∧fs.lookup m=none∧
   ∀s1,Inv X pins σ H1 s1→wpAny (model X.prog X.w) X.A (callWith pos (.ref g) [.ref a] (backTo pos (starEach args X.env)) (backToKw pos (keywordEach [] X.env))) Q X.xe s1)
  (ht:eval (.Call (.Attribute e m apos) args [] pos) X.env=(do
   let ov←eval e X.env
   standAt apos.atName
   let (f,first)←holding [ov] (getMethod ov m pl)
   callWith pos f first (backTo pos (starEach args X.env)) (backToKw pos (keywordEach [] X.env)))):
  wpAny (model X.prog X.w) X.A (eval (.Call (.Attribute e m apos) args [] pos) X.env) Q X.xe s:=by
 refine PySem.W.methodCall_KW (pl:=pl) (cG (he pins s σ H _ I h) fun u s1 ⟨x,H1,I1,rx,a,C,dx,fs,g,ex,ea,c,k,l,q⟩=>?_) ht;subst ex;obtain rfl:u=Value.ref a:=rx;exact nE I1 ea c k l (q s1 I1)
end
section
variable{X:Cx}{pins:List (Addr×Obj)}{σ:St}{H:Hp}{s:Shared}{A:Around}{E:Value→Shared→Prop}{Q:Value→Shared→Prop}{c:Value}{b:Bool}
inductive qu(K:PySem.W.Frag)(H:Hp):V→Value→Prop where
 |cL:qu K H .cL (.type "NoneType")
 |bl (x:Bool):qu K H (.bl x) (.type "bool")
 |int (i:Int):qu K H (.int i) (.type "int")
 |str (x:Str):qu K H (.str x) (.type "str")
 |I_ (x:UInt64):qu K H (.I_ x) (.type "float")
 |lst {a:Addr} {xs:List V} (e:H a=some (.lst xs)):qu K H (.ref a) (.type "list")
 |sJ {a:Addr} {o:Obj} {xs:List V} (e:H a=some (.sJ o (.lst xs))):qu K H (.ref a) (.type "list")
 |tup {a:Addr} {xs:List V} (e:H a=some (.tup xs)):qu K H (.ref a) (.type "tuple")
 |dK {a:Addr} {kvs:List (Key×V)} (e:H a=some (.dK kvs)):qu K H (.ref a) (.type "dict")
 |dT {a:Addr} {kvs:List (List Key×V)} (e:H a=some (.dT kvs)):qu K H (.ref a) (.type "dict")
 |ins {a C dx:Addr} {fs:List (Str×V)} (e:H a=some (.ins C dx fs)) (cl:wH K C) (ha:PySem.W.findIn K (.ref C) "__class__"=some (some (.builtin "object.__class__")))
   (hn:PySem.W.specialIn K (.builtin "object.__class__") "__get__"=some (some (.builtin "getset_descriptor.__get__"))) (UZ:PySem.W.takesIn K (.builtin "object.__class__")=some true)
   (hm:PySem.W.mroIn K C (.type "object")=some true):qu K H (.ref a) (.ref C)
theorem CC{x:V}{u t:Value}(I:Inv X pins σ H s)(rx:RelV x u)(ty:qu X.K H x t)(e:PySem.W.kitOne X.K t c=some b)(h:∀tk,Q (.bool b) {s with toks:=tk}):
  wpAny (model X.prog X.w) A (call (.builtin "isinstance") [u,c]) Q E s:=by
 cases ty with
 |cL=>cases(show u=Value.none from rx);exact PySem.W.kia_one PySem.W.kitx_none I.ql True.intro e (fun z=>nomatch z) h
 |bl y=>cases(show u=Value.bool y from rx);exact PySem.W.kia_one PySem.W.kitx_bool I.ql True.intro e (fun z=>nomatch z) h
 |int i=>obtain⟨t,q⟩:=(show ∃t,u=Value.int i t from rx);cases q;exact PySem.W.kia_one PySem.W.kitx_int I.ql True.intro e (fun z=>nomatch z) h
 |str y=>obtain⟨t,q⟩:=(show ∃t,u=Value.str y t from rx);cases q;exact PySem.W.kia_one PySem.W.kitx_str I.ql True.intro e (fun z=>nomatch z) h
 |I_ y=>obtain⟨t,q⟩:=(show ∃t,u=Value.float y t from rx);cases q;exact PySem.W.kia_one PySem.W.kitx_float I.ql True.intro e (fun z=>nomatch z) h
 |@lst a xs ea=>
  cases(show u=Value.ref a from rx);obtain⟨_,_,n,_,h1⟩:=(show cO X.prog X.w H s.heap a (.lst xs)from I.bS a _ ea)
  exact PySem.W.kia_one PySem.W.kitx_list I.ql ⟨_,h1,rfl⟩ e (fun z=>nomatch z) h
 |@sJ a ob xs ea=>
  cases(show u=Value.ref a from rx);obtain⟨_,_,_,n,_,h1⟩:=(show cO X.prog X.w H s.heap a (.sJ ob (.lst xs))from I.bS a _ ea)
  exact PySem.W.kia_one PySem.W.kitx_list I.ql ⟨_,h1,rfl⟩ e (fun z=>nomatch z) h
 |@tup a xs ea=>
  cases(show u=Value.ref a from rx);obtain⟨_,_,_,p⟩:=(show cO X.prog X.w H s.heap a (.tup xs)from I.bS a _ ea)
  obtain⟨o,h1,h2,_⟩:=p;exact PySem.W.kia_one PySem.W.kitx_tuple I.ql ⟨o,h1,h2⟩ e (fun z=>nomatch z) h
 |@dK a kvs ea=>
  cases(show u=Value.ref a from rx);obtain⟨_,_,vs,_,p⟩:=(show cO X.prog X.w H s.heap a (.dK kvs)from I.bS a _ ea)
  obtain⟨o,es,ep,h1,h2,_⟩:=p;exact PySem.W.kia_one PySem.W.kitx_dict I.ql ⟨o,h1,h2.1⟩ e (fun z=>nomatch z) h
 |@dT a kvs ea=>
  cases(show u=Value.ref a from rx);obtain⟨_,_,xs,_,o,es,ep,h1,h2,_⟩:=(show cO X.prog X.w H s.heap a (.dT kvs)from I.bS a _ ea)
  exact PySem.W.kia_one PySem.W.kitx_dict I.ql ⟨o,h1,h2.1⟩ e (fun z=>nomatch z) h
 |@ins a C dx fs ea cl ha hn UZ hm=>
  cases(show u=Value.ref a from rx);obtain⟨mA,O,_⟩:=sL I.bS ea;obtain⟨od,J,_⟩:=O.look;exact PySem.W.kia_one (PySem.W.kitx_own (cl.get _) cl.hd ha hn UZ hm) I.ql J e (fun z=>nomatch z) h
end
structure eX(cm:Bool)(k:Nat)(A:Around):Prop where
 hd:cm=true→A.handled=none
 dp:A.depth+3*k+5<recursionLimit
 un:A.units+16*k+200<cLine
theorem eX.mono{cm:Bool}{j k:Nat}{A:Around}(r:eX cm k A)(h:j≤k):eX cm j A:=⟨r.hd,by have:=r.dp;omega,by have:=r.un;omega⟩
theorem eX.deeper{cm:Bool}{k:Nat}{A:Around}(r:eX cm (k+1) A)(env:Env):eX cm k (A.deeper env):=
 ⟨r.hd,by have:=r.dp;show A.depth+1+3*k+5<_;omega,by have:=r.un;show A.units+3+16*k+200<_;omega⟩
theorem Ac{A:Around}{C:Addr}{us:List Value}{kw:List (Str×Value)}:(A.under (.builtin "type.__call__" ⟨.ref C::us,kw⟩)).depth=A.depth+1:=by
 first|rfl|simp[Around.under,Code.weight,Code.isCreation,Code.isGuard,Code.isCaller,Code.frames,Code.isFrame,guardIds]
theorem Ad{A:Around}{C:Addr}{us:List Value}{kw:List (Str×Value)}:(A.under (.builtin "type.__call__" ⟨.ref C::us,kw⟩)).units=A.units+1:=by
 first|rfl|simp[Around.under,Code.cUnits,Code.frames,Code.isFrame]
theorem eX.make{cm:Bool}{k:Nat}{A:Around}(r:eX cm (k+1) A)(C:Addr)(us:List Value)(kw:List (Str×Value)):eX cm k (A.under (.builtin "type.__call__" ⟨.ref C::us,kw⟩)):=
 ⟨r.hd,by have:=r.dp;rw[Ac];omega,by have:=r.un;rw[Ad];omega⟩
theorem eX.depth{cm:Bool}{k:Nat}{A:Around}(r:eX cm k A):A.depth<recursionLimit:=by have:=r.dp;omega
theorem eX.units{cm:Bool}{k:Nat}{A:Around}(r:eX cm k A):A.units+64<cLine:=by have:=r.un;omega
def Ek:TA:=fun _ H Q=>Q [] H
def Ji(ta:TE)(tr:TA):TA:=fun σ H Q=>ta σ H fun x H1=>tr σ H1 fun xs H2=>Q (x::xs) H2
section
variable{X:Cx}{e:Expr}{es:List Expr}{te:TE}{t:TA}{pos:Pos}
theorem af:PA X [] Ek:=fun _ _ _ _ H Q I h=>Calls.spliced_nil ⟨[],H,I, .nil,h⟩
theorem Hb(ha:PE X e te)(hr:PA X es t)(hs:starEach (e::es) X.env=(false,eval e X.env)::starEach es X.env:=by rfl):PA X (e::es) (Ji te t):=by
 intro pos pins s σ H Q I h;rw[hs];show wpAny _ _ (spliced ((false,eval e X.env)::backTo pos (starEach es X.env))) _ _ s;refine Calls.spliced_cons (cG (ha pins s σ H _ I h) fun u s1 ⟨x,H1,I1,r1,q1⟩=>?_);exact cG (hr pos pins s1 σ H1 _ I1 q1) fun us s2 ⟨xs,H2,I2,r2,q2⟩=>⟨x::xs,H2,I2, .cons r1 r2,q2⟩
def RT(t:TA):TE:=fun σ H Q=>t σ H fun xs H1=>xs.length≤sizeLine∧∀p,H1 p=none→Q (.ref p) (upd H1 p (.tup xs))
def aaD(t:TA):TE:=fun σ H Q=>t σ H fun xs H1=>xs.length≤sizeLine∧∀p,H1 p=none→Q (.ref p) (upd H1 p (.lst xs))
theorem dB{x1}(h:PA X es t):PE X (.Tuple es x1 pos) (RT t):=by
 intro pins s σ H Q I hq;refine wpAny_Tuple_spliced (cG (h pos pins s σ H _ I hq) fun us s1 ⟨xs,H1,I1,r,z,q⟩=>⟨by rw[←r.length];exact z,?_⟩);have hf:H1 s1.heap.objs.size=none:=I1.bS.fresh ZD;refine⟨.ref s1.heap.objs.size,upd H1 s1.heap.objs.size (.tup xs),I1.laid (t':=s1.toks) (fun b u e=>ZE e) (Nat.le_refl _) ?_,rfl,q _ hf⟩;exact⟨z,us,r,⟨_,Heap.get?_push_size _ rfl,rfl,_,rfl⟩⟩
theorem bJ(h:PA X es t):PE X (.List es pos) (aaD t):=by
 intro pins s σ H Q I hq;refine wpAny_List_spliced (cG (h pos pins s σ H _ I hq) fun us s1 ⟨xs,H1,I1,r,z,q⟩=>⟨by rw[←r.length];exact z,?_⟩);have hf:H1 s1.heap.objs.size=none:=I1.bS.fresh ZD;refine⟨.ref s1.heap.objs.size,upd H1 s1.heap.objs.size (.lst xs),I1.laid (t':=s1.toks) (fun b u e=>ZE e) (Nat.le_refl _) ?_,rfl,q _ hf⟩;exact⟨z,us,0,r,Heap.get?_push_size _ rfl⟩
end
abbrev Sp:=List V→Hp→VK→XK→Prop
abbrev El:=List Env→Hp→Shared→XK→Value→Shared→Prop
structure Ae(P:Program)(w:World)(K:PySem.W.Frag)(mg:Str→Option Value)(base:Heap)(A:Around)(outer:List Env)(s:Shared)(H:Hp):Prop where
 frames:A.frames=some outer
 mod:Mod K mg base
 bs:∀b o,base.get? b=some o→s.heap.get? b=some o∧H b=none
 Kl:base.objs.size≤s.heap.objs.size
 uO:s.heap.FunFrames base outer
 NB:∀b∈oA outer,H b=none
 bS:lI P w H s.heap
 bare:AllBare s.gens
def CE(outer:List Env)(P:Program)(w:World)(H:Hp)(s:Shared)(Q:VK)(u:Value)(s':Shared):Prop:=
 ∃v H',s'.os=s.os∧AllBare s'.gens∧Un (oA outer) [] H H' s.heap s'.heap∧lI P w H' s'.heap∧RelV v u∧Q v H'
def CR(CX:El)(outer:List Env)(P:Program)(w:World)(H:Hp)(s:Shared)(Q:VK)(E:XK)(r:Result)(s':Shared):Prop:=
 match r with
 | .ok (.ret u)=>CE outer P w H s Q u s'
 | .ok _=>False
 | .error e=>CX outer H s E e s'
structure a9(P:Program)(w:World)(K:PySem.W.Frag)(mg:Str→Option Value)(base:Heap)(CX:El)(cm:Bool)(k:Nat)(f:Addr)(fd:FuncData)(ps:List Str)(sp:Sp):Prop where
 len:∀vs H Q E,sp vs H Q E→vs.length=ps.length
 run:∀(A:Around)(outer:List Env)(s:Shared)(H:Hp)(args:Args)(us:List Value)(vs:List V)(Q:VK)(E:XK),eX cm k A→Ae P w K mg base A outer s H→BindsTo s fd args (ps.zip us)→Vals vs us→sp vs H Q E→
  codeAny (model P w) A (.call (.ref f) args) (CR CX outer P w H s Q E) s
theorem Ae.make{P:Program}{w:World}{K:PySem.W.Frag}{mg:Str→Option Value}{base:Heap}{A:Around}{outer:List Env}{s:Shared}{H:Hp}(e:Ae P w K mg base A outer s H)(C:Addr)(us:List Value)(kw:List (Str×Value)):
  Ae P w K mg base (A.under (.builtin "type.__call__" ⟨.ref C::us,kw⟩)) outer s H:=⟨by first|exact e.frames|(simpa[Around.under,Code.envs,Code.isFrame,pushEnvs]using e.frames),e.mod,e.bs,e.Kl,e.uO,e.NB,e.bS,e.bare⟩
section
variable{X:Cx}{pins:List (Addr×Obj)}{σ:St}{H:Hp}{s s':Shared}
theorem Inv.KR(I:Inv X pins σ H s):Ae X.prog X.w X.K X.mg X.base X.A X.stack s H:=
 ⟨I.ok.frames,I.ok.mod,I.bs,ZX I.ok.Kl I.sz,I.stack,I.wD,I.bS,I.bare⟩
theorem Inv.after{Q:VK}{u:Value}(I:Inv X pins σ H s)(h:CE X.stack X.prog X.w H s Q u s'):EP X pins σ Q u s':=by
 obtain⟨v,H',os,bare,un,bS,r,q⟩:=h;obtain⟨hh,g,d,t,W_⟩:=s';obtain rfl:W_=s.os:=os;exact⟨v,H',I.call (h':=hh) (g':=g) (d':=d) (t':=t) (ch:=[]) un bS bare (fun b z=>absurd z K4),r,q⟩
end
def Jj(sp:Sp)(mq:List V)(E:St→XK)(t:TA):TE:=fun σ H Q=>t σ H fun vs H1=>sp (vs++mq) H1 Q (E σ)
def Bu(C:Addr)(m:Str)(sp:Sp)(mq:List V)(E:St→XK)(ta:TE)(t:TA):TE:=fun σ H Q=>ta σ H fun x H1=>∃a dx fs,x= .ref a∧H1 a=some (.ins C dx fs)∧fs.lookup m=none∧
 t σ H1 fun vs H2=>sp (x::(vs++mq)) H2 Q (E σ)
def Bv(C:Addr)(sp:Sp)(mq:List V)(E:St→XK)(t:TA):TE:=fun σ H Q=>t σ H fun vs H1=>∀x dx,H1 x=none→H1 dx=none→dx≠x→
 sp (.ref x::(vs++mq)) (upd (upd H1 dx (.own x)) x (.ins C dx [])) (fun v H2=>v= .cL∧Q (.ref x) H2) (E σ)
def Binds(K:PySem.W.Frag)(fd:FuncData)(ps:List Str)(ds:List Value):Prop:=
 ∀(s:Shared)(us:List Value),K.In s.heap→(us++ds).length=ps.length→BindsTo s fd ⟨us,[]⟩ (ps.zip (us++ds))
theorem Binds.all{K:PySem.W.Frag}{fd:FuncData}{ps:List Str}(h:∀us:List Value,us.length=ps.length→bindArgs fd ⟨us,[]⟩=pure (ps.zip us)):Binds K fd ps []:=fun s us _ hl=>by
 rw[List.append_nil]at hl⊢;exact .of_eq (h us hl)
def Passes(CX:El)(X:Cx)(E:St→XK):Prop:=∀(pins:List (Addr×Obj))(σ:St)(H:Hp)(s:Shared)(e:Value)(s':Shared),Inv X pins σ H s→CX X.stack H s (E σ) e s'→X.xe e s'
section
variable{X:Cx}{CX:El}{cm:Bool}{k:Nat}{f C:Addr}{fd:FuncData}{ps:List Str}{sp:Sp}{mq:List V}{ds:List Value}{E:St→XK}{x m:Str}{p pos apos:Pos}{e o:Expr}{es:List Expr}{ta:TE}{t:TA}
theorem Af{pins:List (Addr×Obj)}{σ:St}{H:Hp}{s:Shared}{Q:VK}{us:List Value}{vs:List V}(F:a9 X.prog X.w X.K X.mg X.base CX cm k f fd ps sp)(hr:eX cm k X.A)(hb:Binds X.K fd ps ds)(hd:Vals mq ds)(hx:Passes CX X E)
  (I:Inv X pins σ H s) (r:Vals vs us) (h:sp (vs++mq) H Q (E σ)):wpAny (model X.prog X.w) X.A (call (.ref f) us) (EP X pins σ Q) X.xe s:=by
 have r2:Vals (vs++mq) (us++ds):=r.append hd;have hl:(us++ds).length=ps.length:=by rw[←r2.length];exact F.len _ _ _ _ h
 refine wpAny_call (codeAny_mono (F.run X.A X.stack s H ⟨us,[]⟩ (us++ds) (vs++mq) Q (E σ) hr I.KR (hb s us I.ql hl) r2 h) fun r s' hq=>?_);cases r with
 |error e=>exact hx pins σ H s e s' I hq
 |ok fl=>
  cases fl with
  |ret u=>exact I.after hq
  |next=>exact False.elim hq
  |brk=>exact False.elim hq
  |cont=>exact False.elim hq
theorem Hd(F:a9 X.prog X.w X.K X.mg X.base CX cm k f fd ps sp)(hr:eX cm k X.A)(hg:Gl X x)(hm:X.mg x=some (.ref f))(hk:PySem.W.keepIn X.K (.ref f)=true)(hb:Binds X.K fd ps ds)(hd:Vals mq ds)(hx:Passes CX X E)
  (ha:PA X (e::es) t) (wI:(x==("__debug__":Str))=false:=by decide) (he:starEach (e::es) X.env=(false,eval e X.env)::starEach es X.env:=by rfl) (qv:(Μ pos).any (·.1)=false:=by rfl):
  PE X (.Call (.Name x p) (e::es) [] pos) (Jj sp mq E t):=by
 intro pins s σ H Q I h;refine wpAny_Call_Name_kw (oF I hg hm ?_ wI);refine PySem.W.callWith_K (h₀:=X.base) I.ok.mod.MF hk (cG (ha pos pins s σ H _ I h) fun us s1 ⟨vs,H1,I1,r,q⟩=>⟨I1.ql,?_⟩) he qv;exact Af F hr hb hd hx I1 r q
theorem He{pl:Sem Bool}(he:PE X o ta)(c:wH X.K C)(hm:Meth X.K C m f)(F:a9 X.prog X.w X.K X.mg X.base CX cm k f fd ps sp)(hr:eX cm k X.A)(hb:Binds X.K fd ps ds)(hd:Vals mq ds)(hx:Passes CX X E)(ha:PA X (e::es) t)
  (vG:starEach (e::es) X.env=(false,eval e X.env)::starEach es X.env:=by rfl) (qv:(Μ pos).any (·.1)=false:=by rfl)
  (ht:eval (.Call (.Attribute o m apos) (e::es) [] pos) X.env=(do
   let ov←eval o X.env
   standAt apos.atName
   let (f,first)←holding [ov] (getMethod ov m pl)
   callWith pos f first (backTo pos (starEach (e::es) X.env)) (backToKw pos (keywordEach [] X.env))):=by rfl):
  PE X (.Call (.Attribute o m apos) (e::es) [] pos) (Bu C m sp mq E ta t):=by
 intro pins s σ H Q I h;refine PySem.W.methodCall_KW (pl:=pl) (cG (he pins s σ H _ I h) fun u s1 ⟨x,H1,I1,rx,a,dx,fs,ex,ea,l,q⟩=>?_) ht;subst ex;obtain rfl:u=Value.ref a:=rx;refine nE I1 ea c hm l ?_;refine PySem.W.callWith_K (first:=[.ref a]) (h₀:=X.base) I.ok.mod.MF hm.kp (cG (ha pos pins s1 σ H1 _ I1 q) fun us s2 ⟨vs,H2,I2,r,q2⟩=>⟨I2.ql,?_⟩) vG qv;exact Af (us:= .ref a::us) (vs:= .ref a::vs) F hr hb hd hx I2 (.cons rfl r) q2
theorem Em{pl:Sem Bool}(he:PE X o ta)(c:wH X.K C)(hm:Meth X.K C m f)(F:a9 X.prog X.w X.K X.mg X.base CX cm k f fd ps sp)(hr:eX cm k X.A)(hb:Binds X.K fd ps ds)(hd:Vals mq ds)(hx:Passes CX X E)
  (ht:eval (.Call (.Attribute o m apos) [] [] pos) X.env=(do
   let ov←eval o X.env
   standAt apos.atName
   let (f,first)←holding [ov] (getMethod ov m pl)
   callWith pos f first (backTo pos (starEach [] X.env)) (backToKw pos (keywordEach [] X.env))):=by rfl):
  PE X (.Call (.Attribute o m apos) [] [] pos) (Bu C m sp mq E ta Ek):=by
 intro pins s σ H Q I h;refine PySem.W.methodCall_KW (pl:=pl) (cG (he pins s σ H _ I h) fun u s1 ⟨x,H1,I1,rx,a,dx,fs,ex,ea,l,q⟩=>?_) ht;subst ex;obtain rfl:u=Value.ref a:=rx;refine nE I1 ea c hm l ?_;exact PySem.W.callWith_K0 (first:=[.ref a]) I1.ql hm.kp (Af (us:=[.ref a]) (vs:=[.ref a]) F hr hb hd hx I1 (.cons rfl .nil) q)
structure Mk(K:PySem.W.Frag)(C f:Addr):Prop where
 makes:PySem.W.makesIn K C=true
 init:PySem.W.findIn K (.ref C) "__init__"=some (some (.ref f))
 fn:PySem.W.isFn K (.ref f)=true
 kp:PySem.W.keepIn K (.ref C)=true
theorem yF{pins:List (Addr×Obj)}{σ:St}{H:Hp}{s:Shared}{Q:VK}{us:List Value}{vs:List V}(M:Mk X.K C f)(F:a9 X.prog X.w X.K X.mg X.base CX cm k f fd ps sp)(hr:eX cm (k+1) X.A)(hb:Binds X.K fd ps ds)(hd:Vals mq ds)
  (hx:Passes CX X E) (I:Inv X pins σ H s) (r:Vals vs us)
  (h:∀x dx,H x=none→H dx=none→dx≠x→sp (.ref x::(vs++mq)) (upd (upd H dx (.own x)) x (.ins C dx [])) (fun v H2=>v= .cL∧Q (.ref x) H2) (E σ)):
  wpAny (model X.prog X.w) X.A (call (.ref C) us) (EP X pins σ Q) X.xe s:=by
 have hq:=h (s.heap.objs.size+1) s.heap.objs.size (I.bS.fresh (Nat.le_succ _)) (I.bS.fresh ZD) (ZS (Nat.lt_succ_self _));have I2:=Inv.made (C:=C) I;have r2:Vals (V.ref (s.heap.objs.size+1)::(vs++mq)) (Value.ref (s.heap.objs.size+1)::(us++ds)):= .cons rfl (r.append hd);have hl:(Value.ref (s.heap.objs.size+1)::us++ds).length=ps.length:=by
  have e:=r2.length;rw[F.len _ _ _ _ hq]at e;exact e.symm
 refine wpAny_call (Ei (f:=f) I.ql M.makes M.init (beq_iff_eq.mp M.fn) (codeAny_mono (F.run _ X.stack _ _ ⟨Value.ref (s.heap.objs.size+1)::us,[]⟩ (Value.ref (s.heap.objs.size+1)::(us++ds)) _ _ (E σ) (hr.make C us [])
  (I2.KR.make C us []) (hb _ (Value.ref (s.heap.objs.size+1)::us) I2.ql hl) r2 hq) fun r s' N0=>?_))
 cases r with
 |error e=>exact hx pins σ _ _ e s' I2 N0
 |ok fl=>
  cases fl with
  |ret u=>
   obtain⟨v,H',I3,rv,ev,q3⟩:=I2.after N0;subst ev;exact⟨rv,⟨V.ref (s.heap.objs.size+1),H',I3,rfl,q3⟩⟩
  |next=>exact False.elim N0
  |brk=>exact False.elim N0
  |cont=>exact False.elim N0
theorem Hf(M:Mk X.K C f)(F:a9 X.prog X.w X.K X.mg X.base CX cm k f fd ps sp)(hr:eX cm (k+1) X.A)(hg:Gl X x)(hm:X.mg x=some (.ref C))(hb:Binds X.K fd ps ds)(hd:Vals mq ds)(hx:Passes CX X E)
  (ha:PA X (e::es) t) (wI:(x==("__debug__":Str))=false:=by decide) (he:starEach (e::es) X.env=(false,eval e X.env)::starEach es X.env:=by rfl) (qv:(Μ pos).any (·.1)=false:=by rfl):
  PE X (.Call (.Name x p) (e::es) [] pos) (Bv C sp mq E t):=by
 intro pins s σ H Q I h;refine wpAny_Call_Name_kw (oF I hg hm ?_ wI);refine PySem.W.callWith_K (h₀:=X.base) I.ok.mod.MF M.kp (cG (ha pos pins s σ H _ I h) fun us s1 ⟨vs,H1,I1,r,q⟩=>⟨I1.ql,?_⟩) he qv;exact yF M F hr hb hd hx I1 r q
theorem En(M:Mk X.K C f)(F:a9 X.prog X.w X.K X.mg X.base CX cm k f fd ps sp)(hr:eX cm (k+1) X.A)(hg:Gl X x)(hm:X.mg x=some (.ref C))(hb:Binds X.K fd ps ds)(hd:Vals mq ds)(hx:Passes CX X E)
  (wI:(x==("__debug__":Str))=false:=by decide):PE X (.Call (.Name x p) [] [] pos) (Bv C sp mq E Ek):=by
 intro pins s σ H Q I h;refine wpAny_Call_Name_kw (oF I hg hm ?_ wI);exact PySem.W.callWith_K0 I.ql M.kp (yF (us:=[]) M F hr hb hd hx I .nil h)
end
section
variable{X:Cx}{CX:El}{cm:Bool}{k:Nat}{f C:Addr}{fd:FuncData}{ps ks:List Str}{sp:Sp}{E:St→XK}{x m:Str}{p pos apos abL:Pos}{e o:Expr}{es:List Expr}{aar:List Keyword}{te ta:TE}{t tk:TA}{nm:Option Str}
variable{g:List Value→List Value→List Value}{gV:List V→List V→List V}
end
structure aL(N P:List Str)(sc:Scope):Prop where
 kind:sc.kind= .function
 co:sc.isCoroutine=false
 gen:sc.isGenerator=false
 nd:N.Nodup
 pre:N.take P.length=P
 par:∀x∈P,sc.names.lookup x=some .local∨sc.names.lookup x=some .cell
 KS:∀y∈sc.names,y.2≠ .free
theorem vI{kindOf:Str→Option NameKind}{x:Str}:∀{binds:List (Str×Value)}{m:Str→Option Value},(∀v,(x,v)∉binds)→bindL kindOf binds m x=m x
 |[],_,_=>rfl
 |(n,v)::r,m,h=>by
  unfold bindL;rw[vI fun w hw=>h w (ZR hw)];split
  ·have:x≠n:=by rintro rfl;exact h v List.mem_cons_self
   simp[this]
  ·rfl
theorem vJ{kindOf:Str→Option NameKind}{x:Str}:∀{binds:List (Str×Value)}{m:Str→Option Value},(∀v,(x,v)∉binds)→bindC kindOf binds m x=m x
 |[],_,_=>rfl
 |(n,v)::r,m,h=>by
  unfold bindC;rw[vJ fun w hw=>h w (ZR hw)];split
  ·rfl
  ·have:x≠n:=by rintro rfl;exact h v List.mem_cons_self
   simp[this]
theorem vK{kindOf:Str→Option NameKind}{x:Str}{v:Value}:∀{P:List Str}{vs:List Value}{i:Nat}{m:Str→Option Value},P.Nodup→P[i]?=some x→vs[i]?=some v→kindOf x=some .local→
  bindL kindOf (P.zip vs) m x=some v
 |[],_,_,_,_,h,_,_=>by simp at h
 | _::_,[],_,_,_,_,h,_=>by simp at h
 |p::P,w::vs,0,m,nd,h1,h2,hk=>by
  simp at h1 h2;subst h1;subst h2;show bindL kindOf ((p,w)::P.zip vs) m p=_;unfold bindL;rw[vI fun v hv=>(List.nodup_cons.mp nd).1 (List.of_mem_zip hv).1,Hz hk];simp
 |p::P,w::vs,i+1,m,nd,h1,h2,hk=>by
  show bindL kindOf ((p,w)::P.zip vs) m x=_;unfold bindL;exact vK (i:=i) (List.nodup_cons.mp nd).2 (by simpa using h1) (by simpa using h2) hk
theorem vL{kindOf:Str→Option NameKind}{x:Str}{v:Value}:∀{P:List Str}{vs:List Value}{i:Nat}{m:Str→Option Value},P.Nodup→P[i]?=some x→vs[i]?=some v→kindOf x≠some .local→
  bindC kindOf (P.zip vs) m x=some v
 |[],_,_,_,_,h,_,_=>by simp at h
 | _::_,[],_,_,_,_,h,_=>by simp at h
 |p::P,w::vs,0,m,nd,h1,h2,hk=>by
  simp at h1 h2;subst h1;subst h2;show bindC kindOf ((p,w)::P.zip vs) m p=_;unfold bindC;rw[vJ fun v hv=>(List.nodup_cons.mp nd).1 (List.of_mem_zip hv).1,Dy hk];simp
 |p::P,w::vs,i+1,m,nd,h1,h2,hk=>by
  show bindC kindOf ((p,w)::P.zip vs) m x=_;unfold bindC;exact vL (i:=i) (List.nodup_cons.mp nd).2 (by simpa using h1) (by simpa using h2) hk
def start(N:List Str)(vs:List V):St:=vs.map some++List.replicate (N.length-vs.length) none
def Ag(CX:El)(cm:Bool)(P:Program)(w:World)(K:PySem.W.Frag)(mg:Str→Option Value)(base:Heap)(N:List Str)(qual:Str)(scope:Scope)(f:Addr)(cd:Value)(A:Around)(outer:List Env)(s:Shared)(H:Hp)(E:XK):Cx where
 prog:=P
 w:=w
 K:=K
 mg:=mg
 base:=base
 A:=A.deeper (Λ qual scope f cd)
 N:=N
 dA:=s
 eY:=H
 env:=Λ qual scope f cd
 outer:=outer
 stack:=envOfC qual scope s.heap.objs.size f cd::outer
 ex:=[]
 calm:=cm
 fn:=fun _=>true
 pn:=[]
 xe:=fun e s'=>wpAny (model P w) (A.deeper (Λ qual scope f cd)) (leaving (Λ qual scope f cd) e) (fun _ wJ=>CX outer H s E e wJ) (fun e' wJ=>CX outer H s E e' wJ) s'
theorem yG{sc:Scope}{n:Nat}{x:Str}(h:sc.names.lookup x=some .cell):∃c,(cellsFrom n sc.names []).lookup x=some c:=by
 have q:=PySem.W.cellsFrom_some sc.names n [] (.inl h);exact Option.isSome_iff_exists.mp q
theorem CD{CX:El}{cm:Bool}{P:Program}{w:World}{K:PySem.W.Frag}{mg:Str→Option Value}{base:Heap}{N ps:List Str}{qual:Str}{scope:Scope}{f:Addr}{cd:Value}{A:Around}{outer:List Env}{s s1:Shared}{H:Hp}{E:XK}{us:List Value}{vs:List V}
  (S:aL N ps scope) (hd:cm=true→A.handled=none) (e0:Ae P w K mg base A outer s H) (hl:vs.length=ps.length) (r:Vals vs us)
  (x:InCallC s s.heap.objs.size (bindL (Λ qual scope f cd).kindOf (ps.zip us) fun _=>none) (cellsFrom (s.heap.objs.size+1) scope.names []) (bindC (Λ qual scope f cd).kindOf (ps.zip us) fun _=>none) s1):
  Inv (Ag CX cm P w K mg base N qual scope f cd A outer s H E) [] (start N vs) H s1:=by
 have qv:ps.length≤N.length:=by have:=congrArg List.length S.pre;rw[List.length_take]at this;omega
 obtain⟨h1,tk,rfl,hk⟩:=x.done;have N1:∀b:Addr,b∉(Ag CX cm P w K mg base N qual scope f cd A outer s H E).ex:=fun b z=>absurd (show b∈([]:List Addr)from z) (MD)
 refine⟨⟨e0.mod,S.kind,rfl,rfl,Nat.le_refl _,fun y z c h1 h2=>?_,fun y hy=>?_,fun y c _ h=>?_,fun z=>hd z,Around.frames_deeper e0.frames, .inr ⟨rfl,rfl⟩,fun b z=>X7 z (N1 b),e0.bs,e0.Kl,fun b _ _=>N1 b,fun b z=>X7 z (N1 b),e0.uO,e0.NB⟩,
  rfl,e0.bare,Un.kept hk,⟨_,x.toInCall.ns,fun i y v h1 h2 h3=>?_⟩,fun y c h=>⟨_,x.cell y c h⟩,e0.bS.fresh ZD,fun y c h=>?_,fun p hp=>absurd (show p∈([]:List (Addr×Obj))from hp) (MD),e0.bS.kept hk,?_⟩
 ·exact name_of_addr x.apart (PySem.mem_of_lookup h1) (PySem.mem_of_lookup h2)
 ·have hy:scope.names.lookup y=some .cell∨scope.names.lookup y=some .free:=hy;rcases hy with hy|hy
  ·exact yG hy
  ·exact absurd rfl (S.KS _ (PySem.mem_of_lookup hy))
 ·exact Nat.le_of_lt (x.above y c (PySem.mem_of_lookup h))
 ·have hi:i<vs.length:=by
   unfold start at h2;by_cases hi:i<vs.length
   ·exact hi
   ·rw[ZP (by simpa using hi)]at h2;rw[List.getElem?_replicate]at h2;split at h2<;>cases h2
  have ha:vs[i]?=some v:=by
   unfold start at h2;rw[ZK (by simpa using hi),List.getElem?_map]at h2;cases e:vs[i]? with
   |none=>rw[e]at h2;cases h2
   |some a=>rw[e]at h2;cases h2;rfl
  obtain⟨u,hu,rv⟩:=r.get ha;have hp:ps[i]?=some y:=by
   rw[←S.pre,List.getElem?_take_of_lt (ZF)];exact h1
  have U0:ps.Nodup:=by rw[←S.pre];exact S.nd.sublist (List.take_sublist _ _)
  refine⟨u,rv,?_⟩;rcases S.par y (Y7 hp)with k|k
  ·exact .inl ⟨k,vK U0 hp hu k⟩
  ·obtain⟨c,e⟩:=yG (n:=s.heap.objs.size+1) k;refine .inr ⟨.inl k,c,e,?_⟩;have q:=x.cell y c e;rw[vL U0 hp hu (by show scope.names.lookup y≠_;rw[k];decide)]at q;exact q
 ·exact e0.bS.fresh (Nat.le_of_lt (x.above y c (PySem.mem_of_lookup h)))
 ·unfold start;show _=N.length;rw[List.length_append,List.length_map,List.length_replicate];omega
theorem Jk{CX:El}{cm:Bool}{P:Program}{w:World}{K:PySem.W.Frag}{mg:Str→Option Value}{base:Heap}{k:Nat}{f:Addr}{name qual:Str}{params:Arguments}{body:List Stmt}{scope:Scope}{dV kV doc pm f7 ct oc:Value}{an od:Option Addr}
  {Bw:Array (Option Value)} {N ps:List Str} {sp:Sp} (lk:K.lookup f=some ⟨oc,od, .func (PySem.W.fnOf name qual params body scope dV kV doc pm an f7 ct),Bw⟩) (Cv:PySem.W.codeIn K f7 qual=true) (S:aL N ps scope)
  (len:∀vs H Q E,sp vs H Q E→vs.length=ps.length)
  (yH:∀(A:Around)(outer:List Env)(s:Shared)(H:Hp)(vs:List V)(Q:VK)(E:XK),eX cm k (A.deeper (Λ qual scope f f7))→sp vs H Q E→
   ∃t,Cu (Ag CX cm P w K mg base N qual scope f f7 A outer s H E) body t∧t {nx:=fun _ H'=>Q .cL H',rt:=Q} (start N vs) H):
  a9 P w K mg base CX cm (k+1) f (PySem.W.fnOf name qual params body scope dV kV doc pm an f7 ct) ps sp:=by
 refine⟨len,fun A outer s H args us vs Q E hr e0 hb r GJ=>?_⟩;have hl:=len _ _ _ _ GJ;have KX:K.In s.heap:=e0.mod.MF.keeps fun b o e=>(e0.bs b o e).1
 have lim:s.heap.NoLimit:=e0.mod.nolimit.keeps fun b o e=>(e0.bs b o e).1
 have N2:∀y∈ps.zip us,scope.names.lookup y.1=some .local∨(scope.names.lookup y.1=some .cell∧((cellsFrom (s.heap.objs.size+1) scope.names []).lookup y.1).isSome=true):=fun⟨n,v⟩ hy=>by
  rcases S.par n (List.of_mem_zip hy).1 with q|q
  ·exact .inl q
  ·exact .inr ⟨q,PySem.W.cellsFrom_some _ _ _ (.inl q)⟩
 refine codeAny_call_function hr.depth (KX _ _ lk) rfl S.co S.gen rfl (PySem.W.codeRec_of KX Cv) (hb _ _ _ _ ?_);refine wpAny_newFunctionEnv_cells S.kind N2 fun env he s1 x=>?_
 subst he;refine⟨lim.keeps x.toInCall.keep,codeAny_func ?_⟩;obtain⟨t,ht,hq⟩:=yH A outer s H vs Q E (hr.deeper _) GJ;have I:Inv (Ag CX cm P w K mg base N qual scope f f7 A outer s H E) [] (start N vs) H s1:=CD S hr.hd e0 hl r x;refine wpAny_mono (ht [] s1 (start N vs) H _ I hq) (fun fl s' hs=>?_) fun e s' hs=>hs
 have fin:∀{bj:St}{H':Hp}{v:V}{u:Value},Inv (Ag CX cm P w K mg base N qual scope f f7 A outer s H E) [] bj H' s'→RelV v u→Q v H'→CE outer P w H s Q u s':=
  fun{bj H' v u} J rv q=>⟨v,H',J.os,J.bare,J.base,J.bS,rv,q⟩
 cases fl with
 |ret u=>
  obtain⟨v,bj,H',J,rv,q⟩:=hs;exact fin J rv q
 |next=>
  obtain⟨bj,H',J,q⟩:=hs;exact fin (v:=V.cL) (u:=Value.none) J rfl q
 |brk=>
  obtain⟨_,_,_,q⟩:=hs;exact False.elim q
 |cont=>
  obtain⟨_,_,_,q⟩:=hs;exact False.elim q
section
variable{X:Cx}{x:Str}{p pos:Pos}{e:Expr}{es:List Expr}{t:TA}{id T:String}{r:List V→Hp→VK→Prop}
def U1(r:List V→Hp→VK→Prop)(t:TA):TE:=fun σ H Q=>t σ H fun vs H1=>r vs H1 Q
theorem aO(hc:iJ X (.builtin id) r)(hg:Gl X x)(hm:X.mg x=none)(hv:bootBuiltins x=some (.builtin id))(ha:PA X (e::es) t)(hn:x≠"__name__":=by decide)(wI:(x==("__debug__":Str))=false:=by decide)
  (he:starEach (e::es) X.env=(false,eval e X.env)::starEach es X.env:=by rfl) (qv:(Μ pos).any (·.1)=false:=by rfl):PE X (.Call (.Name x p) (e::es) [] pos) (U1 r t):=by
 intro pins s σ H Q I h;refine wpAny_Call_Name_kw (lJ I hg hm hv ?_ hn wI);exact PyProof.Rows.callWith_builtin1 (cG (ha pos pins s σ H _ I h) fun us s1 ⟨vs,H1,I1,r1,q1⟩=>hc pins s1 σ H1 vs us Q I1 r1 q1) he qv
theorem fu(hc:iJ X (.type T) r)(hg:Gl X x)(hm:X.mg x=none)(hv:bootBuiltins x=some (.type T))(ha:PA X (e::es) t)(hn:x≠"__name__":=by decide)(wI:(x==("__debug__":Str))=false:=by decide)
  (he:starEach (e::es) X.env=(false,eval e X.env)::starEach es X.env:=by rfl) (qv:(Μ pos).any (·.1)=false:=by rfl):PE X (.Call (.Name x p) (e::es) [] pos) (U1 r t):=by
 intro pins s σ H Q I h;refine wpAny_Call_Name_kw (lJ I hg hm hv ?_ hn wI);exact PyProof.Rows.callWith_type1 (cG (ha pos pins s σ H _ I h) fun us s1 ⟨vs,H1,I1,r1,q1⟩=>hc pins s1 σ H1 vs us Q I1 r1 q1) he qv
end
section
variable{κ:Type}[DecidableEq κ]
def bA(kvs:List (κ×V))(k:κ):Option V:=(kvs.find? fun kv=>decide (kv.1=k)).map (·.2)
def putK(kvs:List (κ×V))(k:κ)(v:V):List (κ×V):=
 if (kvs.any fun kv=>decide (kv.1=k))=true then kvs.map (fun kv=>if kv.1=k then(kv.1,v)else kv)else kvs++[(k,v)]
def jc(kvs:List (κ×V))(k:κ):List (κ×V):=kvs.filter fun kv=>decide (kv.1≠k)
theorem s_{k:κ}:bA ([]:List (κ×V)) k=none:=rfl
theorem cD{p:κ×V}{r:List (κ×V)}{k:κ}(e:p.1=k):bA (p::r) k=some p.2:=by simp[bA,List.find?_cons,e]
theorem cw{p:κ×V}{r:List (κ×V)}{k:κ}(e:¬p.1=k):bA (p::r) k=bA r k:=by simp[bA,List.find?_cons,e]
theorem ip(k:κ):∀kvs:List (κ×V),(kvs.any fun kv=>decide (kv.1=k))=(bA kvs k).isSome
 |[]=>rfl
 |p::r=>by
  rw[List.any_cons];by_cases e:p.1=k
  ·simp only[cD e,decide_eq_true e,Bool.true_or,Option.isSome_some]
  ·rw[cw e,decide_eq_false e,Bool.false_or];exact ip k r
theorem yI(k j:κ)(y:V):∀kvs:List (κ×V),bA (kvs.map fun kv=>if kv.1=k then(kv.1,y)else kv) j=(bA kvs j).map fun x=>if j=k then y else x
 |[]=>rfl
 |p::r=>by
  have ih:=yI k j y r;rw[List.map_cons];by_cases h:p.1=k
  ·rw[Hz h];by_cases e:p.1=j
   ·rw[cD (p:=(p.1,y)) e,cD e,Option.map_some,Hz (e.symm.trans h)]
   ·rw[cw (p:=(p.1,y)) e,cw e,ih]
  ·rw[Dy h];by_cases e:p.1=j
   ·rw[cD (p:=p) e,cD e,Option.map_some,Dy (fun z=>h (e.trans z))]
   ·rw[cw (p:=p) e,cw e,ih]
theorem vM(k j:κ)(y:V):∀kvs:List (κ×V),bA kvs k=none→bA (kvs++[(k,y)]) j=if j=k then some y else bA kvs j
 |[],_=>by
  by_cases e:k=j
  ·rw[Hz e.symm];exact cD (p:=(k,y)) e
  ·rw[Dy (fun z=>e z.symm)];exact cw (p:=(k,y)) e
 |p::r,hn=>by
  rw[List.cons_append];have hk:¬p.1=k:=fun z=>by rw[cD z]at hn;cases hn
  rw[cw hk]at hn;have ih:=vM k j y r hn;by_cases e:p.1=j
  ·rw[cD e,cD e,Dy (fun z=>hk (e.trans z))]
  ·rw[cw e,cw e,ih]
theorem jd(kvs:List (κ×V))(k j:κ)(y:V):bA (putK kvs k y) j=if j=k then some y else bA kvs j:=by
 unfold putK;by_cases a:(kvs.any fun kv=>decide (kv.1=k))=true
 ·rw[Hz a,yI];rw[ip]at a;by_cases e:j=k
  ·obtain⟨x,hx⟩:=Option.isSome_iff_exists.mp a;rw[Hz e,e,hx,Option.map_some,if_pos rfl]
  ·rw[Dy e];cases bA kvs j with
   |none=>rfl
   |some x=>rw[Option.map_some,Dy e]
 ·rw[Dy a];refine vM k j y kvs ?_;rw[ip]at a;cases q:bA kvs k with
  |none=>rfl
  |some x=>rw[q]at a;exact(a rfl).elim
theorem eZ(kvs:List (κ×V))(k:κ)(v:V):(putK kvs k v).length≤kvs.length+1:=by
 unfold putK;split
 ·rw[List.length_map];omega
 ·rw[List.length_append,List.length_cons,List.length_nil];omega
theorem tm{kvs:List (κ×V)}{k:κ}(v:V)(h:bA kvs k=none):putK kvs k v=kvs++[(k,v)]:=by
 unfold putK;rw[ip,h];exact if_neg ZV
theorem kD.j9{o:Option V}{u:Option Value}(r:kD o u):o.isSome=u.isSome:=by
 cases o with
 |none=>cases u with
  |none=>rfl
  |some _=>exact(show False from r).elim
 |some _=>cases u with
  |none=>exact(show False from r).elim
  |some _=>rfl
theorem kD.getD{o:Option V}{u:Option Value}{d:V}{d':Value}(r:kD o u)(rd:RelV d d'):RelV (o.getD d) (u.getD d'):=by
 cases o with
 |none=>cases u with
  |none=>exact rd
  |some _=>exact(show False from r).elim
 |some _=>cases u with
  |none=>exact(show False from r).elim
  |some _=>exact r
theorem KV.val{kvs:List (κ×V)}{vs:List (κ×Value)}(r:KV kvs vs)(k:κ):kD (bA kvs k) (valueAt vs k):=by
 unfold KV at r
 induction r with
 |nil=>exact True.intro
 |@cons p q ps qs h t ih=>
  obtain⟨h1,h2⟩:=h;by_cases e:p.1=k
  ·have e':q.1=k:=h1.symm.trans e;have b:valueAt (q::qs) k=some q.2:=by simp[valueAt,List.find?_cons,e']
   rw[cD e,b];exact h2
  ·have e':¬q.1=k:=fun z=>e (h1.trans z)
   have b:valueAt (q::qs) k=valueAt qs k:=by simp[valueAt,List.find?_cons,e']
   rw[cw e,b];exact ih
theorem KV.any{kvs:List (κ×V)}{vs:List (κ×Value)}(r:KV kvs vs)(k:κ):(kvs.any fun kv=>decide (kv.1=k))=vs.any fun kv=>decide (kv.1=k):=by
 unfold KV at r
 induction r with
 |nil=>rfl
 |cons h t ih=>rw[List.any_cons,List.any_cons,ih,h.1]
theorem KV.KU{kvs:List (κ×V)}{vs:List (κ×Value)}(r:KV kvs vs)(k:κ){y:V}{u:Value}(ry:RelV y u):
  KV (kvs.map fun kv=>if kv.1=k then(kv.1,y)else kv) (vs.map fun kv=>if kv.1=k then(kv.1,u)else kv):=by
 unfold KV at r⊢
 induction r with
 |nil=>exact .nil
 |@cons p q ps qs h t ih=>
  rw[List.map_cons,List.map_cons];refine .cons ?_ ih;obtain⟨h1,h2⟩:=h;by_cases e:p.1=k
  ·rw[Hz e,Hz (h1.symm.trans e)];exact⟨h1,ry⟩
  ·rw[Dy e,Dy (fun z=>e (h1.trans z))];exact⟨h1,h2⟩
theorem KV.put{kvs:List (κ×V)}{vs:List (κ×Value)}(r:KV kvs vs)(k:κ){y:V}{u:Value}(ry:RelV y u):KV (putK kvs k y) (stored vs k u):=by
 unfold putK stored;rw[r.any k];by_cases e:(vs.any fun kv=>decide (kv.1=k))=true
 ·rw[Hz e,Hz e];exact r.KU k ry
 ·rw[Dy e,Dy e];exact Paired.snoc r ⟨rfl,ry⟩
theorem KV.length{kvs:List (κ×V)}{vs:List (κ×Value)}(r:KV kvs vs):kvs.length=vs.length:=Paired.length r
theorem yJ(kvs:List (κ×V))(k:κ):(jc kvs k).length≤kvs.length:=List.length_filter_le _ _
end
theorem vN{P:Program}{w:World}{k:Key}{u:Value}(r:RelV (kV k) u):(cX P w).is k u=true:=by
 cases k with
 |inl i=>obtain⟨t,e⟩:=(show ∃t,u=Value.int i t from r);subst e;exact yy P w i t
 |inr x=>obtain⟨t,e⟩:=(show ∃t,u=Value.str x t from r);subst e;exact yz P w x t
theorem vO{P:Program}{w:World}:∀{ks:List Key}{us:List Value},Vals (ks.map kV) us→ItemsAre (cX P w) ks us
 |[],_,r=>by rw[List.map_nil]at r;cases r;exact .nil
 |k::ks,_,r=>by
  rw[List.map_cons]at r;cases r with
  |cons h t=>exact .cons (vN h) (vO t)
abbrev KT(H:Hp):List (List Key×V)→List (List Key×Addr×Value)→Prop:=Paired fun p q=>p.1=q.1∧H q.2.1=some (.tup (p.1.map kV))∧RelV p.2 q.2.2
theorem KT.val{H:Hp}{kvs:List (List Key×V)}{xs:List (List Key×Addr×Value)}(r:KT H kvs xs)(k:List Key):kD (bA kvs k) ((atKey xs k).map (·.2)):=by
 induction r with
 |nil=>exact True.intro
 |@cons p q ps qs h t ih=>
  obtain⟨h1,_,h2⟩:=h;by_cases e:p.1=k
  ·have e':q.1=k:=h1.symm.trans e;have b:atKey (q::qs) k=some q.2:=by simp[atKey,List.find?_cons,e']
   rw[cD e,b];exact h2
  ·have e':¬q.1=k:=fun z=>e (h1.trans z)
   have b:atKey (q::qs) k=atKey qs k:=by simp[atKey,List.find?_cons,e']
   rw[cw e,b];exact ih
theorem KT.KU{H:Hp}{kvs:List (List Key×V)}{xs:List (List Key×Addr×Value)}(r:KT H kvs xs)(k:List Key){y:V}{u:Value}(ry:RelV y u):
  KT H (kvs.map fun kv=>if kv.1=k then(kv.1,y)else kv) (xs.map (putAt k u)):=by
 induction r with
 |nil=>exact .nil
 |@cons p q ps qs h t ih=>
  rw[List.map_cons,List.map_cons];refine .cons ?_ ih;obtain⟨h1,h2,h3⟩:=h;unfold putAt;by_cases e:p.1=k
  ·rw[Hz e,Hz (h1.symm.trans e)];exact⟨h1,h2,ry⟩
  ·rw[Dy e,Dy (fun z=>e (h1.trans z))];exact⟨h1,h2,h3⟩
theorem KT.put{H:Hp}{kvs:List (List Key×V)}{xs:List (List Key×Addr×Value)}(r:KT H kvs xs)(k:List Key){b:Addr}{y:V}{u:Value}(hb:H b=some (.tup (k.map kV)))(ry:RelV y u):
  KT H (putK kvs k y) (storedH xs k b u):=by
 have e:(kvs.any fun kv=>decide (kv.1=k))=(atKey xs k).isSome:=by
  rw[ip,(r.val k).j9,Option.isSome_map]
 unfold putK storedH;rw[e];by_cases q:(atKey xs k).isSome=true
 ·rw[Hz q,Hz q];exact r.KU k ry
 ·rw[Dy q,Dy q];exact Paired.snoc r ⟨rfl,hb,ry⟩
theorem KT.keeps{H H':Hp}{kvs:List (List Key×V)}{xs:List (List Key×Addr×Value)}(r:KT H kvs xs)(ht:∀b ys,H b=some (.tup ys)→H' b=some (.tup ys)):KT H' kvs xs:=
 Paired.Kj r fun _ _ z=>⟨z.1,ht _ _ z.2.1,z.2.2⟩
section
variable{P:Program}{w:World}{H:Hp}{h:Heap}{a:Addr}
theorem Jl{u:HO}(ok:lI P w H h)(e:Rd H a u):cO P w H h a u:=e.ok ok
theorem tq{kvs:List (Key×V)}(ok:lI P w H h)(e:Rd H a (.dK kvs)):kvs.length≤sizeLine∧(a==sysModules)=false∧∃vs,KV kvs vs∧h.DictOf (cX P w) a vs:=
 show cO P w H h a (.dK kvs)from Jl ok e
theorem N3{kvs:List (Key×V)}(ok:lI P w H h)(e:H a=some (.dK kvs)):kvs.length≤sizeLine∧(a==sysModules)=false∧∃vs,KV kvs vs∧h.DictOf (cX P w) a vs:=tq ok (.inl e)
theorem nF{ks:List Key}(ok:lI P w H h)(e:H a=some (.tup (ks.map kV))):(tupleKind (cX P w)).is h ks a:=by
 obtain⟨_,its,r,o,h1,h2,n,h3⟩:=(show cO P w H h a (.tup (ks.map kV))from ok a _ e)
 exact⟨o,its.toArray,n,h1,h2,h3,by simpa using vO r⟩
theorem tw{kvs:List (List Key×V)}(ok:lI P w H h)(e:Rd H a (.dT kvs)):kvs.length≤sizeLine∧(a==sysModules)=false∧
  ∃xs,KT H kvs xs∧h.DictOfH (tupleKind (cX P w)) a xs:=by
 obtain⟨z,y,xs,r,o,es,ep,h1,h2,h3,h4,h5⟩:=(show cO P w H h a (.dT kvs)from Jl ok e)
 refine⟨z,y,xs,r,o,es,ep,h1,h2,h3,h4,fun x hx=>?_,h5⟩;have all:∀{l:List (List Key×V)}{m:List (List Key×Addr×Value)},KT H l m→∀x∈m,(tupleKind (cX P w)).is h x.1 x.2.1:=by
  intro l m q
  induction q with
  |nil=>intro x hx;exact nomatch hx
  |@cons p q ps qs hq t ih=>
   intro x hx;rcases List.mem_cons.mp hx with e|hx
   ·subst e;exact nF ok (by rw[←hq.1];exact hq.2.1)
   ·exact ih x hx
 exact all r x hx
theorem Jm{kvs:List (List Key×V)}(ok:lI P w H h)(e:H a=some (.dT kvs)):kvs.length≤sizeLine∧(a==sysModules)=false∧
  ∃xs,KT H kvs xs∧h.DictOfH (tupleKind (cX P w)) a xs:=tw ok (.inl e)
end
def j_(H:Hp)(a:Addr)(y:V)(r:Option V):Prop:=
 (∃kvs k,Rd H a (.dK kvs)∧y=kV k∧r=bA kvs k)∨∃kvs k b,Rd H a (.dT kvs)∧y= .ref b∧H b=some (.tup (k.map kV))∧r=bA kvs k
def Hg(H:Hp)(a:Addr)(y v:V)(H':Hp):Prop:=
 (∃kvs k,H a=some (.dK kvs)∧y=kV k∧kvs.length<sizeLine∧H'=upd H a (.dK (putK kvs k v)))∨
 ∃kvs k b,H a=some (.dT kvs)∧y= .ref b∧H b=some (.tup (k.map kV))∧kvs.length<sizeLine∧H'=upd H a (.dT (putK kvs k v))
theorem j_.t{H:Hp}{a b:Addr}{kvs:List (List Key×V)}{k:List Key}(e:H a=some (.dT kvs))(eb:H b=some (.tup (k.map kV))):j_ H a (.ref b) (bA kvs k):= .inr ⟨kvs,k,b, .inl e,rfl,eb,rfl⟩
theorem Hg.t{H:Hp}{a b:Addr}{kvs:List (List Key×V)}{k:List Key}{v:V}(e:H a=some (.dT kvs))(eb:H b=some (.tup (k.map kV)))(hl:kvs.length<sizeLine):
  Hg H a (.ref b) v (upd H a (.dT (putK kvs k v))):= .inr ⟨kvs,k,b,e,rfl,eb,hl,rfl⟩
section
variable{X:Cx}{pins:List (Addr×Obj)}{σ:St}{H:Hp}{s:Shared}{a:Addr}{y v:V}{u r:Value}{o:Option V}{A:Around}{E:Value→Shared→Prop}
theorem Inv.big(I:Inv X pins σ H s):sysModules<s.heap.objs.size:=by
 have h:mainGlobals<s.heap.objs.size:=(I.mod.glob.keeps I.bk).lt;exact Nat.lt_trans ZV h
theorem CH{Q:Value→Shared→Prop}(hu:A.units+1<cLine)(I:Inv X pins σ H s)(g:j_ H a y (some v))(ry:RelV y u)(h:∀w' s',Inv X pins σ H s'→RelV v w'→Q w' s'):
  wpAny (model X.prog X.w) A (getItem (.ref a) u) Q E s:=by
 rcases g with⟨kvs,k,e,ey,l⟩|⟨kvs,k,b,e,ey,eb,l⟩
 ·subst ey;obtain⟨z,hd,vs,rel,dd⟩:=tq I.bS e;obtain⟨w',hw,i7⟩:=kD.some_of (v:=v) (o:=valueAt vs k) (by rw[l];exact rel.val k);exact wpAny_getItem_of (vN ry) dd.mapOf hw (h w' _ (I.tok _) i7)
 ·subst ey;cases(show u=Value.ref b from ry);obtain⟨z,hd,xs,rel,dd⟩:=tw I.bS e;obtain⟨w',hw,i7⟩:=kD.some_of (v:=v) (o:=(atKey xs k).map (·.2)) (by rw[l];exact rel.val k);obtain⟨p,hp,CI⟩:=Option.map_eq_some_iff.mp hw;refine wpAny_getItem_heap (tupleKind_room_in1 hu) (nF I.bS eb) dd hp ?_;rw[CI];exact h w' _ (I.tok _) i7
theorem RV{Q:Value→Shared→Prop}(hu:A.units+1<cLine)(I:Inv X pins σ H s)(g:j_ H a y o)(ry:RelV y u)(h:∀s',Inv X pins σ H s'→Q (.bool o.isSome) s'):
  wpAny (model X.prog X.w) A (compareOp .In u (.ref a)) Q E s:=by
 rcases g with⟨kvs,k,e,ey,l⟩|⟨kvs,k,b,e,ey,eb,l⟩
 ·subst ey;obtain⟨z,hd,vs,rel,dd⟩:=tq I.bS e;refine wpAny_in_of (vN ry) hd dd.mapOf ?_;rw[←(rel.val k).j9,←l];exact h _ (I.tok _)
 ·subst ey;cases(show u=Value.ref b from ry);obtain⟨z,hd,xs,rel,dd⟩:=tw I.bS e;refine wpAny_in_heap (tupleKind_room_in1 hu) (nF I.bS eb) hd dd ?_;have q:=(rel.val k).j9;rw[Option.isSome_map]at q;rw[←q,←l];exact h _ (I.tok _)
theorem Hh{Q:Value→Shared→Prop}(hu:A.units+1<cLine)(I:Inv X pins σ H s)(g:j_ H a y o)(ry:RelV y u)(h:∀s',Inv X pins σ H s'→Q (.bool (!o.isSome)) s'):
  wpAny (model X.prog X.w) A (compareOp .NotIn u (.ref a)) Q E s:=by
 rcases g with⟨kvs,k,e,ey,l⟩|⟨kvs,k,b,e,ey,eb,l⟩
 ·subst ey;obtain⟨z,hd,vs,rel,dd⟩:=tq I.bS e;refine wpAny_notIn_of (vN ry) hd dd.mapOf ?_;rw[←(rel.val k).j9,←l];exact h _ (I.tok _)
 ·subst ey;cases(show u=Value.ref b from ry);obtain⟨z,hd,xs,rel,dd⟩:=tw I.bS e;refine wpAny_notIn_heap (tupleKind_room_in1 hu) (nF I.bS eb) hd dd ?_;have q:=(rel.val k).j9;rw[Option.isSome_map]at q;rw[←q,←l];exact h _ (I.tok _)
theorem wK{h':Heap}{t':Nat}{ob:HO}(I:Inv X pins σ H s)(mu:Ny (H a))(hs:Heap.SameBut a s.heap h')(he:∃q,h'.get? a=some q)(new:cO X.prog X.w (upd H a ob) h' a ob):
  Inv X pins σ (upd H a ob) {s with heap:=h',toks:=t'}:=
 I.write (x:=a) (e:=a) mu (.inl rfl) (fun b q hb z=>(hs.2 b hb).trans z) he new
theorem KW{P:Program}{w:World}{H':Hp}{h':Heap}{kvs:List (Key×V)}{vs:List (Key×Value)}(z:kvs.length≤sizeLine)(hd:(a==sysModules)=false)(rel:KV kvs vs)(dd:h'.DictOf (cX P w) a vs):
  cO P w H' h' a (.dK kvs):=⟨z,hd,vs,rel,dd⟩
theorem CJ{H':Hp}{Q:Unit→Shared→Prop}(hu:A.units+1<cLine)(I:Inv X pins σ H s)(g:Hg H a y v H')(ry:RelV y u)(rv:RelV v r)(h:∀s',Inv X pins σ H' s'→Q () s'):
  wpAny (model X.prog X.w) A (setItem (.ref a) u r) Q E s:=by
 rcases g with⟨kvs,k,e,ey,l,eH⟩|⟨kvs,k,b,e,ey,eb,l,eH⟩
 ·subst ey eH;obtain⟨z,hd,vs,rel,dd⟩:=N3 I.bS e;have hz:vs.length≤sizeLine:=by rw[←rel.length];exact z
  have hl:(putK kvs k v).length≤sizeLine:=by have:=eZ kvs k v;omega
  refine wpAny_setItem_pairs (hsz:=hz) (vN ry) dd fun h' Jn hs=>h _ ?_
  have he:∃q,h'.get? a=some q:=let ⟨q,_,_,hq,_⟩:=Jn;⟨q,hq⟩
  exact wK I (by rw[e];exact True.intro) hs he (KW hl hd (rel.put k rv) Jn)
 ·subst ey eH;cases(show u=Value.ref b from ry);obtain⟨z,hd,xs,rel,dd⟩:=Jm I.bS e;have hz:xs.length≤sizeLine:=by rw[←Paired.length rel];exact z
  have hl:(putK kvs k v).length≤sizeLine:=by have:=eZ kvs k v;omega
  refine wpAny_setItem_heap (hsz:=hz) (tupleKind_room_in1 hu) (nF I.bS eb) dd fun h' Jn hs=>h _ ?_
  obtain⟨q,es,ep,hq,h2,h3,h4,_,h5⟩:=Jn;refine wK I (by rw[e];exact True.intro) hs ⟨q,hq⟩ ⟨hl,hd,_,(rel.put k eb rv).keeps fun c ys ec=>?_,q,es,ep,hq,h2,h3,h4,h5⟩;rw[ak (ja ec e (fun z=>nomatch z))];exact ec
end
section
variable{X:Cx}{pins:List (Addr×Obj)}{σ:St}{H:Hp}{s:Shared}{a:Addr}{kvs:List (Key×V)}{k:Key}{u:Value}{A:Around}{E:Value→Shared→Prop}
end
def N4(i:Expr):Prop:=∀ov iv,subscripted i false ov iv=operate [ov,iv] (getItem ov iv)
theorem Hi{prog:Program}{w:World}{A:Around}{E:Value→Shared→Prop}{s:Shared}{env:Env}{value slice:Expr}{pos:Pos}{T id:String}{Q:Value→Shared→Prop}
  (hl:typeLookup (.type T) "__getitem__"=pure (some (.builtin id))) (hs:N4 slice)
  (h:wpAny (model prog w) A (eval value env) (fun o cc=>wpAny (model prog w) A (eval slice env) (fun i qm=>qm.TypeIs o T∧wpAny (model prog w) A (getItem o i) Q E qm) E cc) E s):
  wpAny (model prog w) A (eval (.Subscript value slice pos) env) Q E s:=by
 refine Subscript_ (wpAny_mono h (fun o cc CK=>wpAny_mono CK (fun i qm Eo=>?_) fun _ _ x=>x) fun _ _ x=>x);obtain⟨hT,Eo⟩:=Eo;unfold subscriptTail;refine wpAny_bind ?_;rw[getitemInPython_of_ne hT.not_modules];refine wpAny_bind (wpAny_specialOf hT hl ?_);have fin:wpAny (model prog w) A (subscripted slice false o i) (fun r CL=>wpAny (model prog w) A (letTemporaryGo value o r>>=fun _=>pure r) Q E CL) E qm:=by
  rw[hs o i];exact wpAny_operating (wpAny_mono Eo (fun r CL Hj=>Z5 (wpAny_letTemporaryGo (Xs Hj))) fun _ _ x=>x)
 first
  |exact Xs (Z5 fin)
  |exact Z5 (Xs (Z5 fin))
  |exact Z5 fin
theorem yK{X:Cx}{pins:List (Addr×Obj)}{σ:St}{H:Hp}{s:Shared}{a:Addr}{y:V}{o:Option V}(I:Inv X pins σ H s)(g:j_ H a y o):s.TypeIs (.ref a) "dict":=by
 rcases g with⟨kvs,k,e,_,_⟩|⟨kvs,k,b,e,_,_,_⟩
 ·obtain⟨_,_,vs,_,dd⟩:=tq I.bS e;exact dd.typeIs
 ·obtain⟨_,_,xs,_,dd⟩:=tw I.bS e;exact dd.typeIs
def N5(td ty:TE):TE:=fun σ H Q=>td σ H fun x H1=>ty σ H1 fun y H2=>∃a v,x= .ref a∧j_ H2 a y (some v)∧Q v H2
def RW(ty td:TE):TE:=fun σ H Q=>ty σ H fun y H1=>td σ H1 fun x H2=>∃a o,x= .ref a∧j_ H2 a y o∧Q (.bl o.isSome) H2
def Hk(ty td:TE):TE:=fun σ H Q=>ty σ H fun y H1=>td σ H1 fun x H2=>∃a o,x= .ref a∧j_ H2 a y o∧Q (.bl (!o.isSome)) H2
def N6(td ty tv:TE):TS:=fun D σ H=>tv σ H fun v H1=>td σ H1 fun x H2=>ty σ H2 fun y H3=>∃a H4,x= .ref a∧Hg H3 a y v H4∧D.nx σ H4
section
variable{X:Cx}{o i e value:Expr}{pos pos' RS:Pos}{td ty tv:TE}
theorem iP(hu:X.A.units+1<cLine)(ho:PE X o td)(hi:PE X i ty)(hs:N4 i):PE X (.Subscript o i pos) (N5 td ty):=by
 intro pins s σ H Q I h;refine Hi PySem.F.slot_dict_getitem.lookup hs (cG (ho pins s σ H _ I h) fun u s1 ⟨x,H1,I1,rx,q1⟩=>cG (hi pins s1 σ H1 _ I1 q1) fun iv s2 ⟨y,H2,I2,ry,a,v,ex,g,q2⟩=>?_);subst ex;obtain rfl:u=Value.ref a:=rx;exact⟨yK I2 g,CH hu I2 g ry fun w' s3 I3 i7=>⟨v,H2,I3,i7,q2⟩⟩
theorem qw(hu:X.A.units+1<cLine)(hi:PE X i ty)(ho:PE X o td):PC X .In i o (RW ty td):=by
 intro pins s σ H Q I h;refine cG (hi pins s σ H _ I h) fun iv s1 ⟨y,H1,I1,ry,q1⟩=>cG (ho pins s1 σ H1 _ I1 q1) fun u s2 ⟨x,H2,I2,rx,a,ov,ex,g,q2⟩=>?_
 subst ex;obtain rfl:u=Value.ref a:=rx;exact RV hu I2 g ry fun s3 I3=>⟨.bl ov.isSome,H2,I3,rfl,q2⟩
theorem vP(hu:X.A.units+1<cLine)(hi:PE X i ty)(ho:PE X o td):PC X .NotIn i o (Hk ty td):=by
 intro pins s σ H Q I h;refine cG (hi pins s σ H _ I h) fun iv s1 ⟨y,H1,I1,ry,q1⟩=>cG (ho pins s1 σ H1 _ I1 q1) fun u s2 ⟨x,H2,I2,rx,a,ov,ex,g,q2⟩=>?_
 subst ex;obtain rfl:u=Value.ref a:=rx;exact Hh hu I2 g ry fun s3 I3=>⟨.bl (!ov.isSome),H2,I3,rfl,q2⟩
theorem kF(hu:X.A.units+1<cLine)(ho:PE X o td)(hi:PE X i ty)(hv:PE X value tv)(hs:swapsWith value (some (.Subscript o i pos')) pos.line X.env=pure false):
  PS X (.Assign [.Subscript o i pos'] value pos) (N6 td ty tv):=by
 intro pins s σ H D I h;refine wpAny_Assign_Subscript (cG (hv pins s σ H _ I h) fun r s1 ⟨v,H1,I1,rv,q1⟩=>cG (ho pins s1 σ H1 _ I1 q1) fun u s2 ⟨x,H2,I2,rx,q2⟩=>cG (hi pins s2 σ H2 _ I2 q2) fun iv s3 ⟨y,H3,I3,ry,a,H4,ex,g,q3⟩=>?_) hs;subst ex;obtain rfl:u=Value.ref a:=rx;exact CJ hu I3 g ry rv fun s4 I4=>⟨σ,H4,I4,q3⟩
end
theorem Ep{P:Program}{w:World}{H:Hp}(h:Heap)(hb:sysModules<h.objs.size):cO P w H (h.push {cls:= .type "dict",data:= .dict #[]}) h.objs.size (.dT []):=
 ⟨Nat.zero_le _,beq_eq_false_iff_ne.mpr (Z' (ZS hb)),[], .nil,_,#[],0,Heap.get?_push_size _ rfl,⟨rfl,rfl,rfl⟩,rfl,rfl,List.nodup_nil⟩
def KY:TE:=fun _ H Q=>∀p,H p=none→Q (.ref p) (upd H p (.dT []))
section
variable{X:Cx}{pos:Pos}
theorem ka:PE X (.Dict [] [] pos) KY:=fun pins s σ H Q I h=>
 wpAny_Dict_empty ⟨.ref s.heap.objs.size,_,I.laid (a:=s.heap.objs.size) (o:= .dT []) (t':=s.toks) (fun _ _ q=>ZE q) (Nat.le_refl _) (Ep s.heap I.big),rfl,h _ (I.bS.fresh ZD)⟩
end
structure M1(X:Cx)(o:Expr)(m:Str)(apos:Pos)(e:Expr)(eG:Pos):Prop where
 base:attributeBase o m X.env (eval o X.env)=eval o X.env
 uL:((backTo eG (starEach [e] X.env)).all (fun x=>!x.1)&&(backToKw eG (keywordEach [] X.env)).all (fun x=>x.1.isSome)
  &&decide (([e]:List Expr).length+([]:List Keyword).length+(if ([]:List Keyword).isEmpty then 0 else 1)<30))=true
 line:(apos.endLine==eG.line)=true
 trees:backTo eG (starEach [e] X.env)=[(false,eval e X.env)]
def RX(H:Hp)(a:Addr):Prop:=(∃kvs,Rd H a (.dK kvs))∨∃kvs,Rd H a (.dT kvs)
theorem Es{X:Cx}{pins:List (Addr×Obj)}{σ:St}{H:Hp}{s:Shared}{a:Addr}(I:Inv X pins σ H s)(d:RX H a):
  s.TypeIs (.ref a) "dict"∧(∀b,Value.ref a= .ref b→∃ob,s.heap.get? b=some ob∧ob.dict=none)∧(a==sysModules)=false:=by
 rcases d with⟨kvs,e⟩|⟨kvs,e⟩
 ·obtain⟨_,hd,vs,_,dd⟩:=tq I.bS e;refine⟨dd.typeIs,fun b q=>?_,hd⟩;cases q;obtain⟨ob,_,_,h1,h2,_⟩:=dd;exact⟨ob,h1,h2.2.1⟩
 ·obtain⟨_,hd,xs,_,dd⟩:=tw I.bS e;refine⟨dd.typeIs,fun b q=>?_,hd⟩;cases q;obtain⟨ob,_,_,h1,h2,_⟩:=dd;exact⟨ob,h1,h2.2.1⟩
section
variable{X:Cx}{pins:List (Addr×Obj)}{σ:St}{H:Hp}{s:Shared}{a:Addr}{y d:V}{u r:Value}{o:Option V}{A:Around}{E:Value→Shared→Prop}
theorem KZ{Q:Value→Shared→Prop}(hu:A.units+1<cLine)(I:Inv X pins σ H s)(g:j_ H a y o)(ry:RelV y u)(h:∀w' s',Inv X pins σ H s'→RelV (o.getD .cL) w'→Q w' s'):
  wpAny (model X.prog X.w) A (call (.builtin "dict.get") [.ref a,u]) Q E s:=by
 rcases g with⟨kvs,k,e,ey,l⟩|⟨kvs,k,b,e,ey,eb,l⟩
 ·subst ey;obtain⟨z,hd,vs,rel,dd⟩:=tq I.bS e;refine call_meetsIn PySem.F.slot_dict_get dd.typeIs PySem.F.entry_dict_get (PySem.F.args_dict_get_2 _ _) (meets_dict_get (cX X.prog X.w) a (vN ry) hd) ⟨_,dd.mapOf,h _ _ (I.tok _) ?_⟩;rw[l];exact(rel.val k).getD rfl
 ·subst ey;cases(show u=Value.ref b from ry);obtain⟨z,hd,xs,rel,dd⟩:=tw I.bS e;refine call_meetsIn PySem.F.slot_dict_get dd.typeIs PySem.F.entry_dict_get (PySem.F.args_dict_get_2 _ _) (meetsH_dict_get (tupleKind (cX X.prog X.w)) a b hd) ⟨tupleKind_room_in1 hu,k,xs,nF I.bS eb,dd,h _ _ (I.tok _) ?_⟩;rw[l];exact(rel.val k).getD rfl
end
def K0(td ty:TE):TE:=fun σ H Q=>td σ H fun x H1=>∃a,x= .ref a∧RX H1 a∧ty σ H1 fun y H2=>∃o,j_ H2 a y o∧Q (o.getD .cL) H2
section
variable{X:Cx}{o e f:Expr}{apos eG:Pos}{td ty tx:TE}
theorem Et(hu:X.A.units+1<cLine)(ho:PE X o td)(he:PE X e ty)(m:M1 X o "get" apos e eG):PE X (.Call (.Attribute o "get" apos) [e] [] eG) (K0 td ty):=by
 intro pins s σ H Q I h;refine wpAny_Call_method m.base m.uL m.line PySem.F.plainAttrs_dict PySem.F.slot_dict_get PySem.F.type_dict_get (cG (ho pins s σ H _ I h) fun u s1 ⟨x,H1,I1,rx,a,ex,d,q1⟩=>?_);subst ex;obtain rfl:u=Value.ref a:=rx;obtain⟨t1,t2,_⟩:=Es I1 d;refine⟨t1,t2,?_⟩;rw[m.trees];refine Calls.callWith_builtin rfl (Calls.evalArgs_plain (Calls.spliced_cons (cG (he pins s1 σ H1 _ I1 q1) fun iv s2 ⟨y,H2,I2,ry,ov,g,q2⟩=>Calls.spliced_nil ?_)));exact KZ hu I2 g ry fun w' s3 I3 i7=>⟨_,H2,I3,i7,q2⟩
end
section
variable{X:Cx}{pins:List (Addr×Obj)}{σ:St}{H:Hp}{s:Shared}{a:Addr}{kvs:List (Key×V)}{A:Around}{E:Value→Shared→Prop}
end
section
variable{X:Cx}{pins:List (Addr×Obj)}{σ:St}{H:Hp}{s:Shared}{a:Addr}{y:V}{u:Value}{A:Around}{E:Value→Shared→Prop}
end
end L2
namespace HT
open PySem PyProof.Rows
section
open PySem.SeqAt
open PySem.AutoSeq1 (wpAny_loadPart')
open PySem.MeetsSeq PySem.MeetsSeq2 PySem.MeetsSeq3
end
section
variable{prog:Program}{w:World}{A:Around}{E:Value→Shared→Prop}{s:Shared}
def kG(n d:Nat):Option Int→Nat
 |none=>d
 |some v=>if v<0 then(v+(n:Int)).toNat else min v.toNat n
theorem Eu(n d:Nat):kG n d none=d:=rfl
theorem Ew(n d:Nat)(hd:d≤n)(o:Option Int):kG n d o≤n:=by
 cases o with
 |none=>exact hd
 |some v=>
  show(if v<0 then(v+(n:Int)).toNat else min v.toNat n)≤n;by_cases hv:v<0
  ·rw[Hz hv];omega
  ·rw[Dy hv];exact Nat.min_le_right _ _
end
end HT
namespace L2
open PySem PySem.Spec PyProof.Rows
abbrev TO:=St→Hp→(Option Int→Hp→Prop)→Prop
def PO(X:Cx)(e:Option Expr)(t:TO):Prop:=
 ∀(pins:List (Addr×Obj))(s:Shared)(σ:St)(H:Hp)(Q:Option Int→Hp→Prop),Inv X pins σ H s→t σ H Q→
  wpAny (model X.prog X.w) X.A (evalPart e X.env) (fun u s'=>∃o H',Inv X pins σ H' s'∧IsPart u o∧Q o H') X.xe s
def Hl:TO:=fun _ H Q=>Q none H
def N7(t:TE):TO:=fun σ H Q=>t σ H fun x H1=>∃i,x= .int i∧Q (some i) H1
section
variable{X:Cx}{e:Expr}{te:TE}{lo hi:Option Expr}{tl th:TO}{pos p2:Pos}
theorem wL:PO X none Hl:=by
 intro pins s σ H Q I h;rw[evalPart_none];exact Xs ⟨none,H,I, .none,h⟩
theorem oJ(h:PE X e te):PO X (some e) (N7 te):=by
 intro pins s σ H Q I hw;rw[evalPart_some];refine cG (h pins s σ H _ I hw) fun u s1 ⟨x,H1,I1,r1,q1⟩=>?_
 obtain⟨i,rfl,q⟩:=q1;obtain⟨t,rfl⟩:=r1;exact⟨some i,H1,I1, .int i t,q⟩
def Qm(X:Cx)(r:V→Option Int→Option Int→Hp→VK→Prop):Prop:=
 ∀(pins:List (Addr×Obj))(s:Shared)(σ:St)(H:Hp)(x:V)(v vl vu:Value)(lo hi:Option Int)(sl:Addr)(Q:VK),Inv X pins σ H s→RelV x v→s.heap.IsSliceOf sl vl vu .none→IsPart vl lo→IsPart vu hi→r x lo hi H Q→
  ∃T id,typeLookup (.type T) "__getitem__"=pure (some (.builtin id))∧s.TypeIs v T∧wpAny (model X.prog X.w) X.A (getItem v (.ref sl)) (EP X pins σ Q) X.xe s
def Xb(r:V→Option Int→Option Int→Hp→VK→Prop)(te:TE)(tl th:TO):TE:=fun σ H Q=>te σ H fun x H1=>tl σ H1 fun l H2=>th σ H2 fun u H3=>r x l u H3 Q
theorem oK{r:V→Option Int→Option Int→Hp→VK→Prop}(hr:Qm X r)(he:PE X e te)(hl:PO X lo tl)(hu:PO X hi th):PE X (.Subscript e (.Slice lo hi none p2) pos) (Xb r te tl th):=by
 intro pins s σ H Q I h;refine Subscript_ (cG (he pins s σ H _ I h) fun v s1 ⟨x,H1,I1,r1,q1⟩=>?_);refine wpAny_Slice (cG (hl pins s1 σ H1 _ I1 q1) fun vl s2 ⟨l,H2,I2,pl,q2⟩=>cG (hu pins s2 σ H2 _ I2 q2) fun vu s3 ⟨u,H3,I3,pu,q3⟩=>?_);rw[evalPart_none];refine wpAny_pure ?_;have I4:Inv X pins σ H3 {s3 with heap:=s3.heap.push {cls:= .type "slice",data:= .fields #[vl,vu, .none]}}:=I3.kept (t':=s3.toks) fun b ob q=>ZE q
 obtain⟨T,id,hT,ht,hg⟩:=hr pins {s3 with heap:=s3.heap.push {cls:= .type "slice",data:= .fields #[vl,vu, .none]}} σ H3 x v vl vu l u s3.heap.objs.size Q I4 r1 (Heap.IsSliceOf.new ..) pl pu q3;show wpAny (model X.prog X.w) X.A (subscriptTail e (.Slice lo hi none p2) v (.ref s3.heap.objs.size)) (EP X pins σ Q) X.xe {s3 with heap:=s3.heap.push {cls:= .type "slice",data:= .fields #[vl,vu, .none]}};exact tail_any (ops:=[.ref s3.heap.objs.size,v]) ht hT hg (by with_unfolding_all rfl)
def CM(xs:List V)(lo hi:Option Int):List V:=(xs.drop (HT.kG xs.length 0 lo)).take (HT.kG xs.length xs.length hi-HT.kG xs.length 0 lo)
theorem yL(xs:List V)(lo hi:Option Int):(CM xs lo hi).length≤xs.length:=by
 unfold CM;rw[List.length_take,List.length_drop];omega
end
def Ex(n:Nat)(i:Int):Option Nat:=if 0≤i then(if i<n then some i.toNat else none)else if-(n:Int)≤i then some (i+n).toNat else none
def sM{α:Type}(xs:List α)(i:Int):Option α:=(Ex xs.length i).bind fun j=>xs[j]?
theorem Bx{n:Nat}{i:Int}{j:Nat}(h:Ex n i=some j):seqIndex? i n=some j∧j<n∧-(n:Int)≤i∧i<n:=by
 unfold Ex at h;by_cases h0:0≤i
 ·rw[Hz h0]at h;by_cases h1:i<n
  ·rw[Hz h1]at h;have e:i.toNat=j:=YA h;exact⟨by rw[seqIndex_of h0 h1,e],ZF,ZF,h1⟩
  ·rw[Dy h1]at h;cases h
 ·rw[Dy h0]at h;by_cases h1:-(n:Int)≤i
  ·rw[Hz h1]at h;have e:(i+n).toNat=j:=YA h;exact⟨by rw[seqIndex_neg (ZF) h1,e],ZF,h1,ZF⟩
  ·rw[Dy h1]at h;cases h
theorem wM{α:Type}{xs:List α}{i:Int}{v:α}(h:sM xs i=some v):∃j,seqIndex? i xs.length=some j∧xs[j]?=some v∧j<xs.length∧-(xs.length:Int)≤i∧i<xs.length:=by
 unfold sM at h;cases e:Ex xs.length i with
 |none=>rw[e]at h;cases h
 |some j=>
  rw[e]at h;obtain⟨h1,h2,h3,h4⟩:=Bx e;exact⟨j,h1,h,h2,h3,h4⟩
theorem ar{α:Type}{xs:List α}{j:Nat}{v:α}(h:xs[j]?=some v):sM xs (j:Int)=some v:=by
 have hj:j<xs.length:=(WB h).1;have e:Ex xs.length (j:Int)=some j:=by
  unfold Ex;rw[if_pos (ZF),if_pos (ZF)];simp
 unfold sM;rw[e];exact h
theorem yM{α:Type}(xs:List α)(v:α):sM (xs++[v]) (-1)=some v:=by
 have hl:(xs++[v]).length=xs.length+1:=MD;have e:Ex (xs++[v]).length (-1)=some xs.length:=by
  unfold Ex;rw[hl,if_neg ZV,if_pos (ZF)]
  congr 1
  omega
 unfold sM;rw[e];show(xs++[v])[xs.length]?=some v;simp
def Hm(b:Expr):Prop:=∀o i,subscripted b false o i=operate [o,i] (getItem o i)
def MO(X:Cx)(r:R2):Prop:=
 ∀(value slice:Expr)(pins:List (Addr×Obj))(s:Shared)(σ:St)(H:Hp)(x y:V)(v u:Value)(Q:VK),Inv X pins σ H s→RelV x v→RelV y u→r x y H Q→
  subscripted slice false v u=operate [v,u] (getItem v u)→wpAny (model X.prog X.w) X.A (subscriptTail value slice v u) (EP X pins σ Q) X.xe s
def Qn(X:Cx)(id:String)(r:V→List V→Hp→VK→Prop):Prop:=
 ∀(pins:List (Addr×Obj))(s:Shared)(σ:St)(H:Hp)(x:V)(xs:List V)(v:Value)(us:List Value)(Q:VK),Inv X pins σ H s→RelV x v→Vals xs us→r x xs H Q→
  wpAny (model X.prog X.w) X.A (call (.builtin id) (v::us)) (EP X pins σ Q) X.xe s
section
variable{X:Cx}{a b:Expr}{ta tb:TE}{pos:Pos}
theorem aB{r:R2}(hr:MO X r)(ha:PE X a ta)(hb:PE X b tb)(hs:Hm b):PE X (.Subscript a b pos) (Ql r ta tb):=by
 intro pins s σ H Q I h;exact Subscript_ (KG ha hb I h fun v u s2 x y H2 I2 rx ry q=>hr a b pins s2 σ H2 x y v u Q I2 rx ry q (hs _ _))
inductive K1(K:PySem.W.Frag)(x:V)(y:V)(H:Hp)(Q:VK):Prop
 |mk (p:_) (xs:_) (i:_) (v:_) (_:x= .ref p) (_:y= .int i) (_:iD K H p xs) (_:sM xs i=some v) (_:Q v H):K1 K x y H Q
inductive K2(K:PySem.W.Frag)(x:V)(y:V)(H:Hp)(Q:VK):Prop
 |mk (p:_) (xs:_) (i:_) (v:_) (_:x= .ref p) (_:y= .int i) (_:Ea K H p xs) (_:sM xs i=some v) (_:Q v H):K2 K x y H Q
inductive N8(x:V)(y:V)(H:Hp)(Q:VK):Prop
 |mk (z:_) (i:_) (c:_) (_:x= .str z) (_:y= .int i) (_:z.length≤sizeLine) (_:sM z.cps.toList i=some c) (_:Q (.str ⟨#[c]⟩) H):N8 x y H Q
theorem Hn:MO X (K1 X.K):=by
 intro value slice pins s σ H x y v u Q I rx ry h hs;obtain⟨p,xs,i,z,rfl,rfl,hq,he,q⟩:=h;cases rx;obtain⟨t,rfl⟩:=ry;obtain⟨its,r,pl,hz⟩:=I.list hq;obtain⟨j,h1,h2,h3,h4,h5⟩:=wM he;obtain⟨w,ew,i7⟩:=r.get h2;have hl:=r.length;have hn:=qo;have fin:EP X pins σ Q w s:=⟨z,H,I,i7,q⟩
 by_cases h0:0≤i
 ·have hj:i.toNat=j:=by
   rw[seqIndex_of h0 h5]at h1;exact YA h1
  exact item_listR pl.isList h0 (ZF) (by rw[hj];simpa using ew) fin hs
 ·have hj:(i+(its.toArray.size:Int)).toNat=j:=by
   rw[seqIndex_neg (ZF) h4]at h1;rw[List.size_toArray,←hl];exact YA h1
  exact subscriptTail_builtinR (x:=w) pl.isList.typeIs slot_list_getitem.lookup
   (wpAny_getItem_list_neg (Q:=fun r s'=>r=w∧EP X pins σ Q r s') pl.isList (ZF) (by rw[List.size_toArray]<;>omega) (ZF) (by rw[hj];simpa using ew) ⟨rfl,fin⟩) hs
theorem K3:MO X (K2 X.K):=by
 intro value slice pins s σ H x y v u Q I rx ry h hs;obtain⟨p,xs,i,z,rfl,rfl,hq,he,q⟩:=h;cases rx;obtain⟨t,rfl⟩:=ry;obtain⟨its,r,pl,hz⟩:=I.tuple hq;obtain⟨j,h1,h2,h3,h4,h5⟩:=wM he;obtain⟨w,ew,i7⟩:=r.get h2;have hl:=r.length;have hn:=qo;have fin:EP X pins σ Q w s:=⟨z,H,I,i7,q⟩
 exact subscriptTail_builtinR (x:=w) pl.typeIs slot_tuple_getitem.lookup
  (getItem_tuple (j:=j) (Q:=fun r s'=>r=w∧EP X pins σ Q r s') pl (ZF) (ZF) (by rw[List.size_toArray,←hl];exact h1) (by simpa using ew) ⟨rfl,fin⟩) hs
theorem Ey:MO X N8:=by
 intro value slice pins s σ H x y v u Q I rx ry h hs;obtain⟨z,i,c,rfl,rfl,hz,he,q⟩:=h;obtain⟨t,rfl⟩:=rx;obtain⟨t',rfl⟩:=ry;obtain⟨j,h1,h2,h3,h4,h5⟩:=wM he;have hl:z.cps.toList.length=z.length:=by simp[Str.length]
 rw[hl]at h1 h4 h5;have hn:=qo;exact tail_any (typeIs_str s z t) slot_str_getitem.lookup (getItem_str (c:=c) (by
  have e1:decide (i< -(2^63:Int))=false:=decide_eq_false (ZF);have e2:decide (i≥2^63)=false:=decide_eq_false (ZF);rw[e1,e2,Bool.or_false]) (by rw[h1];simpa using h2) ⟨.str ⟨#[c]⟩,H,I.tok _,⟨_,rfl⟩,q⟩) hs
theorem Ah(its:List Value)(n j:Nat)(u:Value):Obj.mapSeq (·.setIfInBounds j u) {cls:= .type "list",data:= .seq its.toArray n}={cls:= .type "list",data:= .seq (its.set j u).toArray n}:=by
 simp[Obj.mapSeq]
theorem Inv.lst{pins:List (Addr×Obj)}{σ:St}{H:Hp}{s:Shared}{p:Addr}{xs:List V}(I:Inv X pins σ H s)(h:H p=some (.lst xs)):
  ∃(its:List Value)(n:Nat),Vals xs its∧s.heap.get? p=some {cls:= .type "list",data:= .seq its.toArray n}∧xs.length≤sizeLine:=by
 obtain⟨z,its,n,r,e⟩:=I.bS p _ h;exact⟨its,n,r,e,z⟩
theorem Inv.aaI{pins:List (Addr×Obj)}{σ:St}{H:Hp}{s:Shared}{p:Addr}{xs ys:List V}{its its':List Value}{n n':Nat}{f:Obj→Obj}(I:Inv X pins σ H s)(h:H p=some (.lst xs))
  (ho:s.heap.get? p=some {cls:= .type "list",data:= .seq its.toArray n}) (hf:f {cls:= .type "list",data:= .seq its.toArray n}={cls:= .type "list",data:= .seq its'.toArray n'}) (r:Vals ys its') (hz:ys.length≤sizeLine) (t:Nat):
  Inv X pins σ (upd H p (.lst ys)) {s with heap:=s.heap.update p f,toks:=t}:=by
 have e:(s.heap.update p f).get? p=some {cls:= .type "list",data:= .seq its'.toArray n'}:=by
  rw[Heap.get?_update_self f ho (by rw[hf]<;>rfl),hf]
 refine I.write (x:=p) (e:=p) (by rw[h];trivial) (.inl rfl) (fun b u hb q=>(Heap.get?_update_other _ _ (Z' hb)).trans q) ⟨_,e⟩ ?_;exact⟨hz,its',n',r,e⟩
inductive Jo(o:V)(i:V)(v:V)(H:Hp)(Q:(Hp→Prop)):Prop
 |mk (p:_) (xs:_) (k:_) (j:_) (_:o= .ref p) (_:i= .int k) (_:H p=some (.lst xs)) (_:Ex xs.length k=some j) (_:Q (upd H p (.lst (xs.set j v)))):Jo o i v H Q
theorem set_list:NP X Jo:=by
 intro pins s σ H o i v ov iv u Q I ro ri rv h;obtain⟨p,xs,k,j,rfl,rfl,hp,hj,q⟩:=h;cases ro;obtain⟨t,rfl⟩:=ri;obtain⟨its,n,r,ho,hz⟩:=I.lst hp;obtain⟨h1,h2,h3,h4⟩:=Bx hj;have hl:=r.length;have hn:=qo;have I':Inv X pins σ (upd H p (.lst (xs.set j v))) {s with heap:=s.heap.update p (Obj.mapSeq (·.setIfInBounds j u))}:=
  I.aaI hp ho (Ah its n j u) (r.set rv j) (by rw[List.length_set];exact hz) s.toks
 by_cases h0:0≤k
 ·have hk:k.toNat=j:=by
   rw[seqIndex_of h0 h4]at h1;exact YA h1
  exact PySem.W.ki_setAt ho h0 (ZF) (by rw[List.size_toArray,←hl];exact h4) (by rw[hk];exact⟨_,I',q⟩)
 ·have hk:(k+(its.toArray.size:Int)).toNat=j:=by
   rw[seqIndex_neg (ZF) h3]at h1;rw[List.size_toArray,←hl];exact YA h1
  exact PySem.W.ki_setBack ho (ZF) (by rw[List.size_toArray,←hl];exact h3) (ZF) (by rw[hk];exact⟨_,I',q⟩)
theorem wN(lo hi:Option Int)(n:Nat):(sliceBounds lo hi none n).1=((HT.kG n 0 lo:Nat):Int)∧(sliceBounds lo hi none n).2.1=((HT.kG n n hi:Nat):Int)∧(sliceBounds lo hi none n).2.2=1:=by
 refine⟨?_,?_,rfl⟩
 ·cases lo with
  |none=>simp[sliceBounds,HT.kG]
  |some i=>
   simp only[sliceBounds,HT.kG,Option.getD_none,show(1:Int)>0 by decide,if_true];by_cases h:i<0
   ·simp only[h,if_true]<;>lia
   ·simp only[h,if_false]<;>lia
 ·cases hi with
  |none=>simp[sliceBounds,HT.kG]
  |some i=>
   simp only[sliceBounds,HT.kG,Option.getD_none,show(1:Int)>0 by decide,if_true];by_cases h:i<0
   ·simp only[h,if_true]<;>lia
   ·simp only[h,if_false]<;>lia
theorem uQ(its:List Value)(lo hi:Option Int):slicePick its.toArray lo hi none=((its.drop (HT.kG its.length 0 lo)).take (HT.kG its.length its.length hi-HT.kG its.length 0 lo)).toArray:=by
 obtain⟨h1,h2,h3⟩:=wN lo hi its.toArray.size;unfold slicePick;rw[h1,h2,h3];simp only[sliceRange_one,pick_run,List.size_toArray]<;>rfl
inductive K5(K:PySem.W.Frag)(x:V)(lo:Option Int)(hi:Option Int)(H:Hp)(Q:VK):Prop
 |mk (a:_) (xs:_) (_:x= .ref a) (_:iD K H a xs) (_:∀p,H p=none→Q (.ref p) (upd H p (.lst (CM xs lo hi)))):K5 K x lo hi H Q
theorem Ho:Qm X (K5 X.K):=by
 intro pins s σ H x v vl vu lo hi sl Q I rx hs pl pu h;obtain⟨a,xs,rfl,hx,q⟩:=h;cases rx;obtain⟨its,r,ht,hz⟩:=I.list hx;have hlen:=r.length;refine⟨"list",_,slot_list_getitem.lookup,ht.isList.typeIs,?_⟩;refine wpAny_getItem_list_slice ht.isList hs pl pu .none (MD) ?_ (by rw[List.size_toArray]<;>omega);rw[uQ,←hlen];refine⟨.ref s.heap.objs.size,_,I.laid (t':=s.toks) (o:= .lst (CM xs lo hi)) (fun b ob q=>ZE q) (Nat.le_refl _) ?_,rfl,q _ (I.bS.fresh ZD)⟩;exact⟨ZX (yL xs lo hi) hz,_,0,(r.drop (HT.kG xs.length 0 lo)).take (HT.kG xs.length xs.length hi-HT.kG xs.length 0 lo),Heap.get?_push_size _ rfl⟩
def rF:V→Bool
 | .cL=>true
 | .bl _=>true
 | .int _=>true
 | .str _=>true
 | _=>false
def wO:V→V→Bool
 | .cL, .cL=>true
 | .bl a, .bl b=>a==b
 | .bl a, .int b=>(if a then 1 else 0)==b
 | .int a, .bl b=>a==(if b then 1 else 0)
 | .int a, .int b=>a==b
 | .str a, .str b=>a==b
 | _,_=>false
theorem wQ{A:Around}{s:Shared}{y x:V}{u v:Value}(ry:RelV y u)(rx:RelV x v)(fy:rF y=true)(fx:rF x=true):SeqAt.EqAt A s u v (wO y x):=by
 cases y with
 |cL=>
  cases ry;cases x with
  |cL=>cases rx;exact SeqAt.EqAt.same _
  |bl b=>cases rx;exact SeqAt.EqAt.none_bool b
  |int b=>obtain⟨t,rfl⟩:=rx;exact SeqAt.EqAt.none_int b t
  |str b=>obtain⟨t,rfl⟩:=rx;exact SeqAt.EqAt.none_str b t
  | _=>exact Ζ (show false=true from fx)
 |bl a=>
  cases ry;cases x with
  |cL=>cases rx;exact SeqAt.EqAt.bool_none a
  |bl b=>cases rx;exact SeqAt.EqAt.bool_bool a b
  |int b=>obtain⟨t,rfl⟩:=rx;exact SeqAt.EqAt.bool_int a b t
  |str b=>obtain⟨t,rfl⟩:=rx;exact SeqAt.EqAt.bool_str a b t
  | _=>exact Ζ (show false=true from fx)
 |int a=>
  obtain⟨t',rfl⟩:=ry;cases x with
  |cL=>cases rx;exact SeqAt.EqAt.int_none a t'
  |bl b=>cases rx;exact SeqAt.EqAt.int_bool a t' b
  |int b=>obtain⟨t,rfl⟩:=rx;exact SeqAt.EqAt.int_int a t' b t
  |str b=>obtain⟨t,rfl⟩:=rx;exact SeqAt.EqAt.int_str a t' b t
  | _=>exact Ζ (show false=true from fx)
 |str a=>
  obtain⟨t',rfl⟩:=ry;cases x with
  |cL=>cases rx;exact SeqAt.EqAt.str_none a t'
  |bl b=>cases rx;exact SeqAt.EqAt.str_bool a t' b
  |int b=>obtain⟨t,rfl⟩:=rx;exact SeqAt.EqAt.str_int a t' b t
  |str b=>obtain⟨t,rfl⟩:=rx;exact SeqAt.EqAt.str_str a t' b t
  | _=>exact Ζ (show false=true from fx)
 | _=>exact Ζ (show false=true from fy)
theorem wR:iJ X (.builtin "len") (fun xs H Q=>∃p ys,xs=[.ref p]∧(iD X.K H p ys∨Ea X.K H p ys)∧Q (.int ys.length) H):=by
 intro pins s σ H xs us Q I r h;obtain⟨p,ys,rfl,hq,q⟩:=h;obtain⟨u,rfl,rx⟩:=vals1 r;cases rx;have hn:=qo;rcases hq with hq|hq
 ·obtain⟨its,r',pl,hz⟩:=I.list hq;have hlen:=r'.length;exact Calls.call_len_list pl.isList (by simp only[List.size_toArray]<;>omega) ⟨.int ys.length,H,I.tok _,⟨s.toks+1,by rw[List.size_toArray,hlen]⟩,q⟩
 ·obtain⟨its,r',pl,hz⟩:=I.tuple hq;have hlen:=r'.length;exact len_tuple pl (by simp only[List.size_toArray]<;>omega) ⟨.int ys.length,H,I.tok _,⟨s.toks+1,by rw[List.size_toArray,hlen]⟩,q⟩
theorem oM:iJ X (.builtin "len") (fun xs H Q=>∃z,xs=[.str z]∧z.length≤sizeLine∧Q (.int z.length) H):=by
 intro pins s σ H xs us Q I r h;obtain⟨z,rfl,hz,q⟩:=h;obtain⟨u,rfl,t,rfl⟩:=vals1 r;have hn:=qo;exact len_str (ZF) ⟨.int z.length,H,I.tok _,⟨_,rfl⟩,q⟩
theorem wU:iJ X (.type "list") (fun xs H Q=>∃p ys,xs=[.ref p]∧(iD X.K H p ys∨Ea X.K H p ys)∧∀l,H l=none→Q (.ref l) (upd H l (.lst ys))):=by
 intro pins s σ H xs us Q I r h;obtain⟨p,ys,rfl,hq,q⟩:=h;obtain⟨u,rfl,rx⟩:=vals1 r;cases rx;have fin:∀(its:List Value),Vals ys its→ys.length≤sizeLine→∀(h':Heap)(c':Nat),(∀b o',s.heap.get? b=some o'→h'.get? b=some o')→
   h'.get? s.heap.objs.size=some {cls:= .type "list",dict:=none,data:= .seq its.toArray c',slots:=#[]}→EP X pins σ Q (.ref s.heap.objs.size) {s with heap:=h'}:=fun its r' hz h' c' kp e=>
  ⟨.ref s.heap.objs.size,_,I.laid (t':=s.toks) kp ZD (show cO X.prog X.w _ h' _ (.lst ys)from⟨hz,its,c',r',e⟩),rfl,q _ (I.bS.fresh ZD)⟩
 rcases hq with hq|hq
 ·obtain⟨its,r',pl,hz⟩:=I.list hq;have hlen:=r'.length;obtain⟨o,ho,hc,n,hd⟩:=pl.isList;exact call_list_seq p (.inl rfl) ho hc hd (fun h' c' kp e=>fin its r' hz h' c' kp e) (by simp only[List.size_toArray]<;>omega)
 ·obtain⟨its,r',pl,hz⟩:=I.tuple hq;have hlen:=r'.length;obtain⟨o,ho,hc,n,hd⟩:=pl;exact call_list_seq p (.inr rfl) ho hc hd (fun h' c' kp e=>fin its r' hz h' c' kp e) (by simp only[List.size_toArray]<;>omega)
def RY(K:PySem.W.Frag)(T:String)(x:V)(H:Hp):Prop:=match x with
 | .str _=>T="str"
 | .int _=>T="int"
 | .ref p=>(T="list"∧∃xs,iD K H p xs)∨(T="tuple"∧∃o,K.lookup p=some o∧o.cls= .type "tuple"∧o.dict=none)∨
   (T="dict"∧((∃kvs,H p=some (.dK kvs))∨∃kvs,H p=some (.dT kvs)))∨(T="set"∧∃S n,H p=some (.set S n))
 | _=>False
theorem Ez{pins:List (Addr×Obj)}{σ:St}{H:Hp}{s:Shared}{T:String}{x:V}{v:Value}(I:Inv X pins σ H s)(r:RelV x v)(ty:RY X.K T x H):
  s.TypeIs v T∧∀a,v= .ref a→∃ob,s.heap.get? a=some ob∧ob.dict=none:=by
 cases x with
 |str z=>
  obtain⟨t,rfl⟩:=r;cases(show T="str" from ty);exact⟨typeIs_str s z t,fun _ e=>nomatch e⟩
 |int i=>
  obtain⟨t,rfl⟩:=r;cases(show T="int" from ty);exact⟨typeIs_int s i t,fun _ e=>nomatch e⟩
 |ref p=>
  cases r;rcases ty with⟨rfl,xs,hq⟩|⟨rfl,o,hk,hc,hd⟩|⟨rfl,hk⟩|⟨rfl,S,n,hk⟩
  ·obtain⟨its,_,pl,_⟩:=I.list hq;refine⟨pl.isList.typeIs,fun a e=>?_⟩;cases e;obtain⟨o,n,e,c,hd,_⟩:=pl;exact⟨o,e,hd⟩
  ·refine⟨⟨o,I.ql p o hk,hc⟩,fun a e=>?_⟩;cases e;exact⟨o,I.ql _ o hk,hd⟩
  ·have z:∃o,s.heap.get? p=some o∧o.ExactDict:=by
    rcases hk with⟨kvs,hk⟩|⟨kvs,hk⟩
    ·obtain⟨_,_,_,_,o,_,_,e,ex,_⟩:=I.bS p _ hk;exact⟨o,e,ex⟩
    ·obtain⟨_,_,_,_,o,_,_,e,ex,_⟩:=I.bS p _ hk;exact⟨o,e,ex⟩
   obtain⟨o,e,ex⟩:=z;refine⟨⟨o,e,ex.1⟩,fun a e2=>?_⟩;cases e2;exact⟨o,e,ex.2.1⟩
  ·obtain⟨o,_,_,_,e,ex,_⟩:=I.bS p _ hk;refine⟨⟨o,e,ex.1⟩,fun a e2=>?_⟩;cases e2;exact⟨o,e,ex.2.1⟩
 | _=>exact False.elim ty
def N9(K:PySem.W.Frag)(T:String)(r:V→List V→Hp→VK→Prop)(to:TE):TE:=fun σ H Q=>to σ H fun x H1=>RY K T x H1∧r x [] H1 Q
def U2(K:PySem.W.Frag)(T:String)(r:V→List V→Hp→VK→Prop)(to:TE)(t:TA):TE:=fun σ H Q=>to σ H fun x H1=>RY K T x H1∧t σ H1 fun xs H2=>r x xs H2 Q
variable{o e:Expr}{es:List Expr}{to:TE}{t:TA}{name:Str}{apos eG:Pos}{T id:String}{r:V→List V→Hp→VK→Prop}
theorem K6(pa:PlainAttrs T)(slot:Slot T name id)(DR:typeOf (.builtin id)=pure (.type "method_descriptor"))(hm:Qn X id r)(ho:PE X o to)
  (oN:attributeBase o name X.env (eval o X.env)=eval o X.env:=by rfl) (oO:(apos.endLine==eG.line)=true:=by rfl):PE X (.Call (.Attribute o name apos) [] [] eG) (N9 X.K T r to):=by
 intro pins s σ H Q I h;refine wpAny_Call_method0_late oN oO (cG (ho pins s σ H _ I h) fun v s1 ⟨x,H1,I1,r1,ty,q1⟩=>?_);obtain⟨h1,h2⟩:=Ez I1 r1 ty;exact⟨T,id,pa,slot,DR,h1,h2,Calls.callWith_builtin rfl (PySem.evalArgs_none (hm pins s1 σ H1 x [] v [] Q I1 r1 .nil q1))⟩
theorem N_(pa:PlainAttrs T)(slot:Slot T name id)(DR:typeOf (.builtin id)=pure (.type "method_descriptor"))(hm:Qn X id r)(ho:PE X o to)(ha:PA X (e::es) t)
  (oN:attributeBase o name X.env (eval o X.env)=eval o X.env:=by rfl)
  (EA:((backTo eG (starEach (e::es) X.env)).all (fun x=>!x.1)&&(backToKw eG (keywordEach [] X.env)).all (fun x=>x.1.isSome)
   &&decide ((e::es).length+([]:List Keyword).length+(if ([]:List Keyword).isEmpty then 0 else 1)<30))=true:=by rfl)
  (oO:(apos.endLine==eG.line)=true:=by rfl) (hs:starEach (e::es) X.env=(false,eval e X.env)::starEach es X.env:=by rfl) (Ai:(Μ eG).any (·.1)=false:=by rfl):
  PE X (.Call (.Attribute o name apos) (e::es) [] eG) (U2 X.K T r to t):=by
 intro pins s σ H Q I h;refine wpAny_Call_method_late oN EA oO rfl (cG (ho pins s σ H _ I h) fun v s1 ⟨x,H1,I1,r1,ty,q1⟩=>?_);obtain⟨h1,h2⟩:=Ez I1 r1 ty;refine⟨T,id,pa,slot,DR,h1,h2,?_⟩;have hA:=ha eG pins s1 σ H1 _ I1 q1;rw[hs]at hA⊢;refine Calls.callWith_builtin (by show(false||(Μ eG).any (·.1))=false;rw[Ai]<;>rfl) (Calls.evalArgs_plain ?_);exact cG hA fun us s2 ⟨vs,H2,I2,r2,q2⟩=>hm pins s2 σ H2 x vs v us Q I2 r1 r2 q2
end
def RZ(X:Cx)(id:String)(r:V→List V→Hp→VK→Prop):Prop:=
 ∀(pins:List (Addr×Obj))(s:Shared)(σ:St)(H:Hp)(x:V)(xs:List V)(v:Value)(us:List Value)(Q:VK),Inv X pins σ H s→RelV x v→Vals xs us→r x xs H Q→
  wpAny (model X.prog X.w) X.A (call (.builtin id) (v::us)) (EP X pins σ Q) X.xe s
theorem Vals.one:∀{x:V}{us:List Value},Vals [x] us→∃u,us=[u]∧RelV x u
 | _,_, .cons r .nil=>⟨_,rfl,r⟩
theorem Vals.zero:∀{us:List Value},Vals [] us→us=[]
 | _, .nil=>rfl
theorem Vals.reverse{xs:List V}{us:List Value}(h:Vals xs us):Vals xs.reverse us.reverse:=by
 induction h with
 |nil=>exact .nil
 |cons r t ih=>rw[List.reverse_cons,List.reverse_cons];exact Vals.append ih (.cons r .nil)
theorem Vals.rep{xs:List V}{us:List Value}(h:Vals xs us):∀k:Nat,Vals (List.replicate k xs).flatten (List.replicate k us).flatten
 |0=> .nil
 |k+1=>by
  rw[List.replicate_succ,List.replicate_succ,List.flatten_cons,List.flatten_cons];exact Vals.append h (Vals.rep h k)
theorem foldl_rep(its:List Value):∀(k:Nat)(acc:List Value),
  List.foldl (fun x1 x2=>x1++x2) acc.toArray (List.replicate k its.toArray)=(acc++(List.replicate k its).flatten).toArray
 |0,acc=>MD
 |k+1,acc=>by
  have e:acc.toArray++its.toArray=(acc++its).toArray:=MD;have e2:(acc++its)++(List.replicate k its).flatten=acc++(List.replicate (k+1) its).flatten:=by
   rw[List.replicate_succ,List.flatten_cons,List.append_assoc]
  rw[←e2,←foldl_rep its k (acc++its),←e,List.replicate_succ,List.foldl_cons]
section
variable{X:Cx}{pins:List (Addr×Obj)}{σ:St}{H:Hp}{s:Shared}{l b:Addr}{xs ys zs:List V}
theorem Inv.K7{its its':List Value}{n:Nat}{f:Array Value→Array Value}{t':Nat}(I:Inv X pins σ H s)(hH:H l=some (.lst xs))
  (e:s.heap.get? l=some {cls:= .type "list",data:= .seq its.toArray n}) (hf:f its.toArray=its'.toArray) (hv:Vals ys its') (hz:ys.length≤sizeLine):
  Inv X pins σ (upd H l (.lst ys)) {s with heap:=s.heap.update l (Obj.mapSeq f),toks:=t'}:=by
 have q:=PySem.IsL.update e f;rw[hf]at q;refine I.write (x:=l) (e:=l) (by rw[hH];exact trivial) (.inl rfl) (fun b' u hb hu=>(Heap.get?_update_other s.heap (Obj.mapSeq f) (Z' hb)).trans hu) ⟨_,q⟩ ?_;exact⟨hz,its',_,hv,q⟩
theorem Inv.R0{its:List Value}{t':Nat}(I:Inv X pins σ H s)(hv:Vals ys its)(hz:ys.length≤sizeLine):
  Inv X pins σ (upd H s.heap.objs.size (.lst ys)) {s with heap:=s.heap.push {cls:= .type "list",data:= .seq its.toArray},toks:=t'}:=
 I.laid (fun _ _ q=>ZE q) (Nat.le_refl _) ⟨hz,its,0,hv,Heap.get?_push_size _ rfl⟩
theorem Inv.fresh(I:Inv X pins σ H s):H s.heap.objs.size=none:=I.bS.fresh ZD
theorem Inv.EB(I:Inv X pins σ H s)(hH:H l=some (.lst xs)):xs.length≤sizeLine∧∃(its:List Value)(n:Nat),Vals xs its∧xs.length=its.length∧s.heap.get? l=some {cls:= .type "list",data:= .seq its.toArray n}:=by
 obtain⟨z,its,n,r,e⟩:=I.bS l _ hH;exact⟨z,its,n,r,r.length,e⟩
theorem yN{n:Nat}(h:n≤sizeLine):Builtin.List.listTooLong n=false:=by
 unfold Builtin.List.listTooLong;exact decide_eq_false (ZF)
end
section
variable{X:Cx}
inductive By(x:V)(vs:List V)(H:Hp)(Q:VK):Prop
 |mk (l:_) (xs:_) (y:_) (_:x= .ref l) (_:vs=[y]) (_:H l=some (.lst xs)) (_:xs.length<sizeLine) (_:Q .cL (upd H l (.lst (xs++[y])))):By x vs H Q
theorem bR:RZ X "list.append" By:=by
 intro pins s σ H x vs v us Q I rx rv h;obtain⟨l,xs,y,rfl,rfl,hH,hz,q⟩:=h;cases rx;obtain⟨u,rfl,ru⟩:=rv.one;obtain⟨z,its,n,r,hl,e⟩:=I.EB hH;refine call_meets F.slot_list_append ⟨_,e,rfl⟩ F.entry_list_append (F.args_list_append_2 _ _) (PySem.list_append l its.toArray n u (by rw[List.size_toArray];omega)) ⟨e,?_⟩;refine⟨.cL,_,I.K7 (its':=its++[u]) hH e K4 (r.append (.cons ru .nil)) ?_,rfl,q⟩;rw[List.length_append,List.length_singleton];omega
def Hq:V→List V→Hp→VK→Prop:=fun x vs H Q=>∃l b xs zs,x= .ref l∧vs=[.ref b]∧H l=some (.lst xs)∧H b=some (.lst zs)∧xs.length+zs.length≤sizeLine∧Q .cL (upd H l (.lst (xs++zs)))
theorem vQ:RZ X "list.extend" Hq:=by
 intro pins s σ H x vs v us Q I rx rv h;obtain⟨l,b,xs,zs,rfl,rfl,hH,hB,hz,q⟩:=h;cases rx;obtain⟨u,rfl,ru⟩:=rv.one;cases ru;obtain⟨z,its,n,r,hl,e⟩:=I.EB hH;obtain⟨z2,dC,n2,r2,vR,e2⟩:=I.EB hB;have hsz:its.toArray.size+dC.toArray.size≤sizeLine:=by rw[List.size_toArray,List.size_toArray];omega
 have EC:¬(!its.toArray.isEmpty&&Builtin.List.listTooLong (its.toArray.size+dC.toArray.size))=true:=by
  rw[yN hsz,Bool.and_false];exact Bool.false_ne_true
 refine call_meets F.slot_list_extend ⟨_,e,rfl⟩ F.entry_list_extend (F.args_list_extend_2 _ _)
  (AutoSeq1.list_extend_list_list_0 l its.toArray n b dC.toArray n2 EC (by rw[List.size_toArray];omega) (ZF)) ⟨e,e2,?_⟩
 refine⟨.cL,_,I.K7 (its':=its++dC) hH e K4 (r.append r2) ?_,rfl,q⟩;rw[List.length_append];omega
def ED:V→List V→Hp→VK→Prop:=fun x vs H Q=>∃l xs,x= .ref l∧vs=[]∧H l=some (.lst xs)∧Q .cL (upd H l (.lst xs.reverse))
theorem aaA:RZ X "list.reverse" ED:=by
 intro pins s σ H x vs v us Q I rx rv h;obtain⟨l,xs,rfl,rfl,hH,q⟩:=h;cases rx;have R1:=rv.zero;subst R1;obtain⟨z,its,n,r,hl,e⟩:=I.EB hH;refine call_meets F.slot_list_reverse ⟨_,e,rfl⟩ F.entry_list_reverse (F.args_list_reverse_1 _) (AutoSeq1.list_reverse_list_0 l its.toArray n (by rw[List.size_toArray];omega)) ⟨e,?_⟩;refine⟨.cL,_,I.K7 (its':=its.reverse) hH e K4 r.reverse ?_,rfl,q⟩;rw[List.length_reverse];omega
def aaJ:R2:=fun x y H Q=>∃l k xs,x= .ref l∧y= .int k∧H l=some (.lst xs)∧-(2^63)≤k∧k<2^63∧xs.length*k.toNat≤sizeLine∧
 ∀p,H p=none→Q (.ref p) (upd H p (.lst (List.replicate k.toNat xs).flatten))
theorem len_rep{α:Type}(xs:List α)(k:Nat):(List.replicate k xs).flatten.length=k*xs.length:=by
 induction k with
 |zero=>simp
 |succ k ih=>rw[List.replicate_succ,List.flatten_cons,List.length_append,ih,Nat.succ_mul,Nat.add_comm]
theorem K8:rV X (binaryOp .Mult) aaJ:=by
 intro pins s σ H x y v u Q I rx ry h;obtain⟨l,k,xs,rfl,rfl,hH,h1,h2,hz,q⟩:=h;cases rx;obtain⟨t,rfl⟩:=ry;obtain⟨z,its,n,r,hl,e⟩:=I.EB hH;have hlen:its.toArray.size*k.toNat≤sizeLine:=by rw[List.size_toArray,←hl];exact hz
 have aaF:¬its.toArray.size*k.toNat>(2^63-1)/8:=by
  have:(sizeLine:Nat)≤(2^63-1)/8:=Sz;omega
 have R5:¬(!Builtin.List.listFitsIndex k)=true:=by
  rw[fitsIndex_both h1 h2];exact Bool.false_ne_true
 have EC:¬Builtin.List.listTooLong (its.toArray.size*k.toNat)=true:=by
  rw[yN hlen];exact Bool.false_ne_true
 have CO:List.foldl (fun x1 x2=>x1++x2) #[] (List.replicate (if its.toArray.isEmpty=true then 0 else k.toNat) its.toArray)=(List.replicate k.toNat its).flatten.toArray:=by
  have f0:∀m:Nat,List.foldl (fun x1 x2=>x1++x2) #[] (List.replicate m its.toArray)=(List.replicate m its).flatten.toArray:=fun m=>by
   have:=foldl_rep its m [];rw[List.nil_append]at this;exact this
  rw[f0];cases its with
  |nil=>simp
  |cons a r'=>rw[if_neg K4]
 refine wpAny_binaryOp_repeat_ref (T:="list") (U:="int") (Sz) ⟨_,e,rfl⟩ (fun s'=>typeIs_int s' k t) noFill_list_mul F.fills_int_mul F.slot_int_rmul repeat_list F.slot_int_index.lookup
  (call_meets F.slot_int_rmul (typeIs_int s k t) F.entry_int_rmul (F.args_int_rmul_2 _ _) (int___rmul___int_list k t l its.toArray n)
   ⟨e,rfl,⟨_,e,rfl⟩,call_meets F.slot_list_mul ⟨_,e,rfl⟩ F.entry_list_mul (F.args_list_mul_2 _ _) (AutoListH.list___mul___list_int_3 l its.toArray n k t R5 aaF EC) ⟨e,?_⟩⟩)
 rw[CO];exact⟨.ref _,_,I.R0 (t':=s.toks) (r.rep k.toNat) (by rw[len_rep,Nat.mul_comm];exact hz),rfl,q _ I.fresh⟩
end
section
variable{prog:Program}{w:World}{A:Around}{E:Value→Shared→Prop}{s:Shared}
end
section
variable{X:Cx}
end
end L2
namespace U3
open PySem PySem.W PySem.Calls PyProof.Rows
theorem rW{P:Params}{h:Heap}:∀(ns:List Int)(vs:List Value),WellAll P h vs (ns.map WData.int)→IntsAre vs ns:=by
 intro ns
 induction ns with
 |nil=>
  intro vs w;rw[List.map_nil]at w;cases w;exact .nil
 |cons n ns ih=>
  intro vs w;rw[List.map_cons]at w;cases w with
  |cons a b=>
   cases a;exact .cons _ _ (ih _ b)
theorem CP{l:OpenLaw}{n:Nat}(hn:l.most=some n){P:Params}{h:Heap}{args:List WData}{vals:List Value}
  (Hr:l.row.toRowW.claim.pre args=true) (Jp:WellAll P h vals args):
  ∃a vs ns,vals=[Value.ref a]∧args=[WData.list (ns.map WData.int)]∧h.get? a=some {cls:= .type "list",data:= .seq vs.toArray}∧IntsAre vs ns∧ns.length≤n:=by
 have Oa:WShape.hasAll [] args [.list .int]=true:=(pre_splitW Hr).1;have hc:l.pre.holds [] {args:=args}=true:=(pre_splitW Hr).2;obtain⟨d,r,rfl,h1,h2⟩:=hasAllW_cons Oa;obtain rfl:=hasAllW_nil h2;obtain⟨xs,rfl,h3⟩:=hasW_list h1;obtain⟨ns,rfl⟩:=items_int h3;have hlen:ns.length≤n:=by
  unfold OpenLaw.pre at hc;have h4:(WTm.not (.lt (.lit (.int (n:Int))) (.len (.arg 0)))).holds [] {args:=[.list (ns.map .int)]}=true:=by
   have h4:=(holds_andW hc).1;rw[hn]at h4;exact h4
  have h5:=condW_of h4 (w_not (w_lt w_lit (w_len_list (w_arg rfl))));rw[List.length_map]at h5;refine Nat.le_of_not_lt fun q=>?_
  have q':(n:Int)<((ns.length:Nat):Int):=ZF;first
   |(rw[decide_eq_true q']at h5;exact absurd h5 ZV)
   |(simp at h5;omega)
 cases Jp with
 |cons w1 w2=>
  cases w2;cases w1 with
  |list ho R6=>exact⟨_,_,ns,rfl,rfl,ho,rW ns _ R6,hlen⟩
theorem CQ(l:OpenLaw)(args:List WData):l.row.toRowW.claim.post args (.bool true) args=true:=
 postW_of (r:=l.row.toRowW) (X:=(true==true))
  (show WShape.has [] (.bool true) .bool=true by first|rfl|decide|simp[WShape.has,WShape.arms,WShape.armsAll])
  (show(WTm.eq .res (.lit (.bool true))).value [] {args:=args,res:=some (.bool true),after:=args}=some (.bool (true==true))from w_eq_bool (w_res rfl) w_lit) rfl
theorem yO{l:OpenLaw}{n:Nat}{q:Program}{loose:List Str}{XP:(Str→Option Value)→Heap→Prop}{YP:World→Heap→Prop}{d:DefRec}
  (hn:l.most=some n) (Ob:d.params.defaults=[])
  (call:∀(w:World)(dA cc:Shared)(mg mb:Str→Option Value)(fa:Addr)(o:Obj)(pm cd doc:Value)(a:Addr)(vs:List Value)(ns:List Int),
   Ground q loose [] XP w dA mg mb cc.heap→YP w cc.heap→
   cc.heap.get? fa=some o→o.data= .func (docDef d.name d.params d.body d.scope pm cd doc)→cc.heap.CodeRec cd d.name→mg d.name=some (.ref fa)→
   cc.heap.get? a=some {cls:= .type "list",data:= .seq vs.toArray}→IntsAre vs ns→ns.length≤n→cc.gens=#[]→
   codeAny (model l.prog w) callerA (.call (.ref fa) ⟨[.ref a],[]⟩) (fun r s'=>r= .ok (.ret (.bool true))∧OldK cc.heap s'.heap∧s'.os=cc.os∧AllBare s'.gens) cc):
  WalkO q loose XP YP l.row.toRowW d [] (fun f vs=>PySem.call f vs):=by
 intro w dA cc mg mb G Y fa o pm cd doc dV kV ho hd Cv hD Oc hg args vals as Hr aaZ aai Jp MP;obtain rfl:dV= .none:=Dflts.none hD Ob;obtain rfl:kV= .none:=Dflts.noKw hD;obtain⟨a,vs,ns,rfl,rfl,K9,hints,hlen⟩:=CP hn Hr Jp;refine enter_call (codeAny_mono (call w dA cc mg mb fa o pm cd doc a vs ns G Y ho (fd_plain hd) Cv Oc K9 hints hlen hg) fun r s' hq=>?_);obtain⟨rfl,h2,h3,h4⟩:=hq;exact⟨.inl ⟨.bool true, .bool true,[],rfl,fun _=>rfl, .bool true,CQ l _,fun _=>⟨List.Pairwise.nil,fun _ hm=>(nomatch hm)⟩⟩,h2,h3,h4⟩
section
variable{prog:Program}{w:World}{A:Around}{E:Value→Shared→Prop}{s:Shared}{K:Frag}
def ledger(h:Heap)(L d:Addr):List (Addr×Obj):=(Z6 h.objs.size).filterMap fun a=>if a=L∨a=d then none else(h.get? a).map fun o=>(a,o)
end
end U3
namespace L2
open PySem PySem.Spec PyProof.Rows
theorem vS:∀{vs:List Value}{ns:List Int},IntsAre vs ns→Vals (ns.map V.int) vs
 | _,_, .nil=> .nil
 | _,_, .cons n t h=> .cons ⟨t,rfl⟩ (vS h)
def K_(H:Hp):Prop:=∀b,H b=none∨∃o xs,H b=some (.sJ o (.lst xs))
theorem EE{cm:Bool}{P:Program}{w:World}{K:PySem.W.Frag}{mg mb:Str→Option Value}{CX:El}{k:Nat}{fa a:Addr}{fd:FuncData}{x:Str}{sp:Sp}{cc:Shared}{vs:List Value}{ns:List Int}
  (KX:K.In cc.heap) (Qo:cc.heap.Ns mainGlobals mg) (hb:cc.heap.Ns builtinsNs mb) (Xd:∀x:Str,x≠"__name__"→mb x=bootBuiltins x) (R7:cc.heap.NoLimit) (hg:cc.gens=#[])
  (ha:cc.heap.get? a=some {cls:= .type "list",data:= .seq vs.toArray}) (hi:IntsAre vs ns) (hl:ns.length≤sizeLine) (hr:eX cm k callerA)
  (F:∀base:Heap,K.In base→base.Ns mainGlobals mg→a9 P w K mg base CX cm k fa fd [x] sp) (Od:∀(s:Shared)(u:Value),BindsTo s fd ⟨[u],[]⟩ [(x,u)])
  (GJ:∀H:Hp,K_ H→iD K H a (ns.map V.int)→sp [.ref a] H (fun v _=>v= .bl true) fun _ _ _=>False)
  (R8:∀H e s',CX [] H cc (fun _ _ _=>False) e s'→False):
  codeAny (model P w) callerA (.call (.ref fa) ⟨[.ref a],[]⟩) (fun r s'=>r= .ok (.ret (.bool true))∧OldK cc.heap s'.heap∧s'.os=cc.os∧AllBare s'.gens) cc:=by
 have rv:=vS hi;have R9:=hi.length;have core:∀H:Hp,K_ H→iD K H a (ns.map V.int)→lI P w H cc.heap→(∀b,H b≠none→b=a)→(H a≠none→K.lookup a=none)→
   codeAny (model P w) callerA (.call (.ref fa) ⟨[.ref a],[]⟩) (fun r s'=>r= .ok (.ret (.bool true))∧OldK cc.heap s'.heap∧s'.os=cc.os∧AllBare s'.gens) cc:=by
  intro H hO hS bS hA hK;have Bz:∀{b:Addr}{o:Obj},cc.heap.get? b=some o→H b=none→(wC cc.heap H).get? b=some o:=fun e n=>D9 e n
  have N1:∀{b:Addr}{o:Obj}{es:Array DictEntry}{ep:Nat},cc.heap.get? b=some o→o.data= .dict es ep→H b=none:=fun{b o es ep} e d=>by
   cases q:H b with
   |none=>rfl
   |some u=>
    have e':b=a:=hA b (by rw[q];simp);subst e';rw[ha]at e;cases e;have d':Data.seq vs.toArray _=Data.dict es ep:=d;cases d'
  have Qp:∀{b:Addr}{m:Str→Option Value},cc.heap.Ns b m→(wC cc.heap H).Ns b m:=fun{b m} ⟨o,es,ep,e,d,r⟩=>⟨o,es,ep,Bz e (N1 e d),d,r⟩
  have U4:K.In (wC cc.heap H):=fun b o e=>Bz (KX b o e) (by
   cases q:H b with
   |none=>rfl
   |some u=>
    have e':b=a:=hA b (by rw[q];simp);subst e';rw[hK (by rw[q];simp)]at e;cases e)
  have hM:Mod K mg (wC cc.heap H):=⟨U4,Qp Qo,⟨mb,Qp hb,Xd⟩,let ⟨mc,h1,h2⟩:=R7;⟨mc,Qp h1,h2⟩⟩
  have e0:Ae P w K mg (wC cc.heap H) callerA [] cc H:=⟨rfl,hM,fun b o e=>GZ e,Nat.le_of_eq (Cs _ _),trivial,fun b hb=>absurd (show b∈([]:List Addr)from hb) (MD),bS, .of_eq hg⟩
  refine codeAny_mono ((F _ U4 (Qp Qo)).run callerA [] cc H ⟨[.ref a],[]⟩ [.ref a] [.ref a] _ _ hr e0 (Od cc (.ref a)) (.cons rfl .nil) (GJ H hO hS)) fun r s' h=>?_
  cases r with
  |error e=>exact(R8 H e s' h).elim
  |ok fl=>
   cases fl with
   |next=>exact False.elim h
   |brk=>exact False.elim h
   |cont=>exact False.elim h
   |ret u=>
    obtain⟨v,H',os,bare,un,R_,r',q⟩:=h;have q':v= .bl true:=q;subst q';obtain rfl:u=Value.bool true:=r';refine⟨rfl,OldK.of_keep fun b o e=>?_,os,bare⟩;cases q:H b with
    |none=>exact un.keep b o e q (by intro z;exact absurd (show b∈([]:List Addr)from z) (MD)) (MD)
    |some u=>
     rcases hO b with z|⟨ob,xs,z⟩
     ·rw[q]at z;cases z
     ·have z2:=un.oE b ob _ z;obtain⟨e1,_⟩:=bS b _ z;obtain⟨e2,_⟩:=R_ b _ z2;rw[e]at e1;cases e1;exact e2
 cases hk:K.lookup a with
 |some o=>
  have e:=KX a o hk;rw[ha]at e;cases e;refine core (fun _=>none) (fun _=> .inl rfl) (.inr ⟨_,vs.toArray,_,hk,rfl,rfl,rfl,by rw[List.size_toArray,R9];exact hl,by simpa using rv⟩) (fun b u z=>by have z':(none:Option HO)=some u:=z;cases z') (fun b z=>absurd rfl z) fun z=>absurd rfl z
 |none=>
  refine core (fun b=>if b=a then some (.sJ {cls:= .type "list",data:= .seq vs.toArray} (.lst (ns.map V.int)))else none) (fun b=>?_) (.inl (.inr ⟨{cls:= .type "list",data:= .seq vs.toArray},if_pos rfl⟩)) (fun b u z=>?_) (fun b z=>?_) fun _=>hk
  ·by_cases hb:b=a
   ·exact .inr ⟨_,_,Hz hb⟩
   ·exact .inl (Dy hb)
  ·by_cases hb:b=a
   ·have z':=(Hz hb).symm.trans z;cases z';subst hb;exact⟨ha,by rw[List.length_map];exact hl,vs,_,rv,ha⟩
   ·have z':=(Dy hb).symm.trans z;cases z'
  ·by_cases hb:b=a
   ·exact hb
   ·exact X7 (Dy hb) z
theorem Hs{cm:Bool}{l:PySem.W.OpenLaw}{n k:Nat}{q:Program}{loose:List Str}{XP:(Str→Option Value)→Heap→Prop}{YP:World→Heap→Prop}{d:DefRec}{K:Params→PySem.W.Frag}{CX:World→El}{sp:World→Sp}{x:Str}
  (hn:l.most=some n) (yq:n≤sizeLine) (Ob:d.params.defaults=[]) (hr:eX cm k callerA)
  (hY:∀(w:World)(h:Heap),YP w h→(K w.params).In h)
  (F:∀(w:World)(mg:Str→Option Value)(fa:Addr)(h:Heap),(K w.params).In h→h.Ns mainGlobals mg→mg d.name=some (.ref fa)→
   ∃fd:FuncData,(∀(s:Shared)(u:Value),BindsTo s fd ⟨[u],[]⟩ [(x,u)])∧
    ∀base:Heap,(K w.params).In base→base.Ns mainGlobals mg→a9 l.prog w (K w.params) mg base (CX w) cm k fa fd [x] (sp w))
  (GJ:∀(w:World)(H:Hp)(a:Addr)(ns:List Int),ns.length≤n→K_ H→iD (K w.params) H a (ns.map V.int)→sp w [.ref a] H (fun v _=>v= .bl true) fun _ _ _=>False)
  (R8:∀(w:World)(H:Hp)(s:Shared)(e:Value)(s':Shared),CX w [] H s (fun _ _ _=>False) e s'→False):
  PySem.W.WalkO q loose XP YP l.row.toRowW d [] (fun f vs=>PySem.call f vs):=by
 refine U3.yO hn Ob fun w dA cc mg mb fa o pm cd doc a vs ns G Y ho hd Cv Oc K9 hints hlen hg=>?_
 have KX:=hY w _ Y;obtain⟨fd,hb,hF⟩:=F w mg fa _ KX G.T.g Oc;exact EE KX G.T.g G.T.b G.T.builtins G.T.nolimit hg K9 hints (ZX hlen yq) hr hF hb (fun H hO hS=>GJ w H a ns hlen hO hS) fun H e s'=>R8 w H cc e s'
def inClass(s:Stmt)(j:Nat):Stmt:=match s with
 | .ClassDef _ _ _ body _ _ _ _ _ _ _=>body.getD j (.Pass ⟨0,0,0,0⟩)
 | _=> .Pass ⟨0,0,0,0⟩
def fK(s:Stmt):Arguments:=match s with
 | .FunctionDef _ a _ _ _ _ _ _ _ _=>a
 | _=>{posonlyargs:=[],args:=[],vararg:=none,kwonlyargs:=[],kw_defaults:=[],kwarg:=none,defaults:=[]}
def eM(s:Stmt):List Stmt:=match s with
 | .FunctionDef _ _ b _ _ _ _ _ _ _=>b
 | _=>[]
def au(s:Stmt):Scope:=match s with
 | .FunctionDef _ _ _ _ _ _ sc _ _ _=>sc
 | _=>{kind:= .function,names:=[],isGenerator:=false,isCoroutine:=false}
abbrev E0:XK:=fun _ _ _=>False
structure jU(K:PySem.W.Frag)(x qual:Str)(st:Stmt)(f:Addr)(fd:FuncData):Prop where
 ex:∃(oc:Value)(od:Option Addr)(kV doc pm:Value)(an:Option Addr)(f7 ct:Value)(Bw:Array (Option Value)),
  fd=PySem.W.fnOf x qual (fK st) (eM st) (au st) .none kV doc pm an f7 ct∧K.lookup f=some ⟨oc,od, .func fd,Bw⟩∧PySem.W.codeIn K f7 qual=true
 kp:PySem.W.keepIn K (.ref f)=true
section
variable{P:Program}{w:World}{K:PySem.W.Frag}{mg:Str→Option Value}{base:Heap}
theorem jU.binds{x qual:Str}{st:Stmt}{f:Addr}{fd:FuncData}{ps:List Str}(F:jU K x qual st f fd)
  (h:∀(kV doc pm:Value)(an:Option Addr)(f7 ct:Value)(us:List Value),us.length=ps.length→bindArgs (PySem.W.fnOf x qual (fK st) (eM st) (au st) .none kV doc pm an f7 ct) ⟨us,[]⟩=pure (ps.zip us)):Binds K fd ps []:=by
 obtain⟨oc,od,kV,doc,pm,an,f7,ct,Bw,rfl,lk,Cv⟩:=F.ex;exact .all (h kV doc pm an f7 ct)
theorem EF{x qual:Str}{st:Stmt}{f:Addr}{oc:Value}{od an:Option Addr}{Bw:Array (Option Value)}{kV doc pm f7 ct:Value}(l:K.lookup f=some ⟨oc,od, .func (PySem.W.fnOf x qual (fK st) (eM st) (au st) .none kV doc pm an f7 ct),Bw⟩)
  (c:PySem.W.codeIn K f7 qual=true) (k:PySem.W.keepIn K (.ref f)=true):jU K x qual st f (PySem.W.fnOf x qual (fK st) (eM st) (au st) .none kV doc pm an f7 ct):=⟨⟨oc,od,kV,doc,pm,an,f7,ct,Bw,rfl,l,c⟩,k⟩
end
section
variable{X:Cx}
theorem pv(i:Nat){x:Str}{pos:Pos}(hN:X.N[i]?=some x:=by rfl)(hv:Rv X.env.scope x:=by first|exact Or.inl rfl|exact Or.inr (Or.inl rfl)|exact Or.inr (Or.inr rfl))(hd:(x==("__debug__":Str))=false:=by decide)
  (Cv:(x==("__classdict__":Str))=false:=by decide):PE X (.Name x pos) (Kq i):=Kr hN hv hd Cv
end
theorem gR{A B:Prop}(h:B):if false=true then A else B:=by
 rw[Dy Bool.false_ne_true];exact h
theorem jV{A B:Prop}(h:A):if true=true then A else B:=by
 rw[if_pos rfl];exact h
theorem bb{c A B:Prop}[Decidable c](h1:c→A)(h2:¬c→B):if c then A else B:=by
 by_cases h:c
 ·rw[Hz h];exact h1 h
 ·rw[Dy h];exact h2 h
def av(H H':Hp):Prop:=∀b o,H b=some o→H' b=some o
theorem av.refl(H:Hp):av H H:=fun _ _ h=>h
theorem av.trans{H H1 H2:Hp}(a:av H H1)(b:av H1 H2):av H H2:=fun c o h=>b c o (a c o h)
theorem av.free{H H':Hp}(e:av H H'){l:Addr}(h:H' l=Option.none):H l=Option.none:=by
 cases q:H l with
 |none=>rfl
 |some o=>
  rw[e l o q]at h;cases h
theorem av.seq{K:PySem.W.Frag}{H H':Hp}{a:Addr}{xs:List V}(e:av H H')(h:iD K H a xs):iD K H' a xs:=by
 rcases h with(h|⟨o,h⟩)|h
 ·exact .inl (.inl (e _ _ h))
 ·exact .inl (.inr ⟨o,e _ _ h⟩)
 ·exact .inr h
section
variable{κ:Type}[DecidableEq κ]
theorem yP{kvs:List (κ×V)}{k:κ}(h:bA kvs k=none):¬k∈kvs.map (·.1):=by
 intro m;obtain⟨p,hp,e⟩:=List.mem_map.mp m;have q:(kvs.any fun kv=>decide (kv.1=k))=true:=List.any_eq_true.mpr ⟨p,hp,decide_eq_true e⟩;rw[ip,h]at q;exact absurd q K4
theorem BB{kvs:List (κ×V)}{k:κ}{v:V}(h:bA kvs k=some v):k∈kvs.map (·.1):=by
 have q:(kvs.any fun kv=>decide (kv.1=k))=true:=by
  rw[ip,h];all_goals rfl
 obtain⟨p,hp,e⟩:=List.any_eq_true.mp q;exact List.mem_map.mpr ⟨p,hp,of_decide_eq_true e⟩
end
end L2
namespace L2
open PySem PySem.Spec PyProof.Rows PySem.W
def cY(P:Program)(w:World):El:=fun outer H s E e s'=>
 ∃(ea:Addr)(cls a0:Value)(B:Heap)(H':Hp),e= .ref ea∧s'.os=s.os∧AllBare s'.gens∧Heap.FlyingW B outer ea cls a0 s'.heap∧
  Un (oA outer) [] H H' s.heap s'.heap∧lI P w H' B∧(∀b o,s.heap.get? b=some o→H b=none→b∉oA outer→B.get? b=some o)∧(∀b o,s.heap.get? b=some o→b∉oA outer→∃o',B.get? b=some o')∧E cls none H'
theorem aR{P:Program}{w:World}{X:Cx}:Passes (cY P w) X (fun _=>E0):=fun _ _ _ _ _ _ _ ⟨_,_,_,_,_,_,_,_,_,_,_,_,_,h⟩=>h.elim
structure Qq(X:Cx)(E:St→XK):Prop where
 raise:∀(pins:List (Addr×Obj))(σ:St)(H:Hp)(s:Shared)(h':Heap)(e:Addr)(cls:Value)(args:List Value),Inv X pins σ H s→Heap.MadeExcOf s.heap h' e cls args→E σ cls none H→X.xe (.ref e) {s with heap:=h'}
 pass:Passes (cY X.prog X.w) X E
 own:PassesOwn (model X.prog X.w) X.A X.env X.xe
theorem lI.hide{P:Program}{w:World}{H:Hp}{h:Heap}{as:List Addr}(ok:lI P w H h)(hf:∀b∈as,H b=none):lI P w H (hideAll h as):=fun a o e=>
 (ok a o e).wB (fun b u hb q=>hideAll_get _ q fun hm=>by
  rcases hb with rfl|hb
  ·rw[hf _ hm]at e;cases e
  ·rw[hf _ hm]at hb;cases hb) (fun b q=>q) fun b xs q=>q
section
variable{P:Program}{w:World}{K:PySem.W.Frag}{mg:Str→Option Value}{base:Heap}{N:List Str}{qual:Str}{scope:Scope}{f:Addr}{cd:Value}{A:Around}{outer:List Env}{s:Shared}{H:Hp}{E:XK}{cm:Bool}
theorem Ak{P:Program}{w:World}{H:Hp}{h:Heap}{a:Addr}{o:HO}(x:cO P w H h a o):∃q,h.get? a=some q:=by
 cases o with
 |lst xs=>obtain⟨_,its,n,_,e⟩:=x;exact⟨_,e⟩
 |tup xs=>obtain⟨_,its,_,o,e,_⟩:=x;exact⟨_,e⟩
 |dK kvs=>obtain⟨_,_,vs,_,o,es,ep,e,_⟩:=x;exact⟨_,e⟩
 |dT kvs=>obtain⟨_,_,xs,_,o,es,ep,e,_⟩:=x;exact⟨_,e⟩
 |set S n=>obtain⟨o,es,ep,t,e,_⟩:=x;exact⟨_,e⟩
 |ins C dx fs=>obtain⟨_,_,_,e,_⟩:=x;exact⟨_,e⟩
 |own y=>exact x
 |xd fs=>obtain⟨mA,⟨o,es,ep,e,_⟩,_⟩:=x;exact⟨_,e⟩
 |met f y=>exact⟨_,x⟩
 |Qf lo hi=>obtain⟨t,u,v,e⟩:=x;exact⟨_,e⟩
 |sJ o u=>exact⟨_,x.1⟩
 |GY ps=>exact⟨_,x⟩
 |ext φ=>exact x.2.1
theorem BC:Qq (Ag (cY P w) cm P w K mg base N qual scope f cd A outer s H E) (fun _=>E):=by
 refine⟨?_,?_,PassesOwn.leaving⟩
 ·intro pins σ H1 s1 h' e cls args I hx hE;have Se:(A.deeper (Λ qual scope f cd)).frames=some (envOfC qual scope s.heap.objs.size f cd::outer):=I.ok.frames;have vG:s1.heap.FunFrames base (envOfC qual scope s.heap.objs.size f cd::outer):=I.stack;have oB:∀env∈(envOfC qual scope s.heap.objs.size f cd::outer),∀b,env.frame=some b→b∈(envOfC qual scope s.heap.objs.size f cd::outer).filterMap (·.frame):=fun env he b hb=>List.mem_filterMap.mpr ⟨env,he,hb⟩
  have Bl:∀b∈(envOfC qual scope s.heap.objs.size f cd::outer).filterMap (·.frame),H1 b=none:=I.wD;show wpAny (model P w) (A.deeper (Λ qual scope f cd)) (leaving (Λ qual scope f cd) (.ref e)) (fun _ wJ=>cY P w outer H s E (.ref e) wJ) (fun e' wJ=>cY P w outer H s E e' wJ) {s1 with heap:=h'};have Al:∀b o,s.heap.get? b=some o→b∉oA outer→b∉(envOfC qual scope s.heap.objs.size f cd::outer).filterMap (·.frame):=fun b o q hb hm=>by
   obtain⟨env,he,hf⟩:=List.mem_filterMap.mp hm;rcases List.mem_cons.mp he with rfl|he
   ·have z:s.heap.objs.size=b:=Option.some.inj hf;exact X7 (Z9 q) (by rw[z];exact Nat.lt_irrefl _)
   ·exact hb (List.mem_filterMap.mpr ⟨env,he,hf⟩)
  refine wpAny_leaves_madeW (s:={s1 with heap:=h'}) (h:=s1.heap) (base:=hideAll s1.heap ((envOfC qual scope s.heap.objs.size f cd::outer).filterMap (·.frame))) (L:=s.heap.objs.size) Se rfl (fun b o q=>of_hideAll _ q) (funFrames_hide vG oB) hx fun h2 t x1 x2 x3 x4=>?_
  have bs:Un (oA outer) [] H H1 s.heap s1.heap:=I.base;have kB:∀b o,s.heap.get? b=some o→H b=none→b∉oA outer→(hideAll s1.heap ((envOfC qual scope s.heap.objs.size f cd::outer).filterMap (·.frame))).get? b=some o:=fun b o q hn hb=>
   hideAll_get _ (bs.keep b o q hn hb K4) (Al b o q hb)
  have hB:lI P w H1 (hideAll s1.heap ((envOfC qual scope s.heap.objs.size f cd::outer).filterMap (·.frame))):=I.bS.hide Bl;refine⟨e,cls, .ref t,_,H1,rfl,I.os,I.bare,x1,?_,hB,kB,fun b o q hb=>?_,hE⟩
  rotate_left
  ·obtain⟨o',e1⟩:=bs.there b o q K4;exact⟨o',hideAll_get _ e1 (Al b o q hb)⟩
  refine⟨fun b o q hn hb _=>x1.1 b o (kB b o q hn hb),fun b o q hn hb _=>?_,fun b o q hn _=>bs.free b o q hn K4,fun b o q _=>?_,bs.cb,bs.oE,bs.rT⟩
  ·obtain⟨sl,e1⟩:=bs.slot b o q hn hb K4;have Jq:s1.heap.FunFrames base outer:=vG.2.2;obtain⟨_,o2,e2,Ht⟩:=Jq.mem hb;rw[e1]at e2;cases e2;obtain⟨mZ,e3⟩:=x4 b _ (hx.keeps _ _ e1) Ht;exact⟨mZ,e3⟩
  ·cases q1:H1 b with
   |some u=>
    obtain⟨oo,z⟩:=Ak (hB b u q1);exact⟨oo,x1.1 b oo z⟩
   |none=>
    cases q0:H b with
    |none=>
     by_cases hb:b∈oA outer
     ·obtain⟨sl,e1⟩:=bs.slot b o q q0 hb K4;have Jq:s1.heap.FunFrames base outer:=vG.2.2;obtain⟨_,o2,e2,Ht⟩:=Jq.mem hb;rw[e1]at e2;cases e2;obtain⟨mZ,e3⟩:=x4 b _ (hx.keeps _ _ e1) Ht;exact⟨_,e3⟩
     ·exact⟨o,x1.1 b o (kB b o q q0 hb)⟩
    |some u=>
     obtain⟨o',e1⟩:=bs.there b o q K4;by_cases hb:b∈oA outer
     ·have Jq:s1.heap.FunFrames base outer:=vG.2.2;obtain⟨_,o2,e2,Ht⟩:=Jq.mem hb;obtain⟨mZ,e3⟩:=x4 b _ (hx.keeps _ _ e2) Ht;exact⟨_,e3⟩
     ·exact⟨o',x1.1 b o' (hideAll_get _ e1 (Al b o q hb))⟩
 ·rintro pins σ H1 s1 e s2 I ⟨ea,cls,a0,B,H',rfl,os,bare,Lb,un,hB,kB,tB,hE⟩;have Se:(A.deeper (Λ qual scope f cd)).frames=some (envOfC qual scope s.heap.objs.size f cd::outer):=I.ok.frames;show wpAny (model P w) (A.deeper (Λ qual scope f cd)) (leaving (Λ qual scope f cd) (.ref ea)) (fun _ wJ=>cY P w outer H s E (.ref ea) wJ) (fun e' wJ=>cY P w outer H s E e' wJ) s2;have Lb:Heap.FlyingW B (envOfC qual scope s.heap.objs.size f cd::outer) ea cls a0 s2.heap:=Lb;have un:Un (oA (envOfC qual scope s.heap.objs.size f cd::outer)) [] H1 H' s1.heap s2.heap:=un;have kB:∀b o,s1.heap.get? b=some o→H1 b=none→b∉oA (envOfC qual scope s.heap.objs.size f cd::outer)→B.get? b=some o:=kB;have Al:∀b o,s.heap.get? b=some o→b∉oA outer→b∉oA (envOfC qual scope s.heap.objs.size f cd::outer):=fun b o q hb hm=>by
   obtain⟨env,he,hf⟩:=List.mem_filterMap.mp hm;rcases List.mem_cons.mp he with rfl|he
   ·have z:s.heap.objs.size=b:=Option.some.inj hf;exact X7 (Z9 q) (by rw[z];exact Nat.lt_irrefl _)
   ·exact hb (List.mem_filterMap.mpr ⟨env,he,hf⟩)
  have Sg:∀b,b∈oA outer→b∈oA (envOfC qual scope s.heap.objs.size f cd::outer):=fun b hb=>by
   obtain⟨env,he,hf⟩:=List.mem_filterMap.mp hb;exact List.mem_filterMap.mpr ⟨env,ZR he,hf⟩
  have bs:Un (oA outer) [] H H1 s.heap s1.heap:=I.base;refine wpAny_leaves_onW (L:=s.heap.objs.size) Se rfl Lb fun h2 x1 x4=>?_
  have U5:∀b o,s.heap.get? b=some o→H b=none→b∉oA outer→B.get? b=some o:=fun b o q hn hb=>kB b o (bs.keep b o q hn hb K4) (bs.free b o q hn K4) (Al b o q hb)
  have Jq:s2.heap.FunFrames B outer:=Lb.2.2.1.2.2;refine⟨ea,cls,a0,B,H',rfl,os.trans I.os,bare,x1,?_,hB,U5,fun b o q hb=>?_,hE⟩
  rotate_left
  ·obtain⟨o',e1⟩:=bs.there b o q K4;exact tB b o' e1 (Al b o q hb)
  refine⟨fun b o q hn hb _=>x1.1 b o (U5 b o q hn hb),fun b o q hn hb _=>?_,fun b o q hn _=>?_,fun b o q _=>?_,fun b xs q=>un.cb b xs (bs.cb b xs q),fun b o u q=>un.oE b o u (bs.oE b o u q),fun b ps q=>?_⟩
  ·obtain⟨sl,e1⟩:=bs.slot b o q hn hb K4;obtain⟨aal,e2⟩:=un.slot b _ e1 (bs.free b o q hn K4) (Sg b hb) (MD);obtain⟨_,o2,e3,Ht⟩:=Jq.mem hb;rw[e2]at e3;cases e3;obtain⟨mZ,e4⟩:=x4 b _ e2 Ht;exact⟨mZ,e4⟩
  ·by_cases hb:b∈oA outer
   ·obtain⟨sl,e1⟩:=bs.slot b o q hn hb K4;exact un.free b _ e1 (bs.free b o q hn K4) (MD)
   ·exact un.free b o (bs.keep b o q hn hb K4) (bs.free b o q hn K4) (MD)
  ·obtain⟨o',e1⟩:=bs.there b o q K4;obtain⟨o2,e2⟩:=un.there b o' e1 K4;by_cases hb:b∈oA outer
   ·obtain⟨_,o3,e3,Ht⟩:=Jq.mem hb;obtain⟨mZ,e4⟩:=x4 b _ e3 Ht;exact⟨_,e4⟩
   ·obtain⟨o3,e3⟩:=tB b o' e1 (Al b o q hb);exact⟨o3,x1.1 b o3 e3⟩
  ·obtain⟨more,z⟩:=bs.rT b ps q;obtain⟨Oe,z2⟩:=un.rT b _ z;exact⟨more++Oe,by rw[z2,Array.append_assoc]⟩
end
end L2
namespace L2
open PySem PySem.Spec PyProof.Rows PySem.W PySem.Calls Builtin Builtin.ObjectAttr Builtin.Getset_descriptor
section
variable{prog:Program}{w:World}{A:Around}{E:Value→Shared→Prop}{K:Frag}{x C:Addr}{o:Obj}{hh:Heap}{g:Array GenState}{d:Drawn}{t:Nat}{os:OsState}
end
structure Of(K:Frag)(C:Addr):Prop where
 ex:excIn K C [.type "ValueError", .type "Exception", .type "BaseException", .type "object"] "ValueError.__new__"=true
 cl:findIn K (.ref C) "__class__"=some (some (.builtin "object.__class__"))
 ob:mroIn K C (.type "object")=some true
 be:mroIn K C (.type "BaseException")=some true
 ga:findIn K (.ref C) "__getattribute__"=some (some (.builtin "BaseException.__getattribute__"))
 gn:findIn K (.ref C) "__getattr__"=some none
 tu:instIn K (.ref C) (.type "tuple")=some false
 kp:keepIn K (.ref C)=true
end L2
namespace L2
open PySem PySem.Spec PyProof.Rows PySem.W PySem.Calls
theorem Hu{K:Frag}{h:Heap}{C:Addr}{U6:List Value}{newId:String}(X:K.In h)(q:excIn K C U6 newId=true):
  ∃bm N nm qn bs hdct sn sub ab col dd k0 k1 k2 k3 k5 mN,h.get? C=some (excClassObj nm qn C N bs bm hdct sn sub ab col dd k0 k1 k2 k3 k5 newId)∧h.Ns N mN∧mN "__init__"=none∧OwnTail h U6 bm:=by
 unfold excIn at q;split at q
 ·rename_i dd cd sl ho
  split at q
  ·rename_i C' bm k0 k1 k2 k3 n k5 hm hs
   simp only[Bool.and_eq_true,beq_iff_eq,Bool.not_eq_true']at q;obtain⟨⟨⟨⟨⟨rfl,rfl⟩,Og⟩,ht⟩,bS⟩,Qr⟩:=q;obtain⟨nm,bs,mro,ns,qn,hd,sn,sub,ab,col,del⟩:=cd;dsimp only at hm Og bS Qr;subst hm Og;have Sh:sl=#[k0,k1,k2,k3,some (.builtin n),k5]:=by
    obtain⟨l⟩:=sl;simp only at hs;rw[hs]
   subst Sh;exact⟨bm,ns,nm,qn,bs,hd,sn,sub,ab,col,dd,k0,k1,k2,k3,k5,_,X _ _ ho, .of_isNs (isNs_of_in X bS),nsMap_none_of_in X bS Qr,tail_of_in X ht⟩
  ·cases q
 ·cases q
section
variable{X:Cx}{x:Str}{np eG pos:Pos}{e:Expr}{es:List Expr}{t:TA}{C:Addr}{E:St→XK}
def Lc(C:Addr)(E:St→XK)(t:TA):TS:=fun _ σ H=>t σ H fun vs H1=>vs.length≤sizeLine∧E σ (.ref C) none H1
theorem je(hX:Qq X E)(hc:X.calm=true)(hg:Gl X x)(hm:X.mg x=some (.ref C))(c:Of X.K C)(ha:PA X (e::es) t)(wI:(x==("__debug__":Str))=false:=by decide)
  (he:starEach (e::es) X.env=(false,eval e X.env)::starEach es X.env:=by rfl) (qv:(Μ eG).any (·.1)=false:=by rfl):
  PS X (.Raise (some (.Call (.Name x np) (e::es) [] eG)) none pos) (Lc C E t):=by
 intro pins s σ H D I h;obtain⟨bm,N,nm,qn,bs,hdct,sn,sub,ab,col,dd,k0,k1,k2,k3,k5,mN,hC,hN,Qr,T⟩:=Hu I.ok.mod.MF c.ex;refine wpAny_Raise_call_subT (C:=C) (nm:=nm) (q:=qn) (N:=N) (bs:=bs) (bm:=bm) (hdct:=hdct) (sn:=sn) (sub:=sub) (ab:=ab) (col:=col) (dd:=dd) (k0:=k0) (k1:=k1) (k2:=k2) (k3:=k3) (k5:=k5)
  F.excBase_ValueError (mN:=mN) (T.hasType F.excBase_ValueError.hasBase) (I.ok.hd hc) (by rw[he];show(false||(Μ eG).any (·.1))=false;rw[qv];rfl) Qr (oF I hg hm ⟨rfl,?_⟩ wI)
 have hq:=cG (ha eG pins s σ H _ I h) fun us s2 ⟨vs,H2,I2,r2,q2⟩=>show us.length≤sizeLine∧(∀b o,X.base.get? b=some o→s2.heap.get? b=some o)∧∀h' e,Heap.MadeExcOf s2.heap h' e (.ref C) us→X.xe (.ref e) {s2 with heap:=h'}from
  ⟨by rw[←r2.length];exact q2.1,I2.bk,fun h' e hx=>hX.raise pins σ H2 s2 h' e (.ref C) us I2 hx q2.2⟩
 rw[he]at hq⊢;exact evalArgs_plain (wpAny_mono hq (fun vs s2 h2=>⟨rfl,h2.1,h2.2.1 _ _ hC,hN.keeps h2.2.1,T.keeps h2.2.1,h2.2.2⟩) fun _ _ y=>y)
end
section
variable{X:Cx}{e v1 v2:Expr}{es:List Expr}{te:TE}{pos:Pos}
def Si(te:TE):TE:=fun σ H Q=>te σ H fun x H1=>(∃y,x= .str y∧y.length≤sizeLine∧Q (.str y) H1)∨∃i:Int,x= .int i∧i.natAbs.log2<1920∧Q (.str (toString i)) H1
theorem qx(h:PE X e te):PE X (.FormattedValue e (-1) none pos) (Si te):=by
 intro pins s σ H Q I hq;refine FormattedValue_plain (cG (h pins s σ H _ I hq) fun u s1 ⟨x,H1,I1,r1,q1⟩=>?_);rcases q1 with⟨y,rfl,hy,q⟩|⟨i,rfl,hi,q⟩
 ·obtain⟨t,rfl⟩:=r1;exact formatField_str (fun t' tk=>⟨.str y,H1,I1.tok _,⟨_,rfl⟩,q⟩) hy
 ·obtain⟨t,rfl⟩:=r1;exact formatField_int_small hi ⟨.str (toString i),H1,I1.tok _,⟨_,rfl⟩,q⟩
abbrev TJ:=Str→TE
def PJ(X:Cx)(es:List Expr)(t:TJ):Prop:=
 ∀(acc:Str)(pins:List (Addr×Obj))(s:Shared)(σ:St)(H:Hp)(Q:VK),Inv X pins σ H s→t acc σ H Q→wpAny (model X.prog X.w) X.A (joinParts acc (evalEach es X.env)) (EP X pins σ Q) X.xe s
def Oh:TJ:=fun acc _ H Q=>acc.length≤sizeLine∧Q (.str acc) H
def Ld(te:TE)(t:TJ):TJ:=fun acc σ H Q=>te σ H fun x H1=>∃y,x= .str y∧(acc++y).length≤sizeLine∧t (acc++y) σ H1 Q
theorem wV:PJ X [] Oh:=fun acc _ s σ H Q I h=>joinParts_nil ⟨.str acc,H,I.tok _,⟨_,rfl⟩,h.2⟩ h.1
theorem fv{t:TJ}(h1:PE X e te)(h2:PJ X es t):PJ X (e::es) (Ld te t):=by
 intro acc pins s σ H Q I h;refine joinParts_cons (cG (h1 pins s σ H _ I h) fun u s1 ⟨x,H1,I1,r1,y,e,hl,q⟩=>?_);subst e;obtain⟨tk,rfl⟩:=r1;exact⟨hl,h2 _ pins s1 σ H1 Q I1 q⟩
theorem mw{t:TJ}(h:PJ X (v1::v2::es) t):PE X (.JoinedStr (v1::v2::es) pos) (t Str.empty):=fun pins s σ H Q I hq=>JoinedStr_many (h Str.empty pins s σ H Q I hq)
end
abbrev Cx.Oi(X:Cx)(e:Addr):Cx:={X with A:=X.A.mark (some (.ref e)),calm:=false,xe:=fun _ _=>False}
section
variable{X:Cx}{pins:List (Addr×Obj)}{σ:St}{H:Hp}{s:Shared}{ea C:Addr}{B:Heap}{a0:Value}
end
abbrev TH:=Addr→TS
def Ends.drop(D:Ends)(i:Nat):Ends:={nx:=fun σ H=>D.nx (σ.set i none) H,rt:=D.rt,bk:=fun σ H=>D.bk (σ.set i none) H,ct:=fun σ H=>D.ct (σ.set i none) H}
section
variable{X:Cx}{x n:Str}{np pos:Pos}{b0:Stmt}{Oi:List Stmt}{rest:List ExceptHandler}{ts:TS}{tr:TH}{Dc:Addr}{i:Nat}
end
def fS(env:Env):List (Str×NameKind)→List (Str×Addr)→List (Str×Addr)
 |[],acc=>acc
 |(n,k)::r,acc=>if k= .free then fS env r ((n,(env.cells.lookup n).getD 0)::acc)else fS env r acc
theorem wX{env:Env}{scope:Scope}(h:∀x∈scope.names,x.2= .free→∃c,env.cells.lookup x.1=some c):closureFor scope env=pure (fS env scope.names []):=by
 unfold closureFor
 suffices H:∀(l:List (Str×NameKind))(acc:List (Str×Addr)),(∀x∈l,x.2= .free→∃c,env.cells.lookup x.1=some c)→
   (forIn l acc fun(x:Str×NameKind)(cs:List (Str×Addr))=>if (x.2==NameKind.free)=true then do let c←cellOf env x.1;pure (ForInStep.yield ((x.1,c)::cs))else pure (ForInStep.yield cs):Sem (List (Str×Addr)))=pure (fS env l acc) by
  have:=H scope.names [] h;simpa using this
 intro l
 induction l with
 |nil=>intro acc _;rfl
 |cons x r ih=>
  intro acc hl;obtain⟨n,k⟩:=x;rw[List.forIn_cons];by_cases hk:k= .free
  ·subst hk;obtain⟨c,hc⟩:=hl (n, .free) List.mem_cons_self rfl;have Ko:env.cells.lookup n=some c:=hc;simp only[beq_self_eq_true,if_true,cellOf,Ko,fS,Option.getD_some];show(pure _>>=_)=_;rw[pure_bind];exact ih _ fun y hy=>hl y (ZR hy)
  ·have hb:(k==NameKind.free)=false:=by simpa using hk
   simp only[hb,Bool.false_eq_true,if_false,fS,hk];rw[pure_bind];exact ih _ fun y hy=>hl y (ZR hy)
theorem kb{env:Env}{x:Str}{c:Addr}:∀{l:List (Str×NameKind)}{acc:List (Str×Addr)},(∀y∈l,y.2= .free→∃c,env.cells.lookup y.1=some c)→
  (∀y d,acc.lookup y=some d→env.cells.lookup y=some d)→(fS env l acc).lookup x=some c→env.cells.lookup x=some c
 |[],acc,_,ha,h=>ha x c h
 |(n,k)::r,acc,hl,ha,h=>by
  unfold fS at h;have hr:∀y∈r,y.2= .free→∃c,env.cells.lookup y.1=some c:=fun y hy=>hl y (ZR hy)
  split at h
  ·rename_i hk
   obtain⟨d,hd⟩:=hl (n,k) List.mem_cons_self hk;refine kb hr (fun y e he=>?_) h;rw[List.lookup_cons]at he;split at he
   ·rename_i q
    have q':y=n:=by simpa using q
    subst q';have zO:env.cells.lookup y=some d:=hd;rw[zO,Option.getD_some]at he;cases he;exact zO
   ·exact ha y e he
  ·exact kb hr ha h
theorem oP{env:Env}{x:Str}:∀{l:List (Str×NameKind)}{acc:List (Str×Addr)},((x,NameKind.free)∈l∨∃c,acc.lookup x=some c)→∃c,(fS env l acc).lookup x=some c
 |[],acc,h=>by
  rcases h with h|h
  ·simp at h
  ·exact h
 |(n,k)::r,acc,h=>by
  unfold fS;split
  ·rename_i hk
   refine oP ?_;rcases h with h|⟨c,h⟩
   ·rcases List.mem_cons.mp h with e|e
    ·injection e with e1 e2;subst e1;exact .inr ⟨(env.cells.lookup x).getD 0,by simp[List.lookup_cons]⟩
    ·exact .inl e
   ·by_cases q:x=n
    ·subst q;exact .inr ⟨(env.cells.lookup x).getD 0,by simp[List.lookup_cons]⟩
    ·refine .inr ⟨c,?_⟩;rw[List.lookup_cons];have:(x==n)=false:=by simpa using q
     rw[this];exact h
  ·rename_i hk
   refine oP ?_;rcases h with h|h
   ·rcases List.mem_cons.mp h with e|e
    ·injection e with e1 e2;exact X7 e2.symm hk
    ·exact .inl e
   ·exact .inr h
theorem oQ{env:Env}{x:Str}:∀{names:List (Str×NameKind)},names.lookup x=some .free→
  (names.map fun(n,k)=>if (k==NameKind.free&&env.scope.kind== .function&&env.kindOf n==some .cell)then(n,NameKind.cell)else(n,k)).lookup x=some .cell∨
  (names.map fun(n,k)=>if (k==NameKind.free&&env.scope.kind== .function&&env.kindOf n==some .cell)then(n,NameKind.cell)else(n,k)).lookup x=some .free
 |[],h=>by simp at h
 |(n,k)::r,h=>by
  have ih:=@oQ env x r;show List.lookup x ((if (k==NameKind.free&&env.scope.kind== .function&&env.kindOf n==some .cell)=true then(n,NameKind.cell)else(n,k))::_)=_∨List.lookup x ((if (k==NameKind.free&&env.scope.kind== .function&&env.kindOf n==some .cell)=true then(n,NameKind.cell)else(n,k))::_)=_;rw[List.lookup_cons]at h;by_cases hc:(k==NameKind.free&&env.scope.kind== .function&&env.kindOf n==some .cell)=true
  ·rw[Hz hc,List.lookup_cons];cases hx:x==n with
   |true=>exact .inl rfl
   |false=>rw[hx]at h;exact ih h
  ·rw[Dy hc,List.lookup_cons];cases hx:x==n with
   |true=>rw[hx]at h;exact .inr h
   |false=>rw[hx]at h;exact ih h
theorem oR{env:Env}{x:Str}:∀{names:List (Str×NameKind)},(∀y∈names,y.2≠ .cell)→
  ((names.map fun(n,k)=>if (k==NameKind.free&&env.scope.kind== .function&&env.kindOf n==some .cell)then(n,NameKind.cell)else(n,k)).lookup x=some .cell∨
  (names.map fun(n,k)=>if (k==NameKind.free&&env.scope.kind== .function&&env.kindOf n==some .cell)then(n,NameKind.cell)else(n,k)).lookup x=some .free)→(x,NameKind.free)∈names
 |[],_,h=>by simp at h
 |(n,k)::r,hc,h=>by
  have ih:=@oR env x r fun y hy=>hc y (ZR hy)
  have h2:List.lookup x ((if (k==NameKind.free&&env.scope.kind== .function&&env.kindOf n==some .cell)=true then(n,NameKind.cell)else(n,k))::_)=_∨List.lookup x ((if (k==NameKind.free&&env.scope.kind== .function&&env.kindOf n==some .cell)=true then(n,NameKind.cell)else(n,k))::_)=_:=h;clear h;by_cases hq:(k==NameKind.free&&env.scope.kind== .function&&env.kindOf n==some .cell)=true
  ·rw[Hz hq,List.lookup_cons]at h2;cases hx:x==n with
   |true=>
    have e:x=n:=by simpa using hx
    subst e;have hk:k= .free:=by
     rw[Bool.and_eq_true,Bool.and_eq_true]at hq;simpa using hq.1.1
    subst hk;exact List.mem_cons_self
   |false=>rw[hx]at h2;exact ZR (ih h2)
  ·rw[Dy hq,List.lookup_cons]at h2;cases hx:x==n with
   |true=>
    rw[hx]at h2;have e:x=n:=by simpa using hx
    subst e;rcases h2 with h|h
    ·have h':some k=some NameKind.cell:=h;exact X7 (YA h') (hc (x,k) List.mem_cons_self)
    ·have h':some k=some NameKind.free:=h;rw[YA h'];exact List.mem_cons_self
   |false=>rw[hx]at h2;exact ZR (ih h2)
def f_(X:Cx)(scope:Scope)(N:List Str)(dA:Shared)(eY:Hp)(C:Addr)(fp:List Addr)(pn:List (Addr×Obj)):Cx:=
 {X with N:=N,dA:=dA,eY:=eY,env:=compEnvC scope (fS X.env scope.names []) C X.env,outer:=X.stack,ex:=fp,fn:=fun _=>false,pn:=pn,xe:=fun _ _=>False}
structure bg(N:List Str)(sc:Scope)(scope:Scope)(ls:List Str)(js:List Nat)(cs:List Str):Prop where
 kind:scope.kind= .function
 Jr:∀x∈scope.names,x.2≠ .cell
 names:∀x∈scope.names,x.2= .local→scope.names.lookup x.1=some .local
 loc:∀x∈ls,scope.names.lookup x=some .local
 at_:cs=js.filterMap (N[·]?)
 len:cs.length=js.length
 Sj:∀x∈cs,scope.names.lookup x=some .free∧(sc.names.lookup x=some .cell∨sc.names.lookup x=some .free)
 free:∀x∈scope.names,x.2= .free→(sc.names.lookup x.1=some .cell∨sc.names.lookup x.1=some .free)
 nd:(ls++cs).Nodup
section
variable{X:Cx}{pins:List (Addr×Obj)}{σ:St}{H:Hp}{s:Shared}{scope:Scope}{ls cs:List Str}{js:List Nat}{fp:List Addr}
theorem bg.has(S:bg X.N X.env.scope scope ls js cs)(ok:X.Ok):∀x∈scope.names,x.2= .free→∃c,X.env.cells.lookup x.1=some c:=fun x hx hf=>ok.has x.1 (S.free x hx hf)
def lN(ls:List Str)(js:List Nat)(σ:St):St:=ls.map (fun _=>none)++js.map fun j=>(σ[j]?).join
theorem Hv(S:bg X.N X.env.scope scope ls js cs)(I:Inv X pins σ H s)(hf:∀b∈fp,iE X pins H b)(hl:∀b∈fp,b<s.heap.objs.size):(f_ X scope (ls++cs) s H s.heap.objs.size fp (X.pn++pins)).Ok:=by
 have tD:∀{x:Str}{c:Addr},(fS X.env scope.names []).lookup x=some c→X.env.cells.lookup x=some c:=fun{x c} h=>kb (S.has I.ok) (fun y d h=>by simp at h) h
 refine⟨I.ok.mod,S.kind,I.ok.glob,I.ok.blt,Nat.le_refl _,fun x y c h1 h2=>I.ok.inj x y c (tD h1) (tD h2),fun x h=>oP (.inl (oR S.Jr h)),(fun x c h=>Bool.noConfusion (show false=true from h)),I.ok.hd,I.ok.frames, .inl rfl,fun b hb=>⟨ZS (hl b hb),fun x c h=>(hf b hb).2.2.2.2.1 x c (tD h)⟩,
  I.bs,ZX I.ok.Kl I.sz,fun b o e hb=>?_,fun b hb hm=>?_,I.stack,I.wD⟩
 ·rcases(hf b hb).2.2.2.1 with z|z
  ·exact I.ok.Km b o e z
  ·exact X7 (Θ (Z9 e) I.ok.Kl) (Nat.not_lt.mpr z)
 ·rcases List.mem_cons.mp (I.sX b hm)with z|z
  ·exact(hf b hb).2.1 z
  ·exact(hf b hb).2.2.1 z
theorem EG{h1:Heap}{m:Str→Option Value}(S:bg X.N X.env.scope scope ls js cs)(I:Inv X pins σ H s)(hf:∀b∈fp,iE X pins H b)(hl:∀b∈fp,b<s.heap.objs.size)
  (hn:h1.Ns s.heap.objs.size m) (hk:∀b o,s.heap.get? b=some o→h1.get? b=some o):
  Inv (f_ X scope (ls++cs) s H s.heap.objs.size fp (X.pn++pins)) [] (lN ls js σ) H {s with heap:=h1}:=by
 have tD:∀{x:Str}{c:Addr},(fS X.env scope.names []).lookup x=some c→X.env.cells.lookup x=some c:=fun{x c} h=>kb (S.has I.ok) (fun y d h=>by simp at h) h
 have len:(lN ls js σ).length=(ls++cs).length:=by
  unfold lN;rw[List.length_append,List.length_append,List.length_map,List.length_map,S.len]
 refine⟨Hv S I hf hl,rfl,I.bare,Un.kept hk,⟨m,hn,fun i x v e1 e2 e3=>?_⟩,fun x c e=>?_,I.bS.fresh ZD,fun x c e=>I.mW x c (tD e),fun p hp=>?_,I.bS.kept hk,len⟩
 ·have e1:(ls++cs)[i]?=some x:=e1;unfold lN at e2;by_cases hi:i<ls.length
  ·rw[ZK (by simpa using hi),List.getElem?_map]at e2;cases q:ls[i]? with
   |none=>rw[q]at e2;cases e2
   |some y=>rw[q]at e2;cases e2
  ·have sN:ls.length≤i:=Nat.not_lt.mp hi;rw[ZP (by simpa using sN),List.getElem?_map,List.length_map]at e2;rw[ZP sN]at e1;obtain⟨U7,qj⟩:=S.Sj x (Y7 e1);cases q:js[i-ls.length]? with
   |none=>rw[q]at e2;cases e2
   |some j=>
    rw[q]at e2;have e2:(σ[j]?).join=some v:=YA e2;have eN:X.N[j]?=some x:=by
     have aux:∀(js:List Nat)(cs:List Str)(i:Nat),cs=js.filterMap (X.N[·]?)→cs.length=js.length→∀j x,js[i]?=some j→cs[i]?=some x→X.N[j]?=some x:=by
      intro js
      induction js with
      |nil=>intro cs i _ _ j x hj _;simp at hj
      |cons a r ih=>
       intro cs i he hl j x hj hx;rw[List.filterMap_cons]at he;cases qa:X.N[a]? with
       |none=>
        rw[qa]at he;have hle:=List.length_filterMap_le (X.N[·]?) r;simp only at he;rw[he,List.length_cons]at hl
        lia
       |some y=>
        rw[qa]at he;simp only at he;subst he;cases i with
        |zero=>
         simp at hj hx;subst hj hx;exact qa
        |succ i=>exact ih _ i rfl (by simpa using hl) j x (by simpa using hj) (by simpa using hx)
     exact aux js cs _ S.at_ S.len j x q e1
    obtain⟨mX,_,Xe⟩:=I.loc;have Xf:σ[j]?=some (some v):=by
     cases z:σ[j]? with
     |none=>rw[z]at e2;cases e2
     |some w=>rw[z]at e2;rw[show w=some v from e2]
    obtain⟨u,r,l⟩:=Xe j x v eN Xf (qj.elim (fun z=> .inr (.inl z)) fun z=> .inr (.inr z));refine⟨u,r,?_⟩;rcases l with⟨z,_⟩|⟨_,c,z1,o,z2,z3⟩
    ·have z:X.env.scope.names.lookup x=some .local:=z;rcases qj with w|w<;>(rw[z]at w;cases w)
    ·refine .inr ⟨oQ U7,c,?_,o,hk c o z2,z3⟩;obtain⟨c',Ko⟩:=oP (env:=X.env) (l:=scope.names) (acc:=[]) (x:=x) (.inl (PySem.mem_of_lookup U7));have:=tD Ko;rw[z1]at this;cases this;exact Ko
 ·obtain⟨v,o,z1,z2⟩:=I.cell x c (tD e);exact⟨v,o,hk c o z1,z2⟩
 ·have hp:p∈X.pn++pins:=by simpa[f_]using hp
  obtain⟨e,n,ne,nf,d⟩:=I.pin p hp;refine⟨hk _ _ e,n,ZS (Z9 e),fun hm=>?_,d⟩;rcases List.mem_cons.mp (I.sX p.1 hm)with z|z
  ·exact ne z
  ·exact nf z
end
section
variable{prog:Program}{w:World}{A:Around}{R:Result→Shared→Prop}{s:Shared}
theorem wY{elt target iter:Expr}{ifs:List Expr}{scope:Scope}{pos:Pos}{it acc:Value}{env:Env}(L:Nat→Shared→Prop)
  (turn:∀n s,L n s→wpAny (model prog w) A (pyNext it) (fun r cc=>match r with
   |none=>R (.ok .next) cc
   |some v=>wpAny (model prog w) A (letOwnedTupleGo target it v) (fun _ Js=>wpAny (model prog w) A (assign target env v) (fun _ qm=>
     wpAny (model prog w) A (forIn ifs true fun c r=>if r=true then do let ok←isTrue c env (eval c env);pure (ForInStep.yield ok)else pure (ForInStep.yield r)) (fun ok CL=>
      if ok=true then wpAny (model prog w) A (eval elt env) (fun x Oj=>
       wpAny (model prog w) A (call (.builtin "list.append") [acc,x]) (fun _ Ol=>∃m,m<n∧L m Ol) (fun _ _=>False) Oj) (fun _ _=>False) CL
      else ∃m,m<n∧L m CL) (fun _ _=>False) qm) (fun _ _=>False) Js) (fun _ _=>False) cc) (fun _ _=>False) s)
  (n:Nat) (h:L n s):codeAny (model prog w) A (.compLoop (.ListComp elt [⟨target,iter,ifs,0⟩] scope pos) 0 it acc env) R s:=by
 refine codeAny_loop rfl L (fun n s hI=>?_) n h;show wpAny _ A ((compTurn (.ListComp elt [⟨target,iter,ifs,0⟩] scope pos) 0 it acc env).onRaise (fun x=>do noteFrame x env;theTreesLotGoes x)) _ _ s;refine wpAny_noted ?_;rw[compTurn_list];refine wpAny_mono (E:=fun _ _=>False) ?_ (fun _ _ q=>q) fun _ _ z=>False.elim z
 refine wpAny_bind (wpAny_standAt (Z5 (wpAny_mono (turn n s hI) (fun r cc CK=>?_) fun _ _ h'=>h')));cases r with
 |none=>exact Xs CK
 |some v=>
  refine wpAny_bind (wpAny_mono CK (fun _ Js CK=>?_) fun _ _ h'=>h');refine wpAny_bind (wpAny_mono CK (fun _ qm Eo=>Z5 (wpAny_mono Eo (fun ok CL Hj=>?_) fun _ _ h'=>h')) fun _ _ h'=>h');cases ok with
  |false=>exact Xs ⟨rfl,Hj⟩
  |true=>
   exact Z5 (Z5 (wpAny_mono Hj (fun x Oj Sk=>Z5 (wpAny_mono Sk (fun _ Ol Sl=>Xs (Xs ⟨rfl,Sl⟩)) fun _ _ h'=>h')) fun _ _ h'=>h'))
end
def Om(X:Cx)(ifs:List Expr)(t:TT):Prop:=
 ∀(pins:List (Addr×Obj))(s:Shared)(σ:St)(H:Hp)(Q:Bool→Hp→Prop),Inv X pins σ H s→t σ H Q→
  wpAny (model X.prog X.w) X.A (forIn ifs true fun c r=>if r=true then do let ok←isTrue c X.env (eval c X.env);pure (ForInStep.yield ok)else pure (ForInStep.yield r)) (TP X pins σ Q) X.xe s
def Le:TT:=fun _ H Q=>Q true H
theorem fz{X:Cx}:Om X [] Le:=fun _ _ _ H _ I h=>wpAny_tests_nil ⟨H,I,h⟩
theorem BD{X:Cx}{c:Expr}{t:TT}(h:PT X c t):Om X [c] t:=fun pins s σ H Q I hq=>wpAny_tests_one (h pins s σ H Q I hq)
def tE(J:It)(ls:List Str)(js:List Nat)(g:TG)(tt:TT)(te:TE)(σ:St)(H1:Hp)(D:Addr)(Q:VK):Prop:=
 ∃W:Nat→Nat→List V→St→Hp→Prop,(∃m,W 0 m [] (lN ls js σ) (upd H1 D (.lst [])))∧∀i m ys bj H',W i m ys bj H'→
 (J.stop i H'∧Q (.ref D) H')∨(J.go i H'∧∃N:List V→St→Hp→Prop,(∀Jt fF H2,N Jt fF H2→∃m',m'<m∧W (i+1) m' Jt fF H2)∧∀x H2,J.G6 i H' x H2→g x bj H2 fun fF H3=>tt fF H3 fun b H4=>
  if b=true then te fF H4 fun y H5=>H5 D=some (.lst ys)∧ys.length<sizeLine∧N (ys++[y]) fF (upd H5 D (.lst (ys++[y])))else N ys fF H4)
def EH(wi:TI)(ls:List Str)(js:List Nat)(g:TG)(tt:TT)(te:TE):TE:=fun σ H Q=>wi σ H fun J H1=>∀D,H1 D=none→tE J ls js g tt te σ H1 D Q
section
variable{X:Cx}{tg iter elt:Expr}{ifs:List Expr}{scope:Scope}{pos:Pos}{wi:TI}{g:TG}{tt:TT}{te:TE}{ls cs:List Str}{js:List Nat}
theorem vT{pins:List (Addr×Obj)}{s:Shared}{σ:St}{H:Hp}{Q:VK}{use:Option (Value→Sem Unit)}{QQ:Value→Shared→Prop}(hc:X.calm=true)(S:bg X.N X.env.scope scope ls js cs)(hi:PI X tg iter wi)
  (hg:∀dA eY C fp pn,PG ε tg g) (ht:∀dA eY C fp pn,Om ε ifs tt) (he:∀dA eY C fp pn,PE ε elt te)
  (I:Inv X pins σ H s) (h:EH wi ls js g tt te σ H Q)
  (Sn:∀(D C:Addr)(H':Hp)(s':Shared)(m:Str→Option Value),Inv X pins σ H' s'→Q (.ref D) H'→s'.heap.Ns C m→iE X pins H' C→compPost (model X.prog X.w) X.A X.xe use QQ (.ref D) C (.ok .next) s')
  (hs:∀x,foldedSetIterable iter X.env x=pure x:=by intro _;rfl):
  wpAny (model X.prog X.w) X.A (comprehension (.ListComp elt [⟨tg,iter,ifs,0⟩] scope pos) scope X.env (firstIterPos [⟨tg,iter,ifs,0⟩] pos) (newList []) false (eval iter X.env) use) QQ X.xe s:=by
 refine wpAny_comprehension_free rfl hs (wX (S.has I.ok)) S.kind S.names (cG (hi pins s σ H _ I h) fun v s1 h1=>cG h1 fun RO s2 h2=>?_);obtain⟨it,fp,tn,J,H2,rfl,I2,T,dR,f2,hW⟩:=h2;have U8:∀b∈fp,b<s2.heap.objs.size:=fun b hb=>by
  obtain⟨o,e,_⟩:=T.obj 0 _ dR b hb;exact Z9 e
 refine wpAny_newObj_type ?_;have hD:H2 s2.heap.objs.size=none:=I2.bS.fresh ZD;obtain⟨W,⟨m0,w0⟩,turn⟩:=hW _ hD;have I3:Inv X pins σ (upd H2 s2.heap.objs.size (.lst [])) {s2 with heap:=s2.heap.push {cls:= .type "list",dict:=none,data:= .seq ([]:List Value).toArray}}:=
  I2.laid (t':=s2.toks) (fun b u e=>ZE e) (Nat.le_refl _) ⟨Nat.zero_le _,[],0, .nil,Heap.get?_push_size _ rfl⟩
 have f3:∀b∈fp,iE X pins (upd H2 s2.heap.objs.size (.lst [])) b:=fun b hb=>⟨by rw[ak (ZS (U8 b hb))];exact(f2 b hb).1,(f2 b hb).2⟩
 generalize abN:upd H2 s2.heap.objs.size (.lst [])=H3 at I3 f3 w0;generalize Oo:({s2 with heap:=s2.heap.push {cls:= .type "list",dict:=none,data:= .seq ([]:List Value).toArray}}:Shared)=s3 at I3;have U9:∀b∈fp,b<s3.heap.objs.size:=fun b hb=>by
  rw[←Oo];show b<(s2.heap.push _).objs.size;rw[Heap.size_push];exact Nat.lt_succ_of_lt (U8 b hb)
 have Ed:tn 0 s3.heap:=T.keep 0 _ _ dR fun b hb o e=>by rw[←Oo];exact ZE e
 refine wpAny_newFunctionEnv S.Jr (by intro y hy;simp at hy) (fun h4 Qo Oq=>?_) S.kind;have k4:∀b o,s3.heap.get? b=some o→h4.get? b=some o:=fun b o e=>Oq.extBut b o (ZS (Z9 e)) (ZE e)
 have I4:=EG (h1:=h4) S I3 f3 U9 Qo k4;have Xg:=I4.tok (s3.toks+([]:List (Str×Value)).length);have Qs:tn 0 h4:=T.keep 0 _ _ Ed fun b hb o e=>k4 b o e
 show codeAny (model X.prog X.w) X.A (.compStart (.ListComp elt [⟨tg,iter,ifs,0⟩] scope pos) 0 (.ref it) (.ref s2.heap.objs.size) (compEnvC scope (fS X.env scope.names []) s3.heap.objs.size X.env)) (compPost (model X.prog X.w) X.A X.xe use QQ (.ref s2.heap.objs.size) s3.heap.objs.size) _;have z9:∀{H':Hp},(∀b∈fp,H' b=none)→∀b∈fp,iE θ [] H' b:=fun{H'} hn b hb=>by
  obtain⟨q1,q2,q3,q4,q5,q6⟩:=f3 b hb;refine⟨hn b hb,ZS (U9 b hb),fun hm=>?_, .inl hb,fun x c e=>q5 x c (kb (S.has I.ok) (fun y d z=>by simp at z) e),fun p hp=>q6 p (by simpa[f_]using hp)⟩;rcases List.mem_cons.mp (I3.sX b hm)with z|z
  ·exact q2 z
  ·exact q3 z
 have loop:codeAny (model X.prog X.w) X.A (.compLoop (.ListComp elt [⟨tg,iter,ifs,0⟩] scope pos) 0 (.ref it) (.ref s2.heap.objs.size) (compEnvC scope (fS X.env scope.names []) s3.heap.objs.size X.env)) (compPost (model X.prog X.w) X.A X.xe use QQ (.ref s2.heap.objs.size) s3.heap.objs.size)
   {s3 with heap:=h4,toks:=s3.toks+([]:List (Str×Value)).length}:=by
  refine wY (fun n s'=>∃i bj H',Inv θ [] bj H' s'∧tn i s'.heap∧(∀b∈fp,H' b=none)∧∃ys,W i n ys bj H') ?_ m0 ⟨0,_,_,Xg,Qs,fun b hb=>(f3 b hb).1,[],w0⟩;rintro n s5 ⟨i,Qt,H5,I5,MN,Qk,ys,w5⟩;rcases turn i n ys Qt H5 w5 with⟨stop,qn⟩|⟨go,N,hN,step⟩
  ·refine cG (T.done θ rfl rfl rfl hc i [] s5 Qt H5 (fun _ _=>False) I5 (z9 Qk) MN stop) fun r s6 ⟨hr,I6⟩=>?_
   subst hr;obtain⟨m,hm,_⟩:=id I6.loc;have un:Un (oA X.stack) fp H3 H5 s3.heap s6.heap:=I6.base;have I7:Inv X pins σ H5 s6:=I3.NH (ch:=fp) I6.os un I6.bS I6.bare fun b hb=>by
    obtain⟨q1,q2,q3,q4,q5,q6⟩:=f3 b hb;exact⟨q4,q2,q5,q6⟩
   have fc:iE X pins H5 s3.heap.objs.size:=I3.uP ZD I6.free;exact Sn _ _ H5 s6 m I7 qn hm fc
  ·refine cG (T.item θ rfl rfl rfl hc i [] s5 Qt H5 (fun _ _=>False) I5 (z9 Qk) MN go) fun r s6 ⟨u,hr,h6⟩=>?_
   subst hr;refine cG h6 fun _ s7 ⟨x,H7,I7,r7,y7,So,Xh⟩=>?_
   have Xi:=I7.pinned (z9 Xh) (T.obj _ _ So);refine cG (hg _ _ _ _ _ _ s7 Qt H7 x u _ Xi r7 (step x H7 y7)) fun _ s8 ⟨Qu,H8,I8,q8⟩=>?_
   refine cG (ht _ _ _ _ _ _ s8 Qu H8 _ I8 q8) fun b s9 ⟨H9,I9,q9⟩=>?_
   have again:∀{Jt:List V}{bj:St}{H':Hp}{s':Shared},Inv θ ([]++sZ fp s7.heap) bj H' s'→N Jt bj H'→
     ∃m,m<n∧∃i bj H',Inv θ [] bj H' s'∧tn i s'.heap∧(∀b∈fp,H' b=none)∧∃ys,W i m ys bj H':=fun{Jt bj H' s'} I' n'=>by
    obtain⟨m',Am,w'⟩:=hN Jt bj H' n';refine⟨m',Am,i+1,bj,H',I'.lL,T.keep _ _ _ So fun b hb o e=>(I'.pin (b,o) (ZU (ZU (gQ hb e)))).1,fun b hb=>?_,Jt,w'⟩;obtain⟨o,e,d⟩:=T.obj _ _ So b hb;exact(I'.pin (b,o) (ZU (ZU (gQ hb e)))).2.1
   cases b with
   |false=>exact again I9 q9
   |true=>
    refine cG (he _ _ _ _ _ _ s9 Qu H9 _ I9 q9) fun u2 Xj ⟨y,Xk,Xl,Xm,Xn,hz,Xo⟩=>?_
    refine cG (bR _ Xj Qu Xk (.ref s2.heap.objs.size) [y] (.ref s2.heap.objs.size) [u2] (fun _ H'=>N (ys++[y]) Qu H') Xl rfl (.cons Xm .nil) ⟨_,ys,y,rfl,rfl,Xn,hz,Xo⟩) fun _ abD ⟨_,aav,Xp,_,Xq⟩=>?_
    exact again Xp Xq
 exact codeAny_compStart_list loop (T.self _ 0 _ _ _ Qs loop)
theorem jy(hc:X.calm=true)(S:bg X.N X.env.scope scope ls js cs)(hi:PI X tg iter wi)
  (hg:∀dA eY C fp pn,PG ε tg g) (ht:∀dA eY C fp pn,Om ε ifs tt) (he:∀dA eY C fp pn,PE ε elt te)
  (hs:∀x,foldedSetIterable iter X.env x=pure x:=by intro _;rfl):PE X (.ListComp elt [⟨tg,iter,ifs,0⟩] scope pos) (EH wi ls js g tt te):=by
 intro pins s σ H Q I h;rw[eval_ListComp];refine vT (use:=none) hc S hi hg ht he I h (fun D C H' s' m I' q hm fc=>⟨m,hm,fun h' Oq=>?_⟩) hs;obtain⟨q1,q2,q3,q4,q5,q6⟩:=fc;exact⟨.ref D,H',I'.turned (t':=s'.toks) (fun b o hb e=>Oq.extBut b o hb e) q1 (Z' (Z' q2)) q4 q5 q6,rfl,q⟩
theorem kH{x:Str}{i:Nat}{pos' Ot:Pos}(hc:X.calm=true)(hN:X.N.Nodup)(sN:X.N[i]?=some x)(hx:X.env.scope.names.lookup x=some .local)(S:bg X.N X.env.scope scope ls js cs)(hi:PI X tg iter wi)
  (hg:∀dA eY C fp pn,PG ε tg g) (ht:∀dA eY C fp pn,Om ε ifs tt) (he:∀dA eY C fp pn,PE ε elt te)
  (Sq:swapsWith (.ListComp elt [⟨tg,iter,ifs,0⟩] scope pos) (some (.Name x pos')) Ot.line X.env=pure true:=by rfl)
  (hs:∀x,foldedSetIterable iter X.env x=pure x:=by intro _;rfl):PS X (.Assign [.Name x pos'] (.ListComp elt [⟨tg,iter,ifs,0⟩] scope pos) Ot) (KA (EH wi ls js g tt te) (Bn i)):=by
 intro pins s σ H D I h;rw[exec_Assign_Name_used _ _ _ _ Sq];refine wpAny_bind (wpAny_standAt (Z5 ?_));show wpAny _ X.A (do let _←comprehension (.ListComp elt [⟨tg,iter,ifs,0⟩] scope pos) scope X.env (firstIterPos [⟨tg,iter,ifs,0⟩] pos) (newList []) false (eval iter X.env) (some (assign (.Name x pos') X.env))) _ _ s;refine wpAny_bind (wpAny_mono (vT (use:=some (assign (.Name x pos') X.env)) (QQ:=fun _ s'=>SP X pins D .next s') hc S hi hg ht he I h (fun Dl C H' s' m I' q hm fc=>?_) hs) (fun _ s' hq=>Xs (Xs hq)) fun _ _ e=>e);show wpAny _ X.A (assign (.Name x pos') X.env (.ref Dl)) _ _ _;obtain⟨q1,q2,q3,q4,q5,q6⟩:=fc;refine wpAny_assign_Name (vF (v:= .ref Dl) I' hN sN (.inl hx) rfl (fun s2 I2 ⟨a,Oq,ha⟩=>?_) (.inr hx));have cB:C≠a:=by
  rcases ha with rfl|ha
  ·exact q2
  ·exact fun z=>q5 x a ha z.symm
 refine⟨m,hm.sameBut Oq cB,fun h' Sr=>?_⟩;exact⟨_,H',I2.turned (t':=s2.toks) (fun b o hb e=>Sr.extBut b o hb e) q1 q2 q4 q5 q6,q⟩
end
def Qv(z:Str):It:=⟨fun i _=>i<z.length,fun i H x H'=>H'=H∧∃c,z.cps.toList[i]?=some c∧x= .str ⟨#[c]⟩,fun i _=>z.length≤i⟩
theorem EI{P:Program}{w:World}{K:Frag}{tg:Expr}{it:Addr}{z:Str}{ty:String}{t:Tok}(DR:ty="str_ascii_iterator"∨ty="str_iterator"):Turn P w K tg (Qv z) [it] it (fun i h=>h.IsStrIter it ty z t i) where
 mem:=MD
 obj:=fun i h st b hb=>by
  have e:b=it:=by simpa using hb
  subst e;obtain⟨o,e,c,d⟩:=st;exact⟨o,e,fun v z=>by rw[d]at z;cases z⟩
 keep:=fun i h h' st k=>let ⟨o,ho,r⟩:=st;⟨o,k it (MD) o ho,r⟩
 item:=by
  intro X hP hw hK hc i pins s σ H E I hf st hg;subst hP hw hK;obtain⟨f0,f1,f2,f3,f4,f5⟩:=hf it (MD);have hg:i<z.cps.size:=hg;have key:∀h',h'.IsStrIter it ty z t (i+1)→Heap.SameBut it s.heap h'→∃u,some (Value.str ⟨#[z.cps[i]]⟩ s.toks)=some u∧
    wpAny (model X.prog X.w) X.A (letOwnedTupleGo tg (.ref it) u) (fun _ s2=>∃x H',Inv X pins σ H' s2∧RelV x u∧(Qv z).G6 i H x H'∧s2.heap.IsStrIter it ty z t (i+1)∧∀b∈[it],H' b=none) E {s with heap:=h',toks:=s.toks+1}:=fun h' aU sb=>by
   have I1:Inv X pins σ H {s with heap:=h',toks:=s.toks+1}:=I.turned (fun b o hb e=>(sb.2 b hb).trans e) f0 f1 f3 f4 f5;obtain⟨o,e,c,d⟩:=id aU;refine⟨_,rfl,yE (s:={s with heap:=h',toks:=s.toks+1}) e c d (by rcases DR with rfl|rfl<;>decide) ⟨.str ⟨#[z.cps[i]]⟩,H,I1,⟨_,rfl⟩,⟨rfl,z.cps[i],by simp[hg],rfl⟩,aU,fun b hb=>(hf b hb).1⟩⟩
  rcases DR with rfl|rfl
  ·exact wpAny_pyNext_ascii_item st (c:=z.cps[i]) (by simp[hg]) key
  ·exact wpAny_pyNext_wide_item st (c:=z.cps[i]) (by simp[hg]) key
 done:=by
  intro X hP hw hK hc i pins s σ H E I hf st hg;subst hP hw hK;obtain⟨f0,f1,f2,f3,f4,f5⟩:=hf it (MD);have hg:z.cps.size≤i:=hg;rcases DR with rfl|rfl
  ·exact wpAny_pyNext_ascii_end (I.ok.hd hc) st (by simp[hg]) fun h' eb=>⟨rfl,I.turned (t':=s.toks) (fun b o hb e=>eb b o hb e) f0 f1 f3 f4 f5⟩
  ·exact wpAny_pyNext_wide_end (I.ok.hd hc) st (by simp[hg]) fun h' eb=>⟨rfl,I.turned (t':=s.toks) (fun b o hb e=>eb b o hb e) f0 f1 f3 f4 f5⟩
 self:=fun _ _ _ _ _ st h=>by
  rcases DR with rfl|rfl
  ·exact wpAny_pyIter_striter_ascii st h
  ·exact wpAny_pyIter_striter_wide st h
section
variable{X:Cx}{tg:Expr}
def Ss(tl:TE):TI:=fun σ H R=>tl σ H fun x H1=>∃z,x= .str z∧R (Qv z) H1
theorem Lf{l:Expr}{tl:TE}(hl:PE X l tl):PI X tg l (Ss tl):=by
 intro pins s σ H R I h;refine cG (hl pins s σ H _ I h) fun v s1 ⟨x,H1,I1,r1,q1⟩=>?_
 obtain⟨z,e,q⟩:=q1;subst e;obtain⟨t,rfl⟩:=r1;refine wpAny_pyIter_strU ?_;refine⟨s1.heap.objs.size,[s1.heap.objs.size],_,_,H1,rfl,I1.kept (t':=s1.toks) fun b o e=>ZE e,EI (ty:=strIterType z) (t:=t) (by unfold strIterType;split<;>simp),⟨_,Heap.get?_push_size _ rfl,rfl,rfl⟩,fun b hb=>?_,q⟩;have e:b=s1.heap.objs.size:=by simpa using hb
 subst e;exact I1.uP ZD (I1.bS.fresh ZD)
end
theorem oS{J:It}{n:Nat}{ls:List Str}{js:List Nat}{g:TG}{tt:TT}{te:TE}{σ:St}{H1:Hp}{D:Addr}{Q:VK}(Pv:Nat→List V→St→Hp→Prop)
  (h0:Pv 0 [] (lN ls js σ) (upd H1 D (.lst []))) (Hw:∀i ys σ H,i<n→Pv i ys σ H→J.go i H) (vG:∀ys σ H,Pv n ys σ H→J.stop n H)
  (hs:∀i ys σ H x H2,i<n→Pv i ys σ H→J.G6 i H x H2→g x σ H2 fun fF H3=>tt fF H3 fun b H4=>if b=true then te fF H4 fun y H5=>H5 D=some (.lst ys)∧ys.length<sizeLine∧Pv (i+1) (ys++[y]) fF (upd H5 D (.lst (ys++[y])))else Pv (i+1) ys fF H4)
  (hd:∀ys σ H,Pv n ys σ H→Q (.ref D) H):
  tE J ls js g tt te σ H1 D Q:=by
 refine⟨fun i m ys σ H=>m=n-i∧i≤n∧Pv i ys σ H,⟨n,MD,Nat.zero_le _,h0⟩,?_⟩;rintro i m ys σ H ⟨rfl,hi,p⟩;by_cases il:i<n
 ·exact .inr ⟨Hw i ys σ H il p,Pv (i+1),fun Jt fF H2 p'=>⟨n-(i+1),by lia,rfl,il,p'⟩,fun x H2 y=>hs i ys σ H x H2 il p y⟩
 ·have e:i=n:=by lia
  subst e;exact .inl ⟨vG ys σ H p,hd ys σ H p⟩
theorem eD{K:Frag}{a:Addr}{xs:List V}{ls:List Str}{js:List Nat}{g:TG}{tt:TT}{te:TE}{σ:St}{H1:Hp}{D:Addr}{Q:VK}(Pv:Nat→List V→St→Hp→Prop)
  (h0:Pv 0 [] (lN ls js σ) (upd H1 D (.lst []))) (hl:∀i ys σ H,i≤xs.length→Pv i ys σ H→iD K H a xs)
  (hs:∀i x ys σ H,xs[i]?=some x→Pv i ys σ H→g x σ H fun fF H3=>tt fF H3 fun b H4=>if b=true then te fF H4 fun y H5=>H5 D=some (.lst ys)∧ys.length<sizeLine∧Pv (i+1) (ys++[y]) fF (upd H5 D (.lst (ys++[y])))else Pv (i+1) ys fF H4)
  (hd:∀ys σ H,Pv xs.length ys σ H→Q (.ref D) H):
  tE (MJ K a) ls js g tt te σ H1 D Q:=
 oS (n:=xs.length) Pv h0 (fun i ys σ H hi p=>⟨xs,xs[i],hl i ys σ H (Nat.le_of_lt hi) p,by simp[hi]⟩) (fun ys σ H p=>⟨xs,hl _ ys σ H ZD p,Nat.le_refl _⟩)
  (fun i ys σ H x H2 hi p y=>by
   obtain⟨e,y⟩:=y;subst e;exact hs i x ys σ _ (y xs (hl i ys σ _ (Nat.le_of_lt hi) p)) p) hd
theorem An{lo:Int}{n:Nat}{ls:List Str}{js:List Nat}{g:TG}{tt:TT}{te:TE}{σ:St}{H1:Hp}{D:Addr}{Q:VK}(Pv:Nat→List V→St→Hp→Prop)
  (h0:Pv 0 [] (lN ls js σ) (upd H1 D (.lst [])))
  (hs:∀i ys σ H,i<n→Pv i ys σ H→g (.int (lo+i)) σ H fun fF H3=>tt fF H3 fun b H4=>if b=true then te fF H4 fun y H5=>H5 D=some (.lst ys)∧ys.length<sizeLine∧Pv (i+1) (ys++[y]) fF (upd H5 D (.lst (ys++[y])))else Pv (i+1) ys fF H4)
  (hd:∀ys σ H,Pv n ys σ H→Q (.ref D) H):
  tE (KD lo n) ls js g tt te σ H1 D Q:=
 oS (n:=n) Pv h0 (fun i ys σ H hi p=>hi) (fun ys σ H p=>Nat.le_refl _)
  (fun i ys σ H x H2 hi p y=>by
   obtain⟨e,y⟩:=y;subst e y;exact hs i ys σ _ hi p) hd
theorem EJ{z:Str}{ls:List Str}{js:List Nat}{g:TG}{tt:TT}{te:TE}{σ:St}{H1:Hp}{D:Addr}{Q:VK}(Pv:Nat→List V→St→Hp→Prop)
  (h0:Pv 0 [] (lN ls js σ) (upd H1 D (.lst [])))
  (hs:∀i c ys σ H,z.cps.toList[i]?=some c→Pv i ys σ H→g (.str ⟨#[c]⟩) σ H fun fF H3=>tt fF H3 fun b H4=>if b=true then te fF H4 fun y H5=>H5 D=some (.lst ys)∧ys.length<sizeLine∧Pv (i+1) (ys++[y]) fF (upd H5 D (.lst (ys++[y])))else Pv (i+1) ys fF H4)
  (hd:∀ys σ H,Pv z.length ys σ H→Q (.ref D) H):
  tE (Qv z) ls js g tt te σ H1 D Q:=
 oS (n:=z.length) Pv h0 (fun i ys σ H hi p=>hi) (fun ys σ H p=>Nat.le_refl _)
  (fun i ys σ H x H2 hi p y=>by
   obtain⟨e,c,hc,ex⟩:=y;subst e ex;exact hs i c ys σ _ hc p) hd
theorem vU(z:Str)(lo hi:Option Int):(Txt.slice z lo hi).cps.toList=(z.cps.toList.drop (HT.kG z.length 0 lo)).take (HT.kG z.length z.length hi-HT.kG z.length 0 lo):=by
 have abG:=HT.Ew z.length 0 (Nat.zero_le _) lo;have abE:=HT.Ew z.length z.length ZD hi;have ix:Builtin.Str.strSliceIndices lo hi 1 z.length=(Z6 (HT.kG z.length z.length hi-HT.kG z.length 0 lo)).map (HT.kG z.length 0 lo+·):=by
  rw[←sliceRange_one];have pos:(1:Int)>0:=Sz;cases lo with
  |none=>
   cases hi with
   |none=>rfl
   |some j=>
    simp only[Builtin.Str.strSliceIndices,HT.kG,pos,if_true]
    congr 1
    by_cases h:j<0
    ·simp only[h,if_true];lia
    ·simp only[h,if_false];lia
  |some i=>
   have e1:max 0 (min (if i<0 then i+(z.length:Int)else i) (z.length:Int))=((HT.kG z.length 0 (some i):Nat):Int):=by
    simp only[HT.kG];by_cases h:i<0
    ·simp only[h,if_true];lia
    ·simp only[h,if_false];lia
   cases hi with
   |none=>
    simp only[Builtin.Str.strSliceIndices,pos,if_true];rw[e1];rfl
   |some j=>
    have e2:max 0 (min (if j<0 then j+(z.length:Int)else j) (z.length:Int))=((HT.kG z.length z.length (some j):Nat):Int):=by
     simp only[HT.kG];by_cases h:j<0
     ·simp only[h,if_true];lia
     ·simp only[h,if_false];lia
    simp only[Builtin.Str.strSliceIndices,pos,if_true];rw[e1,e2]
 have hp:=pick_run z.cps (HT.kG z.length 0 lo) (HT.kG z.length z.length hi-HT.kG z.length 0 lo);unfold Txt.slice;rw[ix];split
 ·rename_i h
  simp only[List.length_map,List.length_range,beq_self_eq_true,Bool.true_and,beq_iff_eq]at h;have h0:HT.kG z.length 0 lo=0:=by lia
  have h1:HT.kG z.length z.length hi=z.length:=by lia
  rw[h0,h1,List.drop_zero,Nat.sub_zero,List.take_of_length_le (by simp[Str.length])]
 ·rw[←hp]
theorem vV(z:Str)(lo hi:Option Int):(Txt.slice z lo hi).length≤z.length:=Txt.slice_le z lo hi
section
variable{X:Cx}
def Su:V→Option Int→Option Int→Hp→VK→Prop:=fun x lo hi H Q=>∃z,x= .str z∧z.length≤sizeLine∧Q (.str (Txt.slice z lo hi)) H
theorem Ao:Qm X Su:=by
 intro pins s σ H x v vl vu lo hi sl Q I rx hs pl pu h;obtain⟨z,rfl,hz,q⟩:=h;obtain⟨t,rfl⟩:=rx;refine⟨"str",_,F.slot_str_getitem.lookup,typeIs_str _ _ _,?_⟩;have go:∀l u:Option (Int×Tok),vl=partValue l→vu=partValue u→l.map (·.1)=lo→u.map (·.1)=hi→wpAny (model X.prog X.w) X.A (getItem (.str z t) (.ref sl)) (EP X pins σ Q) X.xe s:=by
  rintro l u rfl rfl rfl rfl;obtain⟨o,h1,h2,h3⟩:=hs;refine wpAny_getItem_str_slice (l:=l) (u:=u) (st:=none) ⟨o,h1,h2,h3⟩ rfl ?_;exact post_val_or_str ⟨ZX (Txt.slice_le z _ _) hz,fun t' k=>⟨.str (Txt.slice z (l.map (·.1)) (u.map (·.1))),H,I.tok _,⟨_,rfl⟩,q⟩⟩
 cases pl with
 |none=>
  cases pu with
  |none=>exact go none none rfl rfl rfl rfl
  |int j tj=>exact go none (some (j,tj)) rfl rfl rfl rfl
 |int i ti=>
  cases pu with
  |none=>exact go (some (i,ti)) none rfl rfl rfl rfl
  |int j tj=>exact go (some (i,ti)) (some (j,tj)) rfl rfl rfl rfl
theorem vW:rV X (compareOp .LtE) (fun x y H Q=>∃i j,x= .str i∧y= .str j∧Q (.bl (!decide (j.cps.toList<i.cps.toList))) H):=by
 intro pins s σ H x y v u Q I rx ry h;obtain⟨i,j,rfl,rfl,q⟩:=h;obtain⟨t,rfl⟩:=rx;obtain⟨t',rfl⟩:=ry;exact P.le_str (bG I q rfl)
theorem Hx{bs:List Bool}{us:List Value}(r:Vals (bs.map V.bl) us)(i:Nat)(v:Value)(h:us[i]?=some v):v= .bool (bs.getD i false):=by
 induction bs generalizing us i with
 |nil=>cases r;simp at h
 |cons b r' ih=>
  cases r with
  |cons r0 rr=>
   cases i with
   |zero=>
    have h0:some _=some v:=h;cases h0;exact r0
   |succ i=>simpa using ih rr i (by simpa using h)
theorem all_range(bs:List Bool):(Z6 bs.length).all (fun i=>bs.getD i false)=bs.all id:=by
 rw[Bool.eq_iff_iff,List.all_eq_true,List.all_eq_true];constructor
 ·intro h b hb;obtain⟨i,hi,rfl⟩:=Ξ hb;have:=h i (by simpa using hi);simpa[hi]using this
 ·intro h i hi;have hi:i<bs.length:=by simpa using hi
  simpa[hi]using h bs[i] (Δ hi)
def Ou(K:Frag)(f:List Bool→Bool):List V→Hp→VK→Prop:=fun xs H Q=>∃a bs,xs=[.ref a]∧iD K H a (bs.map V.bl)∧Q (.bl (f bs)) H
theorem EK(hc:X.calm=true):iJ X (.builtin "all") (Ou X.K fun bs=>bs.all id):=by
 intro pins s σ H xs us Q I r h;obtain⟨a,bs,rfl,hq,q⟩:=h;cases r with
 |cons r rr=>
  cases rr;cases r;obtain⟨its,rv,p,hz⟩:=I.list hq;have hl:=rv.length;rw[List.length_map]at hl;refine call_all_walk (wpAny_pyIter_list p.isList ?_);have cB:a≠s.heap.objs.size:=by
   obtain⟨o,n,e,_⟩:=p;exact ZS (Z9 e)
  refine⟨s.heap.objs.size,_,_,_,_,_,fun i=>bs.getD i false,rfl,Walks.list (A:=X.A.in1) (show X.A.in1.handled=none from I.ok.hd hc) _ a cB its.toArray,⟨⟨_,Heap.get?_push_size _ rfl,rfl,rfl⟩,p.isList.at fun o e=>ZE e⟩,fun i v s1 Q1 E1 hv q1=>?_,fun h' tk hk=>?_⟩
  ·have hv:=Hx rv i v (by simpa using hv);subst hv;exact wpAny_truthy_bool q1
  ·rw[List.size_toArray,←hl,all_range];refine⟨.bl (bs.all id),H,I.kept fun b o e=>hk b o (fun z=>?_) (ZE e),rfl,q⟩;have z:b=s.heap.objs.size:=by simpa using z
   exact X7 (z▸Z9 e) (Nat.lt_irrefl _)
def Ju:V→Option Value
 | .ty n=>some (.type n)
 | .ref C=>some (.ref C)
 | _=>none
theorem CS{c:V}{cv u:Value}(h:Ju c=some cv)(r:RelV c u):u=cv:=by
 cases c<;>first
  |(cases h;done)
  |(cases h;exact r)
inductive Lg(K:Frag)(xs:List V)(H:Hp)(Q:VK):Prop
 |mk (x:_) (c:_) (t:_) (b:_) (cv:_) (_:xs=[x,c]) (_:Ju c=some cv) (_:qu K H x t) (_:kitOne K t cv=some b) (_:Q (.bl b) H):Lg K xs H Q
theorem EL:iJ X (.builtin "isinstance") (Lg X.K):=by
 intro pins s σ H xs us Q I r h;obtain⟨x,c,t,b,cv,rfl,rc,ty,hk,q⟩:=h;cases r with
 |cons r1 rr=>
  cases rr with
  |cons r2 rr=>
   cases rr;cases CS rc r2;exact CC I r1 ty hk fun tk=>⟨.bl b,H,I.tok _,rfl,q⟩
end
section
variable{P:Program}{w:World}{K:Frag}{mg:Str→Option Value}{base:Heap}
abbrev Qw(P:Program)(w:World)(K:Frag)(mg:Str→Option Value)(base:Heap)(cm:Bool)(N:List Str)(qual:Str)(scope:Scope)(f:Addr)(cd:Value)(A:Around)(outer:List Env)(s:Shared)(H:Hp)(E:XK):Cx:=
 Ag (cY P w) cm P w K mg base N qual scope f cd A outer s H E
theorem jU.gK{cm:Bool}{x qual:Str}{st:Stmt}{f:Addr}{fd:FuncData}{N ps:List Str}{k:Nat}{sp:Sp}(F:jU K x qual st f fd)(S:aL N ps (au st))(len:∀vs H Q E,sp vs H Q E→vs.length=ps.length)
  (yH:∀(f7:Value)(A:Around)(outer:List Env)(s:Shared)(H:Hp)(vs:List V)(Q:VK)(E:XK),eX cm k (A.deeper (Λ qual (au st) f f7))→sp vs H Q E→
   Qq (Qw P w K mg base cm N qual (au st) f f7 A outer s H E) (fun _=>E)→
   ∃t,Cu (Qw P w K mg base cm N qual (au st) f f7 A outer s H E) (eM st) t∧t {nx:=fun _ H'=>Q .cL H',rt:=Q} (start N vs) H):a9 P w K mg base (cY P w) cm (k+1) f fd ps sp:=by
 obtain⟨oc,od,kV,doc,pm,an,f7,ct,Bw,rfl,lk,Cv⟩:=F.ex;exact Jk lk Cv S len fun A outer s H vs Q E hr GJ=>yH f7 A outer s H vs Q E hr GJ BC
end
def bN(P:Program)(w:World)(K:Frag)(mg:Str→Option Value)(base:Heap)(cm:Bool)(k:Nat)(x:Str)(ps:List Str)(sp:Sp):Prop:=
 ∃f fd,a9 P w K mg base (cY P w) cm k f fd ps sp∧mg x=some (.ref f)∧keepIn K (.ref f)=true∧Binds K fd ps []
theorem EM{P:Program}{w:World}{K:Frag}{mg:Str→Option Value}{base:Heap}{cm:Bool}{k:Nat}{x y:Str}{ps:List Str}{sp:Sp}{st:Stmt}{f:Addr}{fd:FuncData}(F:jU K x y st f fd)(hm:mg x=some (.ref f))(b:Binds K fd ps [])
  (ok:a9 P w K mg base (cY P w) cm k f fd ps sp):bN P w K mg base cm k x ps sp:=⟨f,fd,ok,hm,F.kp,b⟩
section
variable{X:Cx}{cm:Bool}{k:Nat}{x:Str}{ps:List Str}{sp:Sp}{E:St→XK}{e:Expr}{es:List Expr}{t:TA}{p pos:Pos}
theorem aP(D:bN X.prog X.w X.K X.mg X.base cm k x ps sp)(hr:eX cm k X.A)(hx:Passes (cY X.prog X.w) X E)(ha:PA X (e::es) t)(hg:Gl X x:=by rfl)(wI:(x==("__debug__":Str))=false:=by decide)
  (he:starEach (e::es) X.env=(false,eval e X.env)::starEach es X.env:=by rfl) (qv:(Μ pos).any (·.1)=false:=by rfl):PE X (.Call (.Name x p) (e::es) [] pos) (Jj sp [] E t):=by
 obtain⟨f,fd,ok,hm,hk,hb⟩:=D;exact Hd ok hr hg hm hk hb .nil hx ha wI he qv
theorem fL{v:V}(h:∃u,X.mg x=some u∧RelV v u)(hg:Gl X x:=by rfl)(hd:(x==("__debug__":Str))=false:=by decide):PE X (.Name x pos) (tC v):=by
 obtain⟨u,h1,h2⟩:=h;exact Bm hg h1 h2 hd
end
theorem my{σ:St}{H:Hp}{A B:Hp→Prop}(h:A H):Le σ H (fun b H4=>if b=true then A H4 else B H4):=by
 show if true=true then A H else B H
 exact jV h
theorem nG{i:Nat}{x:V}{σ:St}{H:Hp}{A B:St→Hp→Prop}(h:A (σ.set i (some x)) H):Bn i x σ H (fun fF H3=>Le fF H3 (fun b H4=>if b=true then A fF H4 else B fF H4)):=by
 show if true=true then A (σ.set i (some x)) H else B (σ.set i (some x)) H
 exact jV h
theorem aD{n:Nat}(h:n≤100000):n≤sizeLine:=Nat.le_trans h ZV
theorem aZ{n:Nat}(h:n≤100000):n<sizeLine:=Nat.lt_of_le_of_lt h ZV
def Sx(t u:TS):TS:=fun D σ H=>∃Pm:St→Hp→Prop,t {D with nx:=Pm} σ H∧∀bj H',Pm bj H'→u D bj H'
theorem aF{X:Cx}{st:Stmt}{rest:List Stmt}{t u:TS}(h1:PS X st t)(h2:Cu X rest u):Cu X (st::rest) (Sx t u):=by
 intro pins s σ H D I h;obtain⟨Pm,ht,hu⟩:=h;refine wpAny_execs_cons (cG (h1 pins s σ H {D with nx:=Pm} I ht) fun f s1 q=>?_);cases f with
 |next=>obtain⟨bj,H',I',p⟩:=q;exact h2 pins s1 bj H' D I' (hu bj H' p)
 |brk=>exact q
 |cont=>exact q
 |ret v=>exact q
theorem av.upd{H:Hp}{a:Addr}{o:HO}(h:H a=none):av H (upd H a o):=fun b u e=>by rw[ak (aE e h)];exact e
theorem av.dU{H H':Hp}{a:Addr}{o:HO}(s:av H H')(h:H a=none):av H (L2.upd H' a o):=fun b u e=>by rw[ak (aE e h)];exact s b u e
end L2
namespace QF
open PySem L2
theorem qk{n:Nat}{P:List Value→Prop}(h:∀a us,us.length=n→P (a::us)):∀us:List Value,us.length=n+1→P us:=fun us e=>by
 cases us with
 |nil=>cases e
 |cons a r=>exact h a r (Nat.succ.inj e)
theorem Lh{P:List Value→Prop}(h:P []):∀us:List Value,us.length=0→P us:=fun us e=>by
 cases us with
 |nil=>exact h
 |cons a r=>cases e
theorem Xu{P:List Value→Prop}(h:∀a,P [a]):∀us:List Value,us.length=1→P us:=qk fun a=>Lh (h a)
theorem Xv{P:List Value→Prop}(h:∀a b,P [a,b]):∀us:List Value,us.length=2→P us:=qk fun a=>qk fun b=>Lh (h a b)
theorem Xw{P:List Value→Prop}(h:∀a b c,P [a,b,c]):∀us:List Value,us.length=3→P us:=qk fun a=>qk fun b=>qk fun c=>Lh (h a b c)
theorem Xx{P:List Value→Prop}(h:∀a b c d,P [a,b,c,d]):∀us:List Value,us.length=4→P us:=qk fun a=>qk fun b=>qk fun c=>qk fun d=>Lh (h a b c d)
theorem Xy{P:List Value→Prop}(h:∀a b c d e,P [a,b,c,d,e]):∀us:List Value,us.length=5→P us:=qk fun a=>qk fun b=>qk fun c=>qk fun d=>qk fun e=>Lh (h a b c d e)
theorem Xz{P:List Value→Prop}(h:∀a b c d e f,P [a,b,c,d,e,f]):∀us:List Value,us.length=6→P us:=qk fun a=>qk fun b=>qk fun c=>qk fun d=>qk fun e=>qk fun f=>Lh (h a b c d e f)
theorem XA{P:List Value→Prop}(h:∀a b c d e f g,P [a,b,c,d,e,f,g]):∀us:List Value,us.length=7→P us:=qk fun a=>qk fun b=>qk fun c=>qk fun d=>qk fun e=>qk fun f=>qk fun g=>Lh (h a b c d e f g)
theorem Sy(us:List Value)(e:us.length=7):∃a b c d e f g,us=[a,b,c,d,e,f,g]:=XA (P:=fun us=>∃a b c d e f g,us=[a,b,c,d,e,f,g]) (fun a b c d e f g=>⟨a,b,c,d,e,f,g,rfl⟩) us e
end QF
namespace L2
open PySem PySem.Spec PyProof.Rows PySem.W PySem.Calls
def notStar:Expr→Bool
 | .Starred _ _=>false
 | _=>true
theorem tF{e:Expr}{es:List Expr}{env:Env}(h:notStar e=true):starEach (e::es) env=(false,eval e env)::starEach es env:=by
 cases e<;>first|rfl|cases h
theorem aj{X:Cx}{e:Expr}{es:List Expr}{te:TE}{t:TA}(ha:PE X e te)(hr:PA X es t)(hn:notStar e=true:=by rfl):PA X (e::es) (Ji te t):=Hb ha hr (tF hn)
structure iq(K:Frag)(x qual:Str)(st:Stmt)(f:Addr)(fd:FuncData):Prop where
 ex:∃(oc:Value)(od:Option Addr)(dV kV doc pm:Value)(an:Option Addr)(f7 ct:Value)(Bw:Array (Option Value)),
  fd=fnOf x qual (fK st) (eM st) (au st) dV kV doc pm an f7 ct∧K.lookup f=some ⟨oc,od, .func fd,Bw⟩∧codeIn K f7 qual=true
 kp:keepIn K (.ref f)=true
theorem BE{K:Frag}{x qual:Str}{st:Stmt}{f:Addr}{oc:Value}{od an:Option Addr}{Bw:Array (Option Value)}{dV kV doc pm f7 ct:Value}(l:K.lookup f=some ⟨oc,od, .func (fnOf x qual (fK st) (eM st) (au st) dV kV doc pm an f7 ct),Bw⟩)
  (c:codeIn K f7 qual=true) (k:keepIn K (.ref f)=true):iq K x qual st f (fnOf x qual (fK st) (eM st) (au st) dV kV doc pm an f7 ct):=⟨⟨oc,od,dV,kV,doc,pm,an,f7,ct,Bw,rfl,l,c⟩,k⟩
section
variable{P:Program}{w:World}{K:Frag}{mg:Str→Option Value}{base:Heap}
theorem iq.gK{cm:Bool}{x qual:Str}{st:Stmt}{f:Addr}{fd:FuncData}{N ps:List Str}{k:Nat}{sp:Sp}(F:iq K x qual st f fd)(S:aL N ps (au st))(len:∀vs H Q E,sp vs H Q E→vs.length=ps.length)
  (yH:∀(f7:Value)(A:Around)(outer:List Env)(s:Shared)(H:Hp)(vs:List V)(Q:VK)(E:XK),eX cm k (A.deeper (Λ qual (au st) f f7))→sp vs H Q E→
   Qq (Qw P w K mg base cm N qual (au st) f f7 A outer s H E) (fun _=>E)→
   ∃t,Cu (Qw P w K mg base cm N qual (au st) f f7 A outer s H E) (eM st) t∧t {nx:=fun _ H'=>Q .cL H',rt:=Q} (start N vs) H):a9 P w K mg base (cY P w) cm (k+1) f fd ps sp:=by
 obtain⟨oc,od,dV,kV,doc,pm,an,f7,ct,Bw,rfl,lk,Cv⟩:=F.ex;exact Jk lk Cv S len fun A outer s H vs Q E hr GJ=>yH f7 A outer s H vs Q E hr GJ BC
end
def dW(P:Program)(w:World)(K:Frag)(mg:Str→Option Value)(base:Heap)(cm:Bool)(k:Nat)(C:Addr)(m:Str)(ps:List Str)(sp:Sp):Prop:=
 ∃f fd,a9 P w K mg base (cY P w) cm k f fd ps sp∧Meth K C m f∧Binds K fd ps []∧wH K C
def m3(P:Program)(w:World)(K:Frag)(mg:Str→Option Value)(base:Heap)(cm:Bool)(k:Nat)(x:Str)(C:Addr)(ps:List Str)(mq:List V)(sp:Sp):Prop:=
 ∃f fd ds,a9 P w K mg base (cY P w) cm k f fd ps sp∧Mk K C f∧mg x=some (.ref C)∧Binds K fd ps ds∧Vals mq ds
theorem yQ{P:Program}{w:World}{K:Frag}{mg:Str→Option Value}{base:Heap}{cm:Bool}{k:Nat}{x:Str}{C f:Addr}{fd:FuncData}{ps:List Str}{mq:List V}{ds:List Value}{sp:Sp}(h1:a9 P w K mg base (cY P w) cm k f fd ps sp)(h2:Mk K C f)(h3:mg x=some (.ref C))(h4:Binds K fd ps ds)(h5:Vals mq ds):m3 P w K mg base cm k x C ps mq sp:=⟨f,fd,ds,h1,h2,h3,h4,h5⟩
theorem CU{P:Program}{w:World}{K:Frag}{mg:Str→Option Value}{base:Heap}{cm:Bool}{k:Nat}{m:Str}{C f:Addr}{fd:FuncData}{ps:List Str}{sp:Sp}(h1:a9 P w K mg base (cY P w) cm k f fd ps sp)(h2:Meth K C m f)(h3:Binds K fd ps [])(h4:wH K C):dW P w K mg base cm k C m ps sp:=⟨f,fd,h1,h2,h3,h4⟩
section
variable{X:Cx}{cm:Bool}{k:Nat}{x m:Str}{ps:List Str}{sp:Sp}{E:St→XK}{e o:Expr}{es:List Expr}{t:TA}{to:TE}{p pos apos:Pos}{C:Addr}{mq:List V}
theorem oT(D:m3 X.prog X.w X.K X.mg X.base cm k x C ps mq sp)(hr:eX cm (k+1) X.A)(hx:Passes (cY X.prog X.w) X E)(ha:PA X (e::es) t)(hg:Gl X x:=by rfl)(wI:(x==("__debug__":Str))=false:=by decide)
  (he:starEach (e::es) X.env=(false,eval e X.env)::starEach es X.env:=by rfl) (qv:(Μ pos).any (·.1)=false:=by rfl):PE X (.Call (.Name x p) (e::es) [] pos) (Bv C sp mq E t):=by
 obtain⟨f,fd,ds,ok,M,hm,hb,hd⟩:=D;exact Hf M ok hr hg hm hb hd hx ha wI he qv
theorem bO{pl:Sem Bool}(ho:PE X o to)(D:dW X.prog X.w X.K X.mg X.base cm k C m ps sp)(hr:eX cm k X.A)(hx:Passes (cY X.prog X.w) X E)(ha:PA X (e::es) t)
  (vG:starEach (e::es) X.env=(false,eval e X.env)::starEach es X.env:=by rfl) (qv:(Μ pos).any (·.1)=false:=by rfl)
  (ht:eval (.Call (.Attribute o m apos) (e::es) [] pos) X.env=(do
   let ov←eval o X.env
   standAt apos.atName
   let (f,first)←holding [ov] (getMethod ov m pl)
   callWith pos f first (backTo pos (starEach (e::es) X.env)) (backToKw pos (keywordEach [] X.env))):=by rfl):PE X (.Call (.Attribute o m apos) (e::es) [] pos) (Bu C m sp [] E to t):=by
 obtain⟨f,fd,ok,hm,hb,c⟩:=D;exact He ho c hm ok hr hb .nil hx ha vG qv ht
theorem vX{pl:Sem Bool}(ho:PE X o to)(D:dW X.prog X.w X.K X.mg X.base cm k C m ps sp)(hr:eX cm k X.A)(hx:Passes (cY X.prog X.w) X E)
  (ht:eval (.Call (.Attribute o m apos) [] [] pos) X.env=(do
   let ov←eval o X.env
   standAt apos.atName
   let (f,first)←holding [ov] (getMethod ov m pl)
   callWith pos f first (backTo pos (starEach [] X.env)) (backToKw pos (keywordEach [] X.env))):=by rfl):PE X (.Call (.Attribute o m apos) [] [] pos) (Bu C m sp [] E to Ek):=by
 obtain⟨f,fd,ok,hm,hb,c⟩:=D;exact Em ho c hm ok hr hb .nil hx ht
end
section
variable{X:Cx}
theorem a8(K:Frag){tg l:Expr}{tl:TE}(hl:PE X l tl)(h:X.K=K:=by rfl):PI X tg l (Jf K tl):=h▸G7 hl
theorem aC(K:Frag){e:Expr}{f:Str}{pos:Pos}{ta:TE}(he:PE X e ta)(hb:attributeBase e f X.env (eval e X.env)=eval e X.env:=by rfl)(h:X.K=K:=by rfl):PE X (.Attribute e f pos) (NY K ta f):=h▸KN he hb
theorem cf(K:Frag){o value:Expr}{f:Str}{pos pos':Pos}{ta tv:TE}(ha:PE X o ta)(hv:PE X value tv)(hs:swapsWith value (some (.Attribute o f pos')) pos.line X.env=pure false:=by rfl)(h:X.K=K:=by rfl):PS X (.Assign [.Attribute o f pos'] value pos) (NZ K ta tv f):=h▸KP ha hv hs
theorem aq(K:Frag)(h:X.K=K:=by rfl):MO X (K1 K):=h▸Hn
theorem bI(K:Frag)(h:X.K=K:=by rfl):MO X (K2 K):=h▸K3
theorem EN(K:Frag)(h:X.K=K:=by rfl):Qm X (K5 K):=h▸Ho
inductive Jv(K:Frag)(xs:List V)(H:Hp)(Q:VK):Prop
 |mk (p:_) (ys:_) (_:xs=[.ref p]) (_:(iD K H p ys∨Ea K H p ys)) (_:Q (.int ys.length) H):Jv K xs H Q
theorem aK(K:Frag)(h:X.K=K:=by rfl):iJ X (.builtin "len") (Jv K):=by
 subst h;intro pins s σ H xs us Q I r hq;obtain⟨p,ys,e,d,q⟩:=hq;exact wR pins s σ H xs us Q I r ⟨p,ys,e,d,q⟩
inductive BF(K:Frag)(xs:List V)(H:Hp)(Q:VK):Prop
 |mk (p:_) (ys:_) (_:xs=[.ref p]) (_:(iD K H p ys∨Ea K H p ys)) (_:∀l,H l=none→Q (.ref l) (upd H l (.lst ys))):BF K xs H Q
theorem eE(K:Frag)(h:X.K=K:=by rfl):iJ X (.type "list") (BF K):=by
 subst h;intro pins s σ H xs us Q I r hq;obtain⟨p,ys,e,d,q⟩:=hq;exact wU pins s σ H xs us Q I r ⟨p,ys,e,d,q⟩
theorem CV(K:Frag)(hc:X.calm=true)(h:X.K=K:=by rfl):iJ X (.builtin "all") (Ou K fun bs=>bs.all id):=h▸EK hc
theorem gS(K:Frag)(h:X.K=K:=by rfl):iJ X (.builtin "isinstance") (Lg K):=h▸EL
theorem eO(K:Frag){es:List Expr}{k:Nat}{t:Je}{n:Nat}{pos:Pos}(hc:X.calm=true)(h:NO X es t)
  (hn:(assignEach es X.env).length=n:=by rfl) (vG:(assignEach es X.env).findIdx? (·.1)=none:=by rfl) (hK:X.K=K:=by rfl):PG X (.Tuple es k pos) (Kv K n t):=hK▸Kx hc h hn vG
theorem e6(K:Frag){T:String}{name:Str}{id:String}{r:V→List V→Hp→VK→Prop}{o e:Expr}{es:List Expr}{apos eG:Pos}{to:TE}{t:TA}(pa:PlainAttrs T)(slot:Slot T name id)(DR:typeOf (.builtin id)=pure (.type "method_descriptor"))(hm:Qn X id r)(ho:PE X o to)(ha:PA X (e::es) t)
  (oN:attributeBase o name X.env (eval o X.env)=eval o X.env:=by rfl)
  (EA:((backTo eG (starEach (e::es) X.env)).all (fun x=>!x.1)&&(backToKw eG (keywordEach [] X.env)).all (fun x=>x.1.isSome)
   &&decide ((e::es).length+([]:List Keyword).length+(if ([]:List Keyword).isEmpty then 0 else 1)<30))=true:=by rfl)
  (oO:(apos.endLine==eG.line)=true:=by rfl) (hs:starEach (e::es) X.env=(false,eval e X.env)::starEach es X.env:=by rfl) (Ai:(Μ eG).any (·.1)=false:=by rfl) (hK:X.K=K:=by rfl):
  PE X (.Call (.Attribute o name apos) (e::es) [] eG) (U2 K T r to t):=hK▸N_ pa slot DR hm ho ha oN EA oO hs Ai
end
section
variable{X:Cx}
end
end L2
namespace QF
open PySem L2
structure TB(mg:Str→Option Value):Prop where
 cZ:mg "len"=none
 fM:mg "range"=none
 dX:mg "isinstance"=none
 BG:mg "int"=none
 Li:mg "bool"=none
 abP:mg "str"=none
 jW:mg "list"=none
 Hy:mg "tuple"=none
 abA:mg "dict"=none
 Ov:mg "all"=none
 aaR:mg "any"=none
 EO:mg "min"=none
 Jw:mg "max"=none
 jz:mg "enumerate"=none
 aam:mg "ValueError"=none
def Ej(mg:Str→Option Value)(x:Str)(v:V):Prop:=∃u,mg x=some u∧RelV v u
def cell(ns:List Int)(k:Int):Int:=ns.getD k.toNat 0
theorem HA{ns:List Int}{k:Int}(h0:0≤k)(h:k<(ns.length:Int)):sM (ns.map V.int) k=some (.int (cell ns k)):=by
 obtain⟨j,rfl⟩:=Int.eq_ofNat_of_zero_le h0;have hj:j<ns.length:=by lia
 refine ar ?_;simp[cell,hj]
theorem cell_out{ns:List Int}{k:Int}(h0:0≤k)(h:¬k<(ns.length:Int)):cell ns k=0:=by
 have hj:ns.length≤k.toNat:=by lia
 simp[cell,hj]
def low(c:Nat):Bool:=decide (97≤c)&&decide (c≤122)
def rX(z:Str):Bool:=decide (1≤z.length)&&decide (z.length≤12)&&z.cps.toList.all low
theorem Va(a b:Nat):(([a]:List Nat)<[b])↔a<b:=by
 constructor
 ·intro h;cases h with
  |rel h=>exact h
  |cons h=>cases h
 ·intro h;exact .rel h
theorem SA(c:Nat):(!decide (([c]:List Nat)<(Str.ofString "a").cps.toList))=decide (97≤c):=by
 have e:(Str.ofString "a").cps.toList=[97]:=by decide+kernel
 rw[e,Bool.eq_iff_iff];simp only[Bool.not_eq_true',decide_eq_false_iff_not,decide_eq_true_eq,Va]
 lia
theorem SD(c:Nat):(!decide ((Str.ofString "z").cps.toList<([c]:List Nat)))=decide (c≤122):=by
 have e:(Str.ofString "z").cps.toList=[122]:=by decide+kernel
 rw[e,Bool.eq_iff_iff];simp only[Bool.not_eq_true',decide_eq_false_iff_not,decide_eq_true_eq,Va]
 lia
theorem len_app(x y:Str):(x++y).length=x.length+y.length:=by
 show(x.cps++y.cps).size=_;rw[Array.size_append];rfl
inductive ER(K:W.Frag)(vs:List V)(H:Hp)(Q:VK)(u3:XK):Prop
 |mk (a:_) (ns:_) (k:_) (_:vs=[.ref a, .int k]) (_:iD K H a (ns.map V.int)) (_:0≤k) (_:Q (.int (cell ns k)) H):ER K vs H Q u3
inductive tG(vs:List V)(H:Hp)(Q:VK)(u3:XK):Prop
 |mk (i:_) (_:vs=[.int i]) (_:Q (.bl true) H):tG vs H Q u3
inductive Ap(vs:List V)(H:Hp)(Q:VK)(u3:XK):Prop
 |mk (c:Nat) (_:vs=[.str ⟨#[c]⟩]) (_:Q (.bl (low c)) H):Ap vs H Q u3
inductive wZ(vs:List V)(H:Hp)(Q:VK)(u3:XK):Prop
 |mk (z:Str) (_:vs=[.str z]) (_:z.length≤100000) (_:∀H',av H H'→Q (.bl (rX z)) H'):wZ vs H Q u3
inductive nH(vs:List V)(H:Hp)(Q:VK)(u3:XK):Prop
 |mk (l n h:Int) (_:vs=[.int l, .int n, .int h]) (_:Q (.bl (decide (l≤n)&&decide (n≤h))) H):nH vs H Q u3
def BH(K:W.Frag):Sp:=fun vs H Q _=>∃(a:Addr)(ns:List Int),vs=[.ref a]∧iD K H a (ns.map V.int)∧ns.length≤63∧∀H',Q (.bl true) H'
structure Er(K:W.Frag)(mg:Str→Option Value)(x:Str)(C:Addr):Prop where
 m:mg x=some (.ref C)
 e:Of K C
def inR(l n h:Int):Bool:=decide (l≤n)&&decide (n≤h)
inductive qy(C:Addr)(vs:List V)(H:Hp)(Q:VK)(E:XK):Prop
 |mk (nm:Str) (n l h:Int) (_:vs=[.str nm, .int n, .int l, .int h]) (_:nm.length≤20) (_:(0≤l∧l≤1)) (_:(h=100∨h=999999)) (_:(if inR l n h=true then Q .cL H else E (.ref C) none H)):qy C vs H Q E
theorem oU{i:Int}(h:i=0∨i=1∨i=12∨i=40∨i=60∨i=100∨i=999999):i.natAbs.log2<1920∧(Str.ofString (toString i)).length≤6:=by
 rcases h with rfl|rfl|rfl|rfl|rfl|rfl|rfl<;>exact⟨by decide+kernel,by decide+kernel⟩
theorem mz:(Str.empty).length=0:=by decide+kernel
theorem ir{x:V}:[x].length≤sizeLine:=aD K4
def gT(x y:Str)(p:Int):Bool:=rX x&&rX y&&!(x==y)&&inR 0 p 999999
inductive w6(C:Addr)(vs:List V)(H:Hp)(Q:VK)(E:XK):Prop
 |mk (x y:Str) (p:Int) (_:vs=[.str x, .str y, .int p]) (_:x.length≤100000) (_:y.length≤100000) (_:(if gT x y p=true then ∀H',av H H'→Q .cL H' else ∀H',av H H'→E (.ref C) none H')):w6 C vs H Q E
abbrev Form:=Str×Str×Int
def ES(f:Form):List V:=[.str f.1, .str f.2.1, .int f.2.2]
def jX(f:Form):List Key:=[.inr f.1, .inr f.2.1]
def lO(f:Form):List Key×V:=(jX f, .int f.2.2)
def Aq(f:Form):Bool:=gT f.1 f.2.1 f.2.2
def cP(H:Hp)(xs:List V)(fs:List Form):Prop:=xs.length=fs.length∧∀(i:Nat)(f:Form),fs[i]?=some f→∃t,xs[i]?=some (V.ref t)∧H t=some (.tup (ES f))
def bp(fs:List Form):Bool:=decide (fs.length≤60)&&fs.all Aq&&decide ((fs.map jX).Nodup)
def Short(fs:List Form):Prop:=fs.length≤1000∧∀f∈fs,f.1.length≤100000∧f.2.1.length≤100000
theorem cP.same{H H':Hp}{xs:List V}{fs:List Form}(t:cP H xs fs)(s:av H H'):cP H' xs fs:=⟨t.1,fun i f e=>let ⟨b,h1,h2⟩:=t.2 i f e;⟨b,h1,s _ _ h2⟩⟩
theorem cP.nil{H:Hp}:cP H [] []:=⟨rfl,fun i f e=>by simp at e⟩
inductive qz(C:Addr)(vs:List V)(H:Hp)(Q:VK)(E:XK):Prop
 |mk (a:Addr) (xs:List V) (fs:List Form) (_:vs=[.ref a]) (_:H a=some (.lst xs)) (_:cP H xs fs) (_:Short fs) (_:(if bp fs=true then ∀H' d,av H H'→H d=none→H' d=some (.dT (fs.map lO))→Q (.ref d) H' else ∀H',av H H'→E (.ref C) none H')):qz C vs H Q E
theorem BI(fs:List Form):(fs.map lO).map (·.1)=fs.map jX:=by rw[List.map_map];rfl
theorem ET{fs:List Form}{i:Nat}{f:Form}(e:fs[i]?=some f)(h:Aq f=false):bp fs=false:=by
 have hm:f∈fs:=Y7 e;have:fs.all Aq=false:=by
  rw[Bool.eq_false_iff];intro z;rw[List.all_eq_true]at z;rw[z f hm]at h;cases h
 simp[bp,this]
theorem CW{fs:List Form}{i:Nat}{f:Form}(e:fs[i]?=some f)(h:jX f∈(fs.take i).map jX):bp fs=false:=by
 have:¬(fs.map jX).Nodup:=fun z=>by
  obtain⟨hi,e'⟩:=WB e;have e2:fs=fs.take i++f::fs.drop (i+1):=by
   rw[←e',List.getElem_cons_drop,List.take_append_drop]
  rw[e2,List.map_append,List.map_cons,List.nodup_append]at z;exact z.2.2 _ h _ (List.mem_cons_self) rfl
 simp[bp,this]
theorem CY{fs:List Form}{i:Nat}{f:Form}(e:fs[i]?=some f):(fs.take (i+1)).map lO=(fs.take i).map lO++[lO f]:=by
 rw[List.take_succ,e,List.map_append];rfl
theorem Ow{fs:List Form}{k:List Key}(h:bA (fs.map lO) k=none):k∉fs.map jX:=by
 have:=yP h;rwa[BI]at this
theorem Lj{fs:List Form}{k:List Key}{v:V}(h:bA (fs.map lO) k=some v):k∈fs.map jX:=by
 have:=BB h;rwa[BI]at this
structure EU(K:W.Frag)(C:Addr):Prop where
 cl:wH K C
 same:bW K C "same"
 out:bW K C "out"
 into:bW K C "into"
 least:bW K C "least"
 part:bW K C "part"
 near:bW K C "near"
 EV:bW K C "prices"
structure Nums where
 same:Int
 out:Int
 into:Int
 least:Int
 part:Int
def fD(n:Nums):Bool:=inR 1 n.same 999999&&inR 0 n.out 999999&&inR 0 n.into 999999&&inR 1 n.least 999999&&inR 1 n.part 100
def rY(n:Nums)(l d:Addr):List (Str×V):=[("same", .int n.same),("out", .int n.out),("into", .int n.into),("least", .int n.least),("part", .int n.part),("near", .ref l),("prices", .ref d)]
def m4(n:Nums):List (Str×V):=[("same", .int n.same),("out", .int n.out),("into", .int n.into),("least", .int n.least),("part", .int n.part)]
def SameBut(x:Addr)(H H':Hp):Prop:=∀b u,b≠x→H b=some u→H' b=some u
structure g9(H:Hp)(C x:Addr)(n:Nums)(fs:List Form)(dx l d:Addr)(xs:List V):Prop where
 ob:H x=some (.ins C dx (rY n l d))
 own:H dx=some (.own x)
 li:H l=some (.lst xs)
 tr:cP H xs fs
 di:H d=some (.dT (fs.map lO))
def Ox(H:Hp)(v:V)(xs:List V)(fs:List Form):Prop:=(v= .cL∧xs=[]∧fs=[])∨∃a,v= .ref a∧H a=some (.lst xs)∧cP H xs fs
inductive sO(C CT CN:Addr)(vs:List V)(H:Hp)(Q:VK)(E:XK):Prop
 |mk (x dx:Addr) (n:Nums) (nv:V) (xs:List V) (fs:List Form) (_:vs=[.ref x, .int n.same, .int n.out, .int n.into, .int n.least, .int n.part,nv]) (_:H x=some (.ins C dx [])) (_:H dx=some (.own x)) (_:Ox H nv xs fs) (_:Short fs) (_:(if fD n=true then(if bp fs=true then ∀H' l d,SameBut x H H'→g9 H' C x n fs dx l d xs→H l=none→H d=none→Q .cL H' else ∀H',SameBut x H H'→E (.ref CN) none H')else ∀H',SameBut x H H'→E (.ref CT) none H')):sO C CT CN vs H Q E
theorem SE(n:Nums):br "part" (.int n.part) (br "least" (.int n.least) (br "into" (.int n.into) (br "out" (.int n.out) (br "same" (.int n.same) []))))=m4 n:=by kernel_rfl
theorem SF(n:Nums)(l d:Addr):br "prices" (.ref d) (br "near" (.ref l) (m4 n))=rY n l d:=by kernel_rfl
theorem Oy(n:Nums)(l:Addr):(br "near" (.ref l) (m4 n)).lookup ("near":Str)=some (V.ref l):=by kernel_rfl
theorem SameBut.refl{x:Addr}{H:Hp}:SameBut x H H:=fun _ _ _ h=>h
theorem SameBut.upd{x:Addr}{H H':Hp}{o:HO}(s:SameBut x H H'):SameBut x H (upd H' x o):=fun b u n h=>by rw[ak n];exact s b u n h
theorem SameBut.same{x:Addr}{H H' H2:Hp}(s:SameBut x H H')(t:av H' H2):SameBut x H H2:=fun b u n h=>t b u (s b u n h)
theorem SameBut.laid{x a:Addr}{H H':Hp}{o:HO}(s:SameBut x H H')(h:H a=none):SameBut x H (L2.upd H' a o):=fun b u n e=>by rw[ak (aE e h)];exact s b u n e
theorem SameBut.free{x l:Addr}{H H':Hp}{o:HO}(s:SameBut x H H')(hx:H' x=some o)(h:H' l=none):H l=none:=by
 cases e:H l with
 |none=>rfl
 |some u=>
  have n:l≠x:=fun z=>by rw[z,hx]at h;cases h
  rw[s l u n e]at h;cases h
theorem cP.but{x:Addr}{H H':Hp}{xs:List V}{fs:List Form}{C dx:Addr}{gs:List (Str×V)}(t:cP H xs fs)(s:SameBut x H H')(hx:H x=some (.ins C dx gs)):cP H' xs fs:=
 ⟨t.1,fun i f e=>let ⟨b,h1,h2⟩:=t.2 i f e;⟨b,h1,s _ _ (fun z=>by rw[z,hx]at h2;cases h2) h2⟩⟩
def fl(j:Nat):List V:=[.bl (decide (0=j)), .bl (decide (1=j)), .bl (decide (2=j)), .bl (decide (3=j)), .bl (decide (4=j)), .bl (decide (5=j)), .bl (decide (6=j)), .bl (decide (7=j)), .bl (decide (8=j)), .bl (decide (9=j)), .bl (decide (10=j)), .bl (decide (11=j)), .bl (decide (12=j)), .bl (decide (13=j))]
def kinds:List Str:=["word","book","terms","near","way","name","year","taken","full","many","no book","no finding","left","search","another"]
def kindOf(j:Nat):Str:=kinds.getD j ""
theorem int_at(is:List Int){i:Int}(h0:0≤i)(h:i<(is.length:Int)):∃m,m∈is∧sM (is.map V.int) i=some (.int m):=by
 obtain⟨j,rfl⟩:=Int.eq_ofNat_of_zero_le h0;have hj:j<is.length:=by lia
 exact⟨is[j],Δ hj,ar (by simp[hj])⟩
theorem As(n:Nums)(l d:Addr):(rY n l d).lookup ("same":Str)=some (V.int n.same):=by kernel_rfl
theorem l_out(n:Nums)(l d:Addr):(rY n l d).lookup ("out":Str)=some (V.int n.out):=by kernel_rfl
theorem EW(n:Nums)(l d:Addr):(rY n l d).lookup ("into":Str)=some (V.int n.into):=by kernel_rfl
theorem BJ(n:Nums)(l d:Addr):(rY n l d).lookup ("least":Str)=some (V.int n.least):=by kernel_rfl
theorem Lk(n:Nums)(l d:Addr):(rY n l d).lookup ("part":Str)=some (V.int n.part):=by kernel_rfl
theorem Ll(n:Nums)(l d:Addr):(rY n l d).lookup ("near":Str)=some (V.ref l):=by kernel_rfl
theorem EX(n:Nums)(l d:Addr):(rY n l d).lookup ("prices":Str)=some (V.ref d):=by kernel_rfl
theorem w8(n:Nums)(l d:Addr):(rY n l d).lookup ("pair_worth":Str)=none:=by kernel_rfl
theorem EY(n:Nums)(l d:Addr):(rY n l d).lookup ("turned":Str)=none:=by kernel_rfl
end QF
namespace L2
open PySem PySem.Spec PyProof.Rows PySem.W PySem.Calls
section
variable{X:Cx}
inductive Oz(K:Frag)(x:V)(y:V)(H:Hp)(Q:VK):Prop
 |mk (p:_) (q:_) (xs:_) (_:x= .ref p) (_:y= .ref q) (_:iD K H p xs) (_:iD K H q []) (_:Q (.bl (!xs.isEmpty)) H):Oz K x y H Q
theorem tH(K:Frag)(hu:X.A.units<cLine)(hK:X.K=K:=by rfl):rV X (compareOp .NotEq) (Oz K):=by
 subst hK;intro pins s σ H x y v u Q I rx ry h;obtain⟨p,q,xs,rfl,rfl,hp,hq,k⟩:=h;cases rx;cases ry;obtain⟨its,r,pl,hz⟩:=I.list hp;obtain⟨dC,r2,HB,MQ⟩:=I.list hq;cases r2;obtain⟨⟨cls,dd,data,sl⟩,ho,hc,n,hd⟩:=id pl.isList;obtain⟨⟨EZ,rZ,data2,mZ⟩,sP,qj,n2,hd2⟩:=id HB.isList;simp only at hc hd qj hd2;subst hc hd qj hd2;by_cases e:its=[]
 ·subst e;cases r;refine richCompare_meets_room (op:= .NotEq) ⟨_,ho,rfl⟩ ⟨_,sP,rfl⟩ F.slot_list_ne F.entry_list_ne (F.args_list_ne_2 _ _) (SeqAt.list_neAt p q #[] #[] n n2 dd rZ sl mZ rfl (fun _=>true)) ⟨ho,sP,fun j h1 _=>absurd h1 K4,?_⟩ hu;exact⟨(fun x=>nomatch x), .bl false,H,I,rfl,k⟩
 ·have hx:xs≠[]:=fun z=>by subst z;cases r;exact e rfl
  have hsz:(its.toArray.size !=(#[]:Array Value).size)=true:=by simpa using e
  refine richCompare_meets_room (op:= .NotEq) ⟨_,ho,rfl⟩ ⟨_,sP,rfl⟩ F.slot_list_ne F.entry_list_ne (F.args_list_ne_2 _ _) (SeqAt.list_ne_lengthsAt p q its.toArray #[] n n2 dd rZ sl mZ hsz) ⟨ho,sP,?_⟩ hu;have:(!xs.isEmpty)=true:=by simpa using hx
  rw[this]at k;exact⟨(fun x=>nomatch x), .bl true,H,I,rfl,k⟩
end
end L2
namespace QF
open PySem L2
theorem MR{α:Type}{xs:List α}{i:Nat}{v:α}(h:xs[i]?=some v):sM xs (0+(i:Int))=some v:=by
 rw[Int.zero_add];exact ar h
def cI(fs:List Form)(x y:Str):Option Int:=(fs.find? fun f=>decide (f.1=x∧f.2.1=y)).map (·.2.2)
def cF(same:Int)(fs:List Form)(x y:Str):Option Int:=if x=y then some same else(cI fs x y).map (same-·)
def bC:Option Int→V
 |none=> .cL
 |some i=> .int i
theorem w9(f:Form)(x y:Str):jX f=[.inr x, .inr y]↔f.1=x∧f.2.1=y:=by simp[jX]
theorem vY(x y:Str):∀fs:List Form,bA (fs.map lO) [.inr x, .inr y]=(cI fs x y).map V.int
 |[]=>rfl
 |f::r=>by
  rw[List.map_cons];by_cases h:jX f=[.inr x, .inr y]
  ·have h':=(w9 f x y).mp h;rw[cD (show(lO f).1=_ from h)];simp[cI,List.find?_cons,h'.1,h'.2,lO]
  ·have h':¬(f.1=x∧f.2.1=y):=fun z=>h ((w9 f x y).mpr z)
   rw[cw (show ¬(lO f).1=_ from h),vY x y r];simp[cI,List.find?_cons,h']
inductive w_(C:Addr)(vs:List V)(H:Hp)(Q:VK)(u3:XK):Prop
 |mk (t:Addr) (x y:Str) (n:Nums) (fs:List Form) (dx l d:Addr) (xs:List V) (_:vs=[.ref t, .str x, .str y]) (_:g9 H C t n fs dx l d xs) (_:∀H',av H H'→Q (bC (cF n.same fs x y)) H'):w_ C vs H Q u3
abbrev OA:Str:=Str.ofString "abcdefghijklmnopqrstuvwxyz"
theorem HC:OA.length=26:=by decide+kernel
theorem Au(zs:List Str){i:Int}(h0:0≤i)(h:i<(zs.length:Int)):∃m,m∈zs∧sM (zs.map V.str) i=some (.str m):=by
 obtain⟨j,rfl⟩:=Int.eq_ofNat_of_zero_le h0;have hj:j<zs.length:=by lia
 exact⟨zs[j],Δ hj,ar (by simp[hj])⟩
theorem oV(x y:Str):(x++y).cps.toList=x.cps.toList++y.cps.toList:=by
 show(x.cps++y.cps).toList=_;simp
def cJ(H H':Hp):Prop:=∀t v,H t=some (.tup v)→H' t=some (.tup v)
theorem cJ.same{H H':Hp}(s:av H H'):cJ H H':=fun t v h=>s _ _ h
theorem cJ.lst{H:Hp}{l:Addr}{xs:List V}{o:HO}(h:H l=some (.lst xs)):cJ H (upd H l o):=fun t v e=>by
 rw[ak (ja e h (by intro z;cases z))];exact e
theorem cP.cb{H H':Hp}{xs:List V}{fs:List Form}(T:cP H xs fs)(k:cJ H H'):cP H' xs fs:=⟨T.1,fun i f e=>let ⟨b,h1,h2⟩:=T.2 i f e;⟨b,h1,k _ _ h2⟩⟩
theorem cP.snoc{H:Hp}{xs:List V}{fs:List Form}{t:Addr}{f:Form}(T:cP H xs fs)(ht:H t=some (.tup (ES f))):cP H (xs++[.ref t]) (fs++[f]):=by
 refine⟨by simp[T.1],fun i g e=>?_⟩;by_cases h:i<fs.length
 ·rw[ZK h]at e;obtain⟨b,h1,h2⟩:=T.2 i g e;exact⟨b,by rw[ZK (by rw[T.1];exact h)];exact h1,h2⟩
 ·have hi:i=fs.length:=by
   have:=(WB e).1;simp at this
   lia
  subst hi;have hg:f=g:=by simpa using e
  subst hg;exact⟨t,by rw[←T.1];simp,ht⟩
theorem HE{n j:Nat}(h:j<n):Ex n (j:Int)=some j:=by
 unfold Ex;rw[Hz Aj,Hz Aj];simp
theorem HF:OA.cps.toList=(Z6 26).map (97+·):=by decide+kernel
theorem E2{r:Int}:sM OA.cps.toList (r%26)=some (97+(r%26).toNat):=by
 have h0:0≤r%26:=by lia
 have h1:r%26<26:=by lia
 generalize r%26=m at h0 h1;obtain⟨j,rfl⟩:=Int.eq_ofNat_of_zero_le h0;refine ar ?_;have hj:j<26:=by lia
 rw[HF];simp[hj]
theorem BK(r:Int):low (97+(r%26).toNat)=true:=by
 have h1:(r%26).toNat≤25:=by lia
 simp[low]
 lia
def lows(z:Str):Prop:=z.cps.toList.all low=true
def kc(bT:Str)(cell other:Int)(k:Nat):Str:=
 let size:=1+cell/2%12
 if cell%2=1 then Txt.slice bT none (some (1+(size+k)%12))
 else Txt.slice bT none (some (other%size))++⟨#[97+((other/12+k)%26).toNat]⟩++Txt.slice bT (some (other%size+1)) (some size)
theorem xa{n d:Nat}{v:Int}(h0:0≤v)(h:v≤n):HT.kG n d (some v)=v.toNat:=by
 simp only[HT.kG];split<;>lia
theorem lP{z:Str}{v:Int}(h0:0≤v)(h:v≤z.length):(Txt.slice z none (some v)).cps.toList=z.cps.toList.take v.toNat:=by
 rw[vU,xa h0 h,HT.Eu];simp
theorem E3{z:Str}{u v:Int}(h0:0≤u)(h1:u≤v)(h:v≤z.length):(Txt.slice z (some u) (some v)).cps.toList=(z.cps.toList.drop u.toNat).take (v.toNat-u.toNat):=by
 rw[vU,xa h0 Aj,xa Aj h]
theorem len_list(z:Str):z.cps.toList.length=z.length:=by simp[Str.length]
theorem E4{z:Str}(h1:1≤z.length)(h2:z.length≤12)(h:lows z):rX z=true:=by
 have h:z.cps.toList.all low=true:=h;simp[rX,h1,h2,h]
theorem E5{bT:Str}(hl:bT.length=12)(hs:lows bT)(cell other:Int)(k:Nat):rX (kc bT cell other k)=true:=by
 have m6:=List.all_eq_true.mp hs;have MS:=len_list bT;have z0:1≤1+cell/2%12∧1+cell/2%12≤12:=by lia
 unfold kc;simp only;generalize 1+cell/2%12=size at z0;split
 ·have z1:1≤1+(size+(k:Int))%12∧1+(size+(k:Int))%12≤12:=by lia
  generalize 1+(size+(k:Int))%12=m at z1;have e:=lP (z:=bT) (v:=m) (by lia) (by lia);have el:(Txt.slice bT none (some m)).length=m.toNat:=by rw[←len_list,e,List.length_take,MS];lia
  refine E4 Aj (by lia) ?_;unfold lows;rw[e,List.all_eq_true];exact fun c hc=>m6 c (List.mem_of_mem_take hc)
 ·have z1:0≤other%size∧other%size<size:=⟨Int.emod_nonneg _ (by lia),Int.emod_lt_of_pos _ (by lia)⟩
  generalize other%size=ju at z1;have e1:=lP (z:=bT) (v:=ju) (by lia) (by lia);have e2:=E3 (z:=bT) (u:=ju+1) (v:=size) (by lia) (by lia) (by lia);have l1:(Txt.slice bT none (some ju)).length=ju.toNat:=by rw[←len_list,e1,List.length_take,MS];lia
  have l2:(Txt.slice bT (some (ju+1)) (some size)).length=size.toNat-(ju+1).toNat:=by rw[←len_list,e2,List.length_take,List.length_drop,MS];lia
  have el:(Txt.slice bT none (some ju)++(⟨#[97+((other/12+(k:Int))%26).toNat]⟩:Str)++Txt.slice bT (some (ju+1)) (some size)).length=size.toNat:=by
   rw[len_app,len_app,l1,l2];show ju.toNat+1+_=_
   lia
  refine E4 Aj (by lia) ?_;unfold lows;rw[oV,oV,e1,e2,List.all_append,List.all_append];have a1:(bT.cps.toList.take ju.toNat).all low=true:=List.all_eq_true.mpr fun c hc=>m6 c (List.mem_of_mem_take hc)
  have a2:((bT.cps.toList.drop (ju+1).toNat).take (size.toNat-(ju+1).toNat)).all low=true:=List.all_eq_true.mpr fun c hc=>m6 c (List.mem_of_mem_drop (List.mem_of_mem_take hc))
  have a3:=BK (other/12+(k:Int));rw[a1,a2];simp[a3]
theorem Lm{A B:List Nat}{c:Nat}:(A++[c]++B)[A.length]?=some c:=MD
theorem E6{bT:Str}(hl:bT.length=12)(cell other:Int){k k':Nat}(hk:k<12)(Av:k'<12)(e:kc bT cell other k=kc bT cell other k'):k=k':=by
 have MS:=len_list bT;have z0:1≤1+cell/2%12∧1+cell/2%12≤12:=by lia
 unfold kc at e;simp only at e;generalize 1+cell/2%12=size at z0 e;split at e
 ·have e:=congrArg (fun z:Str=>z.cps.toList.length) e;rw[lP Aj (by lia),lP Aj (by lia),List.length_take,List.length_take,MS,hl]at e
  lia
 ·have z1:0≤other%size∧other%size<size:=⟨Int.emod_nonneg _ (by lia),Int.emod_lt_of_pos _ (by lia)⟩
  generalize other%size=ju at z1 e;have e1:=lP (z:=bT) (v:=ju) (by lia) (by lia);have l1:(bT.cps.toList.take ju.toNat).length=ju.toNat:=by rw[List.length_take,MS];lia
  have at_:∀c:Nat,(Txt.slice bT none (some ju)++(⟨#[c]⟩:Str)++Txt.slice bT (some (ju+1)) (some size)).cps.toList[ju.toNat]?=some c:=fun c=>by
   rw[oV,oV,e1];have:=Lm (A:=bT.cps.toList.take ju.toNat) (B:=(Txt.slice bT (some (ju+1)) (some size)).cps.toList) (c:=c);rw[l1]at this;exact this
  have e:=congrArg (fun z:Str=>z.cps.toList[ju.toNat]?) e;have e2:=(at_ _).symm.trans (e.trans (at_ _));have e3:=YA e2
  lia
theorem Aw{bT:Str}(hl:bT.length=12)(cell other:Int){n:Nat}(hn:n≤12):((Z6 n).map (kc bT cell other)).Nodup:=by
 refine List.pairwise_map.mpr ?_;refine List.Pairwise.imp_of_mem (R:=fun a b=>a≠b) (fun{a b} ha hb h e=>h ?_) List.nodup_range;exact E6 hl cell other (by have:=List.mem_range.mp ha;lia) (by have:=List.mem_range.mp hb;lia) e
inductive xb(vs:List V)(H:Hp)(Q:VK)(u3:XK):Prop
 |mk (cell other many:Int) (_:vs=[.int cell, .int other, .int many]) (_:0≤many) (_:many≤12) (_:∀H' b (zs:List Str),av H H'→H b=none→H' b=some (.lst (zs.map V.str))→zs.length=many.toNat→(∀z∈zs,rX z=true)→zs.Nodup→Q (.ref b) H'):xb vs H Q u3
structure c7(zs:List Str)(i j:Nat)(fs:List Form):Prop where
 ok:∀f∈fs,Aq f=true
 nd:(fs.map jX).Nodup
 old:∀f∈fs,∃i' j',(i'<i∨(i'=i∧j'<j))∧zs[i']?=some f.1∧zs[j']?=some f.2.1
 uL:fs.length+(if i<j then 1 else 0)≤i*(zs.length-1)+j
theorem c7.nil{zs:List Str}:c7 zs 0 0 []:=⟨MD,MD,MD,MD⟩
theorem c7.skip{zs:List Str}{i j:Nat}{fs:List Form}(p:c7 zs i j fs):c7 zs i (j+1) fs:=by
 refine⟨p.ok,p.nd,fun f hf=>?_,?_⟩
 ·obtain⟨i',j',h,r⟩:=p.old f hf;exact⟨i',j',by lia,r⟩
 ·have:=p.uL;split<;>split at this<;>lia
theorem yR{zs:List Str}(hn:zs.Nodup){i j:Nat}{x:Str}(h1:zs[i]?=some x)(h2:zs[j]?=some x):i=j:=by
 obtain⟨a1,b1⟩:=WB h1;obtain⟨a2,b2⟩:=WB h2;exact(List.getElem_inj hn).mp (b1.trans b2.symm)
theorem c7.add{zs:List Str}{i j:Nat}{fs:List Form}(p:c7 zs i j fs)(hn:zs.Nodup)(hw:∀z∈zs,rX z=true){x y:Str}(hx:zs[i]?=some x)(hy:zs[j]?=some y)(cB:¬x=y){pr:Int}(h0:0≤pr)(h1:pr≤999999):
  c7 zs i (j+1) (fs++[(x,y,pr)]):=by
 have m7:i≠j:=fun e=>cB (by subst e;rw[hx]at hy;exact YA hy)
 refine⟨fun f hf=>?_,?_,fun f hf=>?_,?_⟩
 ·rcases List.mem_append.mp hf with h|h
  ·exact p.ok f h
  ·have h:f=(x,y,pr):=by simpa using h
   rw[h];have a1:=hw x (Y7 hx);have a2:=hw y (Y7 hy);simp[Aq,gT,a1,a2,cB,inR,h0,h1]
 ·rw[List.map_append];refine List.nodup_append.mpr ⟨p.nd,MD,fun a ha b hb e=>?_⟩;have hb:b=jX (x,y,pr):=by simpa using hb
  rw[e,hb]at ha;obtain⟨f,hf,ef⟩:=List.mem_map.mp ha;obtain⟨e1,e2⟩:=(w9 f x y).mp ef;obtain⟨i',j',h,r1,r2⟩:=p.old f hf;rw[e1]at r1;rw[e2]at r2;have:=yR hn r1 hx;have:=yR hn r2 hy
  lia
 ·rcases List.mem_append.mp hf with h|h
  ·obtain⟨i',j',h,r⟩:=p.old f h;exact⟨i',j',by lia,r⟩
  ·have h:f=(x,y,pr):=by simpa using h
   rw[h];exact⟨i,j,by lia,hx,hy⟩
 ·have:=p.uL;rw[List.length_append];show fs.length+1+_≤_;split<;>split at this<;>lia
theorem c7.row{zs:List Str}{i:Nat}{fs:List Form}(p:c7 zs i zs.length fs)(hi:i<zs.length):c7 zs (i+1) 0 fs:=by
 refine⟨p.ok,p.nd,fun f hf=>?_,?_⟩
 ·obtain⟨i',j',h,r⟩:=p.old f hf;exact⟨i',j',by lia,r⟩
 ·have h:=p.uL;rw[Hz hi]at h;rw[Dy Aj,Nat.succ_mul]
  lia
theorem c7.good{zs:List Str}{fs:List Form}(p:c7 zs zs.length 0 fs)(h:zs.length≤8):bp fs=true:=by
 have h1:=p.uL;have h2:zs.length*(zs.length-1)≤8*7:=Nat.mul_le_mul h Aj;rw[Dy Aj]at h1;have h3:fs.length≤60:=by lia
 have h4:fs.all Aq=true:=List.all_eq_true.mpr p.ok;simp[bp,h3,h4,p.nd]
theorem kI{fs:List Form}(h:bp fs=true):Short fs:=by
 simp only[bp,Bool.and_eq_true,decide_eq_true_eq,List.all_eq_true]at h;refine⟨by lia,fun f hf=>?_⟩;have h1:=h.1.2 f hf;simp only[Aq,gT,rX,Bool.and_eq_true,decide_eq_true_eq]at h1
 lia
inductive xc(vs:List V)(H:Hp)(Q:VK)(u3:XK):Prop
 |mk (cell same:Int) (b:Addr) (zs:List Str) (_:vs=[.int cell, .ref b, .int same]) (_:H b=some (.lst (zs.map V.str))) (_:zs.length≤8) (_:(∀z∈zs,rX z=true)) (_:zs.Nodup) (_:1≤same) (_:same≤999999) (_:∀H' l xs fs,av H H'→H l=none→H' l=some (.lst xs)→cP H' xs fs→bp fs=true→Q (.ref l) H'):xc vs H Q u3
inductive tI(vs:List V)(H:Hp)(Q:VK)(u3:XK):Prop
 |mk (x y:Str) (same:Int) (l:Addr) (xs:List V) (fs:List Form) (_:vs=[.str x, .str y, .int same, .ref l]) (_:H l=some (.lst xs)) (_:cP H xs fs) (_:Q (bC (cF same fs x y)) H):tI vs H Q u3
theorem mB{zs:List Str}{i:Nat}{v:V}(h:(zs.map V.str)[i]?=some v):∃x,zs[i]?=some x∧v= .str x:=by
 rw[List.getElem?_map]at h;cases e:zs[i]? with
 |none=>rw[e]at h;cases h
 |some x=>rw[e]at h;exact⟨x,rfl,(YA h).symm⟩
theorem E7{fs:List Form}{x y:Str}(h:∀f∈fs,¬(f.1=x∧f.2.1=y)):cI fs x y=none:=by
 have:fs.find? (fun f=>decide (f.1=x∧f.2.1=y))=none:=by
  rw[List.find?_eq_none];intro f hf;simpa using h f hf
 unfold cI;rw[this];rfl
theorem rG:∀{fs:List Form}{i:Nat}{x y x0 y0:Str}{p:Int},fs[i]?=some (x0,y0,p)→(∀f∈fs.take i,¬(f.1=x∧f.2.1=y))→(x0=x∧y0=y)→cI fs x y=some p
 |f::r,0,x,y,x0,y0,p,h,_,e=>by
  have h:f=(x0,y0,p):=by simpa using h
  rw[h];simp[cI,List.find?_cons,e.1,e.2]
 |f::r,i+1,x,y,x0,y0,p,h,hn,e=>by
  have h1:¬(f.1=x∧f.2.1=y):=hn f K4;have:=rG (fs:=r) (i:=i) (x:=x) (y:=y) (by simpa using h) (fun g hg=>hn g (by simp[hg])) e;simpa[cI,List.find?_cons,h1]using this
def sw(f:Form):Form:=(f.2.1,f.1,f.2.2)
theorem Ln(f:Form):Aq (sw f)=Aq f:=by
 have:(f.2.1==f.1)=(f.1==f.2.1):=by
  rw[Bool.eq_iff_iff,beq_iff_eq,beq_iff_eq];exact⟨Eq.symm,Eq.symm⟩
 simp only[Aq,gT,sw,this];rw[Bool.and_comm (rX f.2.1) (rX f.1)]
theorem E8:∀{fs:List Form},(fs.map jX).Nodup→((fs.map sw).map jX).Nodup:=fun{fs} h=>by
 rw[List.map_map];have h:=List.pairwise_map.mp h;refine List.pairwise_map.mpr (h.imp fun{a b} cB e=>cB ?_);simp[jX,sw]at e⊢;exact⟨e.2,e.1⟩
theorem xf{fs:List Form}(h:bp fs=true):bp (fs.map sw)=true:=by
 simp only[bp,Bool.and_eq_true,decide_eq_true_eq,List.all_eq_true]at h⊢;refine⟨⟨by simpa using h.1.1,fun f hf=>?_⟩,E8 h.2⟩;obtain⟨g,hg,rfl⟩:=List.mem_map.mp hf;rw[Ln];exact h.1.2 g hg
theorem yS(x y:Str):∀fs:List Form,cI (fs.map sw) x y=cI fs y x
 |[]=>rfl
 |f::r=>by
  have ih:=yS x y r;by_cases h:f.1=y∧f.2.1=x
  ·simp[cI,sw,List.find?_cons,h.1,h.2]
  ·have h':¬(f.2.1=x∧f.1=y):=fun z=>h ⟨z.2,z.1⟩
   simpa[cI,sw,List.find?_cons,h,h']using ih
theorem HH(same:Int)(fs:List Form)(x y:Str):cF same (fs.map sw) x y=cF same fs y x:=by
 unfold cF;rw[yS];by_cases h:x=y
 ·rw[Hz h,Hz h.symm]
 ·rw[Dy h,Dy (fun e=>h e.symm)]
def yT(n:Nums):Nums:=⟨n.same,n.into,n.out,n.least,n.part⟩
theorem HI{n:Nums}(h:fD n=true):fD (yT n)=true:=by
 simp only[fD,yT,Bool.and_eq_true]at h⊢;obtain⟨⟨⟨⟨a,b⟩,c⟩,d⟩,e⟩:=h;exact⟨⟨⟨⟨a,c⟩,b⟩,d⟩,e⟩
inductive qA(C:Addr)(vs:List V)(H:Hp)(Q:VK)(u3:XK):Prop
 |mk (t:Addr) (n:Nums) (fs:List Form) (dx l d:Addr) (xs:List V) (_:vs=[.ref t]) (_:g9 H C t n fs dx l d xs) (_:fD n=true) (_:bp fs=true) (_:∀H' t2 CZ l2 d2 C0,av H H'→g9 H' C t2 (yT n) (fs.map sw) CZ l2 d2 C0→Q (.ref t2) H'):qA C vs H Q u3
inductive nJ(K:W.Frag)(vs:List V)(H:Hp)(Q:VK)(u3:XK):Prop
 |mk (a:Addr) (ns:List Int) (k:Int) (_:vs=[.ref a, .int k]) (_:iD K H a (ns.map V.int)) (_:0≤k) (_:∀H' D (s o i l:Int),av H H'→H D=none→H' D=some (.lst [.int s, .int o, .int i, .int l])→(1≤s∧s≤999999)→(0≤o∧o≤999999)→(0≤i∧i≤999999)→(1≤l∧l≤999999)→Q (.ref D) H'):nJ K vs H Q u3
theorem g9.same{H H':Hp}{C x:Addr}{n:Nums}{fs:List Form}{dx l d:Addr}{xs:List V}(T:g9 H C x n fs dx l d xs)(s:av H H'):g9 H' C x n fs dx l d xs:=⟨s _ _ T.ob,s _ _ T.own,s _ _ T.li,T.tr.same s,s _ _ T.di⟩
theorem HJ{is:List Int}(h:is.length=4):∃a b c d,is=[a,b,c,d]:=by
 match is,h with
 |[a,b,c,d],_=>exact⟨a,b,c,d,rfl⟩
theorem SameBut.xg{x dx C:Addr}{H H':Hp}(hx:H x=none)(E9:H dx=none)(s:SameBut x (L2.upd (L2.upd H dx (.own x)) x (.ins C dx [])) H'):av H H':=fun b u e=>by
 have n1:b≠x:=aE e hx;have n2:b≠dx:=aE e E9;exact s b u n1 (by rw[ak n1,ak n2];exact e)
end QF
namespace L2
open PySem PySem.Spec PyProof.Rows PySem.W PySem.Calls
section
variable{X:Cx}{pins:List (Addr×Obj)}{σ:St}{H:Hp}{s:Shared}{h':Heap}
theorem Inv.HK{t':Nat}{fp:List Addr}(I:Inv X pins σ H s)(hf:∀b∈fp,iE X pins H b)(k:∀b o,b∉fp→s.heap.get? b=some o→h'.get? b=some o):Inv X pins σ H {s with heap:=h',toks:=t'}:=by
 have Ja:∀b u,H b=some u→b∉fp:=fun b u e z=>by rw[(hf b z).1]at e;cases e
 refine I.step (g':=s.gens) (d':=s.drawn) (ch:=fp) (fun b hb=>?_) (fun b o _ _ hc e _=>k b o hc e) (fun b o _ _ hc e _=>⟨o.slots,k b o hc e⟩) (fun _ _ _ _ n=>n)
  (fun b o hc e=>⟨o,k b o hc e⟩) (fun _ _ e=>e) (fun _ _ _ e=>e) (fun b ps e=>⟨#[],by rw[e];simp⟩) (fun m hm=>?_) (fun b u e=>?_) I.bare
 ·obtain⟨_,f1,_,f3,f4,f5⟩:=hf b hb;exact⟨f3,f1,f4,f5⟩
 ·obtain⟨o,es,ep,ho,r⟩:=hm;exact⟨o,es,ep,k _ o (fun z=>(hf _ z).2.1 rfl) ho,r⟩
 ·refine(I.bS b u e).wB (fun c v hc q=>k c v ?_ q) (fun _ q=>q) fun _ _ q=>q
  rcases hc with z|z
  ·rw[z];exact Ja b u e
  ·exact Ja c _ z
theorem Inv.BL{t':Nat}{fp:List Addr}{T:Addr}{u:HO}(I:Inv X pins σ H s)(hf:∀b∈fp,iE X pins H b)(hT:iE X pins H T)(k:∀b o,b∉fp→s.heap.get? b=some o→h'.get? b=some o)
  (new:cO X.prog X.w (upd H T u) h' T u):Inv X pins σ (upd H T u) {s with heap:=h',toks:=t'}:=by
 have Ja:∀b u,H b=some u→b∉fp:=fun b u e z=>by rw[(hf b z).1]at e;cases e
 have nT:∀b v,H b=some v→b≠T:=fun b v e z=>by rw[z,hT.1]at e;cases e
 refine I.step (g':=s.gens) (d':=s.drawn) (ch:=T::fp) (fun b hb=>?_) (fun b o _ _ hc e _=>k b o (fun z=>hc (ZR z)) e) (fun b o _ _ hc e _=>⟨o.slots,k b o (fun z=>hc (ZR z)) e⟩) (fun b _ hc _ n=>?_)
  (fun b o hc e=>⟨o,k b o (fun z=>hc (ZR z)) e⟩) (fun b xs e=>by rw[ak (nT b _ e)];exact e) (fun b o v e=>by rw[ak (nT b _ e)];exact e) (fun b ps e=>⟨#[],by rw[ak (nT b _ e),e];simp⟩) (fun m hm=>?_) (fun b v e=>?_) I.bare
 ·rcases List.mem_cons.mp hb with z|z
  ·subst z;obtain⟨_,f1,_,f3,f4,f5⟩:=hT;exact⟨f3,f1,f4,f5⟩
  ·obtain⟨_,f1,_,f3,f4,f5⟩:=hf b z;exact⟨f3,f1,f4,f5⟩
 ·rw[ak (fun z=>hc (by simp[z]))];exact n
 ·obtain⟨o,es,ep,ho,r⟩:=hm;exact⟨o,es,ep,k _ o (fun z=>(hf _ z).2.1 rfl) ho,r⟩
 ·by_cases hb:b=T
  ·subst hb;rw[ae]at e;cases e;exact new
  ·rw[ak hb]at e;refine(I.bS b v e).wB (fun c v' hc q=>k c v' ?_ q) (fun c q=>by rw[ak (nT c _ q)];exact q) fun c xs q=>by rw[ak (nT c _ q)];exact q
   rcases hc with z|z
   ·rw[z];exact Ja b v e
   ·exact Ja c _ z
theorem Inv.swap{d:Addr}{u u':HO}(I:Inv X pins σ H s)(e:H d=some u)(ht:∀xs,u≠ .tup xs)(ho:∀x,u≠ .own x)(hb:∀ps,u≠ .GY ps)(hf:∀o v,X.eY d≠some (.sJ o v))(new:cO X.prog X.w (upd H d u') s.heap d u'):Inv X pins σ (upd H d u') s:=by
 have nd:∀b,H b=none→b≠d:=fun b n z=>by rw[z,e]at n;cases n
 have nt:∀b xs,H b=some (.tup xs)→b≠d:=fun b xs q z=>by rw[z,e]at q;cases q;exact ht xs rfl
 have no:∀b x,H b=some (.own x)→b≠d:=fun b xs q z=>by rw[z,e]at q;cases q;exact ho xs rfl
 refine⟨I.ok,I.os,I.bare,⟨I.base.keep,I.base.slot,fun b o q n hx=>?_,I.base.there,fun b xs q=>?_,fun b o v q=>?_,fun b ps q=>?_⟩,I.loc,I.cell,?_,fun x c q=>?_,fun p hp=>?_,fun b v q=>?_,I.len⟩
 ·have z:=I.base.free b o q n hx;rw[ak (nd b z)];exact z
 ·have z:=I.base.cb b xs q;rw[ak (nt b xs z)];exact z
 ·have z:=I.base.oE b o v q;rw[ak (fun y=>by subst y;exact hf o v q)];exact z
 ·obtain⟨m,z⟩:=I.base.rT b ps q;exact⟨m,by rw[ak (fun y=>by rw[y,e]at z;cases z;exact hb _ rfl)];exact z⟩
 ·rw[ak (nd _ I.free)];exact I.free
 ·rw[ak (nd _ (I.mW x c q))];exact I.mW x c q
 ·obtain⟨p1,p2,p3⟩:=I.pin p hp;exact⟨p1,by rw[ak (nd _ p2)];exact p2,p3⟩
 ·by_cases Vc:b=d
  ·subst Vc;rw[ae]at q;cases q;exact new
  ·rw[ak Vc]at q;exact(I.bS b v q).wB (fun c v' _ z=>z) (fun c z=>by rw[ak (no c _ z)];exact z) fun c xs z=>by rw[ak (nt c _ z)];exact z
end
def MT(K:Frag)(a:Addr):It:=
 ⟨fun i H=>∃xs x,iD K H a xs∧xs[i]?=some x,fun i H x H'=>∃T y,x= .ref T∧H T=none∧H'=upd H T (.tup [.int i,y])∧∀xs,iD K H a xs→xs[i]?=some y,fun i H=>∃xs,iD K H a xs∧xs.length≤i⟩
theorem C5{P:Program}{w:World}{K:Frag}{elts:List Expr}{n:Nat}{pos:Pos}(a e it:Addr)(cB:e≠it):
  Turn P w K (.Tuple elts n pos) (MT K a) [e,it] e (fun i h=>(∃old,IsEnum h e it (i:Nat) old)∧h.IsListIter it a i) where
 mem:=MD
 obj:=fun i h st b hb=>by
  obtain⟨⟨old,s1⟩,o,s2,_,s3⟩:=st;rcases List.mem_cons.mp hb with z|z
  ·subst z;exact⟨_,s1,fun v z=>by
    have z':Data.fields _=Data.cell v:=z;cases z'⟩
  ·have e:b=it:=by simpa using z
   subst e;exact⟨o,s2,fun v z=>by rw[s3]at z;cases z⟩
 keep:=fun i h h' st k=>⟨⟨st.1.choose,k e K4 _ st.1.choose_spec⟩,st.2.at fun o q=>k it (MD) o q⟩
 item:=by
  intro X hP hw hK hc i pins s σ H E I hf st hg;subst hP hw hK;obtain⟨xs,x,hq,hx⟩:=hg;obtain⟨⟨old,s1⟩,s2⟩:=st;obtain⟨its,rv,p,hz⟩:=I.list hq;obtain⟨u,hu,ru⟩:=rv.get hx;refine wpAny_pyNext_enum_item s1 s2 p.isList (x:=u) (by simpa using hu) cB fun h' o1 o2 o3 o4 o5=>?_
  refine⟨_,rfl,wpAny_letOwnedTupleGo_enum (s:={s with heap:=h',toks:=s.toks+1}) o1 fun h2 q1 q2=>?_⟩;have vR:h2.get? s.heap.objs.size=some {cls:=Value.type "tuple",data:=Data.seq #[Value.int (↑i) s.toks,u]}:=by
   exact(q2.2 _ (Nat.ne_of_gt (Z9 s1))).trans o3
  have hT:iE X pins H s.heap.objs.size:=I.uP ZD (I.bS.fresh ZD);have I1:Inv X pins σ (upd H s.heap.objs.size (.tup [.int i,x])) {s with heap:=h2,toks:=s.toks+1}:=by
   refine I.BL hf hT (fun b o hb q=>?_) ⟨by simp[sizeLine],[Value.int (↑i) s.toks,u], .cons ⟨_,rfl⟩ (.cons ru .nil),?_⟩
   ·have b1:b≠e:=fun z=>hb (by simp[z])
    have b2:b≠it:=fun z=>hb (by simp[z])
    exact(q2.2 b b1).trans (o5 b o b1 b2 q)
   ·exact⟨_,vR,rfl,_,rfl⟩
  refine⟨.ref s.heap.objs.size,_,I1,rfl,⟨_,x,rfl,hT.1,rfl,fun ys hy=>by rw[I.yD hy hq];exact hx⟩,⟨⟨u,by simpa using q1⟩,o2.at fun o q=>(q2.2 it (Z' cB)).trans q⟩,fun b hb=>?_⟩;rw[ak (fun z=>?_)]
  ·exact(hf b hb).1
  ·have h1:=Heap.lt_size s1;obtain⟨_,h2,_⟩:=s2;have h3:=Z9 h2;rcases List.mem_cons.mp hb with y|y
   ·rw[z.symm.trans y]at h1;exact X7 h1 (Nat.lt_irrefl _)
   ·have:b=it:=by simpa using y
    rw[z.symm.trans this]at h3;exact X7 h3 (Nat.lt_irrefl _)
 done:=by
  intro X hP hw hK hc i pins s σ H E I hf st hg;subst hP hw hK;obtain⟨xs,hq,hx⟩:=hg;obtain⟨⟨old,s1⟩,s2⟩:=st;obtain⟨its,rv,p,hz⟩:=I.list hq;have hl:=rv.length;exact wpAny_pyNext_enum_end (I.ok.hd hc) s1 s2 p.isList Z_ fun h' eb=>⟨rfl,I.HK (t':=s.toks) hf (fun b o hb q=>eb b o (fun z=>hb (by simp[z])) q)⟩
 self:=fun _ _ _ _ _ st h=>wpAny_pyIter_enum st.1.choose_spec h
section
variable{X:Cx}{tg:Expr}
def Jx(K:Frag)(ta:TA):TI:=fun σ H R=>ta σ H fun vs H1=>∃a,vs=[.ref a]∧(∃xs,iD K H1 a xs)∧R (MT K a) H1
theorem HL{elts:List Expr}{n:Nat}{tp:Pos}{a:Expr}{ta:TA}{p pos:Pos}(hg:Gl X "enumerate")(hm:X.mg "enumerate"=none)(ha:PA X [a] ta)(hs:starEach [a] X.env=[(false,eval a X.env)]:=by rfl):
  PI X (.Tuple elts n tp) (.Call (.Name "enumerate" p) [a] [] pos) (Jx X.K ta):=by
 intro pins s σ H R I h;refine Call_ (lJ I hg hm boot_enumerate (PyProof.Rows.callWith_type1 (cG (ha pos pins s σ H _ I h) fun us s1 ⟨vs,H1,I1,r1,q1⟩=>?_) hs rfl));obtain⟨l,e,⟨xs,hq⟩,q⟩:=q1;subst e;cases r1 with
 |cons r rr=>
  cases rr;cases r;obtain⟨its,rv,p,hz⟩:=I1.list hq;refine call_enumerate_list p.isList fun h' o1 o2 o3 o4=>?_
  refine wpAny_pyIter_enum (s:={s1 with heap:=h'}) o1 ?_;refine⟨s1.heap.objs.size+1,[s1.heap.objs.size+1,s1.heap.objs.size],_,_,H1,rfl,I1.kept (t':=s1.toks) o4,C5 l _ _ (Nat.succ_ne_self _),⟨⟨_,o1⟩,o2⟩,fun b hb=>?_,q⟩;have MU:s1.heap.objs.size≤b:=by
   rcases List.mem_cons.mp hb with y|y
   ·rw[y];exact Nat.le_succ _
   ·have:b=s1.heap.objs.size:=by simpa using y
    exact Nat.le_of_eq this.symm
  exact I1.uP MU (I1.bS.fresh MU)
end
theorem oW{X:Cx}(K:Frag){elts:List Expr}{n:Nat}{tp:Pos}{a:Expr}{ta:TA}{p pos:Pos}(hg:Gl X "enumerate")(hm:X.mg "enumerate"=none)(ha:PA X [a] ta)(hs:starEach [a] X.env=[(false,eval a X.env)]:=by rfl)(h:X.K=K:=by rfl):
  PI X (.Tuple elts n tp) (.Call (.Name "enumerate" p) [a] [] pos) (Jx K ta):=h▸HL hg hm ha hs
theorem yU{K:Frag}{a:Addr}{xs:List V}{g:TG}{tb:TS}{D:Ends}{σ:St}{H:Hp}(Pv:Nat→St→Hp→Prop)(h0:Pv 0 σ H)(hl:∀i σ H,i≤xs.length→Pv i σ H→iD K H a xs)
  (hs:∀i x T σ H,xs[i]?=some x→Pv i σ H→H T=none→g (.ref T) σ (upd H T (.tup [.int i,x])) fun fF H2=>tb {D with nx:=Pv (i+1),ct:=Pv (i+1),bk:=D.nx} fF H2) (hd:∀σ H,Pv xs.length σ H→D.nx σ H):
  ∃W:Nat→Nat→St→Hp→Prop,(∃m,W 0 m σ H)∧∀i m σ H,W i m σ H→
   ((MT K a).stop i H∧D.nx σ H)∨((MT K a).go i H∧∃N:St→Hp→Prop,(∀bj H',N bj H'→∃m',m'<m∧W (i+1) m' bj H')∧∀x H',(MT K a).G6 i H x H'→g x σ H' fun fF H2=>tb {D with nx:=N,ct:=N,bk:=D.nx} fF H2):=by
 refine⟨fun i m σ H=>m=xs.length-i∧i≤xs.length∧Pv i σ H,⟨xs.length,MD,Nat.zero_le _,h0⟩,?_⟩;rintro i m σ H ⟨rfl,hi,p⟩;have hq:=hl i σ H hi p;by_cases il:i<xs.length
 ·refine .inr ⟨⟨xs,xs[i],hq,by simp[il]⟩,Pv (i+1),fun bj H' p'=>⟨xs.length-(i+1),by lia,rfl,il,p'⟩,fun x H' y=>?_⟩;obtain⟨T,y,rfl,hT,rfl,hy⟩:=y;exact hs i y T σ H (hy xs hq) p hT
 ·have e:i=xs.length:=by lia
  subst e;exact .inl ⟨⟨xs,hq,Nat.le_refl _⟩,hd σ H p⟩
def NF(eY:Hp)(d:Addr):Prop:=∀o v,eY d≠some (.sJ o v)
section
variable{X:Cx}{tg:Expr}
end
end L2
namespace QF
open PySem L2
inductive xh(K:W.Frag)(vs:List V)(H:Hp)(Q:VK)(u3:XK):Prop
 |mk (a b:Addr) (ns:List Int) (zs:List Str) (c p m:Int) (_:vs=[.ref a, .int c, .int p, .int m, .ref b]) (_:iD K H a (ns.map V.int)) (_:H b=some (.lst (zs.map V.str))) (_:(1≤zs.length∧zs.length≤1000)) (_:0≤p) (_:0≤m) (_:m≤1000) (_:∀H' l (ws:List Str),av H H'→H l=none→H' l=some (.lst (ws.map V.str))→ws.length=m.toNat→(∀w∈ws,w∈zs)→Q (.ref l) H'):xh K vs H Q u3
end QF
namespace L2
open PySem PySem.Spec PyProof.Rows PySem.W PySem.Calls
section
variable{X:Cx}
theorem HM(K:Frag){T:String}{name:Str}{id:String}{r:V→List V→Hp→VK→Prop}{o:Expr}{apos eG:Pos}{to:TE}(pa:PlainAttrs T)(slot:Slot T name id)(DR:typeOf (.builtin id)=pure (.type "method_descriptor"))(hm:Qn X id r)(ho:PE X o to)
  (oN:attributeBase o name X.env (eval o X.env)=eval o X.env:=by rfl) (oO:(apos.endLine==eG.line)=true:=by rfl) (hK:X.K=K:=by rfl):PE X (.Call (.Attribute o name apos) [] [] eG) (N9 K T r to):=hK▸K6 pa slot DR hm ho oN oO
end
end L2
namespace QF
open PySem L2
def Sj(c:Nat):Bool:=decide (65≤c)&&decide (c≤90)
def conv(c:Nat):Nat:=if low c=true then c else if Sj c=true then c+32 else 32
abbrev great:Str:=Str.ofString "ABCDEFGHIJKLMNOPQRSTUVWXYZ"
def rd(st:KWd.St)(cs:List Nat):KWd.St:=(cs.map conv).foldl KWd.step st
abbrev both:Str:=Str.ofString "abcdefghijklmnopqrstuvwxyzABCDEFGHIJKLMNOPQRSTUVWXYZ"
abbrev marks:Str:=Str.ofString " .,-'0123456789!?()[]{}@`_~/:;<=>#$&*+|^\\\""
end QF
namespace L2
open PySem PySem.Spec PyProof.Rows PySem.W PySem.Calls
section
variable{X:Cx}
def Ve(xs ys:List V)(f:Nat→Bool):Prop:=∀(j:Nat)(x y:V),xs[j]?=some x→ys[j]?=some y→(rF x=true∧rF y=true∧f j=wO x y)∨(∃a,x= .ref a∧y= .ref a∧f j=true)
theorem E_{A:Around}{s:Shared}{xs ys:List V}{its dC:List Value}{f:Nat→Bool}(r:Vals xs its)(r2:Vals ys dC)(h:Ve xs ys f):
  ∀j (h1:j<its.toArray.size) (h2:j<dC.toArray.size),SeqAt.EqAt A s its.toArray[j] dC.toArray[j] (f j):=fun j h1 h2=>by
 have Jy:j<xs.length:=by have:=r.length;simp at h1;lia
 have Jz:j<ys.length:=by have:=r2.length;simp at h2;lia
 obtain⟨a1,e1,q1⟩:=r.get (i:=j) (x:=xs[j]) (by simp[Jy]);obtain⟨a2,e2,q2⟩:=r2.get (i:=j) (x:=ys[j]) (by simp[Jz]);have g1:its.toArray[j]=a1:=by simpa[List.getElem?_eq_some_iff]using(WB e1).2
 have g2:dC.toArray[j]=a2:=by simpa[List.getElem?_eq_some_iff]using(WB e2).2
 rw[g1,g2];rcases h j xs[j] ys[j] (by simp[Jy]) (by simp[Jz])with⟨f1,f2,ef⟩|⟨a,ex,ey,ef⟩
 ·rw[ef];exact wQ q1 q2 f1 f2
 ·rw[ef];rw[ex]at q1;rw[ey]at q2;cases q1;cases q2;exact SeqAt.EqAt.same _
inductive OB(K:Frag)(x:V)(y:V)(H:Hp)(Q:VK):Prop
 |mk (p:_) (q:_) (xs:_) (ys:_) (f:_) (_:x= .ref p) (_:y= .ref q) (_:iD K H p xs) (_:iD K H q ys) (_:Ve xs ys f) (_:Q (.bl (decide (xs.length=ys.length)&&(Z6 xs.length).all f)) H):OB K x y H Q
theorem yV(K:Frag)(hu:X.A.units<cLine)(hK:X.K=K:=by rfl):rV X (compareOp .Eq) (OB K):=by
 subst hK;intro pins s σ H x y v u Q I rx ry h;obtain⟨p,q,xs,ys,f,rfl,rfl,hp,hq,hf,k⟩:=h;cases rx;cases ry;obtain⟨its,r,pl,hz⟩:=I.list hp;obtain⟨dC,r2,HB,MQ⟩:=I.list hq;have l1:=r.length;have l2:=r2.length;obtain⟨⟨cls,dd,data,sl⟩,ho,hc,n,hd⟩:=id pl.isList;obtain⟨⟨EZ,rZ,data2,mZ⟩,sP,qj,n2,hd2⟩:=id HB.isList;simp only at hc hd qj hd2;subst hc hd qj hd2;by_cases e:xs.length=ys.length
 ·have hsz:its.toArray.size=dC.toArray.size:=by rw[List.size_toArray,List.size_toArray];lia
  refine richCompare_meets_room (op:= .Eq) ⟨_,ho,rfl⟩ ⟨_,sP,rfl⟩ F.slot_list_eq F.entry_list_eq (F.args_list_eq_2 _ _) (SeqAt.list_eqAt p q its.toArray dC.toArray n n2 dd rZ sl mZ hsz f) ⟨ho,sP,E_ r r2 hf,?_⟩ hu;rw[decide_eq_true e,Bool.true_and]at k;refine⟨(fun x=>nomatch x), .bl ((Z6 xs.length).all f),H,I,?_,k⟩;rw[List.size_toArray,←l1];rfl
 ·have hsz:(its.toArray.size !=dC.toArray.size)=true:=by
   rw[List.size_toArray,List.size_toArray];simp;lia
  refine richCompare_meets_room (op:= .Eq) ⟨_,ho,rfl⟩ ⟨_,sP,rfl⟩ F.slot_list_eq F.entry_list_eq (F.args_list_eq_2 _ _) (SeqAt.list_eq_lengthsAt p q its.toArray dC.toArray n n2 dd rZ sl mZ hsz) ⟨ho,sP,?_⟩ hu;rw[decide_eq_false e,Bool.false_and]at k;exact⟨(fun x=>nomatch x), .bl false,H,I,rfl,k⟩
end
section
variable{X:Cx}
end
end L2
namespace QF
open PySem L2
abbrev Pr:=Int×Int
def iK(p:Pr):List V:=[.int p.1, .int p.2]
def fN(H:Hp)(vs:List V)(ps:List Pr):Prop:=vs.length=ps.length∧∀(i:Nat)(p:Pr),ps[i]?=some p→∃t,vs[i]?=some (V.ref t)∧H t=some (.tup (iK p))
theorem fN.nil{H:Hp}:fN H [] []:=⟨rfl,fun i f e=>by simp at e⟩
theorem fN.cb{H H':Hp}{xs:List V}{fs:List Pr}(T:fN H xs fs)(k:cJ H H'):fN H' xs fs:=⟨T.1,fun i f e=>let ⟨b,h1,h2⟩:=T.2 i f e;⟨b,h1,k _ _ h2⟩⟩
theorem fN.same{H H':Hp}{xs:List V}{fs:List Pr}(t:fN H xs fs)(s:av H H'):fN H' xs fs:=t.cb (cJ.same s)
theorem fN.append{H:Hp}{xs ys:List V}{fs gs:List Pr}(T:fN H xs fs)(U:fN H ys gs):fN H (xs++ys) (fs++gs):=by
 refine⟨by simp[T.1,U.1],fun i p e=>?_⟩;by_cases h:i<fs.length
 ·rw[ZK h]at e;obtain⟨b,h1,h2⟩:=T.2 i p e;exact⟨b,by rw[ZK (by rw[T.1];exact h)];exact h1,h2⟩
 ·rw[ZP Aj]at e;obtain⟨b,h1,h2⟩:=U.2 _ p e;exact⟨b,by rw[ZP (by rw[T.1];lia),T.1];exact h1,h2⟩
theorem fN.one{H:Hp}{t:Addr}{p:Pr}(ht:H t=some (.tup (iK p))):fN H [.ref t] [p]:=by
 refine⟨rfl,fun i q e=>?_⟩
 match i,e with
 |0,e=>cases e;exact⟨t,rfl,ht⟩
 |i+1,e=>simp at e
theorem fN.snoc{H:Hp}{xs:List V}{fs:List Pr}{t:Addr}{f:Pr}(T:fN H xs fs)(ht:H t=some (.tup (iK f))):fN H (xs++[.ref t]) (fs++[f]):=T.append (.one ht)
def pr(ps:List Pr)(k:Nat):Pr:=ps.getD k (0,0)
theorem JA{ps:List Pr}{k:Nat}(h:k<ps.length):ps[k]?=some (pr ps k):=by
 simp[pr,h]
theorem fN.Lo{H:Hp}{xs:List V}{ps:List Pr}(T:fN H xs ps){k:Nat}(h:k<ps.length):∃t,xs[k]?=some (V.ref t)∧H t=some (.tup [.int (pr ps k).1, .int (pr ps k).2]):=T.2 k _ (JA h)
theorem g_{ps:List Pr}{p:Pr}{k:Nat}(h:k<ps.length):pr (ps++[p]) k=pr ps k:=by
 simp[pr,List.getD_eq_getElem?_getD,ZK h]
theorem sQ{ps:List Pr}{p:Pr}:pr (ps++[p]) ps.length=p:=by
 simp[pr,List.getD_eq_getElem?_getD]
structure Case where
 xs:List Str
 ys:List Str
 same:Int
 out:Int
 into:Int
 least:Int
 fs:List Form
structure jA(H:Hp)(a:Addr)(c:Case)(f g m l:Addr)(vs:List V):Prop where
 ca:H a=some (.lst [.ref f, .ref g, .ref m, .ref l])
 fi:H f=some (.lst (c.xs.map V.str))
 se:H g=some (.lst (c.ys.map V.str))
 nu:H m=some (.lst [.int c.same, .int c.out, .int c.into, .int c.least])
 ne:H l=some (.lst vs)
 tr:cP H vs c.fs
theorem jA.keep{H H':Hp}{a:Addr}{c:Case}{f g m l:Addr}{vs:List V}(C:jA H a c f g m l vs)(s:av H H'):jA H' a c f g m l vs:=⟨s _ _ C.ca,s _ _ C.fi,s _ _ C.se,s _ _ C.nu,s _ _ C.ne,C.tr.same s⟩
structure eI(most:Nat)(c:Case):Prop where
 x:c.xs.length≤most
 y:c.ys.length≤most
 good:bp c.fs=true
 same:1≤c.same∧c.same≤999999
 out:0≤c.out∧c.out≤999999
 into:0≤c.into∧c.into≤999999
 least:1≤c.least∧c.least≤999999
def wd(xs:List Str)(i:Int):Option Str:=if 0≤i then xs[i.toNat]? else none
theorem tJ{xs:List Str}{i:Nat}:wd xs (i:Int)=xs[i]?:=by simp[wd]
theorem vZ{xs:List Str}{i:Int}(h0:0≤i)(h:i<(xs.length:Int)):∃x,wd xs i=some x∧sM (xs.map V.str) i=some (.str x):=by
 obtain⟨j,rfl⟩:=Int.eq_ofNat_of_zero_le h0;have hj:j<xs.length:=by lia
 exact⟨xs[j],by rw[tJ];simp[hj],ar (by simp[hj])⟩
theorem BM{xs:List Str}{i:Int}{x:Str}(h:wd xs i=some x):0≤i∧i<(xs.length:Int):=by
 unfold wd at h;split at h
 ·have:=(WB h).1
  lia
 ·cases h
def Case.pw(c:Case)(p:Pr):Option Int:=(wd c.xs p.1).bind fun x=>(wd c.ys p.2).bind fun y=>cF c.same c.fs x y
theorem Case.pw_of{c:Case}{p:Pr}{x y:Str}(h1:wd c.xs p.1=some x)(h2:wd c.ys p.2=some y):c.pw p=cF c.same c.fs x y:=by simp[Case.pw,h1,h2]
theorem Case.pw_in{c:Case}{p:Pr}{w:Int}(h:c.pw p=some w):(0≤p.1∧p.1<(c.xs.length:Int))∧(0≤p.2∧p.2<(c.ys.length:Int)):=by
 unfold Case.pw at h;cases e1:wd c.xs p.1 with
 |none=>rw[e1]at h;cases h
 |some x=>
  cases e2:wd c.ys p.2 with
  |none=>rw[e1,e2]at h;cases h
  |some y=>exact⟨BM e1,BM e2⟩
theorem Case.pw_out{c:Case}{p:Pr}(h:¬((0≤p.1∧p.1<(c.xs.length:Int))∧(0≤p.2∧p.2<(c.ys.length:Int)))):c.pw p=none:=by
 cases e:c.pw p with
 |none=>rfl
 |some w=>exact X7 (c.pw_in e) h
def stepOk(q p:Pr):Bool:=decide (q.1<p.1)&&decide (q.2<p.2)
def Case.gap(c:Case)(q p:Pr):Int:=c.out*(p.1-q.1-1)+c.into*(p.2-q.2-1)
def dD(c:Case)(ps:List Pr)(k:Nat):Bool:=(c.pw (pr ps k)).isSome&&(decide (k=0)||stepOk (pr ps (k-1)) (pr ps k))
def lQ(c:Case)(ps:List Pr)(n:Nat):Prop:=∀k,k<n→dD c ps k=true
def lp(c:Case)(ps:List Pr):Bool:=!ps.isEmpty&&(Z6 ps.length).all (dD c ps)
def dG(c:Case)(ps:List Pr):Nat→Int
 |0=>(c.pw (pr ps 0)).getD 0
 |k+1=>(c.pw (pr ps (k+1))).getD 0+dG c ps k-c.gap (pr ps k) (pr ps (k+1))
theorem mC{c:Case}{ps:List Pr}(h:ps≠[])(g:lQ c ps ps.length):lp c ps=true:=by
 have h1:ps.isEmpty=false:=by simpa using h
 have h2:(Z6 ps.length).all (dD c ps)=true:=List.all_eq_true.mpr fun k hk=>g k (by simpa using hk)
 simp[lp,h1,h2]
theorem Fb{c:Case}{ps:List Pr}{k:Nat}(hk:k<ps.length)(g:dD c ps k=false):lp c ps=false:=by
 have h2:(Z6 ps.length).all (dD c ps)=false:=by
  rw[Bool.eq_false_iff];intro z;rw[List.all_eq_true]at z;rw[z k (by simpa using hk)]at g;cases g
 simp[lp,h2]
theorem kJ{c:Case}{ps:List Pr}(h:lp c ps=true):ps≠[]∧lQ c ps ps.length:=by
 simp only[lp,Bool.and_eq_true,List.all_eq_true]at h;refine⟨fun z=>by subst z;simp at h,fun k hk=>h.2 k (by simpa using hk)⟩
theorem lQ.next{c:Case}{ps:List Pr}{n:Nat}(h:lQ c ps n)(g:dD c ps n=true):lQ c ps (n+1):=fun k hk=>by
 by_cases e:k=n
 ·rw[e];exact g
 ·exact h k (by lia)
theorem HN{c:Case}{ps:List Pr}{k:Nat}(h:dD c ps k=true):∃w,c.pw (pr ps k)=some w:=by
 simp only[dD,Bool.and_eq_true]at h;exact Option.isSome_iff_exists.mp h.1
theorem C6{c:Case}{ps:List Pr}{p:Pr}(g:lQ c ps ps.length)(h:(c.pw p).isSome=true)(f:ps=[]∨stepOk (pr ps (ps.length-1)) p=true):lQ c (ps++[p]) (ps.length+1):=fun k hk=>by
 by_cases e:k<ps.length
 ·have:=g k e;simp only[dD]at this⊢;rw[g_ e];by_cases k0:k=0
  ·subst k0;simpa using this
  ·rw[g_ (by lia:k-1<ps.length)];exact this
 ·have:k=ps.length:=by lia
  subst this;simp only[dD];rw[sQ,h];rcases f with f|f
  ·subst f;rfl
  ·by_cases e0:ps.length=0
   ·simp[e0]
   ·rw[g_ Aj,f];simp
structure JB(c:Case):Prop where
 out:0≤c.out∧c.out≤999999
 into:0≤c.into∧c.into≤999999
theorem eI.num{m:Nat}{c:Case}(h:eI m c):JB c:=⟨h.out,h.into⟩
def yW(H:Hp)(CT t:Addr)(c:Case):Prop:=∃n dx l d vs,g9 H CT t n c.fs dx l d vs∧n.same=c.same∧n.out=c.out∧n.into=c.into∧n.least=c.least
theorem yW.keep{H H':Hp}{CT t:Addr}{c:Case}(T:yW H CT t c)(s:av H H'):yW H' CT t c:=by
 obtain⟨n,dx,l,d,vs,T,r⟩:=T;exact⟨n,dx,l,d,vs,T.same s,r⟩
inductive tK(K:W.Frag)(vs:List V)(H:Hp)(Q:VK)(u3:XK):Prop
 |mk (a b x:Addr) (ns:List Int) (zs ws:List Str) (c p m:Int) (_:vs=[.ref a, .int c, .int p, .int m, .ref x, .ref b]) (_:iD K H a (ns.map V.int)) (_:H b=some (.lst (zs.map V.str))) (_:H x=some (.lst (ws.map V.str))) (_:(1≤zs.length∧zs.length≤1000)) (_:ws.length≤1000) (_:(∀w∈ws,w∈zs)) (_:0≤p) (_:0≤m) (_:m≤1000) (_:∀H' l (ws:List Str),av H H'→H l=none→H' l=some (.lst (ws.map V.str))→ws.length=m.toNat→(∀w∈ws,w∈zs)→Q (.ref l) H'):tK K vs H Q u3
inductive xi(K:W.Frag)(vs:List V)(H:Hp)(Q:VK)(u3:XK):Prop
 |mk (a:Addr) (ns:List Int) (most:Int) (_:vs=[.ref a, .int most]) (_:iD K H a (ns.map V.int)) (_:0≤most) (_:most≤40) (_:∀H' b c f g m l us,av H H'→H b=none→jA H' b c f g m l us→eI most.toNat c→Q (.ref b) H'):xi K vs H Q u3
inductive qB(vs:List V)(H:Hp)(Q:VK)(u3:XK):Prop
 |mk (a:Addr) (us:List V) (ps:List Pr) (_:vs=[.ref a]) (_:H a=some (.lst us)) (_:fN H us ps) (_:Q (.bl true) H):qB vs H Q u3
inductive tL(vs:List V)(H:Hp)(Q:VK)(u3:XK):Prop
 |mk (a w:Addr) (c:Case) (f g m l:Addr) (us:List V) (ws:List V) (ps:List Pr) (_:vs=[.ref a, .ref w]) (_:jA H a c f g m l us) (_:H w=some (.lst ws)) (_:fN H ws ps) (_:ps.length≤10000) (_:∀H',av H H'→Q (.bl (lp c ps)) H'):tL vs H Q u3
inductive qC(vs:List V)(H:Hp)(Q:VK)(u3:XK):Prop
 |mk (a w:Addr) (c:Case) (f g m l:Addr) (us:List V) (ws:List V) (ps:List Pr) (_:vs=[.ref a, .ref w]) (_:jA H a c f g m l us) (_:JB c) (_:H w=some (.lst ws)) (_:fN H ws ps) (_:ps.length≤10000) (_:lp c ps=true) (_:Q (.int (dG c ps (ps.length-1))) H):qC vs H Q u3
end QF
namespace L2
open PySem PySem.Spec PyProof.Rows PySem.W PySem.Calls
section
variable{pg:Program}{wd:World}{Ar:Around}{Rs:Result→Shared→Prop}{it:Addr}{fp wr:List Addr}{n:Nat}{Pv:Nat→Value→Prop}{Sv:Nat→Heap→Prop}
def xj:(toString "max"++toString ".loop":String)="max.loop":=Sz
theorem C9(Wk:Walks pg wd Ar.in1 it fp wr n Pv Sv)(bt:Nat→Nat→Bool)(cmp:CmpOf pg wd Ar.in1 .Gt Pv bt)(B:Addr)(nb:B∉fp)(dv:Value):
  ∀(k j:Nat)(st:Shared)(old:List Value)(c:Nat),n-j=k→j≤n→Sv j st.heap→((j=0∧old=[])∨∃vb,0<j∧old=[vb,vb]∧Pv (argBest bt (j-1)) vb)→
  st.heap.get? B=some {cls:= .type "list",dict:=none,data:= .seq old.toArray c,slots:=#[]}→
  (∀v h' tk,((n=0∧v=dv)∨(0<n∧Pv (argBest bt (n-1)) v))→(∀b o,b∉wr→b≠B→st.heap.get? b=some o→h'.get? b=some o)→Rs (.ok (.ret v)) {st with heap:=h',toks:=tk})→
  codeAny (model pg wd) Ar (.builtin "max.loop" ⟨[.ref it, .none, .ref B],[("default",dv)]⟩) Rs st:=by
 have nw:B∉wr:=fun z=>nb (Wk.sub _ z)
 intro k
 induction k with
 |zero=>
  intro j st old c ek lj sv ol eB fin;have ej:j=n:=by lia
  subst ej;refine codeAny_builtin F.entry_max_loop ?_;rw[Around.under_plainId F.plain_max_loop _];show wpAny _ Ar.in1 (seqItems? (.ref B)>>=_) _ _ st;refine wpAny_bind (wpAny_seqItems eB rfl ?_);show wpAny _ Ar.in1 (tryCatch (pyNext (.ref it)) _>>=_) _ _ st;refine wpAny_bind (wpAny_tryCatch (Wk.done st _ _ sv fun h' tk kp=>?_));rcases ol with⟨z0,rfl⟩|⟨vb,z0,rfl,pb⟩
  ·refine wpAny_bind (wpAny_rule (Xs ?_));exact fin dv _ tk (.inl ⟨z0,rfl⟩) fun b o hb _ e=>kp b o hb e
  ·have Lp:=kp B _ nw eB;show wpAny _ Ar.in1 (updateSeq B (fun _=>#[])>>=_) _ _ _;refine wpAny_bind ?_;refine wpAny_updateSeq Lp rfl (Z5 (wpAny_letGo (Xs ?_)));exact fin vb _ tk (.inr ⟨z0,pb⟩) fun b o hb hB e=>(Heap.get?_update_other _ _ (Z' hB)).trans (kp b o hb e)
 |succ k ih=>
  intro j st old c ek lj sv ol eB fin;have lt:j<n:=by lia
  refine codeAny_builtin F.entry_max_loop ?_;rw[Around.under_plainId F.plain_max_loop _];show wpAny _ Ar.in1 (seqItems? (.ref B)>>=_) _ _ st;refine wpAny_bind (wpAny_seqItems eB rfl ?_);show wpAny _ Ar.in1 (tryCatch (pyNext (.ref it)) _>>=_) _ _ st;refine wpAny_bind (wpAny_tryCatch (Wk.item j st _ _ lt sv fun v h' tk pv SG kp=>?_));have Lp:=kp B _ nw eB;have up:∀(g:Array Value→Array Value)(b:Addr),b∈fp→∀o,h'.get? b=some o→(h'.update B (Obj.mapSeq g)).get? b=some o:=fun g b hb o e=>(Heap.get?_update_other _ _ (fun z:B=b=>nb (by rw[z];exact hb))).trans e
  rcases ol with⟨rfl,rfl⟩|⟨vb,z0,rfl,pb⟩
  ·show wpAny _ Ar.in1 (updateSeq B (fun _=>#[v,v])>>=_) _ _ _;refine wpAny_bind ?_;refine wpAny_updateSeq Lp rfl ?_;rw[xj];refine wpAny_pure ⟨plainId_quiet F.plain_max_loop _,ih 1 _ [v,v] _ (by lia) lt (Wk.frame _ _ _ SG (up _)) (.inr ⟨v,Sz,rfl,pv⟩) (Heap.get?_update_self _ Lp rfl) fun v' h2 OC pf OD=>?_⟩;exact fin v' h2 OC pf fun b o hb hB e=>OD b o hb hB ((Heap.get?_update_other _ _ (Z' hB)).trans (kp b o hb e))
  ·obtain⟨i,rfl⟩:∃i,j=i+1:=⟨j-1,by lia⟩
   have pb:Pv (argBest bt i) vb:=pb;show wpAny _ Ar.in1 (tryCatch (holding [v,v] (richCompare .Gt v vb>>=_)) _>>=_) _ _ _;refine wpAny_bind (wpAny_tryCatch (wpAny_holding (Z5 (cmp (i+1) (argBest bt i) v vb _ _ _ pv pb ?_))));refine wpAny_bind (wpAny_holding (wpAny_truthy_bool ?_));refine wpAny_bind (wpAny_letGo (Xs ?_));cases hb:bt (i+1) (argBest bt i)with
   |true=>
    simp only[if_true];refine wpAny_bind ?_;refine wpAny_updateSeq Lp rfl (Z5 (wpAny_letGo ?_));rw[xj];refine wpAny_pure ⟨plainId_quiet F.plain_max_loop _,ih (i+2) _ [v,v] _ (by lia) lt (Wk.frame _ _ _ SG (up _)) (.inr ⟨v,by lia,rfl,?_⟩) (Heap.get?_update_self _ Lp rfl) fun v' h2 OC pf OD=>?_⟩
    ·show Pv (argBest bt (i+1)) v;simp only[argBest,hb,if_true];exact pv
    ·exact fin v' h2 OC pf fun b o hb hB e=>OD b o hb hB ((Heap.get?_update_other _ _ (Z' hB)).trans (kp b o hb e))
   |false=>
    simp only[Bool.false_eq_true,if_false];refine wpAny_bind (wpAny_letGo ?_);rw[xj];refine wpAny_pure ⟨plainId_quiet F.plain_max_loop _,ih (i+2) _ [vb,vb] c (by lia) lt SG (.inr ⟨vb,by lia,rfl,?_⟩) Lp fun v' h2 OC pf OD=>?_⟩
    ·show Pv (argBest bt (i+1)) vb;simp only[argBest,hb,Bool.false_eq_true,if_false];exact pb
    ·exact fin v' h2 OC pf fun b o hb hB e=>OD b o hb hB (kp b o hb e)
theorem C_(a d:Value):argsOk "max" ⟨[a],[("default",d)]⟩:=by unfold argsOk;kernel_rfl
end
section
variable{X:Cx}
def Lq:Option Int→V
 |none=> .cL
 |some i=> .int i
theorem Ax{is:List Int}{us:List Value}(r:Vals (is.map V.int) us):us.length=is.length∧∀(j:Nat)(v:Value),us[j]?=some v→∃t,v= .int (is.getD j 0) t:=by
 have hl:=r.length;rw[List.length_map]at hl;refine⟨hl.symm,fun j v e=>?_⟩;have hj:j<is.length:=by have:=(WB e).1;lia
 obtain⟨u,eu,ru⟩:=r.get (i:=j) (x:= .int is[j]) (by simp[hj]);rw[e]at eu;cases eu;obtain⟨t,rfl⟩:=ru;exact⟨t,by simp[hj]⟩
theorem Lr{is:List Int}{k:Nat}(hk:k<is.length)(h:∀j,j<is.length→is.getD j 0≤is.getD k 0):is.max?=some (is.getD k 0):=by
 rw[List.max?_eq_some_iff];refine⟨by simp[hk],fun b hb=>?_⟩;obtain⟨j,hj,rfl⟩:=Ξ hb;have:=h j hj;simpa[hj]using this
theorem Dd(hc:X.calm=true){pins:List (Addr×Obj)}{s:Shared}{σ:St}{H:Hp}{a:Addr}{is:List Int}{Q:VK}(I:Inv X pins σ H s)(hq:iD X.K H a (is.map V.int))(q:Q (Lq is.max?) H):
  wpAny (model X.prog X.w) X.A (call (.builtin "max") [.ref a] [("default", .none)]) (EP X pins σ Q) X.xe s:=by
 obtain⟨its,rv,p,hz⟩:=I.list hq;obtain⟨hl,hv⟩:=Ax rv;refine wpAny_call (codeAny_call_builtin F.plain_max F.entry_max ?_);simp only[checkBuiltinCall,F.kind_max];have body:wpAny (model X.prog X.w) X.A.in1 (Builtin.«max» ⟨[.ref a],[("default", .none)]⟩) (fun fin s'=>match fin with
   | .done f=>(match (Except.ok f:Result)with| .ok (.ret v)=>EP X pins σ Q v s'| .ok _=>False| .error e=>X.xe e s')
   | .again c'=>c'.quiet=true∧codeAny (model X.prog X.w) X.A c' (fun r s'=>match r with| .ok (.ret v)=>EP X pins σ Q v s'| .ok _=>False| .error e=>X.xe e s') s') X.xe s:=by
  show wpAny _ X.A.in1 (Builtin.Builtins.bindParams "max" ["key","default"] 0 ⟨[],[("default", .none)]⟩>>=_) _ _ s;refine wpAny_bind (wpAny_of_eq (show Builtin.Builtins.bindParams "max" ["key","default"] 0 ⟨[],[("default", .none)]⟩=pure [none,some .none]from rfl) ?_);refine wpAny_bind (Xs (Z5 (wpAny_pyIter_list p.isList ?_)));have cB:a≠s.heap.objs.size:=by
   obtain⟨o,n,e,_⟩:=p;exact ZS (Z9 e)
  refine wpAny_bind (wpAny_newObj_type ?_);rw[xj];have eS:(s.heap.push {cls:= .type "list_iterator",data:= .fields #[.ref a, .int 0 0]}).objs.size=s.heap.objs.size+1:=by simp[Heap.push]
  have Wk:=Walks.list (prog:=X.prog) (w:=X.w) (A:=X.A.in1) (show X.A.in1.handled=none from I.ok.hd hc) s.heap.objs.size a cB its.toArray;refine wpAny_pure ⟨plainId_quiet F.plain_max_loop _,C9 (pg:=X.prog) (wd:=X.w) Wk _ (CmpOf.ints_gt (fun j=>is.getD j 0) fun j v e=>hv j v (by simpa using e)) (s.heap.push {cls:= .type "list_iterator",data:= .fields #[.ref a, .int 0 0]}).objs.size ?_ .none _ 0 _ [] 0 rfl (Nat.zero_le _) ?_ (.inl ⟨rfl,rfl⟩) ?_ fun v h' tk pf kp=>?_⟩
  ·intro z;simp only[List.mem_cons,List.not_mem_nil,or_false]at z;rw[eS]at z;rcases z with z|z
   ·exact Nat.succ_ne_self _ z
   ·obtain⟨o,n,e,_⟩:=p;have lt:=Z9 e;rw[←z]at lt;exact Nat.lt_irrefl _ (Nat.lt_of_succ_lt lt)
  ·exact⟨⟨_,ZE (Heap.get?_push_size _ rfl),rfl,rfl⟩,p.isList.at fun o e=>ZE (ZE e)⟩
  ·exact Heap.get?_push_size _ rfl
  ·have keep:∀b o,s.heap.get? b=some o→h'.get? b=some o:=fun b o e=>by
    have lt:=Z9 e;refine kp b o (fun z=>?_) (fun z=>?_) (ZE (ZE e))
    ·have z:b=s.heap.objs.size:=by simpa using z
     rw[z]at lt;exact Nat.lt_irrefl _ lt
    ·rw[z,eS]at lt;exact Nat.lt_irrefl _ (Nat.lt_of_succ_lt lt)
   have sz:its.toArray.size=is.length:=by simp[hl]
   rcases pf with⟨h0,rfl⟩|⟨h0,pf⟩
   ·have:is=[]:=List.length_eq_zero_iff.mp Aj;subst this;exact⟨.cL,H,I.kept (t':=tk) keep,rfl,q⟩
   ·rw[List.getElem?_toArray]at pf;obtain⟨t,rfl⟩:=hv _ v pf;obtain⟨b1,b2⟩:=argBest_gt (fun j=>is.getD j 0) (its.toArray.size-1);have em:=Lr (is:=is) (k:=argBest (fun i j=>decide (is.getD i 0>is.getD j 0)) (its.toArray.size-1)) (by lia) fun j hj=>b2 j Aj
    rw[em]at q;exact⟨.int _,H,I.kept (t':=tk) keep,⟨t,rfl⟩,q⟩
 cases SH:Manifest.signature? "max" with
 |none=>exact Xs body
 |some sig=>
  have ha:=C_ (.ref a) .none;simp only[argsOk,SH]at ha;have h2:Bind.checkArgs "max" sig ⟨[.ref a],[("default", .none)]⟩=pure ():=ha;show wpAny _ X.A.in1 (Bind.checkArgs "max" sig ⟨[.ref a],[("default", .none)]⟩) _ _ s;rw[h2];exact Xs body
def OE(K:Frag)(ta:TE):TE:=fun σ H Q=>ta σ H fun x H1=>∃(a:Addr)(is:List Int),x= .ref a∧iD K H1 a (is.map V.int)∧Q (Lq is.max?) H1
theorem HP(K:Frag){e:Expr}{ta:TE}{p pos kp cp:Pos}{j:Nat}(hc:X.calm=true)(hg:Gl X "max")(hm:X.mg "max"=none)(he:PE X e ta)(hs:starEach [e] X.env=[(false,eval e X.env)]:=by rfl)(hK:X.K=K:=by rfl):
  PE X (.Call (.Name "max" p) [e] [⟨some "default", .Constant .none j cp,kp⟩] pos) (OE K ta):=by
 subst hK;intro pins s σ H Q I h;refine wpAny_Call_Name_kw (lJ I hg hm (PyProof.Rows.Boot.«max») ?_ ZV (Sz));rw[hs];refine callWith_builtin_kwB (first:=[]) rfl rfl (evalArgs_kwB rfl ?_);refine Calls.spliced_cons ?_;show wpAny _ _ (eval e X.env) _ _ s;refine cG (he pins s σ H _ I h) fun v s1 ⟨x,H1,I1,r1,q1⟩=>Calls.spliced_nil ?_
 obtain⟨a,is,rfl,hq,q⟩:=q1;cases r1;refine kws_cons ?_;refine Constant_none ?_;refine kws_nil ?_;exact Dd hc I1 hq q
def uR:List V→List V→Bool
 |[],[]=>true
 |x::xs,y::ys=>wO x y&&uR xs ys
 | _,_=>false
theorem kK:∀(xs ys:List V),((Z6 (min xs.length ys.length)).all (fun j=>wO (xs.getD j .cL) (ys.getD j .cL))&&xs.length==ys.length)=uR xs ys
 |[],[]=>rfl
 |[],y::ys=>by simp[uR]
 |x::xs,[]=>by simp[uR]
 |x::xs,y::ys=>by
  have ih:=kK xs ys;simp only[uR];rw[←ih];have e:min (x::xs).length (y::ys).length=min xs.length ys.length+1:=by simp[Nat.succ_min_succ]
  rw[e,List.range_succ_eq_map,List.all_cons,List.all_map];simp only[List.getD_cons_zero,Function.comp_def,List.getD_cons_succ,List.length_cons,Bool.and_assoc]
  congr 2
  simp
theorem tM{A:Around}{s:Shared}{xs ys:List V}{its dC:List Value}(r:Vals xs its)(r2:Vals ys dC)(f1:xs.all rF=true)(f2:ys.all rF=true):
  ∀j (h1:j<its.toArray.size) (h2:j<dC.toArray.size),SeqAt.EqAt A s its.toArray[j] dC.toArray[j] ((fun j=>wO (xs.getD j .cL) (ys.getD j .cL)) j):=by
 refine E_ r r2 fun j x y hx hy=> .inl ⟨List.all_eq_true.mp f1 x (Y7 hx),List.all_eq_true.mp f2 y (Y7 hy),?_⟩
 simp[List.getD_eq_getElem?_getD,hx,hy]
open Classical in
end
theorem v5{K:Frag}{a:Addr}{xs:List V}{ls:List Str}{js:List Nat}{g:TG}{tt:TT}{te:TE}{σ:St}{H1:Hp}{D:Addr}{Q:VK}(Pv:Nat→List V→St→Hp→Prop)
  (h0:Pv 0 [] (lN ls js σ) (upd H1 D (.lst []))) (hl:∀i ys σ H,i≤xs.length→Pv i ys σ H→iD K H a xs)
  (hs:∀i x T ys σ H,xs[i]?=some x→Pv i ys σ H→H T=none→g (.ref T) σ (upd H T (.tup [.int i,x])) fun fF H3=>tt fF H3 fun b H4=>if b=true then te fF H4 fun y H5=>H5 D=some (.lst ys)∧ys.length<sizeLine∧Pv (i+1) (ys++[y]) fF (upd H5 D (.lst (ys++[y])))else Pv (i+1) ys fF H4)
  (hd:∀ys σ H,Pv xs.length ys σ H→Q (.ref D) H):
  tE (MT K a) ls js g tt te σ H1 D Q:=
 oS (n:=xs.length) Pv h0 (fun i ys σ H hi p=>⟨xs,xs[i],hl i ys σ H (Nat.le_of_lt hi) p,by simp[hi]⟩) (fun ys σ H p=>⟨xs,hl _ ys σ H ZD p,Nat.le_refl _⟩)
  (fun i ys σ H x H2 hi p y=>by
   obtain⟨T,z,rfl,hT,rfl,hy⟩:=y;exact hs i z T ys σ H (hy xs (hl i ys σ H (Nat.le_of_lt hi) p)) p hT) hd
end L2
namespace QF
open PySem L2
def fY(S:Int→Prop):Option Int→Prop
 |none=>∀v,¬S v
 |some m=>S m∧∀v,S v→v≤m
theorem fY.iff{S T:Int→Prop}{a:Option Int}(ha:fY S a)(h:∀v,S v↔T v):fY T a:=by
 cases a with
 |none=>exact fun v hv=>ha v ((h v).mpr hv)
 |some m=>exact⟨(h m).mp ha.1,fun v hv=>ha.2 v ((h v).mpr hv)⟩
def bB:Option Int→Int→Option Int
 |none,_=>none
 |some v,p=>some (v-p)
theorem fY.less{S:Int→Prop}{a:Option Int}(ha:fY S a)(p:Int):fY (fun v=>∃u,S u∧v=u-p) (bB a p):=by
 cases a with
 |none=>exact fun v ⟨u,hu,_⟩=>ha u hu
 |some m=>
  refine⟨⟨m,ha.1,rfl⟩,?_⟩;rintro v ⟨u,hu,rfl⟩;have:=ha.2 u hu
  lia
def oX(l:List (Option Int)):Option Int:=(l.filterMap id).max?
theorem kL(l:List (Option Int)):fY (fun v=>some v∈l) (oX l):=by
 have key:∀v,v∈l.filterMap id↔some v∈l:=fun v=>by
  rw[List.mem_filterMap];exact⟨fun⟨o,ho,eo⟩=>by have eo:o=some v:=eo;rw[eo]at ho;exact ho,fun h=>⟨some v,h,rfl⟩⟩
 unfold oX;cases e:(l.filterMap id).max? with
 |none=>
  rw[List.max?_eq_none_iff]at e;intro v hv;have:=(key v).mpr hv;rw[e]at this;cases this
 |some m=>
  rw[List.max?_eq_some_iff]at e;exact⟨(key m).mp e.1,fun v hv=>e.2 v ((key v).mpr hv)⟩
theorem fY.Vf{S T:Int→Prop}{a:Option Int}(ha:fY S a)(h1:∀v,S v→T v)(h2:∀v,T v→∃u,S u∧v≤u):fY T a:=by
 cases a with
 |none=>
  intro v hv;obtain⟨u,hu,_⟩:=h2 v hv;exact ha u hu
 |some m=>
  refine⟨h1 m ha.1,fun v hv=>?_⟩;obtain⟨u,hu,hle⟩:=h2 v hv;have:=ha.2 u hu
  lia
theorem yX{S1 S2 S3:Int→Prop}{a b c:Option Int}(h1:fY S1 a)(h2:fY S2 b)(h3:fY S3 c):fY (fun v=>S1 v∨S2 v∨S3 v) (oX [a,b,c]):=by
 refine(kL [a,b,c]).Vf (fun v hv=>?_) (fun v hv=>?_)
 ·simp only[List.mem_cons,List.not_mem_nil,or_false]at hv;rcases hv with e|e|e
  ·rw[←e]at h1;exact .inl h1.1
  ·rw[←e]at h2;exact .inr (.inl h2.1)
  ·rw[←e]at h3;exact .inr (.inr h3.1)
 ·have one:∀{S:Int→Prop}{o:Option Int},fY S o→S v→o∈[a,b,c]→∃u,some u∈[a,b,c]∧v≤u:=fun{S o} hm hs ho=>by
   cases o with
   |none=>exact X7 hs (hm v)
   |some m=>exact⟨m,ho,hm.2 v hs⟩
  rcases hv with hs|hs|hs
  ·exact one h1 hs K4
  ·exact one h2 hs K4
  ·exact one h3 hs K4
def ke(ps:List Pr):Pr:=pr ps (ps.length-1)
def wW(c:Case)(ps:List Pr):Int:=dG c ps (ps.length-1)
def oY(c:Case)(shut:List Pr)(ps:List Pr):Prop:=lp c ps=true∧∀p∈ps,p∉shut
def oC(c:Case)(shut:List Pr)(p:Pr):Option Int:=if p∈shut then none else c.pw p
theorem nK{ps:List Pr}{p:Pr}:ke (ps++[p])=p:=by
 unfold ke;rw[List.length_append];exact sQ
theorem tN{c:Case}{ps:List Pr}{p:Pr}:∀{k:Nat},k<ps.length→dG c (ps++[p]) k=dG c ps k
 |0,h=>by simp only[dG];rw[g_ h]
 |k+1,h=>by simp only[dG];rw[g_ h,g_ (by lia:k<ps.length),tN (by lia:k<ps.length)]
theorem Ls{c:Case}{p:Pr}{w:Int}(h:c.pw p=some w):wW c [p]=w:=by
 simp[wW,dG,pr,h]
theorem HQ{c:Case}{ps:List Pr}{p:Pr}{w:Int}(cB:ps≠[])(h:c.pw p=some w):wW c (ps++[p])=w+wW c ps-c.gap (ke ps) p:=by
 have hp:0<ps.length:=List.length_pos_iff.mpr cB;obtain⟨k,hk⟩:∃k,ps.length=k+1:=⟨ps.length-1,by lia⟩
 have e1:(ps++[p]).length-1=k+1:=by rw[List.length_append];simp;lia
 unfold wW ke;rw[e1];have e2:pr (ps++[p]) (k+1)=p:=by rw[←hk];exact sQ
 simp only[dG,e2,h,Option.getD_some];rw[g_ (by lia:k<ps.length),tN (by lia:k<ps.length),hk];rfl
theorem oY.one{c:Case}{shut:List Pr}{p:Pr}{w:Int}(h:oC c shut p=some w):oY c shut [p]:=by
 unfold oC at h;split at h
 ·cases h
 ·rename_i hs
  refine⟨mC K4 fun k hk=>?_,fun q hq=>?_⟩
  ·have:k=0:=by simp at hk;exact hk
   subst this;simp[dD,pr,h]
  ·have:q=p:=by simpa using hq
   rw[this];exact hs
theorem oY.snoc{c:Case}{shut:List Pr}{ps:List Pr}{p:Pr}{w:Int}(o:oY c shut ps)(h:oC c shut p=some w)(st:stepOk (ke ps) p=true):oY c shut (ps++[p]):=by
 obtain⟨cB,hg⟩:=kJ o.1;unfold oC at h;split at h
 ·cases h
 ·rename_i hs
  refine⟨mC K4 ?_,fun q hq=>?_⟩
  ·rw[List.length_append];exact C6 hg (by rw[h];rfl) (.inr st)
  ·rcases List.mem_append.mp hq with hq|hq
   ·exact o.2 q hq
   ·have:q=p:=by simpa using hq
    rw[this];exact hs
theorem yY{c:Case}{ps:List Pr}{p:Pr}{k:Nat}(h:k<ps.length):dD c (ps++[p]) k=dD c ps k:=by
 simp only[dD];rw[g_ h,g_ (by lia:k-1<ps.length)]
theorem oY.split{c:Case}{shut:List Pr}{ps:List Pr}(o:oY c shut ps):∃qs,ps=qs++[ke ps]∧(∃w,oC c shut (ke ps)=some w)∧(qs=[]∨(oY c shut qs∧stepOk (ke qs) (ke ps)=true)):=by
 obtain⟨cB,hg⟩:=kJ o.1;obtain⟨qs,p,rfl⟩:∃qs p,ps=qs++[p]:=⟨ps.dropLast,ps.getLast cB,(List.dropLast_concat_getLast cB).symm⟩
 rw[nK];have gl:=hg qs.length K4;simp only[dD,sQ,Bool.and_eq_true]at gl;refine⟨qs,rfl,?_,?_⟩
 ·obtain⟨w,hw⟩:=Option.isSome_iff_exists.mp gl.1;have:=o.2 p K4;exact⟨w,by simp[oC,this,hw]⟩
 ·by_cases e:qs=[]
  ·exact .inl e
  ·have hp:0<qs.length:=List.length_pos_iff.mpr e;refine .inr ⟨⟨mC e fun k hk=>?_,fun q hq=>o.2 q (Ι hq)⟩,?_⟩
   ·have:=hg k (by simp;lia);rwa[yY hk]at this
   ·have g2:=gl.2;simp only[Bool.or_eq_true,decide_eq_true_eq]at g2;rcases g2 with g2|g2
    ·lia
    ·rw[g_ (by lia:qs.length-1<qs.length)]at g2;exact g2
def HR:Option Int→Option Int→Option Int
 |none,_=>none
 |some w,none=>some w
 |some w,some b=>if b<0 then some w else some (w+b)
def Bq(f:Nat→Nat→Option Int)(o p:Int):Nat→Nat→Option Int
 |0,_=>none
 | _+1,0=>none
 |i+1,j+1=>oX [HR (f i j) (Bq f o p i j),bB (Bq f o p i (j+1)) o,bB (Bq f o p (i+1) j) p]
termination_by i j=>(i,j)
def dE(f:Nat→Nat→Option Int)(o p:Int)(i j:Nat):Option Int:=HR (f i j) (Bq f o p i j)
def iF(c:Case)(shut:List Pr)(i j:Nat):Option Int:=oC c shut ((i:Int),(j:Int))
theorem yZ{q p:Pr}:stepOk q p=true↔q.1<p.1∧q.2<p.2:=by simp[stepOk]
theorem HS(o:Option Int):Lq o=bC o:=by cases o<;>rfl
def f'(H:Hp)(vs:List V)(L:List (List Pr)):Prop:=vs.length=L.length∧∀(k:Nat)(ps:List Pr),L[k]?=some ps→∃a us,vs[k]?=some (V.ref a)∧H a=some (.lst us)∧fN H us ps
def OF(l:Addr)(vs:List V):Prop:=∀k:Nat,vs[k]?≠some (V.ref l)
theorem f'.nil{H:Hp}:f' H [] []:=⟨rfl,fun k ps e=>by simp at e⟩
theorem f'.same{H H':Hp}{vs:List V}{L:List (List Pr)}(w:f' H vs L)(s:av H H'):f' H' vs L:=⟨w.1,fun k ps e=>let ⟨a,us,h1,h2,h3⟩:=w.2 k ps e;⟨a,us,h1,s _ _ h2,h3.same s⟩⟩
theorem f'.put{H:Hp}{vs:List V}{L:List (List Pr)}{l:Addr}{zs:List V}{o:HO}(w:f' H vs L)(n:OF l vs)(h:H l=some (.lst zs)):f' (upd H l o) vs L:=⟨w.1,fun k ps e=>by
 obtain⟨a,us,h1,h2,h3⟩:=w.2 k ps e;refine⟨a,us,h1,?_,h3.cb (cJ.lst h)⟩;rw[ak (fun z=>n k (by rw[h1,z]))];exact h2⟩
theorem f'.append{H:Hp}{vs ws:List V}{L M:List (List Pr)}(a:f' H vs L)(b:f' H ws M):f' H (vs++ws) (L++M):=by
 refine⟨by simp[a.1,b.1],fun i p e=>?_⟩;by_cases h:i<L.length
 ·rw[ZK h]at e;obtain⟨x,us,h1,h2⟩:=a.2 i p e;exact⟨x,us,by rw[ZK (by rw[a.1];exact h)];exact h1,h2⟩
 ·rw[ZP Aj]at e;obtain⟨x,us,h1,h2⟩:=b.2 _ p e;exact⟨x,us,by rw[ZP (by rw[a.1];lia),a.1];exact h1,h2⟩
theorem f'.one{H:Hp}{a:Addr}{us:List V}{ps:List Pr}(h:H a=some (.lst us))(P:fN H us ps):f' H [.ref a] [ps]:=by
 refine⟨rfl,fun i q e=>?_⟩
 match i,e with
 |0,e=>cases e;exact⟨a,us,rfl,h,P⟩
 |i+1,e=>simp at e
def c_(m:Nat)(f:Nat→Option Int):List V:=(Z6 m).map fun j=>bC (f j)
theorem de(m:Nat)(f:Nat→Option Int):(c_ m f).length=m:=by simp[c_]
theorem dh{m j:Nat}{f:Nat→Option Int}(h:j<m):(c_ m f)[j]?=some (bC (f j)):=by simp[c_,h]
theorem qD(m:Nat)(f:Nat→Option Int):c_ (m+1) f=c_ m f++[bC (f m)]:=by simp[c_,List.range_succ]
structure jf(H:Hp)(as:List Addr)(f:Nat→Nat→Option Int)(n m:Nat):Prop where
 len:as.length=n
 row:∀(i:Nat)(a:Addr),as[i]?=some a→H a=some (.lst (c_ m (f i)))
theorem jf.same{H H':Hp}{as:List Addr}{f:Nat→Nat→Option Int}{n m:Nat}(t:jf H as f n m)(s:av H H'):jf H' as f n m:=⟨t.len,fun i a e=>s _ _ (t.row i a e)⟩
theorem jf.at{H:Hp}{as:List Addr}{f:Nat→Nat→Option Int}{n m i:Nat}(t:jf H as f n m)(h:i<n):∃a,as[i]?=some a∧(as.map V.ref)[i]?=some (.ref a)∧H a=some (.lst (c_ m (f i))):=by
 have hi:i<as.length:=by rw[t.len];exact h
 refine⟨as[i],by simp[hi],by simp[hi],t.row i _ (by simp[hi])⟩
def Tab(H H':Hp)(e:Addr)(f:Nat→Nat→Option Int)(n m:Nat):Prop:=∃as:List Addr,H' e=some (.lst (as.map V.ref))∧H e=none∧jf H' as f n m∧∀a∈as,H a=none
structure BN(K:W.Frag)(C:Addr):Prop where
 cl:wH K C
 out:bW K C "out"
 into:bW K C "into"
 kM:bW K C "ending"
 jB:bW K C "brought"
def gM(o p:Int)(e b:Addr):List (Str×V):=[("out", .int o),("into", .int p),("ending", .ref e),("brought", .ref b)]
theorem JC(o p:Int)(e b:Addr):(gM o p e b).lookup ("out":Str)=some (V.int o):=by kernel_rfl
theorem Fe(o p:Int)(e b:Addr):(gM o p e b).lookup ("into":Str)=some (V.int p):=by kernel_rfl
theorem iu(o p:Int)(e b:Addr):(gM o p e b).lookup ("ending":Str)=some (V.ref e):=by kernel_rfl
theorem gU(o p:Int)(e b:Addr):(gM o p e b).lookup ("brought":Str)=some (V.ref b):=by kernel_rfl
theorem Ff(o p:Int)(e b:Addr):(gM o p e b).lookup ("brought_behind":Str)=none:=by kernel_rfl
theorem OG(o p:Int)(e b:Addr):br "brought" (.ref b) (br "ending" (.ref e) (br "into" (.int p) (br "out" (.int o) [])))=gM o p e b:=by kernel_rfl
def r6(f g:Nat→Option Int)(o p:Int):Nat→Option Int
 |0=>none
 |j+1=>oX [f j,bB (g (j+1)) o,bB (r6 f g o p j) p]
theorem BO(f:Nat→Nat→Option Int)(o p:Int)(i:Nat):∀j,r6 (dE f o p i) (Bq f o p i) o p j=Bq f o p (i+1) j
 |0=>by unfold r6 Bq;rfl
 |j+1=>by
  rw[r6,Bq,BO f o p i j];rfl
theorem iQ(f:Nat→Nat→Option Int)(o p:Int)(j:Nat):Bq f o p 0 j=none:=by unfold Bq;rfl
inductive lR(vs:List V)(H:Hp)(Q:VK)(u3:XK):Prop
 |mk (a:Addr) (os:List (Option Int)) (_:vs=[.ref a]) (_:H a=some (.lst (os.map bC))) (_:os.length≤1000) (_:∀H',av H H'→Q (bC (oX os)) H'):lR vs H Q u3
inductive xk(vs:List V)(H:Hp)(Q:VK)(u3:XK):Prop
 |mk (o:Option Int) (p:Int) (_:vs=[bC o, .int p]) (_:Q (bC (bB o p)) H):xk vs H Q u3
inductive Ay(vs:List V)(H:Hp)(Q:VK)(u3:XK):Prop
 |mk (w b:Option Int) (_:vs=[bC w,bC b]) (_:Q (bC (HR w b)) H):Ay vs H Q u3
inductive qE(C:Addr)(vs:List V)(H:Hp)(Q:VK)(u3:XK):Prop
 |mk (x e a dx te tb:Addr) (o p:Int) (m:Nat) (f g:Nat→Option Int) (_:vs=[.ref x, .ref e, .ref a]) (_:H x=some (.ins C dx (gM o p te tb))) (_:H e=some (.lst (c_ m f))) (_:H a=some (.lst (c_ (m+1) g))) (_:m≤1000) (_:∀H' r,av H H'→H r=none→H' r=some (.lst (c_ (m+1) (r6 f g o p)))→Q (.ref r) H'):qE C vs H Q u3
def Fg(H:Hp)(v:V)(shut:List Pr):Prop:=(v= .cL∧shut=[])∨∃l us,v= .ref l∧H l=some (.lst us)∧fN H us shut
def ba(p:Pr):List Key:=[.inl p.1, .inl p.2]
def m8(kvs:List (List Key×V))(shut:List Pr):Prop:=∀p:Pr,(bA kvs (ba p)).isSome=decide (p∈shut)
inductive xl(vs:List V)(H:Hp)(Q:VK)(u3:XK):Prop
 |mk (v:V) (shut:List Pr) (_:vs=[v]) (_:Fg H v shut) (_:shut.length≤1000) (_:∀H' d kvs,av H H'→H' d=some (.dT kvs)→m8 kvs shut→Q (.ref d) H'):xl vs H Q u3
theorem fN.last{H:Hp}{xs:List V}{ps:List Pr}(P:fN H xs ps)(cB:ps≠[]):∃t,sM xs (-1)=some (.ref t)∧H t=some (.tup [.int (ke ps).1, .int (ke ps).2]):=by
 have hp:0<ps.length:=List.length_pos_iff.mpr cB;have hl:=P.1;obtain⟨t,h1,h2⟩:=P.Lo (k:=ps.length-1) (by lia);refine⟨t,?_,h2⟩;have e:xs=xs.take (ps.length-1)++[V.ref t]:=by
  apply List.ext_getElem?;intro n;by_cases hn:n<ps.length-1
  ·rw[ZK (by rw[List.length_take];lia),List.getElem?_take,Hz hn]
  ·rw[ZP (by rw[List.length_take];lia),List.length_take];by_cases yq:n=ps.length-1
   ·subst yq;rw[h1];have:ps.length-1-min (ps.length-1) xs.length=0:=by lia
    rw[this];rfl
   ·rw[List.getElem?_eq_none Aj,List.getElem?_eq_none Z_]
 rw[e];exact yM _ _
theorem xm(p q:Pr):uR (iK p) (iK q)=decide (p=q):=by
 simp only[iK,uR,wO,Bool.and_true];rw[Bool.eq_iff_iff];simp[Prod.ext_iff]
theorem Fh{m j:Nat}{f:Nat→Option Int}{u:Option Int}:(c_ m f).set j (bC u)=c_ m (fun k=>if k=j then u else f k):=by
 apply List.ext_getElem?;intro k;by_cases hk:k<m
 ·rw[dh hk];by_cases e:j=k
  ·subst e;rw[List.getElem?_set_self (by rw[de];exact hk)];simp
  ·rw[List.getElem?_set_ne e,dh hk];have:¬k=j:=fun z=>e z.symm
   simp[this]
 ·rw[List.getElem?_eq_none (by rw[List.length_set,de];lia),List.getElem?_eq_none (by rw[de];lia)]
end QF
namespace L2
open PySem PySem.Spec PyProof.Rows PySem.W PySem.Calls
section
variable{X:Cx}{tg:Expr}
end
section
variable{X:Cx}
end
section
variable{X:Cx}
end
end L2
namespace QF
open PySem L2
def SI(fs:List Form)(x t:Str):Bool:=decide (x=t)||fs.any fun f=>(decide (f.1=x)&&decide (f.2.1=t))||(decide (f.1=t)&&decide (f.2.1=x))
def OH(fs:List Form)(t:Str):List Str:=[t]++(fs.filter fun f=>decide (f.1=t)).map (·.2.1)++(fs.filter fun f=>decide (f.2.1=t)).map (·.1)
def JD(p:Nat→Bool):Nat→Int
 |0=> -1
 |n+1=>if p n then(n:Int)else JD p n
structure NS where
 ws:List Str
 ts:List Str
 fs:List Form
 span:Nat
def NS.p(c:NS)(t:Str)(i:Nat):Bool:=match c.ws[i]? with
 |some x=>SI c.fs x t
 |none=>false
def NS.OI(c:NS)(n:Nat):List Int:=c.ts.map fun t=>JD (c.p t) n
def NS.low(c:NS)(n:Nat):Int:=((c.OI n).min?).getD (-1)
def NS.at_(c:NS)(h:Nat):Option Pr:=if c.low h<c.low (h+1)∧(h:Int)-c.low (h+1)<c.span then some (c.low (h+1),(h:Int))else none
def NS.told(c:NS)(k:Nat):List Pr:=(Z6 k).filterMap c.at_
def NS.holds(c:NS)(l h:Nat):Bool:=c.ts.all fun t=>(((c.ws.map fun x=>decide (x∈OH c.fs t)).drop l).take (h-l)).any id
def NS.ok(c:NS)(l h:Nat):Bool:=c.holds l (h+1)&&!(c.holds (l+1) (h+1))&&!(c.holds l h)
def NS.row(c:NS)(l k:Nat):List Pr:=(Z6 k).filterMap fun d=>if c.ok l (l+d)=true then some ((l:Int),((l+d:Nat):Int))else none
def NS.abB(c:NS)(i:Nat):List Pr:=(Z6 i).flatMap fun l=>c.row l (min c.ws.length (l+c.span)-l)
end QF
namespace L2
open PySem PySem.Spec PyProof.Rows PySem.W PySem.Calls
section
variable{X:Cx}{tg:Expr}
end
section
variable{pg:Program}{wd:World}{Ar:Around}{sh:Shared}{Rs:Result→Shared→Prop}{it:Addr}{fp wr:List Addr}{Gn:Array GenState→Array GenState→Prop}{n:Nat}{Pv:Nat→Value→Prop}{Sv:Nat→Shared→Prop}
end
section
variable{X:Cx}
end
end L2
namespace QF
open PySem L2
def yr(q p:Pr):Prop:=q.1<p.1∧q.2<p.2
def gp(o i:Int)(q p:Pr):Int:=o*(p.1-q.1-1)+i*(p.2-q.2-1)
structure Wy(g:Pr→Option Int)(ps:List Pr):Prop where
 ne:ps≠[]
 ok:∀p∈ps,(g p).isSome=true
 up:ps.Pairwise yr
def vl(g:Pr→Option Int)(o i:Int):List Pr→Int
 |[]=>0
 |[p]=>(g p).getD 0
 |p::q::r=>(g p).getD 0-gp o i p q+vl g o i (q::r)
def gL(ps:List Pr):Pr:=ps.headD (0,0)
def lstP(ps:List Pr):Pr:=ps.getLastD (0,0)
theorem dM{ps:List Pr}{p:Pr}:lstP (ps++[p])=p:=by simp[lstP]
theorem xn(g:Pr→Option Int)(o i:Int)(q:Pr)(bs:List Pr):∀(as:List Pr),vl g o i (as++q::bs)=vl g o i (as++[q])+vl g o i (q::bs)-(g q).getD 0
 |[]=>by simp only[List.nil_append,vl];lia
 |[a]=>by
  simp only[List.cons_append,List.nil_append,vl]
  lia
 |a::b::r=>by
  have ih:=xn g o i q bs (b::r);simp only[List.cons_append]at ih⊢;simp only[vl];rw[ih]
  lia
theorem oZ(g:Pr→Option Int)(o i:Int){ps:List Pr}(cB:ps≠[])(p:Pr):vl g o i (ps++[p])=(g p).getD 0+vl g o i ps-gp o i (lstP ps) p:=by
 obtain⟨qs,q,rfl⟩:∃qs q,ps=qs++[q]:=⟨ps.dropLast,ps.getLast cB,(List.dropLast_concat_getLast cB).symm⟩
 rw[dM,List.append_assoc];have:=xn g o i q [p] qs;simp only[List.singleton_append]at this⊢;rw[this];simp only[vl]
 lia
theorem Wy.one{g:Pr→Option Int}{p:Pr}(h:(g p).isSome=true):Wy g [p]:=by
 refine⟨MD,fun q hq=>?_,MD⟩;have e:q=p:=by simpa using hq
 rw[e];exact h
theorem qF{a b c:Pr}(h1:yr a b)(h2:yr b c):yr a c:=⟨Int.lt_trans h1.1 h2.1,Int.lt_trans h1.2 h2.2⟩
theorem pw_lst{ps:List Pr}(h:ps.Pairwise yr){q:Pr}(hq:q∈ps):q=lstP ps∨yr q (lstP ps):=by
 have cB:ps≠[]:=fun z=>by rw[z]at hq;cases hq
 obtain⟨qs,x,rfl⟩:∃qs x,ps=qs++[x]:=⟨ps.dropLast,ps.getLast cB,(List.dropLast_concat_getLast cB).symm⟩
 rw[dM];rcases List.mem_append.mp hq with hq|hq
 ·exact .inr ((List.pairwise_append.mp h).2.2 q hq x (MD))
 ·exact .inl (by simpa using hq)
theorem Wy.snoc{g:Pr→Option Int}{ps:List Pr}{p:Pr}(w:Wy g ps)(h:(g p).isSome=true)(s:yr (lstP ps) p):Wy g (ps++[p]):=by
 refine⟨MD,fun q hq=>?_,Τ ⟨w.up,MD,fun a ha b hb=>?_⟩⟩
 ·rcases List.mem_append.mp hq with hq|hq
  ·exact w.ok q hq
  ·have:q=p:=by simpa using hq
   rw[this];exact h
 ·have:b=p:=by simpa using hb
  rw[this];rcases pw_lst w.up ha with e|e
  ·rw[e];exact s
  ·exact qF e s
theorem Wy.split{g:Pr→Option Int}{ps:List Pr}(w:Wy g ps):∃qs,ps=qs++[lstP ps]∧(∃v,g (lstP ps)=some v)∧(qs=[]∨(Wy g qs∧yr (lstP qs) (lstP ps))):=by
 obtain⟨qs,x,rfl⟩:∃qs x,ps=qs++[x]:=⟨ps.dropLast,ps.getLast w.ne,(List.dropLast_concat_getLast w.ne).symm⟩
 rw[dM];refine⟨qs,rfl,Option.isSome_iff_exists.mp (w.ok x (MD)),?_⟩;by_cases e:qs=[]
 ·exact .inl e
 ·have h:=List.pairwise_append.mp w.up;refine .inr ⟨⟨e,fun q hq=>w.ok q (Ι hq),h.1⟩,h.2.2 _ ?_ x (MD)⟩;obtain⟨rs,y,rfl⟩:∃rs y,qs=rs++[y]:=⟨qs.dropLast,qs.getLast e,(List.dropLast_concat_getLast e).symm⟩
  rw[dM];simp
theorem cS{ps:List Pr}(h:ps≠[]):lstP ps∈ps:=by
 obtain⟨rs,y,rfl⟩:∃rs y,ps=rs++[y]:=⟨ps.dropLast,ps.getLast h,(List.dropLast_concat_getLast h).symm⟩
 rw[dM];simp
def lf(f:Nat→Nat→Option Int)(p:Pr):Option Int:=if 0≤p.1∧0≤p.2 then f p.1.toNat p.2.toNat else none
theorem qG(f:Nat→Nat→Option Int)(i j:Nat):lf f ((i:Int),(j:Int))=f i j:=by simp[lf]
theorem BP{f:Nat→Nat→Option Int}{p:Pr}(h:(lf f p).isSome=true):∃i j:Nat,p=((i:Int),(j:Int)):=by
 unfold lf at h;split at h
 ·rename_i hh
  exact⟨p.1.toNat,p.2.toNat,Prod.ext Z_ (by simp;lia)⟩
 ·cases h
def Qx(f:Nat→Nat→Option Int)(o p:Int)(i j:Nat)(v:Int):Prop:=∃ps,Wy (lf f) ps∧(lstP ps).1<(i:Int)∧(lstP ps).2<(j:Int)∧v=vl (lf f) o p ps-(o*((i:Int)-1-(lstP ps).1)+p*((j:Int)-1-(lstP ps).2))
def Qy(f:Nat→Nat→Option Int)(o p:Int)(q:Pr)(v:Int):Prop:=∃ps,Wy (lf f) ps∧lstP ps=q∧v=vl (lf f) o p ps
theorem BQ{f:Nat→Nat→Option Int}{o p:Int}{i j:Nat}{b:Option Int}(h:fY (Qx f o p i j) b):fY (Qy f o p ((i:Int),(j:Int))) (HR (f i j) b):=by
 cases e:f i j with
 |none=>
  rintro v ⟨ps,w,el,rfl⟩;obtain⟨qs,_,⟨x,hx⟩,_⟩:=w.split;rw[el,qG,e]at hx;cases hx
 |some x=>
  have eg:lf f ((i:Int),(j:Int))=some x:=by rw[qG];exact e
  have Az:∀ps,Wy (lf f) ps→lstP ps=((i:Int),(j:Int))→vl (lf f) o p ps=x∨∃v,Qx f o p i j v∧vl (lf f) o p ps=x+v:=fun ps w el=>by
   obtain⟨qs,eq,_,hq⟩:=w.split;rw[el]at eq hq;rcases hq with rfl|⟨wq,st⟩
   ·left
    rw[eq];simp[vl,eg]
   ·right
    refine⟨_,⟨qs,wq,st.1,st.2,rfl⟩,?_⟩;rw[eq,oZ _ _ _ wq.ne,eg];simp only[gp,Option.getD_some];have e1:(i:Int)-(lstP qs).1-1=(i:Int)-1-(lstP qs).1:=by lia
    have e2:(j:Int)-(lstP qs).2-1=(j:Int)-1-(lstP qs).2:=by lia
    rw[e1,e2]
    lia
  have alone:Qy f o p ((i:Int),(j:Int)) x:=⟨[((i:Int),(j:Int))], .one (by rw[eg];rfl),rfl,by simp[vl,eg]⟩
  have more:∀v,Qx f o p i j v→Qy f o p ((i:Int),(j:Int)) (x+v):=by
   rintro v ⟨ps,w,l1,l2,rfl⟩;refine⟨ps++[((i:Int),(j:Int))],w.snoc (by rw[eg];rfl) ⟨l1,l2⟩,dM,?_⟩;rw[oZ _ _ _ w.ne,eg];simp only[gp,Option.getD_some];have e1:(i:Int)-(lstP ps).1-1=(i:Int)-1-(lstP ps).1:=by lia
   have e2:(j:Int)-(lstP ps).2-1=(j:Int)-1-(lstP ps).2:=by lia
   rw[e1,e2]
   lia
  cases b with
  |none=>
   refine⟨alone,?_⟩;rintro v ⟨ps,w,el,rfl⟩;rcases Az ps w el with h1|⟨u,hu,_⟩
   ·lia
   ·exact X7 hu (h u)
  |some m=>
   simp only[HR];split
   ·refine⟨alone,?_⟩;rintro v ⟨ps,w,el,rfl⟩;rcases Az ps w el with h1|⟨u,hu,h2⟩
    ·lia
    ·have:=h.2 u hu
     lia
   ·refine⟨more m h.1,?_⟩;rintro v ⟨ps,w,el,rfl⟩;rcases Az ps w el with h1|⟨u,hu,h2⟩
    ·lia
    ·have:=h.2 u hu
     lia
theorem y4{f:Nat→Nat→Option Int}{ps:List Pr}(w:Wy (lf f) ps):0≤(lstP ps).1∧0≤(lstP ps).2:=by
 obtain⟨a,b,e⟩:=BP (w.ok _ (cS w.ne));rw[e];simp
theorem fZ(f:Nat→Nat→Option Int)(o p:Int):∀i j:Nat,fY (Qx f o p i j) (Bq f o p i j)
 |0,j=>by
  unfold Bq;rintro v ⟨ps,w,l1,_⟩;have:=y4 w;simp at l1
  lia
 |i+1,0=>by
  unfold Bq;rintro v ⟨ps,w,_,l2,_⟩;have:=y4 w;simp at l2
  lia
 |i+1,j+1=>by
  rw[Bq];refine(yX (BQ (fZ f o p i j)) ((fZ f o p i (j+1)).less o) ((fZ f o p (i+1) j).less p)).iff fun v=>?_
  constructor
  ·rintro(⟨ps,w,el,rfl⟩|⟨u,⟨ps,w,l1,l2,rfl⟩,rfl⟩|⟨u,⟨ps,w,l1,l2,rfl⟩,rfl⟩)
   ·refine⟨ps,w,by rw[el];simp;lia,by rw[el];simp;lia,?_⟩;rw[el];have e1:((i+1:Nat):Int)-1-(i:Int)=0:=by lia
    have e2:((j+1:Nat):Int)-1-(j:Int)=0:=by lia
    simp only[e1,e2,Int.mul_zero]
    lia
   ·refine⟨ps,w,by lia,by lia,?_⟩;have e1:((i+1:Nat):Int)-1-(lstP ps).1=((i:Int)-1-(lstP ps).1)+1:=by lia
    rw[e1,Int.mul_add]
    lia
   ·refine⟨ps,w,by lia,by lia,?_⟩;have e1:((j+1:Nat):Int)-1-(lstP ps).2=((j:Int)-1-(lstP ps).2)+1:=by lia
    rw[e1,Int.mul_add]
    lia
  ·rintro⟨ps,w,l1,l2,rfl⟩;by_cases h1:(lstP ps).1<(i:Int)
   ·right;left
    refine⟨_,⟨ps,w,h1,l2,rfl⟩,?_⟩;have e1:((i+1:Nat):Int)-1-(lstP ps).1=((i:Int)-1-(lstP ps).1)+1:=by lia
    rw[e1,Int.mul_add]
    lia
   ·by_cases h2:(lstP ps).2<(j:Int)
    ·right;right
     refine⟨_,⟨ps,w,l1,h2,rfl⟩,?_⟩;have e1:((j+1:Nat):Int)-1-(lstP ps).2=((j:Int)-1-(lstP ps).2)+1:=by lia
     rw[e1,Int.mul_add]
     lia
    ·left
     have a1:(lstP ps).1=(i:Int):=by lia
     have a2:(lstP ps).2=(j:Int):=by lia
     refine⟨ps,w,Prod.ext a1 a2,?_⟩;have e1:((i+1:Nat):Int)-1-(lstP ps).1=0:=by lia
     have e2:((j+1:Nat):Int)-1-(lstP ps).2=0:=by lia
     simp only[e1,e2,Int.mul_zero]
     lia
termination_by i j=>(i,j)
theorem tO(f:Nat→Nat→Option Int)(o p:Int)(i j:Nat):fY (Qy f o p ((i:Int),(j:Int))) (dE f o p i j):=BQ (fZ f o p i j)
def fr(f:Nat→Nat→Option Int)(n m:Nat)(a b:Nat):Option Int:=if a<n∧b<m then f (n-1-a) (m-1-b)else none
def DS(f:Nat→Nat→Option Int)(n m:Nat):Prop:=∀i j,(f i j).isSome=true→i<n∧j<m
theorem xo(c:Case)(shut:List Pr)(p:Pr):lf (iF c shut) p=oC c shut p:=by
 unfold lf;split
 ·rename_i h
  unfold iF
  congr 1
  exact Prod.ext Z_ (by simp;lia)
 ·rename_i h
  unfold oC;split
  ·rfl
  ·exact(c.pw_out Aj).symm
theorem Lu(c:Case)(shut:List Pr):DS (iF c shut) c.xs.length c.ys.length:=fun i j h=>by
 unfold iF oC at h;split at h
 ·cases h
 ·obtain⟨w,hw⟩:=Option.isSome_iff_exists.mp h;have:=c.pw_in hw;simp at this
  lia
theorem BR{ps:List Pr}(h:ps≠[]):ke ps=lstP ps:=by
 obtain⟨qs,x,rfl⟩:∃qs x,ps=qs++[x]:=⟨ps.dropLast,ps.getLast h,(List.dropLast_concat_getLast h).symm⟩
 rw[nK,dM]
theorem Lv{c:Case}{shut:List Pr}{p:Pr}{w:Int}(h:oC c shut p=some w):c.pw p=some w∧p∉shut:=by
 unfold oC at h;split at h
 ·cases h
 ·rename_i hs
  exact⟨h,hs⟩
theorem xp{c:Case}{shut:List Pr}:∀{k:Nat}{ps:List Pr},ps.length=k→oY c shut ps→Wy (oC c shut) ps∧wW c ps=vl (oC c shut) c.out c.into ps
 |0,ps,hk,o=>X7 (List.length_eq_zero_iff.mp hk) (kJ o.1).1
 |k+1,ps,hk,o=>by
  obtain⟨qs,eq,⟨w,hw⟩,hq⟩:=o.split;generalize ke ps=p at eq hw hq;subst eq;have hp:=Lv hw;rcases hq with rfl|⟨oq,st⟩
  ·exact⟨.one (by rw[hw];rfl),by rw[List.nil_append,Ls hp.1];simp[vl,hw]⟩
  ·have hlen:qs.length=k:=by simpa using hk
   obtain⟨wq,vq⟩:=xp hlen oq;have el:=BR wq.ne;rw[yZ,el]at st;refine⟨wq.snoc (by rw[hw];rfl) st,?_⟩;rw[HQ wq.ne hp.1,oZ _ _ _ wq.ne,hw,vq,el];rfl
theorem BS{c:Case}{shut:List Pr}:∀{k:Nat}{ps:List Pr},ps.length=k→Wy (oC c shut) ps→oY c shut ps
 |0,ps,hk,w=>X7 (List.length_eq_zero_iff.mp hk) w.ne
 |k+1,ps,hk,w=>by
  obtain⟨qs,eq,⟨v,hv⟩,hq⟩:=w.split;generalize lstP ps=p at eq hv hq;subst eq;rcases hq with rfl|⟨wq,st⟩
  ·exact .one hv
  ·have hlen:qs.length=k:=by simpa using hk
   exact(BS hlen wq).snoc hv (yZ.mpr (by rw[BR wq.ne];exact st))
theorem y6{c:Case}{shut:List Pr}{ps:List Pr}:oY c shut ps↔Wy (lf (iF c shut)) ps:=by
 have:lf (iF c shut)=oC c shut:=by funext p;exact xo c shut p
 rw[this];exact⟨fun o=>(xp rfl o).1,fun w=>BS rfl w⟩
theorem HU{c:Case}{shut:List Pr}{ps:List Pr}(o:oY c shut ps):wW c ps=vl (lf (iF c shut)) c.out c.into ps:=by
 have:lf (iF c shut)=oC c shut:=by funext p;exact xo c shut p
 rw[this];exact(xp rfl o).2
end QF
namespace L2
open PySem PySem.Spec PyProof.Rows PySem.W PySem.Calls
section
variable{X:Cx}
open Classical in
end
end L2
namespace QF
open PySem L2
theorem fN.first{H:Hp}{xs:List V}{ps:List Pr}(P:fN H xs ps)(cB:ps≠[]):∃t,sM xs 0=some (.ref t)∧H t=some (.tup [.int (gL ps).1, .int (gL ps).2]):=by
 cases ps with
 |nil=>exact absurd rfl cB
 |cons p r=>
  obtain⟨t,h1,h2⟩:=P.2 0 p rfl;exact⟨t,ar (j:=0) h1,h2⟩
end QF
namespace L2
open PySem PySem.Spec PyProof.Rows PySem.W PySem.Calls
section
variable{prog:Program}{w:World}{κ:Type}[DecidableEq κ]{knd:HeapKind prog w κ}{A:Around}{E:Value→Shared→Prop}{s:Shared}
theorem v7{α β:Type}(f:α→β):∀(xs:List α)(j:Nat),(xs.eraseIdx j).map f=(xs.map f).eraseIdx j
 |[],_=>MD
 | _::_,0=>MD
 | _::r,j+1=>by simp[v7 f r j]
theorem De{xs:List (κ×Addr×Value)}(hn:(xs.map (·.1)).Nodup):∀{j:Nat}{k:κ}{p:Addr×Value},xs[j]?=some (k,p)→xs.eraseIdx j=xs.filter fun x=>decide (x.1≠k):=by
 induction xs with
 |nil=>intro j k p h;simp at h
 |cons x r ih=>
  intro j k p h;have D_:=List.nodup_cons.mp (by simpa using hn:(x.1::r.map (·.1)).Nodup);cases j with
  |zero=>
   have:x=(k,p):=by simpa using h
   subst this;have hf:r.filter (fun x=>decide (x.1≠k))=r:=List.filter_eq_self.mpr fun y hy=>by
    have:y.1≠k:=fun e=>D_.1 (List.mem_map.mpr ⟨y,hy,e⟩)
    simpa using this
   simp only[List.eraseIdx_cons_zero,List.filter_cons];rw[hf];simp
  |succ j=>
   have hj:r[j]?=some (k,p):=by simpa using h
   have hx:x.1≠k:=fun e=>D_.1 (e▸(List.mem_map.mpr ⟨(k,p),Y7 hj,rfl⟩))
   simp only[List.eraseIdx_cons_succ,List.filter_cons];rw[ih D_.2 hj,Hz (by simpa using hx)]
theorem xq{d a:Addr}{xs:List (κ×Addr×Value)}{k:κ}{p:Addr×Value}{Q:Option DictEntry→Shared→Prop}(hu:knd.room A)(oI:knd.is s.heap k a)(hm:s.heap.DictOfH knd d xs)(hp:atKey xs k=some p)(hsz:xs.length≤sizeLine)
  (h:∀h' e,e.val=p.2→h'.DictOfH knd d (xs.filter fun x=>decide (x.1≠k))→Heap.SameBut d s.heap h'→Q (some e) {s with heap:=h',toks:=s.toks+knd.draws k}):wpAny (model prog w) A (Builtin.Dict.takeOut d (.ref a)) Q E s:=by
 obtain⟨o,es,ep,ho,hc,hd,he,SJ,hn⟩:=hm;unfold Builtin.Dict.takeOut
 try with_reducible refine wpAny_holding ?_
 refine wpAny_bind (knd.pyHash hu oI ?_);refine wpAny_bind (wpAny_dictFind_heap (s:={s with toks:=s.toks+knd.draws k}) hu oI ho hd he SJ hn ?_ ?_)
 ·intro Df;rw[atKey_none_of_get Df]at hp;cases hp
 ·intro j q hj;have eq:q=p:=by rw[atKey_of_get hn hj]at hp;exact YA hp
  subst eq;refine wpAny_bind (wpAny_dictEntries (s:={s with toks:=s.toks+knd.draws k}) ho hd ?_);rw[entry_at he j,hj];refine wpAny_bind (wpAny_updateDictKeys (hz:=by have e:=size_of_entries he;lia) (s:={s with toks:=s.toks+knd.draws k}) ho hd (wpAny_pure (h _ _ rfl ⟨_,_,ep+1,Heap.get?_update_self _ ho (Obj.isFreed_of_dict (Obj.data_mapDictKeys hd _)),
   hc.mapDictKeys _,Obj.data_mapDictKeys hd _,?_,?_,?_⟩ (Heap.SameBut.update ..))))
  ·rw[←De hn hj,v7,←he];obtain⟨l⟩:=es;simp
  ·intro x hx;exact knd.keeps (SJ x (List.mem_filter.mp hx).1) ho hd (Heap.SameBut.update ..)
  ·exact hn.sublist (List.filter_sublist.map _)
theorem AA(d a:Addr):
  MeetsIn prog w (Builtin.«dict.pop» ⟨[.ref d, .ref a],[]⟩) (fun A R s=>knd.room A.in1∧∃k xs p,knd.is s.heap k a∧s.heap.DictOfH knd d xs∧xs.length≤sizeLine∧atKey xs k=some p∧
   ∀h',h'.DictOfH knd d (xs.filter fun x=>decide (x.1≠k))→Heap.SameBut d s.heap h'→R (.ok (.ret p.2)) {s with heap:=h',toks:=s.toks+knd.draws k}):=
 .of_wp fun A R s ⟨hu,k,xs,p,oI,hm,hsz,hp,h⟩=>by
  obtain⟨o,es,ep,ho,hc,hd,he,SJ,hn⟩:=id hm;have cB:es.isEmpty=false:=by
   cases hx:xs with
   |nil=>rw[hx]at hp;cases hp
   |cons x r=>
    have:=size_of_entries he;rw[hx]at this;simp at this;rw[Array.isEmpty_eq_false_iff];intro e;rw[e]at this;simp at this
  unfold Builtin.«dict.pop»;refine wpAny_bind ?_;unfold Builtin.Dict.keyAndDefault;refine wpAny_bind (wpAny_notOrdered_dict hm.typeIs ?_);show wpAny _ _ (pure (d,Value.ref a,none)) _ _ s;refine wpAny_pure ?_;have OJ:(keyPart (Value.ref a)).isSome=false:=rfl;simp only[OJ,Bool.false_eq_true,if_false];refine wpAny_bind (wpAny_dictEntries ho hd (Z5 (Xs ?_)));rw[cB];simp only[Bool.false_eq_true,if_false];refine wpAny_bind (xq hu oI hm hp hsz fun h' e XB Am m6=>?_);simp only[Option.isNone_some,Bool.false_eq_true,if_false];exact Z5 (wpAny_letGo (Xs ⟨e.val,rfl,by rw[XB];exact h h' Am m6⟩))
end
section
variable{X:Cx}{pins:List (Addr×Obj)}{σ:St}{H:Hp}{s:Shared}{a:Addr}{u:Value}{A:Around}{E:Value→Shared→Prop}{kvs:List (List Key×V)}
theorem KT.drop{xs:List (List Key×Addr×Value)}(r:KT H kvs xs)(k:List Key):KT H (jc kvs k) (xs.filter fun x=>decide (x.1≠k)):=by
 unfold jc
 induction r with
 |nil=>exact .nil
 |cons z t ih=>
  simp only[List.filter_cons];rw[z.1];split
  ·exact .cons z ih
  ·exact ih
theorem Lw{v:V}{k:List Key}{b:Addr}{Q:Value→Shared→Prop}(hu:A.units+1<cLine)(I:Inv X pins σ H s)(e:H a=some (.dT kvs))(eb:H b=some (.tup (k.map kV)))(l:bA kvs k=some v)
  (h:∀w' s',Inv X pins σ (upd H a (.dT (jc kvs k))) s'→RelV v w'→Q w' s'):wpAny (model X.prog X.w) A (call (.builtin "dict.pop") [.ref a, .ref b]) Q E s:=by
 obtain⟨z,hd,xs,rel,dd⟩:=Jm I.bS e;have rv:=rel.val k;rw[l]at rv;obtain⟨w',hw,i7⟩:=kD.some_of rv;obtain⟨p,hp,rfl⟩:=Option.map_eq_some_iff.mp hw;refine call_meetsIn PySem.F.slot_dict_pop dd.typeIs PySem.F.entry_dict_pop (PySem.F.args_dict_pop_2 _ _) (AA (knd:=tupleKind (cX X.prog X.w)) a b)
  ⟨tupleKind_room_in1 hu,k,xs,p,nF I.bS eb,dd,by rw[←Paired.length rel];exact z,hp,fun h' Jn hs=>h _ _ ?_ i7⟩
 obtain⟨q,es,ep,hq,h2,h3,h4,_,h5⟩:=Jn;refine wK I (by rw[e];exact True.intro) hs ⟨q,hq⟩ ⟨ZX (yJ kvs k) z,hd,_,(rel.drop k).keeps fun c ys ec=>?_,q,es,ep,hq,h2,h3,h4,h5⟩;rw[ak (ja ec e (fun z=>nomatch z))];exact ec
end
inductive JE(x y:V)(H:Hp)(Q:VK):Prop
 |mk (a b:Addr) (kvs:List (List Key×V)) (k:List Key) (v:V) (_:x= .ref a) (_:y= .ref b) (_:H a=some (.dT kvs)) (_:H b=some (.tup (k.map kV))) (_:bA kvs k=some v) (_:Q v (upd H a (.dT (jc kvs k)))):JE x y H Q
def OL(td ty:TE):TE:=fun σ H Q=>td σ H fun x H1=>∃a,x= .ref a∧RX H1 a∧ty σ H1 fun y H2=>JE x y H2 Q
theorem Fi{X:Cx}{o e:Expr}{apos eG:Pos}{td ty:TE}(hu:X.A.units+1<cLine)(ho:PE X o td)(he:PE X e ty)(m:M1 X o "pop" apos e eG):PE X (.Call (.Attribute o "pop" apos) [e] [] eG) (OL td ty):=by
 intro pins s σ H Q I h;refine wpAny_Call_method m.base m.uL m.line PySem.F.plainAttrs_dict PySem.F.slot_dict_pop PySem.F.type_dict_pop (cG (ho pins s σ H _ I h) fun u s1 ⟨x,H1,I1,rx,a,ex,d,q1⟩=>?_);subst ex;obtain rfl:u=Value.ref a:=rx;obtain⟨t1,t2,_⟩:=Es I1 d;refine⟨t1,t2,?_⟩;rw[m.trees];refine Calls.callWith_builtin rfl (Calls.evalArgs_plain (Calls.spliced_cons (cG (he pins s1 σ H1 _ I1 q1) fun iv s2 ⟨y,H2,I2,ry,q2⟩=>Calls.spliced_nil ?_)));obtain⟨a',b,kvs,k,v,e1,rfl,e2,e3,l,q⟩:=q2;cases e1;obtain rfl:iv=Value.ref b:=ry;exact Lw hu I2 e2 e3 l fun w' s3 I3 i7=>⟨v,_,I3,i7,q⟩
section
variable{prog:Program}{w:World}{A:Around}{E:Value→Shared→Prop}{s:Shared}{it d:Addr}{i ep:Nat}{od:Obj}{es:Array DictEntry}{Q:Option Value→Shared→Prop}
theorem Fj(hit:s.heap.IsValIter it d i es.size ep)(JF:s.heap.get? d=some od)(JG:od.data= .dict es ep)(hi:i<es.size)
  (hQ:∀h',h'.IsValIter it d (i+1) es.size ep→Heap.SameBut it s.heap h'→Q (some es[i].val) {s with heap:=h'}):wpAny (model prog w) A (pyNext (.ref it)) Q E s:=by
 obtain⟨o,ho,hc,hd⟩:=id hit;have T:=hit.typeIs;have Df:Builtin.Dict_items.ownsTuple "dict_valueiterator"=false:=Sz;unfold pyNext;refine wpAny_bind χ;refine wpAny_bind (Xs (Z5 (Z5 ?_)));first|refine wpAny_bind (wpAny_typeNameOfWhole_valiter T (Xs ?_))|refine wpAny_bind (wpAny_typeNameOf_valiter T (Xs ?_))
 refine wpAny_bind (wpAny_fieldsOf ho hd ?_);simp only[Df,Bool.false_eq_true,if_false];show wpAny _ _ (if (Value.ref d==Value.none)=true then _ else _) _ _ s;rw[Dy (show ¬((Value.ref d==Value.none)=true)from Bool.false_ne_true)];refine wpAny_bind (Xs (Z5 (wpAny_dictEntries JF JG ?_)));rw[if_neg K4];refine wpAny_bind (Xs (Z5 (wpAny_dictEpoch JF JG ?_)));rw[if_neg K4];refine wpAny_pure ?_;simp only[show ¬((i:Int)<0)from by lia,if_false,Int.toNat_natCast,Array.getElem?_eq_getElem hi];refine wpAny_bind ?_;first|refine wpAny_bind (wpAny_typeNameOfWhole_valiter T (Xs ?_))|refine wpAny_bind (wpAny_typeNameOf_valiter T (Xs ?_))
 refine wpAny_bind (wpAny_isOneOf_valiter T ?_);show wpAny _ _ (setField (.ref it) 1 (rawInt ((i:Int)+1))>>=_) _ _ s;refine wpAny_bind (wpAny_setField ho hd K4 ?_);have ht:(s.heap.update it (Obj.mapFields (·.setIfInBounds 1 (rawInt ((i:Int)+1))))).IsValIter it d (i+1) es.size ep:=
  ⟨_,Heap.get?_update_self _ ho (Obj.isFreed_of_fields (Obj.data_mapFields hd _)),(Obj.cls_mapFields ..).trans hc,by rw[Obj.data_mapFields hd];simp[rawInt]⟩
 refine wpAny_bind (wpAny_holding (Z5 (wpAny_isOneOf_valiter (s:={s with heap:=s.heap.update it (Obj.mapFields (·.setIfInBounds 1 (rawInt ((i:Int)+1))))}) ht.typeIs ?_)));refine wpAny_bind (wpAny_isOneOf_valiter (s:={s with heap:=s.heap.update it (Obj.mapFields (·.setIfInBounds 1 (rawInt ((i:Int)+1))))}) ht.typeIs ?_);show wpAny _ _ (pure es[i].val) _ _ _;exact Xs (Xs ⟨_,rfl,Xs (hQ _ ht (Heap.SameBut.update ..))⟩)
theorem HV(hh:A.handled=none)(hit:s.heap.IsValIter it d i es.size ep)(JF:s.heap.get? d=some od)(JG:od.data= .dict es ep)(hi:es.size≤i)
  (hQ:∀h',Heap.ExtBut it s.heap h'→Q none {s with heap:=h'}):wpAny (model prog w) A (pyNext (.ref it)) Q E s:=by
 obtain⟨o,ho,hc,hd⟩:=id hit;have T:=hit.typeIs;have Df:Builtin.Dict_items.ownsTuple "dict_valueiterator"=false:=Sz;unfold pyNext;refine wpAny_bind χ;refine wpAny_bind (Xs (Z5 (Z5 ?_)));first|refine wpAny_bind (wpAny_typeNameOfWhole_valiter T (Xs ?_))|refine wpAny_bind (wpAny_typeNameOf_valiter T (Xs ?_))
 refine wpAny_bind (wpAny_fieldsOf ho hd ?_);simp only[Df,Bool.false_eq_true,if_false];show wpAny _ _ (if (Value.ref d==Value.none)=true then _ else _) _ _ s;rw[Dy (show ¬((Value.ref d==Value.none)=true)from Bool.false_ne_true)];refine wpAny_bind (Xs (Z5 (wpAny_dictEntries JF JG ?_)));rw[if_neg K4];refine wpAny_bind (Xs (Z5 (wpAny_dictEpoch JF JG ?_)));rw[if_neg K4];refine wpAny_pure ?_;simp only[show ¬((i:Int)<0)from by lia,if_false,Int.toNat_natCast,Array.getElem?_eq_none hi];refine wpAny_bind ?_;first|refine wpAny_bind (wpAny_typeNameOfWhole_valiter T (Xs ?_))|refine wpAny_bind (wpAny_typeNameOf_valiter T (Xs ?_))
 show wpAny _ _ (setField (.ref it) 0 .none>>=_) _ _ s;refine wpAny_bind (wpAny_setField ho hd K4 ?_);show wpAny _ _ (newExc (.type "StopIteration") []>>=_) _ _ _;refine wpAny_bind ?_;simp only[newExc,newTuple];refine wpAny_bind (wpAny_newObj_type ?_ (by size_fits));refine wpAny_bind (m:=firstArgMember _ _) (wpAny_of_eq (a:=Value.none) (by first|rfl|(simp only[firstArgMember];rfl)) ?_);refine wpAny_newObj_type ?_ (by size_fits);simp only[raiseNew];refine wpAny_bind (wpAny_handled ?_);rw[show A.in1.handled=none from hh];refine wpAny_bind (Xs (wpAny_throw ?_));refine wpAny_bind (wpAny_isInstance (T:="StopIteration") (b:=true) ⟨_,Heap.get?_push_size _ rfl,rfl⟩ isSubtype_stop ?_);exact Xs (hQ _ (((Heap.SameBut.update ..).extBut.push _).push _))
end
theorem v8{α β:Type}{F:α→β→Prop}:∀{l:List α}{m:List β}{i:Nat}{a:α},Paired F l m→l[i]?=some a→∃b,m[i]?=some b∧F a b
 | _,_,_,_, .nil,e=>by simp at e
 | _,_,0,_, .cons r _,e=>by simp at e;subst e;exact⟨_,rfl,r⟩
 | _,_,i+1,_, .cons _ t,e=>by
  obtain⟨b,h,f⟩:=v8 (i:=i) t (by simpa using e);exact⟨b,by simpa using h,f⟩
def SK(d:Addr)(o:Obj)(kvs:List (List Key×V)):It:=
 ⟨fun i H=>H d=some (.sJ o (.dT kvs))∧i<kvs.length,fun i H x H'=>H'=H∧∃p,kvs[i]?=some p∧x=p.2,fun i H=>H d=some (.sJ o (.dT kvs))∧kvs.length≤i⟩
theorem BU{P:Program}{w:World}{H:Hp}{h:Heap}{d:Addr}{o:Obj}{kvs:List (List Key×V)}{es:Array DictEntry}{ep:Nat}(ok:lI P w H h)(e:H d=some (.sJ o (.dT kvs)))(hd:o.data= .dict es ep):
  h.get? d=some o∧es.size=kvs.length∧∀i (hi:i<es.size) p,kvs[i]?=some p→RelV p.2 es[i].val:=by
 obtain⟨q1,_,_,xs,r,o',qi,Qi,z1,z2,z3,z4,_⟩:=ok d _ e;rw[q1]at z1;cases z1;rw[hd]at z3;cases z3;have hs:=size_of_entries z4;have hl:=Paired.length r;refine⟨q1,by rw[hs,hl],fun i hi p hp=>?_⟩;obtain⟨x,hx,rx⟩:=v8 r hp;have e1:=entry_at z4 i;rw[hx,Array.getElem?_eq_getElem hi]at e1;have:es[i]=entryOfKey (tupleKind (cX P w)) x:=YA e1;rw[this];exact rx.2.2
theorem turn_val{P:Program}{w:World}{K:Frag}{tg:Expr}{it d:Addr}{o:Obj}{kvs:List (List Key×V)}{es:Array DictEntry}{ep:Nat}(hd:o.data= .dict es ep):Turn P w K tg (SK d o kvs) [it] it (fun i h=>h.IsValIter it d i es.size ep) where
 mem:=MD
 obj:=fun i h st b hb=>by
  have e:b=it:=by simpa using hb
  subst e;obtain⟨o,e,c,d⟩:=st;exact⟨o,e,fun v z=>by rw[d]at z;cases z⟩
 keep:=fun i h h' st k=>let ⟨o,ho,r⟩:=st;⟨o,k it (MD) o ho,r⟩
 item:=by
  intro X hP hw hK hc i pins s σ H E I hf st hg;subst hP hw hK;obtain⟨hg,hi⟩:=hg;obtain⟨f0,f1,f2,f3,f4,f5⟩:=hf it (MD);obtain⟨g1,g2,g3⟩:=BU I.bS hg hd;have sN:i<es.size:=by lia
  refine Fj st g1 hd sN fun h' aU sb=>?_
  have I1:Inv X pins σ H {s with heap:=h'}:=I.turned (t':=s.toks) (fun b o hb e=>(sb.2 b hb).trans e) f0 f1 f3 f4 f5;obtain⟨oi,q1,q2,q3⟩:=id aU;exact⟨_,rfl,yE (s:={s with heap:=h'}) q1 q2 q3 ZV ⟨_,H,I1,g3 i sN kvs[i] (by simp[hi]),⟨rfl,kvs[i],by simp[hi],rfl⟩,aU,fun b hb=>(hf b hb).1⟩⟩
 done:=by
  intro X hP hw hK hc i pins s σ H E I hf st hg;subst hP hw hK;obtain⟨hg,hi⟩:=hg;obtain⟨f0,f1,f2,f3,f4,f5⟩:=hf it (MD);obtain⟨g1,g2,g3⟩:=BU I.bS hg hd;exact HV (I.ok.hd hc) st g1 hd Aj fun h' eb=>⟨rfl,I.turned (t':=s.toks) (fun b o hb e=>eb b o hb e) f0 f1 f3 f4 f5⟩
 self:=fun _ _ _ _ _ st h=>wpAny_pyIter_valiter st h
section
variable{prog:Program}{w:World}{A:Around}{E:Value→Shared→Prop}{s:Shared}
theorem Dg(d:Addr)(hd:(d==sysModules)=false):MeetsIn prog w (Builtin.«dict.values» ⟨[.ref d],[]⟩) (fun _ R s=>s.TypeIs (.ref d) "dict"∧
   R (.ok (.ret (.ref s.heap.objs.size))) {s with heap:=s.heap.push {cls:= .type "dict_values",data:= .fields #[.ref d]}}):=
 .of_wp fun A R s ⟨ht,h⟩=>by
  refine wpAny_bind ?_;unfold Builtin.Dict.noArgs;refine wpAny_bind (wpAny_notOrdered_dict ht ?_);show wpAny _ _ (pure d) _ _ s;refine wpAny_pure ?_;show wpAny _ _ (Builtin.Dict.showsAll d>>=_) _ _ s;unfold Builtin.Dict.showsAll;rw[Dy (by rw[hd];exact Bool.false_ne_true)];exact Z5 (Xs (Z5 (wpAny_newObj_type (Xs ⟨_,rfl,h⟩))))
theorem Dh{v d:Addr}{od:Obj}{es:Array DictEntry}{ep:Nat}{Q:Value→Shared→Prop}(hv:s.heap.IsValuesView v d)(JF:s.heap.get? d=some od)(JG:od.data= .dict es ep)
  (hQ:Q (.ref s.heap.objs.size) {s with heap:=s.heap.push {cls:= .type "dict_valueiterator",data:= .fields #[.ref d, .int 0 0, .int es.size 0, .int ep 0]}}):wpAny (model prog w) A (pyIter (.ref v)) Q E s:=by
 obtain⟨ov,XC,aas,XD⟩:=id hv;refine wpAny_pyIter_slot hv.typeIs F.slot_dict_values_iter (wpAny_call_entry F.slot_dict_values_iter hv.typeIs F.entry_dict_values_iter ?_ (F.args_dict_values_iter_1 _));unfold Builtin.«dict_values.__iter__»;refine wpAny_bind (Xs (Z5 ?_));unfold Builtin.Dict_items.dictOf;refine wpAny_bind (wpAny_field XC XD (x:= .ref d) rfl (Xs (Z5 ?_)));unfold Builtin.Dict_items.newIterator;refine wpAny_bind (wpAny_dictEntries JF JG (Z5 (wpAny_dictEpoch JF JG ?_)));have Df:Builtin.Dict_items.ownsTuple "dict_valueiterator"=false:=Sz;simp only[Df,Bool.false_eq_true,if_false];refine wpAny_newObj_type (Xs ⟨_,rfl,"dict_valueiterator",_,⟨_,Heap.get?_push_size _ rfl,rfl⟩,F.slot_dict_valueiterator_next.lookup,?_⟩);simpa[rawInt]using hQ
end
def OM(eY:Hp)(tl:TE):TI:=fun σ H R=>tl σ H fun x H1=>∃d kvs,x= .ref d∧H1 d=some (.dT kvs)∧∀o,NF eY d→R (SK d o kvs) (upd H1 d (.sJ o (.dT kvs)))
theorem HW{X:Cx}(eY:Hp){tg o:Expr}{tl:TE}{apos eG:Pos}(hl:PE X o tl)(oN:attributeBase o "values" X.env (eval o X.env)=eval o X.env:=by rfl)(oO:(apos.endLine==eG.line)=true:=by rfl)(hH:X.eY=eY:=by rfl):
  PI X tg (.Call (.Attribute o "values" apos) [] [] eG) (OM eY tl):=by
 subst hH;intro pins s σ H R I h;refine wpAny_Call_method0_late oN oO (cG (hl pins s σ H _ I h) fun v s1 ⟨x,H1,I1,r1,q1⟩=>?_);obtain⟨d,kvs,e,hd,q⟩:=q1;subst e;cases r1;obtain⟨z1,z2,xs,r,o,es,ep,g1,g2,g3,g4,g5⟩:=I1.bS d _ hd;have nf:NF X.eY d:=fun o v e=>by
  have:=I1.base.oE d o v e;rw[hd]at this;cases this
 refine⟨"dict",_,F.plainAttrs_dict,F.slot_dict_values,F.type_dict_values,⟨o,g1,g2.1⟩,fun b hb=>?_,Calls.callWith_builtin rfl (PySem.evalArgs_none ?_)⟩
 ·cases hb;exact⟨o,g1,g2.2.1⟩
 refine call_meetsIn F.slot_dict_values ⟨o,g1,g2.1⟩ F.entry_dict_values (F.args_dict_values_1 _) (Dg d z2) ⟨⟨o,g1,g2.1⟩,?_⟩;have XE:=Heap.get?_push_of_some {cls:= .type "dict_values",data:= .fields #[.ref d]} g1;refine Dh (s:={s1 with heap:=s1.heap.push {cls:= .type "dict_values",data:= .fields #[.ref d]}}) ⟨_,Heap.get?_push_size _ rfl,rfl,rfl⟩ XE g3 ?_;have Iz:Inv X pins σ (upd H1 d (.sJ o (.dT kvs))) s1:=I1.swap hd (fun _ z=>nomatch z) (fun _ z=>nomatch z) (fun _ z=>nomatch z) nf ⟨g1,z1,z2,xs,KT.keeps r (fun c ys ec=>by rw[ak (ja ec hd (fun z=>nomatch z))];exact ec),o,es,ep,g1,g2,g3,g4,g5⟩;have I2:=Iz.kept (t':=s1.toks) fun b o e=>Heap.get?_push_of_some {cls:= .type "dict_values",data:= .fields #[.ref d]} e
 refine⟨_,[_],_,_,_,rfl,I2.kept (t':=s1.toks) fun b o e=>ZE e,turn_val (o:=o) (kvs:=kvs) g3,⟨_,Heap.get?_push_size _ rfl,rfl,rfl⟩,fun b hb=>?_,q o nf⟩;have e:b=(s1.heap.push {cls:= .type "dict_values",data:= .fields #[.ref d]}).objs.size:=by simpa using hb
 subst e;exact I2.uP ZD (I2.bS.fresh ZD)
structure y8(n:Nat)(lt:Nat→Nat→Bool):Prop where
 tr:∀i j k,i<n→j<n→k<n→lt i j=true→lt j k=true→lt i k=true
 as:∀i j,i<n→j<n→lt i j=true→lt j i=false
 SM:∀i j,i<n→j<n→i≠j→lt i j=true∨lt j i=true
def yt(n:Nat)(p:Array Nat):Prop:=p.toList.Perm (Z6 n)
abbrev gd(p:Array Nat)(k:Nat):Nat:=p.getD k 0
theorem Fl(p:Array Nat)(k:Nat):gd p k=(p[k]?).getD 0:=by unfold gd;rw[Array.getD_eq_getD_getElem?]
theorem yt.size{n:Nat}{p:Array Nat}(h:yt n p):p.size=n:=by have:=h.length_eq;simpa using this
def Sd(lt:Nat→Nat→Bool)(p:Array Nat)(m:Nat):Prop:=∀i j,i<j→j<m→lt (gd p i) (gd p j)=true
section
variable{n:Nat}{lt:Nat→Nat→Bool}(L:y8 n lt)
include L
omit L in
omit L in
omit L in
end
def y9:Bool→Keyed→Array Keyed→Nat→Nat→Nat→StateT SortSt Sem (Option Nat):=sortPriv%PySem.Builtin.gallop
def Lx:Array Keyed→Array Keyed→StateT SortSt Sem (Array Keyed):=sortPriv%PySem.Builtin.mergeLo
def Ly:Array Keyed→Array Keyed→StateT SortSt Sem (Array Keyed):=sortPriv%PySem.Builtin.mergeHi
def AB(l:Bool)(key:Keyed)(xs:Array Keyed)(b i:Nat):StateT SortSt Sem (Option Bool):=do
 let x←elem' xs (b+i)
 if l then lt' x key else return (←lt' key x).map (!·)
theorem HX(l:Bool)(key:Keyed)(xs:Array Keyed)(b n h:Nat):y9 l key xs b n h=(do
 let mut u:=0
 let mut v:=1
 let mut lo:=0
 let mut hi:=0
 let some r←AB l key xs b h|return none
 if r then
  let mx:=n-h
  for _ in [0:n] do
   if v≥mx then break
   let some z←AB l key xs b (h+v)|return none
   if !z then break
   u:=v
   v:=2*v+1
  lo:=h+u+1
  hi:=h+min v mx
 else
  let mx:=h+1
  for _ in [0:n] do
   if v≥mx then break
   let some z←AB l key xs b (h-v)|return none
   if z then break
   u:=v
   v:=2*v+1
  lo:=h+1-min v mx
  hi:=h-u
 for _ in [0:n] do
  if lo≥hi then break
  let m:=lo+(hi-lo)/2
  let some z←AB l key xs b m|return none
  if z then lo:=m+1 else hi:=m
 return some hi):=rfl
section
variable{prog:Program}{w:World}{A:Around}{E:Value→Shared→Prop}{s:Shared}
structure Fm(prog:Program)(w:World)(A:Around)(s:Shared)(X:List Keyed)(κ:SortKind)(lt:Keyed→Keyed→Bool):Prop where
 run:∀x∈X,∀y∈X,∀C:Bool→Shared→Prop,C (lt x y) s→wpAny (model prog w) A (keyLt' κ x.1 y.1) C (fun _ _=>False) s
 tr:∀x∈X,∀y∈X,∀z∈X,lt x y=true→lt y z=true→lt x z=true
 as:∀x∈X,∀y∈X,lt x y=true→lt y x=false
 SM:∀x∈X,∀y∈X,x≠y→lt x y=true∨lt y x=true
 nd:X.Nodup
variable{X:List Keyed}{κ:SortKind}{lt:Keyed→Keyed→Bool}(C:Fm prog w A s X κ lt)
include C
theorem Fm.no{x y:Keyed}(h1:x∈X)(h2:y∈X)(hn:x≠y)(h:lt x y=false):lt y x=true:=(C.SM x h1 y h2 hn).resolve_left (by rw[h];simp)
theorem Fm.ask{st:SortSt}{x y:Keyed}{Q:Option Bool→SortSt→Prop}(hk:kindOf st=κ)(h1:x∈X)(h2:y∈X)(h:Q (some (lt x y)) st):wpS (model prog w) A E s (lt' x y) Q st:=by
 rw[lt'_eq];refine wpS_bind (wpS_get ?_);rw[hk];refine wpS_bind (wpS_lift (wpAny_attempt (wpAny_mono (C.run x h1 y h2 (fun b s'=>b=lt x y∧s'=s) ⟨rfl,rfl⟩) ?_ fun _ _ e=>e.elim)));rintro b s' ⟨rfl,rfl⟩;exact⟨rfl,Z2 h⟩
omit C in
theorem e7{st:SortSt}{xs:Array Keyed}{i:Nat}{x:Keyed}{Q:Keyed→SortSt→Prop}(e:xs[i]?=some x)(h:Q x st):wpS (model prog w) A E s (elem' xs i) Q st:=by
 rw[elem'_eq,e];exact Z2 h
def lD(lt:Keyed→Keyed→Bool)(l:Bool)(key x:Keyed):Bool:=if l then lt x key else !lt key x
theorem sT{st:SortSt}{l:Bool}{key x:Keyed}{xs:Array Keyed}{b i:Nat}{Q:Option Bool→SortSt→Prop}(hk:kindOf st=κ)(h1:key∈X)(h2:x∈X)(e:xs[b+i]?=some x)(h:Q (some (lD lt l key x)) st):wpS (model prog w) A E s (AB l key xs b i) Q st:=by
 unfold AB;refine wpS_bind (e7 e ?_);cases l with
 |true=>exact C.ask hk h2 h1 h
 |false=>exact wpS_bind (C.ask hk h1 h2 (Z2 h))
theorem qH{st:SortSt}{l:Bool}{key:Keyed}{xs:Array Keyed}{b n h:Nat}{Q:Option Nat→SortSt→Prop}(g:Nat→Keyed)(hk:kindOf st=κ)(h1:key∈X)(hg:∀i,i<n→xs[b+i]?=some (g i)∧g i∈X)(Sg:∀i j,i<j→j<n→lt (g i) (g j)=true)(hh:h<n)
  (q:∀k,k≤n→(∀i,i<k→lD lt l key (g i)=true)→(∀i,k≤i→i<n→lD lt l key (g i)=false)→Q (some k) st):wpS (model prog w) A E s (y9 l key xs b n h) Q st:=by
 have dn:∀i j,i≤j→j<n→lD lt l key (g j)=true→lD lt l key (g i)=true:=fun i j m7 hj hb=>by
  by_cases e:i=j
  ·rw[e];exact hb
  have hl:=Sg i j Aj hj;unfold lD at hb⊢;cases l with
  |true=>exact C.tr _ (hg i Aj).2 _ (hg j hj).2 _ h1 hl hb
  |false=>
   simp only[Bool.false_eq_true,if_false,Bool.not_eq_true']at hb⊢;cases e2:lt key (g i)with
   |false=>rfl
   |true=>rw[C.tr _ h1 _ (hg i Aj).2 _ (hg j hj).2 e2 hl]at hb;cases hb
 have up:∀i j,i≤j→j<n→lD lt l key (g i)=false→lD lt l key (g j)=false:=fun i j m7 hj hb=>by
  cases e:lD lt l key (g j)with
  |false=>rfl
  |true=>rw[dn i j m7 hj e]at hb;cases hb
 have bin:∀lo hi,lo≤hi→hi≤n→(∀i,i<lo→lD lt l key (g i)=true)→(∀i,hi≤i→i<n→lD lt l key (g i)=false)→wpS (model prog w) A E s (do
   let r←forIn [0:n] ((none,lo,hi):Option (Option Nat)×Nat×Nat) fun _ __s=>
    if __s.2.1≥__s.2.2 then pure (ForInStep.done (none,__s.2.1,__s.2.2))
    else do
     let __x←AB l key xs b (__s.2.1+(__s.2.2-__s.2.1)/2)
     match __x with
     |some z=>if z=true then pure (ForInStep.yield (none,__s.2.1+(__s.2.2-__s.2.1)/2+1,__s.2.2))else pure (ForInStep.yield (none,__s.2.1,__s.2.1+(__s.2.2-__s.2.1)/2))
     | _=>pure (ForInStep.done (some none,__s.2.1,__s.2.2))
   match r.1 with
   |some r=>pure r
   |none=>pure (some r.2.2)) Q st:=fun lo hi h2 h3 h4 h5=>by
  refine wpS_bind (wpS_mono (wpS_forRange (I:=fun x c aU=>aU=st∧∃lo hi,c=(none,lo,hi)∧lo≤hi∧hi≤n∧(∀i,i<lo→lD lt l key (g i)=true)∧(∀i,hi≤i→i<n→lD lt l key (g i)=false)∧hi-lo+x≤n) (Q:=fun c aU=>aU=st∧∃k,c.1=none∧c.2.2=k∧k≤n∧(∀i,i<k→lD lt l key (g i)=true)∧(∀i,k≤i→i<n→lD lt l key (g i)=false)) ?_ ?_ ⟨rfl,lo,hi,rfl,h2,h3,h4,h5,by lia⟩) ?_)
  ·rintro x c aU _ hx ⟨rfl,lo,hi,rfl,a1,a2,a3,a4,a5⟩;dsimp only;by_cases Vg:lo≥hi
   ·rw[Hz Vg];have:lo=hi:=by lia
    subst this;exact Z2 ⟨rfl,lo,rfl,rfl,a2,a3,a4⟩
   ·rw[Dy Vg];have hm:lo+(hi-lo)/2<n:=by lia
    obtain⟨g1,g2⟩:=hg _ hm;refine wpS_bind (sT C hk h1 g2 g1 ?_);dsimp only;cases e:lD lt l key (g (lo+(hi-lo)/2))with
    |true=>
     simp only[if_true];exact Z2 ⟨rfl,_,hi,rfl,by lia,a2,fun i sN=>dn i _ (by lia) hm e,a4,by lia⟩
    |false=>
     simp only[Bool.false_eq_true,if_false];exact Z2 ⟨rfl,lo,_,rfl,by lia,by lia,a3,fun i sN oB=>up _ i sN oB e,by lia⟩
  ·rintro c aU ⟨rfl,lo,hi,rfl,a1,a2,a3,a4,a5⟩;have:lo=hi:=by lia
   subst this;exact⟨rfl,lo,rfl,rfl,a2,a3,a4⟩
  ·rintro⟨c1,c2,c3⟩ aU ⟨rfl,k,e1,e2,a2,a3,a4⟩;dsimp only at e1 e2⊢;subst e1 e2;exact Z2 (q _ a2 a3 a4)
 rw[HX];obtain⟨XF,XG⟩:=hg h hh;refine wpS_bind (sT C hk h1 XG XF ?_);dsimp only;cases e:lD lt l key (g h)with
 |true=>
  simp only[if_true];refine wpS_bind (wpS_mono (wpS_forRange (I:=fun x c aU=>aU=st∧∃u v,c=(none,u,v)∧u<v∧h+u<n∧lD lt l key (g (h+u))=true∧x<v) (Q:=fun c aU=>aU=st∧∃u v,c=(none,u,v)∧u<v∧h+u<n∧lD lt l key (g (h+u))=true∧(n-h≤v∨(h+v<n∧lD lt l key (g (h+v))=false))) ?_ ?_ ⟨rfl,0,1,rfl,by lia,by lia,e,by lia⟩) ?_)
  ·rintro x c aU _ hx ⟨rfl,u,v,rfl,a1,a2,a3,a4⟩;dsimp only;by_cases hv:v≥n-h
   ·rw[Hz hv];exact Z2 ⟨rfl,u,v,rfl,a1,a2,a3, .inl hv⟩
   ·rw[Dy hv];obtain⟨g1,g2⟩:=hg (h+v) (by lia);refine wpS_bind (sT C hk h1 g2 g1 ?_);dsimp only;cases e2:lD lt l key (g (h+v))with
    |false=>
     simp only[Bool.not_false,if_true];exact Z2 ⟨rfl,u,v,rfl,a1,a2,a3, .inr ⟨by lia,e2⟩⟩
    |true=>
     simp only[Bool.not_true,Bool.false_eq_true,if_false];exact Z2 ⟨rfl,v,2*v+1,rfl,by lia,by lia,e2,by lia⟩
  ·rintro c aU ⟨rfl,u,v,rfl,a1,a2,a3,a4⟩;exact⟨rfl,u,v,rfl,a1,a2,a3, .inl Aj⟩
  ·rintro c aU ⟨rfl,u,v,rfl,a1,a2,a3,a4⟩;dsimp only;refine Eq.mp (by kernel_rfl) (bin (h+u+1) (h+min v (n-h)) (by lia) (by lia) (fun i hi=>dn i (h+u) (by lia) a2 a3) fun i hi oB=>?_);rcases a4 with a4|⟨a4,a5⟩
   ·lia
   ·exact up (h+v) i Aj oB a5
 |false=>
  simp only[Bool.false_eq_true,if_false];refine wpS_bind (wpS_mono (wpS_forRange (I:=fun x c aU=>aU=st∧∃u v,c=(none,u,v)∧u<v∧u≤h∧lD lt l key (g (h-u))=false∧x<v) (Q:=fun c aU=>aU=st∧∃u v,c=(none,u,v)∧u<v∧u≤h∧lD lt l key (g (h-u))=false∧(h+1≤v∨(v≤h∧lD lt l key (g (h-v))=true))) ?_ ?_ ⟨rfl,0,1,rfl,by lia,by lia,e,by lia⟩) ?_)
  ·rintro x c aU _ hx ⟨rfl,u,v,rfl,a1,a2,a3,a4⟩;dsimp only;by_cases hv:v≥h+1
   ·rw[Hz hv];exact Z2 ⟨rfl,u,v,rfl,a1,a2,a3, .inl hv⟩
   ·rw[Dy hv];obtain⟨g1,g2⟩:=hg (h-v) (by lia);refine wpS_bind (sT C hk h1 g2 g1 ?_);dsimp only;cases e2:lD lt l key (g (h-v))with
    |true=>
     simp only[if_true];exact Z2 ⟨rfl,u,v,rfl,a1,a2,a3, .inr ⟨by lia,e2⟩⟩
    |false=>
     simp only[Bool.false_eq_true,if_false];exact Z2 ⟨rfl,v,2*v+1,rfl,by lia,by lia,e2,by lia⟩
  ·rintro c aU ⟨rfl,u,v,rfl,a1,a2,a3,a4⟩;exact⟨rfl,u,v,rfl,a1,a2,a3, .inl Aj⟩
  ·rintro c aU ⟨rfl,u,v,rfl,a1,a2,a3,a4⟩;dsimp only;refine Eq.mp (by kernel_rfl) (bin (h+1-min v (h+1)) (h-u) (by lia) (by lia) (fun i hi=>?_) fun i hi oB=>up (h-u) i Aj oB a3);rcases a4 with a4|⟨a4,a5⟩
   ·lia
   ·exact dn i (h-v) (by lia) (by lia) a5
end
def setG(g:Nat):StateT SortSt Sem Unit:=modify fun st=>SortSt.mk' (kindOf st) (Jh st) (Xr st) g (failedOf st)
def GK(a b out:Array Keyed)(i j:Nat):Array Keyed:=out++a.extract i a.size++b.extract j b.size
def MV(a b out:Array Keyed)(i j:Nat):Array Keyed:=out++b.extract j b.size++a.extract i a.size
abbrev S1:=Option (Array Keyed)×Array Keyed×Nat×Nat×Nat×Nat
abbrev S2:=Option (Array Keyed)×Array Keyed×Nat×Nat×Nat×Nat×Nat
abbrev S3:=Option (Array Keyed)×Array Keyed×Nat×Nat×Nat
def lo1(a b:Array Keyed)(mg:Nat)(c:S1):StateT SortSt Sem (ForInStep S1):=do
 let y←elem' b c.2.2.2.1
 let x←elem' a c.2.2.1
 let z←lt' y x
 match z with
 |some bw=>
  if bw=true then do
   let y←elem' b c.2.2.2.1
   if (c.2.2.2.1+1==b.size)=true then pure (.done (some (GK a b (c.2.1.push y) c.2.2.1 (c.2.2.2.1+1)),c.2.1.push y,c.2.2.1,c.2.2.2.1+1,0,c.2.2.2.2.2+1))
   else if c.2.2.2.2.2+1≥mg then pure (.done (none,c.2.1.push y,c.2.2.1,c.2.2.2.1+1,0,c.2.2.2.2.2+1))
   else pure (.yield (none,c.2.1.push y,c.2.2.1,c.2.2.2.1+1,0,c.2.2.2.2.2+1))
  else do
   let x←elem' a c.2.2.1
   if (c.2.2.1+1+1==a.size)=true then pure (.done (some (MV a b (c.2.1.push x) (c.2.2.1+1) c.2.2.2.1),c.2.1.push x,c.2.2.1+1,c.2.2.2.1,c.2.2.2.2.1+1,0))
   else if c.2.2.2.2.1+1≥mg then pure (.done (none,c.2.1.push x,c.2.2.1+1,c.2.2.2.1,c.2.2.2.2.1+1,0))
   else pure (.yield (none,c.2.1.push x,c.2.2.1+1,c.2.2.2.1,c.2.2.2.2.1+1,0))
 | _=>pure (.done (some (GK a b c.2.1 c.2.2.1 c.2.2.2.1),c.2.1,c.2.2.1,c.2.2.2.1,c.2.2.2.2.1,c.2.2.2.2.2))
def Qz(a b o:Array Keyed)(i j mg k l:Nat):StateT SortSt Sem (ForInStep S2):=do
 let x←elem' a i
 if (i+1+1==a.size)=true then pure (.done (some (MV a b (o.push x) (i+1) j),o.push x,i+1,j,mg,k,l))
 else if (decide (k<7)&&decide (l<7))=true then pure (.done (none,o.push x,i+1,j,mg,k,l))
 else pure (.yield (none,o.push x,i+1,j,mg,k,l))
def SN(a b o:Array Keyed)(i j mg k bc:Nat):StateT SortSt Sem (ForInStep S2):=do
 let x←elem' a i
 let z←y9 true x b j (b.size-j) 0
 match z with
 |some l=>if l>0 then(if (j+l==b.size)=true then pure (.done (some (GK a b (o++b.extract j (j+l)) i (j+l)),o++b.extract j (j+l),i,j+l,mg,k,l))else Qz a b (o++b.extract j (j+l)) i (j+l) mg k l)else Qz a b o i j mg k l
 | _=>pure (.done (some (GK a b o i j),o,i,j,mg,k,bc))
def QA(a b o:Array Keyed)(i j mg k bc:Nat):StateT SortSt Sem (ForInStep S2):=do
 let y←elem' b j
 if (j+1==b.size)=true then pure (.done (some (GK a b (o.push y) i (j+1)),o.push y,i,j+1,mg,k,bc))else SN a b (o.push y) i (j+1) mg k bc
def QB(a b o:Array Keyed)(i j mg ac bc:Nat):StateT SortSt Sem (ForInStep S2):=do
 setG mg
 let y←elem' b j
 let z←y9 false y a i (a.size-i) 0
 match z with
 |some k=>if k>0 then(if (i+k+1==a.size)=true then pure (.done (some (MV a b (o++a.extract i (i+k)) (i+k) j),o++a.extract i (i+k),i+k,j,mg,k,bc))else if (i+k==a.size)=true then pure (.done (some (GK a b (o++a.extract i (i+k)) (i+k) j),o++a.extract i (i+k),i+k,j,mg,k,bc))else QA a b (o++a.extract i (i+k)) (i+k) j mg k bc)else QA a b o i j mg k bc
 | _=>pure (.done (some (GK a b o i j),o,i,j,mg,ac,bc))
def SO(a b:Array Keyed)(c:S2):StateT SortSt Sem (ForInStep S2):=if c.2.2.2.2.1>1 then QB a b c.2.1 c.2.2.1 c.2.2.2.1 (c.2.2.2.2.1-1) c.2.2.2.2.2.1 c.2.2.2.2.2.2 else QB a b c.2.1 c.2.2.1 c.2.2.2.1 c.2.2.2.2.1 c.2.2.2.2.2.1 c.2.2.2.2.2.2
def SQ(a b:Array Keyed)(c:S3):StateT SortSt Sem (ForInStep S3):=do
 let t←forIn [0:a.size+b.size] ((none,c.2.1,c.2.2.1,c.2.2.2.1,0,0):S1) (fun _=>lo1 a b c.2.2.2.2)
 match t.1 with
 |some r=>pure (.done (some r,t.2.1,t.2.2.1,t.2.2.2.1,c.2.2.2.2))
 |none=>do
  liftM (rule "list.sort.gallop")
  let u←forIn [0:a.size+b.size] ((none,t.2.1,t.2.2.1,t.2.2.2.1,c.2.2.2.2+1,t.2.2.2.2.1,t.2.2.2.2.2):S2) (fun _=>SO a b)
  match u.1 with
  |some r=>pure (.done (some r,u.2.1,u.2.2.1,u.2.2.2.1,u.2.2.2.2.1))
  |none=>do
   setG (u.2.2.2.2.1+1)
   pure (.yield (none,u.2.1,u.2.2.1,u.2.2.2.1,u.2.2.2.2.1+1))
theorem HY(a b:Array Keyed):Lx a b=(do
 liftM (rule "list.sort.merge-lo")
 let y←elem' b 0
 if (1==b.size)=true then pure (GK a b #[y] 0 1)
 else if (0+1==a.size)=true then pure (MV a b #[y] 0 1)
 else do
  let g←get
  let t←forIn [0:a.size+b.size] ((none,#[y],0,1,gallopOf g):S3) (fun _=>SQ a b)
  match t.1 with
  |some r=>pure r
  |none=>unsupported "internal:list.sort.merge-bound"):=by kernel_rfl
def GL(a b o:Array Keyed)(i j:Nat):Array Keyed:=a.extract 0 i++b.extract 0 j++o.reverse
def MW(a b o:Array Keyed)(i j:Nat):Array Keyed:=b.extract 0 j++a.extract 0 i++o.reverse
abbrev T1:=Option (Array Keyed)×Nat×Nat×Array Keyed×Nat×Nat
abbrev T2:=Option (Array Keyed)×Nat×Nat×Array Keyed×Nat×Nat×Nat
abbrev T3:=Option (Array Keyed)×Nat×Nat×Array Keyed×Nat
def HZ(a b:Array Keyed)(mg:Nat)(c:T1):StateT SortSt Sem (ForInStep T1):=do
 let y←elem' b (c.2.2.1-1)
 let x←elem' a (c.2.1-1)
 let z←lt' y x
 match z with
 |some aw=>
  if aw=true then do
   let x←elem' a (c.2.1-1)
   if (c.2.1-1==0)=true then pure (.done (some (GL a b (c.2.2.2.1.push x) (c.2.1-1) c.2.2.1),c.2.1-1,c.2.2.1,c.2.2.2.1.push x,c.2.2.2.2.1+1,0))
   else if c.2.2.2.2.1+1≥mg then pure (.done (none,c.2.1-1,c.2.2.1,c.2.2.2.1.push x,c.2.2.2.2.1+1,0))
   else pure (.yield (none,c.2.1-1,c.2.2.1,c.2.2.2.1.push x,c.2.2.2.2.1+1,0))
  else do
   let y←elem' b (c.2.2.1-1)
   if (c.2.2.1-1==1)=true then pure (.done (some (MW a b (c.2.2.2.1.push y) c.2.1 (c.2.2.1-1)),c.2.1,c.2.2.1-1,c.2.2.2.1.push y,0,c.2.2.2.2.2+1))
   else if c.2.2.2.2.2+1≥mg then pure (.done (none,c.2.1,c.2.2.1-1,c.2.2.2.1.push y,0,c.2.2.2.2.2+1))
   else pure (.yield (none,c.2.1,c.2.2.1-1,c.2.2.2.1.push y,0,c.2.2.2.2.2+1))
 | _=>pure (.done (some (GL a b c.2.2.2.1 c.2.1 c.2.2.1),c.2.1,c.2.2.1,c.2.2.2.1,c.2.2.2.2.1,c.2.2.2.2.2))
def QC(a b o:Array Keyed)(i j mg k l:Nat):StateT SortSt Sem (ForInStep T2):=do
 let x←elem' a (i-1)
 if (i-1==0)=true then pure (.done (some (GL a b (o.push x) (i-1) j),i-1,j,o.push x,mg,k,l))
 else if (decide (k<7)&&decide (l<7))=true then pure (.done (none,i-1,j,o.push x,mg,k,l))
 else pure (.yield (none,i-1,j,o.push x,mg,k,l))
def SR(a b o:Array Keyed)(i j mg k bc:Nat):StateT SortSt Sem (ForInStep T2):=do
 let x←elem' a (i-1)
 let z←y9 true x b 0 j (j-1)
 match z with
 |some t=>if j-t>0 then(if (t==1)=true then pure (.done (some (MW a b (o++(b.extract t j).reverse) i t),i,t,o++(b.extract t j).reverse,mg,k,j-t))else if (t==0)=true then pure (.done (some (GL a b (o++(b.extract t j).reverse) i t),i,t,o++(b.extract t j).reverse,mg,k,j-t))else QC a b (o++(b.extract t j).reverse) i t mg k (j-t))else QC a b o i j mg k (j-t)
 | _=>pure (.done (some (GL a b o i j),i,j,o,mg,k,bc))
def QD(a b o:Array Keyed)(i j mg k bc:Nat):StateT SortSt Sem (ForInStep T2):=do
 let y←elem' b (j-1)
 if (j-1==1)=true then pure (.done (some (MW a b (o.push y) i (j-1)),i,j-1,o.push y,mg,k,bc))else SR a b (o.push y) i (j-1) mg k bc
def zP(a b o:Array Keyed)(i j mg ac bc:Nat):StateT SortSt Sem (ForInStep T2):=do
 setG mg
 let y←elem' b (j-1)
 let z←y9 false y a 0 i (i-1)
 match z with
 |some t=>if i-t>0 then(if (t==0)=true then pure (.done (some (GL a b (o++(a.extract t i).reverse) t j),t,j,o++(a.extract t i).reverse,mg,i-t,bc))else QD a b (o++(a.extract t i).reverse) t j mg (i-t) bc)else QD a b o i j mg (i-t) bc
 | _=>pure (.done (some (GL a b o i j),i,j,o,mg,ac,bc))
def SS(a b:Array Keyed)(c:T2):StateT SortSt Sem (ForInStep T2):=if c.2.2.2.2.1>1 then zP a b c.2.2.2.1 c.2.1 c.2.2.1 (c.2.2.2.2.1-1) c.2.2.2.2.2.1 c.2.2.2.2.2.2 else zP a b c.2.2.2.1 c.2.1 c.2.2.1 c.2.2.2.2.1 c.2.2.2.2.2.1 c.2.2.2.2.2.2
def SU(a b:Array Keyed)(c:T3):StateT SortSt Sem (ForInStep T3):=do
 let t←forIn [0:a.size+b.size] ((none,c.2.1,c.2.2.1,c.2.2.2.1,0,0):T1) (fun _=>HZ a b c.2.2.2.2)
 match t.1 with
 |some r=>pure (.done (some r,t.2.1,t.2.2.1,t.2.2.2.1,c.2.2.2.2))
 |none=>do
  liftM (rule "list.sort.gallop")
  let u←forIn [0:a.size+b.size] ((none,t.2.1,t.2.2.1,t.2.2.2.1,c.2.2.2.2+1,t.2.2.2.2.1,t.2.2.2.2.2):T2) (fun _=>SS a b)
  match u.1 with
  |some r=>pure (.done (some r,u.2.1,u.2.2.1,u.2.2.2.1,u.2.2.2.2.1))
  |none=>do
   setG (u.2.2.2.2.1+1)
   pure (.yield (none,u.2.1,u.2.2.1,u.2.2.2.1,u.2.2.2.2.1+1))
theorem H_(a b:Array Keyed):Ly a b=(do
 liftM (rule "list.sort.merge-hi")
 let x←elem' a (a.size-1)
 if (a.size-1==0)=true then pure (GL a b #[x] (a.size-1) b.size)
 else if (b.size==1)=true then pure (MW a b #[x] (a.size-1) b.size)
 else do
  let g←get
  let t←forIn [0:a.size+b.size] ((none,a.size-1,b.size,#[x],gallopOf g):T3) (fun _=>SU a b)
  match t.1 with
  |some r=>pure r
  |none=>unsupported "internal:list.sort.merge-bound"):=by kernel_rfl
theorem lS{α:Type}{l:List α}{i:Nat}{x:α}:x∈l.drop i↔∃t:Nat,l[i+t]?=some x:=by
 rw[List.mem_iff_getElem?];simp only[List.getElem?_drop]
theorem tP{α:Type}{l:List α}{i k:Nat}{x:α}:x∈(l.drop i).take k↔∃t:Nat,t<k∧l[i+t]?=some x:=by
 rw[List.mem_iff_getElem?];constructor
 ·rintro⟨t,ht⟩;rw[List.getElem?_take]at ht;split at ht
  ·rw[List.getElem?_drop]at ht;exact⟨t,by assumption,ht⟩
  ·cases ht
 ·rintro⟨t,h1,h2⟩;exact⟨t,by rw[List.getElem?_take,Hz h1,List.getElem?_drop];exact h2⟩
theorem o6{α:Type}{l:List α}{i:Nat}{x:α}(h:l[i]?=some x):l.drop i=x::l.drop (i+1):=by
 obtain⟨h1,h2⟩:=WB h;rw[List.drop_eq_getElem_cons h1,h2]
theorem o7{α:Type}(l:List α)(i k:Nat):l.drop i=(l.drop i).take k++l.drop (i+k):=by
 rw[←List.drop_drop,List.take_append_drop]
abbrev Pw(lt:Keyed→Keyed→Bool)(l:List Keyed):Prop:=l.Pairwise fun x y=>lt x y=true
theorem Pw.at{lt:Keyed→Keyed→Bool}{l:List Keyed}(h:Pw lt l){i j:Nat}{x y:Keyed}(m7:i<j)(hx:l[i]?=some x)(hy:l[j]?=some y):lt x y=true:=by
 obtain⟨h1,e1⟩:=WB hx;obtain⟨h2,e2⟩:=WB hy;have:=List.pairwise_iff_getElem.mp h i j h1 h2 m7;rw[e1,e2]at this;exact this
section
variable{X:List Keyed}{lt:Keyed→Keyed→Bool}{P Q:List Keyed}
structure MC(X:List Keyed)(lt:Keyed→Keyed→Bool)(P Q:List Keyed):Prop where
 sa:Pw lt P
 sb:Pw lt Q
 ia:∀x∈P,x∈X
 ib:∀x∈Q,x∈X
 ne:∀x∈P,∀y∈Q,x≠y
 fst:∀x∈P,∀y,Q[0]?=some y→lt y x=true
 lst:∀y∈Q,∀x,P[P.length-1]?=some x→lt y x=true
structure ML(lt:Keyed→Keyed→Bool)(P Q O:List Keyed)(i j:Nat):Prop where
 hi:i≤P.length
 hj:j≤Q.length
 qI:Pw lt O
 low:∀x∈O,∀y,y∈P.drop i∨y∈Q.drop j→lt x y=true
 Ia:(O++(P.drop i++Q.drop j)).Perm (P++Q)
def MG(lt:Keyed→Keyed→Bool)(P Q R:List Keyed):Prop:=R.Perm (P++Q)∧Pw lt R
theorem ML.a{O:List Keyed}{i j k:Nat}(M:MC X lt P Q)(m:ML lt P Q O i j)(hk:i+k≤P.length)(h:∀x∈(P.drop i).take k,∀y∈Q.drop j,lt x y=true):ML lt P Q (O++(P.drop i).take k) (i+k) j:=by
 have sp:=o7 P i k;have sd:Pw lt (P.drop i):=M.sa.sublist (List.drop_sublist _ _);rw[sp]at sd;obtain⟨s1,s2,s3⟩:=List.pairwise_append.mp sd;refine⟨hk,m.hj,Τ ⟨m.qI,s1,fun x hx y hy=>m.low x hx y (.inl (List.mem_of_mem_take hy))⟩,fun x hx y hy=>?_,?_⟩
 ·rcases List.mem_append.mp hx with hx|hx
  ·exact m.low x hx y (hy.imp (fun z=>by rw[sp];exact ZU z) id)
  ·rcases hy with hy|hy
   ·exact s3 x hx y hy
   ·exact h x hx y hy
 ·have:=m.Ia;rw[sp]at this;rw[List.append_assoc,←List.append_assoc ((P.drop i).take k)];exact this
theorem ML.b{O:List Keyed}{i j k:Nat}(M:MC X lt P Q)(m:ML lt P Q O i j)(hk:j+k≤Q.length)(h:∀y∈(Q.drop j).take k,∀x∈P.drop i,lt y x=true):ML lt P Q (O++(Q.drop j).take k) i (j+k):=by
 have sp:=o7 Q j k;have sd:Pw lt (Q.drop j):=M.sb.sublist (List.drop_sublist _ _);rw[sp]at sd;obtain⟨s1,s2,s3⟩:=List.pairwise_append.mp sd;refine⟨m.hi,hk,Τ ⟨m.qI,s1,fun x hx y hy=>m.low x hx y (.inr (List.mem_of_mem_take hy))⟩,fun x hx y hy=>?_,?_⟩
 ·rcases List.mem_append.mp hx with hx|hx
  ·exact m.low x hx y (hy.imp id (fun z=>by rw[sp];exact ZU z))
  ·rcases hy with hy|hy
   ·exact h x hx y hy
   ·exact s3 x hx y hy
 ·have:=m.Ia;rw[sp]at this;refine List.Perm.trans ?_ this;rw[List.append_assoc];refine List.Perm.append_left O ?_;rw[←List.append_assoc,←List.append_assoc];exact List.Perm.append_right _ List.perm_append_comm
theorem ML.dn{O:List Keyed}{i j:Nat}(M:MC X lt P Q)(m:ML lt P Q O i j)(h:i=P.length∨j=Q.length):MG lt P Q (O++P.drop i++Q.drop j):=by
 refine⟨by rw[List.append_assoc];exact m.Ia,?_⟩;have sa:Pw lt (P.drop i):=M.sa.sublist (List.drop_sublist _ _);have sb:Pw lt (Q.drop j):=M.sb.sublist (List.drop_sublist _ _);rw[List.append_assoc];refine List.pairwise_append.mpr ⟨m.qI,Τ ⟨sa,sb,fun x hx y hy=>?_⟩,fun x hx y hy=>m.low x hx y (List.mem_append.mp hy)⟩;rcases h with h|h
 ·rw[h,List.drop_length]at hx;cases hx
 ·rw[h,List.drop_length]at hy;cases hy
theorem ML.ls{O:List Keyed}{i j:Nat}(M:MC X lt P Q)(m:ML lt P Q O i j)(h:i+1=P.length):MG lt P Q (O++Q.drop j++P.drop i):=by
 have sa:Pw lt (P.drop i):=M.sa.sublist (List.drop_sublist _ _);have sb:Pw lt (Q.drop j):=M.sb.sublist (List.drop_sublist _ _);rw[List.append_assoc];refine⟨(List.Perm.append_left O List.perm_append_comm).trans m.Ia,Τ ⟨m.qI,Τ ⟨sb,sa,fun y hy x hx=>?_⟩,fun x hx y hy=>m.low x hx y (List.mem_append.mp hy).symm⟩⟩;obtain⟨t,ht⟩:=lS.mp hx;have hl:=(WB ht).1;exact M.lst y (List.mem_of_mem_drop hy) x (by rw[←ht];congr 1;lia)
end
def Eg(st aU:SortSt):Prop:=kindOf aU=kindOf st∧arrOf aU=arrOf st∧pendingOf aU=pendingOf st∧failedOf aU=failedOf st
theorem Eg.refl(st:SortSt):Eg st st:=⟨rfl,rfl,rfl,rfl⟩
theorem Eg.trans{a b c:SortSt}(h:Eg a b)(k:Eg b c):Eg a c:=⟨k.1.trans h.1,k.2.1.trans h.2.1,k.2.2.1.trans h.2.2.1,k.2.2.2.trans h.2.2.2⟩
section
variable{prog:Program}{w:World}{A:Around}{E:Value→Shared→Prop}{s:Shared}{X:List Keyed}{κ:SortKind}{lt:Keyed→Keyed→Bool}(C:Fm prog w A s X κ lt){a b:Array Keyed}(M:MC X lt a.toList b.toList)
theorem sU{st:SortSt}{g:Nat}{Q:Unit→SortSt→Prop}(h:∀aU,Eg st aU→Q () aU):wpS (model prog w) A E s (setG g) Q st:=wpS_modify (h _ ⟨rfl,rfl,rfl,rfl⟩)
theorem y_(o:Array Keyed)(i j:Nat):(GK a b o i j).toList=o.toList++a.toList.drop i++b.toList.drop j:=by
 unfold GK;simp[Array.toList_extract,List.extract_eq_take_drop];rw[List.take_of_length_le K4,List.take_of_length_le K4]
theorem BV(o:Array Keyed)(i j:Nat):(MV a b o i j).toList=o.toList++b.toList.drop j++a.toList.drop i:=by
 unfold MV;simp[Array.toList_extract,List.extract_eq_take_drop];rw[List.take_of_length_le K4,List.take_of_length_le K4]
theorem JH(o:Array Keyed)(c:Array Keyed)(i k:Nat):(o++c.extract i (i+k)).toList=o.toList++(c.toList.drop i).take k:=by
 simp[Array.toList_extract,List.extract_eq_take_drop]
theorem GN{l:List Keyed}{i:Nat}{x:Keyed}(h:l[i]?=some x):(l.drop i).take 1=[x]:=by rw[o6 h];simp
def BX(lt:Keyed→Keyed→Bool)(a b:Array Keyed)(o:Array Keyed)(i j m:Nat):Prop:=ML lt a.toList b.toList o.toList i j∧i+1<a.size∧j<b.size∧m≤i+j
def P2(lt:Keyed→Keyed→Bool)(a b:Array Keyed)(m:Nat)(st:SortSt)(r:ForInStep S2)(aU:SortSt):Prop:=Eg st aU∧match r with
 | .done c=>(∃x,c.1=some x∧MG lt a.toList b.toList x.toList)∨(c.1=none∧BX lt a b c.2.1 c.2.2.1 c.2.2.2.1 m)
 | .yield c=>c.1=none∧BX lt a b c.2.1 c.2.2.1 c.2.2.2.1 m
include C M
theorem Fn{st:SortSt}{o:Array Keyed}{i j mg k l m:Nat}(ml:ML lt a.toList b.toList o.toList i j)(hi:i+1<a.size)(hj:j<b.size)(hm:m≤i+j+1)(h:∀x,a.toList[i]?=some x→∀y∈b.toList.drop j,lt x y=true):wpS (model prog w) A E s (Qz a b o i j mg k l) (P2 lt a b m st) st:=by
 unfold Qz;have ex:a[i]?=some a[i]:=MD;have gJ:a.toList[i]?=some a[i]:=by rw[Array.getElem?_toList];exact ex
 refine wpS_bind (e7 ex ?_);have m2:ML lt a.toList b.toList (o.push a[i]).toList (i+1) j:=by
  have:=ml.a M (k:=1) (by simp;lia) (fun x hx y hy=>by
   rw[GN gJ]at hx;have:x=a[i]:=by simpa using hx
   rw[this];exact h _ gJ y hy)
  rw[GN gJ]at this;rw[Array.toList_push];exact this
 by_cases e:(i+1+1==a.size)=true
 ·rw[Hz e];refine wpS_pure ⟨.refl _, .inl ⟨_,rfl,?_⟩⟩;rw[BV];exact m2.ls M (by have:=beq_iff_eq.mp e;simp;lia)
 ·rw[Dy e];have e:i+1+1≠a.size:=fun z=>e (Zv z)
  split
  ·exact Z2 ⟨.refl _, .inr ⟨rfl,m2,by show i+1+1<a.size;lia,hj,by show m≤i+1+j;lia⟩⟩
  ·exact Z2 ⟨.refl _,rfl,m2,by show i+1+1<a.size;lia,hj,by show m≤i+1+j;lia⟩
theorem Lz{st:SortSt}{o:Array Keyed}{i j mg k bc m:Nat}(hk:kindOf st=κ)(ml:ML lt a.toList b.toList o.toList i j)(hi:i+1<a.size)(hj:j<b.size)(hm:m≤i+j+1):wpS (model prog w) A E s (SN a b o i j mg k bc) (P2 lt a b m st) st:=by
 unfold SN;have ex:a[i]?=some a[i]:=MD;have gJ:a.toList[i]?=some a[i]:=by rw[Array.getElem?_toList];exact ex
 have hx:a[i]∈a.toList:=Y7 gJ;refine wpS_bind (e7 ex ?_);generalize a[i]=x at ex gJ hx;have gb:∀t,t<b.size-j→b[j+t]?=some (b.getD (j+t) (.none, .none)):=fun t ht=>by simp[show j+t<b.size by lia]
 have r9:∀t,t<b.size-j→b.toList[j+t]?=some (b.getD (j+t) (.none, .none)):=fun t ht=>by rw[Array.getElem?_toList];exact gb t ht
 refine wpS_bind (qH C (fun t=>b.getD (j+t) (.none, .none)) hk (M.ia _ hx) (fun t ht=>⟨gb t ht,M.ib _ (Y7 (r9 t ht))⟩) (fun t u h1 h2=>M.sb.at (i:=j+t) (j:=j+u) (by lia) (r9 t (by lia)) (r9 u h2)) (by lia) fun l hl h1 h2=>?_);dsimp only;have low:∀y∈(b.toList.drop j).take l,∀z∈a.toList.drop i,lt y z=true:=fun y hy z hz=>by
  obtain⟨t,ht,et⟩:=tP.mp hy;rw[r9 t (by lia)]at et;cases et;have hb:=h1 t ht;simp only[lD,if_true]at hb;rw[o6 gJ]at hz;rcases List.mem_cons.mp hz with rfl|hz
  ·exact hb
  ·obtain⟨u,hu⟩:=lS.mp hz;exact C.tr _ (M.ib _ (Y7 (r9 t (by lia)))) _ (M.ia _ hx) _ (M.ia _ (Y7 hu)) hb (M.sa.at Aj gJ hu)
 have zQ:∀y∈b.toList.drop (j+l),lt x y=true:=fun y hy=>by
  obtain⟨t,ht⟩:=lS.mp hy;have il:=(WB ht).1;have il:j+l+t<b.size:=by simpa using il
  have hb:=h2 (l+t) (by lia) (by lia);have e:b.toList[j+(l+t)]?=some y:=by rw[←Nat.add_assoc];exact ht
  rw[r9 (l+t) (by lia)]at e;have e:=YA e;simp only[lD,if_true]at hb;rw[e]at hb;exact C.no (M.ib _ (Y7 ht)) (M.ia _ hx) (fun z=>M.ne _ hx _ (Y7 ht) z.symm) hb
 have m2:ML lt a.toList b.toList (o++b.extract j (j+l)).toList i (j+l):=by
  rw[JH];exact ml.b M Z_ low
 by_cases GO:l>0
 ·rw[Hz GO];by_cases e:(j+l==b.size)=true
  ·rw[Hz e];refine wpS_pure ⟨.refl _, .inl ⟨_,rfl,?_⟩⟩;rw[y_];exact m2.dn M (.inr (by have:=beq_iff_eq.mp e;simpa using this))
  ·rw[Dy e];have e:j+l≠b.size:=fun z=>e (Zv z)
   exact Fn C M m2 hi Aj (by lia) fun y hy=>by rw[gJ]at hy;cases hy;exact zQ
 ·rw[Dy GO];have:l=0:=by lia
  subst this;exact Fn C M ml hi hj hm fun y hy=>by rw[gJ]at hy;cases hy;exact zQ
theorem Fo{st:SortSt}{o:Array Keyed}{i j mg k bc m:Nat}(hk:kindOf st=κ)(ml:ML lt a.toList b.toList o.toList i j)(hi:i+1<a.size)(hj:j<b.size)(hm:m≤i+j+2)(h:∀y,b.toList[j]?=some y→∀x∈a.toList.drop i,lt y x=true):wpS (model prog w) A E s (QA a b o i j mg k bc) (P2 lt a b m st) st:=by
 unfold QA;have ex:b[j]?=some b[j]:=MD;have gJ:b.toList[j]?=some b[j]:=by rw[Array.getElem?_toList];exact ex
 refine wpS_bind (e7 ex ?_);have m2:ML lt a.toList b.toList (o.push b[j]).toList i (j+1):=by
  have:=ml.b M (k:=1) (by simp;lia) (fun x hx y hy=>by
   rw[GN gJ]at hx;have:x=b[j]:=by simpa using hx
   rw[this];exact h _ gJ y hy)
  rw[GN gJ]at this;rw[Array.toList_push];exact this
 by_cases e:(j+1==b.size)=true
 ·rw[Hz e];refine wpS_pure ⟨.refl _, .inl ⟨_,rfl,?_⟩⟩;rw[y_];exact m2.dn M (.inr (by have:=beq_iff_eq.mp e;simpa using this))
 ·rw[Dy e];have e:j+1≠b.size:=fun z=>e (Zv z)
  exact Lz C M hk m2 hi Aj (by lia)
theorem Fp{st:SortSt}{o:Array Keyed}{i j mg ac bc m:Nat}(hk:kindOf st=κ)(h:BX lt a b o i j m):wpS (model prog w) A E s (QB a b o i j mg ac bc) (P2 lt a b (m+2) st) st:=by
 obtain⟨ml,hi,hj,hm⟩:=h;unfold QB;refine wpS_bind (sU fun AD eg=>?_);have JI:kindOf AD=κ:=eg.1.trans hk;have fin:∀{m:Nat}{p:StateT SortSt Sem (ForInStep S2)},wpS (model prog w) A E s p (P2 lt a b m AD) AD→wpS (model prog w) A E s p (P2 lt a b m st) AD:=fun h=>wpS_mono h fun r aU z=>⟨eg.trans z.1,z.2⟩
 refine fin ?_;have ex:b[j]?=some b[j]:=MD;have gJ:b.toList[j]?=some b[j]:=by rw[Array.getElem?_toList];exact ex
 have hx:b[j]∈b.toList:=Y7 gJ;refine wpS_bind (e7 ex ?_);generalize b[j]=y at ex gJ hx;have gb:∀t,t<a.size-i→a[i+t]?=some (a.getD (i+t) (.none, .none)):=fun t ht=>by simp[show i+t<a.size by lia]
 have r9:∀t,t<a.size-i→a.toList[i+t]?=some (a.getD (i+t) (.none, .none)):=fun t ht=>by rw[Array.getElem?_toList];exact gb t ht
 refine wpS_bind (qH C (fun t=>a.getD (i+t) (.none, .none)) JI (M.ib _ hx) (fun t ht=>⟨gb t ht,M.ia _ (Y7 (r9 t ht))⟩) (fun t u h1 h2=>M.sa.at (i:=i+t) (j:=i+u) (by lia) (r9 t (by lia)) (r9 u h2)) (by lia) fun k hl h1 h2=>?_);dsimp only;have low:∀x∈(a.toList.drop i).take k,∀z∈b.toList.drop j,lt x z=true:=fun x uM z hz=>by
  obtain⟨t,ht,et⟩:=tP.mp uM;rw[r9 t (by lia)]at et;cases et;have jg:=Y7 (r9 t (by lia));have hb:=h1 t ht;simp only[lD,Bool.false_eq_true,if_false,Bool.not_eq_true']at hb;have hb:=C.no (M.ib _ hx) (M.ia _ jg) (fun z=>M.ne _ jg _ hx z.symm) hb;rw[o6 gJ]at hz;rcases List.mem_cons.mp hz with rfl|hz
  ·exact hb
  ·obtain⟨u,hu⟩:=lS.mp hz;exact C.tr _ (M.ia _ jg) _ (M.ib _ hx) _ (M.ib _ (Y7 hu)) hb (M.sb.at Aj gJ hu)
 have zQ:∀x∈a.toList.drop (i+k),lt y x=true:=fun x uM=>by
  obtain⟨t,ht⟩:=lS.mp uM;have il:=(WB ht).1;have il:i+k+t<a.size:=by simpa using il
  have hb:=h2 (k+t) (by lia) (by lia);have e:a.toList[i+(k+t)]?=some x:=by rw[←Nat.add_assoc];exact ht
  rw[r9 (k+t) (by lia)]at e;have e:=YA e;simp only[lD,Bool.false_eq_true,if_false,Bool.not_eq_false']at hb;rw[e]at hb;exact hb
 have m2:ML lt a.toList b.toList (o++a.extract i (i+k)).toList (i+k) j:=by
  rw[JH];exact ml.a M Z_ low
 by_cases xr:k>0
 ·rw[Hz xr];by_cases e:(i+k+1==a.size)=true
  ·rw[Hz e];refine wpS_pure ⟨.refl _, .inl ⟨_,rfl,?_⟩⟩;rw[BV];exact m2.ls M (by have:=beq_iff_eq.mp e;simpa using this)
  ·rw[Dy e];have e:i+k+1≠a.size:=fun z=>e (Zv z)
   by_cases e2:(i+k==a.size)=true
   ·rw[Hz e2];refine wpS_pure ⟨.refl _, .inl ⟨_,rfl,?_⟩⟩;rw[y_];exact m2.dn M (.inl (by have:=beq_iff_eq.mp e2;simpa using this))
   ·rw[Dy e2];have e2:i+k≠a.size:=fun z=>e2 (Zv z)
    exact Fo C M JI m2 Aj hj Aj fun z hz=>by rw[gJ]at hz;cases hz;exact zQ
 ·rw[Dy xr];have:k=0:=by lia
  subst this;exact Fo C M JI ml hi hj Aj fun z hz=>by rw[gJ]at hz;cases hz;exact zQ
theorem LA{st:SortSt}{c:S2}{m:Nat}(hk:kindOf st=κ)(h:BX lt a b c.2.1 c.2.2.1 c.2.2.2.1 m):wpS (model prog w) A E s (SO a b c) (P2 lt a b (m+2) st) st:=by
 unfold SO;split
 ·exact Fp C M hk h
 ·exact Fp C M hk h
theorem LB{st:SortSt}{c:S1}{mg m:Nat}(hk:kindOf st=κ)(h:BX lt a b c.2.1 c.2.2.1 c.2.2.2.1 m):wpS (model prog w) A E s (lo1 a b mg c) (fun r aU=>aU=st∧match r with
  | .done c=>(∃x,c.1=some x∧MG lt a.toList b.toList x.toList)∨(c.1=none∧BX lt a b c.2.1 c.2.2.1 c.2.2.2.1 (m+1))
  | .yield c=>c.1=none∧BX lt a b c.2.1 c.2.2.1 c.2.2.2.1 (m+1)) st:=by
 obtain⟨r,o,i,j,ac,bc⟩:=c;obtain⟨ml,hi,hj,hm⟩:=h;dsimp only at ml hi hj hm;unfold lo1;dsimp only;have ex:a[i]?=some a[i]:=MD;have gJ:a.toList[i]?=some a[i]:=by rw[Array.getElem?_toList];exact ex
 have ey:b[j]?=some b[j]:=MD;have zR:b.toList[j]?=some b[j]:=by rw[Array.getElem?_toList];exact ey
 have hx:a[i]∈a.toList:=Y7 gJ;have hy:b[j]∈b.toList:=Y7 zR;refine wpS_bind (e7 ey (wpS_bind (e7 ex ?_)));generalize a[i]=x at ex gJ hx;generalize b[j]=y at ey zR hy;refine wpS_bind (C.ask hk (M.ib _ hy) (M.ia _ hx) ?_);dsimp only;cases e:lt y x with
 |true=>
  rw[if_pos rfl];refine wpS_bind (e7 ey ?_);have m2:ML lt a.toList b.toList (o.push y).toList i (j+1):=by
   have:=ml.b M (k:=1) (by simp;lia) (fun y' ON z hz=>by
    rw[GN zR]at ON;have:y'=y:=by simpa using ON
    rw[this];rw[o6 gJ]at hz;rcases List.mem_cons.mp hz with rfl|hz
    ·exact e
    ·obtain⟨u,hu⟩:=lS.mp hz;exact C.tr _ (M.ib _ hy) _ (M.ia _ hx) _ (M.ia _ (Y7 hu)) e (M.sa.at Aj gJ hu))
   rw[GN zR]at this;rw[Array.toList_push];exact this
  by_cases e2:(j+1==b.size)=true
  ·rw[Hz e2];refine wpS_pure ⟨rfl, .inl ⟨_,rfl,?_⟩⟩;rw[y_];exact m2.dn M (.inr (by have:=beq_iff_eq.mp e2;simpa using this))
  ·rw[Dy e2];have e2:j+1≠b.size:=fun z=>e2 (Zv z)
   split
   ·exact Z2 ⟨rfl, .inr ⟨rfl,m2,hi,by show j+1<b.size;lia,by show m+1≤i+(j+1);lia⟩⟩
   ·exact Z2 ⟨rfl,rfl,m2,hi,by show j+1<b.size;lia,by show m+1≤i+(j+1);lia⟩
 |false=>
  rw[if_neg K4];refine wpS_bind (e7 ex ?_);have e:=C.no (M.ib _ hy) (M.ia _ hx) (fun z=>M.ne _ hx _ hy z.symm) e;have m2:ML lt a.toList b.toList (o.push x).toList (i+1) j:=by
   have:=ml.a M (k:=1) (by simp;lia) (fun x' uM z hz=>by
    rw[GN gJ]at uM;have:x'=x:=by simpa using uM
    rw[this];rw[o6 zR]at hz;rcases List.mem_cons.mp hz with rfl|hz
    ·exact e
    ·obtain⟨u,hu⟩:=lS.mp hz;exact C.tr _ (M.ia _ hx) _ (M.ib _ hy) _ (M.ib _ (Y7 hu)) e (M.sb.at Aj zR hu))
   rw[GN gJ]at this;rw[Array.toList_push];exact this
  by_cases e2:(i+1+1==a.size)=true
  ·rw[Hz e2];refine wpS_pure ⟨rfl, .inl ⟨_,rfl,?_⟩⟩;rw[BV];exact m2.ls M (by have:=beq_iff_eq.mp e2;simpa using this)
  ·rw[Dy e2];have e2:i+1+1≠a.size:=fun z=>e2 (Zv z)
   split
   ·exact Z2 ⟨rfl, .inr ⟨rfl,m2,by show i+1+1<a.size;lia,hj,by show m+1≤i+1+j;lia⟩⟩
   ·exact Z2 ⟨rfl,rfl,m2,by show i+1+1<a.size;lia,hj,by show m+1≤i+1+j;lia⟩
theorem LC{st:SortSt}{c:S3}{m:Nat}(hk:kindOf st=κ)(h:BX lt a b c.2.1 c.2.2.1 c.2.2.2.1 m):wpS (model prog w) A E s (SQ a b c) (fun r aU=>Eg st aU∧match r with
  | .done c=>∃x,c.1=some x∧MG lt a.toList b.toList x.toList
  | .yield c=>c.1=none∧BX lt a b c.2.1 c.2.2.1 c.2.2.2.1 (m+1)) st:=by
 unfold SQ;refine wpS_bind (wpS_mono (wpS_forRange (I:=fun x c aU=>aU=st∧c.1=none∧BX lt a b c.2.1 c.2.2.1 c.2.2.2.1 (m+x)) (Q:=fun c aU=>aU=st∧((∃x,c.1=some x∧MG lt a.toList b.toList x.toList)∨(c.1=none∧BX lt a b c.2.1 c.2.2.1 c.2.2.2.1 (m+1)))) ?_ ?_ ⟨rfl,rfl,h⟩) ?_)
 ·rintro x c aU _ hx ⟨rfl,hc,hI⟩;refine wpS_mono (LB C M hk hI) fun r aU hr=>?_
  obtain⟨rfl,hr⟩:=hr;cases r with
  |done c=>exact⟨rfl,hr.imp id fun z=>⟨z.1,z.2.1,z.2.2.1,z.2.2.2.1,by have:=z.2.2.2.2;lia⟩⟩
  |yield c=>exact⟨rfl,hr.1,hr.2⟩
 ·rintro c aU ⟨rfl,hc,h1,h2,h3,h4⟩
  lia
 rintro t aU ⟨rfl,ht⟩;rcases ht with⟨x,e,hg⟩|⟨e,hI⟩
 ·rw[e];exact Z2 ⟨.refl _,x,rfl,hg⟩
 rw[e];dsimp only;refine wpS_bind (wpS_lift (wpAny_rule ⟨rfl,?_⟩));refine wpS_bind (wpS_mono (wpS_forRange (I:=fun x c dR=>Eg aU dR∧c.1=none∧BX lt a b c.2.1 c.2.2.1 c.2.2.2.1 (m+1+x)) (Q:=fun c dR=>Eg aU dR∧((∃x,c.1=some x∧MG lt a.toList b.toList x.toList)∨(c.1=none∧BX lt a b c.2.1 c.2.2.1 c.2.2.2.1 (m+1)))) ?_ ?_ ⟨.refl _,rfl,hI⟩) ?_)
 ·rintro x c dR _ hx ⟨eg,hc,hI⟩;refine wpS_mono (LA C M (eg.1.trans hk) hI) fun r Ed hr=>?_
  obtain⟨Fq,hr⟩:=hr;cases r with
  |done c=>exact⟨eg.trans Fq,hr.imp id fun z=>⟨z.1,z.2.1,z.2.2.1,z.2.2.2.1,by have:=z.2.2.2.2;lia⟩⟩
  |yield c=>exact⟨eg.trans Fq,hr.1,hr.2.1,hr.2.2.1,hr.2.2.2.1,by have:=hr.2.2.2.2;lia⟩
 ·rintro c dR ⟨eg,hc,h1,h2,h3,h4⟩
  lia
 rintro u dR ⟨eg,hu⟩;rcases hu with⟨x,e,hg⟩|⟨e,hI⟩
 ·rw[e];exact Z2 ⟨eg,x,rfl,hg⟩
 rw[e];dsimp only;exact wpS_bind (sU fun Ed SV=>Z2 ⟨eg.trans SV,rfl,hI⟩)
theorem LD{st:SortSt}{Q:Array Keyed→SortSt→Prop}(hk:kindOf st=κ)(ha:0<a.size)(hb:0<b.size)(q:∀r aU,Eg st aU→MG lt a.toList b.toList r.toList→Q r aU):wpS (model prog w) A E s (Lx a b) Q st:=by
 rw[HY];refine wpS_bind (wpS_lift (wpAny_rule ⟨rfl,?_⟩));have ey:b[0]?=some b[0]:=MD;have zR:b.toList[0]?=some b[0]:=by rw[Array.getElem?_toList];exact ey
 refine wpS_bind (e7 ey ?_);have m0:ML lt a.toList b.toList [] 0 0:=⟨MD,MD, .nil,fun x hx=>(by cases hx),MD⟩
 have m1:ML lt a.toList b.toList (#[b[0]]:Array Keyed).toList 0 1:=by
  have:=m0.b M (k:=1) (by simp;lia) (fun y hy x hx=>by
   rw[GN zR]at hy;have:y=b[0]:=by simpa using hy
   rw[this];exact M.fst x (List.mem_of_mem_drop hx) _ zR)
  rw[GN zR]at this;exact this
 by_cases e:(1==b.size)=true
 ·rw[Hz e];refine wpS_pure (q _ _ (.refl _) ?_);rw[y_];exact m1.dn M (.inr (by have:=beq_iff_eq.mp e;simpa using this))
 rw[Dy e];have e:1≠b.size:=fun z=>e (Zv z)
 by_cases e2:(0+1==a.size)=true
 ·rw[Hz e2];refine wpS_pure (q _ _ (.refl _) ?_);rw[BV];exact m1.ls M (by have:=beq_iff_eq.mp e2;simpa using this)
 rw[Dy e2];have e2:0+1≠a.size:=fun z=>e2 (Zv z)
 refine wpS_bind (wpS_get ?_);refine wpS_bind (wpS_mono (wpS_forRange (I:=fun x c dR=>Eg st dR∧c.1=none∧BX lt a b c.2.1 c.2.2.1 c.2.2.2.1 x) (Q:=fun c dR=>Eg st dR∧∃x,c.1=some x∧MG lt a.toList b.toList x.toList) ?_ ?_ ⟨.refl _,rfl,m1,by show 0+1<a.size;lia,by show 1<b.size;lia,by show 0≤0+1;lia⟩) ?_)
 ·rintro x c dR _ hx ⟨eg,hc,hI⟩;refine wpS_mono (LC C M (eg.1.trans hk) hI) fun r Ed hr=>?_
  obtain⟨Fq,hr⟩:=hr;cases r with
  |done c=>exact⟨eg.trans Fq,hr⟩
  |yield c=>exact⟨eg.trans Fq,hr⟩
 ·rintro c dR ⟨eg,hc,h1,h2,h3,h4⟩
  lia
 ·rintro c dR ⟨eg,x,e,hg⟩;rw[e];exact Z2 (q x dR eg hg)
end
theorem xt{α:Type}{l:List α}{i:Nat}{x:α}:x∈l.take i↔∃t:Nat,t<i∧l[t]?=some x:=by
 have:=tP (l:=l) (i:=0) (k:=i) (x:=x);simpa using this
theorem za{α:Type}{l:List α}{i t:Nat}{x:α}:x∈(l.take i).drop t↔∃u:Nat,t≤u∧u<i∧l[u]?=some x:=by
 rw[lS];constructor
 ·rintro⟨u,hu⟩;rw[List.getElem?_take]at hu;split at hu
  ·exact⟨t+u,by lia,by assumption,hu⟩
  ·cases hu
 ·rintro⟨u,h1,h2,h3⟩;exact⟨u-t,by rw[List.getElem?_take,Hz Aj,show t+(u-t)=u by lia];exact h3⟩
theorem zb{α:Type}(l:List α){i t:Nat}(h:t≤i):l.take i=l.take t++(l.take i).drop t:=by
 conv=>lhs;rw[←List.take_append_drop t (l.take i)]
 rw[List.take_take,Nat.min_eq_left h]
section
variable{X:List Keyed}{lt:Keyed→Keyed→Bool}{P Q:List Keyed}
structure MH(lt:Keyed→Keyed→Bool)(P Q O:List Keyed)(i j:Nat):Prop where
 hi:i≤P.length
 hj:j≤Q.length
 qI:Pw lt O
 zQ:∀y∈O,∀x,x∈P.take i∨x∈Q.take j→lt x y=true
 Ia:((P.take i++Q.take j)++O).Perm (P++Q)
theorem MH.a{O:List Keyed}{i j t:Nat}(M:MC X lt P Q)(m:MH lt P Q O i j)(ht:t≤i)(h:∀x∈(P.take i).drop t,∀y∈Q.take j,lt y x=true):MH lt P Q ((P.take i).drop t++O) t j:=by
 have sp:=zb P ht;have sd:Pw lt (P.take i):=M.sa.sublist (List.take_sublist _ _);rw[sp]at sd;obtain⟨s1,s2,s3⟩:=List.pairwise_append.mp sd;refine⟨by have:=m.hi;lia,m.hj,Τ ⟨s2,m.qI,fun x hx y hy=>m.zQ y hy x (.inl (List.mem_of_mem_drop hx))⟩,fun y hy x hx=>?_,?_⟩
 ·rcases List.mem_append.mp hy with hy|hy
  ·rcases hx with hx|hx
   ·exact s3 x hx y hy
   ·exact h y hy x hx
  ·exact m.zQ y hy x (hx.imp (fun z=>by rw[sp];exact Ι z) id)
 ·have:=m.Ia;rw[sp]at this;refine List.Perm.trans ?_ this;rw[←List.append_assoc];refine List.Perm.append_right O ?_;rw[List.append_assoc,List.append_assoc];exact List.Perm.append_left _ List.perm_append_comm
theorem MH.b{O:List Keyed}{i j t:Nat}(M:MC X lt P Q)(m:MH lt P Q O i j)(ht:t≤j)(h:∀y∈(Q.take j).drop t,∀x∈P.take i,lt x y=true):MH lt P Q ((Q.take j).drop t++O) i t:=by
 have sp:=zb Q ht;have sd:Pw lt (Q.take j):=M.sb.sublist (List.take_sublist _ _);rw[sp]at sd;obtain⟨s1,s2,s3⟩:=List.pairwise_append.mp sd;refine⟨m.hi,by have:=m.hj;lia,Τ ⟨s2,m.qI,fun x hx y hy=>m.zQ y hy x (.inr (List.mem_of_mem_drop hx))⟩,fun y hy x hx=>?_,?_⟩
 ·rcases List.mem_append.mp hy with hy|hy
  ·rcases hx with hx|hx
   ·exact h y hy x hx
   ·exact s3 x hx y hy
  ·exact m.zQ y hy x (hx.imp id (fun z=>by rw[sp];exact Ι z))
 ·have:=m.Ia;rw[sp]at this;rw[←List.append_assoc,List.append_assoc (P.take i)];exact this
theorem MH.dn{O:List Keyed}{i j:Nat}(M:MC X lt P Q)(m:MH lt P Q O i j)(h:i=0∨j=0):MG lt P Q (P.take i++Q.take j++O):=by
 refine⟨m.Ia,?_⟩;have sa:Pw lt (P.take i):=M.sa.sublist (List.take_sublist _ _);have sb:Pw lt (Q.take j):=M.sb.sublist (List.take_sublist _ _);refine List.pairwise_append.mpr ⟨Τ ⟨sa,sb,fun x hx y hy=>?_⟩,m.qI,fun x hx y hy=>m.zQ y hy x (List.mem_append.mp hx)⟩;rcases h with h|h
 ·rw[h,List.take_zero]at hx;cases hx
 ·rw[h,List.take_zero]at hy;cases hy
theorem MH.fb{O:List Keyed}{i j:Nat}(M:MC X lt P Q)(m:MH lt P Q O i j)(h:j=1):MG lt P Q (Q.take j++P.take i++O):=by
 have sa:Pw lt (P.take i):=M.sa.sublist (List.take_sublist _ _);have sb:Pw lt (Q.take j):=M.sb.sublist (List.take_sublist _ _);refine⟨(List.Perm.append_right O List.perm_append_comm).trans m.Ia,Τ ⟨Τ ⟨sb,sa,fun y hy x hx=>?_⟩,m.qI,fun x hx y hy=>m.zQ y hy x (List.mem_append.mp hx).symm⟩⟩;obtain⟨t,h1,h2⟩:=xt.mp hy;have:t=0:=by lia
 subst this;exact M.fst x (List.mem_of_mem_take hx) y h2
end
section
variable{prog:Program}{w:World}{A:Around}{E:Value→Shared→Prop}{s:Shared}{X:List Keyed}{κ:SortKind}{lt:Keyed→Keyed→Bool}(C:Fm prog w A s X κ lt){a b:Array Keyed}(M:MC X lt a.toList b.toList)
theorem zc(o:Array Keyed)(i j:Nat):(GL a b o i j).toList=a.toList.take i++b.toList.take j++o.toList.reverse:=by
 unfold GL;simp[Array.toList_extract,List.extract_eq_take_drop]
theorem BY(o:Array Keyed)(i j:Nat):(MW a b o i j).toList=b.toList.take j++a.toList.take i++o.toList.reverse:=by
 unfold MW;simp[Array.toList_extract,List.extract_eq_take_drop]
theorem JJ(o:Array Keyed)(c:Array Keyed)(t i:Nat):(o++(c.extract t i).reverse).toList.reverse=(c.toList.take i).drop t++o.toList.reverse:=by
 simp[Array.toList_extract,List.extract_eq_take_drop,List.drop_take]
theorem B0(o:Array Keyed)(x:Keyed):(o.push x).toList.reverse=[x]++o.toList.reverse:=MD
theorem GP{l:List Keyed}{i:Nat}{x:Keyed}(h0:0<i)(h:l[i-1]?=some x):(l.take i).drop (i-1)=[x]:=by
 have:l.take i=l.take (i-1)++[x]:=by
  conv=>lhs;rw[show i=i-1+1 by lia]
  rw[List.take_succ,h];rfl
 rw[this];have hl:=(WB h).1;rw[List.drop_left' Z_]
theorem sV{l:List Keyed}(C:Fm prog w A s X κ lt)(hs:Pw lt l)(oB:∀x∈l,x∈X){i:Nat}{x z:Keyed}(h:l[i-1]?=some x)(hz:z∈l.take i){y:Keyed}(hy:y∈X)(zd:lt x y=true):lt z y=true:=by
 obtain⟨t,h1,h2⟩:=xt.mp hz;by_cases e:t=i-1
 ·subst e;rw[h]at h2;cases h2;exact zd
 ·exact C.tr _ (oB _ (Y7 h2)) _ (oB _ (Y7 h)) _ hy (hs.at Aj h2 h) zd
def B1(lt:Keyed→Keyed→Bool)(a b:Array Keyed)(o:Array Keyed)(i j m:Nat):Prop:=MH lt a.toList b.toList o.toList.reverse i j∧0<i∧1<j∧m+i+j≤a.size+b.size
def LF(lt:Keyed→Keyed→Bool)(a b:Array Keyed)(m:Nat)(st:SortSt)(r:ForInStep T2)(aU:SortSt):Prop:=Eg st aU∧match r with
 | .done c=>(∃x,c.1=some x∧MG lt a.toList b.toList x.toList)∨(c.1=none∧B1 lt a b c.2.2.2.1 c.2.1 c.2.2.1 m)
 | .yield c=>c.1=none∧B1 lt a b c.2.2.2.1 c.2.1 c.2.2.1 m
include C M
theorem Fs{st:SortSt}{o:Array Keyed}{i j mg k l m:Nat}(ml:MH lt a.toList b.toList o.toList.reverse i j)(hi:0<i)(hj:1<j)(hm:m+i+j≤a.size+b.size+1)(h:∀x,a.toList[i-1]?=some x→∀y∈b.toList.take j,lt y x=true):wpS (model prog w) A E s (QC a b o i j mg k l) (LF lt a b m st) st:=by
 unfold QC;have SW:i≤a.size:=by have:=ml.hi;simpa using this
 have ex:a[i-1]?=some a[i-1]:=MD;have gJ:a.toList[i-1]?=some a[i-1]:=by rw[Array.getElem?_toList];exact ex
 refine wpS_bind (e7 ex ?_);have m2:MH lt a.toList b.toList (o.push a[i-1]).toList.reverse (i-1) j:=by
  have:=ml.a M (t:=i-1) (by lia) (fun x hx y hy=>by
   rw[GP hi gJ]at hx;have:x=a[i-1]:=by simpa using hx
   rw[this];exact h _ gJ y hy)
  rw[GP hi gJ]at this;rw[B0];exact this
 by_cases e:(i-1==0)=true
 ·rw[Hz e];refine wpS_pure ⟨.refl _, .inl ⟨_,rfl,?_⟩⟩;rw[zc];exact m2.dn M (.inl (beq_iff_eq.mp e))
 ·rw[Dy e];have e:i-1≠0:=fun z=>e (Zv z)
  split
  ·exact Z2 ⟨.refl _, .inr ⟨rfl,m2,by show 0<i-1;lia,hj,by show m+(i-1)+j≤_;lia⟩⟩
  ·exact Z2 ⟨.refl _,rfl,m2,by show 0<i-1;lia,hj,by show m+(i-1)+j≤_;lia⟩
theorem LG{st:SortSt}{o:Array Keyed}{i j mg k bc m:Nat}(hk:kindOf st=κ)(ml:MH lt a.toList b.toList o.toList.reverse i j)(hi:0<i)(hj:1<j)(hm:m+i+j≤a.size+b.size+1):wpS (model prog w) A E s (SR a b o i j mg k bc) (LF lt a b m st) st:=by
 unfold SR;have SW:i≤a.size:=by have:=ml.hi;simpa using this
 have SX:j≤b.size:=by have:=ml.hj;simpa using this
 have ex:a[i-1]?=some a[i-1]:=MD;have gJ:a.toList[i-1]?=some a[i-1]:=by rw[Array.getElem?_toList];exact ex
 have hx:a[i-1]∈a.toList:=Y7 gJ;refine wpS_bind (e7 ex ?_);generalize a[i-1]=x at ex gJ hx;have gb:∀t,t<j→b[0+t]?=some (b.getD t (.none, .none)):=fun t ht=>by simp[show t<b.size by lia]
 have r9:∀t,t<j→b.toList[t]?=some (b.getD t (.none, .none)):=fun t ht=>by rw[Array.getElem?_toList];simpa using gb t ht
 refine wpS_bind (qH C (fun t=>b.getD t (.none, .none)) hk (M.ia _ hx) (fun t ht=>⟨gb t ht,M.ib _ (Y7 (r9 t ht))⟩) (fun t u h1 h2=>M.sb.at h1 (r9 t (by lia)) (r9 u h2)) (by lia) fun t hl h1 h2=>?_);dsimp only;have zQ:∀y∈(b.toList.take j).drop t,∀z∈a.toList.take i,lt z y=true:=fun y hy z hz=>by
  obtain⟨u,h3,h4,h5⟩:=za.mp hy;have hb:=h2 u h3 h4;rw[r9 u h4]at h5;have h5:=YA h5;simp only[lD,if_true]at hb;rw[h5]at hb;have SY:=List.mem_of_mem_take (List.mem_of_mem_drop hy);have hb:=C.no (M.ib _ SY) (M.ia _ hx) (fun z=>M.ne _ hx _ SY z.symm) hb;exact sV C M.sa M.ia gJ hz (M.ib _ SY) hb
 have low:∀y∈b.toList.take t,lt y x=true:=fun y hy=>by
  obtain⟨u,h3,h4⟩:=xt.mp hy;have hb:=h1 u h3;rw[r9 u Aj]at h4;have h4:=YA h4;simp only[lD,if_true]at hb;rw[h4]at hb;exact hb
 have m2:MH lt a.toList b.toList (o++(b.extract t j).reverse).toList.reverse i t:=by
  rw[JJ];exact ml.b M hl zQ
 by_cases GO:j-t>0
 ·rw[Hz GO];by_cases e:(t==1)=true
  ·rw[Hz e];refine wpS_pure ⟨.refl _, .inl ⟨_,rfl,?_⟩⟩;rw[BY];exact m2.fb M (beq_iff_eq.mp e)
  ·rw[Dy e];have e:t≠1:=fun z=>e (Zv z)
   by_cases e2:(t==0)=true
   ·rw[Hz e2];refine wpS_pure ⟨.refl _, .inl ⟨_,rfl,?_⟩⟩;rw[zc];exact m2.dn M (.inr (beq_iff_eq.mp e2))
   ·rw[Dy e2];have e2:t≠0:=fun z=>e2 (Zv z)
    exact Fs C M m2 hi Aj (by lia) fun y hy=>by rw[gJ]at hy;cases hy;exact low
 ·rw[Dy GO];have:t=j:=by lia
  subst this;exact Fs C M ml hi hj hm fun y hy=>by rw[gJ]at hy;cases hy;exact low
theorem Ft{st:SortSt}{o:Array Keyed}{i j mg k bc m:Nat}(hk:kindOf st=κ)(ml:MH lt a.toList b.toList o.toList.reverse i j)(hi:0<i)(hj:1<j)(hm:m+i+j≤a.size+b.size+2)(h:∀y,b.toList[j-1]?=some y→∀x∈a.toList.take i,lt x y=true):wpS (model prog w) A E s (QD a b o i j mg k bc) (LF lt a b m st) st:=by
 unfold QD;have SX:j≤b.size:=by have:=ml.hj;simpa using this
 have ex:b[j-1]?=some b[j-1]:=MD;have gJ:b.toList[j-1]?=some b[j-1]:=by rw[Array.getElem?_toList];exact ex
 refine wpS_bind (e7 ex ?_);have m2:MH lt a.toList b.toList (o.push b[j-1]).toList.reverse i (j-1):=by
  have:=ml.b M (t:=j-1) (by lia) (fun x hx y hy=>by
   rw[GP Aj gJ]at hx;have:x=b[j-1]:=by simpa using hx
   rw[this];exact h _ gJ y hy)
  rw[GP Aj gJ]at this;rw[B0];exact this
 by_cases e:(j-1==1)=true
 ·rw[Hz e];refine wpS_pure ⟨.refl _, .inl ⟨_,rfl,?_⟩⟩;rw[BY];exact m2.fb M (beq_iff_eq.mp e)
 ·rw[Dy e];have e:j-1≠1:=fun z=>e (Zv z)
  exact LG C M hk m2 hi Aj (by lia)
theorem Fu{st:SortSt}{o:Array Keyed}{i j mg ac bc m:Nat}(hk:kindOf st=κ)(h:B1 lt a b o i j m):wpS (model prog w) A E s (zP a b o i j mg ac bc) (LF lt a b (m+2) st) st:=by
 obtain⟨ml,hi,hj,hm⟩:=h;have SW:i≤a.size:=by have:=ml.hi;simpa using this
 have SX:j≤b.size:=by have:=ml.hj;simpa using this
 unfold zP;refine wpS_bind (sU fun AD eg=>?_);have JI:kindOf AD=κ:=eg.1.trans hk;have fin:∀{m:Nat}{p:StateT SortSt Sem (ForInStep T2)},wpS (model prog w) A E s p (LF lt a b m AD) AD→wpS (model prog w) A E s p (LF lt a b m st) AD:=fun h=>wpS_mono h fun r aU z=>⟨eg.trans z.1,z.2⟩
 refine fin ?_;have ex:b[j-1]?=some b[j-1]:=MD;have gJ:b.toList[j-1]?=some b[j-1]:=by rw[Array.getElem?_toList];exact ex
 have hx:b[j-1]∈b.toList:=Y7 gJ;refine wpS_bind (e7 ex ?_);generalize b[j-1]=y at ex gJ hx;have gb:∀t,t<i→a[0+t]?=some (a.getD t (.none, .none)):=fun t ht=>by simp[show t<a.size by lia]
 have r9:∀t,t<i→a.toList[t]?=some (a.getD t (.none, .none)):=fun t ht=>by rw[Array.getElem?_toList];simpa using gb t ht
 refine wpS_bind (qH C (fun t=>a.getD t (.none, .none)) JI (M.ib _ hx) (fun t ht=>⟨gb t ht,M.ia _ (Y7 (r9 t ht))⟩) (fun t u h1 h2=>M.sa.at h1 (r9 t (by lia)) (r9 u h2)) (by lia) fun t hl h1 h2=>?_);dsimp only;have zQ:∀x∈(a.toList.take i).drop t,∀z∈b.toList.take j,lt z x=true:=fun x uM z hz=>by
  obtain⟨u,h3,h4,h5⟩:=za.mp uM;have hb:=h2 u h3 h4;rw[r9 u h4]at h5;have h5:=YA h5;simp only[lD,Bool.false_eq_true,if_false,Bool.not_eq_false']at hb;rw[h5]at hb;exact sV C M.sb M.ib gJ hz (M.ia _ (List.mem_of_mem_take (List.mem_of_mem_drop uM))) hb
 have low:∀x∈a.toList.take t,lt x y=true:=fun x uM=>by
  obtain⟨u,h3,h4⟩:=xt.mp uM;have hb:=h1 u h3;rw[r9 u Aj]at h4;have h4:=YA h4;have Am:=List.mem_of_mem_take uM;simp only[lD,Bool.false_eq_true,if_false,Bool.not_eq_true']at hb;rw[h4]at hb;exact C.no (M.ib _ hx) (M.ia _ Am) (fun z=>M.ne _ Am _ hx z.symm) hb
 have m2:MH lt a.toList b.toList (o++(a.extract t i).reverse).toList.reverse t j:=by
  rw[JJ];exact ml.a M hl zQ
 by_cases xr:i-t>0
 ·rw[Hz xr];by_cases e:(t==0)=true
  ·rw[Hz e];refine wpS_pure ⟨.refl _, .inl ⟨_,rfl,?_⟩⟩;rw[zc];exact m2.dn M (.inl (beq_iff_eq.mp e))
  ·rw[Dy e];have e:t≠0:=fun z=>e (Zv z)
   exact Ft C M JI m2 Aj hj Aj fun z hz=>by rw[gJ]at hz;cases hz;exact low
 ·rw[Dy xr];have:t=i:=by lia
  subst this;exact Ft C M JI ml hi hj Aj fun z hz=>by rw[gJ]at hz;cases hz;exact low
theorem LH{st:SortSt}{c:T2}{m:Nat}(hk:kindOf st=κ)(h:B1 lt a b c.2.2.2.1 c.2.1 c.2.2.1 m):wpS (model prog w) A E s (SS a b c) (LF lt a b (m+2) st) st:=by
 unfold SS;split
 ·exact Fu C M hk h
 ·exact Fu C M hk h
theorem LI{st:SortSt}{c:T1}{mg m:Nat}(hk:kindOf st=κ)(h:B1 lt a b c.2.2.2.1 c.2.1 c.2.2.1 m):wpS (model prog w) A E s (HZ a b mg c) (fun r aU=>aU=st∧match r with
  | .done c=>(∃x,c.1=some x∧MG lt a.toList b.toList x.toList)∨(c.1=none∧B1 lt a b c.2.2.2.1 c.2.1 c.2.2.1 (m+1))
  | .yield c=>c.1=none∧B1 lt a b c.2.2.2.1 c.2.1 c.2.2.1 (m+1)) st:=by
 obtain⟨r,i,j,o,ac,bc⟩:=c;obtain⟨ml,hi,hj,hm⟩:=h;dsimp only at ml hi hj hm;have SW:i≤a.size:=by have:=ml.hi;simpa using this
 have SX:j≤b.size:=by have:=ml.hj;simpa using this
 unfold HZ;dsimp only;have ex:a[i-1]?=some a[i-1]:=MD;have gJ:a.toList[i-1]?=some a[i-1]:=by rw[Array.getElem?_toList];exact ex
 have ey:b[j-1]?=some b[j-1]:=MD;have zR:b.toList[j-1]?=some b[j-1]:=by rw[Array.getElem?_toList];exact ey
 have hx:a[i-1]∈a.toList:=Y7 gJ;have hy:b[j-1]∈b.toList:=Y7 zR;refine wpS_bind (e7 ey (wpS_bind (e7 ex ?_)));generalize a[i-1]=x at ex gJ hx;generalize b[j-1]=y at ey zR hy;refine wpS_bind (C.ask hk (M.ib _ hy) (M.ia _ hx) ?_);dsimp only;cases e:lt y x with
 |true=>
  rw[if_pos rfl];refine wpS_bind (e7 ex ?_);have m2:MH lt a.toList b.toList (o.push x).toList.reverse (i-1) j:=by
   have:=ml.a M (t:=i-1) (by lia) (fun x' uM z hz=>by
    rw[GP hi gJ]at uM;have:x'=x:=by simpa using uM
    rw[this];exact sV C M.sb M.ib zR hz (M.ia _ hx) e)
   rw[GP hi gJ]at this;rw[B0];exact this
  by_cases e2:(i-1==0)=true
  ·rw[Hz e2];refine wpS_pure ⟨rfl, .inl ⟨_,rfl,?_⟩⟩;rw[zc];exact m2.dn M (.inl (beq_iff_eq.mp e2))
  ·rw[Dy e2];have e2:i-1≠0:=fun z=>e2 (Zv z)
   split
   ·exact Z2 ⟨rfl, .inr ⟨rfl,m2,by show 0<i-1;lia,hj,by show m+1+(i-1)+j≤_;lia⟩⟩
   ·exact Z2 ⟨rfl,rfl,m2,by show 0<i-1;lia,hj,by show m+1+(i-1)+j≤_;lia⟩
 |false=>
  rw[if_neg K4];refine wpS_bind (e7 ey ?_);have e:=C.no (M.ib _ hy) (M.ia _ hx) (fun z=>M.ne _ hx _ hy z.symm) e;have m2:MH lt a.toList b.toList (o.push y).toList.reverse i (j-1):=by
   have:=ml.b M (t:=j-1) (by lia) (fun y' ON z hz=>by
    rw[GP Aj zR]at ON;have:y'=y:=by simpa using ON
    rw[this];exact sV C M.sa M.ia gJ hz (M.ib _ hy) e)
   rw[GP Aj zR]at this;rw[B0];exact this
  by_cases e2:(j-1==1)=true
  ·rw[Hz e2];refine wpS_pure ⟨rfl, .inl ⟨_,rfl,?_⟩⟩;rw[BY];exact m2.fb M (beq_iff_eq.mp e2)
  ·rw[Dy e2];have e2:j-1≠1:=fun z=>e2 (Zv z)
   split
   ·exact Z2 ⟨rfl, .inr ⟨rfl,m2,hi,by show 1<j-1;lia,by show m+1+i+(j-1)≤_;lia⟩⟩
   ·exact Z2 ⟨rfl,rfl,m2,hi,by show 1<j-1;lia,by show m+1+i+(j-1)≤_;lia⟩
theorem LJ{st:SortSt}{c:T3}{m:Nat}(hk:kindOf st=κ)(h:B1 lt a b c.2.2.2.1 c.2.1 c.2.2.1 m):wpS (model prog w) A E s (SU a b c) (fun r aU=>Eg st aU∧match r with
  | .done c=>∃x,c.1=some x∧MG lt a.toList b.toList x.toList
  | .yield c=>c.1=none∧B1 lt a b c.2.2.2.1 c.2.1 c.2.2.1 (m+1)) st:=by
 unfold SU;refine wpS_bind (wpS_mono (wpS_forRange (I:=fun x c aU=>aU=st∧c.1=none∧B1 lt a b c.2.2.2.1 c.2.1 c.2.2.1 (m+x)) (Q:=fun c aU=>aU=st∧((∃x,c.1=some x∧MG lt a.toList b.toList x.toList)∨(c.1=none∧B1 lt a b c.2.2.2.1 c.2.1 c.2.2.1 (m+1)))) ?_ ?_ ⟨rfl,rfl,h⟩) ?_)
 ·rintro x c aU _ hx ⟨rfl,hc,hI⟩;refine wpS_mono (LI C M hk hI) fun r aU hr=>?_
  obtain⟨rfl,hr⟩:=hr;cases r with
  |done c=>exact⟨rfl,hr.imp id fun z=>⟨z.1,z.2.1,z.2.2.1,z.2.2.2.1,by have:=z.2.2.2.2;lia⟩⟩
  |yield c=>exact⟨rfl,hr.1,hr.2⟩
 ·rintro c aU ⟨rfl,hc,h1,h2,h3,h4⟩
  lia
 rintro t aU ⟨rfl,ht⟩;rcases ht with⟨x,e,hg⟩|⟨e,hI⟩
 ·rw[e];exact Z2 ⟨.refl _,x,rfl,hg⟩
 rw[e];dsimp only;refine wpS_bind (wpS_lift (wpAny_rule ⟨rfl,?_⟩));refine wpS_bind (wpS_mono (wpS_forRange (I:=fun x c dR=>Eg aU dR∧c.1=none∧B1 lt a b c.2.2.2.1 c.2.1 c.2.2.1 (m+1+x)) (Q:=fun c dR=>Eg aU dR∧((∃x,c.1=some x∧MG lt a.toList b.toList x.toList)∨(c.1=none∧B1 lt a b c.2.2.2.1 c.2.1 c.2.2.1 (m+1)))) ?_ ?_ ⟨.refl _,rfl,hI⟩) ?_)
 ·rintro x c dR _ hx ⟨eg,hc,hI⟩;refine wpS_mono (LH C M (eg.1.trans hk) hI) fun r Ed hr=>?_
  obtain⟨Fq,hr⟩:=hr;cases r with
  |done c=>exact⟨eg.trans Fq,hr.imp id fun z=>⟨z.1,z.2.1,z.2.2.1,z.2.2.2.1,by have:=z.2.2.2.2;lia⟩⟩
  |yield c=>exact⟨eg.trans Fq,hr.1,hr.2.1,hr.2.2.1,hr.2.2.2.1,by have:=hr.2.2.2.2;lia⟩
 ·rintro c dR ⟨eg,hc,h1,h2,h3,h4⟩
  lia
 rintro u dR ⟨eg,hu⟩;rcases hu with⟨x,e,hg⟩|⟨e,hI⟩
 ·rw[e];exact Z2 ⟨eg,x,rfl,hg⟩
 rw[e];dsimp only;exact wpS_bind (sU fun Ed SV=>Z2 ⟨eg.trans SV,rfl,hI⟩)
theorem LK{st:SortSt}{Q:Array Keyed→SortSt→Prop}(hk:kindOf st=κ)(ha:0<a.size)(hb:0<b.size)(q:∀r aU,Eg st aU→MG lt a.toList b.toList r.toList→Q r aU):wpS (model prog w) A E s (Ly a b) Q st:=by
 rw[H_];refine wpS_bind (wpS_lift (wpAny_rule ⟨rfl,?_⟩));have ex:a[a.size-1]?=some a[a.size-1]:=MD;have gJ:a.toList[a.size-1]?=some a[a.size-1]:=by rw[Array.getElem?_toList];exact ex
 refine wpS_bind (e7 ex ?_);have m0:MH lt a.toList b.toList [] a.size b.size:=⟨MD,MD, .nil,fun x hx=>(by cases hx),by rw[List.take_of_length_le K4,List.take_of_length_le K4];simp⟩
 have m1:MH lt a.toList b.toList (#[a[a.size-1]]:Array Keyed).toList.reverse (a.size-1) b.size:=by
  have:=m0.a M (t:=a.size-1) (by lia) (fun x hx y hy=>by
   rw[GP ha gJ]at hx;have:x=a[a.size-1]:=by simpa using hx
   rw[this];exact M.lst y (List.mem_of_mem_take hy) _ (by simpa using gJ))
  rw[GP ha gJ]at this;simpa using this
 by_cases e:(a.size-1==0)=true
 ·rw[Hz e];refine wpS_pure (q _ _ (.refl _) ?_);rw[zc];exact m1.dn M (.inl (beq_iff_eq.mp e))
 rw[Dy e];have e:a.size-1≠0:=fun z=>e (Zv z)
 by_cases e2:(b.size==1)=true
 ·rw[Hz e2];refine wpS_pure (q _ _ (.refl _) ?_);rw[BY];exact m1.fb M (beq_iff_eq.mp e2)
 rw[Dy e2];have e2:b.size≠1:=fun z=>e2 (Zv z)
 refine wpS_bind (wpS_get ?_);refine wpS_bind (wpS_mono (wpS_forRange (I:=fun x c dR=>Eg st dR∧c.1=none∧B1 lt a b c.2.2.2.1 c.2.1 c.2.2.1 x) (Q:=fun c dR=>Eg st dR∧∃x,c.1=some x∧MG lt a.toList b.toList x.toList) ?_ ?_ ⟨.refl _,rfl,m1,by show 0<a.size-1;lia,by show 1<b.size;lia,by show 0+(a.size-1)+b.size≤_;lia⟩) ?_)
 ·rintro x c dR _ hx ⟨eg,hc,hI⟩;refine wpS_mono (LJ C M (eg.1.trans hk) hI) fun r Ed hr=>?_
  obtain⟨Fq,hr⟩:=hr;cases r with
  |done c=>exact⟨eg.trans Fq,hr⟩
  |yield c=>exact⟨eg.trans Fq,hr⟩
 ·rintro c dR ⟨eg,hc,h1,h2,h3,h4⟩
  lia
 ·rintro c dR ⟨eg,x,e,hg⟩;rw[e];exact Z2 (q x dR eg hg)
end
def QE(lo i n:Nat):StateT SortSt Sem AscSt:=forIn [i:n] ((none,i):AscSt) fun _ c=>do
 let z←ltAt' (lo+c.2) (lo+c.2-1)
 match z with
 |some v=>if v=true then pure (.done (none,c.2))else pure (.yield (none,c.2+1))
 | _=>pure (.done (some none,c.2))
def QG(lo i n:Nat):StateT SortSt Sem (Option Nat):=do
 reverseSlice' lo (lo+i)
 let t←QE lo i n
 match t.1 with
 |some r=>pure r
 |none=>pure (some t.2)
def S8(lo i n:Nat):StateT SortSt Sem DescSt:=forIn [i:n] ((none,i,0):DescSt) fun _ c=>do
 let z←ltAt' (lo+c.2.1) (lo+c.2.1-1)
 match z with
 |some v=>
  if v=true then
   if c.2.2>0 then do
    reverseSlice' (lo+c.2.1-(c.2.2+1)) (lo+c.2.1)
    pure (.yield (none,c.2.1+1,0))
   else pure (.yield (none,c.2.1+1,0))
  else do
   let z←ltAt' (lo+c.2.1-1) (lo+c.2.1)
   match z with
   |some v=>if v=true then pure (.done (none,c.2.1,c.2.2))else pure (.yield (none,c.2.1+1,c.2.2+1))
   | _=>pure (.done (some none,c.2.1,c.2.2))
 | _=>pure (.done (some none,c.2.1,c.2.2))
def S9(lo i n:Nat):StateT SortSt Sem (Option Nat):=do
 liftM (rule "list.sort.descending-run")
 let t←S8 lo (i+1) n
 match t.1 with
 |some r=>pure r
 |none=>
  if t.2.2>0 then do
   reverseSlice' (lo+t.2.1-(t.2.2+1)) (lo+t.2.1)
   QG lo t.2.1 n
  else QG lo t.2.1 n
theorem LL(lo n:Nat):countRun' lo n=(do
 let t←QE lo 1 n
 match t.1 with
 |some r=>pure r
 |none=>
  if (t.2==n)=true then pure (some t.2)
  else if t.2>1 then do
   let z←ltAt' lo (lo+t.2-1)
   match z with
   |some v=>if v=true then pure (some t.2)else do
     reverseSlice' lo (lo+t.2)
     S9 lo t.2 n
   | _=>pure none
  else S9 lo t.2 n):=by kernel_rfl
def Vh(lo k:Nat):StateT SortSt Sem (Option Bool×Nat×Nat):=forIn [0:k] ((none,0,k):Option Bool×Nat×Nat) fun _ c=>
 if c.2.1≥c.2.2 then pure (.done (none,c.2.1,c.2.2))
 else do
  let z←ltAt' (lo+k) (lo+(c.2.1+c.2.2)/2)
  match z with
  |some v=>if v=true then pure (.yield (none,c.2.1,(c.2.1+c.2.2)/2))else pure (.yield (none,(c.2.1+c.2.2)/2+1,c.2.2))
  | _=>pure (.done (some false,c.2.1,c.2.2))
theorem LM(lo n ok:Nat):binarySort' lo n ok=(do
 let t←forIn [max ok 1:n] ((none,()):Option Bool×Unit) fun k _=>do
  let t←Vh lo k
  match t.1 with
  |some r=>pure (.done (some r,()))
  |none=>do
   moveDown' (lo+k) (lo+t.2.1)
   pure (.yield (none,()))
 match t.1 with
 |some r=>pure r
 |none=>pure true):=by kernel_rfl
def DT(j:Nat)(m:Array Keyed)(st:SortSt):SortSt:=setArr st (m.toList.zipIdx.foldl (fun c q=>c.setIfInBounds (j+q.2) q.1) (Jh st))
theorem LN(i:Nat):mergeAt' i=(do
 let g←get
 let (some (p,m,v),some (q,n,_)):=((Xr g)[i]?,(Xr g)[i+1]?)|unsupported "internal:list.sort.pending"
 set (setPending g (((Xr g).setIfInBounds i (p,m+n,v)).eraseIdxIfInBounds (i+1)))
 let some k←y9 false (←elem' (Jh g) q) (Jh g) p m 0|return false
 if m-k==0 then return true
 let some n←y9 true (←elem' (Jh g) (p+k+(m-k)-1)) (Jh g) q n (n-1)|return false
 if n==0 then return true
 let r←if m-k≤n then Lx ((Jh g).extract (p+k) q) ((Jh g).extract q (q+n))else Ly ((Jh g).extract (p+k) q) ((Jh g).extract q (q+n))
 modify fun st=>DT (p+k) r st
 return (failedOf (←get)).isNone):=by kernel_rfl
def S_(n w:Nat):StateT SortSt Sem (Option Unit×Unit):=forIn [0:n] ((none,()):Option Unit×Unit) fun _ _=>do
 let g←get
 match (if (Xr g).size>1 then(Xr g)[(Xr g).size-2]? else none)with
 |some (_,_,v)=>
  if v≤w then pure (.done (none,()))
  else do
   let z←mergeAt' ((Xr g).size-2)
   if (!z)=true then pure (.done (some (),()))else pure (.yield (none,()))
 | _=>pure (.done (none,()))
def Vi(w:Nat)(st:SortSt):SortSt:=setPending st ((Xr st).modify ((Xr st).size-1) fun(p,l,_)=>(p,l,w))
def QH(lo n:Nat)(st:SortSt):SortSt:=setPending st ((Xr st).push (lo,n,0))
def QI(N lo n:Nat):StateT SortSt Sem (ForInStep (Option Unit×Nat)):=do
 let g←get
 match (Xr g).back? with
 |some (p,l,_)=>do
  let t←S_ N (power' N (2*p+l) (2*p+l+l+n) N)
  match t.1 with
  |some r=>pure (.done (some r,lo))
  |none=>do
   modify (Vi (power' N (2*p+l) (2*p+l+l+n) N))
   modify (QH lo n)
   pure (.yield (none,lo+n))
 | _=>do
  modify (QH lo n)
  pure (.yield (none,lo+n))
def Td(N:Nat):StateT SortSt Sem (Option Unit×Unit):=forIn [0:N] ((none,()):Option Unit×Unit) fun _ _=>do
 let g←get
 if (Xr g).size≤1 then pure (.done (none,()))
 else do
  let z←mergeAt' (if (if (Xr g).size-2>0 then((Xr g)[(Xr g).size-2-1]?).map (·.2.1)else none).any (·<((Xr g)[(Xr g).size-2+1]?.elim 0 (·.2.1)))then(Xr g).size-2-1 else(Xr g).size-2)
  if (!z)=true then pure (.done (some (),()))else pure (.yield (none,()))
theorem Ib:sortRuns'=(do
 let g←get
 let t←forIn [0:(Jh g).size] ((none,0):Option Unit×Nat) fun _ c=>
  if c.2≥(Jh g).size then pure (.done (none,c.2))
  else do
   let z←countRun' c.2 ((Jh g).size-c.2)
   match z with
   |some n=>
    if n<minRun' (Jh g).size (Jh g).size 0 then do
     liftM (rule "list.sort.binary-insertion")
     let z←binarySort' c.2 (min ((Jh g).size-c.2) (minRun' (Jh g).size (Jh g).size 0)) n
     if (!z)=true then pure (.done (some (),c.2))else QI (Jh g).size c.2 (min ((Jh g).size-c.2) (minRun' (Jh g).size (Jh g).size 0))
    else QI (Jh g).size c.2 n
   | _=>pure (.done (some (),c.2))
 match t.1 with
 |some r=>pure r
 |none=>do
  let u←Td (Jh g).size
  match u.1 with
  |some r=>pure r
  |none=>pure ()):=by kernel_rfl
abbrev gg(xs:Array Keyed)(k:Nat):Keyed:=xs.getD k (.none, .none)
theorem o8(xs:Array Keyed)(k:Nat):gg xs k=(xs[k]?).getD (.none, .none):=by unfold gg;rw[Array.getD_eq_getD_getElem?]
theorem lq{xs:Array Keyed}{k:Nat}(h:k<xs.size):xs[k]?=some (gg xs k):=by simp[h]
def Sw(lt:Keyed→Keyed→Bool)(xs:Array Keyed)(a b:Nat):Prop:=∀i j,a≤i→i<j→j<b→lt (gg xs i) (gg xs j)=true
def Dw(lt:Keyed→Keyed→Bool)(xs:Array Keyed)(a b:Nat):Prop:=∀i j,a≤i→i<j→j<b→lt (gg xs j) (gg xs i)=true
theorem Sw.congr{lt:Keyed→Keyed→Bool}{xs ys:Array Keyed}{a b:Nat}(h:Sw lt xs a b)(e:∀t,a≤t→t<b→gg ys t=gg xs t):Sw lt ys a b:=fun i j h1 h2 h3=>by rw[e i h1 Aj,e j Aj h3];exact h i j h1 h2 h3
structure SB(X:List Keyed)(κ:SortKind)(st:SortSt):Prop where
 pm:(Jh st).toList.Perm X
 kd:kindOf st=κ
 fl:failedOf st=none
theorem Ic{σ:Type}{M:Model}{A:Around}{E:Value→Shared→Prop}{s:Shared}{x:σ}{Q:PUnit→σ→Prop}{st:σ}(h:Q ⟨⟩ x):wpS M A E s (set x:StateT σ Sem PUnit) Q st:=by
 unfold wpS;rw[StateT.run_set];exact Xs ⟨rfl,h⟩
section
variable{prog:Program}{w:World}{A:Around}{E:Value→Shared→Prop}{s:Shared}{X:List Keyed}{κ:SortKind}{lt:Keyed→Keyed→Bool}
theorem SB.size{st:SortSt}(b:SB X κ st):(Jh st).size=X.length:=by have:=b.pm.length_eq;simpa using this
theorem SB.mem{st:SortSt}(b:SB X κ st){k:Nat}(h:k<X.length):gg (Jh st) k∈X:=by
 have:=lq (xs:=Jh st) (k:=k) (by rw[b.size];exact h);rw[←Array.getElem?_toList]at this;exact b.pm.mem_iff.mp (Y7 this)
theorem SB.inj{st:SortSt}(C:Fm prog w A s X κ lt)(b:SB X κ st){i j:Nat}(hi:i<X.length)(hj:j<X.length)(h:i≠j):gg (Jh st) i≠gg (Jh st) j:=fun e=>by
 have h1:=lq (xs:=Jh st) (k:=i) (by rw[b.size];exact hi);have h2:=lq (xs:=Jh st) (k:=j) (by rw[b.size];exact hj);rw[←Array.getElem?_toList]at h1 h2;have nd:(Jh st).toList.Nodup:=b.pm.nodup_iff.mpr C.nd;exact h ((List.getElem?_inj (WB h1).1 nd).mp (by rw[h1,h2,e]))
theorem SB.set{st:SortSt}{xs:Array Keyed}(b:SB X κ st)(h:xs.Perm (Jh st)):SB X κ (setArr st xs):=⟨(Array.perm_iff_toList_perm.mp h).trans b.pm,b.kd,b.fl⟩
variable(C:Fm prog w A s X κ lt)
include C
theorem ze{st:SortSt}{i j:Nat}{Q:Option Bool→SortSt→Prop}(b:SB X κ st)(hi:i<X.length)(hj:j<X.length)(h:Q (some (lt (ZT i) (ZT j))) st):wpS (model prog w) A E s (ltAt' i j) Q st:=by
 rw[ltAt'_eq];refine wpS_bind (wpS_get ?_);show wpS _ _ _ _ (do let x←elem' (Jh st) i;let y←elem' (Jh st) j;lt' x y) Q st;exact wpS_bind (e7 (lq (by rw[b.size];exact hi)) (wpS_bind (e7 (lq (by rw[b.size];exact hj)) (C.ask b.kd (b.mem hi) (b.mem hj) h))))
theorem SB.no{st:SortSt}(b:SB X κ st){i j:Nat}(hi:i<X.length)(hj:j<X.length)(h:i≠j)(e:lt (ZT i) (ZT j)=false):lt (ZT j) (ZT i)=true:=C.no (b.mem hi) (b.mem hj) (b.inj C hi hj h) e
theorem Sw.next{st:SortSt}(b:SB X κ st){lo n:Nat}(h1:1≤n)(hn:lo+n<X.length)(h:Sw lt (Jh st) lo (lo+n))(e:lt (ZT (lo+n)) (ZT (lo+n-1))=false):Sw lt (Jh st) lo (lo+(n+1)):=fun i j hi m7 hj=>by
 have hl:=b.no C (i:=lo+n) (j:=lo+n-1) hn Aj (by lia) e;by_cases ej:j=lo+n
 ·subst ej;by_cases ei:i=lo+n-1
  ·subst ei;exact hl
  ·exact C.tr _ (b.mem Aj) _ (b.mem Aj) _ (b.mem hn) (h i (lo+n-1) hi Aj (by lia)) hl
 ·exact h i j hi m7 Aj
theorem Fv{st:SortSt}{lo i n:Nat}{Q:AscSt→SortSt→Prop}(b:SB X κ st)(hn:lo+n≤X.length)(h1:1≤i)(oB:i≤n)(hs:Sw lt (Jh st) lo (lo+i))(q:∀m,i≤m→m≤n→Sw lt (Jh st) lo (lo+m)→(m=n∨lt (ZT (lo+m)) (ZT (lo+m-1))=true)→Q (none,m) st):wpS (model prog w) A E s (QE lo i n) Q st:=by
 unfold QE;refine wpS_forRange (I:=fun x c aU=>aU=st∧c=(none,x)∧Sw lt (Jh st) lo (lo+x)) ?_ ?_ ⟨rfl,rfl,hs⟩
 ·rintro x c aU lE hx ⟨rfl,rfl,m6⟩;refine wpS_bind (ze C b (by show lo+x<_;lia) (by show lo+x-1<_;lia) ?_);dsimp only;cases e:lt (gg (Jh aU) (lo+x)) (gg (Jh aU) (lo+x-1))with
  |true=>
   rw[if_pos rfl];exact Z2 (q x lE Aj m6 (.inr e))
  |false=>
   rw[if_neg K4];exact Z2 ⟨rfl,rfl,Sw.next C b (by lia) (by lia) m6 e⟩
 ·rintro c aU ⟨rfl,rfl,m6⟩;rw[show max i n=n by lia]at m6⊢;exact q n oB ZD m6 (.inl rfl)
omit C in
theorem AE{xs:Array Keyed}{i j:Nat}(hj:j≤xs.size)(k:Nat):gg (mirror xs i j ((j-i)/2)) k=if i≤k∧k<j then gg xs (i+j-1-k)else gg xs k:=by
 rw[o8,getElem?_mirror_all hj];split<;>rw[o8]
theorem LO{st:SortSt}{lo i n:Nat}{Q:Option Nat→SortSt→Prop}(b:SB X κ st)(hn:lo+n≤X.length)(h1:1≤i)(oB:i≤n)(hs:Dw lt (Jh st) lo (lo+i))(q:∀m aU,SB X κ aU→pendingOf aU=pendingOf st→(∀t,t<lo→gg (Jh aU) t=gg (Jh st) t)→1≤m→m≤n→Sw lt (Jh aU) lo (lo+m)→Q (some m) aU):wpS (model prog w) A E s (QG lo i n) Q st:=by
 unfold QG;refine wpS_bind ?_;rw[reverseSlice'_eq];refine wpS_modify ?_;have hsz:lo+i≤(Jh st).size:=by rw[b.size];lia
 have b':SB X κ (setArr st (mirror (Jh st) lo (lo+i) ((lo+i-lo)/2))):=b.set (mirror_perm _ _ _ _);refine wpS_bind (Fv C b' hn h1 oB (fun x y hx zd hy=>?_) fun m a1 a2 a3 _=>Z2 (q m _ b' rfl (fun t ht=>?_) (by lia) a2 a3))
 ·show lt (gg (mirror (Jh st) lo (lo+i) ((lo+i-lo)/2)) x) (gg (mirror (Jh st) lo (lo+i) ((lo+i-lo)/2)) y)=true;rw[AE hsz,AE hsz,Hz Aj,Hz Aj];exact hs _ _ (by lia) (by lia) (by lia)
 ·show gg (mirror (Jh st) lo (lo+i) ((lo+i-lo)/2)) t=_;rw[AE hsz,Dy Aj]
theorem LP{st:SortSt}{lo i n:Nat}{Q:DescSt→SortSt→Prop}(b:SB X κ st)(hn:lo+n≤X.length)(h1:1≤i)(oB:i≤n)(hs:Dw lt (Jh st) lo (lo+i))(q:∀m,i≤m→m≤n→Dw lt (Jh st) lo (lo+m)→Q (none,m,0) st):wpS (model prog w) A E s (S8 lo i n) Q st:=by
 unfold S8;refine wpS_forRange (I:=fun x c aU=>aU=st∧c=(none,x,0)∧Dw lt (Jh st) lo (lo+x)) ?_ ?_ ⟨rfl,rfl,hs⟩
 ·rintro x c aU lE hx ⟨rfl,rfl,m6⟩;refine wpS_bind (ze C b (by show lo+x<_;lia) (by show lo+x-1<_;lia) ?_);dsimp only;cases e:lt (gg (Jh aU) (lo+x)) (gg (Jh aU) (lo+x-1))with
  |true=>
   rw[if_pos rfl,Dy Aj];refine wpS_pure ⟨rfl,rfl,fun y z hy XH hz=>?_⟩;by_cases ez:z=lo+x
   ·subst ez;by_cases ey:y=lo+x-1
    ·subst ey;exact e
    ·exact C.tr _ (b.mem Aj) _ (b.mem Aj) _ (b.mem Aj) e (m6 y (lo+x-1) hy Aj (by lia))
   ·exact m6 y z hy XH Aj
  |false=>
   rw[if_neg K4];have e':=b.no C (i:=lo+x) (j:=lo+x-1) (by lia) (by lia) (by lia) e;refine wpS_bind (ze C b (by lia) (by lia) ?_);rw[e'];dsimp only;rw[if_pos rfl];exact Z2 (q x lE Aj m6)
 ·rintro c aU ⟨rfl,rfl,m6⟩;rw[show max i n=n by lia]at m6⊢;exact q n oB ZD m6
theorem OO{st:SortSt}{lo n:Nat}{Q:Option Nat→SortSt→Prop}(b:SB X κ st)(hn:lo+n≤X.length)(h1:1≤n)(q:∀m aU,SB X κ aU→pendingOf aU=pendingOf st→(∀t,t<lo→gg (Jh aU) t=gg (Jh st) t)→1≤m→m≤n→Sw lt (Jh aU) lo (lo+m)→Q (some m) aU):wpS (model prog w) A E s (countRun' lo n) Q st:=by
 rw[LL];refine wpS_bind (Fv C b hn ZD h1 (fun i j a b c=>by lia) fun m a1 a2 a3 a4=>?_);dsimp only;by_cases e:(m==n)=true
 ·rw[Hz e];exact Z2 (q m st b rfl (fun _ _=>rfl) a1 a2 a3)
 ·rw[Dy e];have e:m≠n:=fun z=>e (Zv z)
  by_cases e2:m>1
  ·rw[Hz e2];refine wpS_bind (ze C b (by lia) (by lia) ?_);rw[a3 lo (lo+m-1) (Nat.le_refl _) (by lia) (by lia)];dsimp only;rw[if_pos rfl];exact Z2 (q m st b rfl (fun _ _=>rfl) a1 a2 a3)
  ·rw[Dy e2];have:m=1:=by lia
   subst this;unfold S9;refine wpS_bind (wpS_lift (wpAny_rule ⟨rfl,?_⟩));refine wpS_bind (LP C b hn Aj (by lia) (fun i j hi m7 hj=>?_) fun m c1 c2 c3=>?_)
   ·have hi:i=lo:=by lia
    have hj:j=lo+1:=by lia
    subst hi hj;exact a4.resolve_left e
   ·dsimp only;rw[Dy Aj];exact LO C b hn Aj c2 c3 q
omit C in
theorem LQ{xs:Array Keyed}{src d:Nat}(hs:src<xs.size)(hd:d≤src)(k:Nat):gg (bubble xs src d) k=if k=src-d then gg xs src else if src-d<k∧k≤src then gg xs (k-1)else gg xs k:=by
 rw[o8,getElem?_bubble hs d hd];by_cases h1:k=src-d
 ·rw[Hz h1,Hz h1,o8]
 ·rw[Dy h1,Dy h1];by_cases h2:src-d<k∧k≤src
  ·rw[Hz h2,Hz h2,o8]
  ·rw[Dy h2,Dy h2,o8]
theorem OP{st:SortSt}{lo n ok:Nat}{Q:Bool→SortSt→Prop}(b:SB X κ st)(hn:lo+n≤X.length)(h1:1≤ok)(bS:ok≤n)(hs:Sw lt (Jh st) lo (lo+ok))(q:∀aU,SB X κ aU→pendingOf aU=pendingOf st→(∀t,t<lo→gg (Jh aU) t=gg (Jh st) t)→Sw lt (Jh aU) lo (lo+n)→Q true aU):wpS (model prog w) A E s (binarySort' lo n ok) Q st:=by
 rw[LM];refine wpS_bind (wpS_mono (wpS_forRange (I:=fun k c aU=>c=(none,())∧SB X κ aU∧pendingOf aU=pendingOf st∧(∀t,t<lo→gg (Jh aU) t=gg (Jh st) t)∧Sw lt (Jh aU) lo (lo+k)) (Q:=fun c aU=>c=(none,())∧SB X κ aU∧pendingOf aU=pendingOf st∧(∀t,t<lo→gg (Jh aU) t=gg (Jh st) t)∧Sw lt (Jh aU) lo (lo+n)) ?_ ?_ ⟨rfl,b,rfl,fun _ _=>rfl,by rw[show max ok 1=ok by lia];exact hs⟩) ?_)
 ·rintro k c aU JI hk ⟨rfl,b',hp,hf,m6⟩;unfold Vh;refine wpS_bind (wpS_mono (wpS_forRange (I:=fun x c dR=>dR=aU∧∃l r,c=(none,l,r)∧l≤r∧r≤k∧(∀i,i<l→lt (gg (Jh aU) (lo+i)) (gg (Jh aU) (lo+k))=true)∧(∀i,r≤i→i<k→lt (gg (Jh aU) (lo+k)) (gg (Jh aU) (lo+i))=true)∧r-l+x≤k) (Q:=fun c dR=>dR=aU∧∃l r,c=(none,l,r)∧l≤k∧(∀i,i<l→lt (gg (Jh aU) (lo+i)) (gg (Jh aU) (lo+k))=true)∧(∀i,l≤i→i<k→lt (gg (Jh aU) (lo+k)) (gg (Jh aU) (lo+i))=true)) ?_ ?_ ⟨rfl,0,k,rfl,by lia,by lia,fun i hi=>by lia,fun i h1 h2=>by lia,by lia⟩) ?_)
  ·rintro x c dR _ hx ⟨rfl,l,r,rfl,a1,a2,a3,a4,a5⟩;dsimp only;by_cases Vj:l≥r
   ·rw[Hz Vj];exact Z2 ⟨rfl,l,r,rfl,by lia,a3,fun i h1 h2=>a4 i Aj h2⟩
   ·rw[Dy Vj];refine wpS_bind (ze C b' Aj (by lia) ?_);dsimp only;cases e:lt (gg (Jh dR) (lo+k)) (gg (Jh dR) (lo+(l+r)/2))with
    |true=>
     rw[if_pos rfl];refine wpS_pure ⟨rfl,l,(l+r)/2,rfl,by lia,by lia,a3,fun i h1 h2=>?_,by lia⟩;by_cases ei:i=(l+r)/2
     ·subst ei;exact e
     ·exact C.tr _ (b'.mem Aj) _ (b'.mem Aj) _ (b'.mem Aj) e (m6 (lo+(l+r)/2) (lo+i) (by lia) (by lia) (by lia))
    |false=>
     rw[if_neg K4];have e':=b'.no C (i:=lo+k) (j:=lo+(l+r)/2) (by lia) (by lia) (by lia) e;refine wpS_pure ⟨rfl,(l+r)/2+1,r,rfl,by lia,a2,fun i h1=>?_,a4,by lia⟩;by_cases ei:i=(l+r)/2
     ·subst ei;exact e'
     ·exact C.tr _ (b'.mem Aj) _ (b'.mem Aj) _ (b'.mem Aj) (m6 (lo+i) (lo+(l+r)/2) (by lia) (by lia) (by lia)) e'
  ·rintro c dR ⟨rfl,l,r,rfl,a1,a2,a3,a4,a5⟩;exact⟨rfl,l,r,rfl,by lia,a3,fun i h1 h2=>a4 i Aj h2⟩
  rintro c dR ⟨rfl,l,r,rfl,a1,a2,a3⟩;dsimp only;refine wpS_bind ?_;rw[moveDown'_eq];refine wpS_modify (Z2 ?_);have hsz:lo+k<(Jh dR).size:=by rw[b'.size];lia
  have gb:=fun t=>LQ (xs:=Jh dR) hsz (d:=lo+k-(lo+l)) (by lia) t
  have es:lo+k-(lo+k-(lo+l))=lo+l:=by lia
  rw[es]at gb;refine⟨rfl,b'.set (bubble_perm _ _ _),hp,fun t ht=>?_,fun i j hi m7 hj=>?_⟩
  ·show gg (bubble (Jh dR) (lo+k) (lo+k-(lo+l))) t=_;rw[gb,Dy Aj,Dy Aj];exact hf t ht
  ·show lt (gg (bubble (Jh dR) (lo+k) (lo+k-(lo+l))) i) (gg (bubble (Jh dR) (lo+k) (lo+k-(lo+l))) j)=true;rw[gb,gb];have XI:∀t,lo≤t→t<lo+l→lt (gg (Jh dR) t) (gg (Jh dR) (lo+k))=true:=fun t h1 h2=>by have:=a2 (t-lo) (by lia);rw[show lo+(t-lo)=t by lia]at this;exact this
   have XJ:∀t,lo+l≤t→t<lo+k→lt (gg (Jh dR) (lo+k)) (gg (Jh dR) t)=true:=fun t h1 h2=>by have:=a3 (t-lo) (by lia) (by lia);rw[show lo+(t-lo)=t by lia]at this;exact this
   by_cases e1:i=lo+l
   ·rw[Hz e1,Dy Aj,Hz Aj];exact XJ _ (by lia) (by lia)
   ·rw[Dy e1];by_cases e2:lo+l<i∧i≤lo+k
    ·rw[Hz e2,Dy Aj,Hz Aj];exact m6 _ _ (by lia) (by lia) (by lia)
    ·rw[Dy e2];by_cases e3:j=lo+l
     ·rw[Hz e3];exact XI _ (by lia) (by lia)
     ·rw[Dy e3];by_cases e4:lo+l<j∧j≤lo+k
      ·rw[Hz e4];exact m6 _ _ (by lia) (by lia) (by lia)
      ·rw[Dy e4];exact m6 _ _ (by lia) (by lia) (by lia)
 ·rintro c aU ⟨rfl,b',hp,hf,m6⟩;rw[show max (max ok 1) n=n by lia]at m6;exact⟨rfl,b',hp,hf,m6⟩
 ·rintro c aU ⟨rfl,b',hp,hf,m6⟩;exact Z2 (q aU b' hp hf m6)
end
theorem LR(ys:List Keyed)(j:Nat):∀(k:Nat)(xs:Array Keyed),j+k+ys.length≤xs.size→∀t:Nat,((ys.zipIdx k).foldl (fun c q=>c.setIfInBounds (j+q.2) q.1) xs)[t]?=if j+k≤t∧t<j+k+ys.length then ys[t-(j+k)]? else xs[t]?:=by
 induction ys with
 |nil=>
  intro k xs h t;rw[Dy (fun z=>by have z1:=z.1;have z2:=z.2;simp only[List.length_nil]at z2;lia)];rfl
 |cons y ys ih=>
  intro k xs h t;rw[List.zipIdx_cons,List.foldl_cons,ih (k+1) _ (by simp at h⊢;lia) t];simp only[List.length_cons]at h⊢;by_cases h1:j+(k+1)≤t∧t<j+(k+1)+ys.length
  ·rw[Hz h1,Hz Aj,show t-(j+k)=(t-(j+(k+1)))+1 by lia];rfl
  ·rw[Dy h1,Array.getElem?_setIfInBounds];by_cases h2:j+k=t
   ·subst h2;rw[if_pos rfl,Hz Aj,Hz Aj];simp
   ·rw[Dy h2,Dy Aj]
theorem Fw(ys:List Keyed)(j:Nat)(xs:Array Keyed)(h:j+ys.length≤xs.size):(ys.zipIdx.foldl (fun c q=>c.setIfInBounds (j+q.2) q.1) xs).toList=xs.toList.take j++ys++xs.toList.drop (j+ys.length):=by
 apply List.ext_getElem?;intro t;rw[Array.getElem?_toList,LR ys j 0 xs Aj t,Nat.add_zero];by_cases h1:t<j
 ·rw[Dy Aj,List.append_assoc,ZK Z_,List.getElem?_take,Hz h1,Array.getElem?_toList]
 ·by_cases h2:t<j+ys.length
  ·rw[Hz Aj,List.append_assoc,ZP Z_,ZK Z_]
   congr 1
   simp
   lia
  ·rw[Dy Aj,ZP Z_,List.getElem?_drop,Array.getElem?_toList]
   congr 1
   simp
   lia
section
variable{prog:Program}{w:World}{A:Around}{E:Value→Shared→Prop}{s:Shared}{X:List Keyed}{κ:SortKind}{lt:Keyed→Keyed→Bool}
theorem Sw.pw{xs:Array Keyed}{p m:Nat}(h:Sw lt xs p (p+m)):Pw lt ((xs.toList.drop p).take m):=by
 refine List.pairwise_iff_getElem.mpr ?_;intro i j hi hj m7;have zf:j<m∧p+j<xs.size:=by simp at hj;lia
 have e1:((xs.toList.drop p).take m)[i]=gg xs (p+i):=by
  have:((xs.toList.drop p).take m)[i]?=some (gg xs (p+i)):=by rw[List.getElem?_take,Hz Aj,List.getElem?_drop,Array.getElem?_toList];exact lq Aj
  exact(WB this).2
 have e2:((xs.toList.drop p).take m)[j]=gg xs (p+j):=by
  have:((xs.toList.drop p).take m)[j]?=some (gg xs (p+j)):=by rw[List.getElem?_take,Hz Aj,List.getElem?_drop,Array.getElem?_toList];exact lq Aj
  exact(WB this).2
 rw[e1,e2];exact h _ _ (by lia) (by lia) (by lia)
theorem Fx{xs:Array Keyed}{p m t:Nat}(h:t<m)(hs:p+m≤xs.size):((xs.toList.drop p).take m)[t]?=some (gg xs (p+t)):=by
 rw[List.getElem?_take,Hz h,List.getElem?_drop,Array.getElem?_toList];exact lq Aj
variable(C:Fm prog w A s X κ lt)
include C
theorem OQ{st:SortSt}{i p m v n u:Nat}{Q:Bool→SortSt→Prop}(b:SB X κ st)(e1:(Xr st)[i]?=some (p,m,v))(e2:(Xr st)[i+1]?=some (p+m,n,u))(hm:1≤m)(hn:1≤n)(hX:p+m+n≤X.length)(s1:Sw lt (Jh st) p (p+m))(s2:Sw lt (Jh st) (p+m) (p+m+n))
  (q:∀aU,SB X κ aU→pendingOf aU=((Xr st).setIfInBounds i (p,m+n,v)).eraseIdxIfInBounds (i+1)→(∀t,t<p∨p+m+n≤t→gg (Jh aU) t=gg (Jh st) t)→Sw lt (Jh aU) p (p+m+n)→Q true aU):wpS (model prog w) A E s (mergeAt' i) Q st:=by
 rw[LN];refine wpS_bind (wpS_get ?_);rw[e1,e2];dsimp only;refine wpS_bind (Ic ?_);have hsz:=b.size;refine wpS_bind (e7 (lq (xs:=Jh st) (k:=p+m) (by lia)) ?_);have mem:∀t,t<X.length→gg (Jh st) t∈X:=fun t h=>b.mem h
 generalize LS:setPending st (((Xr st).setIfInBounds i (p,m+n,v)).eraseIdxIfInBounds (i+1))=AD;have AF:arrOf AD=arrOf st:=by rw[←LS]
 have b1:SB X κ AD:=by rw[←LS];exact⟨b.pm,b.kd,b.fl⟩
 have uS:pendingOf AD=((Xr st).setIfInBounds i (p,m+n,v)).eraseIdxIfInBounds (i+1):=by rw[←LS]
 refine wpS_bind (qH C (fun t=>ZT (p+t)) b1.kd (mem _ (by lia)) (fun t ht=>⟨lq Aj,mem _ (by lia)⟩) (fun x y h1 h2=>s1 _ _ (by lia) (by lia) (by lia)) (by lia) fun k hk g1 g2=>?_);dsimp only;have OR:∀t,t<k→lt (ZT (p+t)) (ZT (p+m))=true:=fun t ht=>by
  have:=g1 t ht;simp only[lD,Bool.false_eq_true,if_false,Bool.not_eq_true']at this;exact b.no C (by lia) (by lia) (by lia) this
 have Vk:∀t,k≤t→t<m→lt (ZT (p+m)) (ZT (p+t))=true:=fun t h1 h2=>by
  have:=g2 t h1 h2;simp only[lD,Bool.false_eq_true,if_false,Bool.not_eq_false']at this;exact this
 have tr:=fun{x y z:Nat}(hx:x<X.length)(hy:y<X.length)(hz:z<X.length)=>C.tr _ (mem x hx) _ (mem y hy) _ (mem z hz)
 by_cases ek:(m-k==0)=true
 ·rw[Hz ek];have:k=m:=by have:=beq_iff_eq.mp ek;lia
  subst this;refine wpS_pure (q AD b1 uS (fun _ _=>by rw[AF]) ?_);rw[AF];intro x y hx zd hy;by_cases h1:y<p+k
  ·exact s1 x y hx zd h1
  ·by_cases h2:p+k≤x
   ·exact s2 x y h2 zd hy
   ·have h3:=OR (x-p) (by lia);rw[show p+(x-p)=x by lia]at h3;by_cases h4:y=p+k
    ·rw[h4];exact h3
    ·exact tr Aj (by lia) (by lia) h3 (s2 (p+k) y Aj (by lia) hy)
 rw[Dy ek];have ek:k<m:=by
  have:m-k≠0:=fun z=>ek (Zv z)
  lia
 refine wpS_bind (e7 (lq (xs:=Jh st) (k:=p+k+(m-k)-1) (by lia)) ?_);rw[show p+k+(m-k)-1=p+m-1 by lia];refine wpS_bind (qH C (fun t=>ZT (p+m+t)) b1.kd (mem _ (by lia)) (fun t ht=>⟨lq Aj,mem _ (by lia)⟩) (fun x y h1 h2=>s2 _ _ (by lia) (by lia) (by lia)) (by lia) fun l hl g3 g4=>?_);dsimp only;have Tf:∀t,t<l→lt (ZT (p+m+t)) (ZT (p+m-1))=true:=fun t ht=>by
  have:=g3 t ht;simp only[lD,if_true]at this;exact this
 have Vl:∀t,l≤t→t<n→lt (ZT (p+m-1)) (ZT (p+m+t))=true:=fun t h1 h2=>by
  have:=g4 t h1 h2;simp only[lD,if_true]at this;exact b.no C (by lia) (by lia) (by lia) this
 have GO:0<l:=by
  rcases Nat.lt_or_ge 0 l with h|h
  ·exact h
  ·have h1:=Vl 0 (by lia) (by lia);have h2:=Vk (m-1) (by lia) (by lia);rw[show p+(m-1)=p+m-1 by lia]at h2;rw[Nat.add_zero]at h1;have:=C.as _ (mem _ (by lia)) _ (mem _ (by lia)) h1;rw[h2]at this;cases this
 rw[Dy Z_];have ex:((Jh st).extract (p+k) (p+m)).toList=((Jh st).toList.drop (p+k)).take (m-k):=by
  simp[Array.toList_extract,List.extract_eq_take_drop]
  congr 1
  lia
 have ey:((Jh st).extract (p+m) (p+m+l)).toList=((Jh st).toList.drop (p+m)).take l:=by
  simp[Array.toList_extract,List.extract_eq_take_drop]
 have Vm:∀t,t<m-k→(((Jh st).toList.drop (p+k)).take (m-k))[t]?=some (ZT (p+k+t)):=fun t ht=>Fx ht Aj
 have Vn:∀t,t<l→(((Jh st).toList.drop (p+m)).take l)[t]?=some (ZT (p+m+t)):=fun t ht=>Fx ht Aj
 have lx:(((Jh st).toList.drop (p+k)).take (m-k)).length=m-k:=by simp;lia
 have ly:(((Jh st).toList.drop (p+m)).take l).length=l:=by simp;lia
 have QJ:∀x∈((Jh st).toList.drop (p+k)).take (m-k),∃t,t<m-k∧x=gg (Jh st) (p+k+t):=fun x hx=>by
  obtain⟨t,ht⟩:=List.mem_iff_getElem?.mp hx;have il:=(WB ht).1;rw[lx]at il;rw[Vm t il]at ht;exact⟨t,il,(YA ht).symm⟩
 have QK:∀x∈((Jh st).toList.drop (p+m)).take l,∃t,t<l∧x=gg (Jh st) (p+m+t):=fun x hx=>by
  obtain⟨t,ht⟩:=List.mem_iff_getElem?.mp hx;have il:=(WB ht).1;rw[ly]at il;rw[Vn t il]at ht;exact⟨t,il,(YA ht).symm⟩
 have MM:MC X lt ((Jh st).extract (p+k) (p+m)).toList ((Jh st).extract (p+m) (p+m+l)).toList:=by
  rw[ex,ey];refine⟨Sw.pw fun x y h1 h2 h3=>s1 x y Aj h2 Aj,Sw.pw fun x y h1 h2 h3=>s2 x y h1 h2 Aj,fun x hx=>?_,fun x hx=>?_,fun x hx y hy=>?_,fun x hx y hy=>?_,fun y hy x hx=>?_⟩
  ·obtain⟨t,ht,rfl⟩:=QJ x hx;exact mem _ (by lia)
  ·obtain⟨t,ht,rfl⟩:=QK x hx;exact mem _ (by lia)
  ·obtain⟨t,ht,rfl⟩:=QJ x hx;obtain⟨u,hu,rfl⟩:=QK y hy;exact b.inj C (by lia) (by lia) (by lia)
  ·obtain⟨t,ht,rfl⟩:=QJ x hx;rw[Vn 0 GO]at hy;cases hy;have:=Vk (k+t) (by lia) (by lia);rw[←Nat.add_assoc]at this;exact this
  ·obtain⟨t,ht,rfl⟩:=QK y hy;rw[lx,Vm _ (by lia)]at hx;cases hx;rw[show p+k+(m-k-1)=p+m-1 by lia];exact Tf t ht
 have fin:∀r dR,Eg AD dR→MG lt ((Jh st).extract (p+k) (p+m)).toList ((Jh st).extract (p+m) (p+m+l)).toList r.toList→wpS (model prog w) A E s (do
   modify fun st=>DT (p+k) r st
   return (failedOf (←get)).isNone) Q dR:=fun r dR eg mg=>by
  refine wpS_bind (wpS_modify (wpS_bind (wpS_get (Z2 ?_))));have MY:arrOf dR=arrOf st:=eg.2.1.trans AF;have QL:failedOf dR=none:=eg.2.2.2.trans b1.fl;rw[ex,ey]at mg;have MZ:r.toList.length=m-k+l:=by have:=mg.1.length_eq;rw[List.length_append,lx,ly]at this;exact this
  have el:(Jh (DT (p+k) r dR)).toList=(Jh st).toList.take (p+k)++r.toList++(Jh st).toList.drop (p+m+l):=by
   show(r.toList.zipIdx.foldl (fun c q=>c.setIfInBounds (p+k+q.2) q.1) (Jh dR)).toList=_;rw[Fw _ _ _ (by rw[MY,MZ];lia),MY,MZ,show p+k+(m-k+l)=p+m+l by lia]
  have XM:(Jh st).toList=(Jh st).toList.take (p+k)++(((Jh st).toList.drop (p+k)).take (m-k)++((Jh st).toList.drop (p+m)).take l)++(Jh st).toList.drop (p+m+l):=by
   have h1:=o7 (Jh st).toList (p+k) (m-k);have h2:=o7 (Jh st).toList (p+m) l;rw[show p+k+(m-k)=p+m by lia]at h1
   conv=>lhs;rw[←List.take_append_drop (p+k) (Jh st).toList,h1,h2]
   simp only[List.append_assoc]
  have Tg:∀t,gg (Jh (DT (p+k) r dR)) t=((Jh (DT (p+k) r dR)).toList[t]?).getD (.none, .none):=fun t=>by rw[o8,Array.getElem?_toList]
  have g0:∀t,gg (Jh st) t=((Jh st).toList[t]?).getD (.none, .none):=fun t=>by rw[o8,Array.getElem?_toList]
  have LU:∀t,t<p+k→gg (Jh (DT (p+k) r dR)) t=gg (Jh st) t:=fun t ht=>by
   rw[Tg,g0,el,List.append_assoc,ZK Z_,List.getElem?_take,Hz ht]
  have Fy:∀t,p+m+l≤t→gg (Jh (DT (p+k) r dR)) t=gg (Jh st) t:=fun t ht=>by
   have il:((Jh st).toList.take (p+k)++r.toList).length=p+m+l:=by
    rw[List.length_append,MZ,List.length_take,Array.length_toList]
    lia
   rw[Tg,g0,el,ZP Aj,List.getElem?_drop,il]
   congr 2
   lia
  have Th:∀t,p+k≤t→t<p+m+l→r.toList[t-(p+k)]?=some (gg (Jh (DT (p+k) r dR)) t):=fun t h1 h2=>by
   rw[Tg,el,List.append_assoc,ZP Z_,ZK (by rw[List.length_take,Array.length_toList];lia)];rw[show(List.take (p+k) (Jh st).toList).length=p+k by simp;lia];rw[ZZ Aj];rfl
  have cont:∀t,p+k≤t→t<p+m+l→∃u,p+k≤u∧u<p+m+l∧gg (Jh (DT (p+k) r dR)) t=gg (Jh st) u:=fun t h1 h2=>by
   have:=mg.1.mem_iff.mp (Y7 (Th t h1 h2));rcases List.mem_append.mp this with z|z
   ·obtain⟨u,hu,e⟩:=QJ _ z;exact⟨p+k+u,by lia,by lia,e⟩
   ·obtain⟨u,hu,e⟩:=QK _ z;exact⟨p+m+u,by lia,by lia,e⟩
  have hb:SB X κ (DT (p+k) r dR):=by
   refine⟨?_,eg.1.trans b1.kd,QL⟩;rw[el];refine List.Perm.trans ?_ b.pm
   conv=>rhs;rw[XM]
   exact(List.Perm.append_left _ mg.1).append_right _
  have NG:(failedOf (DT (p+k) r dR)).isNone=true:=by rw[show failedOf (DT (p+k) r dR)=failedOf dR from rfl,QL];rfl
  rw[NG];refine q _ hb (eg.2.2.1.trans uS) (fun t ht=>?_) fun x y hx zd hy=>?_
  ·rcases ht with ht|ht
   ·exact LU t (by lia)
   ·exact Fy t (by lia)
  ·
   have A1:∀t u,p≤t→t<p+k→p+k≤u→u<p+m+n→lt (ZT t) (ZT u)=true:=fun t u h1 h2 h3 h4=>by
    by_cases h5:u<p+m
    ·exact s1 t u h1 Aj h5
    ·have h6:=OR (t-p) (by lia);rw[show p+(t-p)=t by lia]at h6;by_cases h7:u=p+m
     ·rw[h7];exact h6
     ·exact tr Aj (by lia) (by lia) h6 (s2 (p+m) u Aj (by lia) h4)
   have A2:∀t u,p+k≤t→t<p+m+l→p+m+l≤u→u<p+m+n→lt (ZT t) (ZT u)=true:=fun t u h1 h2 h3 h4=>by
    by_cases h5:p+m≤t
    ·exact s2 t u h5 Aj h4
    ·have h6:=Vl (u-(p+m)) (by lia) (by lia);rw[show p+m+(u-(p+m))=u by lia]at h6;by_cases h7:t=p+m-1
     ·rw[h7];exact h6
     ·exact tr Aj (by lia) (by lia) (s1 t (p+m-1) (by lia) (by lia) (by lia)) h6
   by_cases h1:x<p+k
   ·rw[LU x h1];by_cases h2:y<p+k
    ·rw[LU y h2];exact s1 x y hx zd Aj
    ·by_cases h3:y<p+m+l
     ·obtain⟨u,u1,u2,u3⟩:=cont y Aj h3;rw[u3];exact A1 x u hx h1 u1 Aj
     ·rw[Fy y Aj];exact A1 x y hx h1 Aj hy
   ·by_cases h3:x<p+m+l
    ·by_cases h4:y<p+m+l
     ·exact mg.2.at (i:=x-(p+k)) (j:=y-(p+k)) (by lia) (Th x (by lia) h3) (Th y Aj h4)
     ·rw[Fy y Aj];obtain⟨u,u1,u2,u3⟩:=cont x (by lia) h3;rw[u3];exact A2 u y u1 u2 Aj hy
    ·rw[Fy x (by lia),Fy y Aj];exact s2 x y Aj zd hy
 have sx:0<((Jh st).extract (p+k) (p+m)).size:=by simp;lia
 have sy:0<((Jh st).extract (p+m) (p+m+l)).size:=by simp;lia
 by_cases Vo:m-k≤l
 ·rw[Hz Vo];exact wpS_bind (LD C MM b1.kd sx sy fin)
 ·rw[Dy Vo];exact wpS_bind (LK C MM b1.kd sx sy fin)
end
abbrev Rn:=Nat×Nat×Nat
def Ch:List Rn→Nat→Nat→Prop
 |[],s,e=>s=e
 |q::r,s,e=>q.1=s∧1≤q.2.1∧Ch r (s+q.2.1) e
theorem Ch.all:∀{l:List Rn}{s e:Nat},Ch l s e→s+l.length≤e∧∀q∈l,s≤q.1∧q.1+q.2.1≤e
 |[],s,e,h=>⟨by have:s=e:=h;simp;lia,fun q hq=>by cases hq⟩
 |q::r,s,e,⟨h1,h2,h3⟩=>by
  obtain⟨a1,a2⟩:=Ch.all h3;refine⟨by simp;lia,fun x hx=>?_⟩;rcases List.mem_cons.mp hx with rfl|hx
  ·lia
  ·have:=a2 x hx;lia
theorem Ch.split:∀{l r:List Rn}{s e:Nat},Ch (l++r) s e↔∃m,Ch l s m∧Ch r m e
 |[],r,s,e=>⟨fun h=>⟨s,rfl,h⟩,fun⟨m,h1,h2⟩=>by have:s=m:=h1;rw[this];exact h2⟩
 |q::l,r,s,e=>by
  constructor
  ·rintro⟨h1,h2,h3⟩;obtain⟨m,a1,a2⟩:=Ch.split.mp h3;exact⟨m,⟨h1,h2,a1⟩,a2⟩
  ·rintro⟨m,⟨h1,h2,a1⟩,a2⟩;exact⟨h1,h2,Ch.split.mpr ⟨m,a1,a2⟩⟩
theorem Ch.mod{f:Rn→Rn}(hf:∀q,(f q).1=q.1∧(f q).2.1=q.2.1):∀{l:List Rn}{j s e:Nat},Ch l s e→Ch (l.modify j f) s e
 |[],j,s,e,h=>by simpa using h
 |q::r,0,s,e,h=>by
  rw[List.modify_zero_cons];obtain⟨h1,h2,h3⟩:=h;refine⟨by rw[(hf q).1];exact h1,by rw[(hf q).2];exact h2,by rw[(hf q).2];exact h3⟩
 |q::r,j+1,s,e,h=>by
  rw[List.modify_succ_cons];exact⟨h.1,h.2.1,Ch.mod hf h.2.2⟩
theorem B2{f:Rn→Rn}:∀{l:List Rn}{j:Nat}{q:Rn},q∈l.modify j f→q∈l∨∃x∈l,q=f x
 |[],j,q,h=>by simp at h
 |x::r,0,q,h=>by
  rw[List.modify_zero_cons]at h;rcases List.mem_cons.mp h with h|h
  ·exact .inr ⟨x,MD,h⟩
  ·exact .inl (ZR h)
 |x::r,j+1,q,h=>by
  rw[List.modify_succ_cons]at h;rcases List.mem_cons.mp h with h|h
  ·exact .inl (by rw[h];simp)
  ·rcases B2 h with h|⟨y,h1,h2⟩
   ·exact .inl (ZR h)
   ·exact .inr ⟨y,ZR h1,h2⟩
structure RI(X:List Keyed)(κ:SortKind)(lt:Keyed→Keyed→Bool)(st:SortSt)(lo n:Nat):Prop where
 b:SB X κ st
 ch:Ch (Xr st).toList 0 lo
 sw:∀q∈(Xr st).toList,Sw lt (Jh st) q.1 (q.1+q.2.1)
 tl:Sw lt (Jh st) lo (lo+n)
section
variable{prog:Program}{w:World}{A:Around}{E:Value→Shared→Prop}{s:Shared}{X:List Keyed}{κ:SortKind}{lt:Keyed→Keyed→Bool}(C:Fm prog w A s X κ lt)
include C
theorem JK{st:SortSt}{lo n i:Nat}{Q:Bool→SortSt→Prop}(r:RI X κ lt st lo n)(MP:lo≤X.length)(hi:i+1<(Xr st).size)(q:∀aU,RI X κ lt aU lo n→(Xr aU).size+1=(Xr st).size→Q true aU):wpS (model prog w) A E s (mergeAt' i) Q st:=by
 have hl:(Xr st).toList.length=(Xr st).size:=MD;obtain⟨P1,x,y,P2,e,el⟩:∃P1 x y P2,(Xr st).toList=P1++x::y::P2∧P1.length=i:=by
  refine⟨(Xr st).toList.take i,(Xr st).toList[i],(Xr st).toList[i+1],(Xr st).toList.drop (i+2),?_,by simp;lia⟩
  conv=>lhs;rw[←List.take_append_drop i (Xr st).toList]
  rw[List.drop_eq_getElem_cons Aj,List.drop_eq_getElem_cons Aj]
 obtain⟨p,m,v⟩:=x;obtain⟨p2,k,u⟩:=y;have ch:=r.ch;rw[e]at ch;obtain⟨mid,c1,c2⟩:=Ch.split.mp ch;obtain⟨d1,d2,d3,d4,d5⟩:=c2;dsimp only at d1 d2 d3 d4 d5;subst d1 d3;have a1:=c1.all;have a2:=d5.all;have i1:(Xr st)[i]?=some (p,m,v):=by rw[←Array.getElem?_toList,e,ZP Aj,el];simp
 have i2:(Xr st)[i+1]?=some (p+m,k,u):=by rw[←Array.getElem?_toList,e,ZP Aj,el];simp
 have w1:=r.sw (p,m,v) (by rw[e];simp);have w2:=r.sw (p+m,k,u) (by rw[e];simp);refine OQ C r.b i1 i2 d2 d4 Aj w1 w2 fun aU b' hp LV Sq=>?_
 have ep:(Xr aU).toList=P1++(p,m+k,v)::P2:=by
  rw[hp];simp only[Array.toList_eraseIdxIfInBounds,Array.toList_setIfInBounds];rw[e,List.set_append_right _ _ (by lia),el,Nat.sub_self,List.set_cons_zero,List.eraseIdx_append_of_length_le Aj,el,show i+1-i=1 by lia];rfl
 refine q aU ⟨b',?_,fun z hz=>?_,r.tl.congr fun t h1 h2=>LV t (.inr Aj)⟩ ?_
 ·rw[ep];refine Ch.split.mpr ⟨p,c1,rfl,by show 1≤m+k;lia,?_⟩;show Ch P2 (p+(m+k)) lo;rw[←Nat.add_assoc];exact d5
 ·rw[ep]at hz;rcases List.mem_append.mp hz with hz|hz
  ·have h1:=a1.2 z hz;exact(r.sw z (by rw[e];simp[hz])).congr fun t _ h2=>LV t (.inl Aj)
  ·rcases List.mem_cons.mp hz with rfl|hz
   ·show Sw lt (Jh aU) p (p+(m+k));rw[←Nat.add_assoc];exact Sq
   ·have h1:=a2.2 z hz;exact(r.sw z (by rw[e];simp[hz])).congr fun t h2 _=>LV t (.inr Aj)
 ·have h1:=congrArg List.length ep;have h2:=congrArg List.length e;simp at h1 h2
  lia
theorem LW{st:SortSt}{lo n N w':Nat}{Q:Option Unit×Unit→SortSt→Prop}(r:RI X κ lt st lo n)(MP:lo≤X.length)(q:∀aU,RI X κ lt aU lo n→Q (none,()) aU):wpS (model prog w) A E s (S_ N w') Q st:=by
 unfold S_;refine wpS_forRange (I:=fun _ c aU=>c=(none,())∧RI X κ lt aU lo n) ?_ (fun c aU h=>by rw[h.1];exact q aU h.2) ⟨rfl,r⟩;rintro x c aU _ _ ⟨rfl,r'⟩;refine wpS_bind (wpS_get ?_);by_cases hs:(Xr aU).size>1
 ·rw[Hz hs];have e:(Xr aU)[(Xr aU).size-2]?=some (Xr aU)[(Xr aU).size-2]:=MD;rw[e];generalize (Xr aU)[(Xr aU).size-2]=z;obtain⟨z1,z2,z3⟩:=z;dsimp only;split
  ·exact Z2 (q aU r')
  ·refine wpS_bind (JK C r' MP Aj fun dR r2 _=>?_);rw[if_neg K4];exact Z2 ⟨rfl,r2⟩
 ·rw[Dy hs];exact Z2 (q aU r')
theorem Fz{st:SortSt}{lo n N:Nat}{Q:ForInStep (Option Unit×Nat)→SortSt→Prop}(r:RI X κ lt st lo n)(h1:1≤n)(MP:lo+n≤X.length)(q:∀aU,RI X κ lt aU (lo+n) 0→Q (.yield (none,lo+n)) aU):wpS (model prog w) A E s (QI N lo n) Q st:=by
 have push:∀aU,RI X κ lt aU lo n→RI X κ lt (QH lo n aU) (lo+n) 0:=fun aU r'=>by
  have ep:(Xr (QH lo n aU)).toList=(Xr aU).toList++[(lo,n,0)]:=by
   show((Xr aU).push (lo,n,0)).toList=_;simp
  refine⟨⟨r'.b.pm,r'.b.kd,r'.b.fl⟩,?_,fun z hz=>?_,fun i j a b c=>by lia⟩
  ·rw[ep];exact Ch.split.mpr ⟨lo,r'.ch,rfl,h1,rfl⟩
  ·rw[ep]at hz;rcases List.mem_append.mp hz with hz|hz
   ·exact r'.sw z hz
   ·have:z=(lo,n,0):=by simpa using hz
    subst this;exact r'.tl
 unfold QI;refine wpS_bind (wpS_get ?_);cases e:(Xr st).back? with
 |none=>exact wpS_bind (wpS_modify (Z2 (q _ (push _ r))))
 |some z=>
  obtain⟨z1,z2,z3⟩:=z;dsimp only;refine wpS_bind (LW C r Aj fun dR r2=>?_);dsimp only;refine wpS_bind (wpS_modify (wpS_bind (wpS_modify (Z2 (q _ (push _ ?_))))));have ep:(Xr (Vi (power' N (2*z1+z2) (2*z1+z2+z2+n) N) dR)).toList=(Xr dR).toList.modify ((Xr dR).size-1) fun(p,l,_)=>(p,l,power' N (2*z1+z2) (2*z1+z2+z2+n) N):=by
   show((Xr dR).modify _ _).toList=_;simp
  refine⟨⟨r2.b.pm,r2.b.kd,r2.b.fl⟩,?_,fun z hz=>?_,r2.tl⟩
  ·rw[ep];refine Ch.mod ?_ r2.ch;exact fun _=>⟨rfl,rfl⟩
  ·rw[ep]at hz;rcases B2 hz with hz|⟨x,h1,h2⟩
   ·exact r2.sw z hz
   ·rw[h2];exact r2.sw x h1
theorem LX{st:SortSt}{N:Nat}{Q:Option Unit×Unit→SortSt→Prop}(hN:N=X.length)(h0:0<N)(r:RI X κ lt st N 0)(q:∀aU,SB X κ aU→Sw lt (Jh aU) 0 N→Q (none,()) aU):wpS (model prog w) A E s (Td N) Q st:=by
 have one:∀aU,RI X κ lt aU N 0→(Xr aU).size≤1→Q (none,()) aU:=fun aU r' hs=>by
  have ch:=r'.ch;have sw:=r'.sw;cases e:(Xr aU).toList with
  |nil=>rw[e]at ch;have:0=N:=ch;lia
  |cons x l=>
   have hl:l=[]:=by
    have:=congrArg List.length e;simp at this;exact List.length_eq_zero_iff.mp Aj
   subst hl;rw[e]at ch sw;obtain⟨c1,c2,c3⟩:=ch;have c3:0+x.2.1=N:=c3;have:=sw x (MD);rw[c1,c3]at this;exact q aU r'.b this
 unfold Td;refine wpS_forRange (I:=fun x c aU=>c=(none,())∧RI X κ lt aU N 0∧((Xr aU).size+x≤N∨(Xr aU).size≤1)) ?_ ?_ ⟨rfl,r, .inl ?_⟩
 ·rintro x c aU _ hx ⟨rfl,r',hs⟩;refine wpS_bind (wpS_get ?_);by_cases h1:(Xr aU).size≤1
  ·rw[Hz h1];exact Z2 (one aU r' h1)
  ·rw[Dy h1];refine wpS_bind (JK C r' Aj ?_ fun dR r2 KL=>?_)
   ·have key:∀c:Bool,(if c=true then(Xr aU).size-2-1 else(Xr aU).size-2)+1<(Xr aU).size:=fun c=>by cases c<;>simp<;>lia
    exact key _
   ·rw[if_neg K4];exact Z2 ⟨rfl,r2,by lia⟩
 ·rintro c aU ⟨rfl,r',hs⟩;exact one aU r' (by rcases hs with hs|hs<;>lia)
 ·have:=r.ch.all.1;simp at this
  lia
theorem LY{st:SortSt}{Q:Unit→SortSt→Prop}(h0:0<X.length)(b:SB X κ st)(hp:pendingOf st=#[])(q:∀aU,SB X κ aU→Sw lt (Jh aU) 0 X.length→Q () aU):wpS (model prog w) A E s sortRuns' Q st:=by
 rw[Ib];refine wpS_bind (wpS_get ?_);rw[b.size];refine wpS_bind (wpS_mono (wpS_forRange (I:=fun x c aU=>∃lo,c=(none,lo)∧RI X κ lt aU lo 0∧lo≤X.length∧x≤lo) (Q:=fun c aU=>c.1=none∧RI X κ lt aU X.length 0) ?_ ?_ ⟨0,rfl,⟨b,by rw[hp];rfl,(fun q hq=>by rw[hp]at hq;cases hq),fun i j a b c=>by lia⟩,by lia,by lia⟩) ?_)
 ·rintro x c aU _ hx ⟨lo,rfl,r,MP,Ti⟩;dsimp only;by_cases h1:lo≥X.length
  ·rw[Hz h1];have:lo=X.length:=by lia
   subst this;exact Z2 ⟨rfl,r⟩
  ·rw[Dy h1];refine wpS_bind (OO C r.b Aj (by lia) fun m dR b2 CI QL m1 m2 QM=>?_);dsimp only;have r2:RI X κ lt dR lo m:=⟨b2,by rw[CI];exact r.ch,fun z hz=>by
    rw[CI]at hz;have:=r.ch.all.2 z hz;exact(r.sw z hz).congr fun t _ h2=>QL t (by lia),QM⟩
   by_cases h2:m<minRun' X.length X.length 0
   ·rw[Hz h2];refine wpS_bind (wpS_lift (wpAny_rule ⟨rfl,?_⟩));refine wpS_bind (OP C b2 (n:=min (X.length-lo) (minRun' X.length X.length 0)) (by lia) m1 Aj QM fun Ed b3 Vp XN XO=>?_);rw[if_neg K4];refine Fz C ⟨b3,by rw[Vp,CI];exact r.ch,fun z hz=>?_,XO⟩ Aj (by lia) fun Qs r4=>⟨_,rfl,r4,by lia,by lia⟩
    rw[Vp]at hz;have:=r2.ch.all.2 z hz;exact(r2.sw z hz).congr fun t _ h2=>XN t (by lia)
   ·rw[Dy h2];exact Fz C r2 m1 Aj fun Qs r4=>⟨_,rfl,r4,by lia,by lia⟩
 ·rintro c aU ⟨lo,rfl,r,MP,Ti⟩;have:lo=X.length:=by lia
  subst this;exact⟨rfl,r⟩
 ·rintro⟨c1,c2⟩ aU ⟨e,r⟩;dsimp only at e⊢;subst e;exact wpS_bind (LX C rfl h0 r fun dR b2 QM=>Z2 (q dR b2 QM))
end
open Classical in
noncomputable def FA(X:List Keyed)(x:Keyed):Nat:=if h:∃i:Nat,X[i]?=some x then Classical.choose h else 0
theorem nL{X:List Keyed}{x:Keyed}(h:x∈X):X[FA X x]?=some x:=by
 have h':∃i:Nat,X[i]?=some x:=List.mem_iff_getElem?.mp h;unfold FA;rw[dif_pos h'];exact Classical.choose_spec h'
theorem LZ{X:List Keyed}(nd:X.Nodup){i:Nat}{x:Keyed}(h:X[i]?=some x):FA X x=i:=by
 have:=nL (Y7 h);exact(List.getElem?_inj (WB this).1 nd).mp (this.trans h.symm)
theorem nM{X:List Keyed}{x:Keyed}(h:x∈X):FA X x<X.length:=(WB (nL h)).1
section
variable{prog:Program}{w:World}{A:Around}{E:Value→Shared→Prop}{s:Shared}{X:List Keyed}{κ:SortKind}{lt:Nat→Nat→Bool}
theorem Ie{st:SortSt}{Q:Unit→SortSt→Prop}(nd:X.Nodup)(h0:0<X.length)(L:y8 X.length lt)(ha:(Jh st).toList=X)(hk:kindOf st=κ)(hp:pendingOf st=#[])(hf:failedOf st=none)
  (hc:∀i j x y,X[i]?=some x→X[j]?=some y→∀C:Bool→Shared→Prop,C (lt i j) s→wpAny (model prog w) A (keyLt' κ x.1 y.1) C (fun _ _=>False) s)
  (q:∀p aU,yt X.length p→Sd lt p X.length→(Jh aU).toList=p.toList.map (fun i=>X.getD i (.none, .none))→failedOf aU=none→Q () aU):wpS (model prog w) A E s sortRuns' Q st:=by
 have C:Fm prog w A s X κ fun x y=>lt (FA X x) (FA X y):=by
  refine⟨fun x hx y hy=>hc _ _ x y (nL hx) (nL hy),fun x hx y hy z hz=>L.tr _ _ _ (nM hx) (nM hy) (nM hz),fun x hx y hy=>L.as _ _ (nM hx) (nM hy),fun x hx y hy hn=>L.SM _ _ (nM hx) (nM hy) fun e=>hn ?_,nd⟩;have h1:=nL hx;rw[e,nL hy]at h1;exact(YA h1).symm
 refine LY C h0 ⟨by rw[ha],hk,hf⟩ hp fun aU b sw=>?_
 have mem:∀x∈(Jh aU).toList,x∈X:=fun x hx=>b.pm.mem_iff.mp hx
 refine q ((Jh aU).map (FA X)) aU ?_ (fun i j m7 hj=>?_) ?_ b.fl
 ·unfold yt;rw[Array.toList_map];have h1:=b.pm.map (FA X);have h2:X.map (FA X)=List.range X.length:=by
   apply List.ext_getElem
   ·simp
   ·intro i h1 h2;simp only[List.getElem_map,List.getElem_range];exact LZ nd (by simp at h1;simp[h1])
  rw[h2]at h1;exact h1
 ·have:=sw i j (Nat.zero_le _) m7 hj;have g:∀k,k<X.length→gd ((Jh aU).map (FA X)) k=FA X (gg (Jh aU) k):=fun k hk=>by
   have Av:k<(Jh aU).size:=by rw[b.size];exact hk
   rw[Fl,o8];simp[Av]
  rw[g i Aj,g j hj];exact this
 ·rw[Array.toList_map,List.map_map]
  conv=>lhs;rw[←List.map_id (Jh aU).toList]
  apply List.map_congr_left;intro x hx;have:=nL (mem x hx);simp[List.getD_eq_getElem?_getD,this]
theorem B4{ks vs:List Value}(hl:ks.length=vs.length)(h0:0<vs.length)(L:y8 vs.length lt)(nd:ks.Nodup)
  (hc:∀i j,i<vs.length→j<vs.length→∀C:Bool→Shared→Prop,C (lt i j) s→wpAny (model prog w) A (keyLt' κ (ks.getD i .none) (ks.getD j .none)) C (fun _ _=>False) s):
  wpAny (model prog w) A ((sortRuns').run (SortSt.mk' κ (ks.toArray.zip vs.toArray) #[] 7 none)) (fun r s'=>∃p:Array Nat,s'=s∧yt vs.length p∧Sd lt p vs.length∧arrOf r.2=p.map (kas_item (ks.toArray.zip vs.toArray))∧failedOf r.2=none) E s:=by
 have hz:(ks.zip vs).length=vs.length:=by rw[List.length_zip];lia
 have ea:(ks.toArray.zip vs.toArray).toList=ks.zip vs:=MD;have XQ:(ks.zip vs).Nodup:=by
  refine List.pairwise_iff_getElem.mpr fun i j hi hj m7 e=>?_
  rw[List.getElem_zip,List.getElem_zip]at e;have:=(List.getElem_inj nd).mp (Prod.mk.inj e).1
  lia
 have run:=Ie (prog:=prog) (w:=w) (A:=A) (E:=E) (s:=s) (X:=ks.zip vs) (κ:=κ) (lt:=lt) (st:=SortSt.mk' κ (ks.toArray.zip vs.toArray) #[] 7 none) (Q:=fun _ aU=>∃p:Array Nat,yt vs.length p∧Sd lt p vs.length∧arrOf aU=p.map (kas_item (ks.toArray.zip vs.toArray))∧failedOf aU=none) XQ Aj (by rw[hz];exact L) ea rfl rfl rfl (fun i j x y hx hy C h=>?_) fun p aU h1 h2 h3 h4=>⟨p,by rw[←hz];exact h1,by rw[←hz];exact h2,?_,h4⟩
 ·unfold wpS at run;refine wpAny_mono run (fun r s' ⟨h1,p,h2⟩=>⟨p,h1,h2⟩) fun _ _ e=>e
 ·obtain⟨x1,x2⟩:=x;obtain⟨y1,y2⟩:=y;have hi:=(WB hx).1;have hj:=(WB hy).1;rw[hz]at hi hj;obtain⟨e1,_⟩:=List.getElem?_zip_eq_some.mp hx;obtain⟨e2,_⟩:=List.getElem?_zip_eq_some.mp hy;have:=hc i j hi hj C h;simpa[List.getD_eq_getElem?_getD,e1,e2]using this
 ·apply Array.toList_inj.mp;rw[h3,Array.toList_map];apply List.map_congr_left;intro i _;unfold kas_item;rw[Array.getD_eq_getD_getElem?,←Array.getElem?_toList,ea,List.getD_eq_getElem?_getD]
end
def Kp(a:Addr)(h h':Heap):Prop:=∀b o,b≠a→h.get? b=some o→h'.get? b=some o
section
variable{prog:Program}{w:World}{A:Around}{E:Value→Shared→Prop}{s:Shared}
theorem Di{a:Addr}{vs:List Value}{n:Nat}{κ:SortKind}{lt:Nat→Nat→Bool}{P:PySem.Fin→Shared→Prop}(ho:s.heap.get? a=some (seqObj "list" vs.toArray n))(h2:2≤vs.length)(DV:vs.length<10000)(L0:vs.Nodup)(L:y8 vs.length lt)
  (hk:∀s',Kp a s.heap s'.heap→∀Q':SortKind→Shared→Prop,Q' κ s'→wpAny (model prog w) A (keyKind' vs.toArray) Q' (fun _ _=>False) s')
  (hc:∀i j,i<vs.length→j<vs.length→∀s',Kp a s.heap s'.heap→∀C:Bool→Shared→Prop,C (lt i j) s'→wpAny (model prog w) A (keyLt' κ (vs.getD i .none) (vs.getD j .none)) C (fun _ _=>False) s')
  (h:∀p h' c,yt vs.length p→Sd lt p vs.length→Kp a s.heap h'→h'.get? a=some (seqObj "list" (List.toArray (p.toList.map fun i=>vs.getD i Value.none)) c)→P (.done (.ret .none)) {s with heap:=h'}):
  wpAny (model prog w) A (Builtin.«list.sort» ⟨[.ref a],[]⟩) P E s:=by
 have s1:=Heap.SameBut.update s.heap a (Obj.mapSeq fun _=>(#[]:Array Value));obtain⟨e1,Ig⟩:∃e1,(Ο a).get? a=some (seqObj "list" #[] e1):=⟨_,get?_update_seq ho fun _=>#[]⟩
 rw[list_sort_plain];refine wpAny_bind υ;refine wpAny_bind (τ Ig);generalize hh:(((Ο a).push {cls:= .type "tuple",data:= .seq vs.toArray 0}).push {cls:= .type "list",data:= .seq #[] 0})=h3;have k3:Kp a s.heap h3:=fun b o hb e=>by
  rw[←hh];exact ZE (ZE ((s1.2 b hb).trans e))
 have L1:h3.get? a=some (seqObj "list" #[] e1):=by
  rw[←hh];exact ZE (ZE Ig)
 show wpAny (model prog w) A _ P E {s with heap:=h3};dsimp only;have yq:¬vs.toArray.size<2:=by rw[List.size_toArray];lia
 rw[Dy yq,Dy yq];refine wpAny_bind (wpAny_mono (hk {s with heap:=h3} k3 (fun QN s'=>QN=κ∧s'={s with heap:=h3}) ⟨rfl,rfl⟩) ?_ fun _ _ x=>x.elim);rintro _ _ ⟨rfl,rfl⟩;refine wpAny_bind (wpAny_mono (B4 (lt:=lt) rfl (by lia) L L0 fun i j hi hj C hC=>hc i j hi hj {s with heap:=h3} k3 C hC) ?_ fun _ _ e=>e);rintro⟨⟨⟩,aU⟩ s' ⟨p,rfl,hp,hs,Tj,hf⟩;dsimp only;rw[kat_snds rfl Tj];have hsz:(List.toArray (p.toList.map fun i=>vs.getD i Value.none)).size=vs.length:=by rw[List.size_toArray,List.length_map,Array.length_toList,hp.size]
 have s2:=Heap.SameBut.update h3 a (Obj.mapSeq fun _=>List.toArray (p.toList.map fun i=>vs.getD i Value.none));obtain⟨c2,qj⟩:∃c2,(h3.update a (Obj.mapSeq fun _=>List.toArray (p.toList.map fun i=>vs.getD i Value.none))).get? a=some (seqObj "list" (List.toArray (p.toList.map fun i=>vs.getD i Value.none)) c2):=⟨_,get?_update_seq L1 fun _=>List.toArray (p.toList.map fun i=>vs.getD i Value.none)⟩
 refine wpAny_bind (seqEpoch_at (s:={s with heap:=h3}) L1 rfl (Z5 (listUpdate_at (s:={s with heap:=h3}) L1 rfl ?_ (Nat.zero_le _) (ZX (Nat.le_of_eq hsz) (by rw[sizeLine_eq];lia)))));rw[hf];simp only[bne_self_eq_false,Bool.false_eq_true,if_false];exact Xs (h p _ c2 hp hs (fun b o hb e=>(s2.2 b hb).trans (k3 b o hb e)) qj)
theorem zg{a:Addr}{vs:List Value}{n:Nat}{P:PySem.Fin→Shared→Prop}(ho:s.heap.get? a=some (seqObj "list" vs.toArray n))(h2:vs.length<2)
  (h:∀h' c,Kp a s.heap h'→h'.get? a=some (seqObj "list" vs.toArray c)→P (.done (.ret .none)) {s with heap:=h'}):
  wpAny (model prog w) A (Builtin.«list.sort» ⟨[.ref a],[]⟩) P E s:=by
 have s1:=Heap.SameBut.update s.heap a (Obj.mapSeq fun _=>(#[]:Array Value));obtain⟨e1,Ig⟩:∃e1,(Ο a).get? a=some (seqObj "list" #[] e1):=⟨_,get?_update_seq ho fun _=>#[]⟩
 rw[list_sort_plain];refine wpAny_bind υ;refine wpAny_bind (τ Ig);generalize hh:(((Ο a).push {cls:= .type "tuple",data:= .seq vs.toArray 0}).push {cls:= .type "list",data:= .seq #[] 0})=h3;have k3:Kp a s.heap h3:=fun b o hb e=>by
  rw[←hh];exact ZE (ZE ((s1.2 b hb).trans e))
 have L1:h3.get? a=some (seqObj "list" #[] e1):=by
  rw[←hh];exact ZE (ZE Ig)
 show wpAny (model prog w) A _ P E {s with heap:=h3};dsimp only;have yq:vs.toArray.size<2:=by rw[List.size_toArray];lia
 rw[Hz yq,Hz yq];refine wpAny_bind (Xs (Z5 (Xs ?_)));dsimp only;have Tn:(Jh (SortSt.mk' general' (vs.toArray.zip vs.toArray) #[] 7 none)).map (·.2)=vs.toArray:=by
  show(vs.toArray.zip vs.toArray).map (·.2)=vs.toArray;apply Array.toList_inj.mp;rw[Array.toList_map,Array.toList_zip];exact List.map_snd_zip ZD
 have s2:=Heap.SameBut.update h3 a (Obj.mapSeq fun _=>vs.toArray);obtain⟨c2,qj⟩:∃c2,(h3.update a (Obj.mapSeq fun _=>vs.toArray)).get? a=some (seqObj "list" vs.toArray c2):=⟨_,get?_update_seq L1 fun _=>vs.toArray⟩
 rw[Tn];refine wpAny_bind (seqEpoch_at (s:={s with heap:=h3}) L1 rfl (Z5 (listUpdate_at (s:={s with heap:=h3}) L1 rfl ?_ (Nat.zero_le _) (by rw[List.size_toArray,sizeLine_eq];lia))));simp only[bne_self_eq_false,Bool.false_eq_true,if_false];exact Xs (h _ c2 (fun b o hb e=>(s2.2 b hb).trans (k3 b o hb e)) qj)
theorem tQ{l:Addr}{vs:List Value}{κ:SortKind}{lt:Nat→Nat→Bool}{Q:Value→Shared→Prop}(hl:s.heap.IsList l vs.toArray)(DV:vs.length<10000)(L0:vs.Nodup)(L:y8 vs.length lt)
  (hk:2≤vs.length→∀s',(∀b o,s.heap.get? b=some o→s'.heap.get? b=some o)→∀Q':SortKind→Shared→Prop,Q' κ s'→wpAny (model prog w) A.in1.in1 (keyKind' vs.toArray) Q' (fun _ _=>False) s')
  (hc:∀i j,i<vs.length→j<vs.length→∀s',(∀b o,s.heap.get? b=some o→s'.heap.get? b=some o)→∀C:Bool→Shared→Prop,C (lt i j) s'→wpAny (model prog w) A.in1.in1 (keyLt' κ (vs.getD i .none) (vs.getD j .none)) C (fun _ _=>False) s')
  (h:∀p h' D c,yt vs.length p→Sd lt p vs.length→(∀b o,s.heap.get? b=some o→h'.get? b=some o)→s.heap.objs.size≤D→h'.get? D=some (seqObj "list" (List.toArray (p.toList.map fun i=>vs.getD i Value.none)) c)→Q (.ref D) {s with heap:=h'}):
  wpAny (model prog w) A (call (.builtin "sorted") [.ref l]) Q E s:=by
 refine Calls.call_function_entry kind_sorted plain_sorted entry_sorted (args_sorted1 _) ?_;unfold Builtin.«sorted»;refine wpAny_bind (m:=checkCount "sorted" 1 1 _) (Xs (Z5 (collect_list hl (Z5 (wpAny_newList ?_ (by rw[sizeLine_eq];lia))) (by rw[sizeLine_eq];lia))));generalize hh:((s.heap.push (seqObj "list" #[] 0)).update s.heap.objs.size (Obj.mapSeq (·++vs.toArray)))=h1;have hsz:h1.objs.size=s.heap.objs.size+1:=by rw[←hh,Heap.size_update,size_push']
 have keep:∀b o,s.heap.get? b=some o→(h1.push Ω).get? b=some o:=fun b o q=>by
  have il:b<s.heap.objs.size:=Z9 q;rw[Heap.get?_push_ne _ _ _ (by rw[hsz];exact ZS (Nat.lt_succ_of_lt il)),←hh,Heap.get?_update_ne _ _ _ _ (ZS il),Heap.get?_push_ne _ _ _ (ZS il)];exact q
 have Jc:(h1.push Ω).get? h1.objs.size=some (seqObj "list" vs.toArray 0):=Heap.get?_push_size _ rfl;have DW:∀h',Kp h1.objs.size (h1.push Ω) h'→∀b o,s.heap.get? b=some o→h'.get? b=some o:=fun h' k b o q=>k b o (by have:=Heap.lt_size q;rw[hsz];exact ZS (Nat.lt_succ_of_lt this)) (keep b o q)
 show wpAny _ _ _ _ _ {s with heap:=h1.push Ω};refine wpAny_bind (wpAny_holding (wpAny_call_entry slot_list_sort ⟨_,Jc,rfl⟩ entry_list_sort ?_ (args_list_sort _)));by_cases h2:2≤vs.length
 ·refine Di (s:={s with heap:=h1.push Ω}) (lt:=lt) Jc h2 DV L0 L (fun s' k Q' q=>hk h2 s' (DW _ k) Q' q) (fun i j hi hj s' k C q=>hc i j hi hj s' (DW _ k) C q) fun p h' c hp hs k e=>?_
  exact⟨_,rfl,Xs ⟨_,rfl,h p h' _ c hp hs (DW _ k) (by rw[show({s with heap:=h1}:Shared).heap.objs.size=h1.objs.size from rfl,hsz];exact Nat.le_succ _) e⟩⟩
 ·refine zg (s:={s with heap:=h1.push Ω}) Jc Aj fun h' c k e=>?_
  have hp:yt vs.length (List.toArray (Z6 vs.length)):=by unfold yt;simp
  refine⟨_,rfl,Xs ⟨_,rfl,h _ h' _ c hp (fun i j m7 hj=>by lia) (DW _ k) (by rw[show({s with heap:=h1}:Shared).heap.objs.size=h1.objs.size from rfl,hsz];exact Nat.le_succ _) ?_⟩⟩;rw[e]
  congr 2
  match vs,h2 with
  |[],_=>rfl
  |[x],_=>rfl
  |x::y::r,h=>simp at h
end
def iB(p q:Int×Int):Bool:=if p.1=q.1 then decide (p.2<q.2)else decide (p.1<q.1)
theorem FC{p q r:Int×Int}(a:iB p q=true)(b:iB q r=true):iB p r=true:=by
 unfold iB at*;split at a<;>split at b<;>split<;>simp_all<;>lia
theorem AG{p q:Int×Int}(a:iB p q=true):iB q p=false:=by
 unfold iB at*;split at a<;>split<;>simp_all<;>lia
theorem B5{p q:Int×Int}(h:p≠q):iB p q=true∨iB q p=true:=by
 unfold iB;by_cases e:p.1=q.1
 ·have:p.2≠q.2:=fun z=>h (Prod.ext e z)
  simp[e];lia
 ·have e':¬q.1=p.1:=fun z=>e z.symm
  simp[e,e'];lia
section
variable{prog:Program}{w:World}{A:Around}{E:Value→Shared→Prop}{s:Shared}
def iR(h:Heap)(x:Addr)(p:Int×Int):Prop:=∃o t u n,h.get? x=some o∧o.cls= .type "tuple"∧o.data= .seq #[.int p.1 t, .int p.2 u] n
theorem Ih{x y:Addr}{p q:Int×Int}{C:Bool→Shared→Prop}(hx:iR s.heap x p)(hy:iR s.heap y q)(h:C (iB p q) s):wpAny (model prog w) A (keyLt' (tuples' true) (.ref x) (.ref y)) C E s:=by
 obtain⟨ox,t,u,n,h1,h2,h3⟩:=hx;obtain⟨oy,t',u',n',g1,g2,g3⟩:=hy;refine kat_lt h1 h3 g1 g3 (kat_cons ?_);have e0:SeqAt.EqAt A s (.int p.1 t) (.int q.1 t') (wO (.int p.1) (.int q.1)):=wQ ⟨t,rfl⟩ ⟨t',rfl⟩ rfl rfl;have e1:SeqAt.EqAt A s (.int p.2 u) (.int q.2 u') (wO (.int p.2) (.int q.2)):=wQ ⟨u,rfl⟩ ⟨u',rfl⟩ rfl rfl;refine e0 _ _ _ _ ?_;by_cases a:p.1=q.1
 ·have:wO (.int p.1) (.int q.1)=true:=by simp[wO,a]
  rw[this];refine kat_yes (kat_cons (e1 _ _ _ _ ?_));by_cases b:p.2=q.2
  ·have:wO (.int p.2) (.int q.2)=true:=by simp[wO,b]
   rw[this];refine kat_yes (kat_nil ?_);have:iB p q=decide (#[Value.int p.1 t, .int p.2 u].size<#[Value.int q.1 t', .int q.2 u'].size):=by simp[iB,a,b]
   rw[this]at h;exact h
  ·have:wO (.int p.2) (.int q.2)=false:=by simp[wO,b]
   rw[this];refine kat_no (kat_one _ _ (lt_int ?_));have:iB p q=decide (p.2<q.2):=by simp[iB,a]
   rw[this]at h;exact h
 ·have:wO (.int p.1) (.int q.1)=false:=by simp[wO,a]
  rw[this];refine kat_no (oneLt_int ?_);have:iB p q=decide (p.1<q.1):=by simp[iB,a]
  rw[this]at h;exact h
theorem v9{h:Heap}:∀{its:List Value},(∀v∈its,∃x p,v= .ref x∧iR h x p)→∃fs,KatTups h its fs∧fs.length=its.length∧∀f∈fs,∃i t,f=Value.int i t
 |[],_=>⟨[], .nil,rfl,fun f hf=>by cases hf⟩
 |v::r,hv=>by
  obtain⟨x,p,rfl,o,t,u,n,h1,h2,h3⟩:=hv v (List.mem_cons_self ..);obtain⟨fs,k1,k2,k3⟩:=v9 (its:=r) fun v KJ=>hv v (ZR KJ)
  refine⟨.int p.1 t::fs, .cons h1 h2 h3 rfl k1,by simp[k2],fun f hf=>?_⟩;rcases List.mem_cons.mp hf with rfl|hf
  ·exact⟨_,_,rfl⟩
  ·exact k3 f hf
theorem Dj{its:List Value}{Q:SortKind→Shared→Prop}(cB:0<its.length)(hv:∀v∈its,∃x p,v= .ref x∧iR s.heap x p)(h:Q (tuples' true) s):wpAny (model prog w) A (keyKind' its.toArray) Q E s:=by
 obtain⟨fs,k1,k2,k3⟩:=v9 hv;refine kat_kind (T:= .type "int") k1 Aj (fun v hv=>?_) (Sz) h;obtain⟨i,t,rfl⟩:=k3 v hv;exact .now
end
theorem tR{l:List Nat}{f:Nat→V}{g:Nat→Value}(h:∀i∈l,RelV (f i) (g i)):Vals (l.map f) (l.map g):=by
 induction l with
 |nil=>exact .nil
 |cons i r ih=>exact .cons (h i (List.mem_cons_self ..)) (ih fun j hj=>h j (ZR hj))
end L2
namespace QF
open PySem L2 PySem.Spec PyProof.Rows PySem.W PySem.Calls
inductive FG(K:Frag)(vs:List V)(H:Hp)(Q:VK):Prop
 |mk (l:Addr) (xs:List V) (ps:List Pr) (_:vs=[.ref l]) (_:iD K H l xs) (_:fN H xs ps) (_:ps.Nodup) (_:ps.length<10000) (_:∀D ys qs,H D=none→fN H ys qs→qs.Perm ps→qs.Pairwise (fun p q=>iB p q=true)→Q (.ref D) (upd H D (.lst ys))):FG K vs H Q
theorem nN{X:Cx}(K:Frag)(hK:X.K=K:=by rfl):iJ X (.builtin "sorted") (FG K):=by
 subst hK;intro pins s σ H vs us Q I r h;obtain⟨l,xs,ps,rfl,hq,PS,nd,DV,q⟩:=h;obtain⟨u,rfl,rx⟩:=vals1 r;cases rx;obtain⟨its,r',pl,hz⟩:=I.list hq;have hlen:=r'.length;have qv:=PS.1;have key:∀i,i<its.length→∃t,xs[i]?=some (.ref t)∧its[i]?=some (.ref t)∧H t=some (.tup (iK (ps.getD i (0,0))))∧iR s.heap t (ps.getD i (0,0)):=fun i hi=>by
  have hp:ps[i]?=some (ps.getD i (0,0)):=by simp[show i<ps.length by lia]
  obtain⟨t,h1,h2⟩:=PS.2 i _ hp;obtain⟨v,h3,h4⟩:=r'.get h1;cases h4;refine⟨t,h1,h3,h2,?_⟩;obtain⟨XR,r2,⟨o,e1,e2,n,e3⟩,_⟩:=I.tuple (xs:=iK (ps.getD i (0,0))) (.of h2);cases r2 with
  |cons a b=>
   cases b with
   |cons c d=>
    cases d;obtain⟨ta,rfl⟩:=a;obtain⟨tc,rfl⟩:=c;exact⟨o,ta,tc,n,e1,e2,e3⟩
 have DW:∀{h':Heap},(∀b o,s.heap.get? b=some o→h'.get? b=some o)→∀{x p},iR s.heap x p→iR h' x p:=fun k _ _ ⟨o,t,u,n,a,b⟩=>⟨o,t,u,n,k _ _ a,b⟩
 have L:y8 its.length fun i j=>iB (ps.getD i (0,0)) (ps.getD j (0,0)):=by
  refine⟨fun i j k _ _ _ a b=>FC a b,fun i j _ _ a=>AG a,fun i j hi hj cB=>B5 fun e=>cB ?_⟩;have e:ps[i]?=ps[j]?:=by
   rw[ZZ Aj,ZZ Aj];simpa[show i<ps.length by lia,show j<ps.length by lia]using e
  exact(List.getElem?_inj Aj nd).mp e
 have L0:its.Nodup:=by
  refine List.pairwise_iff_getElem.mpr fun i j hi hj m7 e=>?_
  obtain⟨t1,_,a2,a3,_⟩:=key i hi;obtain⟨t2,_,b2,b3,_⟩:=key j hj;rw[ZZ hi]at a2;rw[ZZ hj,←e,a2]at b2;cases b2;rw[a3]at b3;have h1:ps[i]?=some (ps.getD i (0,0)):=by simp[show i<ps.length by lia]
  have h2:ps[j]?=some (ps.getD j (0,0)):=by simp[show j<ps.length by lia]
  have e9:ps.getD i (0,0)=ps.getD j (0,0):=by
   have:=HO.tup.inj (YA b3);simp only[iK,List.cons.injEq,V.int.injEq,and_true]at this;exact Prod.ext this.1 this.2
  have:=(List.getElem?_inj Aj nd).mp (h1.trans (by rw[e9];exact h2.symm))
  lia
 refine tQ (κ:=tuples' true) pl.isList Aj L0 L (fun h2 s' k Q' hq=>?_) (fun i j hi hj s' k C hC=>?_) fun p h' D c hp hs k hD e=>?_
 ·refine Dj Aj (fun v hv=>?_) hq;obtain⟨i,hi,rfl⟩:=Ξ hv;obtain⟨t,_,h3,_,h5⟩:=key i hi;exact⟨t,_,by rw[ZZ hi]at h3;exact YA h3,DW k h5⟩
 ·obtain⟨t,_,h3,_,h5⟩:=key i hi;obtain⟨t',_,g3,_,g5⟩:=key j hj;have e1:its.getD i .none= .ref t:=by simp[h3]
  have e2:its.getD j .none= .ref t':=by simp[g3]
  rw[e1,e2];exact Ih (DW k h5) (DW k g5) hC
 ·have mem:∀i∈p.toList,i<its.length:=fun i hi=>by
   have:=hp.mem_iff.mp hi;simpa using this
  have rel:Vals (p.toList.map fun i=>xs.getD i .cL) (p.toList.map fun i=>its.getD i Value.none):=tR fun i hi=>by
   obtain⟨t,h1,h3,_⟩:=key i (mem i hi);have e1:xs.getD i .cL= .ref t:=by simp[h1]
   have e2:its.getD i .none= .ref t:=by simp[h3]
   rw[e1,e2];rfl
  have hsz:(p.toList.map fun i=>xs.getD i V.cL).length=its.length:=by rw[List.length_map,Array.length_toList,hp.size]
  have AH:(p.toList.map fun i=>ps.getD i (0,0)).length=its.length:=by rw[List.length_map,Array.length_toList,hp.size]
  refine⟨.ref D,_,I.laid (t':=s.toks) k hD (show cO X.prog X.w _ h' _ (.lst _)from⟨by rw[hsz,←hlen];exact hz,_,c,rel,e⟩),rfl,q D _ (p.toList.map fun i=>ps.getD i (0,0)) (I.bS.fresh hD) ⟨by rw[hsz,AH],fun i f hf=>?_⟩ ?_ ?_⟩
  ·rw[List.getElem?_map]at hf⊢;cases ei:p.toList[i]? with
   |none=>rw[ei]at hf;cases hf
   |some j=>
    rw[ei]at hf;have hf:ps.getD j (0,0)=f:=YA hf;obtain⟨t,h1,h3,h4,_⟩:=key j (mem j (Y7 ei));refine⟨t,?_,by rw[←hf];exact h4⟩;show some (xs.getD j .cL)=_;simp[h1]
  ·have h1:=hp.map (fun i=>ps.getD i (0,0));refine h1.trans ?_;have:(Z6 its.length).map (fun i=>ps.getD i (0,0))=ps:=by
    apply List.ext_getElem?;intro i;rw[List.getElem?_map];by_cases hi:i<its.length
    ·rw[List.getElem?_range hi];simp[show i<ps.length by lia]
    ·rw[List.getElem?_eq_none Z_,List.getElem?_eq_none Aj];rfl
   rw[this]
  ·rw[List.pairwise_iff_getElem];intro i j hi hj m7;have sN:i<its.length:=by rw[AH]at hi;exact hi
   have zf:j<its.length:=by rw[AH]at hj;exact hj
   have:=hs i j m7 zf;have Dk:=hp.size;simp only[List.getElem_map];have e1:gd p i=p.toList[i]'(by simp;lia):=by simp[gd,show i<p.size by lia]
   have e2:gd p j=p.toList[j]'(by simp;lia):=by simp[gd,show j<p.size by lia]
   rw[e1,e2]at this;exact this
end QF
namespace L2
open PySem PySem.Spec PyProof.Rows PySem.W PySem.Calls
open AutoSeq1 (wpAny_loadPart')
theorem M0{A:Around}{s:Shared}{i j:Int}{t u:Tok}:SeqAt.EqAt A s (.int i t) (.int j u) (decide (i=j)):=by
 have:=wQ (A:=A) (s:=s) (y:= .int i) (x:= .int j) ⟨t,rfl⟩ ⟨u,rfl⟩ rfl rfl;simpa[wO,Bool.beq_eq_decide_eq]using this
theorem OS{prog:Program}{w:World}{A:Around}{E:Value→Shared→Prop}{s:Shared}{i j:Int}{t u:Tok}{Q:Value→Shared→Prop}(h:Q (.bool (decide (i<j))) s):wpAny (model prog w) A (richCompare .Lt (.int i t) (.int j u)) Q E s:=lt_int h
theorem FH(l b:Addr)(p q:Int×Int)(t u t' u':Tok)(n n2:Nat)(dd rZ:Option Addr)(sl mZ:Array (Option Value)):
  Meets (Builtin.«tuple.__lt__» ⟨[.ref l, .ref b],[]⟩) (fun A R s=>s.heap.get? l=some {cls:= .type "tuple",dict:=dd,data:= .seq #[.int p.1 t, .int p.2 u] n,slots:=sl}∧s.heap.get? b=some {cls:= .type "tuple",dict:=rZ,data:= .seq #[.int q.1 t', .int q.2 u'] n2,slots:=mZ}∧
    R (.ok (.ret (.bool (iB p q)))) s):=
 .of_wp fun prog w A R s h=>by
  obtain⟨hp,g,d,tk,os⟩:=s;obtain⟨hl,hb,h⟩:=h;have f2:=AutoSeq1.sub_tuple_tuple
  wp_walk using wpAny_loadPart' hl,wpAny_loadPart' hb
  refine(show wpAny (model prog w) A.in1 (eqBool (.int p.1 t) (.int q.1 t')) _ _ _ from M0 _ _ _ _ ?_);by_cases a:p.1=q.1
  ·rw[decide_eq_true a]
   wp_walk
   refine(show wpAny (model prog w) A.in1 (eqBool (.int p.2 u) (.int q.2 u')) _ _ _ from M0 _ _ _ _ ?_);by_cases c:p.2=q.2
   ·rw[decide_eq_true c]
    wp_walk
    have e:iB p q=false:=by simp[iB,a,c]
    rw[e]at h;exact⟨_,rfl,h⟩
   ·rw[decide_eq_false c];have e:iB p q=decide (p.2<q.2):=by simp[iB,a]
    rw[e]at h
    wp_walk using OS
    exact⟨_,rfl,h⟩
  ·rw[decide_eq_false a];have e:iB p q=decide (p.1<q.1):=by simp[iB,a]
   rw[e]at h
   wp_walk using OS
   exact⟨_,rfl,h⟩
theorem tS{prog:Program}{w:World}{A:Around}{E:Value→Shared→Prop}{s:Shared}{x y:Addr}{p q:Int×Int}{Q:Value→Shared→Prop}(hu:A.units<cLine)(hx:iR s.heap x p)(hy:iR s.heap y q)(h:Q (.bool (iB p q)) s):wpAny (model prog w) A (compareOp .Lt (.ref x) (.ref y)) Q E s:=by
 obtain⟨⟨c,dd,da,sl⟩,t,u,n,h1,h2,h3⟩:=hx;obtain⟨⟨c',Jn,aaN,Rz⟩,t',u',n',g1,g2,g3⟩:=hy;simp only at h2 h3 g2 g3;subst h2 h3 g2 g3;exact richCompare_meets_room (op:= .Lt) ⟨_,h1,rfl⟩ ⟨_,g1,rfl⟩ F.slot_tuple_lt F.entry_tuple_lt (F.args_tuple_lt_2 _ _) (FH x y p q t u t' u' n n' dd Jn sl Rz) ⟨h1,g1,show Value.bool (iB p q)≠Value.notImplemented∧Q (.bool (iB p q)) s from⟨(fun x=>nomatch x),h⟩⟩ hu
abbrev Kw:=Int×(Int×Int)
def rH(a b:Kw):Bool:=if a.1=b.1 then iB a.2 b.2 else decide (a.1<b.1)
theorem FI{p q r:Kw}(a:rH p q=true)(b:rH q r=true):rH p r=true:=by
 unfold rH at*;by_cases h1:p.1=q.1<;>by_cases h2:q.1=r.1
 ·rw[Hz h1]at a;rw[Hz h2]at b;rw[Hz (h1.trans h2)];exact FC a b
 ·rw[Dy h2]at b;rw[Dy (by rw[h1];exact h2),h1];exact b
 ·rw[Dy h1]at a;rw[Dy (by rw[←h2];exact h1),←h2];exact a
 ·rw[Dy h1]at a;rw[Dy h2]at b;have a:=of_decide_eq_true a;have b:=of_decide_eq_true b;rw[Dy Aj];exact decide_eq_true Aj
theorem AI{p q:Kw}(a:rH p q=true):rH q p=false:=by
 unfold rH at*;by_cases h1:p.1=q.1
 ·rw[Hz h1]at a;rw[Hz h1.symm];exact AG a
 ·rw[Dy h1]at a;rw[Dy (fun z=>h1 z.symm)];have a:=of_decide_eq_true a;exact decide_eq_false Aj
theorem B6{p q:Kw}(h:p≠q):rH p q=true∨rH q p=true:=by
 unfold rH;by_cases h1:p.1=q.1
 ·rw[Hz h1,Hz h1.symm];exact B5 fun z=>h (Prod.ext h1 z)
 ·rw[Dy h1,Dy (fun z=>h1 z.symm)];rcases Int.lt_or_lt_of_ne h1 with z|z
  ·exact .inl (decide_eq_true z)
  ·exact .inr (decide_eq_true z)
section
variable{prog:Program}{w:World}{A:Around}{E:Value→Shared→Prop}{s:Shared}
def v_(h:Heap)(x:Addr)(k:Kw):Prop:=∃o t y c,h.get? x=some o∧o.cls= .type "tuple"∧o.data= .seq #[.int k.1 t, .ref y] c∧iR h y k.2
theorem qJ{x y:Addr}{p q:Int×Int}(hu:A.units+1<cLine)(hx:iR s.heap x p)(hy:iR s.heap y q):SeqAt.EqAt A s (.ref x) (.ref y) (decide (p=q)):=by
 obtain⟨o,t,u,n,h1,h2,h3⟩:=hx;obtain⟨o',t',u',n',g1,g2,g3⟩:=hy;by_cases e:x=y
 ·subst e;rw[h1]at g1;cases g1;rw[h3]at g3;injection g3 with g3 _;have g3:=congrArg Array.toList g3;simp at g3;have:p=q:=Prod.ext g3.1.1 g3.2.1;rw[decide_eq_true this];exact SeqAt.EqAt.same _
 ·have:=SeqAt.EqAt.of_refs e (SeqAt.RcAt.tuples (A:=A) (s:=s) (items:=#[.int p.1 t, .int p.2 u]) (items2:=#[.int q.1 t', .int q.2 u']) (e:=fun j=>if j=0 then decide (p.1=q.1)else decide (p.2=q.2)) ⟨o,h1,h2,n,h3⟩ ⟨o',g1,g2,n',g3⟩ Aj fun j h1 h2=>by
   have:j=0∨j=1:=by simp at h1;lia
   rcases this with rfl|rfl
   ·exact M0
   ·exact M0)
  have e2:((Z6 (min #[Value.int p.1 t, .int p.2 u].size #[Value.int q.1 t', .int q.2 u'].size)).all (fun j=>if j=0 then decide (p.1=q.1)else decide (p.2=q.2))&&#[Value.int p.1 t, .int p.2 u].size==#[Value.int q.1 t', .int q.2 u'].size)=decide (p=q):=by
   simp[List.range_succ];by_cases a:p.1=q.1<;>by_cases b:p.2=q.2<;>simp[Prod.ext_iff,a,b]
  rw[e2]at this;exact this
theorem L3{x y:Addr}{p q:Kw}{C:Bool→Shared→Prop}(hu:A.units+1<cLine)(hx:v_ s.heap x p)(hy:v_ s.heap y q)(h:C (rH p q) s):wpAny (model prog w) A (keyLt' (tuples' true) (.ref x) (.ref y)) C E s:=by
 obtain⟨ox,t,z,n,h1,h2,h3,h4⟩:=hx;obtain⟨oy,t',z',n',g1,g2,g3,g4⟩:=hy;refine kat_lt h1 h3 g1 g3 (kat_cons (M0 _ _ _ _ ?_));by_cases a:p.1=q.1
 ·rw[decide_eq_true a];refine kat_yes (kat_cons (qJ hu h4 g4 _ _ _ _ ?_));have e:rH p q=iB p.2 q.2:=Hz a;by_cases b:p.2=q.2
  ·rw[decide_eq_true b];refine kat_yes (kat_nil ?_);have:rH p q=decide (#[Value.int p.1 t, .ref z].size<#[Value.int q.1 t', .ref z'].size):=by rw[e,b];simp[iB]
   rw[this]at h;exact h
  ·rw[decide_eq_false b];rw[e]at h;exact kat_no (kat_one _ _ (tS Aj h4 g4 h))
 ·rw[decide_eq_false a];have e:rH p q=decide (p.1<q.1):=Dy a;rw[e]at h;exact kat_no (oneLt_int h)
end
theorem L4{X:Cx}{cm:Bool}{k:Nat}{f:Addr}{fd:FuncData}{ps:List Str}{sp:Sp}{A':Around}{pins:List (Addr×Obj)}{σ:St}{H:Hp}{s:Shared}{Q:VK}{us:List Value}{vs:List V}{E:Value→Shared→Prop}
  (F:a9 X.prog X.w X.K X.mg X.base (cY X.prog X.w) cm k f fd ps sp) (hr:eX cm k A') (hf:A'.frames=X.A.frames) (hb:Binds X.K fd ps []) (I:Inv X pins σ H s) (r:Vals vs us) (h:sp vs H Q E0):
  wpAny (model X.prog X.w) A' (call (.ref f) us) (EP X pins σ Q) E s:=by
 have hl:(us++[]).length=ps.length:=by rw[List.append_nil,←r.length];exact F.len _ _ _ _ h
 have MU:=hb s us I.ql hl;rw[List.append_nil]at MU;refine wpAny_call (codeAny_mono (F.run A' X.stack s H ⟨us,[]⟩ us vs Q E0 hr {I.KR with frames:=by rw[hf];exact I.ok.frames} MU r h) fun r s' hq=>?_);cases r with
 |error e=>obtain⟨_,_,_,_,_,_,_,_,_,_,_,_,_,h⟩:=hq;exact h.elim
 |ok fl=>
  cases fl with
  |ret u=>exact I.after hq
  |next=>exact False.elim hq
  |brk=>exact False.elim hq
  |cont=>exact False.elim hq
end L2
namespace QF
open PySem L2 PySem.Spec PyProof.Rows PySem.W PySem.Calls
def KQ(H1:Hp)(w:Kw):VK:=fun y H2=>av H1 H2∧∃k t,y= .ref k∧H2 k=some (.tup [.int w.1, .ref t])∧H2 t=some (.tup [.int w.2.1, .int w.2.2])
def kl(ws:List Kw)(i j:Nat):Bool:=rH (ws.getD i (0,(0,0))) (ws.getD j (0,(0,0)))
def Ks(H:Hp)(ws:List Kw)(as:List Addr):Prop:=∀j k,as[j]?=some k→∃t,H k=some (.tup [.int (ws.getD j (0,(0,0))).1, .ref t])∧H t=some (.tup [.int (ws.getD j (0,(0,0))).2.1, .int (ws.getD j (0,(0,0))).2.2])
theorem Ks.key{X:Cx}{pins:List (Addr×Obj)}{σ:L2.St}{H:Hp}{s:Shared}{ws:List Kw}{as:List Addr}{j:Nat}{k:Addr}(I:Inv X pins σ H s)(h:Ks H ws as)(e:as[j]?=some k):v_ s.heap k (ws.getD j (0,(0,0))):=by
 obtain⟨t,h1,h2⟩:=h j k e;obtain⟨its,r,⟨o,e1,e2,n,e3⟩,_⟩:=I.tuple (xs:=[.int (ws.getD j (0,(0,0))).1, .ref t]) (.of h1);obtain⟨its',r',⟨o',g1,g2,n',g3⟩,_⟩:=I.tuple (xs:=[.int (ws.getD j (0,(0,0))).2.1, .int (ws.getD j (0,(0,0))).2.2]) (.of h2);cases r with
 |cons a b=>cases b with
  |cons c d=>
   cases d;obtain⟨ta,rfl⟩:=a;cases c;cases r' with
   |cons a' b'=>cases b' with
    |cons c' d'=>
     cases d';obtain⟨XS,rfl⟩:=a';obtain⟨XT,rfl⟩:=c';exact⟨o,ta,t,n,e1,e2,e3,o',XS,XT,n',g1,g2,g3⟩
theorem zh{h:Heap}:∀{its:List Value},(∀v∈its,∃x p,v= .ref x∧v_ h x p)→∃fs,KatTups h its fs∧fs.length=its.length∧∀f∈fs,∃i t,f=Value.int i t
 |[],_=>⟨[], .nil,rfl,fun f hf=>by cases hf⟩
 |v::r,hv=>by
  obtain⟨x,p,rfl,o,t,u,n,h1,h2,h3,_⟩:=hv v (List.mem_cons_self ..);obtain⟨fs,k1,k2,k3⟩:=zh (its:=r) fun v KJ=>hv v (ZR KJ)
  refine⟨.int p.1 t::fs, .cons h1 h2 h3 rfl k1,by simp[k2],fun f hf=>?_⟩;rcases List.mem_cons.mp hf with rfl|hf
  ·exact⟨_,_,rfl⟩
  ·exact k3 f hf
theorem FJ{prog:Program}{w:World}{A:Around}{E:Value→Shared→Prop}{s:Shared}{its:List Value}{Q:SortKind→Shared→Prop}(cB:0<its.length)(hv:∀v∈its,∃x p,v= .ref x∧v_ s.heap x p)(h:Q (tuples' true) s):wpAny (model prog w) A (keyKind' its.toArray) Q E s:=by
 obtain⟨fs,k1,k2,k3⟩:=zh hv;refine kat_kind (T:= .type "int") k1 Aj (fun v hv=>?_) (Sz) h;obtain⟨i,t,rfl⟩:=k3 v hv;exact .now
section
variable{X:Cx}{cm:Bool}{k:Nat}{f:Addr}{fd:FuncData}{ps:List Str}{sp:Sp}{A':Around}{pins:List (Addr×Obj)}{σ:L2.St}{H:Hp}{s:Shared}{E:Value→Shared→Prop}{a kS:Addr}{vs:List Value}{xs:List V}{ws:List Kw}{e1:Nat}{P:PySem.Fin→Shared→Prop}
theorem FK(hu:A'.units+1<cLine)(I:Inv X pins σ H s){kA:Array Value}{e:Nat}{as:List Addr}(hk:s.heap.get? kS=some (seqObj "list" kA e))(ha:s.heap.get? a=some (seqObj "list" #[] e1))(fk:iE X pins H kS)(fa:iE X pins H a)(cB:kS≠a)
  (ek:kA.toList=as.map Value.ref) (el:as.length=vs.length) (K:Ks H ws as) (r:Vals xs vs) (hlen:ws.length=vs.length) (nd:ws.Nodup) (DV:vs.length<10000)
  (h:∀p s',yt vs.length p→Sd (kl ws) p vs.length→Inv X pins σ (upd H a (.lst (p.toList.map fun i=>xs.getD i .cL))) s'→P (.done (.ret .none)) s'):
  wpAny (model X.prog X.w) A' (ksk_end a false vs.toArray e1 (.ref kS) kA) P E s:=by
 have XU:kA=(as.map Value.ref).toArray:=by apply Array.toList_inj.mp;simpa using ek
 subst XU;have hl:(as.map Value.ref).length=vs.length:=by rw[List.length_map];exact el
 have key:∀i,i<vs.length→∃x,(as.map Value.ref).getD i Value.none= .ref x∧v_ s.heap x (ws.getD i (0,(0,0))):=fun i hi=>by
  have hx:as[i]?=some as[i]:=ZZ Aj;exact⟨as[i],by simp[show i<as.length by lia],K.key I hx⟩
 have L:y8 vs.length (kl ws):=by
  refine⟨fun i j k _ _ _ a b=>FI a b,fun i j _ _ a=>AI a,fun i j hi hj cB=>B6 fun e=>cB ?_⟩;have e:ws[i]?=ws[j]?:=by
   rw[ZZ Aj,ZZ Aj];simpa[show i<ws.length by lia,show j<ws.length by lia]using e
  exact(List.getElem?_inj Aj nd).mp e
 have tail:∀(st:SortSt)(p:Array Nat),yt vs.length p→Sd (kl ws) p vs.length→(Jh st).map (·.2)=List.toArray (p.toList.map fun i=>vs.getD i Value.none)→failedOf st=none→wpAny (model X.prog X.w) A' (ksk_tail a false e1 (.ref kS) st) P E s:=fun st p hp hs hm hf=>by
  have hsz:(List.toArray (p.toList.map fun i=>vs.getD i Value.none)).size=vs.length:=by rw[List.size_toArray,List.length_map,Array.length_toList,hp.size]
  have s1:=Heap.SameBut.update s.heap kS (Obj.mapSeq fun _=>(#[]:Array Value));have AF:(Ο kS).get? a=some (seqObj "list" #[] e1):=(s1.2 a (Z' cB)).trans ha;have s2:=Heap.SameBut.update (Ο kS) a (Obj.mapSeq fun _=>List.toArray (p.toList.map fun i=>vs.getD i Value.none));obtain⟨c2,qj⟩:∃c2,((Ο kS).update a (Obj.mapSeq fun _=>List.toArray (p.toList.map fun i=>vs.getD i Value.none))).get? a=some (seqObj "list" (List.toArray (p.toList.map fun i=>vs.getD i Value.none)) c2):=⟨_,get?_update_seq AF fun _=>List.toArray (p.toList.map fun i=>vs.getD i Value.none)⟩
  unfold ksk_tail
  try dsimp only
  simp only[Bool.false_eq_true,if_false];rw[hm];refine wpAny_bind (listUpdate_at hk rfl (Z5 (wpAny_letGo ?_)) (by rw[List.size_toArray,hl,sizeLine_eq];lia) (Nat.zero_le _));refine wpAny_bind (seqEpoch_at (s:={s with heap:=Ο kS}) AF rfl (Z5 (listUpdate_at (s:={s with heap:=Ο kS}) AF rfl ?_ (Nat.zero_le _) (ZX (Nat.le_of_eq hsz) (by rw[sizeLine_eq];lia)))));rw[hf];simp only[bne_self_eq_false,Bool.false_eq_true,if_false];have hr:=r.length;have mem:∀i∈p.toList,i<vs.length:=fun i hi=>by
   have:=hp.mem_iff.mp hi;simpa using this
  have rel:Vals (p.toList.map fun i=>xs.getD i .cL) (p.toList.map fun i=>vs.getD i Value.none):=tR fun i hi=>by
   have hi:=mem i hi;obtain⟨v,h1,h2⟩:=r.get (i:=i) (x:=xs[i]) (by simp[show i<xs.length by lia]);have e1:xs.getD i .cL=xs[i]:=by simp[show i<xs.length by lia]
   have e2:vs.getD i .none=v:=by simp[h1]
   rw[e1,e2];exact h2
  refine wpAny_pure (h p _ hp hs (I.BL (t':=s.toks) (fp:=[kS,a]) (fun b hb=>?_) fa (fun b o hb e=>?_) ⟨by rw[List.length_map,Array.length_toList,hp.size,sizeLine_eq];lia,_,c2,rel,qj⟩))
  ·simp only[List.mem_cons,List.mem_singleton,List.not_mem_nil,or_false]at hb;rcases hb with rfl|rfl
   ·exact fk
   ·exact fa
  ·simp only[List.mem_cons,List.not_mem_nil,or_false,not_or]at hb;exact(s2.2 b hb.2).trans ((s1.2 b hb.1).trans e)
 unfold ksk_end
 try dsimp only
 simp only[Bool.false_eq_true,if_false];by_cases h2:2≤vs.length
 ·have yq:¬vs.toArray.size<2:=by rw[List.size_toArray];lia
  rw[Dy yq,Dy yq];refine wpAny_bind (wpAny_mono (FJ (Q:=fun QN s'=>QN=tuples' true∧s'=s) (E:=E) (its:=as.map Value.ref) (by lia) (fun v hv=>?_) ⟨rfl,rfl⟩) ?_ fun _ _ x=>x)
  ·obtain⟨i,hi,rfl⟩:=List.mem_iff_getElem.mp hv;obtain⟨x,h3,h5⟩:=key i Aj;exact⟨x,_,by rw[←h3];simp[show i<as.length by simpa using hi],h5⟩
  rintro QN s0 ⟨XW,QO⟩;rw[XW,QO];have OT:(as.map Value.ref).Nodup:=by
   refine List.pairwise_iff_getElem.mpr fun i j hi hj m7 e=>?_
   have sN:i<as.length:=by simpa using hi
   have zf:j<as.length:=by simpa using hj
   have e:as[i]=as[j]:=by simpa using e
   obtain⟨t1,a1,a2⟩:=K i as[i] (ZZ sN);obtain⟨t2,b1,b2⟩:=K j as[j] (ZZ zf);rw[←e,a1]at b1;have h1:=HO.tup.inj (YA b1);simp only[List.cons.injEq,V.int.injEq,V.ref.injEq,and_true]at h1;rw[←h1.2,a2]at b2;have h2:=HO.tup.inj (YA b2);simp only[List.cons.injEq,V.int.injEq,and_true]at h2;have e9:ws.getD i (0,(0,0))=ws.getD j (0,(0,0)):=Prod.ext h1.1 (Prod.ext h2.1 h2.2);have g1:ws[i]?=some (ws.getD i (0,(0,0))):=by simp[show i<ws.length by lia]
   have g2:ws[j]?=some (ws.getD j (0,(0,0))):=by simp[show j<ws.length by lia]
   have:=(List.getElem?_inj Aj nd).mp (g1.trans (by rw[e9];exact g2.symm))
   lia
  refine wpAny_bind (wpAny_mono (B4 (lt:=kl ws) hl Aj L OT fun i j hi hj C hC=>?_) ?_ fun _ _ e=>e)
  ·obtain⟨x,h3,h5⟩:=key i hi;obtain⟨y,g3,g5⟩:=key j hj;rw[h3,g3];exact L3 hu h5 g5 hC
  rintro⟨⟨⟩,aU⟩ s' ⟨p,To,hp,hs,Tj,hf⟩;rw[To];exact tail aU p hp hs (kat_snds hl Tj) hf
 ·have yq:vs.toArray.size<2:=by rw[List.size_toArray];lia
  rw[Hz yq,Hz yq];refine wpAny_bind (Xs (Z5 (Xs ?_)));have hp:yt vs.length (List.toArray (Z6 vs.length)):=by unfold yt;simp
  refine tail _ _ hp (fun i j m7 hj=>by lia) ?_ rfl;show((as.map Value.ref).toArray.zip vs.toArray).map (·.2)=_;apply Array.toList_inj.mp;rw[Array.toList_map,Array.toList_zip];refine(List.map_snd_zip Z_).trans ?_
  match vs,h2 with
  |[],_=>rfl
  |[x],_=>rfl
  |x::y::r,h=>simp at h
theorem Dm(F:a9 X.prog X.w X.K X.mg X.base (cY X.prog X.w) cm k f fd ps sp)(hr:eX cm k A')(hf:A'.frames=X.A.frames)(hb:Binds X.K fd ps [])(hu:A'.units+1<cLine)(I:Inv X pins σ H s)(hk:s.heap.get? kS=some (seqObj "list" #[] 0))(ha:s.heap.get? a=some (seqObj "list" #[] e1))
  (fk:iE X pins H kS) (fa:iE X pins H a) (cB:kS≠a) (r:Vals xs vs) (hlen:ws.length=vs.length) (nd:ws.Nodup) (DV:vs.length<10000)
  (oI:∀i v H1,xs[i]?=some v→av H H1→sp [v] H1 (KQ H1 (ws.getD i (0,(0,0)))) E0)
  (h:∀p H' s',yt vs.length p→Sd (kl ws) p vs.length→av H H'→H' a=none→Inv X pins σ (upd H' a (.lst (p.toList.map fun i=>xs.getD i .cL))) s'→P (.done (.ret .none)) s'):
  wpAny (model X.prog X.w) A' (ksk_rest a (.ref f) false vs.toArray e1 (.ref kS)) P E s:=by
 have MZ:=r.length;unfold ksk_rest;refine wpAny_bind (wpAny_rule ?_);first
  |rw[List.forIn_toArray]
  |(rw[←Array.forIn_toList];simp only[List.toList_toArray])
 refine wpAny_bind (ksk_fold (fun i s'=>∃(H':Hp)(as:List Addr)(e:Nat),Inv X pins σ H' s'∧av H H'∧s'.heap.get? kS=some (seqObj "list" (as.map Value.ref).toArray e)∧s'.heap.get? a=some (seqObj "list" #[] e1)∧iE X pins H' kS∧iE X pins H' a∧as.length=i∧Ks H' ws as) vs 0 s
  ⟨H,[],0,I,fun _ _ z=>z,hk,ha,fk,fa,rfl,fun j k e=>by simp at e⟩ ?_ ?_)
 ·rintro j x s' hx ⟨H',as,e,I',sm,Av,Ii,QP,OU,el,K⟩;simp only[Nat.zero_add]at el⊢;have hj:j<vs.length:=(WB hx).1;obtain⟨u,Vq,QR⟩:=r.get (i:=j) (x:=xs[j]) (by simp[show j<xs.length by lia]);rw[hx]at Vq;cases Vq;have Ip:=I'.pinned (fp:=[kS,a]) (fun b hb=>by
   simp only[List.mem_cons,List.not_mem_nil,or_false]at hb;rcases hb with rfl|rfl
   ·exact QP
   ·exact OU) (fun b hb=>by
   simp only[List.mem_cons,List.not_mem_nil,or_false]at hb;rcases hb with rfl|rfl
   ·exact⟨_,Av,fun v z=>nomatch z⟩
   ·exact⟨_,Ii,fun v z=>nomatch z⟩)
  refine wpAny_bind (wpAny_attempt (wpAny_mono (L4 F hr hf hb Ip (.cons QR .nil) (oI j xs[j] H' (by simp[show j<xs.length by lia]) sm)) (fun v wJ he=>?_) fun _ _ z=>z));obtain⟨y,H2,I2,ry,Tp,kk,t,rfl,k1,k2⟩:=he;cases ry;dsimp only;have pk:=I2.pin (kS,_) (ZU (ZU (gQ K4 Av)));have pa:=I2.pin (a,_) (ZU (ZU (gQ K4 Ii)));have I3:=I2.lL;have s1:=Heap.SameBut.update wJ.heap kS (Obj.mapSeq (·.push (.ref kk)));obtain⟨c2,qj⟩:∃c2,(wJ.heap.update kS (Obj.mapSeq (·.push (.ref kk)))).get? kS=some (seqObj "list" ((as.map Value.ref).toArray.push (.ref kk)) c2):=⟨_,get?_update_seq pk.1 (·.push (.ref kk))⟩
  refine wpAny_bind (listUpdate_at pk.1 rfl ?_ (by simp;rw[sizeLine_eq];lia) (by simp;rw[sizeLine_eq];lia));have M4:iE X pins H2 kS:=⟨pk.2.1,QP.2⟩
  have XX:iE X pins H2 a:=⟨pa.2.1,OU.2⟩
  refine wpAny_pure ⟨rfl,H2,as++[kk],c2,I3.turned (t':=wJ.toks) (it:=kS) (fun b o hb e=>(s1.2 b hb).trans e) M4.1 M4.2.1 M4.2.2.2.1 M4.2.2.2.2.1 M4.2.2.2.2.2,fun b o z=>Tp b o (sm b o z),?_,(s1.2 a (Z' cB)).trans pa.1,M4,XX,by simp[el],fun i k ei=>?_⟩
  ·show(wJ.heap.update kS (Obj.mapSeq (·.push (.ref kk)))).get? kS=_;rw[qj]
   congr 2
   simp
  ·by_cases hi:i<as.length
   ·rw[ZK hi]at ei;obtain⟨t',g1,g2⟩:=K i k ei;exact⟨t',Tp _ _ g1,Tp _ _ g2⟩
   ·rw[ZP Aj]at ei;have XY:i-as.length=0:=by
     have:=(WB ei).1;simp at this
     lia
    rw[XY]at ei;have:kk=k:=by simpa using ei
    subst this;have:i=j:=by lia
    subst this;exact⟨t,k1,k2⟩
 ·rintro s' ⟨H',as,e,I',sm,Av,Ii,QP,OU,el,K⟩;refine wpAny_bind (listItems_at Av rfl ?_);exact FK hu I' Av Ii QP OU cB K4 (by lia) K r hlen nd DV fun p s2 hp hs I2=>h p H' s2 hp hs sm OU.1 I2
theorem Dn{n:Nat}(F:a9 X.prog X.w X.K X.mg X.base (cY X.prog X.w) cm k f fd ps sp)(hr:eX cm k A')(hf:A'.frames=X.A.frames)(hb:Binds X.K fd ps [])(hu:A'.units+1<cLine)(I:Inv X pins σ H s)(ho:s.heap.get? a=some (seqObj "list" vs.toArray n))
  (fa:iE X pins H a) (r:Vals xs vs) (hlen:ws.length=vs.length) (nd:ws.Nodup) (DV:vs.length<10000)
  (oI:∀i v H1,xs[i]?=some v→av H H1→sp [v] H1 (KQ H1 (ws.getD i (0,(0,0)))) E0)
  (h:∀p H' s',yt vs.length p→Sd (kl ws) p vs.length→av H H'→H' a=none→Inv X pins σ (upd H' a (.lst (p.toList.map fun i=>xs.getD i .cL))) s'→P (.done (.ret .none)) s'):
  wpAny (model X.prog X.w) A' (ksk_tree a (.ref f) false) P E s:=by
 have s1:=Heap.SameBut.update s.heap a (Obj.mapSeq fun _=>(#[]:Array Value));obtain⟨e1,Ig⟩:∃e1,(Ο a).get? a=some (seqObj "list" #[] e1):=⟨_,get?_update_seq ho fun _=>#[]⟩
 have I1:Inv X pins σ H {s with heap:=Ο a}:=I.turned (t':=s.toks) (it:=a) (fun b o hb e=>(s1.2 b hb).trans e) fa.1 fa.2.1 fa.2.2.2.1 fa.2.2.2.2.1 fa.2.2.2.2.2;unfold ksk_tree;refine wpAny_bind υ;refine wpAny_bind (τ Ig);have I2:Inv X pins σ H {s with heap:=(Ο a).push (seqObj "tuple" vs.toArray 0)}:=I1.kept (t':=s.toks) fun b o e=>ZE e
 have I3:Inv X pins σ H {s with heap:=((Ο a).push (seqObj "tuple" vs.toArray 0)).push (seqObj "list" #[] 0)}:=I2.kept (t':=s.toks) fun b o e=>ZE e
 have fk:=I2.uP ZD (I2.bS.fresh ZD);have sP:=Heap.get?_push_of_some (seqObj "tuple" vs.toArray 0) Ig;exact Dm F hr hf hb hu I3 (Heap.get?_push_size _ rfl) (ZE sP) fk fa (Nat.ne_of_gt (Z9 sP)) r hlen nd DV oI h
theorem AJ{l:Addr}{Q:VK}(F:a9 X.prog X.w X.K X.mg X.base (cY X.prog X.w) cm k f fd ps sp)(hr:eX cm (k+1) X.A)(hb:Binds X.K fd ps [])(I:Inv X pins σ H s)(hq:iD X.K H l xs)(hlen:ws.length=xs.length)(nd:ws.Nodup)(DV:xs.length<10000)
  (oI:∀i v H1,xs[i]?=some v→av H H1→sp [v] H1 (KQ H1 (ws.getD i (0,(0,0)))) E0)
  (h:∀p H' D,yt xs.length p→Sd (kl ws) p xs.length→av H H'→H D=none→H' D=none→Q (.ref D) (upd H' D (.lst (p.toList.map fun i=>xs.getD i .cL)))):
  wpAny (model X.prog X.w) X.A (call (.builtin "sorted") [.ref l] [(Str.ofString "key", .ref f)]) (EP X pins σ Q) E s:=by
 obtain⟨vs,r,pl,hz⟩:=I.list hq;have MZ:=r.length;refine call_function_entry_kw kind_sorted plain_sorted entry_sorted (ksk_s1 _ _) ?_;unfold Builtin.«sorted»;refine wpAny_bind (m:=checkCount "sorted" 1 1 _) (Xs (Z5 (collect_list pl.isList (Z5 (wpAny_newList ?_ (by rw[sizeLine_eq];lia))) (by rw[sizeLine_eq];lia))));generalize hh:((s.heap.push (seqObj "list" #[] 0)).update s.heap.objs.size (Obj.mapSeq (·++vs.toArray)))=h1;have hsz:h1.objs.size=s.heap.objs.size+1:=by rw[←hh,Heap.size_update,size_push']
 have keep:∀b o,s.heap.get? b=some o→(h1.push Ω).get? b=some o:=fun b o q=>by
  have il:b<s.heap.objs.size:=Z9 q;rw[Heap.get?_push_ne _ _ _ (by rw[hsz];exact ZS (Nat.lt_succ_of_lt il)),←hh,Heap.get?_update_ne _ _ _ _ (ZS il),Heap.get?_push_ne _ _ _ (ZS il)];exact q
 have Jc:(h1.push Ω).get? h1.objs.size=some (seqObj "list" vs.toArray 0):=Heap.get?_push_size _ rfl;have hD:s.heap.objs.size≤h1.objs.size:=by rw[hsz];exact Nat.le_succ _
 have Vr:H h1.objs.size=none:=I.bS.fresh hD;have I1:Inv X pins σ H {s with heap:=h1.push Ω}:=I.kept (t':=s.toks) keep;show wpAny _ _ _ _ _ {s with heap:=h1.push Ω};refine wpAny_bind (wpAny_holding (wpAny_call_entry_kw slot_list_sort ⟨_,Jc,rfl⟩ entry_list_sort ?_ (ksk_l1 _ _)));show wpAny (model X.prog X.w) X.A.in1.in1 (Builtin.«list.sort» ⟨[.ref h1.objs.size],[(Str.ofString "key", .ref f)]⟩) _ _ _;rw[ksk_t1];have un:=hr.un;refine Dn F ⟨hr.hd,by have:=hr.dp;show X.A.depth+3*k+5<_;lia,by show X.A.units+1+1+16*k+200<_;lia⟩ rfl hb (by show X.A.units+1+1+1<_;lia) I1 Jc (I.uP hD Vr) r Aj nd Aj oI fun p H' s' hp hs sm hn I'=>⟨_,rfl,Xs ⟨_,rfl, .ref h1.objs.size,_,I',rfl,?_⟩⟩
 rw[←MZ]at hp hs;exact h p H' _ hp hs sm Vr hn
end
inductive FN(K:Frag)(sp:Sp)(x:V)(H:Hp)(Q:VK):Prop
 |mk (l:Addr) (xs:List V) (ws:List Kw) (_:x= .ref l) (_:iD K H l xs) (_:ws.length=xs.length) (_:ws.Nodup) (_:xs.length<10000) (_:∀i v H1,xs[i]?=some v→av H H1→sp [v] H1 (KQ H1 (ws.getD i (0,(0,0)))) E0)
  (_:∀p H' D,yt xs.length p→Sd (kl ws) p xs.length→av H H'→H D=none→H' D=none→Q (.ref D) (upd H' D (.lst (p.toList.map fun i=>xs.getD i .cL)))):FN K sp x H Q
def L5(K:Frag)(sp:Sp)(ta:TE):TE:=fun σ H Q=>ta σ H fun x H1=>FN K sp x H1 Q
theorem FO{X:Cx}(K:Frag){cm:Bool}{k:Nat}{x:Str}{ps:List Str}{sp:Sp}{e:Expr}{ta:TE}{p pos kp fp:Pos}(D:bN X.prog X.w X.K X.mg X.base cm k x ps sp)(hr:eX cm (k+1) X.A)(he:PE X e ta)(hg:Gl X "sorted")(hm:X.mg "sorted"=none)
  (XZ:Gl X x:=by rfl) (wI:(x==("__debug__":Str))=false:=by decide) (hs:starEach [e] X.env=[(false,eval e X.env)]:=by rfl) (hK:X.K=K:=by rfl):
  PE X (.Call (.Name "sorted" p) [e] [⟨some "key", .Name x fp,kp⟩] pos) (L5 K sp ta):=by
 subst hK;obtain⟨f,fd,ok,X0,hk,hb⟩:=D;intro pins s σ H Q I h;refine wpAny_Call_Name_kw (lJ I hg hm (PyProof.Rows.Boot.«sorted») ?_ ZV (Sz));rw[hs];refine callWith_builtin_kwB (first:=[]) rfl rfl (evalArgs_kwB rfl ?_);refine Calls.spliced_cons ?_;show wpAny _ _ (eval e X.env) _ _ s;refine cG (he pins s σ H _ I h) fun v s1 ⟨y,H1,I1,r1,q1⟩=>Calls.spliced_nil ?_
 obtain⟨l,xs,ws,rfl,hq,hlen,nd,DV,oI,q⟩:=q1;cases r1;refine kws_cons ?_;show wpAny _ _ (eval (.Name x fp) X.env) _ _ s1;refine cG (Bm (v:= .ref f) XZ X0 rfl wI pins s1 σ H1 (fun y H2=>y= .ref f∧H2=H1) I1 ⟨rfl,rfl⟩) fun u s2 ⟨y,H2,I2,r2,e1,e2⟩=>?_
 subst e1 e2;cases r2;refine kws_nil ?_;exact AJ ok hr hb I2 hq hlen nd DV oI q
end QF
namespace L2
open PySem PySem.Spec PyProof.Rows PySem.W PySem.Calls
def M5(hi:Int)(n:Nat):It:=⟨fun i _=>i<n,fun i H x H'=>H'=H∧x= .int (hi-i),fun i _=>n≤i⟩
theorem Dp{P:Program}{w:World}{K:PySem.W.Frag}{tg:Expr}(it:Addr)(hi:Int)(n:Nat):Turn P w K tg (M5 hi n) [it] it (fun i h=>IsRangeIter h it (hi+(i:Nat)*(-1)) ((n:Int)-(i:Nat)) (-1)) where
 mem:=MD
 obj:=fun i h st b hb=>by
  have e:b=it:=by simpa using hb
  subst e;exact⟨_,st,fun v z=>by
   have z':Data.fields _=Data.cell v:=z;cases z'⟩
 keep:=fun i h h' st k=>k it (MD) _ st
 item:=by
  intro X hP hw hK hc i pins s σ H E I hf st hg;subst hP hw hK;obtain⟨f0,f1,f2,f3,f4,f5⟩:=hf it (MD);have W:=Walks.range (prog:=X.prog) (w:=X.w) (I.ok.hd hc) it hi (-1) n;refine W.item i s _ _ hg st fun v h' tk hv aU kk=>?_
  obtain⟨t,rfl⟩:=hv;have I1:Inv X pins σ H {s with heap:=h',toks:=tk}:=I.turned (fun b o hb e=>kk b o (by simpa using hb) e) f0 f1 f3 f4 f5;refine⟨_,rfl,yE (s:={s with heap:=h',toks:=tk}) (n:="range_iterator") aU rfl rfl (Sz) ⟨.int (hi-i),H,I1,⟨t,?_⟩,⟨rfl,rfl⟩,aU,fun b hb=>(hf b hb).1⟩⟩
  congr 1
  lia
 done:=by
  intro X hP hw hK hc i pins s σ H E I hf st hg;subst hP hw hK;obtain⟨f0,f1,f2,f3,f4,f5⟩:=hf it (MD);exact wpAny_pyNext_range_end (I.ok.hd hc) st (by have:n≤i:=hg;lia) fun h' eb=>⟨rfl,I.turned (t':=s.toks) (fun b o hb e=>eb b o hb e) f0 f1 f3 f4 f5⟩
 self:=fun _ _ _ _ _ st h=>wpAny_pyIter_rangeiter st h
theorem rangeSize_down(a b:Int):Builtin.Range.rangeSize a b (-1)=if a>b then a-b else 0:=by
 unfold Builtin.Range.rangeSize;rw[if_neg ZV];split<;>simp
theorem small_down{a b:Int}(ha:-(2^62)≤a)(Ii:a<2^62)(hb:-(2^62)≤b)(MU:b<2^62):Builtin.Range.small a b (-1)=true:=by
 unfold Builtin.Range.small;rw[rangeSize_down];simp only[Builtin.Range.rangeFitsLong,Bool.and_eq_true,Bool.or_eq_true,decide_eq_true_eq,beq_iff_eq,show ¬(-1:Int)>0 by decide,if_false];split<;>lia
section
variable{X:Cx}{tg:Expr}
theorem Ij{pins:List (Addr×Obj)}{σ:L2.St}{H:Hp}{s:Shared}{R:It→Hp→Prop}{E:Value→Shared→Prop}{hi lo:Int}{t u v:Tok}{tk:Nat}(I:Inv X pins σ H s)(h1:-(2^62)≤hi)(h2:hi<2^62)(h3:-(2^62)≤lo)(h4:lo<2^62)
  (q:R (M5 hi (hi-lo).toNat) H):wpAny (model X.prog X.w) X.A (pyIter (.ref s.heap.objs.size)) (RN X pins σ tg R) E {s with heap:=s.heap.push {cls:= .type "range",data:= .fields #[.int hi t, .int lo u, .int (-1) v]},toks:=tk}:=by
 refine wpAny_pyIter_range (IsRange.new ..) (small_down h1 h2 h3 h4) ?_;have I1:Inv X pins σ H {s with heap:=s.heap.push {cls:= .type "range",data:= .fields #[.int hi t, .int lo u, .int (-1) v]},toks:=tk}:=I.kept fun b o e=>ZE e
 refine⟨(s.heap.push {cls:= .type "range",data:= .fields #[.int hi t, .int lo u, .int (-1) v]}).objs.size,[(s.heap.push {cls:= .type "range",data:= .fields #[.int hi t, .int lo u, .int (-1) v]}).objs.size],_,_,H,rfl,
  I1.kept (t':=tk) fun b o e=>ZE e,Dp _ hi (hi-lo).toNat,?_,fun b hb=>?_,q⟩
 ·have e1:hi+((0:Nat):Int)*(-1)=hi:=MD;have e2:(((hi-lo).toNat:Nat):Int)-((0:Nat):Int)=Builtin.Range.rangeSize hi lo (-1):=by rw[rangeSize_down];split<;>lia
  show IsRangeIter _ _ (hi+((0:Nat):Int)*(-1)) ((((hi-lo).toNat:Nat):Int)-((0:Nat):Int)) (-1);rw[e1,e2];exact Heap.get?_push_size _ rfl
 ·have e:b=(s.heap.push {cls:= .type "range",data:= .fields #[.int hi t, .int lo u, .int (-1) v]}).objs.size:=by simpa using hb
  subst e;exact I1.uP ZD (I1.bS.fresh ZD)
def OW(ta:TA):TI:=fun σ H R=>ta σ H fun vs H1=>∃i j:Int,vs=[.int i, .int j, .int (-1)]∧(-(2^30)≤i∧i<2^30∧-(2^30)≤j∧j<2^30)∧R (M5 i (i-j).toNat) H1
theorem wb{a b c:Expr}{ta:TA}{p pos:Pos}(hg:Gl X "range")(hm:X.mg "range"=none)(ha:PA X [a,b,c] ta)(hs:starEach [a,b,c] X.env=[(false,eval a X.env),(false,eval b X.env),(false,eval c X.env)]:=by rfl)(KL:starEach [b,c] X.env=[(false,eval b X.env),(false,eval c X.env)]:=by rfl):
  PI X tg (.Call (.Name "range" p) [a,b,c] [] pos) (OW ta):=by
 intro pins s σ H R I h;refine Call_ (lJ I hg hm boot_range (PyProof.Rows.callWith_type1 (cG (ha pos pins s σ H _ I h) fun us s1 ⟨vs,H1,I1,r1,q1⟩=>?_) (by rw[hs,KL]) (by rw[KL];rfl)));obtain⟨i,j,e,⟨q1,q2,q3,q4⟩,q⟩:=q1;subst e;cases r1 with
 |cons r rr=>
  cases rr with
  |cons r' rr=>
   cases rr with
   |cons r2 rr=>
    cases rr;obtain⟨t,rfl⟩:=r;obtain⟨t',rfl⟩:=r';obtain⟨t2,rfl⟩:=r2;exact call_range_3 ZV (Ij I1 Aj (by lia) (by lia) (by lia) q) (Or.inl (PyProof.noPylong_small Aj))
theorem zi{hi:Int}{n:Nat}{g:TG}{tb:TS}{D:Ends}{σ:L2.St}{H:Hp}(Pv:Nat→L2.St→Hp→Prop)(h0:Pv 0 σ H)
  (hs:∀i σ H,i<n→Pv i σ H→g (.int (hi-i)) σ H fun fF H2=>tb {D with nx:=Pv (i+1),ct:=Pv (i+1),bk:=D.nx} fF H2) (hd:∀σ H,Pv n σ H→D.nx σ H):
  ∃W:Nat→Nat→L2.St→Hp→Prop,(∃m,W 0 m σ H)∧∀i m σ H,W i m σ H→
   ((M5 hi n).stop i H∧D.nx σ H)∨((M5 hi n).go i H∧∃N:L2.St→Hp→Prop,(∀bj H',N bj H'→∃m',m'<m∧W (i+1) m' bj H')∧∀x H',(M5 hi n).G6 i H x H'→g x σ H' fun fF H2=>tb {D with nx:=N,ct:=N,bk:=D.nx} fF H2):=by
 refine⟨fun i m σ H=>m=n-i∧i≤n∧Pv i σ H,⟨n,MD,Nat.zero_le _,h0⟩,?_⟩;rintro i m σ H ⟨rfl,sN,p⟩;by_cases il:i<n
 ·refine .inr ⟨il,Pv (i+1),fun bj H' p'=>⟨n-(i+1),by lia,rfl,il,p'⟩,fun x H' y=>?_⟩;obtain⟨e,y⟩:=y;subst e y;exact hs i σ _ il p
 ·have e:i=n:=by lia
  subst e;exact .inl ⟨Nat.le_refl _,hd σ H p⟩
end
theorem Dq{d:Addr}{o:Obj}{kvs:List (List Key×V)}{ls:List Str}{js:List Nat}{g:TG}{tt:TT}{te:TE}{σ:L2.St}{H1:Hp}{D:Addr}{Q:VK}(Pv:Nat→List V→L2.St→Hp→Prop)
  (h0:Pv 0 [] (lN ls js σ) (upd H1 D (.lst []))) (hl:∀i ys σ H,i≤kvs.length→Pv i ys σ H→H d=some (.sJ o (.dT kvs)))
  (hs:∀i p ys σ H,kvs[i]?=some p→Pv i ys σ H→g p.2 σ H fun fF H3=>tt fF H3 fun b H4=>if b=true then te fF H4 fun y H5=>H5 D=some (.lst ys)∧ys.length<sizeLine∧Pv (i+1) (ys++[y]) fF (upd H5 D (.lst (ys++[y])))else Pv (i+1) ys fF H4)
  (hd:∀ys σ H,Pv kvs.length ys σ H→Q (.ref D) H):tE (SK d o kvs) ls js g tt te σ H1 D Q:=
 oS (n:=kvs.length) Pv h0 (fun i ys σ H hi p=>⟨hl i ys σ H (Nat.le_of_lt hi) p,hi⟩) (fun ys σ H p=>⟨hl _ ys σ H ZD p,Nat.le_refl _⟩)
  (fun i ys σ H x H2 hi p y=>by
   obtain⟨rfl,q,hq,rfl⟩:=y;exact hs i q ys σ _ hq p) hd
theorem FP{X:Cx}{cm:Bool}{k:Nat}{x:Str}{C:Addr}{ps:List Str}{mq:List V}{sp:Sp}{E:L2.St→XK}{p pos:Pos}(D:m3 X.prog X.w X.K X.mg X.base cm k x C ps mq sp)(hr:eX cm (k+1) X.A)(hx:Passes (cY X.prog X.w) X E)(hg:Gl X x:=by rfl)(wI:(x==("__debug__":Str))=false:=by decide):
  PE X (.Call (.Name x p) [] [] pos) (Bv C sp mq E Ek):=by
 obtain⟨f,fd,ds,ok,M,hm,hb,hd⟩:=D;exact En M ok hr hg hm hb hd hx wI
end L2
namespace QF
open PySem L2
structure qK(H:Hp)(C x dx e b:Addr)(es bs:List Addr)(f:Nat→Nat→Option Int)(o p:Int)(n m:Nat):Prop where
 ob:H x=some (.ins C dx (gM o p e b))
 he:H e=some (.lst (es.map V.ref))
 te:jf H es (dE f o p) n m
 hb:H b=some (.lst (bs.map V.ref))
 tb:jf H bs (Bq f o p) (n+1) (m+1)
theorem qK.keep{H H':Hp}{C x dx e b:Addr}{es bs:List Addr}{f:Nat→Nat→Option Int}{o p:Int}{n m:Nat}(t:qK H C x dx e b es bs f o p n m)(s:av H H'):qK H' C x dx e b es bs f o p n m:=
 ⟨s _ _ t.ob,s _ _ t.he,t.te.same s,s _ _ t.hb,t.tb.same s⟩
theorem FQ(o p:Int)(e b:Addr):(gM o p e b).lookup ("goes_on":Str)=none:=by kernel_rfl
theorem B7(o p:Int)(e b:Addr):(gM o p e b).lookup ("crossings_before":Str)=none:=by kernel_rfl
theorem JL(o p:Int)(e b:Addr):(gM o p e b).lookup ("is_brought_by":Str)=none:=by kernel_rfl
theorem L6(o p:Int)(e b:Addr):(gM o p e b).lookup ("pair_before":Str)=none:=by kernel_rfl
theorem OX(o p:Int)(e b:Addr):(gM o p e b).lookup ("way_to":Str)=none:=by kernel_rfl
def gN:Option Int→Bool
 |none=>false
 |some b=>decide (0≤b)
def bu(f:Nat→Nat→Option Int)(o p:Int)(i j:Nat):List Pr:=
 (if bB (Bq f o p i (j+1)) o=Bq f o p (i+1) (j+1)then[((i:Int),((j+1:Nat):Int))]else[])++(if bB (Bq f o p (i+1) j) p=Bq f o p (i+1) (j+1)then[(((i+1:Nat):Int),(j:Int))]else[])
def cN(f:Nat→Nat→Option Int)(o p:Int):Nat→Nat→Nat×Nat
 |0,_=>(0,0)
 | _+1,0=>(0,0)
 |i+1,j+1=>if dE f o p i j=Bq f o p (i+1) (j+1)then(i,j)else if bB (Bq f o p i (j+1)) o=Bq f o p (i+1) (j+1)then cN f o p i (j+1)else cN f o p (i+1) j
termination_by i j=>(i,j)
theorem kN(f:Nat→Nat→Option Int)(o p:Int):∀i j,0<i→0<j→(cN f o p i j).1<i∧(cN f o p i j).2<j∨Bq f o p i j=none
 |0,_,h,_=>X7 h Aj
 | _+1,0,_,h=>X7 h Aj
 |i+1,j+1,_,_=>by
  cases hB:Bq f o p (i+1) (j+1)with
  |none=>exact .inr rfl
  |some v=>
   left
   unfold cN;by_cases h1:dE f o p i j=Bq f o p (i+1) (j+1)
   ·rw[Hz h1];exact⟨MD,MD⟩
   ·rw[Dy h1];by_cases h2:bB (Bq f o p i (j+1)) o=Bq f o p (i+1) (j+1)
    ·rw[Hz h2];have hn:Bq f o p i (j+1)≠none:=fun z=>by rw[z,hB]at h2;simp[bB]at h2
     have hi:0<i:=by
      cases i with
      |zero=>exact X7 (iQ f o p (j+1)) hn
      |succ i=>lia
     rcases kN f o p i (j+1) hi Aj with z|z
     ·exact⟨by lia,z.2⟩
     ·exact X7 z hn
    ·rw[Dy h2];have hn:Bq f o p (i+1) j≠none:=fun z=>by
      have e:Bq f o p (i+1) (j+1)=oX [dE f o p i j,bB (Bq f o p i (j+1)) o,bB (Bq f o p (i+1) j) p]:=by
       rw[Bq];rfl
      rw[z]at e;have:bB none p=(none:Option Int):=rfl;rw[this]at e;have key:∀a b:Option Int,oX [a,b,none]=a∨oX [a,b,none]=b:=fun a b=>by
       cases a<;>cases b<;>simp[oX]
       rename_i x y
       by_cases zd:x≤y
       ·right;lia
       ·left;lia
      rcases key (dE f o p i j) (bB (Bq f o p i (j+1)) o)with k|k
      ·exact h1 (by rw[e,k])
      ·exact h2 (by rw[e,k])
     have hj:0<j:=by
      cases j with
      |zero=>exact X7 (by unfold Bq;rfl) hn
      |succ j=>lia
     rcases kN f o p (i+1) j Aj hj with z|z
     ·exact⟨z.1,by lia⟩
     ·exact X7 z hn
termination_by i j=>(i,j)
def eJ(f:Nat→Nat→Option Int)(o p:Int):Nat→Nat→Nat→List (Nat×Nat)
 |0,i,j=>[(i,j)]
 |k+1,i,j=>if gN (Bq f o p i j)=true then eJ f o p k (cN f o p i j).1 (cN f o p i j).2++[(i,j)]else[(i,j)]
def aQ(q:Nat×Nat):Pr:=((q.1:Int),(q.2:Int))
inductive qL(C CT:Addr)(vs:List V)(H:Hp)(Q:VK)(u3:XK):Prop
 |mk (x dx w t:Addr) (c:Case) (as:List Addr) (f:Nat→Nat→Option Int) (n m:Nat) (_:vs=[.ref x, .ref w, .ref t]) (_:H x=some (.ins C dx [])) (_:H dx=some (.own x)) (_:H w=some (.lst (as.map V.ref))) (_:jf H as f n m) (_:yW H CT t c) (_:n≤1000) (_:m≤1000) (_:∀H' e b,SameBut x H H'→H' x=some (.ins C dx (gM c.out c.into e b))→Tab H H' e (dE f c.out c.into) n m→(0<n→Tab H H' b (Bq f c.out c.into) (n+1) (m+1))→Q .cL H'):qL C CT vs H Q u3
inductive xu(C:Addr)(vs:List V)(H:Hp)(Q:VK)(u3:XK):Prop
 |mk (x dx e b:Addr) (es bs:List Addr) (f:Nat→Nat→Option Int) (o p:Int) (n m:Nat) (pr:Addr) (i j:Nat) (_:vs=[.ref x, .ref pr]) (_:qK H C x dx e b es bs f o p n m) (_:H pr=some (.tup [.int i, .int j])) (_:i≤n) (_:j≤m) (_:Q (.bl (gN (Bq f o p i j))) H):xu C vs H Q u3
inductive AK(C:Addr)(vs:List V)(H:Hp)(Q:VK)(u3:XK):Prop
 |mk (x dx e b:Addr) (es bs:List Addr) (f:Nat→Nat→Option Int) (o p:Int) (n m:Nat) (cr pr:Addr) (i j k l:Nat) (_:vs=[.ref x, .ref cr, .ref pr]) (_:qK H C x dx e b es bs f o p n m) (_:H cr=some (.tup [.int i, .int j])) (_:H pr=some (.tup [.int k, .int l])) (_:i≤n) (_:j≤m) (_:k<n) (_:l<m) (_:Q (.bl (decide (dE f o p k l=Bq f o p i j))) H):AK C vs H Q u3
inductive tT(C:Addr)(vs:List V)(H:Hp)(Q:VK)(u3:XK):Prop
 |mk (x dx e b:Addr) (es bs:List Addr) (f:Nat→Nat→Option Int) (o p:Int) (n m:Nat) (cr:Addr) (i j:Nat) (_:vs=[.ref x, .ref cr]) (_:qK H C x dx e b es bs f o p n m) (_:H cr=some (.tup [.int ((i+1:Nat):Int), .int ((j+1:Nat):Int)])) (_:i<n) (_:j<m) (_:∀H' r us,av H H'→H r=none→H' r=some (.lst us)→fN H' us (bu f o p i j)→Q (.ref r) H'):tT C vs H Q u3
inductive xv(C:Addr)(vs:List V)(H:Hp)(Q:VK)(u3:XK):Prop
 |mk (x dx e b:Addr) (es bs:List Addr) (f:Nat→Nat→Option Int) (o p:Int) (n m:Nat) (pr:Addr) (i j:Nat) (_:vs=[.ref x, .ref pr]) (_:qK H C x dx e b es bs f o p n m) (_:H pr=some (.tup [.int i, .int j])) (_:i≤n) (_:j≤m) (_:Bq f o p i j≠none) (_:∀H' r,av H H'→H' r=some (.tup (iK (aQ (cN f o p i j))))→Q (.ref r) H'):xv C vs H Q u3
inductive AL(C:Addr)(vs:List V)(H:Hp)(Q:VK)(u3:XK):Prop
 |mk (x dx e b:Addr) (es bs:List Addr) (f:Nat→Nat→Option Int) (o p:Int) (n m:Nat) (pr:Addr) (i j:Nat) (_:vs=[.ref x, .ref pr]) (_:qK H C x dx e b es bs f o p n m) (_:H pr=some (.tup [.int i, .int j])) (_:i<n) (_:j<m) (_:n≤1000) (_:∀H' r us,av H H'→H r=none→H' r=some (.lst us)→fN H' us ((eJ f o p i i j).map aQ)→Q (.ref r) H'):AL C vs H Q u3
theorem X1(a b:Option Int):oX [a,b,none]=a∨oX [a,b,none]=b:=by
 cases a<;>cases b<;>simp[oX]
 rename_i x y
 by_cases zd:x≤y
 ·right;lia
 ·left;lia
theorem zj{f:Nat→Nat→Option Int}{o p:Int}{i j:Nat}(hB:Bq f o p (i+1) (j+1)≠none)(h1:dE f o p i j≠Bq f o p (i+1) (j+1)):
  ∃i2 j2,(bu f o p i j)[0]?=some (aQ (i2+1,j2+1))∧i2≤i∧j2≤j∧i2+j2<i+j∧Bq f o p (i2+1) (j2+1)≠none∧cN f o p (i2+1) (j2+1)=cN f o p (i+1) (j+1):=by
 by_cases h2:bB (Bq f o p i (j+1)) o=Bq f o p (i+1) (j+1)
 ·have hn:Bq f o p i (j+1)≠none:=fun z=>by rw[z]at h2;exact hB h2.symm
  cases i with
  |zero=>exact X7 (iQ f o p (j+1)) hn
  |succ i=>
   refine⟨i,j,?_,by lia,by lia,by lia,hn,?_⟩
   ·unfold bu;rw[Hz h2];rfl
   ·conv=>rhs;unfold cN
    rw[Dy h1,Hz h2]
 ·have hn:Bq f o p (i+1) j≠none:=fun z=>by
   have e:Bq f o p (i+1) (j+1)=oX [dE f o p i j,bB (Bq f o p i (j+1)) o,bB (Bq f o p (i+1) j) p]:=by rw[Bq];rfl
   rw[z,show bB none p=(none:Option Int)from rfl]at e;rcases X1 (dE f o p i j) (bB (Bq f o p i (j+1)) o)with k|k
   ·exact h1 (by rw[e,k])
   ·exact h2 (by rw[e,k])
  have h3:bB (Bq f o p (i+1) j) p=Bq f o p (i+1) (j+1):=by
   have e:Bq f o p (i+1) (j+1)=oX [dE f o p i j,bB (Bq f o p i (j+1)) o,bB (Bq f o p (i+1) j) p]:=by rw[Bq];rfl
   have key:∀a b c:Option Int,oX [a,b,c]≠a→oX [a,b,c]≠b→c=oX [a,b,c]:=fun a b c=>by
    cases a<;>cases b<;>cases c<;>simp[oX]<;>lia
   rw[e];exact key _ _ _ (fun z=>h1 (by rw[e];exact z.symm)) (fun z=>h2 (by rw[e];exact z.symm))
  cases j with
  |zero=>exact X7 (by unfold Bq;rfl) hn
  |succ j=>
   refine⟨i,j,?_,by lia,by lia,by lia,hn,?_⟩
   ·unfold bu;rw[Dy h2,Hz h3];rfl
   ·conv=>rhs;unfold cN
    rw[Dy h1,Dy h2]
theorem kf{f:Nat→Nat→Option Int}{o p:Int}{i j:Nat}(h:gN (Bq f o p i j)=true):0<i∧0<j∧Bq f o p i j≠none:=by
 have hn:Bq f o p i j≠none:=fun z=>by rw[z]at h;cases h
 refine⟨?_,?_,hn⟩
 ·cases i with
  |zero=>exact X7 (iQ f o p j) hn
  |succ i=>lia
 ·cases j with
  |zero=>cases i with
   |zero=>exact X7 (iQ f o p 0) hn
   |succ i=>exact X7 (by unfold Bq;rfl) hn
  |succ j=>lia
theorem gW{f:Nat→Nat→Option Int}{o p:Int}{i j:Nat}(h:¬gN (Bq f o p i j)=true):∀k,eJ f o p k i j=[(i,j)]
 |0=>rfl
 |k+1=>by rw[eJ,Dy h]
theorem Dr(f:Nat→Nat→Option Int)(o p:Int)(i:Nat):∀k k' j,i≤k→i≤k'→eJ f o p k i j=eJ f o p k' i j:=by
 induction i using Nat.strongRecOn with
 |ind i ih=>
  intro k k' j h h';by_cases hg:gN (Bq f o p i j)=true
  ·obtain⟨a,b,c⟩:=kf hg;have hl:=(kN f o p i j a b).resolve_right c;obtain⟨k,rfl⟩:∃k1,k=k1+1:=⟨k-1,by lia⟩
   obtain⟨k',rfl⟩:∃k1,k'=k1+1:=⟨k'-1,by lia⟩
   rw[eJ,eJ,Hz hg,Hz hg,ih _ hl.1 k k' _ (by lia) (by lia)]
  ·rw[gW hg,gW hg]
theorem wc{f:Nat→Nat→Option Int}{o p:Int}{i j:Nat}(h:gN (Bq f o p i j)=true):eJ f o p i i j=eJ f o p (cN f o p i j).1 (cN f o p i j).1 (cN f o p i j).2++[(i,j)]:=by
 obtain⟨a,b,c⟩:=kf h;have hl:=(kN f o p i j a b).resolve_right c;obtain⟨i,rfl⟩:∃k1,i=k1+1:=⟨i-1,by lia⟩
 rw[eJ,Hz h,Dr f o p _ i _ _ (by lia) (Nat.le_refl _)]
structure JM(K:W.Frag)(C:Addr):Prop where
 cl:wH K C
 worth:bW K C "worth"
 way:bW K C "way"
 row:bW K C "row"
 pairs:bW K C "pairs"
def m9(w:Int)(a r p:Addr):List (Str×V):=[("worth", .int w),("way", .ref a),("row", .ref r),("pairs", .ref p)]
theorem kg(w:Int)(a r p:Addr):(m9 w a r p).lookup ("worth":Str)=some (V.int w):=by kernel_rfl
theorem qM(w:Int)(a r p:Addr):(m9 w a r p).lookup ("way":Str)=some (V.ref a):=by kernel_rfl
theorem AM(w:Int)(a r p:Addr):(m9 w a r p).lookup ("row":Str)=some (V.ref r):=by kernel_rfl
theorem jh(w:Int)(a r p:Addr):(m9 w a r p).lookup ("pairs":Str)=some (V.ref p):=by kernel_rfl
theorem L7(w:Int)(a r p:Addr):br "pairs" (.ref p) (br "row" (.ref r) (br "way" (.ref a) (br "worth" (.int w) [])))=m9 w a r p:=by kernel_rfl
inductive tU(C:Addr)(vs:List V)(H:Hp)(Q:VK)(u3:XK):Prop
 |mk (x dx a r p:Addr) (w:Int) (_:vs=[.ref x, .int w, .ref a, .ref r, .ref p]) (_:H x=some (.ins C dx [])) (_:Q .cL (upd H x (.ins C dx (m9 w a r p)))):tU C vs H Q u3
inductive tV(C:Addr)(vs:List V)(H:Hp)(Q:VK)(u3:XK):Prop
 |mk (x dx a r p:Addr) (w:Int) (us:List V) (ps:List Pr) (_:vs=[.ref x]) (_:H x=some (.ins C dx (m9 w a r p))) (_:H p=some (.lst us)) (_:fN H us ps) (_:ps≠[]) (_:∀H' k t,av H H'→H' k=some (.tup [.int (-w), .ref t])→H' t=some (.tup [.int (gL ps).1, .int (gL ps).2])→Q (.ref k) H'):tV C vs H Q u3
inductive AN(C CF:Addr)(vs:List V)(H:Hp)(Q:VK)(u3:XK):Prop
 |mk (x dx e b:Addr) (es bs:List Addr) (f:Nat→Nat→Option Int) (o p:Int) (n m:Nat) (w:Int) (pr:Addr) (us:List V) (ps:List (Nat×Nat)) (q0:Nat×Nat) (_:vs=[.ref x, .int w, .ref pr]) (_:qK H C x dx e b es bs f o p n m) (_:H pr=some (.lst us)) (_:fN H us (ps.map aQ)) (_:∀q∈ps,q.1<n∧q.2<m) (_:(ps.filter fun q=>decide (dE f o p q.1 q.2=some w))[0]?=some q0) (_:n≤1000) (_:ps.length≤5000)
  (_:∀H' y dy wy rw iC,av H H'→H y=none→H dy=none→H wy=none→H rw=none→H' y=some (.ins CF dy (m9 w wy rw pr))→H' dy=some (.own y)→H' wy=some (.lst iC)→fN H' iC ((eJ f o p q0.1 q0.1 q0.2).map aQ)→H' rw=some (.lst ((eJ f o p q0.1 q0.1 q0.2).map fun q=>bC (dE f o p q.1 q.2)))→Q (.ref y) H'):AN C CF vs H Q u3
theorem B8{f:Nat→Nat→Option Int}{o p:Int}{n m:Nat}:∀k i j,i<n→j<m→∀q∈eJ f o p k i j,q.1<n∧q.2<m
 |0,i,j,hi,hj,q,hq=>by
  have:q=(i,j):=by simpa[eJ]using hq
  subst this;exact⟨hi,hj⟩
 |k+1,i,j,hi,hj,q,hq=>by
  by_cases h:gN (Bq f o p i j)=true
  ·rw[eJ,Hz h]at hq;obtain⟨a,b,c⟩:=kf h;have hl:=(kN f o p i j a b).resolve_right c;rcases List.mem_append.mp hq with z|z
   ·exact B8 k _ _ (by lia) (by lia) q z
   ·have:q=(i,j):=by simpa using z
    subst this;exact⟨hi,hj⟩
  ·rw[gW h]at hq;have:q=(i,j):=by simpa using hq
   subst this;exact⟨hi,hj⟩
theorem zk{f:Nat→Nat→Option Int}{o p:Int}:∀k i j,(eJ f o p k i j).length≤k+1
 |0,i,j=>by simp[eJ]
 |k+1,i,j=>by
  by_cases h:gN (Bq f o p i j)=true
  ·rw[eJ,Hz h,List.length_append];have:=zk (f:=f) (o:=o) (p:=p) k (cN f o p i j).1 (cN f o p i j).2;simp
   lia
  ·rw[gW h];simp
end QF
namespace L2
open PySem PySem.Spec PyProof.Rows PySem.W PySem.Calls
section
variable{X:Cx}
inductive FT(K:Frag)(x:V)(y:V)(H:Hp)(Q:VK):Prop
 |mk (p q:Addr) (xs ys:List V) (_:x= .ref p) (_:y= .ref q) (_:Ea K H p xs) (_:Ea K H q ys) (_:xs.all rF=true) (_:ys.all rF=true) (_:Q (.bl (!uR xs ys)) H):FT K x y H Q
theorem Ds(K:Frag)(hu:X.A.units<cLine)(hK:X.K=K:=by rfl):rV X (compareOp .NotEq) (FT K):=by
 subst hK;intro pins s σ H x y v u Q I rx ry h;obtain⟨p,q,xs,ys,rfl,rfl,hp,hq,f1,f2,k⟩:=h;cases rx;cases ry;obtain⟨its,r,pl,hz⟩:=I.tuple hp;obtain⟨dC,r2,HB,MQ⟩:=I.tuple hq;have he:=tM (A:=X.A.in1) (s:=s) r r2 f1 f2;obtain⟨⟨cls,dd,data,sl⟩,ho,hc,n,hd⟩:=id pl;obtain⟨⟨EZ,rZ,data2,mZ⟩,sP,qj,n2,hd2⟩:=id HB;simp only at hc hd qj hd2;subst hc hd qj hd2;refine richCompare_meets_room (op:= .NotEq) ⟨_,ho,rfl⟩ ⟨_,sP,rfl⟩ F.slot_tuple_ne F.entry_tuple_ne (F.args_tuple_ne_2 _ _) (SeqAt.tuple_neAt p q its.toArray dC.toArray n n2 dd rZ sl mZ _) ⟨ho,sP,he,?_⟩ hu;have e:(!((Z6 (min its.toArray.size dC.toArray.size)).all (fun j=>wO (xs.getD j .cL) (ys.getD j .cL))&&its.toArray.size==dC.toArray.size))=!uR xs ys:=by
  rw[←kK,r.length,r2.length];simp
 rw[e];exact⟨(fun x=>nomatch x), .bl (!uR xs ys),H,I,rfl,k⟩
end
end L2
namespace QF
open PySem L2
theorem dj{p q:Pr}(h:ba p=ba q):p=q:=by
 simp only[ba,List.cons.injEq,Sum.inl.injEq,and_true]at h;exact Prod.ext h.1 h.2
theorem len_sub{α:Type}[DecidableEq α]:∀(l m:List α),l.Nodup→(∀x∈l,x∈m)→l.length≤m.length
 |[],m,_,_=>MD
 |x::r,m,hn,h=>by
  have D_:=List.nodup_cons.mp hn;have hx:=h x (MD);have:=len_sub r (m.erase x) D_.2 fun y hy=>(List.mem_erase_of_ne (fun e:y=x=>D_.1 (by rw[←e];exact hy))).mpr (h y (by simp[hy]))
  rw[List.length_erase_of_mem hx]at this;have:=List.length_pos_of_mem hx;simp
  lia
def JN(E:Pr→Pr→Prop)(p:Pr):Pr→Pr→Prop:=fun a b=>E a b∨(a=p∧b=p)
def qN(E:Pr→Pr→Prop)(p q:Pr):Pr→Pr→Prop:=fun a b=>E a b∨((E a p∨E a q)∧(E b p∨E b q))
theorem Dt{E:Pr→Pr→Prop}{p q a b:Pr}:qN E p q a b↔qN E q p a b:=by
 unfold qN;rw[or_comm (a:=E a p),or_comm (a:=E b p)]
structure o_(S:Addr→Prop)(H:Hp)(S':Addr→Prop)(H':Hp):Prop where
 grow:∀a,S' a→S a∨H a=none
 keep:∀a o,¬S a→H a=some o→H' a=some o
theorem o_.trans{S S' QS:Addr→Prop}{H H' QT:Hp}(a:o_ S H S' H')(b:o_ S' H' QS QT):o_ S H QS QT:=by
 refine⟨fun x hx=>?_,fun x o hs hx=>b.keep x o (fun z=>?_) (a.keep x o hs hx)⟩
 ·rcases b.grow x hx with h|h
  ·exact a.grow x h
  ·by_cases hs:S x
   ·exact .inl hs
   ·right
    cases e:H x with
    |none=>rfl
    |some o=>rw[a.keep x o hs e]at h;cases h
 ·rcases a.grow x z with h|h
  ·exact hs h
  ·rw[hx]at h;cases h
theorem o_.same{S:Addr→Prop}{H H':Hp}(s:av H H'):o_ S H S H':=⟨fun _ h=> .inl h,fun a o _ h=>s a o h⟩
theorem o_.put{S:Addr→Prop}{H:Hp}{a:Addr}{o:HO}(h:S a):o_ S H S (upd H a o):=⟨fun _ h=> .inl h,fun b u hb e=>by rw[ak (fun z:b=a=>hb (by rw[z];exact h))];exact e⟩
structure OY(K:W.Frag)(C:Addr):Prop where
 cl:wH K C
 pd:bW K C "leads"
 members:bW K C "members"
def rJ(dl dm:Addr):List (Str×V):=[("leads", .ref dl),("members", .ref dm)]
theorem jC(a b:Addr):(rJ a b).lookup ("leads":Str)=some (V.ref a):=by kernel_rfl
theorem i8(a b:Addr):(rJ a b).lookup ("members":Str)=some (V.ref b):=by kernel_rfl
theorem OZ(a b:Addr):br "members" (.ref b) (br "leads" (.ref a) [])=rJ a b:=by kernel_rfl
theorem O0(a b:Addr):(rJ a b).lookup ("has":Str)=none:=by kernel_rfl
theorem FU(a b:Addr):(rJ a b).lookup ("take_in":Str)=none:=by kernel_rfl
theorem B9(a b:Addr):(rJ a b).lookup ("unite":Str)=none:=by kernel_rfl
theorem L8(a b:Addr):(rJ a b).lookup ("told":Str)=none:=by kernel_rfl
def L9(H:Hp)(v:Option V):Option Pr→Prop
 |none=>v=none
 |some l=>∃t,v=some (.ref t)∧H t=some (.tup (iK l))
def Tq(H:Hp)(S:Addr→Prop)(v:Option V):Option (List Pr)→Prop
 |none=>v=none
 |some ms=>∃a us,v=some (.ref a)∧H a=some (.lst us)∧fN H us ms∧S a
theorem L9.cb{H H':Hp}{v:Option V}{o:Option Pr}(h:L9 H v o)(t:cJ H H'):L9 H' v o:=by
 cases o with
 |none=>exact h
 |some l=>obtain⟨a,h1,h2⟩:=h;exact⟨a,h1,t _ _ h2⟩
structure DX(H:Hp)(S:Addr→Prop)(dl dm:Addr)(kl km:List (List Key×V))(ld:Pr→Option Pr)(mm:Pr→Option (List Pr)):Prop where
 hl:H dl=some (.dT kl)
 hm:H dm=some (.dT km)
 sl:S dl
 sm:S dm
 ne:dl≠dm
 lv:∀p,L9 H (bA kl (ba p)) (ld p)
 mv:∀p,Tq H S (bA km (ba p)) (mm p)
 inj:∀p q a,bA km (ba p)=some (.ref a)→bA km (ba q)=some (.ref a)→p=q
 key:∀kv∈km,∃p,kv.1=ba p
 B_:(km.map (·.1)).Nodup
 ms:∀l ms,mm l=some ms→ms.Nodup∧∀p,p∈ms↔ld p=some l
 ml:∀p l,ld p=some l→∃ms,mm l=some ms
 self:∀l ms,mm l=some ms→ld l=some l
theorem DX.keep{H H':Hp}{S:Addr→Prop}{dl dm:Addr}{kl km:List (List Key×V)}{ld:Pr→Option Pr}{mm:Pr→Option (List Pr)}(d:DX H S dl dm kl km ld mm)(h:∀a o,S a→H a=some o→H' a=some o)(t:cJ H H'):DX H' S dl dm kl km ld mm:=by
 refine⟨h _ _ d.sl d.hl,h _ _ d.sm d.hm,d.sl,d.sm,d.ne,fun p=>(d.lv p).cb t,fun p=>?_,d.inj,d.key,d.B_,d.ms,d.ml,d.self⟩;have:=d.mv p;cases e:mm p with
 |none=>rw[e]at this;exact this
 |some ms=>
  rw[e]at this;obtain⟨a,us,h1,h2,h3,h4⟩:=this;exact⟨a,us,h1,h _ _ h4 h2,h3.cb t,h4⟩
theorem DX.uL{H:Hp}{S:Addr→Prop}{dl dm:Addr}{kl km:List (List Key×V)}{ld:Pr→Option Pr}{mm:Pr→Option (List Pr)}(d:DX H S dl dm kl km ld mm){ms:List Pr}(hn:ms.Nodup)(h:∀p∈ms,∃l,ld p=some l):ms.length≤kl.length:=by
 have:=len_sub (ms.map ba) (kl.map (·.1)) (List.Pairwise.map _ (fun a b FV z=>FV (dj z)) hn) fun k hk=>by
  obtain⟨p,hp,rfl⟩:=List.mem_map.mp hk;obtain⟨l,hl⟩:=h p hp;have:=d.lv p;rw[hl]at this;obtain⟨t,h1,_⟩:=this;exact BB h1
 simpa using this
theorem DX.take{H H':Hp}{S:Addr→Prop}{dl dm a t:Addr}{kl km:List (List Key×V)}{ld:Pr→Option Pr}{mm:Pr→Option (List Pr)}{p:Pr}(d:DX H S dl dm kl km ld mm)(hn:ld p=none)(ht:H t=some (.tup (iK p)))(ha:H a=none)
  (h1:H' dl=some (.dT (putK kl (ba p) (.ref t)))) (h2:H' dm=some (.dT (putK km (ba p) (.ref a)))) (h3:H' a=some (.lst [.ref t])) (hk:∀b o,b≠dl→b≠dm→H b=some o→H' b=some o):
  DX H' (fun x=>S x∨x=a) dl dm (putK kl (ba p) (.ref t)) (putK km (ba p) (.ref a)) (fun q=>if q=p then some p else ld q) (fun q=>if q=p then some [p]else mm q):=by
 have T:cJ H H':=fun b v hb=>hk b _ (fun z=>by rw[z,d.hl]at hb;cases hb) (fun z=>by rw[z,d.hm]at hb;cases hb) hb
 have Vs:mm p=none:=by
  cases e:mm p with
  |none=>rfl
  |some ms=>have:=d.self p ms e;rw[hn]at this;cases this
 have FW:bA km (ba p)=none:=by have:=d.mv p;rw[Vs]at this;exact this
 have O1:∀q b,bA km (ba q)=some (.ref b)→b≠a:=fun q b hq z=>by
  have:=d.mv q;cases e:mm q with
  |none=>rw[e]at this;have:bA km (ba q)=none:=this;rw[this]at hq;cases hq
  |some ms=>
   rw[e]at this;obtain⟨a',us,e1,e2,_⟩:=this;rw[hq]at e1;cases e1;rw[z,ha]at e2;cases e2
 refine⟨h1,h2, .inl d.sl, .inl d.sm,d.ne,fun q=>?_,fun q=>?_,fun q r b hq hr=>?_,fun kv QU=>?_,?_,fun l ms hl=>?_,fun q l hq=>?_,fun l ms hl=>?_⟩
 ·rw[jd];by_cases e:q=p
  ·rw[Hz (by rw[e]),Hz e];exact⟨t,rfl,T _ _ ht⟩
  ·rw[Dy (fun z=>e (dj z)),Dy e];exact(d.lv q).cb T
 ·show Tq _ _ _ (if q=p then some [p]else mm q);rw[jd];by_cases e:q=p
  ·rw[Hz (by rw[e]),Hz e];exact⟨a,_,rfl,h3,fN.one (T _ _ ht), .inr rfl⟩
  ·rw[Dy (fun z=>e (dj z)),Dy e];have:=d.mv q;cases e2:mm q with
   |none=>rw[e2]at this;exact this
   |some ms=>
    rw[e2]at this;obtain⟨b,us,z1,z2,z3,z4⟩:=this;exact⟨b,us,z1,hk b _ (fun z=>by rw[z,d.hl]at z2;cases z2) (fun z=>by rw[z,d.hm]at z2;cases z2) z2,z3.cb T, .inl z4⟩
 ·rw[jd]at hq hr;by_cases e:q=p
  ·by_cases e2:r=p
   ·rw[e,e2]
   ·rw[Hz (by rw[e])]at hq;rw[Dy (fun z=>e2 (dj z))]at hr;cases hq;exact absurd rfl (O1 r _ hr)
  ·rw[Dy (fun z=>e (dj z))]at hq;by_cases e2:r=p
   ·rw[Hz (by rw[e2])]at hr;cases hr;exact absurd rfl (O1 q _ hq)
   ·rw[Dy (fun z=>e2 (dj z))]at hr;exact d.inj q r b hq hr
 ·rw[tm _ FW]at QU;rcases List.mem_append.mp QU with z|z
  ·exact d.key kv z
  ·exact⟨p,by rw[List.mem_singleton.mp z]⟩
 ·rw[tm _ FW,List.map_append];refine List.nodup_append.mpr ⟨d.B_,MD,fun x hx y hy e=>?_⟩;have hy:y=ba p:=by simpa using hy
  rw[e,hy]at hx;exact yP FW hx
 ·have hl:(if l=p then some [p]else mm l)=some ms:=hl;by_cases e:l=p
  ·rw[Hz e]at hl;cases hl;refine⟨MD,fun q=>?_⟩;rw[List.mem_singleton];show q=p↔(if q=p then some p else ld q)=some l;by_cases e2:q=p
   ·rw[Hz e2,e];simp[e2]
   ·rw[Dy e2];refine⟨fun z=>X7 z e2,fun z=>?_⟩;obtain⟨ms,DY⟩:=d.ml q l z;rw[e,Vs]at DY;cases DY
  ·rw[Dy e]at hl;obtain⟨z1,z2⟩:=d.ms l ms hl;refine⟨z1,fun q=>?_⟩;rw[z2];show ld q=some l↔(if q=p then some p else ld q)=some l;by_cases e2:q=p
   ·rw[Hz e2,e2,hn];refine⟨fun z=>(by cases z),fun z=>X7 (YA z).symm e⟩
   ·rw[Dy e2]
 ·have hq:(if q=p then some p else ld q)=some l:=hq;show ∃ms,(if l=p then some [p]else mm l)=some ms;by_cases e:l=p
  ·exact⟨[p],Hz e⟩
  ·rw[Dy e];by_cases e2:q=p
   ·rw[Hz e2]at hq;exact X7 (YA hq).symm e
   ·rw[Dy e2]at hq;exact d.ml q l hq
 ·have hl:(if l=p then some [p]else mm l)=some ms:=hl;show(if l=p then some p else ld l)=some l;by_cases e:l=p
  ·rw[Hz e,e]
  ·rw[Dy e]at hl⊢;exact d.self l ms hl
theorem Ca{κ:Type}[DecidableEq κ]{k:κ}{v:V}:∀{kvs:List (κ×V)}{i:Nat},(kvs.map (·.1)).Nodup→kvs[i]?=some (k,v)→bA kvs k=some v
 |[],i,_,h=>by simp at h
 |p::r,0,_,h=>by
  have h:p=(k,v):=by simpa using h
  subst h;exact cD rfl
 |p::r,i+1,hn,h=>by
  have D_:=List.nodup_cons.mp (show(p.1::r.map (·.1)).Nodup from hn);have h:r[i]?=some (k,v):=by simpa using h
  rw[cw (fun e=>D_.1 (by rw[e];exact List.mem_map.mpr ⟨_,Y7 h,rfl⟩))];exact Ca D_.2 h
theorem zl{κ:Type}[DecidableEq κ]{k:κ}{v:V}:∀{kvs:List (κ×V)},bA kvs k=some v→∃i:Nat,kvs[i]?=some (k,v)
 |[],h=>by cases h
 |p::r,h=>by
  by_cases e:p.1=k
  ·rw[cD e]at h;exact⟨0,by simp;exact Prod.ext e (YA h)⟩
  ·rw[cw e]at h;obtain⟨i,hi⟩:=zl h;exact⟨i+1,by simpa using hi⟩
theorem mD{κ:Type}[DecidableEq κ](k j:κ):∀kvs:List (κ×V),bA (jc kvs k) j=if j=k then none else bA kvs j
 |[]=>by simp[jc,bA]
 |p::r=>by
  have ih:=mD k j r;unfold jc at ih⊢;rw[List.filter_cons];by_cases e:p.1=k
  ·rw[Dy (by simpa using e),ih];by_cases e2:j=k
   ·rw[Hz e2,Hz e2]
   ·rw[Dy e2,Dy e2,cw (fun z=>e2 (z.symm.trans e))]
  ·rw[Hz (by simpa using e)];by_cases e2:p.1=j
   ·rw[cD e2,Dy (fun z=>e (e2.trans z)),cD e2]
   ·rw[cw e2,ih,cw e2]
theorem DX.O2{H H':Hp}{S:Addr→Prop}{dl dm al tl:Addr}{kl uT km:List (List Key×V)}{ld:Pr→Option Pr}{mm:Pr→Option (List Pr)}{l g:Pr}{m1 m2:List Pr}{kO iC:List V}(d:DX H S dl dm kl km ld mm)(Cb:l≠g)(h1:mm l=some m1)(h2:mm g=some m2)(Cc:bA km (ba l)=some (.ref al))(P1:fN H kO m1)(P2:fN H iC m2)(R1:H al=some (.lst kO))(zm:H tl=some (.tup (iK l)))
  (Tr:∀r,bA uT (ba r)=if r∈m2 then some (.ref tl)else bA kl (ba r)) (e1:H' dl=some (.dT uT)) (e2:H' dm=some (.dT (jc km (ba g)))) (e3:H' al=some (.lst (kO++iC))) (hk:∀b o,b≠dl→b≠dm→b≠al→H b=some o→H' b=some o):
  DX H' S dl dm uT (jc km (ba g)) (fun r=>if r∈m2 then some l else ld r) (fun r=>if r=g then none else if r=l then some (m1++m2)else mm r):=by
 have T:cJ H H':=fun b v hb=>hk b _ (fun z=>by rw[z,d.hl]at hb;cases hb) (fun z=>by rw[z,d.hm]at hb;cases hb) (fun z=>by rw[z,R1]at hb;cases hb) hb
 obtain⟨n1,q1⟩:=d.ms l m1 h1;obtain⟨n2,q2⟩:=d.ms g m2 h2;refine⟨e1,e2,d.sl,d.sm,d.ne,fun r=>?_,fun r=>?_,fun p q a hp hq=>?_,fun kv QU=>d.key kv (List.mem_filter.mp QU).1,d.B_.sublist (List.filter_sublist.map _),fun x ms hx=>?_,fun p x hp=>?_,fun x ms hx=>?_⟩
 ·show L9 H' _ (if r∈m2 then some l else ld r);rw[Tr];by_cases e:r∈m2
  ·rw[Hz e,Hz e];exact⟨tl,rfl,T _ _ zm⟩
  ·rw[Dy e,Dy e];exact(d.lv r).cb T
 ·show Tq H' S _ (if r=g then none else if r=l then some (m1++m2)else mm r);rw[mD];by_cases e:r=g
  ·rw[Hz (by rw[e]),Hz e];rfl
  ·rw[Dy (fun z=>e (dj z)),Dy e];by_cases e4:r=l
   ·rw[Hz e4,e4,Cc];have:=d.mv l;rw[h1]at this;obtain⟨a,us,z1,_,_,z4⟩:=this;rw[Cc]at z1;cases z1;exact⟨al,_,rfl,e3,(P1.append P2).cb T,z4⟩
   ·rw[Dy e4];have:=d.mv r;cases e5:mm r with
    |none=>rw[e5]at this;exact this
    |some ms=>
     rw[e5]at this;obtain⟨a,us,z1,z2,z3,z4⟩:=this;exact⟨a,us,z1,hk a _ (fun z=>by rw[z,d.hl]at z2;cases z2) (fun z=>by rw[z,d.hm]at z2;cases z2) (fun z=>e4 (d.inj r l al (by rw[z1,z]) Cc)) z2,z3.cb T,z4⟩
 ·rw[mD]at hp hq;by_cases e:p=g
  ·rw[Hz (by rw[e])]at hp;cases hp
  ·by_cases e4:q=g
   ·rw[Hz (by rw[e4])]at hq;cases hq
   ·rw[Dy (fun z=>e (dj z))]at hp;rw[Dy (fun z=>e4 (dj z))]at hq;exact d.inj p q a hp hq
 ·have hx:(if x=g then none else if x=l then some (m1++m2)else mm x)=some ms:=hx;by_cases e:x=g
  ·rw[Hz e]at hx;cases hx
  ·rw[Dy e]at hx;by_cases e4:x=l
   ·rw[Hz e4]at hx;cases hx;refine⟨List.nodup_append.mpr ⟨n1,n2,fun a ha b hb z=>?_⟩,fun p=>?_⟩
    ·have ha:=(q1 a).mp ha;have hb:=(q2 b).mp hb;rw[z,hb]at ha;exact Cb (YA ha).symm
    ·rw[List.mem_append];show p∈m1∨p∈m2↔(if p∈m2 then some l else ld p)=some x;rw[e4];by_cases e5:p∈m2
     ·rw[Hz e5];simp[e5]
     ·rw[Dy e5,←q1];simp[e5]
   ·rw[Dy e4]at hx;obtain⟨z1,z2⟩:=d.ms x ms hx;refine⟨z1,fun p=>?_⟩;rw[z2];show ld p=some x↔(if p∈m2 then some l else ld p)=some x;by_cases e5:p∈m2
    ·rw[Hz e5,(q2 p).mp e5];exact⟨fun z=>X7 (YA z).symm e,fun z=>X7 (YA z).symm e4⟩
    ·rw[Dy e5]
 ·have hp:(if p∈m2 then some l else ld p)=some x:=hp;show ∃ms,(if x=g then none else if x=l then some (m1++m2)else mm x)=some ms;by_cases e5:p∈m2
  ·rw[Hz e5]at hp;cases hp;exact⟨m1++m2,by rw[Dy Cb,if_pos rfl]⟩
  ·rw[Dy e5]at hp;have hg:x≠g:=fun z=>e5 ((q2 p).mpr (by rw[hp,z]))
   by_cases e4:x=l
   ·exact⟨m1++m2,by rw[Dy hg,Hz e4]⟩
   ·obtain⟨ms,DY⟩:=d.ml p x hp;exact⟨ms,by rw[Dy hg,Dy e4];exact DY⟩
 ·have hx:(if x=g then none else if x=l then some (m1++m2)else mm x)=some ms:=hx;show(if x∈m2 then some l else ld x)=some x;by_cases e:x=g
  ·rw[Hz e]at hx;cases hx
  ·rw[Dy e]at hx;have Vt:ld x=some x:=by
    by_cases e4:x=l
    ·rw[e4];exact d.self l m1 h1
    ·rw[Dy e4]at hx;exact d.self x ms hx
   have:x∉m2:=fun z=>by
    have:=(q2 x).mp z;rw[Vt]at this;exact e (YA this)
   rw[Dy this,Vt]
theorem L_{ld:Pr→Option Pr}{l g p q:Pr}{m2:List Pr}(Cb:l≠g)(hp:ld p=some l)(hq:ld q=some g)(q2:∀r,r∈m2↔ld r=some g){E:Pr→Pr→Prop}(hE:∀a b,E a b↔∃x,ld a=some x∧ld b=some x)(a b:Pr):
  qN E p q a b↔∃x,(if a∈m2 then some l else ld a)=some x∧(if b∈m2 then some l else ld b)=some x:=by
 have A:∀c,(E c p∨E c q)↔(if c∈m2 then some l else ld c)=some l:=fun c=>by
  rw[hE,hE,hp,hq];by_cases e:c∈m2
  ·rw[Hz e,(q2 c).mp e];simp
  ·rw[Dy e];have:ld c≠some g:=fun z=>e ((q2 c).mpr z)
   constructor
   ·rintro(⟨x,h1,h2⟩|⟨x,h1,h2⟩)
    ·cases h2;exact h1
    ·cases h2;exact X7 h1 this
   ·exact fun z=> .inl ⟨l,z,rfl⟩
 unfold qN;rw[A,A,hE];constructor
 ·rintro(⟨x,h1,h2⟩|⟨h1,h2⟩)
  ·by_cases e:x=g
   ·subst e;exact⟨l,by rw[Hz ((q2 a).mpr h1)],by rw[Hz ((q2 b).mpr h2)]⟩
   ·exact⟨x,by rw[Dy (fun z=>e (by have:=(q2 a).mp z;rw[h1]at this;exact YA this))];exact h1,by rw[Dy (fun z=>e (by have:=(q2 b).mp z;rw[h2]at this;exact YA this))];exact h2⟩
  ·exact⟨l,h1,h2⟩
 ·rintro⟨x,h1,h2⟩;by_cases e:x=l
  ·subst e;exact .inr ⟨h1,h2⟩
  ·left
   refine⟨x,?_,?_⟩
   ·by_cases e2:a∈m2
    ·rw[Hz e2]at h1;exact X7 (YA h1).symm e
    ·rw[Dy e2]at h1;exact h1
   ·by_cases e2:b∈m2
    ·rw[Hz e2]at h2;exact X7 (YA h2).symm e
    ·rw[Dy e2]at h2;exact h2
def jY(H:Hp)(C g:Addr)(S:Addr→Prop)(E:Pr→Pr→Prop)(B:Nat):Prop:=
 ∃dg dl dm kl km ld mm,H g=some (.ins C dg (rJ dl dm))∧¬S g∧DX H S dl dm kl km ld mm∧(∀a b,E a b↔∃l,ld a=some l∧ld b=some l)∧kl.length≤B∧km.length≤B
theorem jY.keep{H H':Hp}{C g:Addr}{S:Addr→Prop}{E:Pr→Pr→Prop}{B:Nat}(G:jY H C g S E B)(h:∀a o,S a→H a=some o→H' a=some o)(t:cJ H H')(hg:∀o,H g=some o→H' g=some o):jY H' C g S E B:=by
 obtain⟨dg,dl,dm,kl,km,ld,mm,a1,a2,a3,a4⟩:=G;exact⟨dg,dl,dm,kl,km,ld,mm,hg _ a1,a2,a3.keep h t,a4⟩
theorem jY.same{H H':Hp}{C g:Addr}{S:Addr→Prop}{E:Pr→Pr→Prop}{B:Nat}(G:jY H C g S E B)(s:av H H'):jY H' C g S E B:=G.keep (fun a o _ h=>s a o h) (cJ.same s) (fun o h=>s _ _ h)
theorem jY.iff{H:Hp}{C g:Addr}{S:Addr→Prop}{E E':Pr→Pr→Prop}{B B':Nat}(G:jY H C g S E B)(h:∀a b,E' a b↔E a b)(hB:B≤B'):jY H C g S E' B':=by
 obtain⟨dg,dl,dm,kl,km,ld,mm,a1,a2,a3,a4,a5,a6⟩:=G;exact⟨dg,dl,dm,kl,km,ld,mm,a1,a2,a3,fun a b=>(h a b).trans (a4 a b),by lia,by lia⟩
structure Told(E:Pr→Pr→Prop)(gs:List (List Pr)):Prop where
 qI:∀ps∈gs,ps.Pairwise fun p q=>iB p q=true
 ne:∀ps∈gs,ps≠[]
 cls:∀ps∈gs,∀a∈ps,∀b,b∈ps↔E a b
 all:∀a,E a a→∃ps∈gs,a∈ps
 apart:gs.Pairwise fun ps qs=>∀a∈ps,a∉qs
inductive tW(C:Addr)(vs:List V)(H:Hp)(Q:VK)(u3:XK):Prop
 |mk (x dx:Addr) (_:vs=[.ref x]) (_:H x=some (.ins C dx [])) (_:∀H' S,SameBut x H H'→(∀a,S a→H a=none)→jY H' C x S (fun _ _=>False) 0→Q .cL H'):tW C vs H Q u3
inductive AO(C:Addr)(vs:List V)(H:Hp)(Q:VK)(u3:XK):Prop
 |mk (x t:Addr) (p:Pr) (S:Addr→Prop) (E:Pr→Pr→Prop) (B:Nat) (_:vs=[.ref x, .ref t]) (_:jY H C x S E B) (_:H t=some (.tup (iK p))) (_:∀b:Bool,(b=true↔E p p)→Q (.bl b) H):AO C vs H Q u3
inductive xw(C:Addr)(vs:List V)(H:Hp)(Q:VK)(u3:XK):Prop
 |mk (x t:Addr) (p:Pr) (S:Addr→Prop) (E:Pr→Pr→Prop) (B:Nat) (_:vs=[.ref x, .ref t]) (_:jY H C x S E B) (_:H t=some (.tup (iK p))) (_:B≤10000) (_:∀H' S',o_ S H S' H'→jY H' C x S' (JN E p) (B+1)→Q .cL H'):xw C vs H Q u3
inductive tX(C:Addr)(vs:List V)(H:Hp)(Q:VK)(u3:XK):Prop
 |mk (x t u:Addr) (p q:Pr) (S:Addr→Prop) (E:Pr→Pr→Prop) (B:Nat) (_:vs=[.ref x, .ref t, .ref u]) (_:jY H C x S E B) (_:H t=some (.tup (iK p))) (_:H u=some (.tup (iK q))) (_:E p p) (_:E q q) (_:B≤10000) (_:∀H',o_ S H S H'→jY H' C x S (qN E p q) B→Q .cL H'):tX C vs H Q u3
inductive xx(C:Addr)(vs:List V)(H:Hp)(Q:VK)(u3:XK):Prop
 |mk (x:Addr) (S:Addr→Prop) (E:Pr→Pr→Prop) (B:Nat) (_:vs=[.ref x]) (_:jY H C x S E B) (_:B<10000) (_:∀H' r us gs,o_ S H S H'→H r=none→H' r=some (.lst us)→f' H' us gs→(∀(k:Nat) a,us[k]?=some (.ref a)→H a=none)→Told E gs→Q (.ref r) H'):xx C vs H Q u3
theorem AQ(g:Pr→Option Int)(o i:Int){as:List Pr}(cB:as≠[])(q:Pr)(bs:List Pr):vl g o i (as++q::bs)=vl g o i as-gp o i (lstP as) q+vl g o i (q::bs):=by
 rw[xn,oZ g o i cB]
 lia
theorem Wy.app{g:Pr→Option Int}{as:List Pr}{q:Pr}{bs:List Pr}(a:Wy g as)(b:Wy g (q::bs))(s:yr (lstP as) q):Wy g (as++q::bs):=by
 refine⟨MD,fun x hx=>?_,Τ ⟨a.up,b.up,fun x hx y hy=>?_⟩⟩
 ·rcases List.mem_append.mp hx with h|h
  ·exact a.ok x h
  ·exact b.ok x h
 ·have h1:yr x q:=by
   rcases pw_lst a.up hx with e|e
   ·rw[e];exact s
   ·exact qF e s
  rcases List.mem_cons.mp hy with e|e
  ·rw[e];exact h1
  ·exact qF h1 ((List.pairwise_cons.mp b.up).1 y e)
theorem Wy.left{g:Pr→Option Int}{as bs:List Pr}(w:Wy g (as++bs))(h:as≠[]):Wy g as:=⟨h,fun x hx=>w.ok x (Ι hx),(List.pairwise_append.mp w.up).1⟩
theorem Wy.right{g:Pr→Option Int}{as bs:List Pr}(w:Wy g (as++bs))(h:bs≠[]):Wy g bs:=⟨h,fun x hx=>w.ok x (ZU hx),(List.pairwise_append.mp w.up).2.1⟩
section
variable(f:Nat→Nat→Option Int)(o p W:Int)
def BW(ps:List Pr):Prop:=Wy (lf f) ps∧vl (lf f) o p ps=W
def e8:Prop:=∀ps,Wy (lf f) ps→vl (lf f) o p ps≤W
inductive fG:Pr→Pr→Prop
 |way {a b:Pr} (ps:List Pr) (_:BW f o p W ps) (_:a∈ps) (_:b∈ps):fG a b
 |tr {a b c:Pr} (_:fG a b) (_:fG b c):fG a c
def uU(as:List Pr)(x y:Int):Int:=vl (lf f) o p as-(o*(x-1-(lstP as).1)+p*(y-1-(lstP as).2))
def O3(q:Pr)(bs:List Pr)(x y:Int):Int:=vl (lf f) o p (q::bs)-(o*(q.1-x)+p*(q.2-y))
def Over(x y:Int)(r:Pr):Prop:=∃as q bs,Wy (lf f) as∧Wy (lf f) (q::bs)∧(lstP as).1<x∧(lstP as).2<y∧x≤q.1∧y≤q.2∧vl (lf f) o p (as++q::bs)=W∧r∈q::bs
end
section
variable{f:Nat→Nat→Option Int}{o p W:Int}
theorem fG.symm{a b:Pr}(h:fG f o p W a b):fG f o p W b a:=by
 induction h with
 |way ps h1 h2 h3=>exact .way ps h1 h3 h2
 |tr _ _ i1 i2=>exact .tr i2 i1
theorem fG.left{a b:Pr}(h:fG f o p W a b):fG f o p W a a:= .tr h h.symm
theorem fG.on{a b:Pr}(h:fG f o p W a b):∃ps,BW f o p W ps∧a∈ps:=by
 induction h with
 |way ps h1 h2 h3=>exact⟨ps,h1,h2⟩
 |tr _ _ i1 _=>exact i1
theorem nP{as:List Pr}{q:Pr}{bs:List Pr}(cB:as≠[])(x y:Int):vl (lf f) o p (as++q::bs)=uU f o p as x y+O3 f o p q bs x y:=by
 rw[AQ _ _ _ cB];unfold uU O3 gp;have e1:q.1-(lstP as).1-1=(x-1-(lstP as).1)+(q.1-x):=by lia
 have e2:q.2-(lstP as).2-1=(y-1-(lstP as).2)+(q.2-y):=by lia
 rw[e1,e2,Int.mul_add,Int.mul_add]
 lia
theorem mE(T:e8 f o p W){as yu:List Pr}{q:Pr}{bs:List Pr}{x y:Int}(a:Wy (lf f) as)(b:Wy (lf f) (q::bs))(h3:x≤q.1)(h4:y≤q.2)(hW:vl (lf f) o p (as++q::bs)=W)
  (a':Wy (lf f) yu) (l1:(lstP yu).1<x) (l2:(lstP yu).2<y) (hb:uU f o p as x y≤uU f o p yu x y):BW f o p W (yu++q::bs):=by
 have w:=a'.app b ⟨by lia,by lia⟩;refine⟨w,?_⟩;have:=T _ w;rw[nP a'.ne x y]at this⊢;rw[nP a.ne x y]at hW
 lia
theorem xy{as:List Pr}{i j:Nat}(a:Wy (lf f) as)(l1:(lstP as).1<(i:Int))(l2:(lstP as).2<(j:Int)):∃b,Bq f o p i j=some b∧uU f o p as i j≤b:=by
 have m:=fZ f o p i j;cases e:Bq f o p i j with
 |none=>rw[e]at m;exact X7 ⟨as,a,l1,l2,rfl⟩ (m _)
 |some b=>rw[e]at m;exact⟨b,rfl,m.2 _ ⟨as,a,l1,l2,rfl⟩⟩
theorem xA{i j:Nat}{b:Int}(e:Bq f o p i j=some b):∃as,Wy (lf f) as∧(lstP as).1<(i:Int)∧(lstP as).2<(j:Int)∧uU f o p as i j=b:=by
 have m:=fZ f o p i j;rw[e]at m;obtain⟨as,h1,h2,h3,h4⟩:=m.1;exact⟨as,h1,h2,h3,h4.symm⟩
theorem mF{i j:Nat}{b:Int}(e:dE f o p i j=some b):∃as,Wy (lf f) as∧lstP as=aQ (i,j)∧vl (lf f) o p as=b:=by
 have m:=tO f o p i j;rw[e]at m;obtain⟨as,h1,h2,h3⟩:=m.1;exact⟨as,h1,h2,h3.symm⟩
theorem xB{as:List Pr}{i j:Nat}(a:Wy (lf f) as)(l:lstP as=aQ (i,j)):∃b,dE f o p i j=some b∧vl (lf f) o p as≤b:=by
 have m:=tO f o p i j;cases e:dE f o p i j with
 |none=>rw[e]at m;exact X7 ⟨as,a,l,rfl⟩ (m _)
 |some b=>rw[e]at m;exact⟨b,rfl,m.2 _ ⟨as,a,l,rfl⟩⟩
theorem FX{i j:Nat}(e:dE f o p i j=some W):fG f o p W ZN (aQ (i,j)):=by
 obtain⟨as,h1,h2,h3⟩:=mF e;have:aQ (i,j)∈as:=by rw[←h2];exact cS h1.ne
 exact .way as ⟨h1,h3⟩ this this
theorem Du(T:e8 f o p W){i j:Nat}{r:Pr}(h:Over f o p W ((i+1:Nat):Int) ((j+1:Nat):Int) r)(e:dE f o p i j=Bq f o p (i+1) (j+1)):fG f o p W ZN r:=by
 obtain⟨as,q,bs,a,b,l1,l2,l3,l4,hW,hr⟩:=h;obtain⟨v,hv,hle⟩:=xy (o:=o) (p:=p) a l1 l2;rw[hv]at e;obtain⟨yu,a',k1,k2⟩:=mF e;have hb:uU f o p yu ((i+1:Nat):Int) ((j+1:Nat):Int)=v:=by
  unfold uU;rw[k1,k2];have e1:((i+1:Nat):Int)-1-(aQ (i,j)).1=0:=by show((i+1:Nat):Int)-1-(i:Int)=0;lia
  have e2:((j+1:Nat):Int)-1-(aQ (i,j)).2=0:=by show((j+1:Nat):Int)-1-(j:Int)=0;lia
  rw[e1,e2,Int.mul_zero,Int.mul_zero];lia
 have:=mE T a b l3 l4 hW a' (by rw[k1];simp[aQ];lia) (by rw[k1];simp[aQ];lia) (by rw[hb];exact hle);refine .way _ this (Ι ?_) (ZU hr);rw[←k1];exact cS a'.ne
theorem rK(T:e8 f o p W){i j x y:Nat}{r:Pr}{c:Int}(h:Over f o p W ((i+1:Nat):Int) ((j+1:Nat):Int) r)(hx:x≤i+1)(hy:y≤j+1)(hc:c=o*((i+1:Nat)-x:Int)+p*((j+1:Nat)-y:Int))(e:bB (Bq f o p x y) c=Bq f o p (i+1) (j+1)):Over f o p W (x:Int) (y:Int) r:=by
 obtain⟨as,q,bs,a,b,l1,l2,l3,l4,hW,hr⟩:=h;obtain⟨v,hv,hle⟩:=xy (o:=o) (p:=p) a l1 l2;rw[hv]at e;cases e2:Bq f o p x y with
 |none=>rw[e2]at e;cases e
 |some v2=>
  rw[e2]at e;have e:v2-c=v:=by simpa[bB]using e
  obtain⟨yu,a',k1,k2,k3⟩:=xA e2;have hb:uU f o p yu ((i+1:Nat):Int) ((j+1:Nat):Int)=v:=by
   unfold uU at k3⊢;have e1:((i+1:Nat):Int)-1-(lstP yu).1=((x:Int)-1-(lstP yu).1)+((i+1:Nat)-x:Int):=by lia
   have e2:((j+1:Nat):Int)-1-(lstP yu).2=((y:Int)-1-(lstP yu).2)+((j+1:Nat)-y:Int):=by lia
   rw[e1,e2,Int.mul_add,Int.mul_add]
   lia
  have:=mE T a b l3 l4 hW a' Aj (by lia) (by rw[hb];exact hle);exact⟨yu,q,bs,a',b,k1,k2,by lia,by lia,this.2,hr⟩
theorem Ik(T:e8 f o p W){i j:Nat}(h:fG f o p W ZN (aQ (i,j)))(g:gN (Bq f o p i j)=true):Over f o p W (i:Int) (j:Int) (aQ (i,j)):=by
 obtain⟨ws,⟨hw,hW⟩,hm⟩:=h.on;obtain⟨u,v,rfl⟩:=List.append_of_mem hm;cases e:Bq f o p i j with
 |none=>rw[e]at g;cases g
 |some b=>
  rw[e]at g;have g:0≤b:=by simpa[gN]using g
  obtain⟨as,a,k1,k2,k3⟩:=xA e;have hr:Wy (lf f) (aQ (i,j)::v):=hw.right K4;have ws:=a.app hr ⟨k1,k2⟩;have hle:=T _ ws;have cv:=nP (f:=f) (o:=o) (p:=p) (q:=aQ (i,j)) (bs:=v) a.ne (i:Int) (j:Int);have ha:O3 f o p ZN v (i:Int) (j:Int)=vl (lf f) o p (aQ (i,j)::v):=by
   unfold O3;have e1:(aQ (i,j)).1-(i:Int)=0:=by simp[aQ]
   have e2:(aQ (i,j)).2-(j:Int)=0:=by simp[aQ]
   rw[e1,e2,Int.mul_zero,Int.mul_zero];lia
  have aaT:W≤b+vl (lf f) o p (aQ (i,j)::v):=by
   by_cases hu:u=[]
   ·subst hu;simp only[List.nil_append]at hW
    lia
   ·have cu:=nP (f:=f) (o:=o) (p:=p) (q:=aQ (i,j)) (bs:=v) hu (i:Int) (j:Int);have QV:Wy (lf f) u:=hw.left hu;have hs:yr (lstP u) (aQ (i,j)):=(List.pairwise_append.mp hw.up).2.2 _ (cS hu) _ (MD);obtain⟨b2,xC,aag⟩:=xy (o:=o) (p:=p) QV (i:=i) (j:=j) hs.1 hs.2;rw[e]at xC;cases xC
    lia
  exact⟨as,aQ (i,j),v,a,hr,k1,k2,by simp[aQ],by simp[aQ],by lia,MD⟩
theorem over_over(T:e8 f o p W){x y:Int}{r r':Pr}(h:Over f o p W x y r)(h':Over f o p W x y r'):fG f o p W r r':=by
 obtain⟨as,q,bs,a,b,l1,l2,l3,l4,hW,hr⟩:=h;obtain⟨yu,q',X3,a',b',k1,k2,k3,k4,Vu,L'⟩:=h';have w1:BW f o p W (as++q::bs):=⟨a.app b ⟨by lia,by lia⟩,hW⟩
 have w2:BW f o p W (yu++q'::X3):=⟨a'.app b' ⟨by lia,by lia⟩,Vu⟩
 by_cases hb:uU f o p as x y≤uU f o p yu x y
 ·have:=mE T a b l3 l4 hW a' k1 k2 hb;exact .tr (.way (b:=lstP yu) _ this (ZU hr) (Ι (cS a'.ne))) (.way _ w2 (Ι (cS a'.ne)) (ZU L'))
 ·have:=mE T a' b' k3 k4 Vu a l1 l2 Aj;exact .tr (.way (b:=lstP as) _ w1 (ZU hr) (Ι (cS a.ne))) (.way _ this (Ι (cS a.ne)) (ZU L'))
theorem between(T:e8 f o p W){u v:List Pr}{q r:Nat×Nat}(w:BW f o p W (u++aQ q::aQ r::v)):
  (∀x y:Nat,q.1<x→q.2<y→x≤r.1→y≤r.2→Bq f o p x y=some (uU f o p (u++[aQ q]) x y))∧dE f o p q.1 q.2=some (vl (lf f) o p (u++[aQ q]))∧0≤uU f o p (u++[aQ q]) r.1 r.2:=by
 obtain⟨w,hW⟩:=w;have e:u++aQ q::aQ r::v=(u++[aQ q])++aQ r::v:=MD;rw[e]at w hW;have hl:Wy (lf f) (u++[aQ q]):=w.left K4;have hr:Wy (lf f) (aQ r::v):=w.right K4;have ls:lstP (u++[aQ q])=aQ q:=dM;have vG:yr (aQ q) (aQ r):=by
  have:=(List.pairwise_append.mp w.up).2.2 _ (cS hl.ne) (aQ r) (MD);rw[ls]at this;exact this
 refine⟨fun x y h1 h2 h3 h4=>?_,?_,?_⟩
 ·have c1:(lstP (u++[aQ q])).1<(x:Int):=by rw[ls];simp[aQ];lia
  have c2:(lstP (u++[aQ q])).2<(y:Int):=by rw[ls];simp[aQ];lia
  obtain⟨b,hb,hle⟩:=xy (o:=o) (p:=p) hl c1 c2;rw[hb]
  congr 1
  obtain⟨as,a,k1,k2,k3⟩:=xA hb;have wa:=a.app hr ⟨by simp[aQ];lia,by simp[aQ];lia⟩;have:=T _ wa;rw[nP a.ne (x:Int) (y:Int)]at this;rw[nP hl.ne (x:Int) (y:Int)]at hW
  lia
 ·obtain⟨b,hb,hle⟩:=xB (o:=o) (p:=p) hl (i:=q.1) (j:=q.2) ls;rw[hb]
  congr 1
  obtain⟨as,a,k1,k2⟩:=mF hb;have wa:=a.app hr (by rw[k1];exact vG);have:=T _ wa;rw[AQ _ _ _ a.ne,k1,show aQ (q.1,q.2)=aQ q from rfl]at this;rw[AQ _ _ _ hl.ne,ls]at hW
  lia
 ·have:=T _ hr;rw[nP hl.ne (r.1:Int) (r.2:Int)]at hW;unfold O3 at hW;have e1:(aQ r).1-(r.1:Int)=0:=by simp[aQ]
  have e2:(aQ r).2-(r.2:Int)=0:=by simp[aQ]
  rw[e1,e2,Int.mul_zero,Int.mul_zero]at hW
  lia
end
abbrev GS:=(Pr→Pr→Prop)×(Pr→Option Pr)
def zo(s:GS)(c r:Pr):GS:=
 match s.2 c with
 |some r0=>(qN s.1 r0 r,s.2)
 |none=>(s.1,fun x=>if x=c then some r else s.2 x)
section
variable(f:Nat→Nat→Option Int)(o p W:Int)
def JO(i j:Nat)(s:GS)(r:Pr):GS:=(if dE f o p i j=Bq f o p (i+1) (j+1)then qN (JN s.1 ZN) (aQ (i,j)) r else s.1,s.2)
def Ma(i j:Nat)(s:GS)(r:Pr):GS:=(bu f o p i j).foldl (fun s c=>zo s c r) (JO f o p i j s r)
def Il(i j:Nat)(s:GS):GS:=(if dE f o p i j=some W then JN s.1 ZN else s.1,s.2)
def DZ(i j:Nat)(s:GS):GS:=
 match s.2 (aQ (i+1,j+1))with
 |some r=>Ma f o p i j (Il f o p W i j s) r
 |none=>Il f o p W i j s
open Classical in
noncomputable def zS(i j:Nat)(s:GS):GS:=if (DZ f o p W i j s).1 ZN (aQ (i,j))∧gN (Bq f o p i j)=true then zo (DZ f o p W i j s) (aQ (i,j)) (aQ (i,j))else DZ f o p W i j s
structure iy(s:GS):Prop where
 sy:∀a b,s.1 a b→s.1 b a
 tr:∀a b c,s.1 a b→s.1 b c→s.1 a c
 hg:∀a b,s.1 a b→fG f o p W a b
 mr:∀c r,s.2 c=some r→s.1 r r∧∃i j:Nat,c=aQ (i,j)∧Over f o p W (i:Int) (j:Int) r
end
structure Gw(s s':GS)(N:Pr→Prop)(M:Pr→Prop):Prop where
 e:∀a b,s.1 a b→s'.1 a b
 n:∀a,s'.1 a a→s.1 a a∨N a
 m:∀c r,s.2 c=some r→s'.2 c=some r
 k:∀c r,s'.2 c=some r→s.2 c=some r∨M c
theorem Gw.refl{s:GS}{N M:Pr→Prop}:Gw s s N M:=⟨fun _ _ h=>h,fun _ h=> .inl h,fun _ _ h=>h,fun _ _ h=> .inl h⟩
theorem Gw.trans{s s' wJ:GS}{N M:Pr→Prop}(a:Gw s s' N M)(b:Gw s' wJ N M):Gw s wJ N M:=
 ⟨fun x y h=>b.e x y (a.e x y h),fun x h=>(b.n x h).elim (a.n x) .inr,fun c r h=>b.m c r (a.m c r h),fun c r h=>(b.k c r h).elim (a.k c r) .inr⟩
theorem Gw.wide{s s':GS}{N M N' M':Pr→Prop}(a:Gw s s' N M)(hN:∀x,N x→N' x)(hM:∀x,M x→M' x):Gw s s' N' M':=⟨a.e,fun x h=>(a.n x h).imp id (hN x),a.m,fun c r h=>(a.k c r h).imp id (hM c)⟩
section
variable{f:Nat→Nat→Option Int}{o p W:Int}{s:GS}
theorem iy.Vv(k:iy f o p W s){a b:Pr}(ha:s.1 a a)(hb:s.1 b b)(h:fG f o p W a b):iy f o p W (qN s.1 a b,s.2):=by
 have hc:∀c,s.1 c a∨s.1 c b→fG f o p W c a:=fun c h'=>h'.elim (k.hg c a) fun z=> .tr (k.hg c b z) h.symm
 refine⟨fun x y h=>?_,fun x y z h1 h2=>?_,fun x y h=>?_,fun c r h=>⟨.inl (k.mr c r h).1,(k.mr c r h).2⟩⟩
 ·exact h.imp (k.sy x y) fun h=>⟨h.2,h.1⟩
 ·rcases h1 with h1|⟨h1,Jy⟩
  ·rcases h2 with h2|⟨h2,Jz⟩
   ·exact .inl (k.tr _ _ _ h1 h2)
   ·exact .inr ⟨h2.imp (k.tr _ _ _ h1) (k.tr _ _ _ h1),Jz⟩
  ·rcases h2 with h2|⟨h2,Jz⟩
   ·exact .inr ⟨h1,Jy.imp (k.tr _ _ _ (k.sy _ _ h2)) (k.tr _ _ _ (k.sy _ _ h2))⟩
   ·exact .inr ⟨h1,Jz⟩
 ·rcases h with h|⟨h1,h2⟩
  ·exact k.hg x y h
  ·exact .tr (hc x h1) (hc y h2).symm
theorem iy.take(k:iy f o p W s){a:Pr}(h:fG f o p W a a):iy f o p W (JN s.1 a,s.2):=by
 refine⟨fun x y h=>?_,fun x y z h1 h2=>?_,fun x y h'=>?_,fun c r h=>⟨.inl (k.mr c r h).1,(k.mr c r h).2⟩⟩
 ·exact h.imp (k.sy x y) fun h=>⟨h.2,h.1⟩
 ·rcases h1 with h1|⟨h1,Jy⟩
  ·rcases h2 with h2|⟨h2,Jz⟩
   ·exact .inl (k.tr _ _ _ h1 h2)
   ·subst h2 Jz;exact .inl h1
  ·subst h1 Jy;exact h2
 ·rcases h' with h'|⟨h1,h2⟩
  ·exact k.hg x y h'
  ·subst h1 h2;exact h
theorem FY(sy:∀a b,s.1 a b→s.1 b a)(tr:∀a b c,s.1 a b→s.1 b c→s.1 a c){a b:Pr}:Gw s (qN s.1 a b,s.2) (fun _=>False) (fun _=>False):=by
 refine⟨fun _ _ h=> .inl h,fun x h=> .inl ?_,fun _ _ h=>h,fun _ _ h=> .inl h⟩;rcases h with h|⟨h,_⟩
 ·exact h
 ·exact h.elim (fun z=>tr _ _ _ z (sy _ _ z)) fun z=>tr _ _ _ z (sy _ _ z)
theorem iy.mark(T:e8 f o p W)(k:iy f o p W s){i j:Nat}{r:Pr}(hr:s.1 r r)(ov:Over f o p W (i:Int) (j:Int) r):iy f o p W (zo s ZN r):=by
 unfold zo;cases e:s.2 ZN with
 |some r0=>
  obtain⟨h1,i2,j2,h2,h3⟩:=k.mr _ _ e;have h2:(i:Int)=i2∧(j:Int)=j2:=by simpa[aQ]using h2
  rw[←h2.1,←h2.2]at h3;exact k.Vv h1 hr (over_over T h3 ov)
 |none=>
  refine⟨k.sy,k.tr,k.hg,fun c r' h=>?_⟩;have h:(if c=aQ (i,j)then some r else s.2 c)=some r':=h;by_cases e2:c=aQ (i,j)
  ·rw[Hz e2]at h;cases h;exact⟨hr,i,j,e2,ov⟩
  ·rw[Dy e2]at h;exact k.mr c r' h
theorem JP(k:iy f o p W s){c r:Pr}:Gw s (zo s c r) (fun _=>False) (·=c):=by
 unfold zo;cases e:s.2 c with
 |some r0=>exact(FY k.sy k.tr).wide (fun _ h=>h) fun _ h=>h.elim
 |none=>
  refine⟨fun _ _ h=>h,fun _ h=> .inl h,fun c' r' h=>?_,fun c' r' h=>?_⟩
  ·show(if c'=c then some r else s.2 c')=some r';rw[Dy (fun z=>by rw[z,e]at h;cases h)];exact h
  ·have h:(if c'=c then some r else s.2 c')=some r':=h;by_cases e2:c'=c
   ·exact .inr e2
   ·rw[Dy e2]at h;exact .inl h
theorem FZ(k:iy f o p W s){c r:Pr}(hr:s.1 r r):∃r',(zo s c r).2 c=some r'∧(zo s c r).1 r r':=by
 unfold zo;cases e:s.2 c with
 |some r0=>exact⟨r0,e, .inr ⟨.inr hr, .inl (k.mr _ _ e).1⟩⟩
 |none=>exact⟨r,MD,hr⟩
theorem tY(T:e8 f o p W){r:Pr}:∀(cs:List Pr)(s:GS),iy f o p W s→s.1 r r→(∀c∈cs,∃i j:Nat,c=aQ (i,j)∧Over f o p W (i:Int) (j:Int) r)→
  iy f o p W (cs.foldl (fun s c=>zo s c r) s)∧Gw s (cs.foldl (fun s c=>zo s c r) s) (fun _=>False) (·∈cs)∧∀c∈cs,∃r',(cs.foldl (fun s c=>zo s c r) s).2 c=some r'∧(cs.foldl (fun s c=>zo s c r) s).1 r r'
 |[],s,k,_,_=>⟨k, .refl,fun c h=>by cases h⟩
 |c::cs,s,k,hr,h=>by
  obtain⟨i,j,rfl,ov⟩:=h c (MD);have k1:=k.mark T hr ov;have g1:=JP k (c:=aQ (i,j)) (r:=r);obtain⟨r',m1,m2⟩:=FZ k (c:=aQ (i,j)) hr;obtain⟨a1,a2,a3⟩:=tY T cs _ k1 (g1.e _ _ hr) fun c hc=>h c (by simp[hc])
  refine⟨a1,(g1.wide (fun _ h=>h) fun x hx=>?_).trans (a2.wide (fun _ h=>h) fun x hx=>?_),fun c hc=>?_⟩
  ·show x∈_::_;rw[hx];simp
  ·exact ZR hx
  ·rcases List.mem_cons.mp hc with rfl|hc
   ·exact⟨r',a2.m _ _ m1,a2.e _ _ m2⟩
   ·exact a3 c hc
theorem rL(T:e8 f o p W){i j:Nat}{r:Pr}(h:Over f o p W ((i+1:Nat):Int) ((j+1:Nat):Int) r):∀c∈bu f o p i j,∃x y:Nat,c=aQ (x,y)∧Over f o p W (x:Int) (y:Int) r:=by
 intro c hc;unfold bu at hc;rcases List.mem_append.mp hc with hc|hc
 ·split at hc
  ·rename_i e
   have:c=aQ (i,j+1):=by simpa[aQ]using hc
   refine⟨i,j+1,this,rK T h Aj (by lia) ?_ e⟩;have e1:((i+1:Nat):Int)-(i:Int)=1:=by lia
   have e2:((j+1:Nat):Int)-((j+1:Nat):Int)=0:=by lia
   rw[e1,e2];lia
  ·cases hc
 ·split at hc
  ·rename_i e
   have:c=aQ (i+1,j):=by simpa[aQ]using hc
   refine⟨i+1,j,this,rK T h Aj (by lia) ?_ e⟩;have e1:((i+1:Nat):Int)-((i+1:Nat):Int)=0:=by lia
   have e2:((j+1:Nat):Int)-(j:Int)=1:=by lia
   rw[e1,e2];lia
  ·cases hc
theorem F1(T:e8 f o p W)(k:iy f o p W s){i j:Nat}{r:Pr}(hr:s.1 r r)(ov:Over f o p W ((i+1:Nat):Int) ((j+1:Nat):Int) r):
  iy f o p W (JO f o p i j s r)∧Gw s (JO f o p i j s r) (·=aQ (i,j)) (·∈bu f o p i j)∧(dE f o p i j=Bq f o p (i+1) (j+1)→(JO f o p i j s r).1 ZN r):=by
 unfold JO;by_cases e:dE f o p i j=Bq f o p (i+1) (j+1)
 ·rw[Hz e];have h:=Du T ov e;have k1:=k.take h.left;have k2:=k1.Vv (a:=aQ (i,j)) (b:=r) (.inr ⟨rfl,rfl⟩) (.inl hr) h;refine⟨k2,⟨fun a b h=> .inl (.inl h),fun a h=>?_,fun _ _ h=>h,fun _ _ h=> .inl h⟩,fun _=> .inr ⟨.inl (.inr ⟨rfl,rfl⟩), .inr (.inl hr)⟩⟩;rcases(FY (s:=(JN s.1 ZN,s.2)) k1.sy k1.tr).n a h with h|h
  ·exact h.imp id And.left
  ·exact h.elim
 ·rw[Dy e];exact⟨⟨k.sy,k.tr,k.hg,k.mr⟩, .refl,fun z=>X7 z e⟩
theorem O4(T:e8 f o p W)(k:iy f o p W s){i j:Nat}{r:Pr}(hr:s.1 r r)(ov:Over f o p W ((i+1:Nat):Int) ((j+1:Nat):Int) r):
  iy f o p W (Ma f o p i j s r)∧Gw s (Ma f o p i j s r) (·=aQ (i,j)) (·∈bu f o p i j)∧(dE f o p i j=Bq f o p (i+1) (j+1)→(Ma f o p i j s r).1 ZN r)∧∀c∈bu f o p i j,∃r',(Ma f o p i j s r).2 c=some r'∧(Ma f o p i j s r).1 r r':=by
 obtain⟨b1,b2,b3⟩:=F1 T k hr ov;obtain⟨a1,a2,a3⟩:=tY T (bu f o p i j) _ b1 (b2.e _ _ hr) (rL T ov);exact⟨a1,b2.trans (a2.wide (fun _ h=>h.elim) fun _ h=>h),fun e=>a2.e _ _ (b3 e),a3⟩
theorem F2(k:iy f o p W s)(i j:Nat):iy f o p W (Il f o p W i j s)∧Gw s (Il f o p W i j s) (·=aQ (i,j)) (fun _=>False)∧(dE f o p i j=some W→(Il f o p W i j s).1 ZN (aQ (i,j))):=by
 unfold Il;by_cases e:dE f o p i j=some W
 ·rw[Hz e];exact⟨k.take (FX e),⟨fun _ _ h=> .inl h,fun _ h=>h.imp id And.left,fun _ _ h=>h,fun _ _ h=> .inl h⟩,fun _=> .inr ⟨rfl,rfl⟩⟩
 ·rw[Dy e];exact⟨⟨k.sy,k.tr,k.hg,k.mr⟩, .refl,fun z=>X7 z e⟩
def Mb(f:Nat→Nat→Option Int)(o p:Int)(i j:Nat)(c:Pr):Prop:=c∈bu f o p i j∨c=aQ (i,j)
theorem F5(T:e8 f o p W)(k:iy f o p W s)(i j:Nat):iy f o p W (DZ f o p W i j s)∧Gw s (DZ f o p W i j s) (·=aQ (i,j)) (Mb f o p i j)∧(dE f o p i j=some W→(DZ f o p W i j s).1 ZN (aQ (i,j)))∧∀r,s.2 (aQ (i+1,j+1))=some r→
  (dE f o p i j=Bq f o p (i+1) (j+1)→(DZ f o p W i j s).1 ZN r)∧∀c∈bu f o p i j,∃r',(DZ f o p W i j s).2 c=some r'∧(DZ f o p W i j s).1 r r':=by
 obtain⟨k1,g1,e1⟩:=F2 k i j;unfold DZ;cases e:s.2 (aQ (i+1,j+1))with
 |none=>exact⟨k1,g1.wide (fun _ h=>h) fun _ h=>h.elim,e1,fun r h=>by cases h⟩
 |some r=>
  obtain⟨h1,i2,j2,h2,h3⟩:=k.mr _ _ e;have h2:((i+1:Nat):Int)=i2∧((j+1:Nat):Int)=j2:=by simpa[aQ]using h2
  rw[←h2.1,←h2.2]at h3;obtain⟨a1,a2,a3,a4⟩:=O4 T k1 (g1.e _ _ h1) h3;refine⟨a1,(g1.wide (fun _ h=>h) fun _ h=>h.elim).trans (a2.wide (fun _ h=>h) fun _ h=> .inl h),fun z=>a2.e _ _ (e1 z),fun r' h=>?_⟩;cases h;exact⟨a3,a4⟩
theorem O5(T:e8 f o p W)(k:iy f o p W s)(i j:Nat):iy f o p W (zS f o p W i j s)∧Gw s (zS f o p W i j s) (·=aQ (i,j)) (Mb f o p i j)∧(dE f o p i j=some W→(zS f o p W i j s).1 ZN (aQ (i,j)))∧(∀r,s.2 (aQ (i+1,j+1))=some r→
  (dE f o p i j=Bq f o p (i+1) (j+1)→(zS f o p W i j s).1 ZN r)∧∀c∈bu f o p i j,∃r',(zS f o p W i j s).2 c=some r'∧(zS f o p W i j s).1 r r')∧
  ((zS f o p W i j s).1 ZN (aQ (i,j))→gN (Bq f o p i j)=true→∃r,(zS f o p W i j s).2 (aQ (i,j))=some r∧(zS f o p W i j s).1 ZN r):=by
 obtain⟨k1,g1,e1,o1⟩:=F5 T k i j;unfold zS;split
 ·rename_i h
  have k2:=k1.mark T h.1 (Ik T (k1.hg _ _ h.1) h.2);have g2:=JP k1 (c:=aQ (i,j)) (r:=aQ (i,j));refine⟨k2,g1.trans (g2.wide (fun _ h=>h.elim) fun _ h=> .inr h),fun z=>g2.e _ _ (e1 z),fun r hr=>?_,fun _ _=>FZ k1 h.1⟩;obtain⟨a1,a2⟩:=o1 r hr;refine⟨fun z=>g2.e _ _ (a1 z),fun c hc=>?_⟩;obtain⟨r',b1,b2⟩:=a2 c hc;exact⟨r',g2.m _ _ b1,g2.e _ _ b2⟩
 ·rename_i h
  exact⟨k1,g1,e1,o1,fun h1 h2=>X7 ⟨h1,h2⟩ h⟩
end
structure Vd(f:Nat→Nat→Option Int)(o p W:Int)(V:Nat→Nat→Prop)(s:GS):Prop where
 ok:iy f o p W s
 X4:∀a,s.1 a a→∃i j:Nat,a=aQ (i,j)∧V i j
 en:∀i j,V i j→dE f o p i j=some W→s.1 ZN (aQ (i,j))
 on:∀i j,V i j→s.1 ZN (aQ (i,j))→gN (Bq f o p i j)=true→∃r,s.2 (aQ (i,j))=some r∧s.1 ZN r
 ov:∀i j r,V i j→s.2 (aQ (i+1,j+1))=some r→(dE f o p i j=Bq f o p (i+1) (j+1)→s.1 ZN r)∧∀c∈bu f o p i j,∃r',s.2 c=some r'∧s.1 r r'
theorem iS{a b c d:Nat}(h:aQ (a,b)=aQ (c,d)):a=c∧b=d:=by
 have h:(a:Int)=c∧(b:Int)=d:=by simpa[aQ]using h
 lia
theorem F8{f:Nat→Nat→Option Int}{o p:Int}{i j a b:Nat}(h:Mb f o p i j (aQ (a+1,b+1))):(a+1=i∧b+1=j)∨(a+1=i∧b=j)∨(a=i∧b+1=j):=by
 rcases h with h|h
 ·unfold bu at h;rcases List.mem_append.mp h with h|h
  ·split at h
   ·have:aQ (a+1,b+1)=aQ (i,j+1):=by simpa[aQ]using h
    have:=iS this
    lia
   ·cases h
  ·split at h
   ·have:aQ (a+1,b+1)=aQ (i+1,j):=by simpa[aQ]using h
    have:=iS this
    lia
   ·cases h
 ·have:=iS h
  lia
def Vb(n m i j:Nat)(a b:Nat):Prop:=a<n∧b<m∧(i<a∨(i=a∧j≤b))
theorem Vd.start(f:Nat→Nat→Option Int)(o p W:Int)(n m:Nat):Vd f o p W (Vb n m n 0) (fun _ _=>False,fun _=>none):=by
 have no:∀a b,¬Vb n m n 0 a b:=fun a b ⟨h1,_,h2⟩=>by lia
 exact⟨⟨fun _ _ h=>h.elim,fun _ _ _ h=>h.elim,fun _ _ h=>h.elim,fun _ _ h=>(by cases h)⟩,fun _ h=>h.elim,fun i j h=>X7 h (no i j),fun i j h=>X7 h (no i j),fun i j r h=>X7 h (no i j)⟩
theorem Vd.turn{f:Nat→Nat→Option Int}{o p W:Int}{n m i:Nat}{s:GS}(v:Vd f o p W (Vb n m (i+1) 0) s):Vd f o p W (Vb n m i m) s:=by
 have e:Vb n m (i+1) 0=Vb n m i m:=by
  funext a b
  simp only[Vb,eq_iff_iff]
  lia
 rw[←e];exact v
theorem Vd.next{f:Nat→Nat→Option Int}{o p W:Int}{n m i j:Nat}{s:GS}(T:e8 f o p W)(hi:i<n)(hj:j<m)(v:Vd f o p W (Vb n m i (j+1)) s):Vd f o p W (Vb n m i j) (zS f o p W i j s):=by
 obtain⟨k,g,e,ov,on⟩:=O5 T v.ok i j;have cut:∀a b,Vb n m i j a b→(a=i∧b=j)∨Vb n m i (j+1) a b:=fun a b h=>by
  unfold Vb at h⊢
  lia
 have old:∀a b r,Vb n m i j a b→(zS f o p W i j s).2 (aQ (a+1,b+1))=some r→s.2 (aQ (a+1,b+1))=some r:=fun a b r h hr=>by
  rcases g.k _ _ hr with z|z
  ·exact z
  ·have:=F8 z;unfold Vb at h
   lia
 refine⟨k,fun a ha=>?_,fun a b h he=>?_,fun a b h h1 h2=>?_,fun a b r h hr=>?_⟩
 ·rcases g.n a ha with z|z
  ·obtain⟨x,y,h1,h2⟩:=v.X4 a z;exact⟨x,y,h1,by unfold Vb at h2⊢;lia⟩
  ·exact⟨i,j,z,by unfold Vb;lia⟩
 ·rcases cut a b h with⟨rfl,rfl⟩|h'
  ·exact e he
  ·exact g.e _ _ (v.en a b h' he)
 ·rcases cut a b h with⟨rfl,rfl⟩|h'
  ·exact on h1 h2
  ·have hs:s.1 (aQ (a,b)) (aQ (a,b)):=by
    rcases g.n _ h1 with z|z
    ·exact z
    ·have:=iS z;unfold Vb at h'
     lia
   obtain⟨r,z1,z2⟩:=v.on a b h' hs h2;exact⟨r,g.m _ _ z1,g.e _ _ z2⟩
 ·have L':=old a b r h hr;rcases cut a b h with⟨rfl,rfl⟩|h'
  ·exact ov r L'
  ·obtain⟨z1,z2⟩:=v.ov a b r h' L';refine⟨fun z=>g.e _ _ (z1 z),fun c hc=>?_⟩;obtain⟨r',y1,y2⟩:=z2 c hc;exact⟨r',g.m _ _ y1,g.e _ _ y2⟩
theorem jZ{f:Nat→Nat→Option Int}{n m:Nat}(t:DS f n m){ps:List Pr}(w:Wy (lf f) ps){a:Pr}(h:a∈ps):∃i j:Nat,a=aQ (i,j)∧i<n∧j<m:=by
 have hs:=w.ok a h;obtain⟨i,j,rfl⟩:=BP hs;rw[qG]at hs;obtain⟨h1,h2⟩:=t i j hs;exact⟨i,j,rfl,h1,h2⟩
theorem Vd.step{f:Nat→Nat→Option Int}{o p W:Int}{n m:Nat}{s:GS}(T:e8 f o p W)(v:Vd f o p W (Vb n m 0 0) s){us vs:List Pr}{q r:Nat×Nat}(w:BW f o p W (us++aQ q::aQ r::vs))(hr:r.1<n)(zT:r.2<m)(hq:q.1<r.1)(F9:q.2<r.2)(hE:s.1 (aQ r) (aQ r)):s.1 (aQ q) (aQ r):=by
 obtain⟨b1,b2,b3⟩:=between T w;have ok:=v.ok;have V0:∀a b,a<n→b<m→Vb n m 0 0 a b:=fun a b h1 h2=>⟨h1,h2,by lia⟩
 have top:=b1 r.1 r.2 hq F9 ZD (Nat.le_refl _);obtain⟨r0,m0,e0⟩:=v.on r.1 r.2 (V0 _ _ hr zT) hE (by rw[top];simpa[gN]using b3);have X5:∀x y:Nat,uU f o p (us++[aQ q]) (x:Int) (y:Int)-o=uU f o p (us++[aQ q]) ((x+1:Nat):Int) (y:Int):=fun x y=>by
  unfold uU;have e1:((x+1:Nat):Int)-1-(lstP (us++[aQ q])).1=((x:Int)-1-(lstP (us++[aQ q])).1)+1:=by lia
  rw[e1,Int.mul_add];lia
 have X6:∀x y:Nat,uU f o p (us++[aQ q]) (x:Int) (y:Int)-p=uU f o p (us++[aQ q]) (x:Int) ((y+1:Nat):Int):=fun x y=>by
  unfold uU;have e1:((y+1:Nat):Int)-1-(lstP (us++[aQ q])).2=((y:Int)-1-(lstP (us++[aQ q])).2)+1:=by lia
  rw[e1,Int.mul_add];lia
 have go:∀d x y:Nat,(r.1-x)+(r.2-y)=d→q.1<x→q.2<y→x≤r.1→y≤r.2→∃r',s.2 (aQ (x,y))=some r'∧s.1 (aQ r) r':=by
  intro d
  induction d with
  |zero=>
   intro x y hd h1 h2 h3 h4;have:x=r.1:=by lia
   have:y=r.2:=by lia
   subst x y;exact⟨r0,m0,e0⟩
  |succ d ih=>
   intro x y hd h1 h2 h3 h4;by_cases hx:x<r.1
   ·obtain⟨r1,m1,e1⟩:=ih (x+1) y Aj (by lia) h2 Aj h4;obtain⟨y,rfl⟩:∃y',y=y'+1:=⟨y-1,by lia⟩
    obtain⟨_,z⟩:=v.ov x y r1 (V0 _ _ (by lia) (by lia)) m1;have hc:aQ (x,y+1)∈bu f o p x y:=by
     unfold bu;refine List.mem_append_left _ ?_;rw[if_pos]
     ·simp[aQ]
     ·rw[b1 x (y+1) h1 h2 h3 h4,b1 (x+1) (y+1) (by lia) h2 Aj h4];simp only[bB];rw[X5]
    obtain⟨r2,m2,e2⟩:=z _ hc;exact⟨r2,m2,ok.tr _ _ _ e1 e2⟩
   ·obtain⟨r1,m1,e1⟩:=ih x (y+1) (by lia) h1 Aj h3 Aj;obtain⟨x,rfl⟩:∃x',x=x'+1:=⟨x-1,by lia⟩
    obtain⟨_,z⟩:=v.ov x y r1 (V0 _ _ (by lia) (by lia)) m1;have hc:aQ (x+1,y)∈bu f o p x y:=by
     unfold bu;refine List.mem_append_right _ ?_;rw[if_pos]
     ·simp[aQ]
     ·rw[b1 (x+1) y h1 h2 h3 h4,b1 (x+1) (y+1) h1 Aj h3 Aj];simp only[bB];rw[X6]
    obtain⟨r2,m2,e2⟩:=z _ hc;exact⟨r2,m2,ok.tr _ _ _ e1 e2⟩
 obtain⟨r1,m1,e1⟩:=go _ (q.1+1) (q.2+1) rfl (by lia) (by lia) (by lia) (by lia);obtain⟨z,_⟩:=v.ov q.1 q.2 r1 (V0 _ _ (by lia) (by lia)) m1;have:=z (by
  rw[b2,b1 (q.1+1) (q.2+1) (by lia) (by lia) (by lia) (by lia)]
  congr 1
  unfold uU;rw[dM];have z1:((q.1+1:Nat):Int)-1-(aQ q).1=0:=by show((q.1+1:Nat):Int)-1-(q.1:Int)=0;lia
  have z2:((q.2+1:Nat):Int)-1-(aQ q).2=0:=by show((q.2+1:Nat):Int)-1-(q.2:Int)=0;lia
  rw[z1,z2,Int.mul_zero,Int.mul_zero];lia)
 exact ok.tr _ _ _ this (ok.sy _ _ e1)
theorem Vd.all{f:Nat→Nat→Option Int}{o p W:Int}{n m:Nat}{s:GS}(T:e8 f o p W)(t:DS f n m)(v:Vd f o p W (Vb n m 0 0) s){ws:List Pr}(w:BW f o p W ws):
  ∀(vs us:List Pr),ws=us++vs→vs≠[]→∀a∈vs,s.1 a (gL vs)
 |[],_,_,h=>absurd rfl h
 |[l],us,e,_=>fun a ha=>by
  have ha:a=l:=by simpa using ha
  subst ha;show s.1 a a;obtain⟨i,j,rfl,hi,hj⟩:=jZ t w.1 (a:=a) (by rw[e];simp);have hl:lstP ws=aQ (i,j):=by rw[e];exact dM
  obtain⟨b,hb,hle⟩:=xB (o:=o) (p:=p) w.1 hl;obtain⟨as,a1,a2,a3⟩:=mF hb;have:=T _ a1;have hW:=w.2;exact v.en i j ⟨hi,hj,by lia⟩ (by rw[hb];congr 1;lia)
 |q::r::vs,us,e,_=>fun a ha=>by
  have ih:=Vd.all T t v w (r::vs) (us++[q]) (by rw[e];simp) (MD);have M6:s.1 r r:=ih r K4;have ok:=v.ok;obtain⟨i,j,hq,hi,hj⟩:=jZ t w.1 (a:=q) (by rw[e];simp);obtain⟨x,y,hr,hx,hy⟩:=jZ t w.1 (a:=r) (by rw[e];simp);have vG:yr q r:=by
   have:=w.1.up;rw[e]at this;exact(List.pairwise_cons.mp (List.pairwise_append.mp this).2.1).1 r K4
  rw[hq,hr]at vG;have h1:(i:Int)<x:=vG.1;have h2:(j:Int)<y:=vG.2;rw[e,hq,hr]at w;have key:=v.step T w (q:=(i,j)) (r:=(x,y)) hx hy (by show i<x;lia) (by show j<y;lia) (by rw[←hr];exact M6);rw[←hq,←hr]at key;show s.1 a q;rcases List.mem_cons.mp ha with rfl|ha
  ·exact ok.tr _ _ _ key (ok.sy _ _ key)
  ·exact ok.tr _ _ _ (ih a ha) (ok.sy _ _ key)
theorem Vd.F_{f:Nat→Nat→Option Int}{o p W:Int}{n m:Nat}{s:GS}(T:e8 f o p W)(t:DS f n m)(v:Vd f o p W (Vb n m 0 0) s)(a b:Pr):s.1 a b↔fG f o p W a b:=by
 refine⟨v.ok.hg a b,fun h=>?_⟩
 induction h with
 |way ps w h1 h2=>
  have k:=Vd.all T t v w ps [] rfl w.1.ne;exact v.ok.tr _ _ _ (k _ h1) (v.ok.sy _ _ (k _ h2))
 |tr _ _ i1 i2=>exact v.ok.tr _ _ _ i1 i2
theorem Told.iff{E E':Pr→Pr→Prop}{gs:List (List Pr)}(t:Told E gs)(h:∀a b,E a b↔E' a b):Told E' gs:=
 ⟨t.qI,t.ne,fun ps hp a ha b=>(t.cls ps hp a ha b).trans (h a b),fun a ha=>t.all a ((h a a).mpr ha),t.apart⟩
def NT(H:Hp)(a:Addr):Prop:=∃o,H a=some o∧∀v,o≠ .tup v
theorem NT.same{H H':Hp}{a:Addr}(h:NT H a)(s:av H H'):NT H' a:=let ⟨o,h1,h2⟩:=h;⟨o,s _ _ h1,h2⟩
theorem o_.cb{S S':Addr→Prop}{H H':Hp}(u:o_ S H S' H')(h:∀a,S a→NT H a):cJ H H':=fun t v e=>u.keep t _ (fun z=>by
 obtain⟨o,h1,h2⟩:=h t z;rw[e]at h1;cases h1;exact h2 v rfl) e
theorem o_.out{S S':Addr→Prop}{H H':Hp}(u:o_ S H S' H'){a:Addr}{o:HO}(h:¬S a)(e:H a=some o):¬S' a:=fun z=>by
 rcases u.grow a z with z|z
 ·exact h z
 ·rw[e]at z;cases z
theorem jY.nt{H:Hp}{C g:Addr}{S:Addr→Prop}{E:Pr→Pr→Prop}{B:Nat}(G:jY H C g S E B):jY H C g (fun a=>S a∧NT H a) E B:=by
 obtain⟨dg,dl,dm,kl,km,ld,mm,a1,a2,D,a4⟩:=G;refine⟨dg,dl,dm,kl,km,ld,mm,a1,fun z=>a2 z.1,⟨D.hl,D.hm,⟨D.sl,_,D.hl,fun v=>(MD)⟩,⟨D.sm,_,D.hm,fun v=>(MD)⟩,D.ne,D.lv,fun p=>?_,D.inj,D.key,D.B_,D.ms,D.ml,D.self⟩,a4⟩;have:=D.mv p;cases e:mm p with
 |none=>rw[e]at this;exact this
 |some ms=>
  rw[e]at this;obtain⟨a,us,h1,h2,h3,h4⟩:=this;exact⟨a,us,h1,h2,h3,h4,_,h2,fun v=>(MD)⟩
structure JQ(K:W.Frag)(C:Addr):Prop where
 cl:wH K C
 tZ:bW K C "trails"
 worth:bW K C "worth"
 groups:bW K C "groups"
 marks:bW K C "marks"
def j1(tr:Addr)(W:Int)(g dk:Addr):List (Str×V):=[("trails", .ref tr),("worth", .int W),("groups", .ref g),("marks", .ref dk)]
theorem mG(a:Addr)(W:Int)(b c:Addr):(j1 a W b c).lookup ("trails":Str)=some (V.ref a):=by kernel_rfl
theorem F'(a:Addr)(W:Int)(b c:Addr):(j1 a W b c).lookup ("worth":Str)=some (V.int W):=by kernel_rfl
theorem i9(a:Addr)(W:Int)(b c:Addr):(j1 a W b c).lookup ("groups":Str)=some (V.ref b):=by kernel_rfl
theorem lT(a:Addr)(W:Int)(b c:Addr):(j1 a W b c).lookup ("marks":Str)=some (V.ref c):=by kernel_rfl
theorem Cd(a:Addr)(W:Int)(b c:Addr):(j1 a W b c).lookup ("mark":Str)=none:=by kernel_rfl
theorem aaC(a:Addr)(W:Int)(b c:Addr):(j1 a W b c).lookup ("go_over":Str)=none:=by kernel_rfl
theorem Ga(a:Addr)(W:Int)(b c:Addr):(j1 a W b c).lookup ("visit":Str)=none:=by kernel_rfl
theorem Mc(a:Addr)(W:Int)(b c:Addr):br "marks" (.ref c) (br "groups" (.ref b) (br "worth" (.int W) (br "trails" (.ref a) [])))=j1 a W b c:=by kernel_rfl
structure Md(H:Hp)(C CG x tr:Addr)(W:Int)(S:Addr→Prop)(s:GS)(B M:Nat)(dx g dk:Addr)(km:List (List Key×V))(S1:Addr→Prop):Prop where
 ob:H x=some (.ins C dx (j1 tr W g dk))
 gr:jY H CG g S1 s.1 B
 hk:H dk=some (.dT km)
 mv:∀c,L9 H (bA km (ba c)) (s.2 c)
 len:km.length≤M
 sS:∀a,S a↔S1 a∨a=dk
 B_:¬S1 dk
 nx:¬S x
 ng:¬S g
 nt:∀a,S a→NT H a
def iz(H:Hp)(C CG x tr:Addr)(W:Int)(S:Addr→Prop)(s:GS)(B M:Nat):Prop:=∃dx g dk km S1,Md H C CG x tr W S s B M dx g dk km S1
theorem iz.nt{H:Hp}{C CG x tr:Addr}{W:Int}{S:Addr→Prop}{s:GS}{B M:Nat}(G:iz H C CG x tr W S s B M):∀a,S a→NT H a:=let ⟨_,_,_,_,_,D⟩:=G;D.nt
theorem iz.same{H H':Hp}{C CG x tr:Addr}{W:Int}{S:Addr→Prop}{s:GS}{B M:Nat}(G:iz H C CG x tr W S s B M)(t:av H H'):iz H' C CG x tr W S s B M:=by
 obtain⟨dx,g,dk,km,S1,D⟩:=G;exact⟨dx,g,dk,km,S1,t _ _ D.ob,D.gr.same t,t _ _ D.hk,fun c=>(D.mv c).cb (cJ.same t),D.len,D.sS,D.B_,D.nx,D.ng,fun a h=>(D.nt a h).same t⟩
theorem iz.out{H:Hp}{C CG x tr:Addr}{W:Int}{S:Addr→Prop}{s:GS}{B M:Nat}(G:iz H C CG x tr W S s B M){a:Addr}(h:H a=none):¬S a:=fun z=>by
 obtain⟨o,e,_⟩:=G.nt a z;rw[h]at e;cases e
theorem iz.cast{H:Hp}{C CG x tr:Addr}{W:Int}{S:Addr→Prop}{s s':GS}{B M B' M':Nat}(G:iz H C CG x tr W S s B M)(h:s=s')(hB:B≤B')(hM:M≤M'):iz H C CG x tr W S s' B' M':=by
 subst h;obtain⟨dx,g,dk,km,S1,D⟩:=G;exact⟨dx,g,dk,km,S1,D.ob,D.gr.iff (fun _ _=>Iff.rfl) hB,D.hk,D.mv,by have:=D.len;lia,D.sS,D.B_,D.nx,D.ng,D.nt⟩
section
variable{H H':Hp}{C CG x tr dx g dk:Addr}{W:Int}{S S1 Me:Addr→Prop}{s:GS}{B M B':Nat}{km:List (List Key×V)}
theorem Md.QW(D:Md H C CG x tr W S s B M dx g dk km S1){E':Pr→Pr→Prop}(u:o_ S1 H Me H')(G:jY H' CG g Me E' B'):∃S' S2,o_ S H S' H'∧Md H' C CG x tr W S' (E',s.2) B' M dx g dk km S2:=by
 have s1:∀a,S1 a→S a:=fun a h=>(D.sS a).mpr (.inl h)
 have aaL:∀a,S1 a→NT H a:=fun a h=>D.nt a (s1 a h)
 have T:=u.cb aaL;have Av:=u.keep dk _ D.B_ D.hk;obtain⟨dg,dl,dm,kl,Io,ld,mm,og,_⟩:=id D.gr;have gone:∀{a o},¬S a→H a=some o→a≠dk→¬((Me a∧NT H' a)∨a=dk):=fun{a o} h1 h2 h3 z=>by
  rcases z with z|z
  ·exact u.out (fun y=>h1 (s1 _ y)) h2 z.1
  ·exact h3 z
 have AR:S dk:=(D.sS dk).mpr (.inr rfl);refine⟨fun a=>(Me a∧NT H' a)∨a=dk,fun a=>Me a∧NT H' a,⟨fun a h=>?_,fun a o h e=>u.keep a o (fun z=>h (s1 a z)) e⟩,⟨u.keep x _ (fun z=>D.nx (s1 _ z)) D.ob,G.nt,Av,fun c=>(D.mv c).cb T,D.len,fun a=>Iff.rfl,fun z=>u.out D.B_ D.hk z.1,gone D.nx D.ob (fun z=>D.nx (by rw[z];exact AR)),gone D.ng og (fun z=>D.ng (by rw[z];exact AR)),fun a h=>?_⟩⟩
 ·rcases h with h|h
  ·exact(u.grow a h.1).imp (s1 a) id
  ·exact .inl (by rw[h];exact AR)
 ·rcases h with h|h
  ·exact h.2
  ·exact⟨_,by rw[h];exact Av,fun v=>(MD)⟩
theorem Md.put(D:Md H C CG x tr W S s B M dx g dk km S1){c r:Pr}{t:Addr}(ht:H t=some (.tup (iK r))):o_ S H S (upd H dk (.dT (putK km (ba c) (.ref t))))∧Md (upd H dk (.dT (putK km (ba c) (.ref t)))) C CG x tr W S (s.1,fun y=>if y=c then some r else s.2 y) B (M+1) dx g dk (putK km (ba c) (.ref t)) S1:=by
 have AR:S dk:=(D.sS dk).mpr (.inr rfl);have nx:x≠dk:=fun z=>D.nx (by rw[z];exact AR)
 have ng:g≠dk:=fun z=>D.ng (by rw[z];exact AR)
 have T:cJ H (upd H dk (.dT (putK km (ba c) (.ref t)))):=fun b v hb=>by
  rw[ak (fun z=>by rw[z,D.hk]at hb;cases hb)];exact hb
 refine⟨.put AR,⟨by rw[ak nx];exact D.ob,D.gr.keep (fun a o h e=>by rw[ak (fun z=>D.B_ (by rw[←z];exact h))];exact e) T (fun o e=>by rw[ak ng];exact e),ae,fun y=>?_,ZX (eZ _ _ _) (by have:=D.len;lia),D.sS,D.B_,D.nx,D.ng,fun a h=>?_⟩⟩
 ·show L9 _ _ (if y=c then some r else s.2 y);rw[jd];by_cases e:y=c
  ·rw[Hz (by rw[e]),Hz e];exact⟨t,rfl,T _ _ ht⟩
  ·rw[Dy (fun z=>e (dj z)),Dy e];exact(D.mv y).cb T
 ·by_cases e:a=dk
  ·exact⟨_,by rw[e];exact ae,fun v=>(MD)⟩
  ·obtain⟨o,h1,h2⟩:=D.nt a h;exact⟨o,by rw[ak e];exact h1,h2⟩
end
structure Base(H0 H:Hp)(S:Addr→Prop):Prop where
 same:av H0 H
 free:∀a,S a→H0 a=none
theorem Base.ups{H0 H H':Hp}{S S':Addr→Prop}(b:Base H0 H S)(u:o_ S H S' H'):Base H0 H' S':=by
 refine⟨fun a o h=>u.keep a o (fun z=>by rw[b.free a z]at h;cases h) (b.same a o h),fun a h=>?_⟩;rcases u.grow a h with z|z
 ·exact b.free a z
 ·exact b.same.free z
theorem Base.more{H0 H H':Hp}{S:Addr→Prop}(b:Base H0 H S)(s:av H H'):Base H0 H' S:=⟨b.same.trans s,b.free⟩
inductive qO(C CG:Addr)(vs:List V)(H:Hp)(Q:VK)(u3:XK):Prop
 |mk (x dx tr:Addr) (W:Int) (_:vs=[.ref x, .ref tr, .int W]) (_:H x=some (.ins C dx [])) (_:∀H' S,SameBut x H H'→(∀a,S a→H a=none)→iz H' C CG x tr W S (fun _ _=>False,fun _=>none) 0 0→Q .cL H'):qO C CG vs H Q u3
inductive t5(C CG:Addr)(vs:List V)(H:Hp)(Q:VK)(u3:XK):Prop
 |mk (x tc tp tr:Addr) (W:Int) (c r:Pr) (S:Addr→Prop) (s:GS) (B M:Nat) (_:vs=[.ref x, .ref tc, .ref tp]) (_:iz H C CG x tr W S s B M) (_:H tc=some (.tup (iK c))) (_:H tp=some (.tup (iK r))) (_:s.1 r r) (_:∀r0,s.2 c=some r0→s.1 r0 r0) (_:B≤10000) (_:M≤10000) (_:∀H' S',o_ S H S' H'→iz H' C CG x tr W S' (zo s c r) B (M+1)→Q .cL H'):t5 C CG vs H Q u3
inductive t6(C CG CT:Addr)(vs:List V)(H:Hp)(Q:VK)(u3:XK):Prop
 |mk (x tc tp tr dt e b:Addr) (es bs:List Addr) (f:Nat→Nat→Option Int) (o p:Int) (n m:Nat) (W:Int) (i j:Nat) (r:Pr) (S:Addr→Prop) (s:GS) (B M:Nat) (H0:Hp) (_:vs=[.ref x, .ref tc, .ref tp]) (_:iz H C CG x tr W S s B M) (_:qK H0 CT tr dt e b es bs f o p n m) (_:Base H0 H S) (_:H tc=some (.tup (iK (aQ (i+1,j+1))))) (_:H tp=some (.tup (iK ZN))) (_:i<n) (_:j<m) (_:e8 f o p W) (_:iy f o p W s) (_:s.2 (aQ (i+1,j+1))=some r) (_:B<10000) (_:M+2≤10000)
  (_:∀H' S',o_ S H S' H'→iz H' C CG x tr W S' (Ma f o p i j s r) (B+1) (M+2)→Q .cL H'):t6 C CG CT vs H Q u3
inductive qQ(C CG CT:Addr)(vs:List V)(H:Hp)(Q:VK)(u3:XK):Prop
 |mk (x tr dt e b:Addr) (es bs:List Addr) (f:Nat→Nat→Option Int) (o p:Int) (n m:Nat) (W:Int) (i j:Nat) (S:Addr→Prop) (s:GS) (B M:Nat) (H0:Hp) (_:vs=[.ref x, .int i, .int j]) (_:iz H C CG x tr W S s B M) (_:qK H0 CT tr dt e b es bs f o p n m) (_:Base H0 H S) (_:i<n) (_:j<m) (_:n≤1000) (_:m≤1000) (_:e8 f o p W) (_:iy f o p W s) (_:B+2≤10000) (_:M+3≤10000)
  (_:∀H' S',o_ S H S' H'→iz H' C CG x tr W S' (zS f o p W i j s) (B+2) (M+3)→Q .cL H'):qQ C CG CT vs H Q u3
inductive AS(CT:Addr)(vs:List V)(H:Hp)(Q:VK)(u3:XK):Prop
 |mk (tr dt e b:Addr) (es bs:List Addr) (f:Nat→Nat→Option Int) (o p:Int) (n m:Nat) (W:Int) (_:vs=[.ref tr, .int W]) (_:qK H CT tr dt e b es bs f o p n m) (_:DS f n m) (_:n*m≤3000) (_:n≤1000) (_:m≤1000) (_:e8 f o p W)
  (_:∀H' r us gs,av H H'→H r=none→H' r=some (.lst us)→f' H' us gs→(∀(k:Nat) a,us[k]?=some (.ref a)→H a=none)→Told (fG f o p W) gs→Q (.ref r) H'):AS CT vs H Q u3
structure Fd where
 worth:Int
 way:List Pr
 row:List Int
 pairs:List Pr
def zU(g:Pr→Option Int)(o p:Int)(ps:List Pr):List Int:=(Z6 ps.length).map fun k=>vl g o p (ps.take (k+1))
theorem Gb(g:Pr→Option Int)(o p:Int)(ps:List Pr)(q:Pr):zU g o p (ps++[q])=zU g o p ps++[vl g o p (ps++[q])]:=by
 unfold zU;rw[List.length_append,List.length_singleton,List.range_succ,List.map_append]
 congr 1
 ·apply List.map_congr_left;intro k hk;have:k<ps.length:=by simpa using hk
  rw[List.take_append_of_le_length Aj]
 ·simp;rw[List.take_of_length_le K4]
structure O6(f:Nat→Nat→Option Int)(o p W:Int)(d:Fd):Prop where
 worth:d.worth=W
 way:BW f o p W d.way
 row:d.row=zU (lf f) o p d.way
 sub:∀q∈d.way,q∈d.pairs
def kh(f:Nat→Nat→Option Int)(ps:List Pr):Nat→Nat→Option Int:=fun i j=>if aQ (i,j)∈ps then none else f i j
def Stop(f:Nat→Nat→Option Int)(o p least:Int):Prop:=∀ps,Wy (lf f) ps→vl (lf f) o p ps<least
structure jD(f:Nat→Nat→Option Int)(o p least W:Int)(gs:List (List Pr))(ds:List Fd):Prop where
 top:e8 f o p W
 ex:∃ps,BW f o p W ps
 least:least≤W
 told:Told (fG f o p W) gs
 Gd:ds.map Fd.pairs=gs
 ok:∀d∈ds,O6 f o p W d
inductive Reach(f0:Nat→Nat→Option Int)(o p least:Int):List Fd→(Nat→Nat→Option Int)→Prop
 |start:Reach f0 o p least [] f0
 |round {done:List Fd} {f:Nat→Nat→Option Int} {W:Int} {gs:List (List Pr)} {ds:List Fd} (_:Reach f0 o p least done f) (_:jD f o p least W gs ds):Reach f0 o p least (done++ds) (kh f gs.flatten)
theorem Ge{f:Nat→Nat→Option Int}{n m:Nat}(t:DS f n m)(ps:List Pr):DS (kh f ps) n m:=fun i j h=>t i j (by
 unfold kh at h;split at h
 ·cases h
 ·exact h)
theorem Reach.Ts{f0 f:Nat→Nat→Option Int}{o p least:Int}{ds:List Fd}{n m:Nat}(t:DS f0 n m)(r:Reach f0 o p least ds f):DS f n m:=by
 induction r with
 |start=>exact t
 |round _ _ ih=>exact Ge ih _
theorem mH(f:Nat→Nat→Option Int)(ps:List Pr)(q:Pr):lf (kh f ps) q=if q∈ps then none else lf f q:=by
 unfold lf kh;by_cases h:0≤q.1∧0≤q.2
 ·rw[Hz h,Hz h];have:aQ (q.1.toNat,q.2.toNat)=q:=Prod.ext (by simp[aQ];lia) (by simp[aQ];lia);rw[this]
 ·rw[Dy h,Dy h];split<;>rfl
theorem fG.open{f:Nat→Nat→Option Int}{o p W:Int}{a b:Pr}(h:fG f o p W a b):(lf f a).isSome=true:=by
 obtain⟨ps,⟨w,_⟩,hm⟩:=h.on;exact w.ok a hm
theorem Told.mem{E:Pr→Pr→Prop}{gs:List (List Pr)}(t:Told E gs){ps:List Pr}(h:ps∈gs){a:Pr}(ha:a∈ps):E a a:=(t.cls ps h a ha a).mp ha
structure Apart(f0 f:Nat→Nat→Option Int)(ds:List Fd):Prop where
 sub:∀q,(lf f q).isSome=true→lf f q=lf f0 q
 shut:∀d∈ds,∀q∈d.pairs,lf f q=none∧(lf f0 q).isSome=true
 ap:ds.Pairwise fun a b=>∀q∈a.pairs,q∉b.pairs
 qI:∀d∈ds,d.pairs.Pairwise (fun p q=>iB p q=true)∧d.pairs≠[]
 gone:∀q,lf f q=none→(lf f0 q).isSome=true→∃d∈ds,q∈d.pairs
theorem Reach.apart{f0 f:Nat→Nat→Option Int}{o p least:Int}{ds:List Fd}(r:Reach f0 o p least ds f):Apart f0 f ds:=by
 induction r with
 |start=>exact⟨fun _ _=>rfl,fun d h=>(by cases h), .nil,fun d h=>(by cases h),fun q h1 h2=>by rw[h1]at h2;cases h2⟩
 |@round done f W gs ds r R ih=>
  have mem:∀d∈ds,d.pairs∈gs:=fun d h=>by rw[←R.Gd];exact List.mem_map.mpr ⟨d,h,rfl⟩
  have op:∀d∈ds,∀q∈d.pairs,(lf f q).isSome=true:=fun d h q hq=>(R.told.mem (mem d h) hq).open
  refine⟨fun q h=>?_,fun d h q hq=>?_,?_,fun d h=>?_,fun q h1 h2=>?_⟩
  ·rw[mH]at h⊢;split at h
   ·cases h
   ·rename_i hn
    rw[Dy hn];exact ih.sub q h
  ·rw[mH];rcases List.mem_append.mp h with h|h
   ·obtain⟨h1,h2⟩:=ih.shut d h q hq;exact⟨by split;rfl;exact h1,h2⟩
   ·rw[Hz (List.mem_flatten.mpr ⟨_,mem d h,hq⟩)];have:=op d h q hq;exact⟨rfl,by rw[←ih.sub q this];exact this⟩
  ·refine List.pairwise_append.mpr ⟨ih.ap,?_,fun a ha b hb q hq F9=>?_⟩
   ·have:=R.told.apart;rw[←R.Gd,List.pairwise_map]at this;exact this
   ·have h1:=(ih.shut a ha q hq).1;have h2:=op b hb q F9;rw[h1]at h2;cases h2
  ·rcases List.mem_append.mp h with h|h
   ·exact ih.qI d h
   ·exact⟨R.told.qI _ (mem d h),R.told.ne _ (mem d h)⟩
  ·rw[mH]at h1;by_cases hm:q∈gs.flatten
   ·obtain⟨ps,Dk,hq⟩:=List.mem_flatten.mp hm;rw[←R.Gd]at Dk;obtain⟨d,hd,rfl⟩:=List.mem_map.mp Dk;exact⟨d,ZU hd,hq⟩
   ·rw[Dy hm]at h1;obtain⟨d,hd,hq⟩:=ih.gone q h1 h2;exact⟨d,Ι hd,hq⟩
theorem t8(f:Nat→Nat→Option Int)(o p:Int):∀i j v,Bq f o p i j=some v→∃e,dE f o p (cN f o p i j).1 (cN f o p i j).2=some e∧v=e-(o*((i:Int)-1-(cN f o p i j).1)+p*((j:Int)-1-(cN f o p i j).2))
 |0,j,v,h=>by rw[iQ]at h;cases h
 |i+1,0,v,h=>by unfold Bq at h;cases h
 |i+1,j+1,v,hB=>by
  unfold cN;by_cases h1:dE f o p i j=Bq f o p (i+1) (j+1)
  ·rw[Hz h1];refine⟨v,by rw[h1,hB],?_⟩;have e1:((i+1:Nat):Int)-1-((i,j).1:Int)=0:=by show((i+1:Nat):Int)-1-(i:Int)=0;lia
   have e2:((j+1:Nat):Int)-1-((i,j).2:Int)=0:=by show((j+1:Nat):Int)-1-(j:Int)=0;lia
   rw[e1,e2,Int.mul_zero,Int.mul_zero];lia
  ·rw[Dy h1];by_cases h2:bB (Bq f o p i (j+1)) o=Bq f o p (i+1) (j+1)
   ·rw[Hz h2];cases e:Bq f o p i (j+1)with
    |none=>rw[e,hB]at h2;cases h2
    |some v2=>
     rw[e,hB]at h2;have h2:v2-o=v:=by simpa[bB]using h2
     obtain⟨x,hx,hv⟩:=t8 f o p i (j+1) v2 e;refine⟨x,hx,?_⟩;have e1:((i+1:Nat):Int)-1-((cN f o p i (j+1)).1:Int)=((i:Int)-1-(cN f o p i (j+1)).1)+1:=by lia
     rw[e1,Int.mul_add]
     lia
   ·rw[Dy h2];have e0:Bq f o p (i+1) (j+1)=oX [dE f o p i j,bB (Bq f o p i (j+1)) o,bB (Bq f o p (i+1) j) p]:=by rw[Bq];rfl
    have key:∀a b c:Option Int,oX [a,b,c]≠a→oX [a,b,c]≠b→c=oX [a,b,c]:=fun a b c=>by
     cases a<;>cases b<;>cases c<;>simp[oX]<;>lia
    have h3:bB (Bq f o p (i+1) j) p=Bq f o p (i+1) (j+1):=by
     rw[e0];exact key _ _ _ (fun z=>h1 (by rw[e0];exact z.symm)) (fun z=>h2 (by rw[e0];exact z.symm))
    cases e:Bq f o p (i+1) j with
    |none=>rw[e,hB]at h3;cases h3
    |some v2=>
     rw[e,hB]at h3;have h3:v2-p=v:=by simpa[bB]using h3
     obtain⟨x,hx,hv⟩:=t8 f o p (i+1) j v2 e;refine⟨x,hx,?_⟩;have e1:((j+1:Nat):Int)-1-((cN f o p (i+1) j).2:Int)=((j:Int)-1-(cN f o p (i+1) j).2)+1:=by lia
     rw[e1,Int.mul_add]
     lia
termination_by i j=>(i,j)
theorem Iq(f:Nat→Nat→Option Int)(o p:Int):∀(k i j:Nat)(v:Int),i≤k→dE f o p i j=some v→Wy (lf f) ((eJ f o p i i j).map aQ)∧lstP ((eJ f o p i i j).map aQ)=aQ (i,j)∧vl (lf f) o p ((eJ f o p i i j).map aQ)=v∧(eJ f o p i i j).map (fun q=>dE f o p q.1 q.2)=(zU (lf f) o p ((eJ f o p i i j).map aQ)).map some:=by
 intro k
 induction k with
 |zero=>
  intro i j v hi he;have:i=0:=by lia
  subst this;rw[gW (fun h=>by rw[iQ]at h;cases h)];have hw:f 0 j=some v:=by
   unfold dE at he;rw[iQ]at he;cases e:f 0 j with
   |none=>rw[e]at he;cases he
   |some w=>rw[e]at he;exact he
  have hl:lf f (aQ (0,j))=some v:=by rw[←hw];exact qG f 0 j
  refine⟨.one (by rw[hl];rfl),rfl,by simp[vl,hl],?_⟩;simp[zU,vl,hl,he]
 |succ k ih=>
  intro i j v hi he;by_cases hg:gN (Bq f o p i j)=true
  ·obtain⟨a1,a2,a3⟩:=kf hg;obtain⟨l1,l2⟩:=(kN f o p i j a1 a2).resolve_right a3;rw[wc hg,List.map_append,List.map_append];cases eb:Bq f o p i j with
   |none=>exact X7 eb a3
   |some b=>
    obtain⟨x,hx,hb⟩:=t8 f o p i j b eb;obtain⟨w1,w2,w3,w4⟩:=ih _ _ x (by lia) hx;have aay:0≤b:=by rw[eb]at hg;simpa[gN]using hg
    have hw:∃w,f i j=some w∧v=w+b:=by
     unfold dE at he;rw[eb]at he;cases e:f i j with
     |none=>rw[e]at he;cases he
     |some w=>
      rw[e]at he;simp only[HR,show ¬b<0 by lia,if_false,Option.some.injEq]at he;exact⟨w,rfl,by lia⟩
    obtain⟨w,hw,hv⟩:=hw;have hl:lf f (aQ (i,j))=some w:=by rw[←hw];exact qG f i j
    have st:yr (lstP ((eJ f o p (cN f o p i j).1 (cN f o p i j).1 (cN f o p i j).2).map aQ)) (aQ (i,j)):=by
     rw[w2];exact⟨by simp[aQ];lia,by simp[aQ];lia⟩
    have ev:vl (lf f) o p ((eJ f o p (cN f o p i j).1 (cN f o p i j).1 (cN f o p i j).2).map aQ++[aQ (i,j)])=v:=by
     rw[oZ _ _ _ w1.ne,w2,w3,hl];simp only[gp,Option.getD_some];have e1:(aQ (i,j)).1-(aQ ((cN f o p i j).1,(cN f o p i j).2)).1-1=(i:Int)-1-(cN f o p i j).1:=by show(i:Int)-((cN f o p i j).1:Int)-1=_;lia
     have e2:(aQ (i,j)).2-(aQ ((cN f o p i j).1,(cN f o p i j).2)).2-1=(j:Int)-1-(cN f o p i j).2:=by show(j:Int)-((cN f o p i j).2:Int)-1=_;lia
     rw[e1,e2]
     lia
    refine⟨w1.snoc (by rw[hl];rfl) st,dM,ev,?_⟩;show _++[dE f o p i j]=(zU (lf f) o p (_++[aQ (i,j)])).map some;rw[Gb,List.map_append,w4,he];show _++[some v]=_++[some _];rw[ev]
  ·rw[gW hg];have hw:f i j=some v:=by
    unfold dE at he;cases e:f i j with
    |none=>rw[e]at he;cases he
    |some w=>
     rw[e]at he;cases eb:Bq f o p i j with
     |none=>rw[eb]at he;exact he
     |some b=>
      rw[eb]at he hg;have:b<0:=by
       have:¬0≤b:=fun z=>hg (by simpa[gN]using z)
       lia
      simp only[HR,this,if_true]at he;exact he
   have hl:lf f (aQ (i,j))=some v:=by rw[←hw];exact qG f i j
   refine⟨.one (by rw[hl];rfl),rfl,by simp[vl,hl],?_⟩;simp[zU,vl,hl,he]
def Ir(f:Nat→Nat→Option Int)(o p:Int)(n m:Nat):Option Int:=oX ((Z6 n).map fun i=>oX ((Z6 m).map (dE f o p i)))
theorem Gf{f:Nat→Nat→Option Int}{n m:Nat}(t:DS f n m)(o p:Int):fY (fun v=>∃ps,Wy (lf f) ps∧v=vl (lf f) o p ps) (Ir f o p n m):=by
 refine(kL _).Vf (fun v hv=>?_) (fun v hv=>?_)
 ·obtain⟨i,_,h2⟩:=List.mem_map.mp hv;have h3:=kL ((Z6 m).map (dE f o p i));rw[h2]at h3;obtain⟨j,_,h4⟩:=List.mem_map.mp h3.1;obtain⟨as,a1,_,a3⟩:=mF h4;exact⟨as,a1,a3.symm⟩
 ·obtain⟨ps,w,rfl⟩:=hv;obtain⟨i,j,hl,hi,hj⟩:=jZ t w (cS w.ne);obtain⟨b,hb,hle⟩:=xB (o:=o) (p:=p) w hl;have h3:=kL ((Z6 m).map (dE f o p i));have oB:some b∈(Z6 m).map (dE f o p i):=List.mem_map.mpr ⟨j,by simpa using hj,hb⟩;cases e:oX ((Z6 m).map (dE f o p i))with
  |none=>rw[e]at h3;exact X7 oB (h3 b)
  |some u=>
   rw[e]at h3;refine⟨u,List.mem_map.mpr ⟨i,by simpa using hi,e⟩,?_⟩;have:=h3.2 b oB
   lia
theorem Dv{f:Nat→Nat→Option Int}{o p W:Int}(T:e8 f o p W){n m:Nat}(t:DS f n m){a b:Pr}(h:fG f o p W a b):∃i j:Nat,dE f o p i j=some W∧i<n∧j<m∧fG f o p W a (aQ (i,j)):=by
 obtain⟨ps,w,hm⟩:=h.on;obtain⟨i,j,hl,hi,hj⟩:=jZ t w.1 (cS w.1.ne);obtain⟨v,hb,hle⟩:=xB (o:=o) (p:=p) w.1 hl;obtain⟨as,a1,_,a3⟩:=mF hb;have:=T _ a1;have hW:=w.2;refine⟨i,j,by rw[hb];congr 1;lia,hi,hj, .way ps w hm ?_⟩;rw[←hl];exact cS w.1.ne
def uV(n m:Nat):List Pr:=(Z6 n).flatMap fun i=>(Z6 m).map fun j=>aQ (i,j)
theorem pe(n m:Nat):(uV n m).length=n*m:=by
 unfold uV
 induction n with
 |zero=>simp
 |succ n ih=>
  rw[List.range_succ,List.flatMap_append,List.length_append,ih,Nat.succ_mul];simp
theorem ph{n m i j:Nat}(hi:i<n)(hj:j<m):aQ (i,j)∈uV n m:=List.mem_flatMap.mpr ⟨i,by simpa using hi,List.mem_map.mpr ⟨j,by simpa using hj,rfl⟩⟩
theorem Told.uL{E:Pr→Pr→Prop}{gs:List (List Pr)}{n m:Nat}(t:Told E gs)(h:∀g∈gs,∀a∈g,∃i j:Nat,a=aQ (i,j)∧i<n∧j<m):gs.length≤n*m:=by
 have hf:∀g∈gs,gL g∈g:=fun g hg=>by
  cases e:g with
  |nil=>exact X7 e (t.ne g hg)
  |cons a r=>simp[gL]
 have:=len_sub (gs.map gL) (uV n m) (List.pairwise_map.mpr (List.Pairwise.imp_of_mem (fun{a b} ha hb FV e=>FV (gL a) (hf a ha) (by rw[e];exact hf b hb)) t.apart)) fun x hx=>by
  obtain⟨g,hg,rfl⟩:=List.mem_map.mp hx;obtain⟨i,j,e,hi,hj⟩:=h g hg _ (hf g hg);rw[e];exact ph hi hj
 rw[List.length_map,pe]at this;exact this
structure we(P:Addr→Prop)(H:Hp)(CF a:Addr)(d:Fd)(dy wy rw pr:Addr)(kO iC:List V):Prop where
 ob:H a=some (.ins CF dy (m9 d.worth wy rw pr))
 hw:H wy=some (.lst kO)
 pw:fN H kO d.way
 hr:H rw=some (.lst (d.row.map V.int))
 hp:H pr=some (.lst iC)
 pp:fN H iC d.pairs
 fa:P a
 fw:P wy
 fr:P rw
 fp:P pr
def cx(P:Addr→Prop)(H:Hp)(CF:Addr)(us:List V)(ds:List Fd):Prop:=us.length=ds.length∧∀(k:Nat) d,ds[k]?=some d→∃a dy wy rw pr kO iC,us[k]?=some (V.ref a)∧we P H CF a d dy wy rw pr kO iC
theorem we.keep{P P':Addr→Prop}{H H':Hp}{CF a:Addr}{d:Fd}{dy wy rw pr:Addr}{kO iC:List V}(F:we P H CF a d dy wy rw pr kO iC)(h:∀b o,P b→H b=some o→H' b=some o)(t:cJ H H')(hP:∀b,P b→P' b):we P' H' CF a d dy wy rw pr kO iC:=
 ⟨h _ _ F.fa F.ob,h _ _ F.fw F.hw,F.pw.cb t,h _ _ F.fr F.hr,h _ _ F.fp F.hp,F.pp.cb t,hP _ F.fa,hP _ F.fw,hP _ F.fr,hP _ F.fp⟩
theorem cx.keep{P P':Addr→Prop}{H H':Hp}{CF:Addr}{us:List V}{ds:List Fd}(F:cx P H CF us ds)(h:∀b o,P b→H b=some o→H' b=some o)(t:cJ H H')(hP:∀b,P b→P' b):cx P' H' CF us ds:=
 ⟨F.1,fun k d e=>let ⟨a,dy,wy,rw,pr,kO,iC,h1,h2⟩:=F.2 k d e;⟨a,dy,wy,rw,pr,kO,iC,h1,h2.keep h t hP⟩⟩
theorem cx.nil{P:Addr→Prop}{H:Hp}{CF:Addr}:cx P H CF [] []:=⟨rfl,fun k d e=>by simp at e⟩
theorem cx.append{P:Addr→Prop}{H:Hp}{CF:Addr}{us vs:List V}{ds es:List Fd}(F:cx P H CF us ds)(G:cx P H CF vs es):cx P H CF (us++vs) (ds++es):=by
 refine⟨by rw[List.length_append,List.length_append,F.1,G.1],fun k d e=>?_⟩;by_cases hk:k<ds.length
 ·rw[ZK hk]at e;rw[ZK (by rw[F.1];exact hk)];exact F.2 k d e
 ·rw[ZP Aj]at e;rw[ZP (by rw[F.1];lia),F.1];exact G.2 _ d e
inductive t9(CT:Addr)(vs:List V)(H:Hp)(Q:VK)(u3:XK):Prop
 |mk (f g t:Addr) (v:V) (c:Case) (shut:List Pr) (_:vs=[.ref f, .ref g, .ref t,v]) (_:H f=some (.lst (c.xs.map V.str))) (_:H g=some (.lst (c.ys.map V.str))) (_:yW H CT t c) (_:Fg H v shut) (_:shut.length≤1000) (_:c.xs.length≤1000) (_:c.ys.length≤1000) (_:∀H' e as,av H H'→H' e=some (.lst (as.map V.ref))→H e=none→jf H' as (iF c shut) c.xs.length c.ys.length→as.Nodup→e∉as→(∀a∈as,H a=none)→Q (.ref e) H'):t9 CT vs H Q u3
inductive pj(CT CF:Addr)(vs:List V)(H:Hp)(Q:VK)(u3:XK):Prop
 |mk (w t:Addr) (as:List Addr) (c:Case) (f:Nat→Nat→Option Int) (n m:Nat) (_:vs=[.ref w, .ref t]) (_:H w=some (.lst (as.map V.ref))) (_:jf H as f n m) (_:yW H CT t c) (_:DS f n m) (_:n*m≤3000) (_:n≤1000) (_:m≤1000)
  (_:Stop f c.out c.into c.least→∀H' r,av H H'→H r=none→H' r=some (.lst [])→Q (.ref r) H')
  (_:∀W gs ds,jD f c.out c.into c.least W gs ds→gs≠[]→∀H' r us,av H H'→H r=none→H' r=some (.lst us)→cx (fun b=>H b=none) H' CF us ds→Q (.ref r) H'):pj CT CF vs H Q u3
inductive t_(CF:Addr)(vs:List V)(H:Hp)(Q:VK)(u3:XK):Prop
 |mk (w md:Addr) (as:List Addr) (us:List V) (ds:List Fd) (f:Nat→Nat→Option Int) (n m:Nat) (_:vs=[.ref w, .ref md]) (_:H w=some (.lst (as.map V.ref))) (_:as.Nodup) (_:w∉as) (_:jf H as f n m) (_:H md=some (.lst us)) (_:md∉as) (_:cx (fun b=>b∉as) H CF us ds) (_:∀d∈ds,∀q∈d.pairs,∃i j:Nat,q=aQ (i,j)∧i<n∧j<m)
  (_:∀H',(∀b o,b∉as→H b=some o→H' b=some o)→cJ H H'→jf H' as (kh f (ds.map Fd.pairs).flatten) n m→Q .cL H'):t_ CF vs H Q u3
def O7(a b:Fd):Bool:=if a.worth=b.worth then iB (gL a.pairs) (gL b.pairs)else decide (b.worth<a.worth)
structure bK(f0:Nat→Nat→Option Int)(o p least:Int)(es:List Fd):Prop where
 QX:∃ds f,Reach f0 o p least ds f∧Stop f o p least∧es.Perm ds
 uL:es.length≤20
 qI:es.Pairwise fun a b=>O7 a b=true
inductive xD(CT CF CX:Addr)(vs:List V)(H:Hp)(Q:VK)(E:XK):Prop
 |mk (a b t:Addr) (c:Case) (_:vs=[.ref a, .ref b, .ref t]) (_:H a=some (.lst (c.xs.map V.str))) (_:H b=some (.lst (c.ys.map V.str))) (_:yW H CT t c) (_:c.xs.length≤50) (_:c.ys.length≤50)
  (_:∀es,bK (iF c []) c.out c.into c.least es→∀H' r us,av H H'→H r=none→H' r=some (.lst us)→cx (fun b=>H b=none) H' CF us es→Q (.ref r) H')
  (_:∀ds f,Reach (iF c []) c.out c.into c.least ds f→20<ds.length→∀H',av H H'→E (.ref CX) none H'):xD CT CF CX vs H Q E
def Gg(c:Case)(i m:Nat):Nat:=((Z6 m).filter fun j=>(c.pw ZN).isSome).length
def manyN(c:Case):Nat→Nat
 |0=>0
 |n+1=>manyN c n+Gg c n c.ys.length
theorem Dx(c:Case)(i m:Nat):Gg c i (m+1)=Gg c i m+if (c.pw (aQ (i,m))).isSome=true then 1 else 0:=by
 unfold Gg;rw[List.range_succ,List.filter_append,List.length_append]
 congr 1
 by_cases h:(c.pw (aQ (i,m))).isSome=true
 ·rw[Hz h,List.filter_cons,Hz h];rfl
 ·rw[Dy h,List.filter_cons,Dy h];rfl
theorem ua(c:Case):∀n,((uV n c.ys.length).filter fun q=>(c.pw q).isSome).length=manyN c n
 |0=>rfl
 |n+1=>by
  unfold uV;rw[List.range_succ,List.flatMap_append,List.filter_append,List.length_append];have ih:=ua c n;unfold uV at ih;rw[ih,manyN]
  congr 1
  simp only[List.flatMap_cons,List.flatMap_nil,List.append_nil];rw[List.filter_map,List.length_map];rfl
def bL(c:Case):Nat:=manyN c c.xs.length/21+1
def f6(c:Case):Int:=min c.same (999999/(bL c:Int))
def m_(c:Case):Case:={c with same:=f6 c,least:=max c.least (((bL c:Int)-1)*f6 c+1)}
theorem AU(s t:Int)(fs:List Form)(x y:Str):(cF s fs x y).isSome=(cF t fs x y).isSome:=by
 unfold cF;split
 ·rfl
 ·simp
theorem aaH(c:Case)(q:Pr):((m_ c).pw q).isSome=(c.pw q).isSome:=by
 unfold Case.pw;show((wd c.xs q.1).bind fun x=>(wd c.ys q.2).bind fun y=>cF (m_ c).same c.fs x y).isSome=_;cases wd c.xs q.1 with
 |none=>rfl
 |some x=>
  cases wd c.ys q.2 with
  |none=>rfl
  |some y=>exact AU _ _ _ _ _
theorem Dz{fs:List Form}(g:bp fs=true){x y:Str}{p:Int}(h:cI fs x y=some p):0≤p:=by
 unfold cI at h;cases e:fs.find? fun f=>decide (f.1=x∧f.2.1=y)with
 |none=>rw[e]at h;cases h
 |some f=>
  rw[e]at h;have h:f.2.2=p:=by simpa using h
  have hm:=List.mem_of_find?_eq_some e;simp only[bp,Bool.and_eq_true,List.all_eq_true]at g;have:=g.1.2 f hm;simp only[Aq,gT,inR,Bool.and_eq_true,decide_eq_true_eq]at this
  lia
theorem pw_le{c:Case}(g:bp c.fs=true){q:Pr}{w:Int}(h:c.pw q=some w):w≤c.same:=by
 unfold Case.pw at h;cases e1:wd c.xs q.1 with
 |none=>rw[e1]at h;cases h
 |some x=>
  cases e2:wd c.ys q.2 with
  |none=>rw[e1,e2]at h;cases h
  |some y=>
   rw[e1,e2]at h;have h:cF c.same c.fs x y=some w:=h;unfold cF at h;split at h
   ·cases h;exact Int.le_refl _
   ·cases e3:cI c.fs x y with
    |none=>rw[e3]at h;cases h
    |some p=>
     rw[e3]at h;have h:c.same-p=w:=by simpa using h
     have:=Dz g e3
     lia
theorem Ce(c:Case)(n:Nat):manyN c n≤n*c.ys.length:=by
 rw[←ua,←pe];exact List.length_filter_le _ _
theorem Cf{m:Nat}{c:Case}(k:eI m c)(hm:m≤60):eI m (m_ c):=by
 have h1:manyN c c.xs.length≤3600:=by
  have:=Ce c c.xs.length;have h2:=Nat.mul_le_mul (ZX k.x hm) (ZX k.y hm)
  lia
 have he:(1:Int)≤bL c∧(bL c:Int)≤172:=by unfold bL;lia
 have hq:(bL c:Int)*(999999/(bL c:Int))≤999999:=by
  have:=Int.mul_ediv_self_le (x:=999999) (k:=(bL c:Int)) (by lia);exact this
 have O8:1≤999999/(bL c:Int):=by
  have:(172:Int)≤999999:=Sz;exact(Int.le_ediv_iff_mul_le Aj).mpr Aj
 have hs:=k.same;have hl:=k.least;have s1:1≤f6 c∧f6 c≤999999∧f6 c≤999999/(bL c:Int):=by unfold f6;lia
 refine⟨k.x,k.y,k.good,⟨s1.1,s1.2.1⟩,k.out,k.into,?_⟩;show 1≤max c.least (((bL c:Int)-1)*f6 c+1)∧max c.least (((bL c:Int)-1)*f6 c+1)≤999999;have h3:((bL c:Int)-1)*f6 c+1≤999999:=by
  have h4:(bL c:Int)*f6 c≤(bL c:Int)*(999999/(bL c:Int)):=Int.mul_le_mul_of_nonneg_left s1.2.2 Aj;rw[Int.sub_mul]
  lia
 lia
theorem ji{g g':Pr→Option Int}(o p:Int):∀{ps:List Pr},(∀q∈ps,g q=g' q)→vl g o p ps=vl g' o p ps
 |[],_=>rfl
 |[a],h=>by simp only[vl];rw[h a (MD)]
 |a::b::r,h=>by
  have ih:=ji (g:=g) (g':=g') o p (ps:=b::r) fun q hq=>h q (by simp[hq])
  simp only[vl];rw[ih,h a (MD)]
theorem DA{g g':Pr→Option Int}(o p:Int){ps:List Pr}(h:∀q∈ps,g q=g' q):zU g o p ps=zU g' o p ps:=by
 unfold zU;apply List.map_congr_left;intro k _;exact ji o p fun q hq=>h q (List.mem_of_mem_take hq)
theorem Wy.congr{g g':Pr→Option Int}{ps:List Pr}(w:Wy g ps)(h:∀q∈ps,g q=g' q):Wy g' ps:=⟨w.ne,fun q hq=>by rw[←h q hq];exact w.ok q hq,w.up⟩
theorem Mf{o p:Int}(ho:0≤o)(hp:0≤p){a b:Pr}(s:yr a b):0≤gp o p a b:=by
 have h1:=s.1;have h2:=s.2;have:=Int.mul_nonneg ho (show 0≤b.1-a.1-1 by lia);have:=Int.mul_nonneg hp (show 0≤b.2-a.2-1 by lia);unfold gp
 lia
theorem JR{g:Pr→Option Int}{o p S:Int}(ho:0≤o)(hp:0≤p):∀{ps:List Pr},ps.Pairwise yr→(∀q∈ps,∃w,g q=some w∧w≤S)→vl g o p ps≤ps.length*S
 |[],_,_=>by simp[vl]
 |[a],_,h=>by
  obtain⟨w,h1,h2⟩:=h a (MD);simp[vl,h1,h2]
 |a::b::r,hs,h=>by
  have m6:=List.pairwise_cons.mp hs;have ih:=JR ho hp m6.2 fun q hq=>h q (by simp[hq])
  obtain⟨w,h1,h2⟩:=h a (MD);have:=Mf ho hp (m6.1 b (MD));simp only[vl,h1,Option.getD_some];have e:((a::b::r).length:Int)*S=((b::r).length:Int)*S+S:=by
   rw[List.length_cons (as:=b::r),Int.natCast_add,Int.add_mul];simp
  rw[e]
  lia
structure O9(f0:Nat→Nat→Option Int)(o p least:Int)(d:Fd):Prop where
 way:Wy (lf f0) d.way
 worth:vl (lf f0) o p d.way=d.worth
 least:least≤d.worth
 row:d.row=zU (lf f0) o p d.way
 sub:∀q∈d.way,q∈d.pairs
 qI:d.pairs.Pairwise fun p q=>iB p q=true
 op:∀q∈d.pairs,(lf f0 q).isSome=true
 part:∀a b,d.way=a++b→a≠[]→b≠[]→vl (lf f0) o p a≤d.worth∧vl (lf f0) o p b≤d.worth
theorem Reach.iG{f0 f:Nat→Nat→Option Int}{o p least:Int}{ds:List Fd}(r:Reach f0 o p least ds f):∀d∈ds,O9 f0 o p least d:=by
 induction r with
 |start=>exact fun d h=>by cases h
 |@round done f W gs ds r R ih=>
  intro d hd;rcases List.mem_append.mp hd with hd|hd
  ·exact ih d hd
  have ap:=r.apart;have k:=R.ok d hd;have hg:d.pairs∈gs:=by rw[←R.Gd];exact List.mem_map.mpr ⟨d,hd,rfl⟩
  have cg:∀q∈d.way,lf f q=lf f0 q:=fun q hq=>ap.sub q (k.way.1.ok q hq)
  refine⟨k.way.1.congr cg,?_,by rw[k.worth];exact R.least,by rw[k.row];exact DA o p cg,k.sub,R.told.qI _ hg,fun q hq=>?_,fun a b e ha hb=>?_⟩
  ·rw[←ji o p cg,k.way.2,k.worth]
  ·have:=(R.told.mem hg hq).open;rw[←ap.sub q this];exact this
  ·have w:=k.way.1;rw[e]at w;rw[←ji o p (fun q hq=>cg q (by rw[e];exact Ι hq)),←ji o p (fun q hq=>cg q (by rw[e];exact ZU hq)),k.worth];exact⟨R.top _ (w.left ha),R.top _ (w.right hb)⟩
theorem Reach.met{f0 f:Nat→Nat→Option Int}{o p least:Int}{ds:List Fd}(r:Reach f0 o p least ds f){ws:List Pr}(w:Wy (lf f0) ws):(∀q∈ws,(lf f q).isSome=true)∨∃d∈ds,vl (lf f0) o p ws≤d.worth∧∃q∈ws,q∈d.pairs:=by
 induction r with
 |start=>exact .inl w.ok
 |@round done f W gs ds r R ih=>
  rcases ih with h|⟨d,h1,h2⟩
  ·have ap:=r.apart;by_cases hm:∃q∈ws,q∈gs.flatten
   ·obtain⟨q,hq,hg⟩:=hm;obtain⟨g,Vw,X8⟩:=List.mem_flatten.mp hg;rw[←R.Gd]at Vw;obtain⟨d,hd,rfl⟩:=List.mem_map.mp Vw;refine .inr ⟨d,ZU hd,?_,q,hq,X8⟩;have cg:∀q∈ws,lf f0 q=lf f q:=fun q hq=>(ap.sub q (h q hq)).symm
    rw[ji o p cg,(R.ok d hd).worth];exact R.top _ (w.congr cg)
   ·refine .inl fun q hq=>?_
    rw[mH,Dy (fun z=>hm ⟨q,hq,z⟩)];exact h q hq
  ·exact .inr ⟨d,Ι h1,h2⟩
theorem bK.met{f0:Nat→Nat→Option Int}{o p least:Int}{es:List Fd}(t:bK f0 o p least es){ws:List Pr}(w:Wy (lf f0) ws)(h:least≤vl (lf f0) o p ws):∃d∈es,vl (lf f0) o p ws≤d.worth∧∃q∈ws,q∈d.pairs:=by
 obtain⟨ds,f,r,st,pm⟩:=t.QX;rcases r.met w with z|⟨d,h1,h2⟩
 ·exfalso;have cg:∀q∈ws,lf f0 q=lf f q:=fun q hq=>(r.apart.sub q (z q hq)).symm
  have:=st ws (w.congr cg);rw[←ji o p cg]at this
  lia
 ·exact⟨d,pm.mem_iff.mpr h1,h2⟩
theorem bK.iG{f0:Nat→Nat→Option Int}{o p least:Int}{es:List Fd}(t:bK f0 o p least es):∀d∈es,O9 f0 o p least d:=fun d hd=>by
 obtain⟨ds,f,r,_,pm⟩:=t.QX;exact r.iG d (pm.mem_iff.mp hd)
theorem bK.apart{f0:Nat→Nat→Option Int}{o p least:Int}{es:List Fd}(t:bK f0 o p least es):es.Pairwise fun a b=>∀q∈a.pairs,q∉b.pairs:=by
 obtain⟨ds,f,r,_,pm⟩:=t.QX;exact(pm.pairwise_iff fun{a b} h q hq F9=>h q F9 hq).mpr r.apart.ap
theorem bK.ne{f0:Nat→Nat→Option Int}{o p least:Int}{es:List Fd}(t:bK f0 o p least es):∀d∈es,d.pairs≠[]:=fun d hd z=>by
 have k:=t.iG d hd;have:=k.sub _ (cS k.way.ne);rw[z]at this;cases this
theorem Gh{l:List (List Pr)}{k:Nat}(h:∀x∈l,k≤x.length):l.length*k≤l.flatten.length:=by
 induction l with
 |nil=>simp
 |cons a r ih=>
  have h1:=h a (MD);have h2:=ih fun x hx=>h x (by simp[hx])
  rw[List.flatten_cons,List.length_append,List.length_cons,Nat.succ_mul]
  lia
theorem nQ:∀{ds:List Fd},ds.Pairwise (fun a b=>∀q∈a.pairs,q∉b.pairs)→(∀d∈ds,d.pairs.Nodup)→(ds.map Fd.pairs).flatten.Nodup
 |[],_,_=>MD
 |d::r,h,h2=>by
  have h':=List.pairwise_cons.mp h;rw[List.map_cons,List.flatten_cons];refine List.nodup_append.mpr ⟨h2 d (MD),nQ h'.2 fun x hx=>h2 x (by simp[hx]),fun a ha b hb e=>?_⟩;obtain⟨ps,hp,hq⟩:=List.mem_flatten.mp hb;obtain⟨x,hx,rfl⟩:=List.mem_map.mp hp;exact h'.1 x hx a ha (by rw[e];exact hq)
theorem ki{ps:List Pr}(h:ps.Pairwise fun p q=>iB p q=true):ps.Nodup:=h.imp fun{a b} h e=>by
 rw[e]at h;unfold iB at h;simp at h
theorem ub(c:Case)(q:Pr):lf (iF c []) q=c.pw q:=by
 rw[xo];simp[oC]
inductive xE(vs:List V)(H:Hp)(Q:VK)(u3:XK):Prop
 |mk (a:Addr) (c:Case) (f g m l:Addr) (us:List V) (_:vs=[.ref a]) (_:jA H a c f g m l us) (_:eI 60 c) (_:∀H' b m',av H H'→H b=none→H' b=some (.lst [.ref f, .ref g, .ref m', .ref l])→jA H' b (m_ c) f g m' l us→Q (.ref b) H'):xE vs H Q u3
end QF
namespace QF
open PySem L2 PySem.Spec PyProof.Rows PySem.W PySem.Calls
section
variable{X:Cx}
inductive O_(K:Frag)(neg:Bool)(x:V)(y:V)(H:Hp)(Q:VK):Prop
 |mk (p q:Addr) (r:Pr) (vs:List V) (ps:List Pr) (_:x= .ref p) (_:y= .ref q) (_:H p=some (.tup (iK r))) (_:iD K H q vs) (_:fN H vs ps) (_:Q (.bl (xor neg (decide (r∈ps)))) H):O_ K neg x y H Q
open Classical in
theorem Gi{pins:List (Addr×Obj)}{s:Shared}{σ:L2.St}{H:Hp}{p q:Addr}{r:Pr}{vs:List V}{ps:List Pr}(hu:X.A.units+1<cLine)(I:Inv X pins σ H s)(hp:H p=some (.tup (iK r)))(hq:iD X.K H q vs)(P:fN H vs ps):
  ∃(its:List Value)(e:Value→Bool),s.heap.IsList q its.toArray∧(∀y∈its.toArray,SeqAt.EqAt X.A.in1 s y (.ref p) (e y))∧its.toArray.any e=decide (r∈ps):=by
 obtain⟨its,r1,pl,hz⟩:=I.tuple (xs:=iK r) (.of hp);obtain⟨dC,r2,HB,MQ⟩:=I.list hq;have lc:=P.1;have l2:=r2.length;have key:∀j,j<dC.length→∃g t,ps[j]?=some g∧dC[j]?=some (.ref t)∧H t=some (.tup (iK g)):=fun j hj=>by
  have hc:ps[j]?=some ps[j]:=by simp[show j<ps.length by lia]
  obtain⟨t,h1,h2⟩:=P.2 j _ hc;obtain⟨u,eu,ru⟩:=r2.get h1;cases ru;exact⟨_,t,hc,eu,h2⟩
 let e:Value→Bool:=fun y=>decide (∃t,y=Value.ref t∧H t=some (.tup (iK r)))
 have ee:∀{t g},H t=some (.tup (iK g))→e (.ref t)=decide (g=r):=fun{t g} h=>by
  show decide _=_;rw[Bool.eq_iff_iff,decide_eq_true_iff,decide_eq_true_iff];constructor
  ·rintro⟨t',e1,e2⟩;cases e1;rw[h]at e2;have:=HO.tup.inj (YA e2);simp only[iK,List.cons.injEq,V.int.injEq,and_true]at this;exact Prod.ext this.1 this.2
  ·rintro rfl;exact⟨t,rfl,h⟩
 refine⟨dC,e,HB.isList,fun y hy=>?_,?_⟩
 ·obtain⟨j,hj,rfl⟩:=Array.mem_iff_getElem.mp hy;have zf:j<dC.length:=by simpa using hj
  obtain⟨g,t,h1,h2,h3⟩:=key j zf;have ej:dC.toArray[j]= .ref t:=by
   have:=(WB h2).2;simpa using this
  rw[ej,ee h3];by_cases hn:t=p
  ·subst hn;rw[hp]at h3;have:=HO.tup.inj (YA h3);simp only[iK,List.cons.injEq,V.int.injEq,and_true]at this;have:r=g:=Prod.ext this.1 this.2;rw[decide_eq_true this.symm];exact SeqAt.EqAt.same _
  ·obtain⟨Pa,r3,Pb,X9⟩:=I.tuple (xs:=iK g) (.of h3);have:=SeqAt.EqAt.of_refs hn (SeqAt.RcAt.tuples (A:=X.A.in1) Pb pl (show X.A.in1.units<cLine from hu) (tM r3 r1 rfl rfl));rw[←xm,←kK,r3.length,r1.length];simpa using this
 ·rw[Bool.eq_iff_iff,Array.any_eq_true,decide_eq_true_iff];constructor
  ·rintro⟨j,hj,hh⟩;have zf:j<dC.length:=by simpa using hj
   obtain⟨g,t,h1,h2,h3⟩:=key j zf;have ej:dC.toArray[j]= .ref t:=by
    have:=(WB h2).2;simpa using this
   rw[ej,ee h3,decide_eq_true_iff]at hh;rw[←hh];exact Y7 h1
  ·intro hm;obtain⟨j,hj,hg⟩:=Ξ hm;have zf:j<dC.length:=by lia
   obtain⟨g,t,h1,h2,h3⟩:=key j zf;refine⟨j,by simpa using zf,?_⟩;have ej:dC.toArray[j]'(by simpa using zf)= .ref t:=by
    have:=(WB h2).2;simpa using this
   rw[ej,ee h3,decide_eq_true_iff];rw[ZZ hj,hg]at h1;exact(YA h1).symm
theorem nc(K:Frag)(hu:X.A.units+1<cLine)(hK:X.K=K:=by rfl):rV X (compareOp .NotIn) (O_ K true):=by
 subst hK;intro pins s σ H x y v u Q I rx ry h;obtain⟨p,q,r,vs,ps,rfl,rfl,hp,hq,P,k⟩:=h;cases rx;cases ry;obtain⟨its,e,pl,h1,h2⟩:=Gi hu I hp hq P;refine SeqAt.notIn_listAt e pl h1 ⟨.bl (!decide (r∈ps)),H,I,?_,by simpa using k⟩;rw[h2];rfl
end
end QF
namespace QF
open PySem L2
theorem oY.of{c:Case}{ps:List Pr}(h:lp c ps=true):oY c [] ps:=⟨h,fun p _=>MD⟩
theorem Iu{c:Case}{ps:List Pr}(h:lp c ps=true):Wy (lf (iF c [])) ps∧dG c ps (ps.length-1)=vl (lf (iF c [])) c.out c.into ps:=⟨y6.mp (.of h),HU (.of h)⟩
end QF
namespace L2
open PySem PySem.Spec PyProof.Rows PySem.W PySem.Calls
inductive fO(K:Frag)(x q:Str)(st:Stmt)(f:Addr):Prop
 |mk {oc kV dc pm cd ct:Value} {od an:Option Addr} {sl:Array (Option Value)} (l:K.lookup f=some ⟨oc,od, .func (fnOf x q (fK st) (eM st) (au st) .none kV dc pm an cd ct),sl⟩) (c:codeIn K cd q=true) (k:keepIn K (.ref f)=true):fO K x q st f
theorem AV{Φ:Value→Value→Value→Option Addr→Value→Value→List Value→Prop}(h:∀k d p n c t a,Φ k d p n c t [a])(k d p:Value)(n:Option Addr)(c t:Value)(us:List Value)(e:us.length=1):Φ k d p n c t us:=QF.Xu (h k d p n c t) us e
theorem yv{Φ:Value→Value→Value→Option Addr→Value→Value→List Value→Prop}(h:∀k d p n c t a b,Φ k d p n c t [a,b])(k d p:Value)(n:Option Addr)(c t:Value)(us:List Value)(e:us.length=2):Φ k d p n c t us:=QF.Xv (h k d p n c t) us e
theorem AW{Φ:Value→Value→Value→Option Addr→Value→Value→List Value→Prop}(h:∀k d p n c t x y z,Φ k d p n c t [x,y,z])(k d p:Value)(n:Option Addr)(c t:Value)(us:List Value)(e:us.length=3):Φ k d p n c t us:=QF.Xw (h k d p n c t) us e
theorem Tt{Φ:Value→Value→Value→Option Addr→Value→Value→List Value→Prop}(h:∀k d p n c t x y z u,Φ k d p n c t [x,y,z,u])(k d p:Value)(n:Option Addr)(c t:Value)(us:List Value)(e:us.length=4):Φ k d p n c t us:=QF.Xx (h k d p n c t) us e
theorem Vx{Φ:Value→Value→Value→Option Addr→Value→Value→List Value→Prop}(h:∀k d p n c t x y z u v,Φ k d p n c t [x,y,z,u,v])(k d p:Value)(n:Option Addr)(c t:Value)(us:List Value)(e:us.length=5):Φ k d p n c t us:=QF.Xy (h k d p n c t) us e
theorem X_{Φ:Value→Value→Value→Option Addr→Value→Value→List Value→Prop}(h:∀k d p n c t x y z u v w,Φ k d p n c t [x,y,z,u,v,w])(k d p:Value)(n:Option Addr)(c t:Value)(us:List Value)(e:us.length=6):Φ k d p n c t us:=QF.Xz (h k d p n c t) us e
section
variable{P:Program}{w:World}{K:Frag}{mg:Str→Option Value}{base h:Heap}{cm:Bool}{k:Nat}{x q:Str}{st:Stmt}{f C:Addr}{ps:List Str}{sp:Sp}
def QY(x q:Str)(st:Stmt)(ps:List Str):Prop:=∀(kV doc pm:Value)(an:Option Addr)(f7 ct:Value)(us:List Value),us.length=ps.length→bindArgs (fnOf x q (fK st) (eM st) (au st) .none kV doc pm an f7 ct) ⟨us,[]⟩=pure (ps.zip us)
theorem fO.df(d:fO K x q st f)(X:K.In h)(G:h.Ns mainGlobals mg)(a:nsIn K mainGlobals x=some (some (.ref f)))(ok:∀fd,jU K x q st f fd→a9 P w K mg base (cY P w) cm k f fd ps sp)(b:QY x q st ps):bN P w K mg base cm k x ps sp:=by
 obtain⟨l,c,z⟩:=d;have F:=EF (st:=st) l c z;exact EM F (mg_of X G a) (F.binds b) (ok _ F)
theorem fO.ok(d:fO K x q st f){R:FuncData→Prop}(ok:∀fd,iq K x q st f fd→R fd)(b:QY x q st ps):∃fd,R fd∧Binds K fd ps []:=by
 obtain⟨l,c,z⟩:=d;exact⟨_,ok _ (BE (st:=st) l c z), .all fun us e=>b _ _ _ _ _ _ us e⟩
theorem fO.mt(d:fO K x q st f)(cl:wH K C)(a:findIn K (.ref C) x=some (some (.ref f)))(i:isFn K (.ref f)=true)(ok:∀fd,iq K x q st f fd→a9 P w K mg base (cY P w) cm k f fd ps sp)(b:QY x q st ps):dW P w K mg base cm k C x ps sp:=by
 obtain⟨fd,h1,h2⟩:=d.ok (R:=fun fd=>a9 P w K mg base (cY P w) cm k f fd ps sp) ok b;obtain⟨l,c,z⟩:=d;exact CU h1 ⟨a,i,z⟩ h2 cl
theorem fO.nw{y:Str}(d:fO K x q st f)(m:mg y=some (.ref C))(g1:makesIn K C=true)(g2:keepIn K (.ref C)=true)(a:findIn K (.ref C) "__init__"=some (some (.ref f)))(i:isFn K (.ref f)=true)(ok:∀fd,iq K x q st f fd→a9 P w K mg base (cY P w) cm k f fd ps sp)(b:QY x q st ps):m3 P w K mg base cm k y C ps [] sp:=by
 obtain⟨fd,h1,h2⟩:=d.ok (R:=fun fd=>a9 P w K mg base (cY P w) cm k f fd ps sp) ok b;exact yQ h1 ⟨g1,a,i,g2⟩ m h2 .nil
structure Pc(K:Frag)(x:Str)(C:Addr):Prop where
 a:nsIn K mainGlobals x=some (some (.ref C))
 b:excIn K C [.type "ValueError", .type "Exception", .type "BaseException", .type "object"] "ValueError.__new__"=true
 c:findIn K (.ref C) "__class__"=some (some (.builtin "object.__class__"))
 d:mroIn K C (.type "object")=some true
 e:mroIn K C (.type "BaseException")=some true
 f:findIn K (.ref C) "__getattribute__"=some (some (.builtin "BaseException.__getattribute__"))
 g:findIn K (.ref C) "__getattr__"=some none
 h:instIn K (.ref C) (.type "tuple")=some false
 i:keepIn K (.ref C)=true
theorem Pc.er{x:Str}{C:Addr}(e:Pc K x C)(X:K.In h)(G:h.Ns mainGlobals mg):QF.Er K mg x C:=⟨mg_of X G e.a,e.b,e.c,e.d,e.e,e.f,e.g,e.h,e.i⟩
structure Pd(K:Frag)(x:Str)(C:Addr):Prop where
 a:nsIn K mainGlobals x=some (some (.ref C))
 b:makesIn K C=true
 c:keepIn K (.ref C)=true
def zV(K:Frag)(x:Str):Prop:=nsIn K mainGlobals x=some none
structure TZ(K:Frag):Prop where
 a:zV K "len"
 b:zV K "range"
 c:zV K "isinstance"
 d:zV K "int"
 e:zV K "bool"
 f:zV K "str"
 g:zV K "list"
 h:zV K "tuple"
 i:zV K "dict"
 j:zV K "all"
 k:zV K "any"
 l:zV K "min"
 m:zV K "max"
 n:zV K "enumerate"
 o:zV K "ValueError"
theorem nS{x:Str}(z:zV K x)(X:K.In h)(G:h.Ns mainGlobals mg):mg x=none:=mg_none_of X G z
theorem TZ.tb(z:TZ K)(X:K.In h)(G:h.Ns mainGlobals mg):QF.TB mg:=⟨nS z.a X G,nS z.b X G,nS z.c X G,nS z.d X G,nS z.e X G,nS z.f X G,nS z.g X G,nS z.h X G,nS z.i X G,nS z.j X G,nS z.k X G,nS z.l X G,nS z.m X G,nS z.n X G,nS z.o X G⟩
end
end L2
namespace QF
open PySem L2
def D0(H:Hp)(us:List V)(ts:List (Pr×Int)):Prop:=us.length=ts.length∧∀(k:Nat)(x:Pr×Int),ts[k]?=some x→∃t,us[k]?=some (V.ref t)∧H t=some (.tup [.int x.1.1, .int x.1.2, .int x.2])
theorem D0.cb{H H':Hp}{us:List V}{ts:List (Pr×Int)}(S:D0 H us ts)(t:cJ H H'):D0 H' us ts:=⟨S.1,fun k x e=>let ⟨a,h1,h2⟩:=S.2 k x e;⟨a,h1,t _ _ h2⟩⟩
theorem D0.nil{H:Hp}:D0 H [] []:=⟨rfl,fun k x e=>by simp at e⟩
theorem D0.snoc{H:Hp}{us:List V}{ts:List (Pr×Int)}(S:D0 H us ts){t:Addr}{x:Pr×Int}(h:H t=some (.tup [.int x.1.1, .int x.1.2, .int x.2])):D0 H (us++[.ref t]) (ts++[x]):=by
 refine⟨by simp[S.1],fun k y e=>?_⟩;by_cases hk:k<ts.length
 ·rw[ZK hk]at e;rw[ZK (by rw[S.1];exact hk)];exact S.2 k y e
 ·rw[ZP Aj]at e;have xr:k-ts.length=0:=by
   have:=(WB e).1;simp at this;lia
  rw[xr]at e;cases e;refine⟨t,?_,h⟩;rw[ZP (by rw[S.1];lia),S.1,xr];rfl
def lU(c:Case)(sh:List Pr)(i:Nat):Nat→List (Pr×Int)
 |0=>[]
 |j+1=>lU c sh i j++match oC c sh ZN with|some w=>[(aQ (i,j),w)]|none=>[]
def kj(c:Case)(sh:List Pr):Nat→List (Pr×Int)
 |0=>[]
 |n+1=>kj c sh n++lU c sh n c.ys.length
theorem qR(c:Case)(sh:List Pr)(i:Nat):∀j,(lU c sh i j).length≤j
 |0=>Nat.le_refl _
 |j+1=>by
  have:=qR c sh i j;simp only[lU,List.length_append];split<;>simp<;>lia
theorem wg(c:Case)(sh:List Pr):∀n,(kj c sh n).length≤n*c.ys.length
 |0=>by simp[kj]
 |n+1=>by
  have:=wg c sh n;have:=qR c sh n c.ys.length;simp only[kj,List.length_append,Nat.succ_mul]
  lia
theorem wj{c:Case}{sh:List Pr}{i:Nat}{x:Pr×Int}:∀{j},x∈lU c sh i j→oC c sh x.1=some x.2
 |0,h=>by cases h
 |j+1,h=>by
  rcases List.mem_append.mp h with h|h
  ·exact wj h
  ·split at h
   ·rename_i w e
    have:x=(aQ (i,j),w):=by simpa using h
    rw[this];exact e
   ·cases h
theorem wk{c:Case}{sh:List Pr}{x:Pr×Int}:∀{n},x∈kj c sh n→oC c sh x.1=some x.2
 |0,h=>by cases h
 |n+1,h=>by
  rcases List.mem_append.mp h with h|h
  ·exact wk h
  ·exact wj h
inductive uc(vs:List V)(H:Hp)(Q:VK)(u3:XK):Prop
 |mk (a s:Addr) (c:Case) (f g m l:Addr) (us ws:List V) (sh:List Pr) (_:vs=[.ref a, .ref s]) (_:jA H a c f g m l us) (_:H s=some (.lst ws)) (_:fN H ws sh) (_:c.xs.length≤50) (_:c.ys.length≤50) (_:∀H' r vs,av H H'→H r=none→H' r=some (.lst vs)→D0 H' vs (kj c sh c.xs.length)→Q (.ref r) H'):uc vs H Q u3
inductive ud(CF:Addr)(vs:List V)(H:Hp)(Q:VK)(u3:XK):Prop
 |mk (y:Addr) (P:Addr→Prop) (d:Fd) (dy wy rw pr:Addr) (kO iC:List V) (_:vs=[.ref y]) (_:we P H CF y d dy wy rw pr kO iC) (_:d.row.length=d.way.length) (_:d.way≠[]) (_:∀H',av H H'→Q (.bl true) H'):ud CF vs H Q u3
inductive qS(CF:Addr)(vs:List V)(H:Hp)(Q:VK)(u3:XK):Prop
 |mk (a t:Addr) (c:Case) (f g m l:Addr) (us ws:List V) (es:List Fd) (_:vs=[.ref a, .ref t]) (_:jA H a c f g m l us) (_:eI 50 c) (_:H t=some (.lst ws)) (_:cx (fun _=>True) H CF ws es) (_:bK (iF c []) c.out c.into c.least es) (_:∀H',av H H'→Q (.bl true) H'):qS CF vs H Q u3
theorem Gj{c:Case}{ps:List Pr}(w:Wy (lf (iF c [])) ps):lp c ps=true:=(y6.mpr w).1
theorem Iv(g:Pr→Option Int)(o p:Int)(ps:List Pr):(zU g o p ps).length=ps.length:=by simp[zU]
theorem bK.pair{c:Case}{es:List Fd}(t:bK (iF c []) c.out c.into c.least es){q:Pr}{w:Int}(h:oC c [] q=some w)(hl:c.least≤w):∃d∈es,q∈d.pairs:=by
 have hq:lf (iF c []) q=some w:=by rw[xo];exact h
 obtain⟨d,hd,_,p,hp,CI⟩:=t.met (ws:=[q]) (.one (by rw[hq];rfl)) (by simp[vl,hq];exact hl);have:p=q:=by simpa using hp
 exact⟨d,hd,this▸CI⟩
theorem bK.Gk{m:Nat}{c:Case}(ok:eI m c){es:List Fd}(t:bK (iF c []) c.out c.into c.least es){ds:List Fd}(hs:ds.Sublist es):(ds.map Fd.pairs).flatten.length≤m*m:=by
 have h2:=nQ (t.apart.sublist hs) fun d hd=>ki (t.iG d (hs.subset hd)).qI
 have h3:=len_sub _ (uV c.xs.length c.ys.length) h2 fun q hq=>by
  obtain⟨ps,hp,hq⟩:=List.mem_flatten.mp hq;obtain⟨d,hd,rfl⟩:=List.mem_map.mp hp;have:=(t.iG d (hs.subset hd)).op q hq;rw[ub]at this;obtain⟨w,hw⟩:=Option.isSome_iff_exists.mp this;obtain⟨⟨a1,a2⟩,a3,a4⟩:=c.pw_in hw;have:=ph (n:=c.xs.length) (m:=c.ys.length) (i:=q.1.toNat) (j:=q.2.toNat) (by lia) (by lia);have e:aQ (q.1.toNat,q.2.toNat)=q:=Prod.ext (by simp[aQ];lia) (by simp[aQ];lia);rw[e]at this;exact this
 rw[pe]at h3;exact ZX h3 (Nat.mul_le_mul ok.x ok.y)
end QF
namespace L2
open PySem PySem.Spec PyProof.Rows PySem.W PySem.Calls
open AutoSeq1 (wpAny_loadPart')
end L2
namespace QF
open PySem L2 PySem.Spec PyProof.Rows PySem.W PySem.Calls
section
variable{X:Cx}
theorem Pe{pins:List (Addr×Obj)}{s:Shared}{σ:L2.St}{H:Hp}{p:Addr}{r:Pr}(I:Inv X pins σ H s)(hp:H p=some (.tup (iK r))):iR s.heap p r:=by
 obtain⟨its,rr,pl,hz⟩:=I.tuple (xs:=iK r) (.of hp);cases rr with
 |cons r1 rr=>
  cases rr with
  |cons r2 rr=>
   cases rr;obtain⟨t,rfl⟩:=r1;obtain⟨u,rfl⟩:=r2;obtain⟨o,h1,h2,n,h3⟩:=pl;exact⟨o,t,u,n,h1,h2,h3⟩
end
def lV(es:List Fd)(k:Nat):List Pr:=((es.take k).map Fd.pairs).flatten
theorem px{es:List Fd}{k:Nat}{d:Fd}(ek:es[k]?=some d):lV es (k+1)=lV es k++d.pairs:=by
 unfold lV;rw[List.take_succ,ek];simp
theorem Iw{es:List Fd}{k:Nat}{q:Pr}(h:q∈lV es k):∃d∈es.take k,q∈d.pairs:=by
 obtain⟨ps,hp,hq⟩:=List.mem_flatten.mp h;obtain⟨d,hd,rfl⟩:=List.mem_map.mp hp;exact⟨d,hd,hq⟩
theorem Mg{es:List Fd}{d:Fd}{q:Pr}(hd:d∈es)(hq:q∈d.pairs):q∈lV es es.length:=by
 unfold lV;rw[List.take_length];exact List.mem_flatten.mpr ⟨_,List.mem_map.mpr ⟨d,hd,rfl⟩,hq⟩
theorem bK.Iy{c:Case}{es:List Fd}(t:bK (iF c []) c.out c.into c.least es){k:Nat}{d:Fd}(ek:es[k]?=some d){q:Pr}(hq:q∈d.pairs):q∉lV es k:=fun h=>by
 obtain⟨e,he,h2⟩:=Iw h;obtain⟨hk,rfl⟩:=WB ek;obtain⟨i,hi,rfl⟩:=Ξ he;rw[List.length_take]at hi;rw[List.getElem_take]at h2;exact List.pairwise_iff_getElem.mp t.apart i k (by lia) hk Aj q h2 hq
theorem bK.AX{m:Nat}{c:Case}(ok:eI m c){es:List Fd}(t:bK (iF c []) c.out c.into c.least es)(k:Nat):(lV es k).length≤m*m:=t.Gk ok (List.take_sublist _ _)
theorem IA{α:Type}{l:List α}{i:Nat}{g:α}(h:l.Nodup)(e:l[i]?=some g):g∉l.take i:=fun m=>by
 obtain⟨hi,rfl⟩:=WB e;obtain⟨j,hj,e2⟩:=Ξ m;rw[List.length_take]at hj;rw[List.getElem_take]at e2;exact List.pairwise_iff_getElem.mp h j i Aj hi Aj e2
theorem Gm{kvs:List (List Key×V)}{ps:List Pr}(h:m8 kvs ps)(g:Pr)(v:V):m8 (putK kvs (ba g) v) (ps++[g]):=fun p=>by
 rw[jd];by_cases hp:p=g
 ·rw[Hz (by rw[hp])];simp[hp]
 ·rw[Dy (fun z=>hp (dj z)),h p];simp[hp]
theorem xF{α:Type}{R:α→α→Prop}(as:∀a b,R a b→¬R b a):∀{l m:List α},l.Pairwise R→m.Pairwise R→(∀x,x∈l↔x∈m)→l=m
 |[],[],_,_,_=>rfl
 |[],b::m,_,_,h=>by have:=(h b).mpr K4;cases this
 |a::l,[],_,_,h=>by have:=(h a).mp K4;cases this
 |a::l,b::m,hl,hm,h=>by
  have JS:=List.pairwise_cons.mp hl;have Am:=List.pairwise_cons.mp hm;have e:a=b:=by
   rcases List.mem_cons.mp ((h a).mp K4)with e|e
   ·exact e
   ·rcases List.mem_cons.mp ((h b).mpr K4)with e2|e2
    ·exact e2.symm
    ·exact X7 (Am.1 a e) (as _ _ (JS.1 b e2))
  subst e
  congr 1
  refine xF as JS.2 Am.2 fun x=>⟨fun hx=>?_,fun hx=>?_⟩
  ·rcases List.mem_cons.mp ((h x).mp (by simp[hx]))with e|e
   ·subst e;exact X7 (JS.1 x hx) (as _ _ (JS.1 x hx))
   ·exact e
  ·rcases List.mem_cons.mp ((h x).mpr (by simp[hx]))with e|e
   ·subst e;exact X7 (Am.1 x hx) (as _ _ (Am.1 x hx))
   ·exact e
theorem Mh(p q:Pr)(h:iB p q=true):¬iB q p=true:=fun z=>by rw[AG h]at z;cases z
abbrev Ky:=Int×List Pr
inductive Rn(o p least:Int):(Nat→Nat→Option Int)→List Fd→Prop
 |stop {f:Nat→Nat→Option Int} (_:Stop f o p least):Rn o p least f []
 |round {f:Nat→Nat→Option Int} {W:Int} {gs:List (List Pr)} {ds rs:List Fd} (_:jD f o p least W gs ds) (_:Rn o p least (kh f gs.flatten) rs):Rn o p least f (ds++rs)
theorem Reach.rn{f0 f:Nat→Nat→Option Int}{o p least:Int}{ds rs:List Fd}(r:Reach f0 o p least ds f)(h:Rn o p least f rs):Rn o p least f0 (ds++rs):=by
 induction r generalizing rs with
 |start=>exact h
 |round _ R ih=>rw[List.append_assoc];exact ih (.round R h)
theorem bK.rn{f0:Nat→Nat→Option Int}{o p least:Int}{es:List Fd}(t:bK f0 o p least es):∃ds,Rn o p least f0 ds∧es.Perm ds:=by
 obtain⟨ds,f,r,st,pm⟩:=t.QX;have:=r.rn (.stop st);rw[List.append_nil]at this;exact⟨ds,this,pm⟩
def zp(H:Hp)(ws:List V)(ks:List Ky):Prop:=ws.length=ks.length∧∀(i:Nat)(x:Ky),ks[i]?=some x→∃t l us,ws[i]?=some (V.ref t)∧H t=some (.tup [.int x.1, .ref l])∧H l=some (.lst us)∧fN H us x.2
section
variable{X:Cx}
inductive FT(K:Frag)(x:V)(y:V)(H:Hp)(Q:VK):Prop
 |mk (p q:Addr) (xs ys:List V) (ps:List Pr) (_:x= .ref p) (_:y= .ref q) (_:iD K H p xs) (_:iD K H q ys) (_:fN H xs ps) (_:fN H ys ps) (_:Q (.bl false) H):FT K x y H Q
theorem AY(K:Frag)(hu:X.A.units+1<cLine)(hK:X.K=K:=by rfl):rV X (compareOp .NotEq) (FT K):=by
 subst hK;intro pins s σ H x y v u Q I rx ry h;obtain⟨p,q,xs,ys,ps,rfl,rfl,hp,hq,P1,P2,k⟩:=h;cases rx;cases ry;obtain⟨its,r,pl,hz⟩:=I.list hp;obtain⟨dC,r2,HB,MQ⟩:=I.list hq;have l1:=r.length;have l2:=r2.length;have c1:=P1.1;have c2:=P2.1;obtain⟨⟨cls,dd,data,sl⟩,ho,hc,n,hd⟩:=id pl.isList;obtain⟨⟨EZ,rZ,data2,mZ⟩,sP,qj,n2,hd2⟩:=id HB.isList;simp only at hc hd qj hd2;subst hc hd qj hd2;have hsz:its.toArray.size=dC.toArray.size:=by rw[List.size_toArray,List.size_toArray];lia
 refine richCompare_meets_room (op:= .NotEq) ⟨_,ho,rfl⟩ ⟨_,sP,rfl⟩ F.slot_list_ne F.entry_list_ne (F.args_list_ne_2 _ _) (SeqAt.list_neAt p q its.toArray dC.toArray n n2 dd rZ sl mZ hsz fun _=>true) ⟨ho,sP,fun j h1 h2=>?_,?_⟩ Aj
 ·have Jy:j<ps.length:=by simp at h1;lia
  have ej:ps[j]?=some ps[j]:=by simp[Jy]
  generalize ps[j]=g at ej;obtain⟨a1,e1,g1⟩:=P1.2 j g ej;obtain⟨a2,e2,g2⟩:=P2.2 j g ej;obtain⟨u1,X',Yb⟩:=r.get e1;obtain⟨u2,Yc,Yd⟩:=r2.get e2;cases Yb;cases Yd;have k1:its.toArray[j]= .ref a1:=by simpa[List.getElem?_eq_some_iff]using(WB X').2
  have k2:dC.toArray[j]= .ref a2:=by simpa[List.getElem?_eq_some_iff]using(WB Yc).2
  rw[k1,k2];by_cases ha:a1=a2
  ·subst ha;exact SeqAt.EqAt.same _
  ·obtain⟨Pa,r3,Pb,X9⟩:=I.tuple (xs:=iK g) (.of g1);obtain⟨Tu,r4,Ye,abC⟩:=I.tuple (xs:=iK g) (.of g2);have:=SeqAt.EqAt.of_refs ha (SeqAt.RcAt.tuples (A:=X.A.in1) Pb Ye (show X.A.in1.units<cLine from hu) (tM r3 r4 rfl rfl));have e9:true=decide (g=g):=MD;have h3:Pa.toArray.size=(iK g).length:=by rw[List.size_toArray,←r3.length]
   have h4:Tu.toArray.size=(iK g).length:=by rw[List.size_toArray,←r4.length]
   rw[h3,h4]at this;rw[e9,←xm,←kK];exact this
 ·refine⟨(fun x=>nomatch x), .bl false,H,I,?_,k⟩;have e9:((Z6 its.toArray.size).all fun _=>true)=true:=MD;rw[e9];rfl
end
end QF
namespace QF
open PySem L2
def Vy(c:Case):Prop:=∀ds f,Reach (iF c []) c.out c.into c.least ds f→ds.length≤20
inductive xG(CF:Addr)(vs:List V)(H:Hp)(Q:VK)(u3:XK):Prop
 |mk (a:Addr) (c:Case) (f g m l:Addr) (us:List V) (most:Nat) (_:vs=[.ref a]) (_:jA H a c f g m l us) (_:eI most c) (_:most≤50) (_:Vy c) (_:∀es,bK (iF c []) c.out c.into c.least es→∀H' r vs,av H H'→H r=none→H' r=some (.lst vs)→cx (fun _=>True) H' CF vs es→Q (.ref r) H'):xG CF vs H Q u3
def lr(H:Hp)(S:Addr)(ws:List V)(ks:List Ky):Prop:=ws.length=ks.length∧∀(i:Nat)(x:Ky),ks[i]?=some x→∃t l us,ws[i]?=some (V.ref t)∧H t=some (.tup [.int x.1, .ref l])∧H l=some (.lst us)∧fN H us x.2∧l≠S
theorem lr.Pf{H:Hp}{S:Addr}{ws:List V}{ks:List Ky}(D:lr H S ws ks):zp H ws ks:=⟨D.1,fun i x e=>let ⟨t,l,us,h1,h2,h3,P,_⟩:=D.2 i x e;⟨t,l,us,h1,h2,h3,P⟩⟩
theorem lr.nil{H:Hp}{S:Addr}:lr H S [] []:=⟨rfl,fun i x e=>by simp at e⟩
theorem lr.keep{H H':Hp}{S:Addr}{ws:List V}{ks:List Ky}(D:lr H S ws ks)(h:∀b o,b≠S→H b=some o→H' b=some o)(T:cJ H H'):lr H' S ws ks:=
 ⟨D.1,fun i x e=>let ⟨t,l,us,h1,h2,h3,P,n⟩:=D.2 i x e;⟨t,l,us,h1,T _ _ h2,h l _ n h3,P.cb T,n⟩⟩
theorem lr.snoc{H:Hp}{S:Addr}{ws:List V}{ks:List Ky}(D:lr H S ws ks){t l:Addr}{us:List V}{x:Ky}(h1:H t=some (.tup [.int x.1, .ref l]))(h2:H l=some (.lst us))(P:fN H us x.2)(n:l≠S):lr H S (ws++[.ref t]) (ks++[x]):=by
 refine⟨by simp[D.1],fun k y e=>?_⟩;by_cases hk:k<ks.length
 ·rw[ZK hk]at e;rw[ZK (by rw[D.1];exact hk)];exact D.2 k y e
 ·rw[ZP Aj]at e;have xr:k-ks.length=0:=by
   have:=(WB e).1;simp at this;lia
  rw[xr]at e;cases e;refine⟨t,l,us,?_,h1,h2,P,n⟩;rw[ZP (by rw[D.1];lia),D.1,xr];rfl
end QF
namespace L2
open PySem PySem.Spec PyProof.Rows PySem.W PySem.Calls
open AutoSeq1 (wpAny_loadPart')
end L2
namespace QF
open PySem L2 PySem.Spec PyProof.Rows PySem.W PySem.Calls
section
variable{X:Cx}
end
end QF
namespace QF
open PySem L2
end QF
namespace QF
open PySem L2
section
variable{m:Nat}{c:Case}
end
structure Mv(φ ψ:Pr→Pr)(o p o' p':Int):Prop where
 l:∀q,ψ (φ q)=q
 r:∀q,φ (ψ q)=q
 go:∀(u:Pr→Option Int) ps,Wy u ps→∃qs,Wy (fun q=>u (ψ q)) qs∧vl (fun q=>u (ψ q)) o' p' qs=vl u o p ps∧∀q,q∈qs↔ψ q∈ps
section
variable{φ ψ:Pr→Pr}{o p o' p' W least:Int}{f g:Nat→Nat→Option Int}
theorem Mv.bw(m:Mv φ ψ o p o' p')(h:∀q,lf g q=lf f (ψ q)){ps:List Pr}(b:BW f o p W ps):∃qs,BW g o' p' W qs∧∀q,q∈qs↔ψ q∈ps:=by
 obtain⟨qs,h1,h2,h3⟩:=m.go (lf f) ps b.1;have e:(fun q=>lf f (ψ q))=lf g:=funext fun q=>(h q).symm
 rw[e]at h1 h2;exact⟨qs,⟨h1,h2.trans b.2⟩,h3⟩
theorem Mv.F_(m:Mv φ ψ o p o' p')(h:∀q,lf g q=lf f (ψ q)){a b:Pr}(k:fG f o p W a b):fG g o' p' W (φ a) (φ b):=by
 induction k with
 |way ps w ha hb=>
  obtain⟨qs,w',hm⟩:=m.bw h w;exact .way qs w' ((hm _).mpr (by rw[m.l];exact ha)) ((hm _).mpr (by rw[m.l];exact hb))
 |tr _ _ i1 i2=>exact .tr i1 i2
theorem Mv.rel(m:Mv φ ψ o p o' p')(h:∀q,lf g q=lf f (ψ q))(q:Pr):lf f q=lf g (φ q):=by rw[h,m.l]
theorem Mv.groups(m:Mv φ ψ o p o' p')(m':Mv ψ φ o' p' o p)(h:∀q,lf g q=lf f (ψ q)){gs hs:List (List Pr)}(t:Told (fG f o p W) gs)(t':Told (fG g o' p' W) hs):∀x∈gs,∃y∈hs,∀q,q∈y↔ψ q∈x:=fun x hx=>by
 obtain⟨a,ha⟩:=List.exists_mem_of_ne_nil x (t.ne x hx);obtain⟨y,hy,hb⟩:=t'.all (φ a) (m.F_ h (t.mem hx ha));refine⟨y,hy,fun q=>?_⟩;rw[t'.cls y hy _ hb q,t.cls x hx a ha];constructor
 ·intro k;have:=m'.F_ (m.rel h) k;rw[m.l]at this;exact this
 ·intro k;have:=m.F_ h k;rw[m.r]at this;exact this
theorem Mv.round(m:Mv φ ψ o p o' p')(m':Mv ψ φ o' p' o p)(h:∀q,lf g q=lf f (ψ q)){gs hs:List (List Pr)}{ds es:List Fd}{W':Int}(R:jD f o p least W gs ds)(R':jD g o' p' least W' hs es):W=W'∧∀d∈ds,∃e∈es,e.worth=d.worth∧∀q,q∈e.pairs↔ψ q∈d.pairs:=by
 have eW:W=W':=by
  obtain⟨ps,b⟩:=R.ex;obtain⟨qs,b',_⟩:=m.bw h b;obtain⟨rs,c⟩:=R'.ex;obtain⟨us,c',_⟩:=m'.bw (m.rel h) c;have h1:=R'.top qs b'.1;have h2:=R.top us c'.1;rw[b'.2]at h1;rw[c'.2]at h2
  lia
 subst eW;refine⟨rfl,fun d hd=>?_⟩;have hx:d.pairs∈gs:=by rw[←R.Gd];exact List.mem_map.mpr ⟨d,hd,rfl⟩
 obtain⟨y,hy,hm⟩:=m.groups m' h R.told R'.told _ hx;rw[←R'.Gd]at hy;obtain⟨e,he,rfl⟩:=List.mem_map.mp hy;exact⟨e,he,by rw[(R'.ok e he).worth,(R.ok d hd).worth],hm⟩
theorem Rn.moved(m:Mv φ ψ o p o' p')(m':Mv ψ φ o' p' o p){ds:List Fd}(r:Rn o p least f ds):∀{g:Nat→Nat→Option Int}{es:List Fd},(∀q,lf g q=lf f (ψ q))→Rn o' p' least g es→∀d∈ds,∃e∈es,e.worth=d.worth∧∀q,q∈e.pairs↔ψ q∈d.pairs:=by
 induction r with
 |stop s=>exact fun _ _ d hd=>by cases hd
 |@round f W gs ds rs R r' ih=>
  intro g es h s d hd;cases s with
  |stop s=>
   obtain⟨ps,b⟩:=R.ex;obtain⟨qs,b',_⟩:=m.bw h b;have h1:=s qs b'.1;rw[b'.2]at h1;have:=R.least
   lia
  |@round _ W' hs es us R' s'=>
   obtain⟨eW,hr⟩:=m.round m' h R R';subst eW;have Lb:∀q,q∈hs.flatten↔ψ q∈gs.flatten:=fun q=>by
    simp only[List.mem_flatten];constructor
    ·rintro⟨y,hy,hq⟩;obtain⟨x,hx,hm⟩:=m'.groups m (m.rel h) R'.told R.told y hy;exact⟨x,hx,(hm _).mpr (by rw[m.r];exact hq)⟩
    ·rintro⟨x,hx,hq⟩;obtain⟨y,hy,hm⟩:=m.groups m' h R.told R'.told x hx;exact⟨y,hy,(hm q).mpr hq⟩
   rcases List.mem_append.mp hd with hd|hd
   ·obtain⟨e,he,k⟩:=hr d hd;exact⟨e,Ι he,k⟩
   ·obtain⟨e,he,k⟩:=ih (g:=kh g hs.flatten) (fun q=>by
     rw[mH,mH];by_cases hq:q∈hs.flatten
     ·rw[Hz hq,Hz ((Lb q).mp hq)]
     ·rw[Dy hq,Dy (fun z=>hq ((Lb q).mpr z)),h]) s' d hd
    exact⟨e,ZU he,k⟩
theorem bK.moved(m:Mv φ ψ o p o' p')(m':Mv ψ φ o' p' o p)(h:∀q,lf g q=lf f (ψ q)){ds es:List Fd}(t:bK f o p least ds)(t':bK g o' p' least es):∀d∈ds,∃e∈es,e.worth=d.worth∧∀q,q∈e.pairs↔ψ q∈d.pairs:=fun d hd=>by
 obtain⟨abK,r,pm⟩:=t.rn;obtain⟨qi,r',Yg⟩:=t'.rn;obtain⟨e,he,k⟩:=r.moved m m' h r' d (pm.mem_iff.mp hd);exact⟨e,Yg.mem_iff.mpr he,k⟩
end
theorem Mi{φ ψ:Pr→Pr}{o p o' p':Int}(l:∀q,ψ (φ q)=q)(r:∀q,φ (ψ q)=q)(s:∀{a b},yr a b→yr (φ a) (φ b))(k:∀a b,gp o' p' (φ a) (φ b)=gp o p a b):Mv φ ψ o p o' p':=by
 refine⟨l,r,fun u ps w=>⟨ps.map φ,⟨fun z=>w.ne (List.map_eq_nil_iff.mp z),fun q hq=>?_,List.pairwise_map.mpr (w.up.imp s)⟩,?_,fun q=>⟨fun hq=>?_,fun hq=>List.mem_map.mpr ⟨_,hq,r q⟩⟩⟩⟩
 ·obtain⟨x,hx,rfl⟩:=List.mem_map.mp hq;show(u (ψ (φ x))).isSome=true;rw[l];exact w.ok x hx
 ·have:∀ps:List Pr,vl (fun q=>u (ψ q)) o' p' (ps.map φ)=vl u o p ps:=fun ps=>by
   induction ps with
   |nil=>rfl
   |cons a t ih=>
    cases t with
    |nil=>show(u (ψ (φ a))).getD 0=_;rw[l];rfl
    |cons b t=>
     show(u (ψ (φ a))).getD 0-gp o' p' (φ a) (φ b)+vl (fun q=>u (ψ q)) o' p' ((b::t).map φ)=_;rw[l,k,ih];rfl
  exact this ps
 ·obtain⟨x,hx,rfl⟩:=List.mem_map.mp hq;rw[l];exact hx
def xH(q:Pr):Pr:=(q.2,q.1)
theorem xI(o p:Int):Mv xH xH o p p o:=Mi (fun _=>rfl) (fun _=>rfl) (fun h=>⟨h.2,h.1⟩) fun a b=>by simp[gp,xH];lia
theorem IB{α β:Type}[DecidableEq β]{R:α→β→Prop}{l:List α}{m:List β}(h:∀a∈l,∃b∈m,R a b)(hi:l.Pairwise fun a a'=>∀b,R a b→¬R a' b):l.length≤m.length:=by
 have:∃k:List β,k.length=l.length∧k.Nodup∧(∀b∈k,b∈m)∧∀b∈k,∃a∈l,R a b:=by
  induction l with
  |nil=>exact⟨[],rfl, .nil,MD,MD⟩
  |cons a t ih=>
   have sN:=List.pairwise_cons.mp hi;obtain⟨k,k1,k2,k3,k4⟩:=ih (fun x hx=>h x (ZR hx)) sN.2;obtain⟨b,hb,r⟩:=h a (List.mem_cons_self ..);refine⟨b::k,by simp[k1],List.nodup_cons.mpr ⟨fun z=>?_,k2⟩,fun x hx=>?_,fun x hx=>?_⟩
   ·obtain⟨a',Ii,r'⟩:=k4 b z;exact sN.1 a' Ii b r r'
   ·rcases List.mem_cons.mp hx with rfl|hx
    ·exact hb
    ·exact k3 x hx
   ·rcases List.mem_cons.mp hx with rfl|hx
    ·exact⟨a,List.mem_cons_self ..,r⟩
    ·obtain⟨a',Ii,r'⟩:=k4 x hx;exact⟨a',ZR Ii,r'⟩
 obtain⟨k,k1,k2,k3,_⟩:=this;rw[←k1];exact len_sub k m k2 k3
end QF
namespace L2
open PySem PySem.Spec PyProof.Rows PySem.W PySem.Calls
open AutoSeq1 (wpAny_loadPart')
open PySem.SeqAt PySem.MeetsSeq PySem.MeetsSeq2 PySem.MeetsSeq3 PySem.SeqRoads2
theorem Mj{prog:Program}{w:World}{A:Around}{E:Value→Shared→Prop}{s:Shared}{x y:Addr}{p q:Int×Int}{Q:Value→Shared→Prop}(hu:A.units<cLine)(hx:iR s.heap x p)(hy:iR s.heap y q)(h:Q (.bool (iB p q)) s):wpAny (model prog w) A (richCompare .Lt (.ref x) (.ref y)) Q E s:=tS hu hx hy h
theorem Gp(l b x y:Addr)(items items2:Array Value)(p q:Int×Int)(n n2:Nat)(dd rZ:Option Addr)(sl mZ:Array (Option Value))(h0:items[0]?=some (.ref x))(h1:items2[0]?=some (.ref y))(cB:p≠q):
  Meets (Builtin.«list.__eq__.loop» ⟨[.ref l, .ref b,rawInt 0,rawInt 0],[]⟩)
   (fun A R s=>A.units+3<cLine∧s.heap.get? l=some {cls:= .type "list",dict:=dd,data:= .seq items n,slots:=sl}∧s.heap.get? b=some {cls:= .type "list",dict:=rZ,data:= .seq items2 n2,slots:=mZ}∧iR s.heap x p∧iR s.heap y q∧
    R (.ok (.ret (.bool (iB p q)))) s):=by
 intro prog w A R s h;obtain⟨hp,g,d,tk,os⟩:=s;obtain⟨hu,hl,hb,hx,hy,h⟩:=h
 wp_walk using wpAny_loadPart' hl,wpAny_loadPart' hb
 have HZ:items[((0:Int)).toNat]?=some (.ref x):=h0;have zP:items2[((0:Int)).toNat]?=some (.ref y):=h1;rw[HZ,zP];refine wpAny_bind (qJ (show A.in1.units+1<cLine from by show A.units+1+1<cLine;lia) hx hy prog w _ _ ?_);rw[decide_eq_false cB]
 wp_walk using wpAny_loadPart' hl,wpAny_loadPart' hb
 rw[HZ,zP]
 wp_walk using Mj (show A.in1.units<cLine from by show A.units+1<cLine;lia) hx hy
 exact h
theorem Pg(l b x y:Addr)(items items2:Array Value)(p q:Int×Int)(n n2:Nat)(dd rZ:Option Addr)(sl mZ:Array (Option Value))(h0:items[0]?=some (.ref x))(h1:items2[0]?=some (.ref y))(cB:p≠q):
  Meets (Builtin.«list.__lt__» ⟨[.ref l, .ref b],[]⟩)
   (fun A R s=>A.units+3<cLine∧s.heap.get? l=some {cls:= .type "list",dict:=dd,data:= .seq items n,slots:=sl}∧s.heap.get? b=some {cls:= .type "list",dict:=rZ,data:= .seq items2 n2,slots:=mZ}∧iR s.heap x p∧iR s.heap y q∧
    R (.ok (.ret (.bool (iB p q)))) s):=by
 intro prog w A R s h;obtain⟨hp,g,d,tk,os⟩:=s;obtain⟨hu,hl,hb,hx,hy,h⟩:=h;have f3:=AutoSeq1.sub_list_list
 wp_walk using wpAny_loadPart' hl,wpAny_loadPart' hb
 exact⟨plainId_quiet plain_eq_loop _,codeAny_builtin entry_eq_loop (by
  rw[Around.under_plainId plain_eq_loop _];exact Gp l b x y items items2 p q n n2 dd rZ sl mZ h0 h1 cB prog w A R _ ⟨hu,hl,hb,hx,hy,h⟩)⟩
theorem Gq(l b x y:Addr)(items items2:Array Value)(p q:Int×Int)(n n2:Nat)(dd rZ:Option Addr)(sl mZ:Array (Option Value))(h0:items[0]?=some (.ref x))(h1:items2[0]?=some (.ref y))(cB:p≠q):
  Meets (Builtin.«list.__eq__.loop» ⟨[.ref l, .ref b,rawInt 0,rawInt 2],[]⟩)
   (fun A R s=>A.units+3<cLine∧s.heap.get? l=some {cls:= .type "list",dict:=dd,data:= .seq items n,slots:=sl}∧s.heap.get? b=some {cls:= .type "list",dict:=rZ,data:= .seq items2 n2,slots:=mZ}∧iR s.heap x p∧iR s.heap y q∧
    R (.ok (.ret (.bool false))) s):=by
 intro prog w A R s h;obtain⟨hp,g,d,tk,os⟩:=s;obtain⟨hu,hl,hb,hx,hy,h⟩:=h
 wp_walk using wpAny_loadPart' hl,wpAny_loadPart' hb
 have HZ:items[((0:Int)).toNat]?=some (.ref x):=h0;have zP:items2[((0:Int)).toNat]?=some (.ref y):=h1;rw[HZ,zP];refine wpAny_bind (qJ (show A.in1.units+1<cLine from by show A.units+1+1<cLine;lia) hx hy prog w _ _ ?_);rw[decide_eq_false cB]
 wp_walk using wpAny_loadPart' hl,wpAny_loadPart' hb
 rw[HZ,zP]
 wp_walk
 exact h
theorem Ph(l b x y:Addr)(items items2:Array Value)(p q:Int×Int)(n n2:Nat)(dd rZ:Option Addr)(sl mZ:Array (Option Value))(hsz:items.size=items2.size)(h0:items[0]?=some (.ref x))(h1:items2[0]?=some (.ref y))(cB:p≠q):
  Meets (Builtin.«list.__eq__» ⟨[.ref l, .ref b],[]⟩)
   (fun A R s=>A.units+3<cLine∧s.heap.get? l=some {cls:= .type "list",dict:=dd,data:= .seq items n,slots:=sl}∧s.heap.get? b=some {cls:= .type "list",dict:=rZ,data:= .seq items2 n2,slots:=mZ}∧iR s.heap x p∧iR s.heap y q∧
    R (.ok (.ret (.bool false))) s):=by
 intro prog w A R s h;obtain⟨hp,g,d,tk,os⟩:=s;obtain⟨hu,hl,hb,hx,hy,h⟩:=h;have f3:=AutoSeq1.sub_list_list;have Pj:¬(items.size !=items2.size)=true:=by simp[hsz]
 wp_walk using wpAny_loadPart' hl,wpAny_loadPart' hb
 exact⟨plainId_quiet plain_eq_loop _,codeAny_builtin entry_eq_loop (by
  rw[Around.under_plainId plain_eq_loop _];exact Gq l b x y items items2 p q n n2 dd rZ sl mZ h0 h1 cB prog w A R _ ⟨hu,hl,hb,hx,hy,h⟩)⟩
open PySem.SeqAt
section
variable{prog:Program}{w:World}{A:Around}{E:Value→Shared→Prop}{s:Shared}
def Gr(h:Heap)(x:Addr)(p:Int×Int):Prop:=∃items t,h.IsList x items∧items[0]?=some (.ref t)∧iR h t p
theorem Gs{x y:Addr}{p q:Int×Int}{Q:Value→Shared→Prop}(hu:A.units+3<cLine)(cB:p≠q)(hx:Gr s.heap x p)(hy:Gr s.heap y q)(h:Q (.bool (iB p q)) s):wpAny (model prog w) A (compareOp .Lt (.ref x) (.ref y)) Q E s:=by
 obtain⟨its,t,⟨⟨cls,dd,data,sl⟩,ho,hc,n,hd⟩,h1,h2⟩:=hx;obtain⟨dC,t2,⟨⟨EZ,rZ,data2,mZ⟩,sP,qj,n2,hd2⟩,g1,g2⟩:=hy;simp only at hc hd qj hd2;subst hc hd qj hd2;exact richCompare_meets_room (op:= .Lt) ⟨_,ho,rfl⟩ ⟨_,sP,rfl⟩ F.slot_list_lt F.entry_list_lt (F.args_list_lt_2 _ _) (Pg x y t t2 its dC p q n n2 dd rZ sl mZ h1 g1 cB) ⟨hu,ho,sP,h2,g2,show Value.bool (iB p q)≠Value.notImplemented∧Q (.bool (iB p q)) s from⟨(fun x=>nomatch x),h⟩⟩ Aj
theorem IC{x y:Addr}{p q:Int×Int}(hu:A.units+3<cLine)(cB:p≠q)(hx:Gr s.heap x p)(hy:Gr s.heap y q):EqAt A s (.ref x) (.ref y) false:=by
 obtain⟨its,t,l1,h1,h2⟩:=hx;obtain⟨dC,t2,l2,g1,g2⟩:=hy;have zd:x≠y:=fun e=>by
  subst e;obtain⟨o,ho,_,n,hd⟩:=l1;obtain⟨o',Ct,_,n',zO⟩:=l2;rw[ho]at Ct;cases Ct;rw[hd]at zO;injection zO with zO _;rw[←zO,h1]at g1;cases g1;obtain⟨o,_,_,_,e1,_,e3⟩:=h2;obtain⟨o',_,_,_,f1,_,f3⟩:=g2;rw[e1]at f1;cases f1;rw[e3]at f3;injection f3 with f3 _;have f3:=congrArg Array.toList f3;simp at f3;exact cB (Prod.ext f3.1.1 f3.2.1)
 refine EqAt.of_refs zd ?_;by_cases hsz:its.size=dC.size
 ·have i1:0<its.size:=(Array.getElem?_eq_some_iff.mp h1).1;have i2:0<dC.size:=(Array.getElem?_eq_some_iff.mp g1).1;intro prog w E Q h;obtain⟨⟨cls,dd,data,sl⟩,ho,hc,n,hd⟩:=l1;obtain⟨⟨EZ,rZ,data2,mZ⟩,sP,qj,n2,hd2⟩:=l2;simp only at hc hd qj hd2;subst hc hd qj hd2;exact richCompare_meets_room (op:= .Eq) ⟨_,ho,rfl⟩ ⟨_,sP,rfl⟩ F.slot_list_eq F.entry_list_eq (F.args_list_eq_2 _ _) (Ph x y t t2 its dC p q n n2 dd rZ sl mZ hsz h1 g1 cB) ⟨hu,ho,sP,h2,g2,show Value.bool false≠Value.notImplemented∧Q (.bool false) s from⟨(fun x=>nomatch x),h⟩⟩ Aj
 ·exact RcAt.lists_lengths l1 l2 (by simpa using hsz) (by lia)
def AZ(h:Heap)(x:Addr)(k:Kw):Prop:=∃o t y c,h.get? x=some o∧o.cls= .type "tuple"∧o.data= .seq #[.int k.1 t, .ref y] c∧Gr h y k.2
theorem Pk{x y:Addr}{p q:Kw}{C:Bool→Shared→Prop}(hu:A.units+3<cLine)(hx:AZ s.heap x p)(hy:AZ s.heap y q)(cB:x=y∨p.2≠q.2)(h:C (rH p q) s):wpAny (model prog w) A (keyLt' (tuples' true) (.ref x) (.ref y)) C E s:=by
 obtain⟨ox,t,z,n,h1,h2,h3,h4⟩:=hx;obtain⟨oy,t',z',n',g1,g2,g3,g4⟩:=hy;refine kat_lt h1 h3 g1 g3 (kat_cons (M0 _ _ _ _ ?_));rcases cB with e|cB
 ·subst e;rw[h1]at g1;cases g1;rw[h3]at g3;injection g3 with g3 _;have g3:=congrArg Array.toList g3;simp at g3;obtain⟨⟨a1,a2⟩,a3⟩:=g3;subst a3;have e2:p.2=q.2:=by
   obtain⟨i1,u1,b1,b2,b3⟩:=h4;obtain⟨i2,u2,c1,c2,c3⟩:=g4;obtain⟨o,ho,_,n,hd⟩:=b1;obtain⟨o',Ct,_,n',zO⟩:=c1;rw[ho]at Ct;cases Ct;rw[hd]at zO;injection zO with zO _;rw[←zO,b2]at c2;cases c2;obtain⟨o,_,_,_,e1,_,e3⟩:=b3;obtain⟨o',_,_,_,f1,_,f3⟩:=c3;rw[e1]at f1;cases f1;rw[e3]at f3;injection f3 with f3 _;have f3:=congrArg Array.toList f3;simp at f3;exact Prod.ext f3.1.1 f3.2.1
  rw[decide_eq_true a1];refine kat_yes (kat_cons (SeqAt.EqAt.same _ _ _ _ _ (kat_yes (kat_nil ?_))));have:rH p q=decide (#[Value.int p.1 t, .ref z].size<#[Value.int q.1 t', .ref z].size):=by
   unfold rH;rw[Hz a1,e2];simp[iB]
  rw[this]at h;exact h
 ·by_cases a:p.1=q.1
  ·rw[decide_eq_true a];have e:rH p q=iB p.2 q.2:=Hz a;rw[e]at h;exact kat_yes (kat_cons (IC hu cB h4 g4 _ _ _ _ (kat_no (kat_one _ _ (Gs hu cB h4 g4 h)))))
  ·rw[decide_eq_false a];have e:rH p q=decide (p.1<q.1):=Dy a;rw[e]at h;exact kat_no (oneLt_int h)
theorem Cg{h:Heap}:∀{its:List Value},(∀v∈its,∃x p,v= .ref x∧AZ h x p)→∃fs,KatTups h its fs∧fs.length=its.length∧∀f∈fs,∃i t,f=Value.int i t
 |[],_=>⟨[], .nil,rfl,fun f hf=>by cases hf⟩
 |v::r,hv=>by
  obtain⟨x,p,rfl,o,t,u,n,h1,h2,h3,_⟩:=hv v (List.mem_cons_self ..);obtain⟨fs,k1,k2,k3⟩:=Cg (its:=r) fun v KJ=>hv v (ZR KJ)
  refine⟨.int p.1 t::fs, .cons h1 h2 h3 rfl k1,by simp[k2],fun f hf=>?_⟩;rcases List.mem_cons.mp hf with rfl|hf
  ·exact⟨_,_,rfl⟩
  ·exact k3 f hf
theorem ID{its:List Value}{Q:SortKind→Shared→Prop}(cB:0<its.length)(hv:∀v∈its,∃x p,v= .ref x∧AZ s.heap x p)(h:Q (tuples' true) s):wpAny (model prog w) A (keyKind' its.toArray) Q E s:=by
 obtain⟨fs,k1,k2,k3⟩:=Cg hv;refine kat_kind (T:= .type "int") k1 Aj (fun v hv=>?_) (Sz) h;obtain⟨i,t,rfl⟩:=k3 v hv;exact .now
end
end L2
namespace QF
open PySem L2 PySem.Spec PyProof.Rows PySem.W PySem.Calls
def DB(k:Ky):Kw:=(k.1,gL k.2)
inductive Gu(K:Frag)(vs:List V)(H:Hp)(Q:VK):Prop
 |mk (l:Addr) (xs:List V) (ks:List Ky) (_:vs=[.ref l]) (_:iD K H l xs) (_:zp H xs ks) (_:(ks.map fun k=>gL k.2).Nodup) (_:∀k∈ks,k.2≠[]) (_:ks.length<10000) (_:∀D ys qs,H D=none→zp H ys qs→qs.Perm ks→qs.Pairwise (fun p q=>rH (DB p) (DB q)=true)→Q (.ref D) (upd H D (.lst ys))):Gu K vs H Q
theorem ue{X:Cx}(K:Frag)(hu:X.A.units+6<cLine)(hK:X.K=K:=by rfl):iJ X (.builtin "sorted") (Gu K):=by
 subst hK;intro pins s σ H vs us Q I r h;obtain⟨l,xs,ks,rfl,hq,DU,nd,cB,DV,q⟩:=h;obtain⟨u,rfl,rx⟩:=vals1 r;cases rx;obtain⟨its,r',pl,hz⟩:=I.list hq;have hlen:=r'.length;have qv:=DU.1;have key:∀i,i<its.length→∃t a us,xs[i]?=some (.ref t)∧its[i]?=some (.ref t)∧H t=some (.tup [.int (ks.getD i (0,[])).1, .ref a])∧H a=some (.lst us)∧fN H us (ks.getD i (0,[])).2∧AZ s.heap t (DB (ks.getD i (0,[]))):=fun i hi=>by
  have hp:ks[i]?=some (ks.getD i (0,[])):=by simp[show i<ks.length by lia]
  have hn:=cB _ (Y7 hp);generalize ks.getD i (0,[])=k at hp hn;obtain⟨t,a,us,h1,h2,h3,P⟩:=DU.2 i _ hp;obtain⟨v,e3,e4⟩:=r'.get h1;cases e4;refine⟨t,a,us,h1,e3,h2,h3,P,?_⟩;obtain⟨XR,r2,⟨o,e1,e2,n,e3⟩,_⟩:=I.tuple (xs:=[.int k.1, .ref a]) (.of h2);cases r2 with
  |cons c b=>
   cases b with
   |cons c' d=>
    cases d;obtain⟨ta,rfl⟩:=c;cases c';refine⟨o,ta,a,n,e1,e2,e3,?_⟩;obtain⟨Yh,r3,Pb,_⟩:=I.list (xs:=us) (.of h3);obtain⟨t0,g1,g2⟩:∃t0,us[0]?=some (V.ref t0)∧H t0=some (.tup (iK (gL k.2))):=P.2 0 _ (by
     cases e:k.2 with
     |nil=>exact X7 e hn
     |cons x r=>rfl)
    obtain⟨v,f1,f2⟩:=r3.get g1;cases f2;exact⟨Yh.toArray,t0,Pb.isList,by simpa using f1,Pe I g2⟩
 have DW:∀{h':Heap},(∀b o,s.heap.get? b=some o→h'.get? b=some o)→∀{x p},AZ s.heap x p→AZ h' x p:=fun k _ _ ⟨o,t,u,n,a,b,c,its,v,⟨o',p1,p2⟩,l2,Yi,t',u',n',q1,q2⟩=>⟨o,t,u,n,k _ _ a,b,c,its,v,⟨o',k _ _ p1,p2⟩,l2,Yi,t',u',n',k _ _ q1,q2⟩
 have inj:∀i j,i<its.length→j<its.length→i≠j→(DB (ks.getD i (0,[]))).2≠(DB (ks.getD j (0,[]))).2:=fun i j hi hj m7 e=>by
  refine m7 ((List.getElem?_inj (by rw[List.length_map];lia) nd).mp ?_);rw[List.getElem?_map,List.getElem?_map];have h1:ks[i]?=some (ks.getD i (0,[])):=by simp[show i<ks.length by lia]
  have h2:ks[j]?=some (ks.getD j (0,[])):=by simp[show j<ks.length by lia]
  rw[h1,h2];exact congrArg some e
 have L:y8 its.length fun i j=>rH (DB (ks.getD i (0,[]))) (DB (ks.getD j (0,[]))):=by
  refine⟨fun i j k _ _ _ a b=>FI a b,fun i j _ _ a=>AI a,fun i j hi hj cB=>B6 fun e=>inj i j hi hj cB (congrArg Prod.snd e)⟩
 have L0:its.Nodup:=by
  refine List.pairwise_iff_getElem.mpr fun i j hi hj m7 e=>?_
  obtain⟨t1,a1,kO,_,a2,a3,a4,a5,_⟩:=key i hi;obtain⟨t2,b1,iC,_,b2,b3,b4,b5,_⟩:=key j hj;rw[ZZ hi]at a2;rw[ZZ hj,←e,a2]at b2;cases b2;rw[a3]at b3;have:=HO.tup.inj (YA b3);simp only[List.cons.injEq,V.int.injEq,V.ref.injEq,and_true]at this;obtain⟨_,rfl⟩:=this;rw[a4]at b4;have:=HO.lst.inj (YA b4);subst this;refine inj i j hi hj Aj ?_;show gL _=gL _;have n1:=cB _ (Y7 (show ks[i]?=some (ks.getD i (0,[])) by simp[show i<ks.length by lia]));have n2:=cB _ (Y7 (show ks[j]?=some (ks.getD j (0,[])) by simp[show j<ks.length by lia]));have g:∀{qs:List Pr},qs≠[]→qs[0]?=some (gL qs):=fun{qs} h=>by
   cases qs with
   |nil=>exact absurd rfl h
   |cons x r=>rfl
  obtain⟨x1,u1,v1⟩:=a5.2 0 _ (g n1);obtain⟨x2,u2,v2⟩:=b5.2 0 _ (g n2);rw[u1]at u2;cases u2;rw[v1]at v2;have:=HO.tup.inj (YA v2);simp only[iK,List.cons.injEq,V.int.injEq,and_true]at this;exact Prod.ext this.1 this.2
 refine tQ (κ:=tuples' true) pl.isList Aj L0 L (fun h2 s' k Q' hq=>?_) (fun i j hi hj s' k C hC=>?_) fun p h' D c hp hs k hD e=>?_
 ·refine ID Aj (fun v hv=>?_) hq;obtain⟨i,hi,rfl⟩:=Ξ hv;obtain⟨t,_,_,_,h3,_,_,_,h5⟩:=key i hi;exact⟨t,_,by rw[ZZ hi]at h3;exact YA h3,DW k h5⟩
 ·obtain⟨t,_,_,_,h3,_,_,_,h5⟩:=key i hi;obtain⟨t',_,_,_,g3,_,_,_,g5⟩:=key j hj;have e1:its.getD i .none= .ref t:=by simp[h3]
  have e2:its.getD j .none= .ref t':=by simp[g3]
  rw[e1,e2];refine Pk (show X.A.units+1+1+3<cLine by lia) (DW k h5) (DW k g5) ?_ hC;by_cases m7:i=j
  ·subst m7;rw[h3]at g3;exact .inl (Value.ref.inj (YA g3))
  ·exact .inr (inj i j hi hj m7)
 ·have mem:∀i∈p.toList,i<its.length:=fun i hi=>by
   have:=hp.mem_iff.mp hi;simpa using this
  have rel:Vals (p.toList.map fun i=>xs.getD i .cL) (p.toList.map fun i=>its.getD i Value.none):=tR fun i hi=>by
   obtain⟨t,_,_,h1,h3,_⟩:=key i (mem i hi);have e1:xs.getD i .cL= .ref t:=by simp[h1]
   have e2:its.getD i .none= .ref t:=by simp[h3]
   rw[e1,e2];rfl
  have hsz:(p.toList.map fun i=>xs.getD i V.cL).length=its.length:=by rw[List.length_map,Array.length_toList,hp.size]
  have AH:(p.toList.map fun i=>ks.getD i (0,[])).length=its.length:=by rw[List.length_map,Array.length_toList,hp.size]
  refine⟨.ref D,_,I.laid (t':=s.toks) k hD (show cO X.prog X.w _ h' _ (.lst _)from⟨by rw[hsz,←hlen];exact hz,_,c,rel,e⟩),rfl,q D _ (p.toList.map fun i=>ks.getD i (0,[])) (I.bS.fresh hD) ⟨by rw[hsz,AH],fun i f hf=>?_⟩ ?_ ?_⟩
  ·rw[List.getElem?_map]at hf⊢;cases ei:p.toList[i]? with
   |none=>rw[ei]at hf;cases hf
   |some j=>
    rw[ei]at hf;have hf:ks.getD j (0,[])=f:=YA hf;obtain⟨t,a,us,h1,h3,h4,h5,h6,_⟩:=key j (mem j (Y7 ei));rw[hf]at h4 h6;refine⟨t,a,us,?_,h4,h5,h6⟩;show some (xs.getD j .cL)=_;simp[h1]
  ·have h1:=hp.map (fun i=>ks.getD i (0,[]));refine h1.trans ?_;have:(Z6 its.length).map (fun i=>ks.getD i (0,[]))=ks:=by
    apply List.ext_getElem?;intro i;rw[List.getElem?_map];by_cases hi:i<its.length
    ·rw[List.getElem?_range hi];simp[show i<ks.length by lia]
    ·rw[List.getElem?_eq_none Z_,List.getElem?_eq_none Aj];rfl
   rw[this]
  ·rw[List.pairwise_iff_getElem];intro i j hi hj m7;have sN:i<its.length:=by rw[AH]at hi;exact hi
   have zf:j<its.length:=by rw[AH]at hj;exact hj
   have:=hs i j m7 zf;have Dk:=hp.size;simp only[List.getElem_map];have e1:gd p i=p.toList[i]'(by simp;lia):=by simp[gd,show i<p.size by lia]
   have e2:gd p j=p.toList[j]'(by simp;lia):=by simp[gd,show j<p.size by lia]
   rw[e1,e2]at this;exact this
end QF
namespace QF
open PySem L2
def Tv(φ:Pr→Pr)(c c0:Case):Prop:=(∀q,(c.pw q).isSome=(c0.pw (φ q)).isSome)∧((bL c0:Int)-1)*c.same+1≤c.least
theorem Gv{φ:Pr→Pr}{m:Nat}{c c0:Case}(k:eI m c)(inj:∀q,φ (φ q)=q)(F0:Tv φ c c0):Vy c:=fun ds f r=>by
 obtain⟨hs,hl⟩:=F0;have each:∀d∈ds,bL c0≤d.pairs.length:=fun d hd=>by
  have F:=r.iG d hd;have h1:=JR (g:=lf (iF c [])) (S:=c.same) k.out.1 k.into.1 F.way.up fun q hq=>by
   obtain⟨w,hw⟩:=Option.isSome_iff_exists.mp (F.way.ok q hq);refine⟨w,hw,?_⟩;rw[ub]at hw;exact pw_le k.good hw
  rw[F.worth]at h1;have h2:=F.least;have Yj:=k.same.1;have h4:((bL c0:Int)-1)*c.same<(d.way.length:Int)*c.same:=by lia
  have h5:(bL c0:Int)-1<(d.way.length:Int):=Int.lt_of_mul_lt_mul_right h4 Aj;have h6:=len_sub d.way d.pairs (F.way.up.imp fun{a b} h e=>by
   rw[e]at h;have:=h.1
   lia) F.sub
  lia
 have h1:=Gh (l:=ds.map Fd.pairs) (k:=bL c0) fun x hx=>by
  obtain⟨d,hd,rfl⟩:=List.mem_map.mp hx;exact each d hd
 have h2:=nQ r.apart.ap fun d hd=>ki (r.iG d hd).qI
 have h3:=len_sub ((ds.map Fd.pairs).flatten.map φ) ((uV c0.xs.length c0.ys.length).filter fun q=>(c0.pw q).isSome) (List.pairwise_map.mpr (h2.imp fun{a b} h e=>h (by rw[←inj a,e,inj]))) fun q hq=>by
  obtain⟨q0,Gx,rfl⟩:=List.mem_map.mp hq;obtain⟨ps,hp,hq⟩:=List.mem_flatten.mp Gx;obtain⟨d,hd,rfl⟩:=List.mem_map.mp hp;have:=(r.iG d hd).op q0 hq;rw[ub,hs]at this;refine List.mem_filter.mpr ⟨?_,this⟩;obtain⟨w,hw⟩:=Option.isSome_iff_exists.mp this;generalize φ q0=q at hw;obtain⟨⟨a1,a2⟩,a3,a4⟩:=c0.pw_in hw;have:=ph (n:=c0.xs.length) (m:=c0.ys.length) (i:=q.1.toNat) (j:=q.2.toNat) (by lia) (by lia);have e:aQ (q.1.toNat,q.2.toNat)=q:=Prod.ext (by simp[aQ];lia) (by simp[aQ];lia);rw[e]at this;exact this
 rw[ua,List.length_map]at h3;rw[List.length_map]at h1;have h4:ds.length*bL c0≤manyN c0 c0.xs.length:=ZX h1 h3;rcases Nat.lt_or_ge 20 ds.length with h|h
 ·exfalso;have h5:21*bL c0≤ds.length*bL c0:=Nat.mul_le_mul_right _ h;unfold bL at h4 h5
  lia
 ·exact h
theorem A0(c:Case):((bL c:Int)-1)*(m_ c).same+1≤(m_ c).least:=by show _≤max c.least (((bL c:Int)-1)*f6 c+1);exact Int.le_max_right _ _
def JT(φ:Pr→Pr)(e:Fd)(k:Ky):Prop:=k.1=e.worth∧k.2.Pairwise (fun p q=>iB p q=true)∧∀q,q∈k.2↔φ q∈e.pairs
def iL(φ:Pr→Pr)(es:List Fd)(ks:List Ky):Prop:=ks.length=es.length∧∀(i:Nat) e,es[i]?=some e→∃k,ks[i]?=some k∧JT φ e k
theorem iL.nil{φ:Pr→Pr}:iL φ [] []:=⟨rfl,fun i e h=>by simp at h⟩
theorem iL.snoc{φ:Pr→Pr}{es:List Fd}{ks:List Ky}{e:Fd}{k:Ky}(K:iL φ es ks)(h:JT φ e k):iL φ (es++[e]) (ks++[k]):=by
 refine⟨by simp[K.1],fun i x hx=>?_⟩;by_cases hi:i<es.length
 ·rw[ZK hi]at hx;rw[ZK (by rw[K.1];exact hi)];exact K.2 i x hx
 ·rw[ZP Aj]at hx;have h0:i-es.length=0:=by
   have:=(WB hx).1;simp at this;lia
  rw[h0]at hx;cases hx;refine⟨k,?_,h⟩;rw[ZP (by rw[K.1];lia),K.1,h0];rfl
theorem iL.mem{φ:Pr→Pr}{es:List Fd}{ks:List Ky}(K:iL φ es ks){k:Ky}(h:k∈ks):∃e∈es,JT φ e k:=by
 obtain⟨i,hi,rfl⟩:=Ξ h;have sN:i<es.length:=by rw[←K.1];exact hi
 obtain⟨k,h1,h2⟩:=K.2 i es[i] (by simp[sN]);rw[ZZ hi]at h1;cases h1;exact⟨_,Δ sN,h2⟩
theorem iL.has{φ:Pr→Pr}{es:List Fd}{ks:List Ky}(K:iL φ es ks){e:Fd}(h:e∈es):∃k∈ks,JT φ e k:=by
 obtain⟨i,hi,rfl⟩:=Ξ h;obtain⟨k,h1,h2⟩:=K.2 i es[i] (by simp[hi]);exact⟨k,Y7 h1,h2⟩
section
variable{φ:Pr→Pr}{c:Case}{es:List Fd}{ks:List Ky}
theorem JT.ne(inv:∀q,φ (φ q)=q){e:Fd}{k:Ky}(m:JT φ e k)(h:e.pairs≠[]):k.2≠[]:=fun z=>by
 obtain⟨a,ha⟩:=List.exists_mem_of_ne_nil _ h;have:=(m.2.2 (φ a)).mpr (by rw[inv];exact ha);rw[z]at this;cases this
theorem sW{l:List Pr}(h:l≠[]):gL l∈l:=by
 cases l with
 |nil=>exact absurd rfl h
 |cons x r=>simp[gL]
theorem iL.Gy(t:bK (iF c []) c.out c.into c.least es)(inv:∀q,φ (φ q)=q)(K:iL φ es ks):(ks.map fun k=>gL k.2).Nodup∧∀k∈ks,k.2≠[]:=by
 have cB:∀k∈ks,k.2≠[]:=fun k hk=>by
  obtain⟨e,he,m⟩:=K.mem hk;exact m.ne inv (t.ne e he)
 refine⟨List.pairwise_map.mpr (List.pairwise_iff_getElem.mpr fun i j hi hj m7 e=>?_),cB⟩;have sN:i<es.length:=by rw[←K.1];exact hi
 have zf:j<es.length:=by rw[←K.1];exact hj
 obtain⟨k1,a1,m1⟩:=K.2 i es[i] (by simp[sN]);obtain⟨k2,a2,m2⟩:=K.2 j es[j] (by simp[zf]);rw[ZZ hi]at a1;rw[ZZ hj]at a2;cases a1;cases a2;have f1:=(m1.2.2 _).mp (sW (cB _ (Δ hi)));have f2:=(m2.2.2 _).mp (sW (cB _ (Δ hj)));rw[←e]at f2;exact List.pairwise_iff_getElem.mp t.apart i j sN zf m7 _ f1 f2
theorem wm{c':Case}{qi:List Fd}(t:bK (iF c []) c.out c.into c.least es)(t':bK (iF c' []) c'.out c'.into c'.least qi)(h:∀d∈es,∃e∈qi,e.worth=d.worth∧∀q,q∈e.pairs↔φ q∈d.pairs)(inv:∀q,φ (φ q)=q):es.length≤qi.length:=by
 have nf:∀d∈qi,d.pairs≠[]:=fun d hd=>t'.ne d hd
 have key:=IB (R:=fun d (p:Pr)=>∃e∈qi,p=gL e.pairs∧∀q,q∈e.pairs↔φ q∈d.pairs) (l:=es) (m:=qi.map fun e=>gL e.pairs) (fun d hd=>by
  obtain⟨e,he,_,k⟩:=h d hd;exact⟨_,List.mem_map.mpr ⟨e,he,rfl⟩,e,he,rfl,k⟩) (t.apart.imp fun{a b} ab p h1 h2=>by
  obtain⟨e,he,rfl,k⟩:=h1;obtain⟨e',Yk,hp,k'⟩:=h2;have m:=sW (nf e he);have m':gL e.pairs∈e'.pairs:=by rw[hp];exact sW (nf e' Yk)
  exact ab _ ((k _).mp m) ((k' _).mp m'))
 rw[List.length_map]at key;exact key
theorem kys_eq{c':Case}{qi:List Fd}{M7 ls Tw:List Ky}(t:bK (iF c []) c.out c.into c.least es)(h:∀d∈es,∃e∈qi,e.worth=d.worth∧∀q,q∈e.pairs↔φ q∈d.pairs)(h':∀d∈qi,∃e∈es,e.worth=d.worth∧∀q,q∈e.pairs↔φ q∈d.pairs)(inv:∀q,φ (φ q)=q)(K:iL id es ks)(K':iL φ qi M7)
  (p:ls.Perm ks) (s:ls.Pairwise fun a b=>rH (DB a) (DB b)=true) (p':Tw.Perm M7) (s':Tw.Pairwise fun a b=>rH (DB a) (DB b)=true):ls=Tw:=by
 have same:∀{d e:Fd}{k k':Ky},JT id d k→JT φ e k'→e.worth=d.worth→(∀q,q∈d.pairs↔φ q∈e.pairs)→k=k':=fun{d e k k'} m m' w r=>Prod.ext (by rw[m.1,m'.1,w]) (xF Mh m.2.1 m'.2.1 fun q=>by rw[m.2.2,m'.2.2];exact r q)
 refine xF (fun a b h z=>by rw[AI h]at z;cases z) s s' fun k=>?_
 rw[p.mem_iff,p'.mem_iff];constructor
 ·intro hk;obtain⟨d,hd,m⟩:=K.mem hk;obtain⟨e,he,w,r⟩:=h d hd;obtain⟨k',Av,m'⟩:=K'.has he;rw[same m m' w fun q=>by rw[r,inv]];exact Av
 ·intro hk;obtain⟨e,he,m'⟩:=K'.mem hk;obtain⟨d,hd,w,r⟩:=h' e he;obtain⟨k',Av,m⟩:=K.has hd;rw[←same m m' w.symm r];exact Av
end
def Ci(c:Case):Case:=⟨c.ys,c.xs,c.same,c.into,c.out,c.least,c.fs.map sw⟩
theorem JU(c:Case)(q:Pr):(Ci c).pw q=c.pw (xH q):=by
 unfold Case.pw;show((wd c.ys q.1).bind fun x=>(wd c.xs q.2).bind fun y=>cF c.same (c.fs.map sw) x y)=(wd c.xs q.2).bind fun x=>(wd c.ys q.1).bind fun y=>cF c.same c.fs x y
 cases wd c.ys q.1 with
 |none=>cases wd c.xs q.2<;>rfl
 |some x=>cases wd c.xs q.2 with
  |none=>rfl
  |some y=>exact HH _ _ _ _
theorem JV(c:Case)(q:Pr):lf (iF (Ci c) []) q=lf (iF c []) (xH q):=by rw[ub,ub,JU]
theorem Cj{m:Nat}{c:Case}(k:eI m c):eI m (Ci c):=⟨k.y,k.x,xf k.good,k.same,k.into,k.out,k.least⟩
section
open PySem.Spec PyProof.Rows PySem.W PySem.Calls
variable{X:Cx}
end
theorem kP(q:Pr):xH (xH q)=q:=rfl
def Gz(H:Hp)(CT t:Addr)(c:Case):Prop:=∃n dx l d vs,g9 H CT t n c.fs dx l d vs∧fD n=true∧n.same=c.same∧n.out=c.out∧n.into=c.into∧n.least=c.least
theorem Gz.tf{H:Hp}{CT t:Addr}{c:Case}:Gz H CT t c→yW H CT t c:=fun⟨n,dx,l,d,vs,a,_,b⟩=>⟨n,dx,l,d,vs,a,b⟩
inductive nU(C:Addr)(vs:List V)(H:Hp)(Q:VK)(u3:XK):Prop
 |mk (a:Addr) (c:Case) (f g m l:Addr) (us:List V) (most:Nat) (_:vs=[.ref a]) (_:jA H a c f g m l us) (_:eI most c) (_:∀H' t,av H H'→Gz H' C t c→Q (.ref t) H'):nU C vs H Q u3
theorem GA(q:Pr):id (id q)=q:=rfl
theorem zp.keep{H H':Hp}{ws:List V}{ks:List Ky}(D:zp H ws ks)(s:av H H'):zp H' ws ks:=⟨D.1,fun i x e=>let ⟨t,l,us,h1,h2,h3,P⟩:=D.2 i x e;⟨t,l,us,h1,s _ _ h2,s _ _ h3,P.same s⟩⟩
structure Pl(c:Case)(zs:List Str):Prop where
 x:∀w∈c.xs,w∈zs
 y:∀w∈c.ys,w∈zs
 f:∀f∈c.fs,f.1∈zs∧f.2.1∈zs
section
variable{zs rs:List Str}{c:Case}(hl:rs.length=zs.length)(nd:rs.Nodup)(W:Pl c zs)
include hl nd
include W
end
def Vz(n m:Nat)(q:Pr):Prop:=(0≤q.1∧q.1<n)∧0≤q.2∧q.2<m
section
variable{n m:Nat}{S o p least:Int}(hS:0<S)(ho:40*S≤o)(hp:40*S≤p)(hn:n≤40)(hl:1≤least)
structure Un(n m:Nat)(S:Int)(f:Nat→Nat→Option Int):Prop where
 val:∀q,(lf f q).isSome=true→lf f q=some S∧Vz n m q
 all:∀q q',(lf f q).isSome=true→Vz n m q'→q.1-q.2=q'.1-q'.2→(lf f q').isSome=true
include hS ho hp hn
include hl
end
section
variable{n m:Nat}{S o p least:Int}{w:Str}(hS:0<S)(ho:40*S≤o)(hp:40*S≤p)(hn:n≤40)(hl:1≤least)
include hS ho hp hn hl
end
abbrev sR(a:Addr):Option V:=some (.ref a)
abbrev sI(a:Int):Option V:=some (.int a)
abbrev sS(a:Str):Option V:=some (.str a)
end QF
namespace Tx
open PySem L2 QF
def top(i:Nat):Stmt:=PySem.Challenge.pw_quotefind_k22_exchanged.main.body.getD i (.Pass ⟨0,0,0,0⟩)
abbrev gc:Stmt:=top 27
abbrev mI:Stmt:=top 28
abbrev kQ:Stmt:=top 33
abbrev jj:Stmt:=top 34
abbrev gf:Stmt:=top 35
abbrev hG:Stmt:=top 36
abbrev bx:Stmt:=inClass (top 37) 0
abbrev dY:Stmt:=inClass (top 37) 1
abbrev gh:Stmt:=inClass (top 37) 2
abbrev kR:Stmt:=top 10
abbrev A3:Stmt:=top 11
abbrev fT:Stmt:=top 12
abbrev dN:Stmt:=inClass (top 13) 1
abbrev eP:Stmt:=inClass (top 13) 0
abbrev gX:Stmt:=inClass (top 13) 2
abbrev dZ:Stmt:=inClass (top 13) 4
abbrev cT:Stmt:=inClass (top 13) 3
abbrev e_:Stmt:=inClass (top 13) 5
abbrev iH:Stmt:=inClass (top 13) 6
abbrev fU:Stmt:=inClass (top 19) 0
abbrev nV:Stmt:=top 23
abbrev fe:Stmt:=top 20
abbrev gi:Stmt:=inClass (top 6) 0
abbrev iT:Stmt:=inClass (top 6) 1
abbrev fA:Stmt:=inClass (top 6) 2
abbrev ff:Stmt:=inClass (top 6) 3
abbrev hJ:Stmt:=inClass (top 6) 4
abbrev fg:Stmt:=inClass (top 7) 0
abbrev fB:Stmt:=inClass (top 7) 1
abbrev dH:Stmt:=inClass (top 7) 2
abbrev eQ:Stmt:=inClass (top 7) 3
abbrev j4:Stmt:=top 8
abbrev mJ:Stmt:=top 15
abbrev fH:Stmt:=top 16
abbrev gj:Stmt:=top 21
abbrev kT:Stmt:=top 22
abbrev qT:Stmt:=top 24
abbrev qU:Stmt:=top 39
abbrev kU:Stmt:=top 40
abbrev lW:Stmt:=top 41
abbrev lX:Stmt:=top 42
abbrev iU:Stmt:=top 43
abbrev gk:Stmt:=top 44
abbrev lY:Stmt:=top 45
abbrev lZ:Stmt:=top 46
abbrev l0:Stmt:=top 47
abbrev kW:Stmt:=top 48
abbrev kX:Stmt:=top 49
abbrev kY:Stmt:=top 50
abbrev l5:Stmt:=top 51
abbrev gm:Stmt:=top 52
abbrev hV:Stmt:=top 53
abbrev iV:Stmt:=top 54
abbrev hZ:Stmt:=top 55
abbrev kZ:Stmt:=top 56
abbrev lu:Stmt:=top 57
section
variable{P:Program}{w:World}{K:W.Frag}{mg:Str→Option Value}{base:Heap}
variable{d0 cV aN az aA aH ay kn:Addr}
variable(T:TB mg)
theorem nW:aL ["sign"] ["sign"] (au gc):=gO
include T in
theorem nX{f:Addr}{fd:FuncData}(F:jU K "is_small_letter" "is_small_letter" gc f fd):a9 P w K mg base (cY P w) true 1 f fd ["sign"] Ap:=by
 refine F.gK nW Yz gP
 ·obtain⟨i,rfl,_⟩:=h;rfl
 ·obtain⟨c,rfl,q⟩:=h;refine⟨_,(R3 (Z0 (@wG _ _ _ _ _ _ _ (@iO _ _ _ _ _ _ _ _ vW dS WC (aV _)) (@wF _ _ _ _ _ (@iO _ _ _ _ _ _ _ _ vW WC dS (aV _)))))),?_⟩;refine⟨_,rfl,_,_,rfl,rfl,_,rfl,?_⟩;have q:Q (.bl (decide (97≤c)&&decide (c≤122))) H:=q;rw[←SA,←SD]at q;refine bb (fun h=>?_) (fun h=>?_)
  ·refine⟨_,rfl,_,_,rfl,rfl,?_⟩;rw[h,Bool.true_and]at q;exact q
  ·rw[Bool.not_eq_true]at h;rw[h,Bool.false_and]at q;exact q
variable(jE:Ej mg "WORD_MOST" (.int 12))
variable(eR:bN P w K mg base true 1 "is_small_letter" ["sign"] Ap)
theorem A4:aL ["text"] ["text"] (au mI):=gO
include T jE eR in
theorem A5{f:Addr}{fd:FuncData}(F:jU K "is_word" "is_word" mI f fd):a9 P w K mg base (cY P w) true 2 f fd ["text"] wZ:=by
 refine F.gK A4 Yz gP
 ·obtain⟨i,rfl,_⟩:=h;rfl
 ·obtain⟨z,rfl,hz,q⟩:=h;refine⟨_,(U' (Γ (@PW.pt _ _ _ (ky (Z7 mY (ZM oM T.cZ (Im WC)) ai) (@pw_or1 _ _ _ _ (Z7 rD (ZM oM T.cZ (Im WC)) (η jE))))) aS) (R3 (Z0 (Η (CV K rfl) T.Ov PyProof.Rows.Boot.«all» (Im (@jy _ _ _ _ _ _ _ _ _ _ _ _ _ _ (by exact rfl) (show bg ["text"] (au mI) _ ["sign"] [] []from Ck) (@Lf _ _ _ _ (pv 0)) (fun _ _ _ _ _=>(Xc (0) (show(["sign"]:List Str).Nodup by decide+kernel))) (fun _ _ _ _ _=>fz) (fun _ _ _ _ _=>(Y6 eR aR (Im WC))) (by intro _;rfl))))))),?_⟩;have VA:z.length≤sizeLine:=Nat.le_trans hz ZV;refine⟨_,rfl,z,rfl,VA,_,_,rfl,rfl,_,rfl,?_⟩;refine bb (fun h=>?_) (fun h=>?_)
  ·have h:((z.length:Nat):Int)<1:=by simpa using h
   refine jV ?_;have e:rX z=false:=by
    have:¬1≤z.length:=by lia
    simp[rX,this]
   have q:=q H (av.refl H);rw[e]at q;exact q
  have h:¬((z.length:Nat):Int)<1:=by simpa using h
  refine⟨_,rfl,z,rfl,VA,_,_,rfl,rfl,_,rfl,?_⟩;refine bb (fun h2=>?_) (fun h2=>?_)
  ·have h2:(12:Int)<((z.length:Nat):Int):=by simpa using h2
   have e:rX z=false:=by
    have:¬z.length≤12:=by lia
    simp[rX,this]
   have q:=q H (av.refl H);rw[e]at q;exact q
  have h2:¬(12:Int)<((z.length:Nat):Int):=by simpa using h2
  have hl:z.length≤12:=by lia
  have e:rX z=z.cps.toList.all low:=by
   have h3:1≤z.length:=by lia
   simp[rX,h3,hl]
  refine⟨_,rfl,z,rfl,fun D hD=>?_⟩;refine EJ (fun i ys σ H'=>(∃v,σ=[v])∧ys=(z.cps.toList.take i).map (fun c=>V.bl (low c))∧H'=upd H D (.lst ys)) ⟨⟨_,rfl⟩,rfl,rfl⟩ ?_ ?_
  ·rintro i c ys σ H' hc ⟨⟨v,rfl⟩,hy,rfl⟩;refine nG ?_;refine⟨_,rfl,c,rfl,ae,?_,⟨_,rfl⟩,?_,?_⟩
   ·rw[hy,List.length_map,List.length_take];exact Nat.lt_of_le_of_lt (Nat.min_le_left _ _) (Nat.lt_of_lt_of_le (Θ (WB hc).1 (by simpa[Str.length]using hl)) (Sz))
   ·rw[hy,List.take_succ,hc];simp
   ·rw[f9]
  ·rintro ys σ H' ⟨_,hy,rfl⟩;have A6:ys=(z.cps.toList.map low).map V.bl:=by
    rw[hy,List.take_of_length_le (by simp[Str.length])];simp
   rw[A6];refine⟨D,z.cps.toList.map low,rfl,iD.of ae,?_⟩;have q:=q _ (av.upd hD:av H (upd H D (.lst ((z.cps.toList.map low).map V.bl))));rw[e]at q;have e3:(z.cps.toList.map low).all id=z.cps.toList.all low:=by rw[List.all_map];rfl
   rw[←e3]at q;exact q
theorem uW:aL ["low","number","high"] ["low","number","high"] (au kQ):=gO
include T in
theorem uX{f:Addr}{fd:FuncData}(F:jU K "is_between" "is_between" kQ f fd):a9 P w K mg base (cY P w) true 1 f fd ["low","number","high"] nH:=by
 refine F.gK uW Yz gP
 ·obtain⟨l,n,h,rfl,_⟩:=h;rfl
 ·obtain⟨l,n,h,rfl,q⟩:=h;refine⟨_,(R3 (Z0 (@wG _ _ _ _ _ _ _ (@iO _ _ _ _ _ _ _ _ Bs WC (pv 1) (aV _)) (@wF _ _ _ _ _ (@iO _ _ _ _ _ _ _ _ Bs Wa (pv 2) (aV _)))))),?_⟩;refine⟨_,rfl,_,rfl,_,_,rfl,rfl,_,rfl,?_⟩;refine bb (fun h1=>?_) (fun h1=>?_)
  ·refine⟨_,rfl,_,rfl,_,_,rfl,rfl,?_⟩;rw[h1,Bool.true_and]at q;exact q
  ·rw[Bool.not_eq_true]at h1;rw[h1,Bool.false_and]at q;exact q
variable(d6:bN P w K mg base true 1 "is_between" ["low","number","high"] nH)
variable(jk:Er K mg "BadTerms" d0)
theorem r_:aL ["name","number","low","high"] ["name","number","low","high"] (au jj):=gO
include T d6 jk in
theorem aaM{f:Addr}{fd:FuncData}(F:jU K "check_number" "check_number" jj f fd):a9 P w K mg base (cY P w) true 2 f fd ["name","number","low","high"] (qy d0):=by
 refine F.gK r_ Yz gP
 ·obtain⟨nm,n,l,h,rfl,_⟩:=h;rfl
 ·obtain⟨nm,n,l,h,rfl,hn,hl,hh,q⟩:=h;refine⟨_,(R3 (ZI (@dJ _ _ _ _ (ZY (Y6 d6 aR (R4 Y1 (Ρ Wa))))) (R3 (ξ hX ZW (by exact rfl) jk.m jk.e (Im (@mw _ _ _ _ _ _ (@fv _ _ _ _ _ (@qx _ _ _ _ (pv 0)) (@fv _ _ _ _ _ dS (@fv _ _ _ _ _ (@qx _ _ _ _ (pv 2)) (@fv _ _ _ _ _ dS (@fv _ _ _ _ _ (@qx _ _ _ _ (pv 3)) wV))))))))) aS)),?_⟩;refine⟨_,rfl,_,rfl,_,rfl,l,n,h,rfl,?_⟩;refine⟨_,rfl,?_⟩;refine bb (fun h1=>?_) (fun h1=>?_)
  ·have h1:inR l n h=false:=(Bool.not_eq_true' _).mp h1;rw[h1]at q;have z1:=oU (i:=l) (by lia);have z2:=oU (i:=h) (by lia);have w1:(Str.ofString " lies between ").length=14:=by decide+kernel
   have w2:(Str.ofString " and ").length=5:=by decide+kernel
   have w3:=mz;refine⟨_,rfl, .inl ⟨nm,rfl,aD Aj,nm,rfl,aD ?_,_,rfl,aD ?_,_,rfl, .inr ⟨l,rfl,z1.1,_,rfl,aD ?_,_,rfl,aD ?_,_,rfl, .inr ⟨h,rfl,z2.1,_,rfl,aD ?_,aD ?_,ir,?_⟩⟩⟩⟩
   ·rw[len_app];lia
   ·rw[len_app,len_app];lia
   ·rw[len_app,len_app,len_app];lia
   ·rw[len_app,len_app,len_app,len_app];lia
   ·rw[len_app,len_app,len_app,len_app,len_app];lia
   ·rw[len_app,len_app,len_app,len_app,len_app];lia
   ·exact q
  ·have h1:inR l n h=true:=by
    have h1:¬(!(inR l n h))=true:=h1;simpa using h1
   rw[h1]at q;exact q
variable(bQ:Ej mg "WORTH_MOST" (.int 999999))
variable(ko:bN P w K mg base true 2 "is_word" ["text"] wZ)
variable(bX:Er K mg "BadNear" cV)
theorem nY:aL ["x","y","price"] ["x","y","price"] (au gf):=gO
include T d6 bQ ko bX in
theorem nZ{f:Addr}{fd:FuncData}(F:jU K "check_near_form" "check_near_form" gf f fd):a9 P w K mg base (cY P w) true 3 f fd ["x","y","price"] (w6 cV):=by
 refine F.gK nY Yz gP
 ·obtain⟨x,y,p,rfl,_⟩:=h;rfl
 ·obtain⟨x,y,p,rfl,hx,hy,q⟩:=h;have bad:gT x y p=false→∀H',av H H'→E (.ref cV) none H':=fun e=>by rw[e]at q;exact q
  have good:gT x y p=true→∀H',av H H'→Q .cL H':=fun e=>by rw[e]at q;exact q
  refine⟨_,(U' (ς (@PW.pt _ _ _ (ky (@dJ _ _ _ _ (ZY (Y6 ko aR (Im WC)))) (@pw_or1 _ _ _ _ (@dJ _ _ _ _ (ZY (Y6 ko aR (Im Wa))))))) aS) (U' (ς (Z7 jb WC (pv 1)) aS) (R3 (ZI (@dJ _ _ _ _ (ZY (Y6 d6 aR (R4 ai (ω Y1))))) (R3 (ξ hX ZW (by exact rfl) bX.m bX.e (Im (@mw _ _ _ _ _ _ (@fv _ _ _ _ _ dS (@fv _ _ _ _ _ (@qx _ _ _ _ (η bQ)) wV)))))) aS)))),?_⟩;refine⟨_,rfl,x,rfl,hx,fun H1 s1=>⟨_,rfl,?_⟩⟩;refine bb (fun h1=>?_) (fun h1=>?_)
  ·have h1:(!(rX x))=true:=h1;exact⟨ir,bad (by simp[gT,(Bool.not_eq_true' _).mp h1]) H1 s1⟩
  have h1:¬(!(rX x))=true:=h1;have h1:rX x=true:=by simpa using h1
  refine⟨_,rfl,y,rfl,hy,fun H2 s2=>⟨_,rfl,?_⟩⟩;have s2:=s1.trans s2;refine bb (fun h2=>?_) (fun h2=>?_)
  ·have h2:(!(rX y))=true:=h2;exact⟨ir,bad (by simp[gT,(Bool.not_eq_true' _).mp h2]) H2 s2⟩
  have h2:¬(!(rX y))=true:=h2;have h2:rX y=true:=by simpa using h2
  refine⟨_,rfl,_,rfl,rfl,_,rfl,?_⟩;refine bb (fun h3=>?_) (fun h3=>?_)
  ·have h3:x=y:=by simpa using h3
   exact⟨ir,bad (by simp[gT,h3]) H2 s2⟩
  have h3:¬x=y:=by simpa using h3
  refine⟨_,rfl,0,p,999999,rfl,_,rfl,?_⟩;refine bb (fun h4=>?_) (fun h4=>?_)
  ·have h4:(!(inR 0 p 999999))=true:=h4;have z1:=oU (i:=999999) (by lia);have w1:(Str.ofString "the price of a near form lies between 0 and ").length=44:=by decide+kernel
   have w3:=mz;refine⟨_,rfl,aD ?_, .inr ⟨999999,rfl,z1.1,_,rfl,aD ?_,aD ?_,ir,?_⟩⟩
   ·rw[len_app];lia
   ·rw[len_app,len_app];lia
   ·rw[len_app,len_app];lia
   ·exact bad (by simp[gT,(Bool.not_eq_true' _).mp h4]) H2 s2
  ·have h4:¬(!(inR 0 p 999999))=true:=h4;have h4:inR 0 p 999999=true:=by simpa using h4
   exact good (by simp[gT,h1,h2,h3,h4]) H2 s2
variable(iA:Ej mg "NEAR_MOST" (.int 60))
variable(eU:bN P w K mg base true 3 "check_near_form" ["x","y","price"] (w6 cV))
theorem fh:aL ["near","prices","x","y","price"] ["near"] (au hG):=gO
include T bX iA eU in
theorem uf{f:Addr}{fd:FuncData}(F:jU K "near_prices" "near_prices" hG f fd):a9 P w K mg base (cY P w) true 4 f fd ["near"] (qz cV):=by
 refine F.gK fh Yz gP
 ·obtain⟨a,xs,fs,rfl,_⟩:=h;rfl
 ·obtain⟨a,xs,fs,rfl,ha,ht,Oa,q⟩:=h;have bad:bp fs=false→∀H',av H H'→E (.ref cV) none H':=fun e=>by rw[e]at q;exact q
  have good:bp fs=true→∀H' d,av H H'→H d=none→H' d=some (.dT (fs.map lO))→Q (.ref d) H':=fun e=>by rw[e]at q;exact q
  have hu:=hr.units;have hu:(A.deeper (Α "near_prices" (au hG) f f7)).units+1<cLine:=by lia
  refine⟨_,(U' (ZI (Z7 rD (ZM (aK K) T.cZ (Im WC)) (η iA)) (R3 (ξ hX ZW (by exact rfl) bX.m bX.e (Im (@mw _ _ _ _ _ _ (@fv _ _ _ _ _ dS (@fv _ _ _ _ _ (@qx _ _ _ _ (η iA)) (@fv _ _ _ _ _ dS wV))))))) aS) (U' (WX (1) fh.nd ka) (U' (ZJ (ZO K WC) (Ν K (3) (ZG (Xc (2) fh.nd) (ZG (Xc (3) fh.nd) (ZG (Xc (4) fh.nd) eL)))) (U' (ZH (Y6 eU hX.pass (R4 Y1 (R4 (pv 3) (Im (pv 4)))))) (U' (ς (Β (@qw _ _ _ _ _ hu (@dB _ _ _ _ _ (Ρ Y1)) (pv 1))) aS) (R3 (@kF _ _ _ _ _ _ _ _ _ hu Wa (@dB _ _ _ _ _ (Ρ Y1)) (pv 4) (by exact rfl)))))) (R3 (Z0 Wa))))),?_⟩;refine⟨_,rfl,a,_,rfl, .inl (.of ha),_,_,rfl,rfl,_,rfl,?_⟩;refine bb (fun h1=>?_) (fun h1=>?_)
  ·have h1:(60:Int)<(xs.length:Int):=by simpa using h1
   rw[ht.1]at h1;have z1:=oU (i:=60) (by lia);have w1:(Str.ofString "there are at most ").length=18:=by decide+kernel
   have w2:(Str.ofString " near forms").length=11:=by decide+kernel
   have w3:=mz;refine⟨_,rfl,aD ?_, .inr ⟨60,rfl,z1.1,_,rfl,aD ?_,_,rfl,aD ?_,aD ?_,ir,?_⟩⟩
   ·rw[len_app];lia
   ·rw[len_app,len_app];lia
   ·rw[len_app,len_app,len_app];lia
   ·rw[len_app,len_app,len_app];lia
   ·exact bad (by have:¬fs.length≤60:=(by lia);simp[bp,this]) H (.refl H)
  have h1:¬(60:Int)<(xs.length:Int):=by simpa using h1
  rw[ht.1]at h1;refine fun d hd=>?_
  have abI:H a≠none:=by rw[ha];intro z;cases z
  have cB:a≠d:=aE ha hd;refine⟨_,rfl,a,rfl,⟨xs, .of (by rw[ak cB];exact ha)⟩,?_⟩;refine bU (xs:=xs) (fun i σ H'=>(∃u v w,σ=[sR a,sR d,u,v,w])∧H' d=some (.dT ((fs.take i).map lO))∧av H H'∧((fs.take i).all Aq=true)∧((fs.take i).map jX).Nodup) ?_ ?_ ?_ ?_
  ·exact⟨⟨_,_,_,rfl⟩,ae,Wt hd,rfl, .nil⟩
  ·rintro i σ H' hi ⟨_,_,s1,_⟩;exact .of (s1 _ _ ha)
  ·rintro i x σ H' hx ⟨⟨u,v,w,rfl⟩,hD,s1,bS,GQ⟩;have hi:i<fs.length:=by rw[←ht.1];exact(WB hx).1
   have hf:fs[i]?=some fs[i]:=by simp[hi]
   generalize fs[i]=f0 at hf;obtain⟨t,yw,uN⟩:=ht.2 i f0 hf;rw[hx]at yw;cases yw;obtain⟨x,y,p⟩:=f0;have hm:(x,y,p)∈fs:=Y7 hf;obtain⟨lE,D1⟩:=Oa.2 _ hm;refine⟨t,_,rfl, .of (s1 _ _ uN),rfl,_,_,rfl,_,_,rfl,_,_,rfl,rfl,?_⟩;refine⟨_,rfl,_,rfl,_,rfl,x,y,p,rfl,lE,D1,?_⟩;refine bb (fun h2=>?_) (fun h2=>?_)
   rotate_left
   ·have h2:Aq (x,y,p)=false:=by simpa[Aq]using h2
    exact fun H2 s2=>bad (ET hf h2) H2 (s1.trans s2)
   have h2:Aq (x,y,p)=true:=h2;intro H2 s2;have QZ:=s1.trans s2;have i_:=s2 _ _ hD;refine⟨_,rfl,_,rfl,aD K4,fun p1 uS=>?_⟩;have n1:d≠p1:=aE i_ uS;refine⟨_,rfl,d,_,rfl, .t (k:=jX (x,y,p)) (by rw[ak n1];exact i_) ae,_,rfl,?_⟩;refine bb (fun h3=>?_) (fun h3=>?_)
   ·obtain⟨v3,h3⟩:=Option.isSome_iff_exists.mp h3;exact⟨ir,bad (CW hf (Lj h3)) _ (QZ.dU (QZ.free uS))⟩
   have h3:bA ((fs.take i).map lO) (jX (x,y,p))=none:=by simpa using h3
   have s3:av H (upd H2 p1 (.tup [.str x, .str y])):=QZ.dU (QZ.free uS);refine⟨_,rfl,_,rfl,_,rfl,_,rfl,aD K4,fun p2 CI=>?_⟩;have DC:upd H2 p1 (.tup [.str x, .str y]) d=some (.dT ((fs.take i).map lO)):=by rw[ak n1];exact i_
   have n2:d≠p2:=aE DC CI;have hlen:((fs.take i).map lO).length<sizeLine:=aZ (by rw[List.length_map,List.length_take];lia);refine⟨d,_,rfl, .t (k:=jX (x,y,p)) (by rw[ak n2];exact DC) ae hlen,?_⟩;refine⟨⟨_,_,_,rfl⟩,?_,?_,?_,?_⟩
   ·rw[ae,tm _ h3,CY hf];rfl
   ·exact(s3.dU (s3.free CI)).dU hd
   ·rw[List.take_succ,hf,List.all_append,bS];simp[h2]
   ·rw[List.take_succ,hf,List.map_append];have:=Ow h3;refine List.nodup_append.mpr ⟨GQ,MD,?_⟩;intro a1 AF b1 j5 e;have j5:b1=jX (x,y,p):=by simpa using j5
    rw[e,j5]at AF;exact this AF
  ·rintro σ H' ⟨⟨u,v,w,rfl⟩,hD,s1,bS,GQ⟩;rw[ht.1,List.take_length]at hD bS GQ;refine⟨_,rfl,good ?_ H' d s1 hd hD⟩;have:fs.length≤60:=by lia
   simp[bp,this,bS,GQ]
variable(jF:Ej mg "PART_MOST" (.int 100))
variable(cy:bN P w K mg base true 2 "check_number" ["name","number","low","high"] (qy d0))
variable(h_:bN P w K mg base true 4 "near_prices" ["near"] (qz cV))
variable(Tc:EU K aN)
theorem pz:aL ["self","same","out","into","least","part","near"] ["self","same","out","into","least","part","near"] (au bx):=gO
include T bQ jF cy h_ Tc in
theorem pA{f:Addr}{fd:FuncData}(F:iq K "__init__" "Terms.__init__" bx f fd):a9 P w K mg base (cY P w) true 5 f fd ["self","same","out","into","least","part","near"] (sO aN d0 cV):=by
 refine F.gK pz Yz gP
 ·obtain⟨x,dx,n,nv,xs,fs,rfl,_⟩:=h;rfl
 ·obtain⟨x,dx,n,nv,xs,fs,rfl,hx,E9,Yl,Oa,q⟩:=h;have bad:fD n=false→E (.ref d0) none H:=fun e=>by rw[e]at q;exact q H .refl
  refine⟨_,(U' (ZH (Y6 cy hX.pass (R4 dS (ρ Wa)))) (U' (ZH (Y6 cy hX.pass (R4 dS (ρ Y1)))) (U' (ZH (Y6 cy hX.pass (R4 dS (ρ (pv 3))))) (U' (ZH (Y6 cy hX.pass (R4 dS (ρ (pv 4))))) (U' (ZH (Y6 cy hX.pass (R4 dS (R4 (pv 5) (R4 ai (Im (η jF))))))) (U' (Zu K WC (pv 1)) (U' (Zu K WC (pv 2)) (U' (Zu K WC (pv 3)) (U' (Zu K WC (pv 4)) (U' (Zu K WC (pv 5)) (X2 (Zu K WC (@oH _ _ _ _ _ _ _ _ (Β (@lK _ _ _ _ _ (pv 6))) (ZL af) (γ (eE K) (by exact rfl) T.jW PyProof.Rows.Boot.«list» (Im (pv 6))))) (R3 (Zu K WC (Y6 h_ hX.pass (Im Z1))))))))))))))),?_⟩;refine⟨_,rfl,"same",n.same,1,999999,rfl,by decide+kernel,by lia,by lia,?_⟩;refine bb (fun h1=>?_) (fun h1=>bad (by simp[fD,h1]));refine⟨_,rfl,"out",n.out,0,999999,rfl,by decide+kernel,by lia,by lia,?_⟩;refine bb (fun h2=>?_) (fun h2=>bad (by simp[fD,h2]));refine⟨_,rfl,"into",n.into,0,999999,rfl,by decide+kernel,by lia,by lia,?_⟩;refine bb (fun h3=>?_) (fun h3=>bad (by simp[fD,h3]));refine⟨_,rfl,"least",n.least,1,999999,rfl,by decide+kernel,by lia,by lia,?_⟩;refine bb (fun h4=>?_) (fun h4=>bad (by simp[fD,h4]));refine⟨_,rfl,"part",n.part,1,100,rfl,by decide+kernel,by lia,by lia,?_⟩;refine bb (fun h5=>?_) (fun h5=>bad (by simp[fD,h5]));have bS:fD n=true:=by simp[fD,h1,h2,h3,h4,h5]
  rw[bS]at q;have hl:∀k:Nat,k<10→k<1000:=fun k h=>by lia
  refine⟨_,rfl,_,rfl,x,aN,dx,_,rfl,hx,Tc.cl,Tc.same,Sz,?_⟩;refine⟨_,rfl,_,rfl,x,aN,dx,_,rfl,ae,Tc.cl,Tc.out,?_,?_⟩
  ·exact hl _ (by have:=aX "same" (.int n.same) [];simp at this;lia)
  refine⟨_,rfl,_,rfl,x,aN,dx,_,rfl,ae,Tc.cl,Tc.into,?_,?_⟩
  ·exact hl _ (Nat.lt_of_le_of_lt (aX _ _ _) (by have:=aX "same" (.int n.same) [];simp at this;lia))
  refine⟨_,rfl,_,rfl,x,aN,dx,_,rfl,ae,Tc.cl,Tc.least,?_,?_⟩
  ·show([("same", .int n.same),("out", .int n.out),("into", .int n.into)]:List (Str×V)).length<1000;simp
  refine⟨_,rfl,_,rfl,x,aN,dx,_,rfl,ae,Tc.cl,Tc.part,?_,?_⟩
  ·show([("same", .int n.same),("out", .int n.out),("into", .int n.into),("least", .int n.least)]:List (Str×V)).length<1000;simp
  rw[f9,f9,f9,f9,SE];have b5:SameBut x H (upd H x (.ins aN dx (m4 n))):=SameBut.refl.upd;refine⟨fun σ H'=>σ=[sR x,sI n.same,sI n.out,sI n.into,sI n.least,sI n.part,some nv]∧∃l,H' x=some (.ins aN dx (br "near" (.ref l) (m4 n)))∧SameBut x H H'∧H' l=some (.lst xs)∧cP H' xs fs∧H l=none,?_,?_⟩
  ·refine⟨_,rfl,_,rfl,?_⟩;rcases Yl with⟨rfl,rfl,rfl⟩|⟨a,rfl,ha,Q0⟩
   ·refine jV ?_;refine⟨aD K4,fun l lz=>?_⟩;have n1:x≠l:=aE ae lz;refine⟨_,rfl,x,aN,dx,_,rfl,by rw[ak n1,ae],Tc.cl,Tc.near,by simp[m4],rfl,l,ae,?_,?_, .nil,?_⟩
    ·exact(b5.laid (b5.free ae lz)).upd
    ·rw[ak (Z' n1),ae]
    ·exact b5.free ae lz
   ·refine bb (fun hh=>absurd hh K4) (fun _=>?_);have n0:a≠x:=ja ha hx (by intro z;cases z);refine⟨_,rfl,a,xs,rfl, .inl (.of (by rw[ak n0];exact ha)),fun l lz=>?_⟩;have n1:x≠l:=aE ae lz;have b6:SameBut x H (upd (upd H x (.ins aN dx (m4 n))) l (.lst xs)):=b5.laid (b5.free ae lz);refine⟨_,rfl,x,aN,dx,_,rfl,by rw[ak n1,ae],Tc.cl,Tc.near,by simp[m4],rfl,l,ae,b6.upd,?_,?_,?_⟩
    ·rw[ak (Z' n1),ae]
    ·exact Q0.but b6.upd hx
    ·exact b5.free ae lz
  ·rintro σ H' ⟨rfl,l,uM,sb,JS,Q0,Ym⟩;refine⟨_,rfl,x,aN,dx,_,_,rfl,uM,Tc.cl,Tc.near,Oy n l,l,xs,fs,rfl,JS,Q0,Oa,?_⟩;refine bb (fun h6=>?_) (fun h6=>?_)
   ·rw[if_pos rfl,Hz h6]at q;intro H2 d s2 hd hD;have b2:=sb.same s2;have Yn:=sb.free uM hd;refine⟨_,rfl,x,aN,dx,_,rfl,s2 _ _ uM,Tc.cl,Tc.EV,?_,?_⟩
    ·have:=aX "near" (.ref l) (m4 n);have e5:(m4 n).length=5:=rfl;exact hl _ (by lia)
    ·have nl:l≠x:=ja JS uM (by intro z;cases z);have nd:d≠x:=ja hD (s2 _ _ uM) (by intro z;cases z);have VB:dx≠x:=ja E9 hx (by intro z;cases z);refine q _ l d b2.upd ⟨?_,?_,?_,?_,?_⟩ Ym Yn
     ·rw[ae,SF]
     ·rw[ak VB];exact b2 _ _ VB E9
     ·rw[ak nl];exact s2 _ _ JS
     ·exact Q0.but (SameBut.upd (fun b u n e=>s2 b u e)) uM
     ·rw[ak nd];exact hD
   ·rw[if_pos rfl,Dy h6]at q;exact fun H2 s2=>q H2 (sb.same s2)
theorem iM:aL ["self","x","y","price"] ["self","x","y"] (au dY):=gO
include T Tc in
theorem mO{f:Addr}{fd:FuncData}(F:iq K "pair_worth" "Terms.pair_worth" dY f fd):a9 P w K mg base (cY P w) true 1 f fd ["self","x","y"] (w_ aN):=by
 refine F.gK iM Yz gP
 ·obtain⟨t,x,y,n,fs,dx,l,d,xs,rfl,_⟩:=h;rfl
 ·obtain⟨t,x,y,n,fs,dx,l,d,xs,rfl,T1,q⟩:=h;have hu:=hr.units;have hu:(A.deeper (Α "Terms.pair_worth" (au dY) f f7)).units+1<cLine:=by lia
  refine⟨_,(U' (ZI (Z7 jb Wa (pv 2)) (R3 (Z0 Z1)) aS) (U' (WX (3) iM.nd (@Et _ _ _ _ _ _ _ hu Z1 (@dB _ _ _ _ _ (Ψ Wa)) ⟨rfl,rfl,rfl,rfl⟩)) (U' (ZI (Β (@lK _ _ _ _ _ (pv 3))) (R3 (Z0 jT)) aS) (R3 (Z0 (RU cq Z1 (pv 3))))))),?_⟩;refine⟨_,rfl,_,rfl,rfl,_,rfl,?_⟩;refine bb (fun h=>?_) (fun h=>?_)
  ·have h:x=y:=by simpa using h
   have q:=q H (.refl H);rw[show cF n.same fs x y=some n.same by simp[cF,h]]at q;exact⟨_,rfl,t,aN,dx,_,_,rfl,T1.ob,Tc.cl,Tc.same,As n l d,q⟩
  have h:¬x=y:=by simpa using h
  refine⟨_,rfl,t,aN,dx,_,_,rfl,T1.ob,Tc.cl,Tc.EV,EX n l d,d,rfl, .inr ⟨_, .inl T1.di⟩,_,rfl,_,rfl,aD K4,fun p hp=>?_⟩;have nd:d≠p:=aE T1.di hp;have q:=q _ (av.upd (o:= .tup [.str x, .str y]) hp);refine⟨_, .t (k:=[.inr x, .inr y]) (by rw[ak nd];exact T1.di) ae,?_⟩;rw[vY];have T2:g9 (upd H p (.tup [.str x, .str y])) aN t n fs dx l d xs:=⟨av.upd hp _ _ T1.ob,av.upd hp _ _ T1.own,av.upd hp _ _ T1.li,T1.tr.same (Wt hp),av.upd hp _ _ T1.di⟩
  cases e:cI fs x y with
  |none=>
   rw[show cF n.same fs x y=none by simp[cF,h,e]]at q;refine⟨_,rfl,_,rfl,?_⟩;exact jV q
  |some v=>
   rw[show cF n.same fs x y=some (n.same-v) by simp[cF,h,e]]at q;refine⟨_,rfl,_,rfl,?_⟩;refine bb (fun hh=>absurd hh K4) (fun _=>?_);exact⟨_,rfl,t,aN,dx,_,_,rfl,T2.ob,Tc.cl,Tc.same,As n l d,_,rfl,_,_,rfl,rfl,q⟩
variable(jl:m3 P w K mg base true 5 "Terms" aN ["self","same","out","into","least","part","near"] [] (sO aN d0 cV))
theorem lA:aL ["self","near"] ["self"] (au gh):=gO
include T Tc jl in
theorem sg{f:Addr}{fd:FuncData}(F:iq K "turned" "Terms.turned" gh f fd):a9 P w K mg base (cY P w) true 7 f fd ["self"] (qA aN):=by
 refine F.gK lA Yz gP
 ·obtain⟨t,n,fs,dx,l,d,xs,rfl,_⟩:=h;rfl
 ·obtain⟨t,n,fs,dx,l,d,xs,rfl,T1,bS,hg,q⟩:=h;have A7:=kI hg;refine⟨_,(U' (@kH _ _ _ _ _ _ _ _ _ _ _ _ _ _ _ (1) _ _ (by exact rfl) lA.nd ZW (by exact rfl) (show bg ["self","near"] (au gh) _ ["x","y","price"] [] []from Ck) (ZO K Z1) (fun _ _ _ _ _=>(Ν K (3) (ZG (Xc (0) (show(["x","y","price"]:List Str).Nodup by decide+kernel)) (ZG (Xc (1) (show(["x","y","price"]:List Str).Nodup by decide+kernel)) (ZG (Xc (2) (show(["x","y","price"]:List Str).Nodup by decide+kernel)) eL))))) (fun _ _ _ _ _=>fz) (fun _ _ _ _ _=>(@dB _ _ _ _ _ (R4 Wa (Ψ WC)))) (YG) (by intro _;rfl)) (R3 (Z0 (ι jl (hr.mono ZV) hX.pass (R4 Z1 (R4 Z1 (R4 Z1 (R4 Z1 (R4 Z1 (Im Wa)))))))))),?_⟩;refine⟨_,rfl,t,aN,dx,_,_,rfl,T1.ob,Tc.cl,Tc.near,Ll n l d,l,rfl,⟨_, .of T1.li⟩,fun D hD=>?_⟩;refine eD (xs:=xs) (fun i ys bj H'=>(∃u1 u2 u3,bj=[u1,u2,u3])∧cP H' ys ((fs.take i).map sw)∧H' D=some (.lst ys)∧av H H') ⟨⟨_,_,_,rfl⟩, .nil,ae,Wt hD⟩ ?_ ?_ ?_
  ·rintro i ys bj H' _ ⟨_,_,_,s2⟩;exact .of (s2 _ _ T1.li)
  ·rintro i v ys bj H' hv ⟨⟨u1,u2,u3,rfl⟩,Ty,i_,s2⟩;have hi:i<fs.length:=by rw[←T1.tr.1];exact(WB hv).1
   have hf:fs[i]?=some fs[i]:=by simp[hi]
   generalize fs[i]=f0 at hf;obtain⟨t0,h1,h2⟩:=T1.tr.2 i f0 hf;rw[hv]at h1;cases h1;obtain⟨x,y,p⟩:=f0;refine⟨t0,_,rfl, .of (s2 _ _ h2),rfl,_,_,rfl,_,_,rfl,_,_,rfl,rfl,?_⟩;refine my ?_;refine⟨_,rfl,_,rfl,_,rfl,aD K4,fun p1 uS=>⟨av.upd uS _ _ i_,aZ ?_,⟨_,_,_,rfl⟩,?_,ae,(s2.trans (Wt uS)).dU hD⟩⟩
   ·have:=Ty.1;rw[List.length_map,List.length_take]at this;have:=A7.1
    lia
   ·have e:(fs.take (i+1)).map sw=(fs.take i).map sw++[sw (x,y,p)]:=by rw[List.take_succ,hf,List.map_append];rfl
    rw[e];have T3:cP (upd H' p1 (.tup (ES (sw (x,y,p))))) (ys++[.ref p1]) ((fs.take i).map sw++[sw (x,y,p)]):=(Ty.same (Wt uS)).snoc ae;exact T3.cb (cJ.lst (av.upd uS _ _ i_))
  ·rintro ys bj H' ⟨_,Ty,i_,s2⟩;rw[T1.tr.1,List.take_length]at Ty;have T2:=T1.same s2;refine⟨_,rfl,t,aN,dx,_,_,rfl,T2.ob,Tc.cl,Tc.same,As n l d,_,rfl,t,aN,dx,_,_,rfl,T2.ob,Tc.cl,Tc.into,EW n l d,_,rfl,t,aN,dx,_,_,rfl,T2.ob,Tc.cl,Tc.out,l_out n l d,_,rfl,t,aN,dx,_,_,rfl,T2.ob,Tc.cl,Tc.least,BJ n l d,_,rfl,t,aN,dx,_,_,rfl,T2.ob,Tc.cl,Tc.part,Lk n l d,_,rfl,fun x2 CZ uY Pn Pj=>?_⟩;have s5:av H' (upd (upd H' CZ (.own x2)) x2 (.ins aN CZ [])):=(Wt Pn).dU uY;refine⟨x2,CZ,yT n, .ref D,ys,fs.map sw,rfl,ae,by rw[ak Pj];exact ae, .inr ⟨D,rfl,s5 _ _ i_,Ty.same s5⟩,kI (xf hg),?_⟩;rw[Hz (HI bS),Hz (xf hg)];intro H6 l2 d2 sb T6 Tz Yo;exact⟨rfl,q H6 x2 CZ l2 d2 ys (s2.trans (SameBut.xg uY Pn sb)) T6⟩
theorem zq:aL ["numbers"] ["numbers"] (au kR):=gO
include T in
theorem zr{f:Addr}{fd:FuncData}(F:jU K "greatest" "greatest" kR f fd):a9 P w K mg base (cY P w) true 1 f fd ["numbers"] lR:=by
 refine F.gK zq Yz gP
 ·obtain⟨a,os,rfl,_⟩:=h;rfl
 ·obtain⟨a,os,rfl,ha,hl,q⟩:=h;refine⟨_,(R3 (Z0 (@HP _ K _ _ _ _ _ _ _ (by exact rfl) (by exact rfl) T.Jw (@jy _ _ _ _ _ _ _ _ _ _ _ _ _ _ (by exact rfl) (show bg ["numbers"] (au kR) _ ["number"] [] []from Ck) (ZO K WC) (fun _ _ _ _ _=>(Xc (0) (show(["number"]:List Str).Nodup by decide+kernel))) (fun _ _ _ _ _=>(@BD _ _ _ (Β (@oG _ _ _ _ _ (pv 0))))) (fun _ _ _ _ _=>(pv 0)) (by intro _;rfl)) (YG) (YG)))),?_⟩;refine⟨_,rfl,a,rfl,⟨_, .of ha⟩,fun D hD=>?_⟩;refine eD (xs:=os.map bC) (fun i ys bj H'=>(∃u,bj=[u])∧ys=((os.take i).filterMap id).map V.int∧H' D=some (.lst ys)∧av H H') ⟨⟨_,rfl⟩,rfl,ae,Wt hD⟩ ?_ ?_ ?_
  ·rintro i ys bj H' _ ⟨_,_,_,s1⟩;exact .of (s1 _ _ ha)
  ·rintro i x ys bj H' hx ⟨⟨u,rfl⟩,rfl,si,s1⟩;have hi:i<os.length:=by have:=(WB hx).1;simpa using this
   have ho:os[i]?=some os[i]:=by simp[hi]
   generalize os[i]=o at ho;have ex:x=bC o:=by
    rw[List.getElem?_map,ho]at hx;exact(YA hx).symm
   subst ex;have il:(((os.take i).filterMap id).map V.int).length<sizeLine:=aZ (by
    have:=List.length_filterMap_le id (os.take i);rw[List.length_take]at this;rw[List.length_map]
    lia)
   have e1:os.take (i+1)=os.take i++[o]:=by rw[List.take_succ,ho];rfl
   refine⟨_,rfl,_,rfl,?_⟩;cases o with
   |none=>
    refine bb (fun hh=>X7 hh (by simp[bC])) (fun _=>?_);exact⟨⟨_,rfl⟩,by rw[e1];simp,si,s1⟩
   |some v=>
    refine bb (fun _=>?_) (fun hh=>X7 (by simp[bC]) hh);exact⟨_,rfl,si,il,⟨_,rfl⟩,by rw[e1];simp[bC],ae,s1.dU hD⟩
  ·rintro ys bj H' ⟨_,rfl,si,s1⟩;rw[List.length_map,List.take_length]at si;refine⟨D,os.filterMap id,rfl, .of si,?_⟩;rw[HS];exact q H' s1
theorem IE:aL ["number","price"] ["number","price"] (au A3):=gO
include T in
theorem IF{f:Addr}{fd:FuncData}(F:jU K "less" "less" A3 f fd):a9 P w K mg base (cY P w) true 1 f fd ["number","price"] xk:=by
 refine F.gK IE Yz gP
 ·obtain⟨o,p,rfl,_⟩:=h;rfl
 ·obtain⟨o,p,rfl,q⟩:=h;refine⟨_,(R3 (Z0 (@oH _ _ _ _ _ _ _ _ (Β (@lK _ _ _ _ _ (pv 0))) jT (RU cq WC (pv 1))))),?_⟩;refine⟨_,rfl,_,rfl,?_⟩;cases o with
  |none=>
   refine jV ?_;exact q
  |some v=>
   refine bb (fun hh=>X7 hh (by simp[bC])) (fun _=>?_);exact⟨_,rfl,_,rfl,_,_,rfl,rfl,q⟩
theorem mP:aL ["worth","brought"] ["worth","brought"] (au fT):=gO
include T in
theorem mQ{f:Addr}{fd:FuncData}(F:jU K "begun_or_gone_on" "begun_or_gone_on" fT f fd):a9 P w K mg base (cY P w) true 1 f fd ["worth","brought"] Ay:=by
 refine F.gK mP Yz gP
 ·obtain⟨w,b,rfl,_⟩:=h;rfl
 ·obtain⟨w,b,rfl,q⟩:=h;refine⟨_,(U' (ZI (Β (@lK _ _ _ _ _ (pv 0))) (R3 (Z0 jT)) aS) (U' (ZI (@PW.pt _ _ _ (ky (Β (@lK _ _ _ _ _ (pv 1))) (@pw_or1 _ _ _ _ (Z7 mY Wa ai)))) (R3 (Z0 WC)) aS) (R3 (Z0 (RU bD WC (pv 1)))))),?_⟩;refine⟨_,rfl,_,rfl,?_⟩;cases w with
  |none=>
   refine jV ?_;exact q
  |some w=>
   refine bb (fun hh=>X7 hh (by simp[bC])) (fun _=>?_);refine⟨_,rfl,_,rfl,?_⟩;cases b with
   |none=>
    refine jV ?_;refine jV ?_;exact⟨_,rfl,q⟩
   |some b=>
    refine bb (fun hh=>X7 hh (by simp[bC])) (fun _=>?_);refine⟨_,rfl,_,_,rfl,rfl,_,rfl,?_⟩;refine bb (fun hh=>?_) (fun hh=>?_)
    ·have hh:b<0:=by simpa using hh
     simp only[HR,hh,if_true]at q;exact⟨_,rfl,q⟩
    ·have hh:¬b<0:=by simpa using hh
     simp only[HR,hh,if_false]at q;exact⟨_,rfl,_,rfl,_,_,rfl,rfl,q⟩
variable(fj:bN P w K mg base true 1 "greatest" ["numbers"] lR)
variable(k8:bN P w K mg base true 1 "less" ["number","price"] xk)
variable(Rc:BN K az)
theorem cj:aL ["self","ended","above","row","j","worth"] ["self","ended","above"] (au dN):=gO
include T fj k8 Rc in
theorem j6{f:Addr}{fd:FuncData}(F:iq K "brought_behind" "Trails.brought_behind" dN f fd):a9 P w K mg base (cY P w) true 2 f fd ["self","ended","above"] (qE az):=by
 refine F.gK cj Yz gP
 ·obtain⟨x,e,a,dx,te,tb,o,p,m,f,g,rfl,_⟩:=h;rfl
 ·obtain⟨x,e,a,dx,te,tb,o,p,m,f1,g,rfl,hx,he,ha,hm,q⟩:=h;refine⟨_,(U' (WX (3) cj.nd (ZL (Im jT))) (U' (ZJ (@oW _ K _ _ _ _ _ _ _ (by exact rfl) T.jz (Im Wa) (YG) (YG)) (Ν K (2) (ZG (Xc (4) cj.nd) (ZG (Xc (5) cj.nd) eL))) (R3 (ZH (Ε K PySem.F.slot_list_append PySem.F.type_list_append bR (pv 3) (Im (Y6 fj aR (Im (ZL (R4 (pv 5) (R4 (Y6 k8 aR (R4 (Xa Y1 (RU bD (pv 4) ai)) (Im Z1))) (Im (Y6 k8 aR (R4 (Xa (pv 3) (pv 4)) (Im Z1)))))))))))))) (R3 (Z0 (pv 3))))),?_⟩;refine⟨aD K4,fun r GR=>?_⟩;refine⟨_,rfl,e,rfl,⟨_, .of (av.upd GR _ _ he)⟩,?_⟩;have hl:=de m f1;refine yU (xs:=c_ m f1) (fun i σ H'=>(∃u v,σ=[sR x,sR e,sR a,sR r,u,v])∧av H H'∧H' r=some (.lst (c_ (i+1) (r6 f1 g o p)))) ?_ ?_ ?_ ?_
  ·exact⟨⟨_,_,rfl⟩,Wt GR,by rw[ae];simp[c_,r6,bC,List.range_succ]⟩
  ·rintro i σ H' _ ⟨_,s1,_⟩;exact .of (s1 _ _ he)
  ·rintro i v T' σ H' hv ⟨⟨u,u2,rfl⟩,s1,zT⟩ hT;have hi:i<m:=by have:=(WB hv).1;lia
   rw[dh hi]at hv;cases hv;have s2:av H (upd H' T' (.tup [.int i,bC (f1 i)])):=s1.trans (Wt hT);have xJ:=av.upd (o:= .tup [.int i,bC (f1 i)]) hT _ _ zT;refine⟨T',_,rfl, .of ae,rfl,_,_,rfl,_,_,rfl,rfl,?_⟩;generalize upd H' T' (.tup [.int i,bC (f1 i)])=H2 at s2 xJ;have Yp:sM (c_ (m+1) g) ((i:Int)+1)=some (bC (g (i+1))):=by
    have:((i:Int)+1)=((i+1:Nat):Int):=by lia
    rw[this];exact ar (dh Aj)
   have at2:sM (c_ (i+1) (r6 f1 g o p)) (i:Int)=some (bC (r6 f1 g o p i)):=ar (dh Aj);refine⟨_,rfl, .inl ⟨rfl,_, .of xJ⟩,_,rfl,_,rfl,_,rfl,_,_,rfl,rfl,a,_,_,_,rfl,rfl, .of (s2 _ _ ha),Yp,_,rfl,x,az,dx,_,_,rfl,s2 _ _ hx,Rc.cl,Rc.out,JC o p te tb,g (i+1),o,rfl,_,rfl,_,rfl,r,_,_,_,rfl,rfl, .of xJ,at2,_,rfl,x,az,dx,_,_,rfl,s2 _ _ hx,Rc.cl,Rc.into,Fe o p te tb,r6 f1 g o p i,p,rfl,aD K4,fun L hL=>⟨L,[f1 i,bB (g (i+1)) o,bB (r6 f1 g o p i) p],rfl,ae,MD,fun H3 s3=>?_⟩⟩;have s4:=(av.upd (o:= .lst [bC (f1 i),bC (bB (g (i+1)) o),bC (bB (r6 f1 g o p i) p)]) hL).trans s3;exact⟨r,_,_,rfl,rfl,s4 _ _ xJ,aZ (by rw[de];lia),⟨_,_,rfl⟩,(s2.trans s4).dU GR,by rw[ae,qD (i+1)];rfl⟩
  ·rintro σ H' ⟨⟨u,v,rfl⟩,s1,zT⟩;rw[hl]at zT;exact⟨_,rfl,q H' r s1 GR zT⟩
variable(d7:bN P w K mg base true 1 "begun_or_gone_on" ["worth","brought"] Ay)
variable(cA:dW P w K mg base true 2 az "brought_behind" ["self","ended","above"] (qE az))
theorem cQ:aL ["self","worths","terms","width","row","above","ended"] ["self","worths","terms"] (au eP):=gO
include T Tc Rc d7 cA in
theorem n5{f:Addr}{fd:FuncData}(F:iq K "__init__" "Trails.__init__" eP f fd):a9 P w K mg base (cY P w) true 4 f fd ["self","worths","terms"] (qL az aN):=by
 refine F.gK cQ Yz gP
 ·obtain⟨x,dx,w,t,c,as,f,n,m,rfl,_⟩:=h;rfl
 ·obtain⟨x,dx,w,t,c,as,f1,n,m,rfl,hx,E9,hw,TA,TF,hn,hm,q⟩:=h;obtain⟨nu,dt,l,d,vs,T1,e1,e2,e3,e4⟩:=TF;have TC:w≠x:=ja hw hx (by intro z;cases z);have Q2:t≠x:=fun z=>by
   have h1:=T1.ob;rw[z,hx]at h1;have h2:=congrArg (fun o=>match o with|some (HO.ins _ _ fs)=>fs.length| _=>0) h1;simp[rY]at h2
  refine⟨_,(X2 (Zu K WC (Κ K Y1)) (X2 (Zu K WC (Κ K Y1)) (X2 (WX (3) cQ.nd (@oH _ _ _ _ _ _ _ _ (Z7 rD (ZM (aK K) T.cZ (Im Wa)) ai) (ZM (aK K) T.cZ (Im (Xa Wa ai))) ai)) (X2 (Zu K WC (ZL af)) (X2 (Zu K WC (ZL (Im (RU K8 (ZL (Im jT)) (RU bD (pv 3) ai))))) (R3 (ZJ (ZO K Wa) (Xc (4) cQ.nd) (X2 (@aG _ _ (5) _ _ _ _ cQ.nd ZW (Or.inr rfl) (Xa Z1 (@rC _ _ _ _ _ _ lM ai)) (YG) (by exact .inl rfl)) (X2 (@kH _ _ _ _ _ _ _ _ _ _ _ _ _ _ _ (6) _ _ (by exact rfl) cQ.nd ZW (by exact rfl) (show bg ["self","worths","terms","width","row","above","ended"] (au eP) _ ["j","worth"] [5] ["above"]from Ck) (@oW _ K _ _ _ _ _ _ _ (by exact rfl) T.jz (Im (pv 4)) (YG) (YG)) (fun _ _ _ _ _=>(Ν K (2) (ZG (Xc (0) (show(["j","worth","above"]:List Str).Nodup by decide+kernel)) (ZG (Xc (1) (show(["j","worth","above"]:List Str).Nodup by decide+kernel)) eL)))) (fun _ _ _ _ _=>fz) (fun _ _ _ _ _=>(Y6 d7 aR (R4 Wa (Im (Xa Y1 (pv 0)))))) (YG) (by intro _;rfl)) (X2 (ZH (Ε K PySem.F.slot_list_append PySem.F.type_list_append bR Z1 (Im (pv 6)))) (R3 (ZH (Ε K PySem.F.slot_list_append PySem.F.type_list_append bR Z1 (Im (sf WC cA aR (R4 (pv 6) (Im (pv 5)))))))))))))))))),?_⟩;refine⟨fun σ H1=>σ=[sR x,sR w,sR t,none,none,none,none]∧H1=upd H x (.ins az dx (br "out" (.int c.out) [])),?_,?_⟩
  ·refine⟨_,rfl,t,aN,dt,_,_,rfl,T1.ob,Tc.cl,Tc.out,l_out nu l d,_,rfl,x,az,dx,_,rfl,hx,Rc.cl,Rc.out,Sz,rfl,?_⟩;rw[e2]
  rintro σ H1 ⟨rfl,rfl⟩;refine⟨fun σ H1=>σ=[sR x,sR w,sR t,none,none,none,none]∧H1=upd H x (.ins az dx (br "into" (.int c.into) (br "out" (.int c.out) []))),?_,?_⟩
  ·refine⟨_,rfl,t,aN,dt,_,_,rfl,by rw[ak Q2];exact T1.ob,Tc.cl,Tc.into,EW nu l d,_,rfl,x,az,dx,_,rfl,ae,Rc.cl,Rc.into,?_,rfl,?_⟩
   ·have:=aX "out" (.int c.out) [];simp at this
    lia
   ·rw[f9,e3]
  rintro σ H1 ⟨rfl,rfl⟩;refine⟨fun σ H1=>∃wd:Int,σ=[sR x,sR w,sR t,sI wd,none,none,none]∧H1=upd H x (.ins az dx (br "into" (.int c.into) (br "out" (.int c.out) [])))∧(0<n→wd=(m:Int))∧0≤wd∧wd≤1000,?_,?_⟩
  ·have sj:upd H x (.ins az dx (br "into" (.int c.into) (br "out" (.int c.out) []))) w=some (.lst (as.map V.ref)):=by rw[ak TC];exact hw
   have Cc:=TA.len;refine⟨_,rfl,w,_,rfl, .inl (.of sj),_,_,rfl,rfl,_,rfl,?_⟩;refine bb (fun hh=>?_) (fun hh=>?_)
   ·have hh:0<n:=by
     have:(0:Int)<((as.map V.ref).length:Int):=by simpa using hh
     rw[List.length_map]at this
     lia
    obtain⟨a,AF,MY,VC⟩:=TA.at hh;have Po:a≠x:=ja VC hx (by intro z;cases z);have Yq:upd H x (.ins az dx (br "into" (.int c.into) (br "out" (.int c.out) []))) a=some (.lst (c_ m (f1 0))):=by rw[ak Po];exact VC
    refine⟨_,rfl,w,_,0,_,rfl,rfl, .of sj,ar (j:=0) MY,a,_,rfl, .inl (.of Yq),_,rfl,rfl,fun _=>by rw[de],by rw[de];lia,by rw[de];lia⟩
   ·have hh:n=0:=by
     have:¬(0:Int)<((as.map V.ref).length:Int):=by simpa using hh
     rw[List.length_map]at this
     lia
    exact⟨_,rfl,rfl,fun z=>by lia,by lia,by lia⟩
  rintro σ H1 ⟨wd,rfl,rfl,Yr,aaS,aaU⟩;refine⟨fun σ H1=>∃e,σ=[sR x,sR w,sR t,sI wd,none,none,none]∧H1 x=some (.ins az dx (br "ending" (.ref e) (br "into" (.int c.into) (br "out" (.int c.out) []))))∧SameBut x H H1∧H e=none∧H1 e=some (.lst []),?_,?_⟩
  ·refine⟨aD K4,fun e he=>?_⟩;have yx:SameBut x H (upd H x (.ins az dx (br "into" (.int c.into) (br "out" (.int c.out) [])))):=SameBut.refl.upd;have VD:x≠e:=aE ae he;have JW:=yx.free ae he;refine⟨_,rfl,x,az,dx,_,rfl,by rw[ak VD,ae],Rc.cl,Rc.kM,?_,e,rfl,ae,(yx.laid JW).upd,JW,by rw[ak (Z' VD),ae]⟩;have a1:=aX "into" (.int c.into) (br "out" (.int c.out) []);have a2:=aX "out" (.int c.out) [];simp at a2
   lia
  rintro σ H1 ⟨e,rfl,lE,yx,JW,A8⟩;refine⟨fun σ H2=>∃b ab,σ=[sR x,sR w,sR t,sI wd,none,none,none]∧H2 x=some (.ins az dx (gM c.out c.into e b))∧SameBut x H H2∧H2 e=some (.lst [])∧H b=none∧e≠b∧H2 b=some (.lst [.ref ab])∧(0<n→H2 ab=some (.lst (c_ (m+1) (Bq f1 c.out c.into 0))))∧ab≠e∧ab≠b∧H ab=none,?_,?_⟩
  ·refine⟨aD K4,fun l1 lz=>⟨_,rfl,_,_,rfl,rfl,l1,_,_,rfl,rfl,ae,by lia,by lia,aD Z_,fun ab FV=>⟨aD K4,fun b hb=>?_⟩⟩⟩;have s1:av H1 (upd (upd (upd H1 l1 (.lst [.cL])) ab (.lst (List.replicate (wd+1).toNat [V.cL]).flatten)) b (.lst [.ref ab])):=((Wt lz).trans (Wt FV)).trans (Wt hb);have j5:H1 b=none:=((Wt lz).trans (Wt FV)).free hb;have uY:=s1 _ _ lE;have Ys:x≠b:=aE lE j5;have JX:ab≠b:=aE ae hb;refine⟨_,rfl,x,az,dx,_,rfl,uY,Rc.cl,Rc.jB,?_,b,ab,rfl,by rw[ae,OG],(yx.same s1).upd,?_,yx.free lE j5,aE A8 j5,?_,fun h0=>?_,?_,JX,yx.free lE ((Wt lz).free FV)⟩
   ·have a0:=aX "ending" (.ref e) (br "into" (.int c.into) (br "out" (.int c.out) []));have a1:=aX "into" (.int c.into) (br "out" (.int c.out) []);have a2:=aX "out" (.int c.out) [];simp at a2
    lia
   ·have:e≠x:=ja A8 lE (by intro z;cases z);rw[ak this];exact s1 _ _ A8
   ·rw[ak (Z' Ys),ae]
   ·have VE:ab≠x:=fun z=>by rw[z]at FV;rw[(Wt lz) _ _ lE]at FV;cases FV
    rw[ak VE,ak JX,ae,Yr h0]
    congr 1
    have:((m:Int)+1).toNat=m+1:=by lia
    rw[this]
    congr 1
    apply List.ext_getElem?;intro k;by_cases hk:k<m+1
    ·rw[dh hk,iQ];simp[bC,hk]
    ·rw[List.getElem?_eq_none Z_,List.getElem?_eq_none (by rw[de];lia)]
   ·exact Z' (aE ((Wt lz) _ _ A8) FV)
  clear lE yx A8 H1;rintro σ H1 ⟨b,ab,rfl,lE,yx,A8,VF,VG,j5,IG,Pp,JX,D5⟩;refine⟨_,rfl,w,rfl,⟨_, .of (yx _ _ TC hw)⟩,?_⟩;refine bU (xs:=as.map V.ref) (fun i σ H'=>(∃u1 u2 u3,σ=[sR x,sR w,sR t,sI wd,u1,u2,u3])∧H' x=some (.ins az dx (gM c.out c.into e b))∧SameBut x H H'∧∃(es:List Addr)(bs:List V)(ab:Addr),H' e=some (.lst (es.map V.ref))∧jf H' es (dE f1 c.out c.into) i m∧(∀a∈es,H a=none∧a≠e∧a≠b∧a≠x)∧H' b=some (.lst (bs++[.ref ab]))∧bs.length=i∧(0<n→H' ab=some (.lst (c_ (m+1) (Bq f1 c.out c.into i))))∧ab≠e∧ab≠b∧H ab=none∧∃bz:List Addr,bs=bz.map V.ref∧∀k a,bz[k]?=some a→H' a=some (.lst (c_ (m+1) (Bq f1 c.out c.into k)))∧a≠e∧a≠b∧H a=none) ?_ ?_ ?_ ?_
  ·exact⟨⟨_,_,_,rfl⟩,lE,yx,[],[],ab,A8,⟨rfl,fun i a h=>by simp at h⟩,(fun a h=>by cases h),j5,rfl,IG,Pp,JX,D5,[],rfl,fun k a h=>by simp at h⟩
  ·rintro i σ H' _ ⟨_,_,sb,_⟩;exact .of (sb _ _ TC hw)
  ·clear lE yx A8 j5 IG Pp JX D5 ab H1;rintro i v σ H' hv ⟨⟨u1,u2,u3,rfl⟩,lE,yx,es,bs,ab,A8,TE,Pq,j5,IH,IG,Pp,JX,D5,bz,Pt,BZ⟩;have Cc:=TA.len;have hi:i<n:=by have:=(WB hv).1;rw[List.length_map]at this;lia
   obtain⟨ra,GR,zT,xJ⟩:=TA.at hi;rw[zT]at hv;cases hv;have Yt:ra≠x:=ja xJ hx (by intro z;cases z);have Q3:=yx _ _ Yt xJ;have DD:=IG Aj;refine⟨fun σ H2=>σ=[sR x,sR w,sR t,sI wd,sR ra,sR ab,u3]∧H2=H',?_,?_⟩
   ·exact⟨_,rfl,x,az,dx,_,_,rfl,lE,Rc.cl,Rc.jB,gU c.out c.into e b,_,rfl,b,_,_,_,rfl,rfl, .of j5,yM _ _,rfl,rfl⟩
   rintro σ H' ⟨rfl,rfl⟩;refine⟨fun σ H2=>∃D,σ=[sR x,sR w,sR t,sI wd,sR ra,sR ab,sR D]∧av H' H2∧H' D=none∧H2 D=some (.lst (c_ m (dE f1 c.out c.into i))),?_,?_⟩
   ·refine⟨_,rfl,ra,rfl,⟨_, .of Q3⟩,fun D hD=>?_⟩;refine v5 (xs:=c_ m (f1 i)) (fun j ys bj H2=>(∃w1 w2,bj=[w1,w2,sR ab])∧ys=c_ j (dE f1 c.out c.into i)∧H2 D=some (.lst ys)∧av H' H2) ⟨⟨_,_,rfl⟩,rfl,ae,Wt hD⟩ ?_ ?_ ?_
    ·rintro j ys bj H2 _ ⟨_,_,_,s2⟩;exact .of (s2 _ _ Q3)
    ·rintro j y T2 ys bj H2 hy ⟨⟨w1,w2,rfl⟩,rfl,i_,s2⟩ Pu;have hj:j<m:=by have:=(WB hy).1;rw[de]at this;exact this
     rw[dh hj]at hy;cases hy;have s3:av H' (upd H2 T2 (.tup [.int j,bC (f1 i j)])):=s2.trans (Wt Pu);have DC:=av.upd (o:= .tup [.int j,bC (f1 i j)]) Pu _ _ i_;refine⟨T2,_,rfl, .of ae,rfl,_,_,rfl,_,_,rfl,rfl,?_⟩;refine my ?_;refine⟨_,rfl,_,rfl,_,rfl,ab,_,_,_,rfl,rfl, .of (s3 _ _ DD),ar (dh Aj),f1 i j,Bq f1 c.out c.into i j,rfl,DC,aZ (by rw[de];lia),⟨_,_,rfl⟩,by rw[qD];rfl,ae,s3.dU hD⟩
    ·rintro ys bj H2 ⟨_,rfl,i_,s2⟩;rw[de]at i_;exact⟨D,rfl,s2,hD,i_⟩
   rintro σ H2 ⟨D,rfl,s2,M8,i_⟩;have uY:=s2 _ _ lE;have M9:=s2 _ _ A8;have xC:=s2 _ _ j5;have TK:=s2 _ _ DD;have Yu:D≠x:=Z' (aE lE M8);have VH:D≠e:=Z' (aE A8 M8);have VI:D≠b:=Z' (aE j5 M8);have Yv:e≠x:=ja A8 lE (by intro z;cases z);have Yw:b≠x:=ja j5 lE (by intro z;cases z);have VE:ab≠x:=ja DD lE (by intro z;cases z);have II:=TE.len;have M_:H D=none:=yx.free lE M8;have TL:=yx.same s2;refine⟨fun σ H3=>σ=[sR x,sR w,sR t,sI wd,sR ra,sR ab,sR D]∧H3=upd H2 e (.lst (es.map V.ref++[.ref D])),?_,?_⟩
   ·exact⟨_,rfl,x,az,dx,_,_,rfl,uY,Rc.cl,Rc.kM,iu c.out c.into e b, .inl ⟨rfl,_, .of M9⟩,_,rfl,e,_,_,rfl,rfl,M9,aZ (by rw[List.length_map];lia),rfl,rfl⟩
   rintro σ H3 ⟨rfl,rfl⟩;have Na:upd H2 e (.lst (es.map V.ref++[.ref D])) x=some (.ins az dx (gM c.out c.into e b)):=by rw[ak (Z' Yv)];exact uY
   have Q4:upd H2 e (.lst (es.map V.ref++[.ref D])) b=some (.lst (bs++[.ref ab])):=by rw[ak (Z' VG)];exact xC
   have Ml:upd H2 e (.lst (es.map V.ref++[.ref D])) ab=some (.lst (c_ (m+1) (Bq f1 c.out c.into i))):=by rw[ak Pp];exact TK
   have DC:upd H2 e (.lst (es.map V.ref++[.ref D])) D=some (.lst (c_ m (dE f1 c.out c.into i))):=by rw[ak VH];exact i_
   have GU:upd H2 e (.lst (es.map V.ref++[.ref D])) e=some (.lst (es.map V.ref++[.ref D])):=ae;have TN:SameBut x H (upd H2 e (.lst (es.map V.ref++[.ref D]))):=TL.laid JW;have VJ:∀k a,es[k]?=some a→upd H2 e (.lst (es.map V.ref++[.ref D])) a=some (.lst (c_ m (dE f1 c.out c.into k))):=fun k a hk=>by
    rw[ak (Pq a (Y7 hk)).2.1];exact s2 _ _ (TE.row k a hk)
   have VL:∀k a,bz[k]?=some a→upd H2 e (.lst (es.map V.ref++[.ref D])) a=some (.lst (c_ (m+1) (Bq f1 c.out c.into k))):=fun k a hk=>by
    rw[ak (BZ k a hk).2.1];exact s2 _ _ (BZ k a hk).1
   generalize upd H2 e (.lst (es.map V.ref++[.ref D]))=H3 at Na Q4 Ml DC GU TN VJ VL;refine⟨_,rfl,x,az,dx,_,_,rfl,Na,Rc.cl,Rc.jB,gU c.out c.into e b, .inl ⟨rfl,_, .of Q4⟩,_,rfl,x,dx,_,rfl,Na,Ff c.out c.into e b,_,rfl,_,rfl,x,D,ab,dx,e,b,c.out,c.into,m,_,_,rfl,Na,DC,Ml,hm,fun H4 r s4 rM Yx=>?_⟩;have VM:r≠b:=Z' (aE Q4 rM);have Yy:r≠e:=Z' (aE GU rM);refine⟨b,_,_,rfl,rfl,s4 _ _ Q4,aZ (by rw[List.length_append];simp;lia),⟨_,_,_,rfl⟩,by rw[ak (Z' Yw)];exact s4 _ _ Na,(TN.same s4).laid VF,es++[D],bs++[.ref ab],r,by rw[ak VG];rw[s4 _ _ GU];simp,⟨by simp[II],fun k a hk=>?_⟩,fun a ha=>?_,ae,by simp[IH],fun _=>?_,Yy,VM,TN.free Na rM,bz++[ab],by simp[Pt],fun k a hk=>?_⟩
   ·by_cases h:k<i
    ·rw[ZK Aj]at hk;rw[ak (Pq a (Y7 hk)).2.2.1];exact s4 _ _ (VJ k a hk)
    ·rw[ZP Aj]at hk;have xr:k-es.length=0:=by
      have:=(WB hk).1;simp at this
      lia
     rw[xr]at hk;have:D=a:=by simpa using hk
     subst this;rw[ak VI];have:k=i:=by lia
     rw[this];exact s4 _ _ DC
   ·rcases List.mem_append.mp ha with ha|ha
    ·exact Pq a ha
    ·have:a=D:=by simpa using ha
     rw[this];exact⟨M_,VH,VI,Yu⟩
   ·rw[ak VM,Yx]
    congr 2
    unfold c_;apply List.map_congr_left;intro j _;rw[BO]
   ·have Px:bz.length=i:=by rw[Pt,List.length_map]at IH;exact IH
    by_cases h:k<i
    ·rw[ZK Aj]at hk;obtain⟨_,z1,z2,z3⟩:=BZ k a hk;exact⟨by rw[ak z2];exact s4 _ _ (VL k a hk),z1,z2,z3⟩
    ·rw[ZP Aj]at hk;have xr:k-bz.length=0:=by
      have:=(WB hk).1;simp at this
      lia
     rw[xr]at hk;have:ab=a:=by simpa using hk
     subst this;have:k=i:=by lia
     subst this;exact⟨by rw[ak JX];exact s4 _ _ Ml,Pp,JX,D5⟩
  ·rintro σ H' ⟨⟨u1,u2,u3,rfl⟩,uY,TL,es,bs,TQ,M9,TE,Pq,xC,IH,DD,aaz,abH,MY,bz,Pt,BZ⟩;rw[List.length_map,TA.len]at TE IH DD;have Px:bz.length=n:=by rw[Pt,List.length_map]at IH;exact IH
   refine q H' e b TL uY ⟨es,M9,JW,TE,fun a ha=>(Pq a ha).1⟩ fun TU=>⟨bz++[TQ],by rw[xC,Pt];simp,VF,⟨by simp[Px],fun k a hk=>?_⟩,fun a ha=>?_⟩
   ·by_cases h:k<n
    ·rw[ZK Aj]at hk;exact(BZ k a hk).1
    ·rw[ZP Aj]at hk;have xr:k-bz.length=0:=by
      have:=(WB hk).1;simp at this
      lia
     rw[xr]at hk;have:TQ=a:=by simpa using hk
     subst this;have:k=n:=by lia
     subst this;exact DD TU
   ·rcases List.mem_append.mp ha with ha|ha
    ·obtain⟨k,hk,rfl⟩:=List.mem_iff_getElem.mp ha;exact(BZ k _ (by simp[hk])).2.2.2
    ·have:a=TQ:=by simpa using ha
     rw[this];exact MY
theorem jG:aL ["self","pair","brought"] ["self","pair"] (au gX):=gO
include T Rc in
theorem pB{f:Addr}{fd:FuncData}(F:iq K "goes_on" "Trails.goes_on" gX f fd):a9 P w K mg base (cY P w) true 1 f fd ["self","pair"] (xu az):=by
 refine F.gK jG Yz gP
 ·obtain⟨x,dx,e,b,es,bs,f,o,p,n,m,pr,i,j,rfl,_⟩:=h;rfl
 ·obtain⟨x,dx,e,b,es,bs,f1,o,p,n,m,pr,i,j,rfl,TR,Cm,hi,hj,q⟩:=h;refine⟨_,(U' (WX (2) jG.nd (Xa (Xa Z1 (ZQ (bI K) (pv 1) ai)) (ZQ (bI K) (pv 1) ai))) (R3 (Z0 (@wG _ _ _ _ _ _ _ (@zX _ _ _ _ _ _ (@oG _ _ _ _ _ (pv 2)) (by first|exact bo _ (Sz) (Sz)|rfl)) (@wF _ _ _ _ _ (@iO _ _ _ _ _ _ _ _ Bt Y1 ai (aV _))))))),?_⟩;obtain⟨ra,h1,h2,h3⟩:=TR.tb.at (show i<n+1 by lia);refine⟨_,rfl,x,az,dx,_,_,rfl,TR.ob,Rc.cl,Rc.jB,gU o p e b,_,rfl,pr,_,_,_,rfl,rfl, .of Cm,U_ (j:=0),b,_,_,_,rfl,rfl, .of TR.hb,ar h2,_,rfl,pr,_,_,_,rfl,rfl, .of Cm,U_ (j:=1),ra,_,_,_,rfl,rfl, .of h3,ar (dh (show j<m+1 by lia)),?_⟩;refine⟨_,rfl,?_⟩;cases eB:Bq f1 o p i j with
  |none=>
   rw[eB]at q;exact⟨_,rfl,bb (fun hh=>X7 hh (by simp[bC])) fun _=>q⟩
  |some v=>
   rw[eB]at q;exact⟨_,rfl,bb (fun _=>⟨_,rfl,_,_,rfl,rfl,q⟩) fun hh=>X7 (by simp[bC]) hh⟩
theorem kq:aL ["self","crossing","pair"] ["self","crossing","pair"] (au dZ):=gO
include T Rc in
theorem kr{f:Addr}{fd:FuncData}(F:iq K "is_brought_by" "Trails.is_brought_by" dZ f fd):a9 P w K mg base (cY P w) true 1 f fd ["self","crossing","pair"] (AK az):=by
 refine F.gK kq Yz gP
 ·obtain⟨x,dx,e,b,es,bs,f,o,p,n,m,cr,pr,i,j,k,l,rfl,_⟩:=h;rfl
 ·obtain⟨x,dx,e,b,es,bs,f1,o,p,n,m,cr,pr,i,j,k,l,rfl,TR,JY,Cm,hi,hj,hk,hl,q⟩:=h;refine⟨_,(R3 (Z0 (@iO _ _ _ _ _ _ _ _ jb (Xa (Xa Z1 (ZQ (bI K) (pv 2) ai)) (ZQ (bI K) (pv 2) ai)) (Xa (Xa Z1 (ZQ (bI K) (pv 1) ai)) (ZQ (bI K) (pv 1) ai)) (aV _)))),?_⟩;obtain⟨ra,h1,h2,h3⟩:=TR.tb.at (show i<n+1 by lia);obtain⟨rb,g1,g2,g3⟩:=TR.te.at hk;refine⟨_,rfl,x,az,dx,_,_,rfl,TR.ob,Rc.cl,Rc.kM,iu o p e b,_,rfl,pr,_,_,_,rfl,rfl, .of Cm,U_ (j:=0),e,_,_,_,rfl,rfl, .of TR.he,ar g2,_,rfl,pr,_,_,_,rfl,rfl, .of Cm,U_ (j:=1),rb,_,_,_,rfl,rfl, .of g3,ar (dh hl),?_⟩;refine⟨_,rfl,x,az,dx,_,_,rfl,TR.ob,Rc.cl,Rc.jB,gU o p e b,_,rfl,cr,_,_,_,rfl,rfl, .of JY,U_ (j:=0),b,_,_,_,rfl,rfl, .of TR.hb,ar h2,_,rfl,cr,_,_,_,rfl,rfl, .of JY,U_ (j:=1),ra,_,_,_,rfl,rfl, .of h3,ar (dh (show j<m+1 by lia)),?_⟩;have JZ:∀a c:Option Int,decide (bC a=bC c)=decide (a=c):=fun a c=>by cases a<;>cases c<;>simp[bC]
  refine⟨by cases dE f1 o p k l<;>cases Bq f1 o p i j<;>rfl,?_⟩;rw[JZ];exact q
theorem bq:aL ["self","crossing","i","j","brought","found"] ["self","crossing"] (au cT):=gO
include T k8 Rc in
theorem jm{f:Addr}{fd:FuncData}(F:iq K "crossings_before" "Trails.crossings_before" cT f fd):a9 P w K mg base (cY P w) true 2 f fd ["self","crossing"] (tT az):=by
 refine F.gK bq Yz gP
 ·obtain⟨x,dx,e,b,es,bs,f,o,p,n,m,cr,i,j,rfl,_⟩:=h;rfl
 ·obtain⟨x,dx,e,b,es,bs,f1,o,p,n,m,cr,i,j,rfl,TR,JY,hi,hj,q⟩:=h;refine⟨_,(X2 (WX (2) bq.nd (ZQ (bI K) (pv 1) ai)) (X2 (WX (3) bq.nd (ZQ (bI K) (pv 1) ai)) (X2 (WX (4) bq.nd (Xa (Xa Z1 (pv 2)) (pv 3))) (X2 (WX (5) bq.nd (ZL af)) (X2 (ZI (Z7 jb (Y6 k8 aR (R4 (Xa (Xa Z1 (RU cq Y1 ai)) (pv 3)) (Im Z1))) (pv 4)) (R3 (ZH (Ε K PySem.F.slot_list_append PySem.F.type_list_append bR (pv 5) (Im (@dB _ _ _ _ _ (Ρ (RU cq Y1 ai))))))) aS) (X2 (ZI (Z7 jb (Y6 k8 aR (R4 (Xa (Xa Z1 (pv 2)) (RU cq (pv 3) ai)) (Im Z1))) (pv 4)) (R3 (ZH (Ε K PySem.F.slot_list_append PySem.F.type_list_append bR (pv 5) (Im (@dB _ _ _ _ _ (R4 Y1 (Im (RU cq (pv 3) ai)))))))) aS) (R3 (Z0 (pv 5))))))))),?_⟩;have JZ:∀a c:Option Int,decide (bC a=bC c)=decide (a=c):=fun a c=>by cases a<;>cases c<;>simp[bC]
  obtain⟨ra,h1,h2,h3⟩:=TR.tb.at (show i<n+1 by lia);obtain⟨rb,g1,g2,g3⟩:=TR.tb.at (show i+1<n+1 by lia);refine⟨fun σ H1=>σ=[sR x,sR cr,sI (((i+1:Nat):Int)),none,none,none]∧H1=H,⟨_,rfl,cr,_,_,_,rfl,rfl, .of JY,U_ (j:=0),rfl,rfl⟩,?_⟩;rintro σ H ⟨rfl,rfl⟩;refine⟨fun σ H1=>σ=[sR x,sR cr,sI (((i+1:Nat):Int)),sI (((j+1:Nat):Int)),none,none]∧H1=H,⟨_,rfl,cr,_,_,_,rfl,rfl, .of JY,U_ (j:=1),rfl,rfl⟩,?_⟩;rintro σ H ⟨rfl,rfl⟩;refine⟨fun σ H1=>σ=[sR x,sR cr,sI (((i+1:Nat):Int)),sI (((j+1:Nat):Int)),some (bC (Bq f1 o p (i+1) (j+1))),none]∧H1=H,⟨_,rfl,x,az,dx,_,_,rfl,TR.ob,Rc.cl,Rc.jB,gU o p e b,_,rfl,b,_,_,_,rfl,rfl, .of TR.hb,ar g2,_,rfl,rb,_,_,_,rfl,rfl, .of g3,ar (dh (show j+1<m+1 by lia)),rfl,rfl⟩,?_⟩;rintro σ H ⟨rfl,rfl⟩;refine⟨fun σ H1=>∃r,σ=[sR x,sR cr,sI (((i+1:Nat):Int)),sI (((j+1:Nat):Int)),some (bC (Bq f1 o p (i+1) (j+1))),sR r]∧av H H1∧H r=none∧H1 r=some (.lst []),⟨aD K4,fun r hr=>⟨r,rfl,Wt hr,hr,ae⟩⟩,?_⟩;rintro σ H1 ⟨r,rfl,s1,rM,GR⟩;refine⟨fun σ H2=>∃us,σ=[sR x,sR cr,sI (((i+1:Nat):Int)),sI (((j+1:Nat):Int)),some (bC (Bq f1 o p (i+1) (j+1))),sR r]∧av H H2∧H2 r=some (.lst us)∧fN H2 us (if bB (Bq f1 o p i (j+1)) o=Bq f1 o p (i+1) (j+1)then[((i:Int),((j+1:Nat):Int))]else[]),?_,?_⟩
  ·have T1:=TR.keep s1;have ea:sM (bs.map V.ref) (((i+1:Nat):Int)-1)=some (.ref ra):=by
    rw[show((i+1:Nat):Int)-1=(i:Int) by lia];exact ar h2
   refine⟨_,rfl,x,az,dx,_,_,rfl,T1.ob,Rc.cl,Rc.jB,gU o p e b,_,rfl,_,_,rfl,rfl,b,_,_,_,rfl,rfl, .of T1.hb,ea,_,rfl,ra,_,_,_,rfl,rfl, .of (s1 _ _ h3),ar (dh (show j+1<m+1 by lia)),?_⟩;refine⟨_,rfl,x,az,dx,_,_,rfl,T1.ob,Rc.cl,Rc.out,JC o p e b,Bq f1 o p i (j+1),o,rfl,?_⟩;refine⟨_,rfl,by cases bB (Bq f1 o p i (j+1)) o<;>cases Bq f1 o p (i+1) (j+1)<;>rfl,_,rfl,?_⟩;rw[JZ];refine bb (fun hh=>?_) (fun hh=>?_)
   ·have hh:bB (Bq f1 o p i (j+1)) o=Bq f1 o p (i+1) (j+1):=of_decide_eq_true hh;rw[Hz hh];refine⟨_,rfl, .inl ⟨rfl,_, .of GR⟩,_,rfl,_,_,rfl,rfl,_,rfl,aD K4,fun t ht=>?_⟩;refine⟨r,_,_,rfl,rfl,av.upd ht _ _ GR,aZ K4,_,rfl,(s1.trans (Wt ht)).dU rM,ae,rfl,fun k f hf=>?_⟩;have hk:k=0:=by
     have:=(WB hf).1;simp at this
     lia
    subst hk;have hf:((i:Int),((j+1:Nat):Int))=f:=by simpa using hf
    subst hf;refine⟨t,rfl,?_⟩;rw[ak (fun z=>by subst z;rw[GR]at ht;cases ht),ae];rw[show((i+1:Nat):Int)-1=(i:Int) by lia];rfl
   ·have hh:¬bB (Bq f1 o p i (j+1)) o=Bq f1 o p (i+1) (j+1):=by simpa using hh
    rw[Dy hh];exact⟨[],rfl,s1,GR, .nil⟩
  rintro σ H2 ⟨us,rfl,s2,zT,P2⟩;have T2:=TR.keep s2;have aaY:us.length≤1:=by
   rw[P2.1];split<;>simp
  have eb:sM (c_ (m+1) (Bq f1 o p (i+1))) (((j+1:Nat):Int)-1)=some (bC (Bq f1 o p (i+1) j)):=by
   rw[show((j+1:Nat):Int)-1=(j:Int) by lia];exact ar (dh (show j<m+1 by lia))
  refine⟨fun σ H3=>∃us,σ=[sR x,sR cr,sI (((i+1:Nat):Int)),sI (((j+1:Nat):Int)),some (bC (Bq f1 o p (i+1) (j+1))),sR r]∧av H H3∧H3 r=some (.lst us)∧fN H3 us (bu f1 o p i j),?_,?_⟩
  ·refine⟨_,rfl,x,az,dx,_,_,rfl,T2.ob,Rc.cl,Rc.jB,gU o p e b,_,rfl,b,_,_,_,rfl,rfl, .of T2.hb,ar g2,_,rfl,_,_,rfl,rfl,rb,_,_,_,rfl,rfl, .of (s2 _ _ g3),eb,?_⟩;refine⟨_,rfl,x,az,dx,_,_,rfl,T2.ob,Rc.cl,Rc.into,Fe o p e b,Bq f1 o p (i+1) j,p,rfl,?_⟩;refine⟨_,rfl,by cases bB (Bq f1 o p (i+1) j) p<;>cases Bq f1 o p (i+1) (j+1)<;>rfl,_,rfl,?_⟩;rw[JZ];refine bb (fun hh=>?_) (fun hh=>?_)
   ·have hh:bB (Bq f1 o p (i+1) j) p=Bq f1 o p (i+1) (j+1):=of_decide_eq_true hh;refine⟨_,rfl, .inl ⟨rfl,_, .of zT⟩,_,rfl,_,rfl,_,_,rfl,rfl,aD K4,fun t ht=>?_⟩;have s3:=av.upd (o:= .tup [.int ((i+1:Nat):Int), .int (((j+1:Nat):Int)-1)]) ht;have VN:t≠r:=fun z=>by subst z;rw[zT]at ht;cases ht
    refine⟨r,_,_,rfl,rfl,s3 _ _ zT,aZ Aj,_,rfl,(s2.trans s3).dU rM,ae,?_⟩;unfold bu;rw[Hz hh];refine((P2.same s3).append ⟨rfl,fun k f hf=>?_⟩).cb fun a ys ha=>?_
    ·have hk:k=0:=by
      have:=(WB hf).1;simp at this
      lia
     subst hk;have hf:(((i+1:Nat):Int),(j:Int))=f:=by simpa using hf
     subst hf;refine⟨t,rfl,?_⟩;rw[ae,show((j+1:Nat):Int)-1=(j:Int) by lia];rfl
    ·have cB:a≠r:=fun z=>by subst z;rw[s3 _ _ zT]at ha;cases ha
     rw[ak cB];exact ha
   ·have hh:¬bB (Bq f1 o p (i+1) j) p=Bq f1 o p (i+1) (j+1):=by simpa using hh
    refine⟨us,rfl,s2,zT,?_⟩;unfold bu;rw[Dy hh,List.append_nil];exact P2
  rintro σ H3 ⟨us,rfl,s3,xJ,P3⟩;exact⟨_,rfl,q H3 r us s3 rM xJ P3⟩
variable(bh:dW P w K mg base true 1 az "is_brought_by" ["self","crossing","pair"] (AK az))
variable(aY:dW P w K mg base true 2 az "crossings_before" ["self","crossing"] (tT az))
theorem bV:aL ["self","pair","crossing","ahead"] ["self","pair"] (au e_):=gO
include T Rc bh aY in
theorem lF{f:Addr}{fd:FuncData}(F:iq K "pair_before" "Trails.pair_before" e_ f fd):a9 P w K mg base (cY P w) true 3 f fd ["self","pair"] (xv az):=by
 refine F.gK bV Yz gP
 ·obtain⟨x,dx,e,b,es,bs,f,o,p,n,m,pr,i,j,rfl,_⟩:=h;rfl
 ·obtain⟨x,dx,e,b,es,bs,f1,o,p,n,m,pr,i,j,rfl,TR,Cm,hi,hj,hB,q⟩:=h;refine⟨_,(U' (WX (2) bV.nd Wa) (U' (WX (3) bV.nd (@dB _ _ _ _ _ (R4 (RU cq (ZQ (bI K) (pv 2) ai) ai) (Im (RU cq (ZQ (bI K) (pv 2) ai) ai))))) (U' (@sY _ _ _ _ _ _ hX.own (@dJ _ _ _ _ (ZY (sf WC bh aR (Ρ Y1)))) (U' (WX (2) bV.nd (Xa (sf WC aY aR (Im Y1)) ai)) (R3 (WX (3) bV.nd (@dB _ _ _ _ _ (R4 (RU cq (ZQ (bI K) (pv 2) ai) ai) (Im (RU cq (ZQ (bI K) (pv 2) ai) ai)))))))) (R3 (Z0 (pv 3)))))),?_⟩;obtain⟨i,rfl⟩:∃i',i=i'+1:=by
   cases i with
   |zero=>exact X7 (iQ f1 o p j) hB
   |succ i=>exact⟨i,rfl⟩
  obtain⟨j,rfl⟩:∃j',j=j'+1:=by
   cases j with
   |zero=>exact X7 (by unfold Bq;rfl) hB
   |succ j=>exact⟨j,rfl⟩
  refine⟨_,rfl,_,rfl,pr,_,_,_,rfl,rfl, .of Cm,U_ (j:=0),_,_,rfl,rfl,_,rfl,pr,_,_,_,rfl,rfl, .of Cm,U_ (j:=1),_,_,rfl,rfl,aD K4,fun t ht=>?_⟩;refine⟨fun mm σ H1=>∃(cr ah:Addr)(i2 j2:Nat),mm=i2+j2∧σ=[sR x,sR pr,sR cr,sR ah]∧av H H1∧H1 cr=some (.tup [.int ((i2+1:Nat):Int), .int ((j2+1:Nat):Int)])∧H1 ah=some (.tup [.int i2, .int j2])∧i2<n∧j2<m∧Bq f1 o p (i2+1) (j2+1)≠none∧cN f1 o p (i2+1) (j2+1)=cN f1 o p (i+1) (j+1),⟨i+j,pr,t,i,j,rfl,rfl,Wt ht,av.upd ht _ _ Cm,?_,by lia,by lia,hB,rfl⟩,?_⟩
  ·rw[ae,show((i+1:Nat):Int)-1=(i:Int) by lia,show((j+1:Nat):Int)-1=(j:Int) by lia]
  rintro mm σ H1 ⟨cr,ah,i2,j2,rfl,rfl,s1,JY,VO,zP,TX,Nb,VP⟩;have T1:=TR.keep s1;refine⟨_,rfl,x,dx,_,rfl,T1.ob,JL o p e b,_,rfl,_,rfl,x,dx,e,b,es,bs,f1,o,p,n,m,cr,ah,i2+1,j2+1,i2,j2,rfl,T1,JY,VO,by lia,by lia,zP,TX,?_⟩;refine⟨_,rfl,?_⟩;by_cases hE:dE f1 o p i2 j2=Bq f1 o p (i2+1) (j2+1)
  ·rw[decide_eq_true hE];refine gR ?_;refine⟨_,rfl,q H1 ah s1 ?_⟩;have:cN f1 o p (i2+1) (j2+1)=(i2,j2):=by unfold cN;rw[Hz hE]
   rw[←VP,this];exact VO
  ·rw[decide_eq_false hE];refine jV ?_;refine⟨_,fun bj H' z=>z,?_⟩;obtain⟨i3,j3,c0,c1,c2,c3,c4,c5⟩:=zj Nb hE;refine⟨_,rfl,x,dx,_,rfl,T1.ob,B7 o p e b,_,rfl,x,dx,e,b,es,bs,f1,o,p,n,m,cr,i2,j2,rfl,T1,JY,zP,TX,fun H2 r us s2 rM zT P2=>?_⟩;obtain⟨t2,k1,k2⟩:=P2.2 0 _ c0;refine⟨r,_,_,_,rfl,rfl, .of zT,ar (j:=0) k1,?_⟩;refine⟨_,rfl,t2,_,_,_,rfl,rfl, .of k2,U_ (j:=0),_,_,rfl,rfl,_,rfl,t2,_,_,_,rfl,rfl, .of k2,U_ (j:=1),_,_,rfl,rfl,aD K4,fun t3 VQ=>?_⟩;refine⟨i3+j3,by lia,t2,t3,i3,j3,rfl,rfl,s1.trans (s2.trans (Wt VQ)),av.upd VQ _ _ k2,?_,by lia,by lia,c4,by rw[c5,VP]⟩;rw[ae];show some (HO.tup [.int (((i3+1:Nat):Int)-1), .int (((j3+1:Nat):Int)-1)])=_;rw[show((i3+1:Nat):Int)-1=(i3:Int) by lia,show((j3+1:Nat):Int)-1=(j3:Int) by lia]
variable(bY:dW P w K mg base true 1 az "goes_on" ["self","pair"] (xu az))
variable(dq:dW P w K mg base true 3 az "pair_before" ["self","pair"] (xv az))
theorem ku:aL ["self","pair","way"] ["self","pair"] (au iH):=gO
include T Rc bY dq in
theorem qV{f:Addr}{fd:FuncData}(F:iq K "way_to" "Trails.way_to" iH f fd):a9 P w K mg base (cY P w) true 4 f fd ["self","pair"] (AL az):=by
 refine F.gK ku Yz gP
 ·obtain⟨x,dx,e,b,es,bs,f,o,p,n,m,pr,i,j,rfl,_⟩:=h;rfl
 ·obtain⟨x,dx,e,b,es,bs,f1,o,p,n,m,pr,i,j,rfl,TR,Cm,hi,hj,hn,q⟩:=h;refine⟨_,(U' (WX (2) ku.nd (ZL (Im Wa))) (U' (@sY _ _ _ _ _ _ hX.own (ZY (sf WC bY aR (Im (Xa Y1 (@rC _ _ _ _ _ _ lM ai))))) (R3 (ZH (Ε K PySem.F.slot_list_append PySem.F.type_list_append bR Y1 (Im (sf WC dq aR (Im (Xa Y1 (@rC _ _ _ _ _ _ lM ai))))))))) (U' (ZH (@HM _ K _ _ _ _ _ _ _ _ PySem.F.plainAttrs_list PySem.F.slot_list_reverse PySem.F.type_list_reverse aaA Y1 (YG) (YG) (YG))) (R3 (Z0 Y1))))),?_⟩;refine⟨_,rfl,aD K4,fun w hw=>?_⟩;refine⟨fun mm σ H1=>∃(us:List V)(A:List (Nat×Nat))(i2 j2:Nat),mm=i2∧σ=[sR x,sR pr,sR w]∧av H H1∧H1 w=some (.lst us)∧fN H1 us ((A++[(i2,j2)]).map aQ)∧i2<n∧j2<m∧A.length+i2≤i∧eJ f1 o p i i j=eJ f1 o p i2 i2 j2++A.reverse,⟨i,_,[],i,j,rfl,rfl,Wt hw,ae,⟨rfl,fun k g hg=>?_⟩,hi,hj,MD,MD⟩,?_⟩
  ·have hk:k=0:=by
    have:=(WB hg).1;simp at this
    lia
   subst hk;have hg:aQ (i,j)=g:=by simpa using hg
   subst hg;exact⟨pr,rfl,av.upd hw _ _ Cm⟩
  rintro i2 σ H1 ⟨us,A,_,j2,rfl,rfl,s1,sj,P1,zP,TX,hA,IJ⟩;have T1:=TR.keep s1;obtain⟨t,yw,uN⟩:=P1.last K4;rw[List.map_append,List.map_singleton,nK]at uN;have hlen:us.length≤1001:=by have:=P1.1;simp at this;lia
  refine⟨_,rfl,x,dx,_,rfl,T1.ob,FQ o p e b,_,rfl,_,rfl,w,_,_,_,rfl,rfl, .of sj,yw,x,dx,e,b,es,bs,f1,o,p,n,m,t,i2,j2,rfl,T1,uN,by lia,by lia,?_⟩;refine⟨_,rfl,?_⟩;refine bb (fun hh=>?_) (fun hh=>?_)
  ·obtain⟨c1,c2,c3⟩:=kf hh;have hl:=(kN f1 o p i2 j2 c1 c2).resolve_right c3;refine⟨_,fun bj H' z=>z,?_⟩;refine⟨_,rfl, .inl ⟨rfl,_, .of sj⟩,_,rfl,x,dx,_,rfl,T1.ob,L6 o p e b,_,rfl,_,rfl,w,_,_,_,rfl,rfl, .of sj,yw,x,dx,e,b,es,bs,f1,o,p,n,m,t,i2,j2,rfl,T1,uN,by lia,by lia,c3,fun H2 r s2 hr=>?_⟩;have abF:r≠w:=fun z=>by subst z;rw[s2 _ _ sj]at hr;cases hr
   refine⟨w,_,_,rfl,rfl,s2 _ _ sj,aZ Aj,(cN f1 o p i2 j2).1,hl.1,us++[.ref r],A++[(i2,j2)],_,(cN f1 o p i2 j2).2,rfl,rfl,(s1.trans s2).dU hw,ae,?_,by lia,by lia,by simp;lia,?_⟩
   ·rw[List.map_append];refine((P1.same s2).append ⟨rfl,fun k g hg=>?_⟩).cb fun a ys ha=>?_
    ·have hk:k=0:=by
      have:=(WB hg).1;simp at this
      lia
     subst hk;have hg:aQ ((cN f1 o p i2 j2).1,(cN f1 o p i2 j2).2)=g:=by simpa using hg
     subst hg;exact⟨r,rfl,hr⟩
    ·have cB:a≠w:=fun z=>by subst z;rw[s2 _ _ sj]at ha;cases ha
     rw[ak cB];exact ha
   ·rw[IJ,wc hh];simp
  ·have hh:¬gN (Bq f1 o p i2 j2)=true:=hh;refine⟨_,rfl, .inl ⟨rfl,_, .of sj⟩,w,us,rfl,rfl,sj,?_⟩;refine⟨_,rfl,q _ w us.reverse (s1.dU hw) hw ae ?_⟩;have e:eJ f1 o p i i j=(A++[(i2,j2)]).reverse:=by
    rw[IJ,gW hh];simp
   rw[e,List.map_reverse];refine⟨by rw[List.length_reverse,List.length_reverse,P1.1],fun k g hg=>?_⟩;have hk:=(WB hg).1;rw[List.length_reverse]at hk;have hl:=P1.1;rw[List.getElem?_reverse hk]at hg;obtain⟨t3,k1,k2⟩:=P1.2 _ _ hg;refine⟨t3,by rw[List.getElem?_reverse Aj,hl];exact k1,?_⟩;have cB:t3≠w:=fun z=>by subst z;rw[sj]at k2;cases k2
   rw[ak cB];exact k2
variable(Fc:JM K aA)
theorem mR:aL ["self","worth","way","row","pairs"] ["self","worth","way","row","pairs"] (au fU):=gO
include T Fc in
theorem mS{f:Addr}{fd:FuncData}(F:iq K "__init__" "Finding.__init__" fU f fd):a9 P w K mg base (cY P w) true 1 f fd ["self","worth","way","row","pairs"] (tU aA):=by
 refine F.gK mR Yz gP
 ·obtain⟨x,dx,a,r,p,w,rfl,_⟩:=h;rfl
 ·obtain⟨x,dx,a,r,p,w,rfl,hx,q⟩:=h;refine⟨_,(U' (Zu K WC (pv 1)) (U' (Zu K WC (pv 2)) (U' (Zu K WC (pv 3)) (R3 (Zu K WC (pv 4)))))),?_⟩;have a1:=aX "worth" (.int w) [];have a2:=aX "way" (.ref a) (br "worth" (.int w) []);have a3:=aX "row" (.ref r) (br "way" (.ref a) (br "worth" (.int w) []));simp only[List.length_nil]at a1;refine⟨_,rfl,_,rfl,x,aA,dx,_,rfl,hx,Fc.cl,Fc.worth,Sz,?_⟩;refine⟨_,rfl,_,rfl,x,aA,dx,_,rfl,ae,Fc.cl,Fc.way,by lia,?_⟩;refine⟨_,rfl,_,rfl,x,aA,dx,_,rfl,ae,Fc.cl,Fc.row,by lia,?_⟩;refine⟨_,rfl,_,rfl,x,aA,dx,_,rfl,ae,Fc.cl,Fc.pairs,by lia,?_⟩;rw[f9,f9,f9,L7];exact q
theorem zt:aL ["finding"] ["finding"] (au nV):=gO
include T Fc in
theorem zu{f:Addr}{fd:FuncData}(F:jU K "order_of" "order_of" nV f fd):a9 P w K mg base (cY P w) true 1 f fd ["finding"] (tV aA):=by
 refine F.gK zt Yz gP
 ·obtain⟨x,dx,a,r,p,w,us,ps,rfl,_⟩:=h;rfl
 ·obtain⟨x,dx,a,r,p,w,us,ps,rfl,hx,hp,PS,cB,q⟩:=h;refine⟨_,(R3 (Z0 (@dB _ _ _ _ _ (R4 (@rC _ _ _ _ _ _ lM Z1) (Im (Xa Z1 ai)))))),?_⟩;obtain⟨t,h1,h2⟩:=PS.first cB;refine⟨_,rfl,x,aA,dx,_,_,rfl,hx,Fc.cl,Fc.worth,kg w a r p,_,rfl,_,rfl,x,aA,dx,_,_,rfl,hx,Fc.cl,Fc.pairs,jh w a r p,p,_,_,_,rfl,rfl, .of hp,h1,aD K4,fun k hk=>?_⟩;exact q _ k t (Wt hk) ae (av.upd hk _ _ h2)
variable(fQ:dW P w K mg base true 4 az "way_to" ["self","pair"] (AL az))
variable(k_:m3 P w K mg base true 1 "Finding" aA ["self","worth","way","row","pairs"] [] (tU aA))
theorem fR:aL ["trails","worth","pairs","ends","way","row"] ["trails","worth","pairs"] (au fe):=gO
include T Rc fQ k_ in
theorem sk{f:Addr}{fd:FuncData}(F:jU K "make_finding" "make_finding" fe f fd):a9 P w K mg base (cY P w) true 6 f fd ["trails","worth","pairs"] (AN az aA):=by
 refine F.gK fR Yz gP
 ·obtain⟨x,dx,e,b,es,bs,f,o,p,n,m,w,pr,us,ps,q0,rfl,_⟩:=h;rfl
 ·obtain⟨x,dx,e,b,es,bs,f1,o,p,n,m,w,pr,us,ps,q0,rfl,TR,Cm,PS,oB,h0,hn,Dk,q⟩:=h;refine⟨_,(X2 (@kH _ _ _ _ _ _ _ _ _ _ _ _ _ _ _ (3) _ _ (by exact rfl) fR.nd ZW (by exact rfl) (show bg ["trails","worth","pairs","ends","way","row"] (au fe) _ ["pair"] [0,1] ["trails","worth"]from Ck) (ZO K Y1) (fun _ _ _ _ _=>(Xc (0) (show(["pair","trails","worth"]:List Str).Nodup by decide+kernel))) (fun _ _ _ _ _=>(@BD _ _ _ (Z7 jb (Xa (Xa (Κ K Wa) (ZQ (bI K) (pv 0) ai)) (ZQ (bI K) (pv 0) ai)) (pv 2)))) (fun _ _ _ _ _=>(pv 0)) (YG) (by intro _;rfl)) (X2 (WX (4) fR.nd (sf WC fQ aR (Im (Xa (pv 3) ai)))) (X2 (@kH _ _ _ _ _ _ _ _ _ _ _ _ _ _ _ (5) _ _ (by exact rfl) fR.nd ZW (by exact rfl) (show bg ["trails","worth","pairs","ends","way","row"] (au fe) _ ["i","j"] [0] ["trails"]from Ck) (ZO K (pv 4)) (fun _ _ _ _ _=>(Ν K (2) (ZG (Xc (0) (show(["i","j","trails"]:List Str).Nodup by decide+kernel)) (ZG (Xc (1) (show(["i","j","trails"]:List Str).Nodup by decide+kernel)) eL)))) (fun _ _ _ _ _=>fz) (fun _ _ _ _ _=>(Xa (Xa (Κ K Y1) (pv 0)) (pv 1))) (YG) (by intro _;rfl)) (R3 (Z0 (ι k_ (hr.mono ZV) hX.pass (R4 Wa (R4 (pv 4) (Ψ (pv 5)))))))))),?_⟩;have IK:us.length=ps.length:=by have:=PS.1;simpa using this
  refine⟨fun σ H1=>∃D vs,σ=[sR x,sI w,sR pr,sR D,none,none]∧av H H1∧H1 D=some (.lst vs)∧fN H1 vs ((ps.filter fun q=>decide (dE f1 o p q.1 q.2=some w)).map aQ),?_,?_⟩
  ·refine⟨_,rfl,pr,rfl,⟨_, .of Cm⟩,fun D hD=>?_⟩;refine eD (xs:=us) (fun k ys bj H'=>(∃u,bj=[u,sR x,sI w])∧fN H ys (((ps.take k).filter fun q=>decide (dE f1 o p q.1 q.2=some w)).map aQ)∧H' D=some (.lst ys)∧av H H'∧ys.length≤k) ⟨⟨_,rfl⟩, .nil,ae,Wt hD,MD⟩ ?_ ?_ ?_
   ·rintro k ys bj H' _ ⟨_,_,_,s1,_⟩;exact .of (s1 _ _ Cm)
   ·rintro k v ys bj H' hv ⟨⟨u,rfl⟩,P1,si,s1,lz⟩;have hk:k<ps.length:=by rw[←IK];exact(WB hv).1
    have ek:ps[k]?=some ps[k]:=by simp[hk]
    have hm:=oB ps[k] (Δ hk);generalize ps[k]=g at ek hm;obtain⟨t,k1,k2⟩:=PS.2 k (aQ g) (by rw[List.getElem?_map,ek];rfl);rw[hv]at k1;cases k1;have T1:=TR.keep s1;have kt:=s1 _ _ k2;obtain⟨rb,g1,g2,g3⟩:=T1.te.at hm.1;have et:ps.take (k+1)=ps.take k++[g]:=by rw[List.take_succ,ek];rfl
    refine⟨_,rfl,x,az,dx,_,_,rfl,T1.ob,Rc.cl,Rc.kM,iu o p e b,_,rfl,t,_,_,_,rfl,rfl, .of kt,U_ (j:=0),e,_,_,_,rfl,rfl, .of T1.he,ar g2,_,rfl,t,_,_,_,rfl,rfl, .of kt,U_ (j:=1),rb,_,_,_,rfl,rfl, .of g3,ar (dh hm.2),?_⟩;have JZ:decide (bC (dE f1 o p g.1 g.2)=V.int w)=decide (dE f1 o p g.1 g.2=some w):=by cases dE f1 o p g.1 g.2<;>simp[bC]
    refine⟨_,rfl,by cases dE f1 o p g.1 g.2<;>rfl,_,rfl,?_⟩;rw[JZ];refine bb (fun hh=>?_) (fun hh=>?_)
    ·refine⟨_,rfl,si,aZ Aj,⟨_,rfl⟩,?_,ae,s1.dU hD,by simp;lia⟩;rw[et,List.filter_append,List.map_append];refine P1.append ?_;rw[show[g].filter (fun q=>decide (dE f1 o p q.1 q.2=some w))=[g] by rw[List.filter_cons,Hz hh];rfl];exact⟨rfl,fun k3 g3 Q5=>by
      have YB:k3=0:=by
       have:=(WB Q5).1;simp at this
       lia
      subst YB;have Q5:aQ g=g3:=by simpa using Q5
      subst Q5;exact⟨t,rfl,k2⟩⟩
    ·have hh:decide (dE f1 o p g.1 g.2=some w)=false:=by simpa using hh
     refine⟨⟨_,rfl⟩,?_,si,s1,by lia⟩;rw[et,List.filter_append,show[g].filter (fun q=>decide (dE f1 o p q.1 q.2=some w))=[] by rw[List.filter_cons,hh];rfl,List.append_nil];exact P1
   ·rintro ys bj H' ⟨_,P1,si,s1,_⟩;rw[IK,List.take_length]at P1;exact⟨D,ys,rfl,s1,si,P1.same s1⟩
  rintro σ H1 ⟨D,vs,rfl,s1,si,P1⟩;obtain⟨t0,k1,k2⟩:=P1.2 0 (aQ q0) (by rw[List.getElem?_map,h0];rfl);have Gx:q0.1<n∧q0.2<m:=oB q0 (List.mem_filter.mp (Y7 h0)).1;refine⟨fun σ H2=>∃wy iC,σ=[sR x,sI w,sR pr,sR D,sR wy,none]∧av H1 H2∧H1 wy=none∧H2 wy=some (.lst iC)∧fN H2 iC ((eJ f1 o p q0.1 q0.1 q0.2).map aQ),?_,?_⟩
  ·have T1:=TR.keep s1;exact⟨_,rfl,x,dx,_,rfl,T1.ob,OX o p e b,_,rfl,D,_,_,_,rfl,rfl, .of si,ar (j:=0) k1,x,dx,e,b,es,bs,f1,o,p,n,m,t0,q0.1,q0.2,rfl,T1,k2,Gx.1,Gx.2,hn,fun H2 wy iC s2 h2 h3 P2=>⟨wy,iC,rfl,s2,h2,h3,P2⟩⟩
  rintro σ H2 ⟨wy,iC,rfl,s2,TY,D6,P2⟩;have A9:=P2.1;rw[List.length_map]at A9;have Jp:(eJ f1 o p q0.1 q0.1 q0.2).length≤1001:=by
   have:=zk (f:=f1) (o:=o) (p:=p) q0.1 q0.1 q0.2
   lia
  have Py:=B8 (f:=f1) (o:=o) (p:=p) q0.1 q0.1 q0.2 Gx.1 Gx.2;generalize eJ f1 o p q0.1 q0.1 q0.2=W at P2 A9 Jp Py q;refine⟨fun σ H3=>∃r,σ=[sR x,sI w,sR pr,sR D,sR wy,sR r]∧av H2 H3∧H2 r=none∧H3 r=some (.lst (W.map fun q=>bC (dE f1 o p q.1 q.2))),?_,?_⟩
  ·refine⟨_,rfl,wy,rfl,⟨_, .of D6⟩,fun D2 i_=>?_⟩;refine eD (xs:=iC) (fun k ys bj H'=>(∃u v,bj=[u,v,sR x])∧ys=(W.take k).map (fun q=>bC (dE f1 o p q.1 q.2))∧H' D2=some (.lst ys)∧av H2 H') ⟨⟨_,_,rfl⟩,rfl,ae,Wt i_⟩ ?_ ?_ ?_
   ·rintro k ys bj H' _ ⟨_,_,_,s3⟩;exact .of (s3 _ _ D6)
   ·rintro k v ys bj H' hv ⟨⟨u,v2,rfl⟩,rfl,DC,s3⟩;have hk:k<W.length:=by rw[←A9];exact(WB hv).1
    have ek:W[k]?=some W[k]:=by simp[hk]
    have hm:=Py W[k] (Δ hk);generalize W[k]=g at ek hm;obtain⟨t,k1,k2⟩:=P2.2 k (aQ g) (by rw[List.getElem?_map,ek];rfl);rw[hv]at k1;cases k1;have T3:=TR.keep (s1.trans (s2.trans s3));have kt:=s3 _ _ k2;obtain⟨rb,g1,g2,g3⟩:=T3.te.at hm.1;refine⟨t,_,rfl, .of kt,rfl,_,_,rfl,_,_,rfl,rfl,?_⟩;refine my ?_;refine⟨_,rfl,x,az,dx,_,_,rfl,T3.ob,Rc.cl,Rc.kM,iu o p e b,_,rfl,e,_,_,_,rfl,rfl, .of T3.he,ar g2,_,rfl,rb,_,_,_,rfl,rfl, .of g3,ar (dh hm.2),?_⟩;refine⟨DC,aZ (by rw[List.length_map,List.length_take];lia),⟨_,_,rfl⟩,?_,ae,s3.dU i_⟩;rw[List.take_succ,ek];simp
   ·rintro ys bj H' ⟨_,rfl,DC,s3⟩;rw[A9,List.take_length]at DC;exact⟨D2,rfl,s3,i_,DC⟩
  rintro σ H3 ⟨r,rfl,s3,rM,xJ⟩;refine⟨_,rfl,_,rfl,_,rfl,_,rfl,fun y dy hy Mm cB=>?_⟩;have s4:av H3 (upd (upd H3 dy (.own y)) y (.ins aA dy [])):=(Wt Mm).dU hy;refine⟨y,dy,wy,r,pr,w,rfl,ae,?_⟩;refine⟨rfl,?_⟩;rw[f9];have s5:av H3 (upd (upd H3 dy (.own y)) y (.ins aA dy (m9 w wy r pr))):=(Wt Mm).dU hy;have sH:=s1.trans (s2.trans s3);exact q _ y dy wy r iC (sH.trans s5) (sH.free hy) (sH.free Mm) (s1.free TY) ((s1.trans s2).free rM) ae (by rw[ak cB];exact ae) (s5 _ _ (s3 _ _ D6)) (P2.same (s3.trans s5)) (s5 _ _ xJ)
variable(Gc:OY K aH)
theorem n6:aL ["self"] ["self"] (au gi):=gO
include T Gc in
theorem n8{f:Addr}{fd:FuncData}(F:iq K "__init__" "Groups.__init__" gi f fd):a9 P w K mg base (cY P w) true 1 f fd ["self"] (tW aH):=by
 refine F.gK n6 Yz gP
 ·obtain⟨x,dx,rfl,_⟩:=h;rfl
 ·obtain⟨x,dx,rfl,hx,q⟩:=h;refine⟨_,(U' (Zu K WC ka) (R3 (Zu K WC ka))),?_⟩;have a1:=aX "leads" (.ref 0) [];simp only[List.length_nil]at a1;refine fun dl Q6=>?_
  have n1:x≠dl:=aE hx Q6;refine⟨_,rfl,x,aH,dx,_,rfl,by rw[ak n1];exact hx,Gc.cl,Gc.pd,Sz,?_⟩;refine fun dm J0=>?_
  have n2:x≠dm:=fun z=>by rw[z,ae]at J0;cases J0
  have IL:upd H dl (.dT []) dm=none:=by rw[ak (Z' n2)]at J0;exact J0
  have n3:dm≠dl:=fun z=>by rw[z,ae]at IL;cases IL
  have Pz:H dm=none:=by rw[ak n3]at IL;exact IL
  refine⟨_,rfl,x,aH,dx,_,rfl,by rw[ak n2,ae],Gc.cl,Gc.members,by have:=aX "leads" (.ref dl) [];simp at this;lia,?_⟩;rw[OZ];refine q _ (fun a=>a=dl∨a=dm) ?_ ?_ ?_
  ·exact fun b u hb e=>by
    rw[ak hb,ak (aE e Pz),ak hb,ak (aE e Q6)];exact e
  ·rintro a (rfl|rfl)
   ·exact Q6
   ·exact Pz
  ·refine⟨dx,dl,dm,[],[],fun _=>none,fun _=>none,ae,fun z=>z.elim n1 n2,⟨?_,?_, .inl rfl, .inr rfl,Z' n3,fun p=>rfl,fun p=>rfl,fun p q a e=>(by cases e),fun kv h=>(by cases h), .nil,fun l ms e=>(by cases e),fun p l e=>(by cases e),fun l ms e=>(by cases e)⟩,fun a b=>⟨False.elim,fun⟨l,e,_⟩=>(by cases e)⟩,Nat.le_refl _,Nat.le_refl _⟩
   ·rw[ak (Z' n1),ak (Z' n3),ak (Z' n1),ae]
   ·rw[ak (Z' n2),ae]
theorem uZ:aL ["self","pair"] ["self","pair"] (au iT):=gO
include T Gc in
theorem u0{f:Addr}{fd:FuncData}(F:iq K "has" "Groups.has" iT f fd):a9 P w K mg base (cY P w) true 1 f fd ["self","pair"] (AO aH):=by
 refine F.gK uZ Yz gP
 ·obtain⟨x,t,p,S,E1,B,rfl,_⟩:=h;rfl
 ·obtain⟨x,t,p,S,E1,B,rfl,G,ht,q⟩:=h;have hu:=hr.units;have hu:(A.deeper (Α "Groups.has" (au iT) f f7)).units+1<cLine:=by lia
  refine⟨_,(R3 (Z0 (@zX _ _ _ _ _ _ (@qw _ _ _ _ _ hu Wa (ζ K)) (by first|exact bo _ (Sz) (Sz)|rfl)))),?_⟩;obtain⟨dg,dl,dm,kl,km,ld,mm,hg,GB,D,hE,Q7,Nb⟩:=G;refine⟨_,rfl,_,rfl,x,aH,dg,_,_,rfl,hg,Gc.cl,Gc.pd,jC dl dm,dl,_,rfl, .t (k:=ba p) D.hl ht,q _ ?_⟩;rw[hE];have:=D.lv p;cases e:ld p with
  |none=>
   rw[e]at this;have this:bA kl (ba p)=none:=this;rw[this];simp
  |some l=>
   rw[e]at this;obtain⟨t2,h1,_⟩:=this;rw[h1];simp
theorem pC:aL ["self","pair"] ["self","pair"] (au fA):=gO
include T Gc in
theorem pD{f:Addr}{fd:FuncData}(F:iq K "take_in" "Groups.take_in" fA f fd):a9 P w K mg base (cY P w) true 1 f fd ["self","pair"] (xw aH):=by
 refine F.gK pC Yz gP
 ·obtain⟨x,t,p,S,E1,B,rfl,_⟩:=h;rfl
 ·obtain⟨x,t,p,S,E1,B,rfl,G,ht,hB,q⟩:=h;have hu:=hr.units;have hu:(A.deeper (Α "Groups.take_in" (au fA) f f7)).units+1<cLine:=by lia
  refine⟨_,(R3 (ZI (Β (@vP _ _ _ _ _ hu Wa (ζ K))) (U' (@kF _ _ _ _ _ _ _ _ _ hu Z1 (pv 1) (pv 1) (by exact rfl)) (R3 (@kF _ _ _ _ _ _ _ _ _ hu Z1 (pv 1) (ZL (Im Wa)) (by exact rfl)))) aS)),?_⟩;obtain⟨dg,dl,dm,kl,km,ld,mm,hg,GB,D,hE,Q7,Nb⟩:=id G;refine⟨_,rfl,_,rfl,x,aH,dg,_,_,rfl,hg,Gc.cl,Gc.pd,jC dl dm,dl,_,rfl, .t (k:=ba p) D.hl ht,_,rfl,?_⟩;have lv:=D.lv p;cases e:ld p with
  |some l=>
   rw[e]at lv;obtain⟨t2,h1,_⟩:=lv;rw[h1];refine gR ?_;refine q H S (.same (.refl H)) (G.iff (fun a b=>?_) (by lia));unfold JN;refine⟨fun z=>z.elim id ?_, .inl⟩;rintro⟨rfl,rfl⟩;rw[hE];exact⟨l,e,e⟩
  |none=>
   rw[e]at lv;have lv:bA kl (ba p)=none:=lv;rw[lv];refine jV ?_;have nx:x≠dl:=fun z=>GB (z▸D.sl)
   have Q8:x≠dm:=fun z=>GB (z▸D.sm)
   have T9:t≠dl:=fun z=>by rw[z,D.hl]at ht;cases ht
   have aaP:t≠dm:=fun z=>by rw[z,D.hm]at ht;cases ht
   refine⟨_,rfl,_,rfl,x,aH,dg,_,_,rfl,hg,Gc.cl,Gc.pd,jC dl dm,_,rfl,dl,_,rfl, .t (k:=ba p) D.hl ht (aZ Aj),?_⟩;refine⟨_,rfl,aD K4,fun a ha=>?_⟩;have na:a≠dl:=fun z=>by rw[z,ae]at ha;cases ha
   have D5:H a=none:=by rw[ak na]at ha;exact ha
   have Po:x≠a:=aE hg D5;have VR:dm≠a:=aE D.hm D5;have YC:t≠a:=aE ht D5;refine⟨_,rfl,x,aH,dg,_,_,rfl,by rw[ak Po,ak nx];exact hg,Gc.cl,Gc.members,i8 dl dm,_,rfl,dm,_,rfl, .t (k:=ba p) (by rw[ak VR,ak (Z' D.ne)];exact D.hm) (by rw[ak YC,ak T9];exact ht) (aZ Aj),?_⟩;refine q _ (fun y=>S y∨y=a) ⟨fun y hy=>hy.imp id (fun z=>by rw[z];exact D5),fun b o hb eb=>?_⟩ ?_
   ·rw[ak (fun z:b=dm=>hb (by rw[z];exact D.sm)),ak (aE eb D5),ak (fun z:b=dl=>hb (by rw[z];exact D.sl))];exact eb
   refine⟨dg,dl,dm,_,_,_,_,by rw[ak Q8,ak Po,ak nx];exact hg,fun z=>z.elim GB Po,D.take (t:=t) (a:=a) e ht D5 ?_ ae ?_ ?_,fun a1 b1=>?_,?_,?_⟩
   ·rw[ak D.ne,ak (Z' na),ae]
   ·rw[ak (Z' VR),ae]
   ·intro b o h1 h2 eb;rw[ak h2,ak (aE eb D5),ak h1];exact eb
   ·unfold JN;rw[hE];constructor
    ·rintro(⟨l,h1,h2⟩|⟨z1,z2⟩)
     ·exact⟨l,by rw[Dy (fun z=>by rw[z,e]at h1;cases h1)];exact h1,by rw[Dy (fun z=>by rw[z,e]at h2;cases h2)];exact h2⟩
     ·exact⟨p,by rw[Hz z1],by rw[Hz z2]⟩
    ·rintro⟨l,h1,h2⟩;by_cases z1:a1=p
     ·by_cases z2:b1=p
      ·exact .inr ⟨z1,z2⟩
      ·rw[Hz z1]at h1;rw[Dy z2]at h2;cases h1;obtain⟨ms,DY⟩:=D.ml _ _ h2;have:=D.self _ _ DY;rw[e]at this;cases this
     ·rw[Dy z1]at h1;by_cases z2:b1=p
      ·rw[Hz z2]at h2;cases h2;obtain⟨ms,DY⟩:=D.ml _ _ h1;have:=D.self _ _ DY;rw[e]at this;cases this
      ·rw[Dy z2]at h2;exact .inl ⟨l,h1,h2⟩
   ·exact ZX (eZ _ _ _) (by lia)
   ·exact ZX (eZ _ _ _) (by lia)
theorem cC:aL ["self","pair","other","lead","gone","moved","member"] ["self","pair","other"] (au ff):=gO
include T Gc in
theorem so{f:Addr}{fd:FuncData}(F:iq K "unite" "Groups.unite" ff f fd):a9 P w K mg base (cY P w) true 1 f fd ["self","pair","other"] (tX aH):=by
 refine F.gK cC Yz gP
 ·obtain⟨x,t,u,p,q,S,E1,B,rfl,_⟩:=h;rfl
 ·obtain⟨x,t,u,p,q,S,E1,B,rfl,G,ht,QV,hp,hq,hB,qq⟩:=h;have hu:=hr.units;have J1:(A.deeper (Α "Groups.unite" (au ff) f f7)).units<cLine:=by lia
  have hu:(A.deeper (Α "Groups.unite" (au ff) f f7)).units+1<cLine:=by lia
  refine⟨_,(X2 (WX (3) cC.nd (δ hu Wa (fun _ _=>rfl))) (X2 (WX (4) cC.nd (δ hu Y1 (fun _ _=>rfl))) (R3 (ZI (Z7 (Ds K J1) (pv 3) (pv 4)) (X2 (ZI (Z7 mY (ZM (aK K) T.cZ (Im (δ hu (pv 3) (fun _ _=>rfl)))) (ZM (aK K) T.cZ (Im (δ hu (pv 4) (fun _ _=>rfl))))) (X2 (WX (3) cC.nd (δ hu Y1 (fun _ _=>rfl))) (R3 (WX (4) cC.nd (δ hu Wa (fun _ _=>rfl))))) aS) (X2 (WX (5) cC.nd (@Fi _ _ _ _ _ _ _ hu Z1 (pv 4) ⟨rfl,rfl,rfl,rfl⟩)) (X2 (ZJ (ZO K (pv 5)) (Xc (6) cC.nd) (R3 (@kF _ _ _ _ _ _ _ _ _ hu Z1 (pv 6) (pv 3) (by exact rfl)))) (R3 (ZH (Ε K PySem.F.slot_list_extend PySem.F.type_list_extend vQ (δ hu (pv 3) (fun _ _=>rfl)) (Im (pv 5)))))))) aS)))),?_⟩;obtain⟨dg,dl,dm,kl,km,ld,mm,hg,GB,D,hE,Q7,Nb⟩:=id G;obtain⟨l,J2,_⟩:=(hE p p).mp hp;obtain⟨g,J3,_⟩:=(hE q q).mp hq;obtain⟨tl,vl,zm⟩:∃tl,bA kl (ba p)=some (.ref tl)∧H tl=some (.tup (iK l)):=by have:=D.lv p;rw[J2]at this;exact this
  obtain⟨tg,vg,Nc⟩:∃tg,bA kl (ba q)=some (.ref tg)∧H tg=some (.tup (iK g)):=by have:=D.lv q;rw[J3]at this;exact this
  refine⟨fun σ H1=>H1=H∧σ=[sR x,sR t,sR u,sR tl,none,none,none],⟨_,rfl,x,aH,dg,_,_,rfl,hg,Gc.cl,Gc.pd,jC dl dm,_,rfl,dl,_,rfl,by have:=j_.t (k:=ba p) D.hl ht;rw[vl]at this;exact this,rfl,rfl⟩,?_⟩;rintro σ H1 ⟨rfl,rfl⟩;refine⟨fun σ H2=>H2=H1∧σ=[sR x,sR t,sR u,sR tl,sR tg,none,none],⟨_,rfl,x,aH,dg,_,_,rfl,hg,Gc.cl,Gc.pd,jC dl dm,_,rfl,dl,_,rfl,by have:=j_.t (k:=ba q) D.hl QV;rw[vg]at this;exact this,rfl,rfl⟩,?_⟩;rintro σ H2 ⟨rfl,rfl⟩;refine⟨_,rfl,_,rfl,tl,tg,_,_,rfl,rfl, .of zm, .of Nc,rfl,rfl,_,rfl,?_⟩;rw[xm];by_cases Cb:l=g
  ·rw[decide_eq_true Cb];refine gR ?_;refine qq _ (.same (.refl _)) (G.iff (fun a b=>?_) (Nat.le_refl _));subst Cb;unfold qN;rw[hE,hE,hE,hE,hE,J2,J3];constructor
   ·rintro(z|⟨z1,z2⟩)
    ·exact z
    ·have y1:ld a=some l:=by rcases z1 with⟨y,h1,h2⟩|⟨y,h1,h2⟩<;>(cases h2;exact h1)
     have y2:ld b=some l:=by rcases z2 with⟨y,h1,h2⟩|⟨y,h1,h2⟩<;>(cases h2;exact h1)
     exact⟨l,y1,y2⟩
   ·exact .inl
  rw[decide_eq_false Cb];refine jV ?_;obtain⟨m1,Cn⟩:=D.ml p l J2;obtain⟨m2,GV⟩:=D.ml q g J3;obtain⟨al,kO,PB,Cc,P1,_⟩:∃a us,bA km (ba l)=some (.ref a)∧H2 a=some (.lst us)∧fN H2 us m1∧S a:=by have:=D.mv l;rw[Cn]at this;exact this
  obtain⟨ag,iC,Q9,IM,P2,_⟩:∃a us,bA km (ba g)=some (.ref a)∧H2 a=some (.lst us)∧fN H2 us m2∧S a:=by have:=D.mv g;rw[GV]at this;exact this
  have gl:∀{tt:Addr}{r:Pr},H2 tt=some (.tup (iK r))→j_ H2 dm (.ref tt) (bA km (ba r)):=fun h=>j_.t (k:=ba _) D.hm h
  have VS:∀{tt:Addr}{r:Pr},H2 tt=some (.tup (iK r))→j_ H2 dl (.ref tt) (bA kl (ba r)):=fun h=>j_.t (k:=ba _) D.hl h
  refine⟨fun σ H3=>H3=H2∧∃l g tl tg p' q',σ=[sR x,sR t,sR u,sR tl,sR tg,none,none]∧l≠g∧H2 tl=some (.tup (iK l))∧H2 tg=some (.tup (iK g))∧ld p'=some l∧ld q'=some g∧∀a b,qN E1 p q a b↔qN E1 p' q' a b,?_,?_⟩
  ·refine⟨_,rfl,x,aH,dg,_,_,rfl,hg,Gc.cl,Gc.members,i8 dl dm,_,rfl,dm,_,rfl,by have:=gl zm;rw[PB]at this;exact this,al,_,rfl, .inl (.of Cc),?_⟩;refine⟨_,rfl,x,aH,dg,_,_,rfl,hg,Gc.cl,Gc.members,i8 dl dm,_,rfl,dm,_,rfl,by have:=gl Nc;rw[Q9]at this;exact this,ag,_,rfl, .inl (.of IM),?_⟩;refine⟨_,_,rfl,rfl,_,rfl,?_⟩;refine bb (fun _=>?_) (fun _=>?_)
   ·refine⟨fun σ H3=>H3=H2∧σ=[sR x,sR t,sR u,sR tg,sR tg,none,none],⟨_,rfl,x,aH,dg,_,_,rfl,hg,Gc.cl,Gc.pd,jC dl dm,_,rfl,dl,_,rfl,by have:=VS QV;rw[vg]at this;exact this,rfl,rfl⟩,?_⟩;rintro σ H3 ⟨rfl,rfl⟩;refine⟨_,rfl,x,aH,dg,_,_,rfl,hg,Gc.cl,Gc.pd,jC dl dm,_,rfl,dl,_,rfl,by have:=VS ht;rw[vl]at this;exact this,rfl,g,l,tg,tl,q,p,rfl,Z' Cb,Nc,zm,J3,J2,fun a b=>Dt⟩
   ·exact⟨rfl,l,g,tl,tg,p,q,rfl,Cb,zm,Nc,J2,J3,fun a b=>Iff.rfl⟩
  rintro σ H3 ⟨rfl,l,g,tl,tg,p',q',rfl,Cb,zm,Nc,J2,J3,YD⟩;obtain⟨m1,Cn⟩:=D.ml p' l J2;obtain⟨m2,GV⟩:=D.ml q' g J3;obtain⟨al,kO,PB,Cc,P1,VT⟩:∃a us,bA km (ba l)=some (.ref a)∧H3 a=some (.lst us)∧fN H3 us m1∧S a:=by have:=D.mv l;rw[Cn]at this;exact this
  obtain⟨ag,iC,Q9,IM,P2,aad⟩:∃a us,bA km (ba g)=some (.ref a)∧H3 a=some (.lst us)∧fN H3 us m2∧S a:=by have:=D.mv g;rw[GV]at this;exact this
  have aaV:al≠ag:=fun z=>Cb (D.inj l g al PB (by rw[Q9,z]))
  have l1:=D.uL (D.ms l m1 Cn).1 (fun r hr=>⟨l,((D.ms l m1 Cn).2 r).mp hr⟩);have l2:=D.uL (D.ms g m2 GV).1 (fun r hr=>⟨g,((D.ms g m2 GV).2 r).mp hr⟩);have nx:x≠dl:=fun z=>GB (by rw[z];exact D.sl)
  have Q8:x≠dm:=fun z=>GB (by rw[z];exact D.sm)
  have PD:al≠dl:=fun z=>by rw[z,D.hl]at Cc;cases Cc
  have PF:al≠dm:=fun z=>by rw[z,D.hm]at Cc;cases Cc
  have PH:ag≠dl:=fun z=>by rw[z,D.hl]at IM;cases IM
  have Mn:ag≠dm:=fun z=>by rw[z,D.hm]at IM;cases IM
  have A9:=P2.1;refine⟨fun σ H4=>H4=upd H3 dm (.dT (jc km (ba g)))∧σ=[sR x,sR t,sR u,sR tl,sR tg,sR ag,none],?_,?_⟩
  ·exact⟨_,rfl,x,aH,dg,_,_,rfl,hg,Gc.cl,Gc.members,i8 dl dm,dm,rfl, .inr ⟨km, .of D.hm⟩,_,rfl,dm,tg,km,ba g,_,rfl,rfl,D.hm,Nc,Q9,rfl,rfl⟩
  rintro σ H4 ⟨rfl,rfl⟩;refine⟨fun σ H5=>(∃w,σ=[sR x,sR t,sR u,sR tl,sR tg,sR ag,w])∧∃uT,H5 dl=some (.dT uT)∧uT.length≤B∧(∀r,bA uT (ba r)=if r∈m2 then some (.ref tl)else bA kl (ba r))∧SameBut dl (upd H3 dm (.dT (jc km (ba g)))) H5,?_,?_⟩
  ·refine⟨_,rfl,ag,rfl,⟨_, .of (by rw[ak Mn];exact IM)⟩,?_⟩;refine bU (xs:=iC) (fun i σ H5=>(∃w,σ=[sR x,sR t,sR u,sR tl,sR tg,sR ag,w])∧∃uT,H5 dl=some (.dT uT)∧uT.length≤B∧(∀r,bA uT (ba r)=if r∈m2.take i then some (.ref tl)else bA kl (ba r))∧SameBut dl (upd H3 dm (.dT (jc km (ba g)))) H5) ?_ ?_ ?_ ?_
   ·exact⟨⟨_,rfl⟩,kl,by rw[ak D.ne];exact D.hl,Q7,fun r=>MD, .refl⟩
   ·rintro i σ H5 _ ⟨_,uT,_,_,_,s5⟩;exact .of (s5 _ _ PH (by rw[ak Mn];exact IM))
   ·rintro i v σ H5 hv ⟨⟨w,rfl⟩,uT,h5,Nd,Mo,s5⟩;have hi:i<m2.length:=by rw[←A9];exact(WB hv).1
    have ei:m2[i]?=some m2[i]:=by simp[hi]
    have jg:m2[i]∈m2:=Δ hi;generalize m2[i]=r0 at ei jg;obtain⟨tr,k1,k2⟩:=P2.2 i r0 ei;rw[hv]at k1;cases k1;have VN:tr≠dl:=fun z=>by rw[z,D.hl]at k2;cases k2
    have T_:tr≠dm:=fun z=>by rw[z,D.hm]at k2;cases k2
    have k5:=s5 tr _ VN (by rw[ak T_];exact k2);have g5:=s5 x _ nx (by rw[ak Q8];exact hg);refine⟨_,rfl,_,rfl,x,aH,dg,_,_,rfl,g5,Gc.cl,Gc.pd,jC dl dm,_,rfl,dl,_,rfl, .t (k:=ba r0) h5 k5 (aZ Aj),⟨_,rfl⟩,_,ae,?_,fun r=>?_,s5.upd⟩
    ·have oB:bA uT (ba r0)≠none:=by
      rw[Mo];split
      ·simp
      ·have:=D.lv r0;rw[((D.ms g m2 GV).2 r0).mp jg]at this;obtain⟨t0,z,_⟩:=this;rw[z];simp
     have:(putK uT (ba r0) (.ref tl)).length=uT.length:=by
      unfold putK;rw[ip,Hz (by cases z:bA uT (ba r0)<;>simp_all),List.length_map]
     lia
    ·rw[jd,Mo];have et:m2.take (i+1)=m2.take i++[r0]:=by rw[List.take_succ,ei];rfl
     rw[et];by_cases e:r=r0
     ·rw[Hz (by rw[e]),Hz (by simp[e])]
     ·rw[Dy (fun z=>e (dj z))];by_cases e2:r∈m2.take i
      ·rw[Hz e2,Hz (by simp[e2])]
      ·rw[Dy e2,Dy (by simp[e,e2])]
   ·rintro σ H5 ⟨⟨w,rfl⟩,uT,h5,Nd,Mo,s5⟩;rw[A9,List.take_length]at Mo;exact⟨⟨_,rfl⟩,uT,h5,Nd,Mo,s5⟩
  rintro σ H5 ⟨⟨w,rfl⟩,uT,h5,Nd,Mo,s5⟩;have T9:tl≠dl:=fun z=>by rw[z,D.hl]at zm;cases zm
  have Ua:tl≠dm:=fun z=>by rw[z,D.hm]at zm;cases zm
  have g5:=s5 x _ nx (by rw[ak Q8];exact hg);have m5:=s5 dm _ (Z' D.ne) ae;have VU:=s5 al _ PD (by rw[ak PF];exact Cc);have YE:=s5 ag _ PH (by rw[ak Mn];exact IM);have YF:=s5 tl _ T9 (by rw[ak Ua];exact zm);have vd:bA (jc km (ba g)) (ba l)=some (.ref al):=by rw[mD,Dy (fun z=>Cb (dj z))];exact PB
  refine⟨_,rfl,x,aH,dg,_,_,rfl,g5,Gc.cl,Gc.members,i8 dl dm,_,rfl,dm, .ref al,rfl,by have:=j_.t (k:=ba l) m5 YF;rw[vd]at this;exact this, .inl ⟨rfl,_, .of VU⟩,_,rfl,al,ag,kO,iC,rfl,rfl,VU,YE,?_,?_⟩
  ·have:=P1.1;exact aD Aj
  have aat:x≠al:=fun z=>GB (by rw[z];exact VT)
  have J4:∀b o,¬S b→H3 b=some o→upd H5 al (.lst (kO++iC)) b=some o:=fun b o hb eb=>by
   rw[ak (fun z=>hb (by rw[z];exact VT))];exact s5 b o (fun z=>hb (by rw[z];exact D.sl)) (by rw[ak (fun z=>hb (by rw[z];exact D.sm))];exact eb)
  refine qq _ ⟨fun _ h=> .inl h,J4⟩ ?_;refine⟨dg,dl,dm,uT,jc km (ba g),_,_,J4 x _ GB hg,GB,D.O2 (tl:=tl) Cb Cn GV PB P1 P2 Cc zm Mo (by rw[ak (Z' PD)];exact h5) (by rw[ak (Z' PF)];exact m5) ae ?_,fun a b=>(YD a b).trans (L_ Cb J2 J3 (D.ms g m2 GV).2 hE a b),Nd,ZX (yJ _ _) Nb⟩;intro b o h1 h2 h3 eb;rw[ak h3];exact s5 b o h1 (by rw[ak h2];exact eb)
variable(dO:mg "sorted"=none)
theorem ug:aL ["self"] ["self"] (au hJ):=gO
include T Gc dO in
theorem uh{f:Addr}{fd:FuncData}(F:iq K "told" "Groups.told" hJ f fd):a9 P w K mg base (cY P w) true 1 f fd ["self"] (xx aH):=by
 refine F.gK ug Yz gP
 ·obtain⟨x,S,E1,B,rfl,_⟩:=h;rfl
 ·obtain⟨x,S,E1,B,rfl,G,hB,q⟩:=h;refine⟨_,(R3 (Z0 (@jy _ _ _ _ _ _ _ _ _ _ _ _ _ _ (by exact rfl) (show bg ["self"] (au hJ) _ ["members"] [] []from Ck) (@HW _ H _ _ _ _ _ (ζ K) (YG) (YG) (YG)) (fun _ _ _ _ _=>(Xc (0) (show(["members"]:List Str).Nodup by decide+kernel))) (fun _ _ _ _ _=>fz) (fun _ _ _ _ _=>(Η (nN K) dO PyProof.Rows.Boot.«sorted» (Im WC))) (by intro _;rfl)))),?_⟩;obtain⟨dg,dl,dm,kl,km,ld,mm,hg,GB,D,hE,Q7,Nb⟩:=G;refine⟨_,rfl,x,aH,dg,_,_,rfl,hg,Gc.cl,Gc.members,i8 dl dm,dm,km,rfl,D.hm,fun o nf R hR=>?_⟩;have nR:R≠dm:=fun z=>by rw[z,ae]at hR;cases hR
  have Ub:H R=none:=by rw[ak nR]at hR;exact hR
  refine Dq (fun k ys bj H'=>(∃u,bj=[u])∧(∃gs,f' H' ys gs∧gs.length=k∧∀(i:Nat) ps,gs[i]?=some ps→∃l ms v,km[i]?=some (ba l,v)∧mm l=some ms∧ps.Perm ms∧ps.Pairwise fun p q=>iB p q=true)∧H' R=some (.lst ys)∧(∀b o,b≠dm→H b=some o→H' b=some o)∧H' dm=some (.sJ o (.dT km))∧∀(i:Nat) a,ys[i]?=some (.ref a)→H a=none∧a≠R) ⟨⟨_,rfl⟩,⟨[], .nil,rfl,fun i ps e=>by simp at e⟩,ae,fun b o hb e=>by rw[ak (aE e Ub),ak hb];exact e,by rw[ak (Z' nR),ae],fun i a e=>by simp at e⟩ ?_ ?_ ?_
  ·rintro k ys bj H' _ ⟨_,_,_,_,h4,_⟩;exact h4
  ·rintro k ⟨key,v⟩ ys bj H' hk ⟨⟨u,rfl⟩,⟨gs,W1,hl,Nf⟩,PK,Ng,J0,CO⟩;obtain⟨l,el⟩:=D.key _ (Y7 hk);have el:key=ba l:=el;subst el;have vv:=Ca D.B_ hk;have mv:=D.mv l;cases e:mm l with
   |none=>
    rw[e]at mv;have mv:bA km (ba l)=none:=mv;rw[mv]at vv;cases vv
   |some ms=>
    rw[e]at mv;obtain⟨a,us,z1,z2,z3,z4⟩:=mv;rw[vv]at z1;cases z1;obtain⟨nd,DY⟩:=D.ms l ms e;have Uc:a≠dm:=fun z=>by rw[z,D.hm]at z2;cases z2
    have T:cJ H H':=fun b v hb=>Ng b _ (fun z=>by rw[z,D.hm]at hb;cases hb) hb
    refine nG ?_;refine⟨_,rfl,a,us,ms,rfl, .of (Ng _ _ Uc z2),z3.cb T,nd,by have:=D.uL nd (fun p hp=>⟨l,(DY p).mp hp⟩);lia,fun D2 DE qs i_ P2 perm pw=>?_⟩;have Q_:D2≠R:=fun z=>by rw[z,PK]at i_;cases i_
    have VV:D2≠dm:=fun z=>by rw[z,J0]at i_;cases i_
    have PL:H D2=none:=by
     cases z:H D2 with
     |none=>rfl
     |some o2=>rw[Ng D2 o2 VV z]at i_;cases i_
    have VW:=W1.1;have Tr:k<km.length:=(WB hk).1;refine⟨by rw[ak (Z' Q_)];exact PK,aZ Aj,⟨_,rfl⟩,⟨gs++[qs],?_,by simp;lia,fun i ps hi=>?_⟩,ae,fun b o hb eb=>?_,?_,fun i a ha=>?_⟩
    ·have W2:f' (upd H' D2 (.lst DE)) ys gs:=W1.same (Wt i_);have W3:f' (upd H' D2 (.lst DE)) (ys++[.ref D2]) (gs++[qs]):=W2.append (.one ae (P2.same (Wt i_)));refine W3.put (fun i e=>?_) (by rw[ak (Z' Q_)];exact PK);by_cases hi:i<ys.length
     ·rw[ZK hi]at e;exact(CO i R e).2 rfl
     ·have:=(WB e).1;have:i=ys.length:=by simp at this;lia
      subst this;simp at e;exact Q_ e
    ·by_cases zP:i<gs.length
     ·rw[ZK zP]at hi;exact Nf i ps hi
     ·have:=(WB hi).1;have:i=gs.length:=by simp at this;lia
      subst this;simp at hi;subst hi;exact⟨l,ms,_,by rw[hl];exact hk,e,perm,pw⟩
    ·rw[ak (aE eb Ub),ak (aE eb PL)];exact Ng b o hb eb
    ·rw[ak (Z' nR),ak (Z' VV)];exact J0
    ·by_cases hi:i<ys.length
     ·rw[ZK hi]at ha;exact CO i a ha
     ·have:=(WB ha).1;have:i=ys.length:=by simp at this;lia
      subst this;simp at ha;subst ha;exact⟨PL,Q_⟩
  ·rintro ys bj H' ⟨_,⟨gs,W1,hl,Nf⟩,PK,Ng,J0,CO⟩;refine q _ R ys gs ⟨fun a h=> .inl h,fun b o hb eb=>Ng b o (fun z=>hb (by rw[z];exact D.sm)) eb⟩ Ub PK W1 (fun k a h=>(CO k a h).1) ?_;have at_:∀ps∈gs,∃l ms,mm l=some ms∧ps.Perm ms∧ps.Pairwise (fun p q=>iB p q=true):=fun ps Dk=>by
    obtain⟨i,hi⟩:=List.getElem?_of_mem Dk;obtain⟨l,ms,v,_,h2,h3,h4⟩:=Nf i ps hi;exact⟨l,ms,h2,h3,h4⟩
   refine⟨fun ps Dk=>?_,fun ps Dk=>?_,fun ps Dk a ha b=>?_,fun a ha=>?_,?_⟩
   ·obtain⟨_,_,_,_,h4⟩:=at_ ps Dk
    exact h4
   ·obtain⟨l,ms,h2,h3,_⟩:=at_ ps Dk
    intro z;subst z;have:l∈ms:=((D.ms l ms h2).2 l).mpr (D.self l ms h2);have:=h3.mem_iff.mpr this;cases this
   ·obtain⟨l,ms,h2,h3,_⟩:=at_ ps Dk
    have ha:=((D.ms l ms h2).2 a).mp (h3.mem_iff.mp ha);rw[h3.mem_iff,(D.ms l ms h2).2,hE,ha];exact⟨fun z=>⟨l,rfl,z⟩,fun⟨y,h,z⟩=>by cases h;exact z⟩
   ·obtain⟨l,h1,_⟩:=(hE a a).mp ha;obtain⟨ms,DY⟩:=D.ml a l h1;have mv:=D.mv l;rw[DY]at mv;obtain⟨aa,us,z1,_⟩:=mv;obtain⟨i,hi⟩:=zl z1;have il:i<gs.length:=by rw[hl];exact(WB hi).1
    obtain⟨l2,YH,v,h5,h6,h7,_⟩:=Nf i gs[i] (by simp[il]);rw[hi]at h5;have:l=l2:=dj (Prod.mk.inj (YA h5)).1;subst this;refine⟨gs[i],Δ il,h7.mem_iff.mpr ?_⟩;exact((D.ms l YH h6).2 a).mpr h1
   ·rw[List.pairwise_iff_getElem];intro i j hi hj m7 a ha hb;obtain⟨l1,m1,v1,a1,a2,a3,_⟩:=Nf i gs[i] (by simp[hi]);obtain⟨l2,m2,v2,b1,b2,b3,_⟩:=Nf j gs[j] (by simp[hj]);have ha:=((D.ms l1 m1 a2).2 a).mp (a3.mem_iff.mp ha);have hb:=((D.ms l2 m2 b2).2 a).mp (b3.mem_iff.mp hb);rw[ha]at hb;cases hb;have nd:=D.B_;have h1:(km.map (·.1))[i]?=some (ba l1):=by rw[List.getElem?_map,a1];rfl
    have h2:(km.map (·.1))[j]?=some (ba l1):=by rw[List.getElem?_map,b1];rfl
    have:=(List.getElem?_inj (WB h1).1 nd).mp (h1.trans h2.symm)
    lia
variable(mK:m3 P w K mg base true 1 "Groups" aH ["self"] [] (tW aH))
variable(Hc:JQ K ay)
theorem lG:aL ["self","trails","worth"] ["self","trails","worth"] (au fg):=gO
include T mK Hc in
theorem lH{f:Addr}{fd:FuncData}(F:iq K "__init__" "Gathering.__init__" fg f fd):a9 P w K mg base (cY P w) true 3 f fd ["self","trails","worth"] (qO ay aH):=by
 refine F.gK lG Yz gP
 ·obtain⟨x,dx,tr,W,rfl,_⟩:=h;rfl
 ·obtain⟨x,dx,tr,W,rfl,hx,q⟩:=h;refine⟨_,(U' (Zu K WC (pv 1)) (U' (Zu K WC (pv 2)) (U' (Zu K WC (@FP _ _ _ _ _ _ _ _ _ _ _ mK (hr.mono ZV) hX.pass (YG) (Sz))) (R3 (Zu K WC ka))))),?_⟩;refine⟨_,rfl,_,rfl,x,ay,dx,_,rfl,hx,Hc.cl,Hc.tZ,Sz,?_⟩;refine⟨_,rfl,_,rfl,x,ay,dx,_,rfl,ae,Hc.cl,Hc.worth,by have:=aX "trails" (.ref tr) [];simp at this;lia,?_⟩;rw[f9];refine fun g dg hg Ra cB=>?_
  have PM:x≠g:=fun z=>by rw[←z,ae]at hg;cases hg
  have Ud:x≠dg:=fun z=>by rw[←z,ae]at Ra;cases Ra
  have PN:H g=none:=by rw[ak (Z' PM)]at hg;exact hg
  have PQ:H dg=none:=by rw[ak (Z' Ud)]at Ra;exact Ra
  refine⟨g,dg,rfl,ae,fun H1 S1 yx Ue G1=>⟨rfl,?_⟩⟩;have keep:∀b o,b≠x→H b=some o→H1 b=some o:=fun b o hb e=>yx b o (aE e PN) (by rw[ak (aE e PN),ak (aE e PQ),ak hb];exact e)
  have lE:H1 x=some (.ins ay dx (br "worth" (.int W) (br "trails" (.ref tr) []))):=yx x _ PM (by rw[ak PM,ak Ud];exact ae);have l2:(br "worth" (.int W) (br "trails" (.ref tr) [])).length≤2:=by
   have:=aX "trails" (.ref tr) [];have:=aX "worth" (.int W) (br "trails" (.ref tr) []);simp at*;lia
  refine⟨_,rfl,x,ay,dx,_,rfl,lE,Hc.cl,Hc.groups,by lia,?_⟩;refine fun dk Rb=>?_
  have Nh:x≠dk:=fun z=>by rw[←z,ae]at Rb;cases Rb
  have GC:H1 dk=none:=by rw[ak (Z' Nh)]at Rb;exact Rb
  have Ug:H dk=none:=by
   cases e:H dk with
   |none=>rfl
   |some o=>rw[keep dk o (Z' Nh) e]at GC;cases GC
  refine⟨_,rfl,x,ay,dx,_,rfl,by rw[ak Nh];exact ae,Hc.cl,Hc.marks,by have:=aX "groups" (.ref g) (br "worth" (.int W) (br "trails" (.ref tr) []));lia,?_⟩;rw[Mc];have Rg:¬S1 x:=fun z=>by
   have:=Ue x z;rw[ak PM,ak Ud,ae]at this;cases this
  have YI:¬S1 g:=fun z=>by
   have:=Ue g z;rw[ae]at this;cases this
  have G2:=G1.nt;have fin:∀b o,b≠x→H1 b=some o→upd (upd (upd H1 x (.ins ay dx (br "groups" (.ref g) (br "worth" (.int W) (br "trails" (.ref tr) []))))) dk (.dT [])) x (.ins ay dx (j1 tr W g dk)) b=some o:=fun b o hb e=>by
   rw[ak hb,ak (aE e GC),ak hb];exact e
  have Uh:¬(S1 dk∧NT H1 dk):=fun z=>by
   obtain⟨o,e,_⟩:=z.2;rw[GC]at e;cases e
  refine q _ (fun a=>(S1 a∧NT H1 a)∨a=dk) (fun b o hb e=>fin b o hb (keep b o hb e)) (fun a ha=>?_) ⟨dx,g,dk,[],fun a=>S1 a∧NT H1 a,ae,G2.keep (fun a o hs e=>fin a o (fun z=>Rg (by rw[←z];exact hs.1)) e) (fun b v hb=>fin b _ (fun z=>by rw[z,lE]at hb;cases hb) hb) (fun o e=>fin g o (Z' PM) e),by rw[ak (Z' Nh),ae],fun c=>rfl,Nat.le_refl _,fun a=>Iff.rfl,Uh,fun z=>z.elim (fun y=>Rg y.1) Nh,fun z=>z.elim (fun y=>YI y.1) (fun y=>?_),fun a ha=>?_⟩
  ·rcases ha with ha|ha
   ·have:=Ue a ha.1;cases e:H a with
    |none=>rfl
    |some o=>rw[ak (aE e PN),ak (aE e PQ),ak (fun z=>Rg (by rw[←z];exact ha.1)),e]at this;cases this
   ·rw[ha];exact Ug
  ·obtain⟨aae,dl,dm,kl,Io,ld,mm,og,_⟩:=G1;rw[y,GC]at og;cases og
  ·rcases ha with⟨h1,o,h2,h3⟩|ha
   ·exact⟨o,fin a o (fun z=>Rg (by rw[←z];exact h1)) h2,h3⟩
   ·exact⟨_,by rw[ha,ak (Z' Nh),ae],fun v=>(MD)⟩
variable(cR:dW P w K mg base true 1 aH "unite" ["self","pair","other"] (tX aH))
theorem pE:aL ["self","crossing","pair"] ["self","crossing","pair"] (au fB):=gO
include T Hc cR in
theorem pF{f:Addr}{fd:FuncData}(F:iq K "mark" "Gathering.mark" fB f fd):a9 P w K mg base (cY P w) true 2 f fd ["self","crossing","pair"] (t5 ay aH):=by
 refine F.gK pE Yz gP
 ·obtain⟨x,tc,tp,tr,W,c,r,S,s1,B,M,rfl,_⟩:=h;rfl
 ·obtain⟨x,tc,tp,tr,W,c,r,S,s1,B,M,rfl,G,hc,hp,L',h0,hB,hM,q⟩:=h;have hu:=hr.units;have hu:(A.deeper (Α "Gathering.mark" (au fB) f f7)).units+1<cLine:=by lia
  refine⟨_,(R3 (ZI (Β (@qw _ _ _ _ _ hu Wa (ζ K))) (R3 (ZH (sf Z1 cR aR (Ψ (δ hu Wa (fun _ _=>rfl)))))) (R3 (@kF _ _ _ _ _ _ _ _ _ hu Z1 (pv 1) (pv 2) (by exact rfl))))),?_⟩;obtain⟨dx,g,dk,km,S1,D⟩:=id G;refine⟨_,rfl,_,rfl,x,ay,dx,_,_,rfl,D.ob,Hc.cl,Hc.marks,lT tr W g dk,dk,_,rfl, .t (k:=ba c) D.hk hc,_,rfl,?_⟩;have mv:=D.mv c;cases e:s1.2 c with
  |none=>
   rw[e]at mv;have mv:bA km (ba c)=none:=mv;rw[mv];refine gR ?_;have hl:=D.len;refine⟨_,rfl,_,rfl,x,ay,dx,_,_,rfl,D.ob,Hc.cl,Hc.marks,lT tr W g dk,_,rfl,dk,_,rfl, .t (k:=ba c) D.hk hc (aZ Aj),?_⟩;obtain⟨u,D'⟩:=D.put (c:=c) hp;refine q _ S u ⟨dx,g,dk,putK km (ba c) (.ref tp),S1,?_⟩;unfold zo;rw[e];exact D'
  |some r0=>
   rw[e]at mv;obtain⟨t0,v0,YJ⟩:=mv;rw[v0];refine jV ?_;obtain⟨dg,dl,dm,kl,Io,ld,mm,og,_⟩:=id D.gr;refine⟨_,rfl,x,ay,dx,_,_,rfl,D.ob,Hc.cl,Hc.groups,i9 tr W g dk,g,dg,_,rfl,og,B9 dl dm,_,rfl,x,ay,dx,_,_,rfl,D.ob,Hc.cl,Hc.marks,lT tr W g dk,_,rfl,dk,_,rfl,by have:=j_.t (k:=ba c) D.hk hc;rw[v0]at this;exact this,_,rfl,g,t0,tp,r0,r,S1,s1.1,B,rfl,D.gr,YJ,hp,h0 r0 e,L',hB,fun H' u G'=>?_⟩;obtain⟨S',S2,u2,D2⟩:=D.QW u G';refine q _ S' u2 ⟨dx,g,dk,km,S2,?_⟩;unfold zo;rw[e];exact⟨D2.ob,D2.gr,D2.hk,D2.mv,by have:=D2.len;lia,D2.sS,D2.B_,D2.nx,D2.ng,D2.nt⟩
variable(bZ:dW P w K mg base true 1 aH "take_in" ["self","pair"] (xw aH))
variable(b_:dW P w K mg base true 2 ay "mark" ["self","crossing","pair"] (t5 ay aH))
theorem fm:aL ["self","crossing","pair","later","before"] ["self","crossing","pair"] (au dH):=gO
include T bh aY Hc cR bZ b_ in
theorem l6{f:Addr}{fd:FuncData}(F:iq K "go_over" "Gathering.go_over" dH f fd):a9 P w K mg base (cY P w) true 3 f fd ["self","crossing","pair"] (t6 ay aH az):=by
 refine F.gK fm Yz gP
 ·obtain⟨x,tc,tp,tr,dt,e,b,es,bs,f,o,p,n,m,W,i,j,r,S,s1,B,M,H0,rfl,_⟩:=h;rfl
 ·obtain⟨x,tc,tp,tr,dt,e,b,es,bs,f1,o,p,n,m,W,i,j,r,S,s1,B,M,H0,rfl,G,TR,BA,hc,hp,hi,hj,TP,OK,hs,hB,hM,q⟩:=h;have hu:=hr.units;have hu:(A.deeper (Α "Gathering.go_over" (au dH) f f7)).units+1<cLine:=by lia
  refine⟨_,(X2 (WX (3) fm.nd (δ hu Wa (fun _ _=>rfl))) (X2 (ZI (ZY (sf Z1 bh aR (Ψ Wa))) (X2 (ZH (sf Z1 bZ aR (Im Y1))) (R3 (ZH (sf Z1 cR aR (Ρ Y1))))) aS) (R3 (ZJ (ZO K (sf Z1 aY aR (Im Wa))) (Xc (4) fm.nd) (R3 (ZH (sf WC b_ aR (Ρ (pv 4))))))))),?_⟩;obtain⟨dx,g,dk,km,S1,D⟩:=id G;obtain⟨tl,vl,zm⟩:∃tl,bA km (ba (aQ (i+1,j+1)))=some (.ref tl)∧H tl=some (.tup (iK r)):=by have:=D.mv (aQ (i+1,j+1));rw[hs]at this;exact this
  obtain⟨M6,i2,j2,e2,OV⟩:=OK.mr _ _ hs;obtain⟨rfl,rfl⟩:=iS e2;refine⟨fun σ H1=>H1=H∧σ=[sR x,sR tc,sR tp,sR tl,none],⟨_,rfl,x,ay,dx,_,_,rfl,D.ob,Hc.cl,Hc.marks,lT tr W g dk,_,rfl,dk,_,rfl,by have:=j_.t (k:=ba (aQ (i+1,j+1))) D.hk hc;rw[vl]at this;exact this,rfl,rfl⟩,?_⟩;rintro σ H1 ⟨rfl,rfl⟩;have T1:=TR.keep BA.same;refine⟨fun σ H2=>σ=[sR x,sR tc,sR tp,sR tl,none]∧∃S',o_ S H1 S' H2∧iz H2 ay aH x tr W S' (JO f1 o p i j s1 r) (B+1) M,?_,?_⟩
  ·refine⟨_,rfl,x,ay,dx,_,_,rfl,D.ob,Hc.cl,Hc.tZ,mG tr W g dk,tr,dt,_,rfl,T1.ob,JL o p e b,_,rfl,_,rfl,tr,dt,e,b,es,bs,f1,o,p,n,m,tc,tp,i+1,j+1,i,j,rfl,T1,hc,hp,by lia,by lia,hi,hj,_,rfl,?_⟩;unfold JO;refine bb (fun hh=>?_) (fun hh=>?_)
   ·have hh:=of_decide_eq_true hh;rw[Hz hh];refine⟨fun σ H2=>σ=[sR x,sR tc,sR tp,sR tl,none]∧∃S',o_ S H1 S' H2∧iz H2 ay aH x tr W S' (JN s1.1 ZN,s1.2) (B+1) M,?_,?_⟩
    ·obtain⟨dg,dl,dm,kl,Io,ld,mm,og,_⟩:=id D.gr;refine⟨_,rfl,x,ay,dx,_,_,rfl,D.ob,Hc.cl,Hc.groups,i9 tr W g dk,g,dg,_,rfl,og,FU dl dm,_,rfl,g,tp,aQ (i,j),S1,s1.1,B,rfl,D.gr,hp,by lia,fun H' Me u G'=>?_⟩;obtain⟨S',S2,u2,D2⟩:=D.QW u G';exact⟨rfl,S',u2,dx,g,dk,km,S2,D2⟩
    rintro σ H2 ⟨rfl,S',u2,G2⟩;obtain⟨CZ,g2,Rh,Io,S2,D2⟩:=id G2;have T:=u2.cb G.nt;obtain⟨dg,dl,dm,kl,aaq,ld,mm,og,_⟩:=id D2.gr;refine⟨_,rfl,x,ay,CZ,_,_,rfl,D2.ob,Hc.cl,Hc.groups,i9 tr W g2 Rh,g2,dg,_,rfl,og,B9 dl dm,_,rfl,_,rfl,g2,tp,tl,aQ (i,j),r,S2,_,B+1,rfl,D2.gr,T _ _ hp,T _ _ zm, .inr ⟨rfl,rfl⟩, .inl M6,by lia,fun H' u G'=>?_⟩;obtain⟨QS,S3,u3,D3⟩:=D2.QW u G';exact⟨rfl,QS,u2.trans u3,CZ,g2,Rh,Io,S3,D3⟩
   ·have hh:¬dE f1 o p i j=Bq f1 o p (i+1) (j+1):=fun z=>hh (decide_eq_true z)
    rw[Dy hh];exact⟨rfl,S, .same (.refl _),G.cast rfl (by lia) (Nat.le_refl _)⟩
  rintro σ H2 ⟨rfl,S2,u2,G2⟩;obtain⟨YK,VX,_⟩:=F1 TP OK M6 OV;have Co:=BA.ups u2;have T2:=TR.keep Co.same;have TT:=u2.cb G.nt;obtain⟨CZ,g2,Rh,Io,S3,D2⟩:=id G2;refine⟨_,rfl,x,ay,CZ,_,_,rfl,D2.ob,Hc.cl,Hc.tZ,mG tr W g2 Rh,tr,dt,_,rfl,T2.ob,B7 o p e b,_,rfl,tr,dt,e,b,es,bs,f1,o,p,n,m,tc,i,j,rfl,T2,TT _ _ hc,hi,hj,fun H3 rr us s3 rM xJ P3=>?_⟩;refine⟨rr,rfl,⟨_, .of xJ⟩,?_⟩;have hlen:(bu f1 o p i j).length≤2:=by
   unfold bu;rw[List.length_append];split<;>split<;>simp
  have YL:=rL TP OV;refine bU (xs:=us) (fun k σ H4=>(∃w,σ=[sR x,sR tc,sR tp,sR tl,w])∧∃S4,o_ S H1 S4 H4∧iz H4 ay aH x tr W S4 (((bu f1 o p i j).take k).foldl (fun s c=>zo s c r) (JO f1 o p i j s1 r)) (B+1) (M+k)∧H4 rr=some (.lst us)∧fN H4 us (bu f1 o p i j)∧¬S4 rr∧H4 tl=some (.tup (iK r))) ?_ ?_ ?_ ?_
  ·have G3:=G2.same s3;refine⟨⟨_,rfl⟩,S2,u2.trans (.same s3),G3.cast K4 (Nat.le_refl _) (Nat.le_refl _),xJ,P3,G2.out rM,s3 _ _ (TT _ _ zm)⟩
  ·rintro k σ H4 _ ⟨_,S4,_,_,h4,_⟩;exact .of h4
  ·rintro k v σ H4 hv ⟨⟨w,rfl⟩,S4,u4,G4,h4,P4,n4,t4⟩;have hk:k<(bu f1 o p i j).length:=by rw[←P4.1];exact(WB hv).1
   have ek:(bu f1 o p i j)[k]?=some (bu f1 o p i j)[k]:=by simp[hk]
   have jg:(bu f1 o p i j)[k]∈bu f1 o p i j:=Δ hk;generalize (bu f1 o p i j)[k]=c at ek jg;obtain⟨t,k1,k2⟩:=P4.2 k c ek;rw[hv]at k1;cases k1;obtain⟨YM,YN,_⟩:=tY TP ((bu f1 o p i j).take k) _ YK (VX.e _ _ M6) (fun c hc=>YL c (List.mem_of_mem_take hc));obtain⟨YO,g4,YQ,aac,S5,D4⟩:=id G4;refine⟨_,rfl,x,YO,_,rfl,D4.ob,Cd tr W g4 YQ,_,rfl,_,rfl,x,t,tl,tr,W,c,r,S4,_,B+1,M+k,rfl,G4,k2,t4,YN.e _ _ (VX.e _ _ M6),fun r0 h=>(YM.mr _ _ h).1,by lia,by lia,fun H5 S6 u5 G5=>?_⟩;have T5:=u5.cb G4.nt;refine⟨⟨_,rfl⟩,S6,u4.trans u5,G5.cast ?_ ZD (by lia),u5.keep rr _ n4 h4,P4.cb T5,u5.out n4 h4,T5 _ _ t4⟩;rw[List.take_succ,ek];simp
  ·rintro σ H4 ⟨⟨w,rfl⟩,S4,u4,G4,h4,P4,n4,t4⟩;refine q _ S4 u4 (G4.cast ?_ ZD (by have:=P4.1;lia));rw[P4.1,List.take_length];rfl
variable(iW:dW P w K mg base true 1 aH "has" ["self","pair"] (AO aH))
variable(dI:dW P w K mg base true 3 ay "go_over" ["self","crossing","pair"] (t6 ay aH az))
theorem fV:aL ["self","i","j","pair","behind"] ["self","i","j"] (au eQ):=gO
include T Rc bY Hc bZ b_ iW dI in
theorem n9{f:Addr}{fd:FuncData}(F:iq K "visit" "Gathering.visit" eQ f fd):a9 P w K mg base (cY P w) true 4 f fd ["self","i","j"] (qQ ay aH az):=by
 refine F.gK fV Yz gP
 ·obtain⟨x,tr,dt,e,b,es,bs,f,o,p,n,m,W,i,j,S,s1,B,M,H0,rfl,_⟩:=h;rfl
 ·obtain⟨x,tr,dt,e,b,es,bs,f1,o,p,n,m,W,i,j,S,s1,B,M,H0,rfl,G,TR,BA,hi,hj,hn,hm,TP,OK,hB,hM,q⟩:=h;have hu:=hr.units;have hu:(A.deeper (Α "Gathering.visit" (au eQ) f f7)).units+1<cLine:=by lia
  refine⟨_,(X2 (WX (3) fV.nd (@dB _ _ _ _ _ (Ψ Wa))) (X2 (WX (4) fV.nd (@dB _ _ _ _ _ (R4 (RU bD Wa ai) (Im (RU bD Y1 ai))))) (X2 (ZI (Z7 jb (Xa (Xa (Κ K Z1) (pv 1)) (pv 2)) (ζ K)) (R3 (ZH (sf Z1 bZ aR (Im (pv 3))))) aS) (X2 (ZI (Β (@qw _ _ _ _ _ hu (pv 4) (ζ K))) (R3 (ZH (sf WC dI aR (Ρ (pv 4))))) aS) (R3 (ZI (@PW.pt _ _ _ (@pw_and _ _ _ _ _ _ _ (ZY (sf Z1 iW aR (Im (pv 3)))) (@pw_and1 _ _ _ _ (ZY (sf Z1 bY aR (Im (pv 3))))))) (R3 (ZH (sf WC b_ aR (Ρ (pv 3))))) aS)))))),?_⟩;refine⟨fun σ H1=>∃t,σ=[sR x,sI i,sI j,sR t,none]∧av H H1∧H1 t=some (.tup (iK ZN)),⟨_,rfl,_,rfl,aD K4,fun t ht=>⟨t,rfl,Wt ht,ae⟩⟩,?_⟩;rintro σ H1 ⟨t,rfl,s2,ht⟩;refine⟨fun σ H2=>∃u,σ=[sR x,sI i,sI j,sR t,sR u]∧av H1 H2∧H2 u=some (.tup (iK (aQ (i+1,j+1)))),⟨_,rfl,_,_,rfl,rfl,_,rfl,_,_,rfl,rfl,aD K4,fun u hu=>⟨u,rfl,Wt hu,ae⟩⟩,?_⟩;rintro σ H2 ⟨u,rfl,s3,QR⟩;have uN:=s3 _ _ ht;have Ni:=s2.trans s3;have G2:=G.same Ni;have Co:=BA.more Ni;have T2:=TR.keep Co.same;obtain⟨rb,g1,g2,g3⟩:=T2.te.at hi;refine⟨fun σ H3=>σ=[sR x,sI i,sI j,sR t,sR u]∧∃S',o_ S H2 S' H3∧iz H3 ay aH x tr W S' (Il f1 o p W i j s1) (B+1) M,?_,?_⟩
  ·obtain⟨dx,g,dk,km,S1,D⟩:=id G2;refine⟨_,rfl,x,ay,dx,_,_,rfl,D.ob,Hc.cl,Hc.tZ,mG tr W g dk,tr,az,dt,_,_,rfl,T2.ob,Rc.cl,Rc.kM,iu o p e b,_,rfl,e,_,_,_,rfl,rfl, .of T2.he,ar g2,_,rfl,rb,_,_,_,rfl,rfl, .of g3,ar (dh hj),_,rfl,x,ay,dx,_,_,rfl,D.ob,Hc.cl,Hc.worth,F' tr W g dk,?_⟩;have JZ:decide (bC (dE f1 o p i j)=V.int W)=decide (dE f1 o p i j=some W):=by cases dE f1 o p i j<;>simp[bC]
   refine⟨by cases dE f1 o p i j<;>rfl,_,rfl,?_⟩;rw[JZ];unfold Il;refine bb (fun hh=>?_) (fun hh=>?_)
   ·have hh:=of_decide_eq_true hh;rw[Hz hh];obtain⟨dg,dl,dm,kl,Io,ld,mm,og,_⟩:=id D.gr;refine⟨_,rfl,x,ay,dx,_,_,rfl,D.ob,Hc.cl,Hc.groups,i9 tr W g dk,g,dg,_,rfl,og,FU dl dm,_,rfl,g,t,aQ (i,j),S1,s1.1,B,rfl,D.gr,uN,by lia,fun H' Me u G'=>?_⟩;obtain⟨S',S2,u2,D2⟩:=D.QW u G';exact⟨rfl,S',u2,dx,g,dk,km,S2,D2⟩
   ·have hh:¬dE f1 o p i j=some W:=fun z=>hh (decide_eq_true z)
    rw[Dy hh];exact⟨rfl,S, .same (.refl _),G2.cast rfl (by lia) (Nat.le_refl _)⟩
  rintro σ H3 ⟨rfl,S3,u3,G3⟩;have Ri:=u3.cb G2.nt;have IP:=Co.ups u3;obtain⟨YR,GW1,_⟩:=F2 OK i j;refine⟨fun σ H4=>σ=[sR x,sI i,sI j,sR t,sR u]∧∃S',o_ S3 H3 S' H4∧iz H4 ay aH x tr W S' (DZ f1 o p W i j s1) (B+2) (M+2),?_,?_⟩
  ·obtain⟨dx,g,dk,km,S1,D⟩:=id G3;refine⟨_,rfl,_,rfl,x,ay,dx,_,_,rfl,D.ob,Hc.cl,Hc.marks,lT tr W g dk,dk,_,rfl, .t (k:=ba (aQ (i+1,j+1))) D.hk (Ri _ _ QR),_,rfl,?_⟩;have mv:=D.mv (aQ (i+1,j+1));have ee:(Il f1 o p W i j s1).2=s1.2:=rfl;rw[ee]at mv;unfold DZ;cases e9:s1.2 (aQ (i+1,j+1))with
   |none=>
    rw[e9]at mv;have mv:bA km (ba (aQ (i+1,j+1)))=none:=mv;rw[mv];refine gR ?_;exact⟨rfl,S3, .same (.refl _),G3.cast rfl (by lia) (by lia)⟩
   |some r=>
    rw[e9]at mv;obtain⟨tl,vl,zm⟩:=mv;rw[vl];refine jV ?_;exact⟨_,rfl,x,dx,_,rfl,D.ob,aaC tr W g dk,_,rfl,_,rfl,x,u,t,tr,dt,e,b,es,bs,f1,o,p,n,m,W,i,j,r,S3,_,B+1,M,H0,rfl,G3,TR,IP,Ri _ _ QR,Ri _ _ uN,hi,hj,TP,YR,e9,by lia,by lia,fun H' S' u G'=>⟨rfl,S',u,G'⟩⟩
  rintro σ H4 ⟨rfl,S4,u4,G4⟩;have YS:=u4.cb G3.nt;have YT:=IP.ups u4;have T4:=TR.keep YT.same;have Rj:=YS _ _ (Ri _ _ uN);obtain⟨YU,GW2,_⟩:=F5 TP OK i j;have uu:o_ S H S4 H4:=(o_.same Ni).trans (u3.trans u4);obtain⟨dx,g,dk,km,S1,D⟩:=id G4;obtain⟨dg,dl,dm,kl,Io,ld,mm,og,_⟩:=id D.gr;refine⟨_,rfl,x,ay,dx,_,_,rfl,D.ob,Hc.cl,Hc.groups,i9 tr W g dk,g,dg,_,rfl,og,O0 dl dm,_,rfl,g,t,aQ (i,j),S1,_,B+2,rfl,D.gr,Rj,fun b1 j5=>?_⟩;refine⟨_,rfl,?_⟩;refine bb (fun hh=>?_) (fun hh=>?_)
  ·refine⟨_,rfl,x,ay,dx,_,_,rfl,D.ob,Hc.cl,Hc.tZ,mG tr W g dk,tr,dt,_,rfl,T4.ob,FQ o p e b,_,rfl,tr,dt,e,b,es,bs,f1,o,p,n,m,t,i,j,rfl,T4,Rj,by lia,by lia,_,rfl,?_⟩;refine bb (fun h2=>?_) (fun h2=>?_)
   ·have oB:=j5.mp hh;refine⟨_,rfl,x,dx,_,rfl,D.ob,Cd tr W g dk,_,rfl,_,rfl,x,t,t,tr,W,aQ (i,j),aQ (i,j),S4,_,B+2,M+2,rfl,G4,Rj,Rj,oB,fun r0 h=>(YU.mr _ _ h).1,by lia,by lia,fun H5 S5 u5 G5=>?_⟩;refine q _ S5 (uu.trans u5) ?_;unfold zS;rw[Hz ⟨oB,h2⟩];exact G5
   ·refine q _ S4 uu (G4.cast ?_ Aj (by lia));unfold zS;rw[Dy (fun z=>h2 z.2)]
  ·refine gR ?_;refine q _ S4 uu (G4.cast ?_ Aj (by lia));unfold zS;rw[Dy (fun z=>hh (j5.mpr z.1))]
variable(iX:m3 P w K mg base true 3 "Gathering" ay ["self","trails","worth"] [] (qO ay aH))
variable(eV:dW P w K mg base true 4 ay "visit" ["self","i","j"] (qQ ay aH az))
variable(ic:dW P w K mg base true 1 aH "told" ["self"] (xx aH))
theorem gq:aL ["trails","worth","gathering","i","j"] ["trails","worth"] (au j4):=gO
include T Rc Hc iX eV ic in
theorem ui{f:Addr}{fd:FuncData}(F:jU K "best_groups" "best_groups" j4 f fd):a9 P w K mg base (cY P w) true 5 f fd ["trails","worth"] (AS az):=by
 refine F.gK gq Yz gP
 ·obtain⟨tr,dt,e,b,es,bs,f,o,p,n,m,W,rfl,_⟩:=h;rfl
 ·obtain⟨tr,dt,e,b,es,bs,f1,o,p,n,m,W,rfl,TR,IT,VY,hn,hm,TP,q⟩:=h;refine⟨_,(X2 (WX (2) gq.nd (ι iX (hr.mono ZV) hX.pass (R4 WC (Im Wa)))) (X2 (ZJ (@wb _ _ _ _ _ _ _ _ (by exact rfl) T.fM (R4 (RU cq (ZM (aK K) T.cZ (Im Z1)) ai) (R4 (@rC _ _ _ _ _ _ lM ai) (Im (@rC _ _ _ _ _ _ lM ai)))) (YG) (YG)) (Xc (3) gq.nd) (R3 (ZJ (@wb _ _ _ _ _ _ _ _ (by exact rfl) T.fM (R4 (RU cq (ZM (aK K) T.cZ (Im (Xa Z1 (pv 3)))) ai) (R4 (@rC _ _ _ _ _ _ lM ai) (Im (@rC _ _ _ _ _ _ lM ai)))) (YG) (YG)) (Xc (4) gq.nd) (R3 (ZH (sf Y1 eV aR (R4 (pv 3) (Im (pv 4))))))))) (R3 (Z0 (@vX _ _ _ _ _ _ _ _ _ _ _ _ _ (Κ K Y1) ic (hr.mono ZV) aR (YG)))))),?_⟩;refine⟨fun σ H1=>∃gx S,σ=[sR tr,sI W,sR gx,none,none]∧Base H H1 S∧iz H1 ay aH gx tr W S (fun _ _=>False,fun _=>none) 0 0,?_,?_⟩
  ·refine⟨_,rfl,_,rfl,fun y dy hy Mm cB=>⟨y,dy,tr,W,rfl,ae,fun H' S sb fr G=>⟨rfl,y,S,rfl,⟨SameBut.xg hy Mm sb,fun a ha=>?_⟩,G⟩⟩⟩;have:=fr a ha;cases e9:H a with
   |none=>rfl
   |some o9=>rw[ak (aE e9 hy),ak (aE e9 Mm),e9]at this;cases this
  rintro σ H1 ⟨gx,S,rfl,BA,G⟩;have II:es.length=n:=TR.te.1;have V0:=Vd.start f1 o p W n m;refine⟨fun σ H2=>(∃u v,σ=[sR tr,sI W,sR gx,u,v])∧∃S s B M,Base H H2 S∧iz H2 ay aH gx tr W S s B M∧Vd f1 o p W (Vb n m 0 0) s∧B≤6000,?_,?_⟩
  ·have T1:=TR.keep BA.same;refine⟨_,rfl,tr,az,dt,_,_,rfl,T1.ob,Rc.cl,Rc.kM,iu o p e b,e,_,rfl, .inl (.of T1.he),_,_,rfl,rfl,_,rfl,_,rfl,_,_,rfl,⟨by rw[List.length_map,II];lia,by rw[List.length_map,II];lia,Sz,Sz⟩,?_⟩;have en:((((es.map V.ref).length:Nat):Int)-1- -1).toNat=n:=by rw[List.length_map,II];lia
   rw[en];refine zi (fun k σ H2=>(∃u v,σ=[sR tr,sI W,sR gx,u,v])∧∃S s B M,Base H H2 S∧iz H2 ay aH gx tr W S s B M∧Vd f1 o p W (Vb n m (n-k) 0) s∧B≤2*(k*m)∧M≤3*(k*m)) ⟨⟨_,_,rfl⟩,S,_,0,0,BA,G,V0,by lia,by lia⟩ ?_ ?_
   ·rintro k σ H2 hk ⟨⟨u,v,rfl⟩,S2,s2,B,M,Co,G2,V2,hB,hM⟩;have ei:(((es.map V.ref).length:Nat):Int)-1-(k:Int)=((n-1-k:Nat):Int):=by rw[List.length_map,II];lia
    rw[ei];have T2:=TR.keep Co.same;obtain⟨rb,g1,g2,g3⟩:=T2.te.at (show n-1-k<n by lia);have V2:Vd f1 o p W (Vb n m (n-1-k) m) s2:=Vd.turn (by rw[show n-1-k+1=n-k by lia];exact V2);have aab:(k+1)*m≤n*m:=Nat.mul_le_mul_right m Aj;have aaj:(k+1)*m=k*m+m:=Nat.succ_mul k m;have lm:∀g:Nat→Option Int,(c_ m g).length=m:=fun g=>by simp[c_]
    refine⟨_,rfl,tr,az,dt,_,_,rfl,T2.ob,Rc.cl,Rc.kM,iu o p e b,_,rfl,e,_,_,_,rfl,rfl, .of T2.he,ar g2,rb,_,rfl, .inl (.of g3),_,_,rfl,rfl,_,rfl,_,rfl,_,_,rfl,⟨by rw[lm];lia,by rw[lm];lia,Sz,Sz⟩,?_⟩;have YV:((((c_ m (dE f1 o p (n-1-k))).length:Nat):Int)-1- -1).toNat=m:=by rw[lm];lia
    rw[YV];refine zi (fun l σ H3=>(∃v,σ=[sR tr,sI W,sR gx,sI (((n-1-k:Nat):Int)),v])∧∃S s B M,Base H H3 S∧iz H3 ay aH gx tr W S s B M∧Vd f1 o p W (Vb n m (n-1-k) (m-l)) s∧B≤2*(k*m+l)∧M≤3*(k*m+l)) ⟨⟨_,rfl⟩,S2,s2,B,M,Co,G2,V2,hB,hM⟩ ?_ ?_
    ·rintro l σ H3 hl ⟨⟨v3,rfl⟩,S3,s3,B3,M3,IP,G3,V3,YW,YX⟩;have ej:(((c_ m (dE f1 o p (n-1-k))).length:Nat):Int)-1-(l:Int)=((m-1-l:Nat):Int):=by rw[lm];lia
     rw[ej];obtain⟨dx,g,dk,km,S1,D⟩:=id G3;have V3:Vd f1 o p W (Vb n m (n-1-k) (m-1-l+1)) s3:=by rw[show m-1-l+1=m-l by lia];exact V3
     refine⟨_,rfl,gx,dx,_,rfl,D.ob,Ga tr W g dk,_,rfl,_,rfl,gx,tr,dt,e,b,es,bs,f1,o,p,n,m,W,n-1-k,m-1-l,S3,s3,B3,M3,H,rfl,G3,TR,IP,by lia,by lia,hn,hm,TP,V3.ok,by lia,by lia,fun H4 S4 u4 G4=>?_⟩;refine⟨⟨_,rfl⟩,S4,_,_,_,IP.ups u4,G4,?_,by lia,by lia⟩;have:=V3.next TP (show n-1-k<n by lia) (show m-1-l<m by lia);rw[show m-(l+1)=m-1-l by lia];exact this
    ·rintro σ H3 ⟨⟨v3,rfl⟩,S3,s3,B3,M3,IP,G3,V3,YW,YX⟩;refine⟨⟨_,_,rfl⟩,S3,s3,B3,M3,IP,G3,?_,by lia,by lia⟩;rw[show n-(k+1)=n-1-k by lia,show(0:Nat)=m-m by lia];exact V3
   ·rintro σ H2 ⟨⟨u,v,rfl⟩,S2,s2,B,M,Co,G2,V2,hB,hM⟩;rw[Nat.sub_self]at V2;exact⟨⟨_,_,rfl⟩,S2,s2,B,M,Co,G2,V2,by lia⟩
  rintro σ H2 ⟨⟨u,v,rfl⟩,S2,s2,B,M,Co,G2,V2,hB⟩;obtain⟨dx,g,dk,km,S1,D⟩:=id G2;obtain⟨dg,dl,dm,kl,Io,ld,mm,og,_⟩:=id D.gr;have HG:=fun a b=>V2.F_ TP IT a b
  refine⟨_,rfl,gx,ay,dx,_,_,rfl,D.ob,Hc.cl,Hc.groups,i9 tr W g dk,g,dg,_,rfl,og,L8 dl dm,g,S1,_,B,rfl,D.gr,by lia,fun H3 r us gs u3 rM xJ W3 MK TD=>?_⟩;have IP:Base H H2 S1:=⟨Co.same,fun a h=>Co.free a ((D.sS a).mpr (.inl h))⟩
  exact q _ r us gs (IP.ups u3).same (Co.same.free rM) xJ W3 (fun k a h=>Co.same.free (MK k a h)) (TD.iff HG)
theorem n_:aL ["taken","shut","pair"] ["taken"] (au mJ):=gO
include T in
theorem A_{f:Addr}{fd:FuncData}(F:jU K "shut_by" "shut_by" mJ f fd):a9 P w K mg base (cY P w) true 1 f fd ["taken"] xl:=by
 refine F.gK n_ Yz gP
 ·obtain⟨v,shut,rfl,_⟩:=h;rfl
 ·obtain⟨v,shut,rfl,TV,hlen,q⟩:=h;have hu:=hr.units;have hu:(A.deeper (Α "shut_by" (au mJ) f f7)).units+1<cLine:=by lia
  refine⟨_,(U' (WX (1) n_.nd ka) (X2 (ZI (Β (@oG _ _ _ _ _ (pv 0))) (R3 (ZJ (ZO K WC) (Xc (2) n_.nd) (R3 (@kF _ _ _ _ _ _ _ _ _ hu Wa (pv 2) eK ZW)))) aS) (R3 (Z0 Wa)))),?_⟩;refine fun d hd=>?_
  refine⟨fun σ H1=>(∃u,σ=[some v,sR d,u])∧av H H1∧∃kvs,H1 d=some (.dT kvs)∧m8 kvs shut,?_,?_⟩
  ·refine⟨_,rfl,_,rfl,?_⟩;rcases TV with⟨rfl,rfl⟩|⟨l,us,rfl,hl,P1⟩
   ·refine bb (fun hh=>absurd hh K4) (fun _=>?_);exact⟨⟨_,rfl⟩,Wt hd,[],ae,fun p=>by simp[s_]⟩
   ·refine bb (fun _=>?_) (fun hh=>absurd K4 hh);have IK:=P1.1;refine⟨_,rfl,l,rfl,⟨_, .of (av.upd hd _ _ hl)⟩,?_⟩;refine bU (xs:=us) (fun i σ H'=>(∃u,σ=[sR l,sR d,u])∧av H H'∧∃kvs,H' d=some (.dT kvs)∧kvs.length≤i∧m8 kvs (shut.take i)) ?_ ?_ ?_ ?_
    ·exact⟨⟨_,rfl⟩,Wt hd,[],ae,Nat.le_refl _,fun p=>by simp[s_]⟩
    ·rintro i σ H' _ ⟨_,s1,_⟩;exact .of (s1 _ _ hl)
    ·rintro i x σ H' hx ⟨⟨u,rfl⟩,s1,kvs,hD,hk,hS⟩;have hi:i<shut.length:=by rw[←IK];exact(WB hx).1
     obtain⟨t,yw,uN⟩:=P1.Lo hi;rw[hx]at yw;cases yw;refine⟨_,rfl,_,rfl,d,_,rfl, .t (k:=ba (pr shut i)) hD (s1 _ _ uN) (aZ Aj),⟨_,rfl⟩,s1.dU hd,_,ae,ZX (eZ _ _ _) (by lia),fun p=>?_⟩;have e1:shut.take (i+1)=shut.take i++[pr shut i]:=by rw[List.take_succ,JA hi];rfl
     rw[jd,e1];by_cases hp:p=pr shut i
     ·rw[Hz (by rw[hp])];simp[hp]
     ·rw[Dy (fun z=>hp ?_),hS p]
      ·simp[hp]
      ·simp only[ba,List.cons.injEq,Sum.inl.injEq,and_true]at z;exact Prod.ext z.1 z.2
    ·rintro σ H' ⟨⟨u,rfl⟩,s1,kvs,hD,_,hS⟩;rw[IK,List.take_length]at hS;exact⟨⟨_,rfl⟩,s1,kvs,hD,hS⟩
  rintro σ H1 ⟨⟨u,rfl⟩,s1,kvs,hD,hS⟩;exact⟨_,rfl,q H1 d kvs s1 hD hS⟩
variable(mL:bN P w K mg base true 1 "shut_by" ["taken"] xl)
variable(d8:dW P w K mg base true 1 aN "pair_worth" ["self","x","y"] (w_ aN))
theorem dP:aL ["first","second","terms","taken","shut","worths","i","x","row"] ["first","second","terms","taken"] (au fH):=gO
include T Tc mL d8 in
theorem aaB{f:Addr}{fd:FuncData}(F:jU K "open_worths" "open_worths" fH f fd):a9 P w K mg base (cY P w) true 2 f fd ["first","second","terms","taken"] (t9 aN):=by
 refine F.gK dP Yz gP
 ·obtain⟨f,g,t,v,c,shut,rfl,_⟩:=h;rfl
 ·obtain⟨f1,g,t,v,c,shut,rfl,hf,hg,TF,TV,Sh,Ti,VW,q⟩:=h;have hu:=hr.units;have hu:(A.deeper (Α "open_worths" (au fH) f f7)).units+1<cLine:=by lia
  have lx:(c.xs.map V.str).length=c.xs.length:=List.length_map ..;have ly:(c.ys.map V.str).length=c.ys.length:=List.length_map ..;refine⟨_,(X2 (@aG _ _ (4) _ _ _ _ dP.nd ZW (Or.inr rfl) (Y6 mL aR (Im (pv 3))) (YG) (by exact .inl rfl)) (X2 (WX (5) dP.nd (ZL af)) (X2 (ZJ (@oW _ K _ _ _ _ _ _ _ (by exact rfl) T.jz (Im WC) (YG) (YG)) (Ν K (2) (ZG (@aJ _ _ (6) _ dP.nd ZW (Or.inr rfl) (by first|exact .inl rfl|exact .inr rfl|assumption)) (ZG (@aJ _ _ (7) _ dP.nd ZW (Or.inr rfl) (by first|exact .inl rfl|exact .inr rfl|assumption)) eL))) (X2 (@kH _ _ _ _ _ _ _ _ _ _ _ _ _ _ _ (8) _ _ (by exact rfl) dP.nd ZW (by exact rfl) (show bg ["first","second","terms","taken","shut","worths","i","x","row"] (au fH) _ ["j","y"] [6,4,2,7] ["i","shut","terms","x"]from Ck) (@oW _ K _ _ _ _ _ _ _ (by exact rfl) T.jz (Im Wa) (YG) (YG)) (fun _ _ _ _ _=>(Ν K (2) (ZG (Xc (0) (show(["j","y","i","shut","terms","x"]:List Str).Nodup by decide+kernel)) (ZG (Xc (1) (show(["j","y","i","shut","terms","x"]:List Str).Nodup by decide+kernel)) eL)))) (fun _ _ _ _ _=>fz) (fun _ _ _ _ _=>(@oH _ _ _ _ _ _ _ _ (Β (@qw _ _ _ _ _ hu (@dB _ _ _ _ _ (R4 Y1 (Im WC))) (pv 3))) jT (sf (pv 4) d8 aR (R4 (pv 5) (Im Wa))))) (YG) (by intro _;rfl)) (R3 (ZH (Ε K PySem.F.slot_list_append PySem.F.type_list_append bR (pv 5) (Im (pv 8))))))) (R3 (Z0 (pv 5)))))),?_⟩;refine⟨fun σ H1=>∃d kvs,σ=[sR f1,sR g,sR t,some v,sR d,none,none,none,none]∧av H H1∧H1 d=some (.dT kvs)∧m8 kvs shut,?_,?_⟩
  ·exact⟨_,rfl,v,shut,rfl,TV,Sh,fun H1 d kvs s1 hd hS=>⟨d,kvs,rfl,s1,hd,hS⟩⟩
  rintro σ H1 ⟨d,kvs,rfl,s1,YY,hS⟩;refine⟨fun σ H2=>∃e,σ=[sR f1,sR g,sR t,some v,sR d,sR e,none,none,none]∧av H1 H2∧H1 e=none∧H2 e=some (.lst []),?_,?_⟩
  ·exact⟨aD K4,fun e he=>⟨e,rfl,Wt he,he,ae⟩⟩
  rintro σ H2 ⟨e,rfl,s2,JW,M9⟩;refine⟨fun σ H3=>(∃u1 u2 u3,σ=[sR f1,sR g,sR t,some v,sR d,sR e,u1,u2,u3])∧av H1 H3∧∃as:List Addr,H3 e=some (.lst (as.map V.ref))∧jf H3 as (iF c shut) c.xs.length c.ys.length∧(∀a∈as,H1 a=none∧a≠e)∧as.Nodup,?_,?_⟩
  ·refine⟨_,rfl,f1,rfl,⟨_, .of (s2 _ _ (s1 _ _ hf))⟩,?_⟩;refine yU (xs:=c.xs.map V.str) (fun i σ H'=>(∃u1 u2 u3,σ=[sR f1,sR g,sR t,some v,sR d,sR e,u1,u2,u3])∧av H1 H'∧∃as:List Addr,H' e=some (.lst (as.map V.ref))∧jf H' as (iF c shut) i c.ys.length∧(∀a∈as,H1 a=none∧a≠e)∧as.Nodup) ?_ ?_ ?_ ?_
   ·exact⟨⟨_,_,_,rfl⟩,s2,[],M9,⟨rfl,fun i a h=>by simp at h⟩,(fun a h=>by cases h), .nil⟩
   ·rintro i σ H' _ ⟨_,s3,_⟩;exact .of (s3 _ _ (s1 _ _ hf))
   ·rintro i x T' σ H' hx ⟨⟨u1,u2,u3,rfl⟩,s3,as,GU,TA,hn,GQ⟩ hT;obtain⟨wx,Rk,rfl⟩:=mB hx;have hi:i<c.xs.length:=(WB Rk).1;have s4:av H1 (upd H' T' (.tup [.int i, .str wx])):=s3.trans (Wt hT);have Rl:=av.upd (o:= .tup [.int i, .str wx]) hT _ _ GU;have Ro:=TA.same (av.upd (o:= .tup [.int i, .str wx]) hT);refine⟨T',_,rfl, .of ae,rfl,_,_,rfl,_,_,rfl,rfl,?_⟩;generalize upd H' T' (.tup [.int i, .str wx])=H4 at s4 Rl Ro;clear TA GU s3 hT;refine⟨fun σ H5=>∃r,σ=[sR f1,sR g,sR t,some v,sR d,sR e,sI i,sS wx,sR r]∧av H4 H5∧H4 r=none∧H5 r=some (.lst (c_ c.ys.length (iF c shut i))),?_,?_⟩
    ·have VZ:=s4 _ _ (s1 _ _ hg);refine⟨_,rfl,g,rfl,⟨_, .of VZ⟩,fun D hD=>?_⟩;refine v5 (xs:=c.ys.map V.str) (fun j ys bj H5=>(∃w1 w2,bj=[w1,w2,sI i,sR d,sR t,sS wx])∧ys=c_ j (iF c shut i)∧H5 D=some (.lst ys)∧av H4 H5) ⟨⟨_,_,rfl⟩,rfl,ae,Wt hD⟩ ?_ ?_ ?_
     ·rintro j ys bj H5 _ ⟨_,_,_,s5⟩;exact .of (s5 _ _ VZ)
     ·rintro j y T2 ys bj H5 hy ⟨⟨w1,w2,rfl⟩,rfl,GW,s5⟩ Pu;obtain⟨wy,D6,rfl⟩:=mB hy;have hj:j<c.ys.length:=(WB D6).1;have s6:av H4 (upd H5 T2 (.tup [.int j, .str wy])):=s5.trans (Wt Pu);have PR:=av.upd (o:= .tup [.int j, .str wy]) Pu _ _ GW;refine⟨T2,_,rfl, .of ae,rfl,_,_,rfl,_,_,rfl,rfl,?_⟩;generalize upd H5 T2 (.tup [.int j, .str wy])=H6 at s6 PR;refine my ?_;refine⟨_,rfl,_,rfl,aD K4,fun p hp=>?_⟩;have s7:=s6.trans (av.upd (o:= .tup [.int (i:Int), .int (j:Int)]) hp);have sA:=s4.trans s7;have D7:=av.upd (o:= .tup [.int (i:Int), .int (j:Int)]) hp _ _ PR;have len:(c_ j (iF c shut i)).length<sizeLine:=aZ (by rw[de];lia);have sn:∀u,u=iF c shut i j→c_ j (iF c shut i)++[bC u]=c_ (j+1) (iF c shut i):=fun u e=>by rw[qD,e]
      have Ui:c.pw ((i:Int),(j:Int))=cF c.same c.fs wx wy:=Case.pw_of (by rw[tJ];exact Rk) (by rw[tJ];exact D6);refine⟨_,rfl,d,_,rfl, .t (k:=ba ((i:Int),(j:Int))) (sA _ _ YY) ae,_,rfl,?_⟩;rw[hS];refine bb (fun h1=>?_) (fun h1=>?_)
      ·have h1:((i:Int),(j:Int))∈shut:=by simpa using h1
       refine⟨D7,len,⟨_,_,rfl⟩,?_,ae,s7.dU hD⟩;exact sn none (by simp[iF,oC,h1])
      ·have h1:((i:Int),(j:Int))∉shut:=by simpa using h1
       obtain⟨n,dx,l,dd,vs,T1,e1,e2,e3,e4⟩:=(TF.keep s1).keep sA;refine⟨_,rfl,t,dx,_,rfl,T1.ob,w8 n l dd,_,rfl,_,rfl,t,wx,wy,n,c.fs,dx,l,dd,vs,rfl,T1,fun H8 s8=>?_⟩;refine⟨s8 _ _ D7,len,⟨_,_,rfl⟩,?_,ae,(s7.trans s8).dU hD⟩;exact sn _ (by simp[iF,oC,h1,Ui,e1])
     ·rintro ys bj H5 ⟨_,rfl,GW,s5⟩;rw[ly]at GW;exact⟨D,rfl,s5,hD,GW⟩
    rintro σ H5 ⟨r,rfl,s5,rM,Uj⟩;have V1:r≠e:=Z' (aE Rl rM);have hlen:=Ro.len;refine⟨_,rfl, .inl ⟨rfl,_, .of (s5 _ _ Rl)⟩,_,rfl,e,_,_,rfl,rfl,s5 _ _ Rl,aZ (by rw[List.length_map];lia),⟨_,_,_,rfl⟩,(s4.trans s5).dU JW,as++[r],by rw[ae];simp,⟨by simp[hlen],fun k a hk=>?_⟩,fun a ha=>?_,List.nodup_append.mpr ⟨GQ,MD,fun x hx y hy e9=>?_⟩⟩
    ·by_cases h:k<i
     ·rw[ZK Aj]at hk;rw[ak (hn a (Y7 hk)).2];exact s5 _ _ (Ro.row k a hk)
     ·rw[ZP Aj]at hk;have xr:k-as.length=0:=by
       have:=(WB hk).1;simp at this
       lia
      rw[xr]at hk;have:r=a:=by simpa using hk
      subst this;rw[ak V1];have:k=i:=by lia
      rw[this];exact Uj
    ·rcases List.mem_append.mp ha with ha|ha
     ·exact hn a ha
     ·have:a=r:=by simpa using ha
      rw[this];exact⟨s4.free rM,V1⟩
    ·have hy:y=r:=by simpa using hy
     obtain⟨k,hk,ek⟩:=Ξ hx;have:=Ro.row k x (by rw[ZZ hk,ek]);rw[e9,hy,rM]at this;cases this
   ·rintro σ H' ⟨⟨u1,u2,u3,rfl⟩,s3,as,GU,TA,hn,GQ⟩;rw[lx]at TA;exact⟨⟨_,_,_,rfl⟩,s3,as,GU,TA,hn,GQ⟩
  rintro σ H3 ⟨⟨u1,u2,u3,rfl⟩,s3,as,GU,TA,hn,GQ⟩;exact⟨_,rfl,q H3 e as (s1.trans s3) GU (s1.free JW) TA GQ (fun z=>(hn e z).2 rfl) fun a ha=>s1.free (hn a ha).1⟩
variable(mM:m3 P w K mg base true 4 "Trails" az ["self","worths","terms"] [] (qL az aN))
variable(ie:bN P w K mg base true 5 "best_groups" ["trails","worth"] (AS az))
variable(gu:bN P w K mg base true 6 "make_finding" ["trails","worth","pairs"] (AN az aA))
theorem j7:aL ["worths","terms","trails","worth"] ["worths","terms"] (au gj):=gO
include T Tc fj Rc mM ie gu in
theorem u7{f:Addr}{fd:FuncData}(F:jU K "make_round" "make_round" gj f fd):a9 P w K mg base (cY P w) true 7 f fd ["worths","terms"] (pj aN aA):=by
 refine F.gK j7 Yz gP
 ·obtain⟨w,t,as,c,f,n,m,rfl,_⟩:=h;rfl
 ·obtain⟨w,t,as,c,f1,n,m,rfl,hw,TA,TF,IT,VY,hn,hm,q0,q1⟩:=h;refine⟨_,(X2 (@aG _ _ (2) _ _ _ _ j7.nd ZW (Or.inr rfl) (ι mM (hr.mono ZV) hX.pass (R4 WC (Im Wa))) (YG) (by exact .inl rfl)) (X2 (@aG _ _ (3) _ _ _ _ j7.nd ZW (Or.inr rfl) (Y6 fj aR (Im (@jy _ _ _ _ _ _ _ _ _ _ _ _ _ _ (by exact rfl) (show bg ["worths","terms","trails","worth"] (au gj) _ ["row"] [] []from Ck) (ZO K (Κ K Y1)) (fun _ _ _ _ _=>(Xc (0) (show(["row"]:List Str).Nodup by decide+kernel))) (fun _ _ _ _ _=>fz) (fun _ _ _ _ _=>(Y6 fj aR (Im WC))) (by intro _;rfl)))) (YG) (by exact .inl rfl)) (X2 (ZI (@PW.pt _ _ _ (ky (Β (@lK _ _ _ _ _ (pv 3))) (@pw_or1 _ _ _ _ (Z7 mY (pv 3) (Κ K Wa))))) (R3 (Z0 (ZL af))) aS) (R3 (Z0 (@jy _ _ _ _ _ _ _ _ _ _ _ _ _ _ (by exact rfl) (show bg ["worths","terms","trails","worth"] (au gj) _ ["pairs"] [2,3] ["trails","worth"]from Ck) (ZO K (Y6 ie aR (Ρ Y1))) (fun _ _ _ _ _=>(Xc (0) (show(["pairs","trails","worth"]:List Str).Nodup by decide+kernel))) (fun _ _ _ _ _=>fz) (fun _ _ _ _ _=>(Y6 gu aR (R4 Wa (R4 Y1 (Im WC))))) (by intro _;rfl))))))),?_⟩;refine⟨fun σ H1=>∃x dx e b es,σ=[sR w,sR t,sR x,none]∧av H H1∧H1 x=some (.ins az dx (gM c.out c.into e b))∧H1 e=some (.lst (es.map V.ref))∧jf H1 es (dE f1 c.out c.into) n m∧(0<n→∃bs,qK H1 az x dx e b es bs f1 c.out c.into n m),?_,?_⟩
  ·refine⟨_,rfl,_,rfl,fun x dx hx E9 cB=>?_⟩;have s5:av H (upd (upd H dx (.own x)) x (.ins az dx [])):=(Wt E9).dU hx;refine⟨x,dx,w,t,c,as,f1,n,m,rfl,ae,by rw[ak cB];exact ae,s5 _ _ hw,TA.same s5,TF.keep s5,hn,hm,fun H6 e b sb V4 Te Tb=>?_⟩;obtain⟨es,he,_,TE,_⟩:=Te;refine⟨rfl,x,dx,e,b,es,rfl,SameBut.xg hx E9 sb,V4,he,TE,fun h=>?_⟩;obtain⟨bs,hb,_,YZ,_⟩:=Tb h;exact⟨bs,V4,he,TE,hb,YZ⟩
  rintro σ H1 ⟨x,dx,e,b,es,rfl,s1,lE,A8,TE,Y0⟩;have II:es.length=n:=TE.len;refine⟨fun σ H2=>σ=[sR w,sR t,sR x,some (bC (Ir f1 c.out c.into n m))]∧av H1 H2,?_,?_⟩
  ·refine⟨_,rfl,x,az,dx,_,_,rfl,lE,Rc.cl,Rc.kM,iu c.out c.into e b,e,rfl,⟨_, .of A8⟩,fun D hD=>?_⟩;refine eD (xs:=es.map V.ref) (fun k ys bj H'=>(∃u,bj=[u])∧ys=((Z6 k).map fun i=>bC (oX ((Z6 m).map (dE f1 c.out c.into i))))∧H' D=some (.lst ys)∧av H1 H') ⟨⟨_,rfl⟩,rfl,ae,Wt hD⟩ ?_ ?_ ?_
   ·rintro k ys bj H' _ ⟨_,_,_,s2⟩;exact .of (s2 _ _ A8)
   ·rintro k v ys bj H' hv ⟨⟨u,rfl⟩,rfl,si,s2⟩;have hk:k<n:=by rw[←II];have:=(WB hv).1;simpa using this
    obtain⟨rb,g1,g2,g3⟩:=TE.at hk;rw[hv]at g2;cases g2;refine nG ?_;refine⟨_,rfl,rb,(Z6 m).map (dE f1 c.out c.into k),rfl,?_,by simpa using hm,fun QT s3=>?_⟩
    ·rw[s2 _ _ g3,List.map_map];rfl
    ·refine⟨s3 _ _ si,aZ Z_,⟨_,rfl⟩,?_,ae,(s2.trans s3).dU hD⟩;rw[List.range_succ,List.map_append];rfl
   ·rintro ys bj H' ⟨_,rfl,si,s2⟩;rw[List.length_map,II]at si;refine⟨D,(Z6 n).map fun i=>oX ((Z6 m).map (dE f1 c.out c.into i)),rfl,by rw[si,List.map_map];rfl,by simpa using hn,fun QT s3=>⟨rfl,s2.trans s3⟩⟩
  rintro σ H2 ⟨rfl,s2⟩;have J5:=s1.trans s2;obtain⟨nu,dt,l,d,vs,TM,z1,z2,z3,z4⟩:=TF.keep J5;have MX:=Gf IT c.out c.into;refine⟨fun σ H3=>∃W,Ir f1 c.out c.into n m=some W∧c.least≤W∧σ=[sR w,sR t,sR x,sI W]∧H3=H2,?_,?_⟩
  ·refine⟨_,rfl,_,rfl,?_⟩;cases eT:Ir f1 c.out c.into n m with
   |none=>
    rw[eT]at MX;refine jV ?_;refine jV ?_;exact⟨aD K4,fun r rM=>q0 (fun ps hp=>X7 ⟨ps,hp,rfl⟩ (MX _)) _ r (J5.trans (Wt rM)) (J5.free rM) ae⟩
   |some W=>
    rw[eT]at MX;refine bb (fun hh=>X7 hh (by simp[bC])) (fun _=>?_);refine⟨_,rfl,_,rfl,t,aN,dt,_,_,rfl,TM.ob,Tc.cl,Tc.least,BJ nu l d,_,_,rfl,rfl,_,rfl,?_⟩;refine bb (fun hh=>?_) (fun hh=>?_)
    ·have hh:W<nu.least:=by simpa using hh
     rw[z4]at hh;exact⟨aD K4,fun r rM=>q0 (fun ps hp=>by have:=MX.2 _ ⟨ps,hp,rfl⟩;lia) _ r (J5.trans (Wt rM)) (J5.free rM) ae⟩
    ·have hh:¬W<nu.least:=by simpa using hh
     rw[z4]at hh;exact⟨W,rfl,by lia,rfl,rfl⟩
  rintro σ H2 ⟨W,eT,hle,rfl,rfl⟩;rw[eT]at MX;obtain⟨V5,w0,V6⟩:=MX.1;have TP:e8 f1 c.out c.into W:=fun ps hp=>MX.2 _ ⟨ps,hp,rfl⟩
  have TU:0<n:=by
   obtain⟨i,j,_,hi,_⟩:=jZ IT w0 (cS w0.ne)
   lia
  obtain⟨bs,TR⟩:=Y0 TU;have V7:=TR.keep s2;refine⟨_,rfl,_,rfl,x,dx,e,b,es,bs,f1,c.out,c.into,n,m,W,rfl,V7,IT,VY,hn,hm,TP,fun H3 r us gs s3 rM xJ W3 MK TD=>?_⟩;have IQ:∀g∈gs,∀a∈g,∃i j:Nat,a=aQ (i,j)∧i<n∧j<m:=fun g hg a ha=>by
   obtain⟨ps,wp,hm⟩:=(TD.mem hg ha).on;exact jZ IT wp.1 hm
  have qv:∀g∈gs,g.length≤n*m:=fun g hg=>by
   have:=len_sub g (uV n m) ((TD.qI g hg).imp fun{a b} h e=>by
    rw[e]at h;unfold iB at h;simp at h) fun a ha=>by
    obtain⟨i,j,rfl,hi,hj⟩:=IQ g hg a ha;exact ph hi hj
   rw[pe]at this;exact this
  have EA:=TD.uL IQ;have Uk:gs≠[]:=fun z=>by
   obtain⟨i,j,h1,_⟩:=jZ IT w0 (cS w0.ne);obtain⟨g,hg,_⟩:=TD.all _ (fG.way V5 ⟨w0,V6.symm⟩ (cS w0.ne) (cS w0.ne));rw[z]at hg;cases hg
  have hW:=W3.1;refine⟨r,rfl,⟨_, .of xJ⟩,fun D hD=>?_⟩;refine eD (xs:=us) (fun k ys bj H'=>(∃u,bj=[u,sR x,sI W])∧H' D=some (.lst ys)∧av H3 H'∧∃ds,cx (fun b=>H2 b=none∧b≠D) H' aA ys ds∧ds.map Fd.pairs=gs.take k∧∀d∈ds,O6 f1 c.out c.into W d) ⟨⟨_,rfl⟩,ae,Wt hD,[], .nil,rfl,fun d h=>(by cases h)⟩ ?_ ?_ ?_
  ·rintro k ys bj H' _ ⟨_,_,s4,_⟩;exact .of (s4 _ _ xJ)
  ·rintro k v ys bj H' hv ⟨⟨u,rfl⟩,J6,s4,ds,F4,PU,bS⟩;have hk:k<gs.length:=by rw[←hW];exact(WB hv).1
   have ek:gs[k]?=some gs[k]:=by simp[hk]
   have jg:gs[k]∈gs:=Δ hk;generalize gs[k]=g at ek jg;obtain⟨pa,V8,k1,k2,k3⟩:=W3.2 k g ek;rw[hv]at k1;cases k1;have Ul:=MK k pa hv;have PV:pa≠D:=fun z=>by rw[z,hD]at k2;cases k2
   obtain⟨gn,PX⟩:∃gn:List (Nat×Nat),g=gn.map aQ:=by
    refine⟨g.map fun a=>(a.1.toNat,a.2.toNat),?_⟩;rw[List.map_map]
    conv=>lhs;rw[←List.map_id g]
    apply List.map_congr_left;intro a ha;obtain⟨i,j,rfl,_⟩:=IQ g jg a ha;simp[aQ]
   obtain⟨i0,j0,z5,z6,z7,z8⟩:∃i j:Nat,dE f1 c.out c.into i j=some W∧i<n∧j<m∧aQ (i,j)∈g:=by
    obtain⟨a,ha⟩:=List.exists_mem_of_ne_nil _ (TD.ne g jg);obtain⟨i,j,h1,h2,h3,h4⟩:=Dv TP IT (TD.mem jg ha);exact⟨i,j,h1,h2,h3,(TD.cls g jg a ha _).mpr h4⟩
   have Um:gn.filter (fun q=>decide (dE f1 c.out c.into q.1 q.2=some W))≠[]:=fun z=>by
    rw[PX]at z8;obtain⟨q9,aaE,e9⟩:=List.mem_map.mp z8;obtain⟨Y2,Y3⟩:=iS (a:=q9.1) (b:=q9.2) e9;have:q9∈gn.filter (fun q=>decide (dE f1 c.out c.into q.1 q.2=some W)):=List.mem_filter.mpr ⟨aaE,by rw[Y2,Y3];simpa using z5⟩;rw[z]at this;cases this
   obtain⟨uk,Gx⟩:∃q0,(gn.filter fun q=>decide (dE f1 c.out c.into q.1 q.2=some W))[0]?=some q0:=by
    cases e9:gn.filter (fun q=>decide (dE f1 c.out c.into q.1 q.2=some W))with
    |nil=>exact X7 e9 Um
    |cons a r=>exact⟨a,rfl⟩
   have PY:=List.mem_filter.mp (Y7 Gx);have Uo:dE f1 c.out c.into uk.1 uk.2=some W:=by simpa using PY.2
   have Y4:=V7.keep (s3.trans s4);refine nG ?_;refine⟨_,rfl,_,rfl,_,rfl,x,dx,e,b,es,bs,f1,c.out,c.into,n,m,W,pa,V8,gn,uk,rfl,Y4,s4 _ _ k2,by rw[←PX];exact k3.same s4,fun q hq=>?_,Gx,hn,?_,fun H5 y dy wy rw iC s5 hy Mm D6 Up Y5 aax Uq P5 Uj=>?_⟩
   ·have:aQ q∈g:=by rw[PX];exact List.mem_map.mpr ⟨q,hq,rfl⟩
    obtain⟨i,j,h1,h2,h3⟩:=IQ g jg _ this;obtain⟨h4,h5⟩:=iS (a:=q.1) (b:=q.2) h1
    lia
   ·have:=qv g jg;rw[PX,List.length_map]at this
    lia
   ·obtain⟨v1,v2,v3,v4⟩:=Iq f1 c.out c.into uk.1 uk.1 uk.2 W ZD Uo;have aaa:=F4.1;have aaf:ds.length=k:=by
     have:=congrArg List.length PU;rw[List.length_map,List.length_take]at this
     lia
    have nD:∀{z},H' z=none→z≠D:=fun h z=>by rw[z,J6]at h;cases h
    have Ur:av H2 H':=s3.trans s4;refine⟨s5 _ _ J6,aZ Aj,⟨_,rfl⟩,ae,(s4.trans s5).dU hD,ds++[⟨W,(eJ f1 c.out c.into uk.1 uk.1 uk.2).map aQ,zU (lf f1) c.out c.into ((eJ f1 c.out c.into uk.1 uk.1 uk.2).map aQ),g⟩],?_,?_,fun d hd=>?_⟩
    ·refine cx.append (F4.keep (fun b o hb e=>by rw[ak hb.2];exact s5 _ _ e) (fun a v e=>by rw[ak (fun z=>by rw[z,J6]at e;cases e)];exact s5 _ _ e) fun _ h=>h) ⟨rfl,fun k9 d9 e9=>?_⟩;have Y8:k9=0:=by
      have:=(WB e9).1;simp at this
      lia
     subst Y8;have e9:=(YA e9).symm;subst e9;have T5:cJ H5 (upd H5 D (.lst (ys++[.ref y]))):=cJ.lst (s5 _ _ J6);refine⟨y,dy,wy,rw,pa,iC,V8,rfl,⟨by rw[ak (nD hy)];exact Y5,by rw[ak (nD D6)];exact Uq,P5.cb T5,?_,by rw[ak PV];exact s5 _ _ (s4 _ _ k2),((k3.same s4).same s5).cb T5,⟨Ur.free hy,nD hy⟩,⟨Ur.free D6,nD D6⟩,⟨Ur.free Up,nD Up⟩,⟨Ul,PV⟩⟩⟩;rw[ak (nD Up),Uj]
     congr 2
     have:=congrArg (List.map bC) v4;rw[List.map_map,List.map_map]at this;exact this
    ·rw[List.map_append,PU,List.take_succ,ek];rfl
    ·rcases List.mem_append.mp hd with hd|hd
     ·exact bS d hd
     ·have:d=⟨W,(eJ f1 c.out c.into uk.1 uk.1 uk.2).map aQ,zU (lf f1) c.out c.into ((eJ f1 c.out c.into uk.1 uk.1 uk.2).map aQ),g⟩:=by simpa using hd
      subst this;refine⟨rfl,⟨v1,v3⟩,rfl,fun q hq=>?_⟩;have PN:aQ uk∈g:=by rw[PX];exact List.mem_map.mpr ⟨_,PY.1,rfl⟩
      have v2:lstP ((eJ f1 c.out c.into uk.1 uk.1 uk.2).map aQ)=aQ uk:=v2;exact(TD.cls g jg _ PN q).mpr (.way _ ⟨v1,v3⟩ (by rw[←v2];exact cS v1.ne) hq)
  ·rintro ys bj H' ⟨_,J6,s4,ds,F4,PU,bS⟩;rw[hW,List.take_length]at PU;have sA:=J5.trans (s3.trans s4);exact q1 W gs ds ⟨TP,⟨V5,w0,V6.symm⟩,hle,TD,PU,bS⟩ Uk _ D ys sA ((J5.trans s3).free hD) J6 (F4.keep (fun _ _ _ h=>h) (fun _ _ h=>h) fun b hb=>J5.free hb.1)
theorem ig:aL ["worths","findings","finding","i","j"] ["worths","findings"] (au kT):=gO
include T Fc in
theorem u9{f:Addr}{fd:FuncData}(F:jU K "shut_pairs" "shut_pairs" kT f fd):a9 P w K mg base (cY P w) true 1 f fd ["worths","findings"] (t_ aA):=by
 refine F.gK ig Yz gP
 ·obtain⟨w,md,as,us,ds,f,n,m,rfl,_⟩:=h;rfl
 ·obtain⟨w,md,as,us,ds,f1,n,m,rfl,hw,OT,nw,TA,V9,Y9,FL,oB,q⟩:=h;refine⟨_,(R3 (ZJ (ZO K Wa) (Xc (2) ig.nd) (R3 (ZJ (ZO K (Κ K Y1)) (Ν K (2) (ZG (Xc (3) ig.nd) (ZG (Xc (4) ig.nd) eL))) (R3 (@zY _ _ _ _ _ _ jT (@Kz _ _ _ _ _ _ _ (Xa WC (pv 3)) (pv 4) set_list (by intro _;rfl)) (YG) (YG) (YG))))))),?_⟩;have rows:∀a∈as,∃xs,H a=some (.lst xs):=fun a ha=>by
   obtain⟨k,hk,ek⟩:=Ξ ha;exact⟨_,TA.row k a (by rw[ZZ hk,ek])⟩
  have cb:∀H',(∀b o,b∉as→H b=some o→H' b=some o)→cJ H H':=fun H' k t v e=>k t _ (fun z=>by
   obtain⟨xs,h⟩:=rows t z;rw[e]at h;cases h) e
  have hlen:=FL.1;refine⟨_,rfl,md,rfl,⟨_, .of V9⟩,?_⟩;refine bU (xs:=us) (fun k σ H1=>(∃u1 u2 u3,σ=[sR w,sR md,u1,u2,u3])∧(∀b o,b∉as→H b=some o→H1 b=some o)∧jf H1 as (kh f1 ((ds.take k).map Fd.pairs).flatten) n m) ⟨⟨_,_,_,rfl⟩,fun _ _ _ h=>h,TA⟩ ?_ ?_ ?_
  ·rintro k σ H1 _ ⟨_,k1,_⟩;exact .of (k1 _ _ Y9 V9)
  ·rintro k v σ H1 hv ⟨⟨u1,u2,u3,rfl⟩,k1,T1⟩;have hk:k<ds.length:=by rw[←hlen];exact(WB hv).1
   have ek:ds[k]?=some ds[k]:=by simp[hk]
   have jg:ds[k]∈ds:=Δ hk;generalize ds[k]=d at ek jg;obtain⟨a,dy,wy,i7,pr,kO,iC,e1,F⟩:=FL.2 k d ek;rw[hv]at e1;cases e1;have vR:=F.pp.1;have et:((ds.take (k+1)).map Fd.pairs).flatten=((ds.take k).map Fd.pairs).flatten++d.pairs:=by
    rw[List.take_succ,ek,List.map_append,List.flatten_append];simp
   refine⟨_,rfl,a,aA,dy,_,_,rfl,k1 _ _ F.fa F.ob,Fc.cl,Fc.pairs,jh d.worth wy i7 pr,pr,rfl,⟨_, .of (k1 _ _ F.fp F.hp)⟩,?_⟩;refine bU (xs:=iC) (fun l σ H2=>(∃u2 u3,σ=[sR w,sR md,sR a,u2,u3])∧(∀b o,b∉as→H b=some o→H2 b=some o)∧jf H2 as (kh f1 (((ds.take k).map Fd.pairs).flatten++d.pairs.take l)) n m) ⟨⟨_,_,rfl⟩,k1,by simpa using T1⟩ ?_ ?_ ?_
   ·rintro l σ H2 _ ⟨_,k2,_⟩;exact .of (k2 _ _ F.fp F.hp)
   ·rintro l v σ H2 Mp ⟨⟨v2,v3,rfl⟩,k2,T2⟩;have hl:l<d.pairs.length:=by rw[←vR];exact(WB Mp).1
    have el:d.pairs[l]?=some d.pairs[l]:=by simp[hl]
    have hq:=oB d jg d.pairs[l] (Δ hl);generalize d.pairs[l]=g at el hq;obtain⟨i,j,rfl,hi,hj⟩:=hq;obtain⟨t,g1,g2⟩:=F.pp.2 l _ el;rw[Mp]at g1;cases g1;have kt:=cb H2 k2 _ _ g2;refine⟨t,_,rfl, .of kt,rfl,_,_,rfl,_,_,rfl,rfl,?_⟩;obtain⟨ra,r1,r2,r3⟩:=T2.at hi;have Q3:ra∈as:=Y7 r1;refine⟨_,rfl,_,rfl,w,_,_,_,rfl,rfl, .of (k2 _ _ nw hw),ar r2,_,rfl,ra,_,_,j,rfl,rfl,r3,HE (by rw[de];exact hj),⟨_,_,rfl⟩,fun b o hb e=>?_,⟨T2.len,fun x b hb=>?_⟩⟩
    ·rw[ak (fun z=>hb (by rw[z];exact Q3))];exact k2 b o hb e
    ·have V_:d.pairs.take (l+1)=d.pairs.take l++[aQ (i,j)]:=by rw[List.take_succ,el];rfl
     by_cases e:b=ra
     ·have ex:x=i:=by
       obtain⟨h1,e1⟩:=WB hb;obtain⟨h2,e2⟩:=WB r1;exact(List.getElem_inj OT).mp (by rw[e1,e2,e])
      subst ex e;rw[ae];show some (HO.lst ((c_ m _).set j (bC none)))=_;rw[Fh]
      congr 2
      unfold c_;apply List.map_congr_left;intro y _;unfold kh;rw[V_,←List.append_assoc]
      congr 1
      dsimp only;by_cases ey:y=j
      ·subst ey;rw[if_pos rfl,if_pos K4]
      ·rw[Dy ey];have:¬aQ (x,y)=aQ (x,j):=fun z=>ey (iS z).2
       simp[this]
     ·rw[ak e,T2.row x b hb]
      congr 2
      unfold c_;apply List.map_congr_left;intro y _;unfold kh;rw[V_,←List.append_assoc];have:¬aQ (x,y)=aQ (i,j):=fun z=>by
       have hk:=(iS z).1;subst hk;rw[r1]at hb;exact e (YA hb).symm
      simp[this]
   ·rintro σ H2 ⟨⟨v2,v3,rfl⟩,k2,T2⟩;rw[vR,List.take_length]at T2;exact⟨⟨_,_,_,rfl⟩,k2,by rw[et];exact T2⟩
  ·rintro σ H1 ⟨_,k1,T1⟩;rw[hlen,List.take_length]at T1;exact q H1 k1 (cb H1 k1) T1
variable(eh:Ej mg "FINDINGS_MOST" (.int 20))
variable(ij:bN P w K mg base true 2 "open_worths" ["first","second","terms","taken"] (t9 aN))
variable(gv:bN P w K mg base true 7 "make_round" ["worths","terms"] (pj aN aA))
variable(iY:bN P w K mg base true 1 "shut_pairs" ["worths","findings"] (t_ aA))
variable(la:bN P w K mg base true 1 "order_of" ["finding"] (tV aA))
variable(kx:Er K mg "TooMany" kn)
theorem jn:aL ["first","second","terms","worths","findings","made"] ["first","second","terms"] (au qT):=gO
include T dO eh ij gv iY la kx in
theorem Ba{f:Addr}{fd:FuncData}(F:jU K "compare" "compare" qT f fd):a9 P w K mg base (cY P w) true 8 f fd ["first","second","terms"] (xD aN aA kn):=by
 refine F.gK jn Yz gP
 ·obtain⟨a,b,t,c,rfl,_⟩:=h;rfl
 ·obtain⟨a,b,t,c,rfl,ha,hb,TF,hx,hy,q1,q2⟩:=h;refine⟨_,(X2 (WX (3) jn.nd (Y6 ij aR (R4 WC (R4 Wa (R4 Y1 (Im jT)))))) (X2 (WX (4) jn.nd (ZL af)) (X2 (WX (5) jn.nd (Y6 gv aR (Ψ (pv 3)))) (X2 (@sY _ _ _ _ _ _ hX.own (Z7 rD (ZM (aK K) T.cZ (Im (pv 5))) ai) (X2 (ZH (Ε K PySem.F.slot_list_extend PySem.F.type_list_extend vQ (pv 4) (Im (pv 5)))) (X2 (ZI (Z7 rD (ZM (aK K) T.cZ (Im (pv 4))) (η eh)) (R3 (ξ hX ZW (by exact rfl) kx.m kx.e (Im (@mw _ _ _ _ _ _ (@fv _ _ _ _ _ dS (@fv _ _ _ _ _ (@qx _ _ _ _ (η eh)) (@fv _ _ _ _ _ dS wV))))))) aS) (X2 (ZH (Y6 iY aR (R4 (pv 3) (Im (pv 5))))) (R3 (WX (5) jn.nd (Y6 gv aR (Ψ (pv 3))))))))) (R3 (Z0 (@FO _ K _ _ _ _ _ _ _ _ _ _ _ la (hr.mono ZV) (pv 4) (by exact rfl) dO (YG) (Sz) (YG) (YG)))))))),?_⟩;have zd:c.xs.length*c.ys.length≤3000:=Nat.le_trans (Nat.mul_le_mul hx hy) (Sz);have Us:=Lu c [];refine⟨fun σ H1=>∃w as,σ=[sR a,sR b,sR t,sR w,none,none]∧av H H1∧H1 w=some (.lst (as.map V.ref))∧jf H1 as (iF c []) c.xs.length c.ys.length∧as.Nodup∧w∉as∧∀a∈as,H a=none,?_,?_⟩
  ·exact⟨_,rfl,_,rfl,_,rfl,a,b,t, .cL,c,[],rfl,ha,hb,TF, .inl ⟨rfl,rfl⟩,MD,by lia,by lia,fun H1 w as s1 h1 _ h3 h4 h5 h6=>⟨w,as,rfl,s1,h1,h3,h4,h5,h6⟩⟩
  rintro σ H1 ⟨w,as,rfl,s1,sj,Ut,OT,nw,has⟩;refine⟨fun σ H2=>∃fl,σ=[sR a,sR b,sR t,sR w,sR fl,none]∧av H1 H2∧H1 fl=none∧H2 fl=some (.lst []),⟨aD K4,fun fl h=>⟨fl,rfl,Wt h,h,ae⟩⟩,?_⟩;rintro σ H2 ⟨fl,rfl,s2,Mq,PZ⟩;have alloc:∀x∈as,∃xs,H1 x=some (.lst xs):=fun x hx=>by
   obtain⟨k,hk,ek⟩:=Ξ hx;exact⟨_,Ut.row k x (by rw[ZZ hk,ek])⟩
  have V':fl∉as:=fun z=>by
   obtain⟨xs,h⟩:=alloc fl z;rw[Mq]at h;cases h
  have IS:w≠fl:=aE sj Mq;have rd:∀f H3,(∀x∈as,∃xs,H3 x=some (.lst xs))→H3 w=some (.lst (as.map V.ref))→jf H3 as f c.xs.length c.ys.length→av H H3→∀done,Reach (iF c []) c.out c.into c.least done f→∀(Q':VK)(E':XK),(∀H4 r,av H3 H4→H3 r=none→∀us ds,H4 r=some (.lst us)→cx (fun b=>H3 b=none) H4 aA us ds→((us=[]∧ds=[]∧Stop f c.out c.into c.least)∨(us≠[]∧∃W gs,jD f c.out c.into c.least W gs ds))→Q' (.ref r) H4)→pj aN aA [.ref w, .ref t] H3 Q' E':=fun f H3 al h3 T3 s3 done RC Q' E' k=>by
   refine⟨w,t,as,c,f,_,_,rfl,h3,T3,TF.keep s3,RC.Ts Us,zd,by lia,by lia,fun st H4 r s4 h4 h5=>k H4 r s4 h4 [] [] h5 .nil (.inl ⟨rfl,rfl,st⟩),fun W gs ds R Uk H4 r us s4 h4 h5 FL=>k H4 r s4 h4 us ds h5 FL (.inr ⟨fun z=>Uk ?_,W,gs,R⟩)⟩;have:=FL.1;rw[z]at this;have:ds=[]:=List.length_eq_zero_iff.mp (by simpa using this.symm);rw[←R.Gd,this];rfl
  have aaQ:∀b o,b∉as→b≠fl→H1 b=some o→H2 b=some o:=fun b o _ _ e=>s2 b o e
  have Nj:=s1.trans s2;refine⟨fun σ H3=>∃md us ds,σ=[sR a,sR b,sR t,sR w,sR fl,sR md]∧av H2 H3∧H2 md=none∧H3 md=some (.lst us)∧cx (fun b=>H2 b=none) H3 aA us ds∧((us=[]∧ds=[]∧Stop (iF c []) c.out c.into c.least)∨(us≠[]∧∃W gs,jD (iF c []) c.out c.into c.least W gs ds)),?_,?_⟩
  ·exact⟨_,rfl,_,rfl,rd _ H2 (fun x hx=>let ⟨xs,h⟩:=alloc x hx;⟨xs,s2 _ _ h⟩) (s2 _ _ sj) (Ut.same s2) Nj [] .start _ _ fun H4 r s4 h4 us ds h5 FL z=>⟨r,us,ds,rfl,s4,h4,h5,FL,z⟩⟩
  rintro σ H3 ⟨md,us,ds,rfl,s3,IU,Uu,Y_,Z3⟩;refine⟨fun σ H5=>∃md ul es f,σ=[sR a,sR b,sR t,sR w,sR fl,sR md]∧av H H5∧H5 fl=some (.lst ul)∧cx (fun b=>H2 b=none) H5 aA ul es∧Reach (iF c []) c.out c.into c.least es f∧Stop f c.out c.into c.least∧es.length≤20,?_,?_⟩
  ·refine⟨fun mm σ H4=>∃md us ds ul es f,mm+es.length=20∧σ=[sR a,sR b,sR t,sR w,sR fl,sR md]∧av H H4∧(∀b o,b∉as→b≠fl→H2 b=some o→H4 b=some o)∧jf H4 as f c.xs.length c.ys.length∧H4 fl=some (.lst ul)∧cx (fun b=>H2 b=none) H4 aA ul es∧Reach (iF c []) c.out c.into c.least es f∧H2 md=none∧H4 md=some (.lst us)∧cx (fun b=>H2 b=none) H4 aA us ds∧((us=[]∧ds=[]∧Stop f c.out c.into c.least)∨(us≠[]∧∃W gs,jD f c.out c.into c.least W gs ds)),⟨20,md,us,ds,[],[],iF c [],rfl,rfl,Nj.trans s3,fun b o _ _ e=>s3 b o e,(Ut.same s2).same s3,s3 _ _ PZ, .nil, .start,IU,Uu,Y_,Z3⟩,?_⟩;rintro mm σ H4 ⟨md,us,ds,ul,es,f1,aaX,rfl,sH,k4,T4,IV,FE,RC,IU,Mr,FD,Z4⟩;have Y':∀x∈as,∃xs,H2 x=some (.lst xs):=fun x hx=>let ⟨xs,h⟩:=alloc x hx;⟨xs,s2 _ _ h⟩
   have P2:∀{b},H2 b=none→b∉as:=fun{b} h z=>by
    obtain⟨xs,h'⟩:=Y' b z;rw[h]at h';cases h'
   have Uv:∀{b},H2 b=none→b≠fl:=fun{b} h z=>by rw[z,PZ]at h;cases h
   have Rp:=FE.1;have hlD:=FD.1;refine⟨_,rfl,md,_,rfl, .inl (.of Mr),_,_,rfl,rfl,_,rfl,?_⟩;refine bb (fun hh=>?_) (fun hh=>?_)
   ·have hh:0<us.length:=by simpa using hh
    rcases Z4 with⟨z1,_,_⟩|⟨Wb,W,gs,R⟩
    ·rw[z1]at hh;simp at hh
    have Q6:ds.length≤c.xs.length*c.ys.length:=by
     have:=R.told.uL (n:=c.xs.length) (m:=c.ys.length) fun g hg q hq=>by
      obtain⟨ps,wp,hm⟩:=(R.told.mem hg hq).on;exact jZ (RC.Ts Us) wp.1 hm
     rw[←R.Gd,List.length_map]at this;exact this
    refine⟨_,fun bj H' z=>z,?_⟩;have Za:md≠fl:=Uv IU;refine⟨fun σ H5=>σ=[sR a,sR b,sR t,sR w,sR fl,sR md]∧H5=upd H4 fl (.lst (ul++us)),⟨_,rfl, .inl ⟨rfl,_, .of IV⟩,_,rfl,fl,md,ul,us,rfl,rfl,IV,Mr,aD Aj,rfl,rfl⟩,?_⟩;rintro σ H5 ⟨rfl,rfl⟩;have Wc:av H (upd H4 fl (.lst (ul++us))):=sH.dU (s1.free Mq);have Wd:cJ H4 (upd H4 fl (.lst (ul++us))):=cJ.lst IV;have Zb:cx (fun b=>H2 b=none) (upd H4 fl (.lst (ul++us))) aA ul es:=FE.keep (fun b o hb e=>by rw[ak (Uv hb)];exact e) Wd fun _ h=>h
    have We:cx (fun b=>H2 b=none) (upd H4 fl (.lst (ul++us))) aA us ds:=FD.keep (fun b o hb e=>by rw[ak (Uv hb)];exact e) Wd fun _ h=>h
    have Uw:=RC.round R;refine⟨fun σ H6=>σ=[sR a,sR b,sR t,sR w,sR fl,sR md]∧H6=upd H4 fl (.lst (ul++us))∧(es++ds).length≤20,?_,?_⟩
    ·refine⟨_,rfl,fl,_,rfl, .inl (.of ae),_,_,rfl,rfl,_,rfl,?_⟩;refine bb (fun h9=>?_) (fun h9=>?_)
     ·have h9:20<(ul++us).length:=by
       have:(20:Int)<((ul++us).length:Nat):=by simpa using h9
       lia
      have:=q2 _ _ Uw (by rw[List.length_append]at h9⊢;lia) _ Wc;have z:(20:Int).natAbs.log2<1920∧(Str.ofString (toString (20:Int))).length≤6:=⟨Sz,by decide+kernel⟩
      have w1:(Str.ofString "there are at most ").length=18:=by decide+kernel
      have w2:(Str.ofString " findings between two books").length=27:=by decide+kernel
      have w3:=mz;refine⟨_,rfl,aD ?_, .inr ⟨20,rfl,z.1,_,rfl,aD ?_,_,rfl,aD ?_,aD ?_,ir,this⟩⟩;all_goals (simp only[len_app];lia)
     ·have h9:¬20<(ul++us).length:=by
       have:¬(20:Int)<((ul++us).length:Nat):=by simpa using h9
       lia
      exact⟨rfl,rfl,by rw[List.length_append]at h9⊢;lia⟩
    rintro σ H6 ⟨rfl,rfl,hle⟩;refine⟨fun σ H7=>σ=[sR a,sR b,sR t,sR w,sR fl,sR md]∧(∀b o,b∉as→upd H4 fl (.lst (ul++us)) b=some o→H7 b=some o)∧cJ (upd H4 fl (.lst (ul++us))) H7∧jf H7 as (kh f1 gs.flatten) c.xs.length c.ys.length,?_,?_⟩
    ·refine⟨_,rfl,_,rfl,w,md,as,us,ds,f1,_,_,rfl,by rw[ak IS];exact k4 _ _ nw IS (s2 _ _ sj),OT,nw,⟨T4.len,fun i x hx=>by rw[ak (fun z=>V' (by rw[←z];exact Y7 hx))];exact T4.row i x hx⟩,by rw[ak Za];exact Mr,P2 IU,We.keep (fun _ _ _ h=>h) (fun _ _ h=>h) (fun _ h=>P2 h),fun d hd q hq=>?_,fun H7 k7 t7 T7=>⟨rfl,k7,t7,by rw[←R.Gd];exact T7⟩⟩;have hg:d.pairs∈gs:=by rw[←R.Gd];exact List.mem_map.mpr ⟨d,hd,rfl⟩
     obtain⟨ps,wp,hm⟩:=(R.told.mem hg hq).on;exact jZ (RC.Ts Us) wp.1 hm
    rintro σ H7 ⟨rfl,k7,t7,T7⟩;have Wf:av H H7:=fun b o e=>k7 b o (fun z=>by rw[has b z]at e;cases e) (Wc b o e)
    have Wg:∀x∈as,∃xs,H7 x=some (.lst xs):=fun x hx=>by
     obtain⟨k,hk,ek⟩:=Ξ hx;exact⟨_,T7.row k x (by rw[ZZ hk,ek])⟩
    have w7:H7 w=some (.lst (as.map V.ref)):=k7 w _ nw (by rw[ak IS];exact k4 _ _ nw IS (s2 _ _ sj));have F7:cx (fun b=>H2 b=none) H7 aA (ul++us) (es++ds):=(Zb.append We).keep (fun b o hb e=>k7 b o (P2 hb) e) t7 fun _ h=>h
    have Wh:H7 fl=some (.lst (ul++us)):=k7 fl _ V' ae;refine⟨_,rfl,_,rfl,rd _ H7 Wg w7 T7 Wf _ Uw _ _ fun H8 r s8 h8 Zc Zd Ze Zf Z8=>?_⟩;have Wi:∀b,H7 b=none→H2 b=none:=fun b h=>by
     cases e:H2 b with
     |none=>rfl
     |some o=>
      by_cases Ux:b∈as
      ·obtain⟨xs,h'⟩:=Wg b Ux;rw[h]at h';cases h'
      ·by_cases Uy:b=fl
       ·rw[Uy,Wh]at h;cases h
       ·rw[k7 b o Ux (by rw[ak Uy];exact k4 b o Ux Uy e)]at h;cases h
    refine⟨20-(es++ds).length,?_,r,Zc,Zd,ul++us,es++ds,_,by lia,rfl,Wf.trans s8,fun b o h1 h2 e=>s8 b o (k7 b o h1 (by rw[ak h2];exact k4 b o h1 h2 e)),T7.same s8,s8 _ _ Wh,F7.keep (fun b o _ e=>s8 b o e) (cJ.same s8) fun _ h=>h,Uw,Wi r h8,Ze,Zf.keep (fun _ _ _ h=>h) (fun _ _ h=>h) fun b h=>Wi b h,Z8⟩;rw[List.length_append]at hle⊢
    lia
   ·have hh:us.length=0:=by
     have:¬(0:Int)<(us.length:Nat):=by simpa using hh
     lia
    rcases Z4 with⟨_,_,z3⟩|⟨Wb,_⟩
    ·exact⟨md,ul,es,f1,rfl,sH,IV,FE,RC,z3,by lia⟩
    ·exact X7 (List.length_eq_zero_iff.mp hh) Wb
  rintro σ H5 ⟨md,ul,es,f1,rfl,sH,Uz,FE,RC,ST,hle⟩;have Rp:=FE.1;have AP:=RC.apart;have P0:∀d∈es,gL d.pairs∈d.pairs:=fun d hd=>by
   cases e:d.pairs with
   |nil=>exact X7 e (AP.qI d hd).2
   |cons a r=>simp[gL]
  refine⟨_,rfl,fl,ul,es.map (fun d=>(-d.worth,gL d.pairs)),rfl, .of Uz,by rw[List.length_map];lia,?_,by lia,fun i v H6 hv s6=>?_,fun p H6 D hp hs s6 hD PR=>?_⟩
  ·refine List.pairwise_map.mpr (List.Pairwise.imp_of_mem (fun{x y} hx hy zd e=>?_) AP.ap);have:=(Prod.mk.inj e).2;exact zd _ (P0 x hx) (by rw[this];exact P0 y hy)
  ·have hi:i<es.length:=by rw[←Rp];exact(WB hv).1
   have ei:es[i]?=some es[i]:=by simp[hi]
   have jg:es[i]∈es:=Δ hi;have eg:(es.map fun d=>(-d.worth,gL d.pairs)).getD i (0,(0,0))=(-es[i].worth,gL es[i].pairs):=by simp[hi]
   rw[eg];generalize es[i]=d at ei jg;obtain⟨x,dy,wy,i7,pr,kO,iC,e1,F⟩:=FE.2 i d ei;rw[hv]at e1;cases e1;exact⟨x,dy,wy,i7,pr,d.worth,iC,d.pairs,rfl,s6 _ _ F.ob,s6 _ _ F.hp,F.pp.same s6,(AP.qI d jg).2,fun H7 k t s7 hk ht=>⟨s7,k,t,rfl,hk,ht⟩⟩
  ·have qv:p.toList.Perm (Z6 es.length):=by rw[←Rp];exact hp
   have Ms:∀i∈p.toList,i<es.length:=fun i hi=>by simpa using qv.mem_iff.mp hi
   have dflt:Fd:=⟨0,[],[],[]⟩
   refine q1 (p.toList.map fun i=>es.getD i dflt) ⟨⟨es,f1,RC,ST,?_⟩,?_,?_⟩ _ D _ ((sH.trans s6).dU (sH.free hD)) (sH.free hD) ae ?_
   ·have e1:(Z6 es.length).map (fun i=>es.getD i dflt)=es:=by
     apply List.ext_getElem
     ·simp
     ·intro i h1 h2;simp[h2]
    have:=qv.map fun i=>es.getD i dflt
    rw[e1]at this;exact this
   ·rw[List.length_map,qv.length_eq,List.length_range];exact hle
   ·rw[List.pairwise_map,List.pairwise_iff_getElem];intro i j hi hj m7;have hsz:p.size=es.length:=by have:=qv.length_eq;simpa using this
    have:=hs i j m7 (by rw[Rp,←hsz];simpa using hj);have g1:gd p i=p.toList[i]:=by rw[Fl];simp at hi;simp[hi]
    have g2:gd p j=p.toList[j]:=by rw[Fl];simp at hj;simp[hj]
    rw[g1,g2]at this;have l1:=Ms _ (Δ hi);have l2:=Ms _ (Δ hj);generalize p.toList[i]=x at this l1;generalize p.toList[j]=y at this l2;unfold kl rH at this;unfold O7;simp only[List.getD_eq_getElem?_getD,List.getElem?_map,ZZ l1,ZZ l2,Option.map_some,Option.getD_some]at this⊢;by_cases ew:es[x].worth=es[y].worth
    ·rw[Hz ew];rw[Hz (by rw[ew])]at this;exact this
    ·rw[Dy ew];rw[Dy (fun z=>ew Aj)]at this;simp at this⊢
     lia
   ·refine⟨MD,fun k d hk=>?_⟩;rw[List.getElem?_map]at hk;cases e:p.toList[k]? with
    |none=>rw[e]at hk;cases hk
    |some i=>
     rw[e]at hk;have hi:=Ms i (Y7 e);have hd:es.getD i dflt=d:=by simpa using hk
     have ei:es[i]?=some d:=by rw[←hd];simp[hi]
     obtain⟨x,dy,wy,i7,pr,kO,iC,e1,F⟩:=FE.2 i d ei;have nD:∀{b o},H5 b=some o→b≠D:=fun h z=>by rw[z,hD]at h;cases h
     refine⟨x,dy,wy,i7,pr,kO,iC,?_,F.ob|>fun h=>⟨by rw[ak (nD h)];exact s6 _ _ h,by rw[ak (nD F.hw)];exact s6 _ _ F.hw,(F.pw.same s6).same (Wt PR),by rw[ak (nD F.hr)];exact s6 _ _ F.hr,by rw[ak (nD F.hp)];exact s6 _ _ F.hp,(F.pp.same s6).same (Wt PR),Nj.free F.fa,Nj.free F.fw,Nj.free F.fr,Nj.free F.fp⟩⟩;rw[List.getElem?_map,e];show some (ul.getD i .cL)=_;simp[e1]
theorem Bb:aL ["_law_script","_law_k"] ["_law_script","_law_k"] (au qU):=gO
include T in
theorem Bc{f:Addr}{fd:FuncData}(F:jU K "_law_at" "_law_at" qU f fd):a9 P w K mg base (cY P w) true 1 f fd ["_law_script","_law_k"] (ER K):=by
 refine F.gK Bb Yz gP
 ·obtain⟨a,ns,k,rfl,_⟩:=h;rfl
 ·obtain⟨a,ns,k,rfl,hS,h0,q⟩:=h;refine⟨_,(U' (ZI (Z7 mY Wa (ZM (aK K) T.cZ (Im WC))) (R3 (Z0 (Xa WC (pv 1)))) aS) (R3 (Z0 ai))),?_⟩;refine⟨_,rfl,_,rfl,a,_,rfl, .inl hS,_,_,rfl,rfl,_,rfl,?_⟩;refine bb (fun h=>?_) (fun h=>?_)
  ·have h:k<((ns.map V.int).length:Int):=by simpa using h
   rw[List.length_map]at h;exact⟨_,rfl,_,rfl,a,_,k,_,rfl,rfl,hS,HA h0 h,q⟩
  ·have h:¬k<((ns.map V.int).length:Int):=by simpa using h
   rw[List.length_map]at h;rw[cell_out h0 h]at q;exact q
theorem u_:aL ["_law_found"] ["_law_found"] (au kU):=gO
include T in
theorem va{f:Addr}{fd:FuncData}(F:jU K "_law_whole" "_law_whole" kU f fd):a9 P w K mg base (cY P w) true 1 f fd ["_law_found"] tG:=by
 refine F.gK u_ Yz gP
 ·obtain⟨i,rfl,_⟩:=h;rfl
 ·obtain⟨i,rfl,q⟩:=h;refine⟨_,(R3 (Z0 (@wG _ _ _ _ _ _ _ (Η (gS K) T.dX PyProof.Rows.Boot.«isinstance» (R4 WC (Im (@kE _ _ (.ty "int") _ _ (by exact rfl) T.BG PyProof.Rows.Boot.«int» ZW (Sz) (Sz))))) (@wF _ _ _ _ _ (@Kt _ _ _ _ (Η (gS K) T.dX PyProof.Rows.Boot.«isinstance» (R4 WC (Im (@kE _ _ (.ty "bool") _ _ (by exact rfl) T.Li PyProof.Rows.Boot.«bool» ZW (Sz) (Sz)))))))))),?_⟩;refine⟨_,rfl,_,_,_,true,_,rfl,rfl, .int i,rfl,_,rfl,?_⟩;refine jV ?_;exact⟨_,rfl,_,_,_,false,_,rfl,rfl, .int i,by kernel_rfl,_,rfl,q⟩
theorem bE:aL ["_law_cell","_law_other","_law_many","_law_letters","_law_stem","_law_rest","_law_k","_law_size","_law_found","_law_spot","_law_sign"] ["_law_cell","_law_other","_law_many"] (au lW):=gO
include T in
theorem xK{f:Addr}{fd:FuncData}(F:jU K "_law_bank" "_law_bank" lW f fd):a9 P w K mg base (cY P w) true 1 f fd ["_law_cell","_law_other","_law_many"] xb:=by
 refine F.gK bE Yz gP
 ·obtain⟨cell,other,many,rfl,_⟩:=h;rfl
 ·obtain⟨cell,other,many,rfl,UA,hm,q⟩:=h;have l26:=HC;have Wj:(0:Int)<26:=Sz;have Wl:(0:Int)<12:=Sz;refine⟨_,(U' (WX (3) bE.nd dS) (U' (WX (4) bE.nd dS) (U' (WX (5) bE.nd (RU dF WC ai)) (U' (ZJ (@eC _ _ _ _ _ _ (by exact rfl) T.fM (Im ai) (YG)) (Xc (6) bE.nd) (U' (WX (4) bE.nd (RU nC (pv 4) (ZQ Ey (pv 3) (RU bM (pv 5) ai)))) (R3 (WX (5) bE.nd (RU dF (pv 5) ai))))) (U' (WX (7) bE.nd (RU bD ai (RU bM (RU dF WC ai) ai))) (U' (WX (8) bE.nd (ZL af)) (U' (ZJ (@eC _ _ _ _ _ _ (by exact rfl) T.fM (Im Y1) (YG)) (Xc (6) bE.nd) (R3 (ZI (Z7 jb (RU bM WC ai) ai) (R3 (ZH (Ε K PySem.F.slot_list_append PySem.F.type_list_append bR (pv 8) (Im (@oK _ _ _ _ _ _ _ _ _ _ Ao (pv 4) wL (@oJ _ _ _ (RU bD ai (RU bM (RU bD (pv 7) (pv 6)) ai)))))))) (U' (WX (9) bE.nd (RU bM Wa (pv 7))) (U' (WX (10) bE.nd (ZQ Ey (pv 3) (RU bM (RU bD (RU dF Wa ai) (pv 6)) ai))) (R3 (ZH (Ε K PySem.F.slot_list_append PySem.F.type_list_append bR (pv 8) (Im (RU nC (RU nC (@oK _ _ _ _ _ _ _ _ _ _ Ao (pv 4) wL (@oJ _ _ _ (pv 9))) (pv 10)) (@oK _ _ _ _ _ _ _ _ _ _ Ao (pv 4) (@oJ _ _ _ (RU bD (pv 9) ai)) (@oJ _ _ _ (pv 7))))))))))))) (R3 (Z0 (pv 8)))))))))),?_⟩;refine⟨_,rfl,_,_,rfl,rfl,⟨Sz,Sz⟩,?_⟩;refine⟨12,rfl,Sz,Sz,?_⟩;refine ft (fun i σ H'=>H'=H∧∃(bT:Str)(rest:Int)(kv:Option V),bT.length=i∧lows bT∧σ=[sI cell,sI other,sI many,sS OA,sS bT,sI rest,kv,none,none,none,none]) ⟨rfl,_,_,_,(by decide+kernel),(show(Str.ofString "").cps.toList.all low=true by decide+kernel),rfl⟩ ?_ ?_
  ·rintro i σ H' hi ⟨rfl,bT,rest,kv,hl,Mt,rfl⟩;have hi:i<12:=hi;refine⟨_,rfl,_,rfl,_,rfl,_,_,rfl,rfl,Wj,_,_,_,rfl,rfl,aD Aj,E2,_,_,rfl,rfl,aD (show bT.length+1≤100000 by lia),?_⟩;refine⟨_,rfl,_,_,rfl,rfl,⟨Sz,Sz⟩,rfl,_,_,_,?_,?_,rfl⟩
   ·rw[len_app,hl];rfl
   ·have h1:bT.cps.toList.all low=true:=Mt;have h2:=BK rest;unfold lows;rw[oV,List.all_append,h1];simp[h2]
  ·rintro σ H' ⟨rfl,bT,rest,kv,hl,Mt,rfl⟩;have hl:bT.length=12:=hl;refine⟨_,rfl,_,_,rfl,rfl,⟨Sz,Sz⟩,_,_,rfl,rfl,Wl,_,_,rfl,rfl,?_⟩;have z0:1≤1+cell/2%12∧1+cell/2%12≤12:=by lia
   refine⟨aD K4,fun D hD=>?_⟩;refine⟨_,rfl,many,rfl,by lia,by lia,?_⟩;refine ft (fun i σ H2=>(∃u v w,σ=[sI cell,sI other,sI many,sS OA,sS bT,sI rest,u,sI (1+cell/2%12),sR D,v,w])∧H2 D=some (.lst (((Z6 i).map (kc bT cell other)).map V.str))∧av H' H2) ⟨⟨_,_,_,rfl⟩,ae,Wt hD⟩ ?_ ?_
   ·rintro i σ H2 hi ⟨⟨u,v,w,rfl⟩,i_,s2⟩;have hi:i<12:=by lia
    have nx:∀z,z=kc bT cell other i→(Z6 i).map (fun k=>V.str (kc bT cell other k))++[V.str z]=((Z6 (i+1)).map (kc bT cell other)).map V.str:=fun z e=>by
     rw[List.range_succ,e];simp
    have il:(((Z6 i).map (kc bT cell other)).map V.str).length<sizeLine:=aZ Z_;refine⟨_,rfl,_,_,rfl,rfl,(show(0:Int)<2 by decide),rfl,_,rfl,?_⟩;refine bb (fun h=>?_) (fun h=>?_)
    ·have h:cell%2=1:=by simpa using h
     refine⟨_,rfl, .inl ⟨rfl,_, .of i_⟩,_,rfl,_,rfl,_,rfl,_,_,rfl,rfl,_,_,rfl,rfl,Wl,_,_,rfl,rfl,_,rfl,bT,rfl,aD Aj,D,_,_,rfl,rfl,i_,il,⟨_,_,_,rfl⟩,?_,s2.dU hD⟩;rw[ae];have:=nx (Txt.slice bT none (some (1+(1+cell/2%12+(0+(i:Int)))%12))) (by simp[kc,h]);rw[←this];simp
    ·have h:¬cell%2=1:=by simpa using h
     have z1:0≤other%(1+cell/2%12)∧other%(1+cell/2%12)<1+cell/2%12:=⟨Int.emod_nonneg _ (by lia),Int.emod_lt_of_pos _ (by lia)⟩
     have b1:=vV bT none (some (other%(1+cell/2%12)));have b2:=vV bT (some (other%(1+cell/2%12)+1)) (some (1+cell/2%12));refine⟨_,rfl,_,rfl,_,_,rfl,rfl,(show(0:Int)<1+cell/2%12 by lia),?_⟩;refine⟨_,rfl,_,rfl,_,_,rfl,rfl,⟨Sz,Sz⟩,_,rfl,_,_,rfl,rfl,_,_,rfl,rfl,Wj,_,_,_,rfl,rfl,aD Aj,E2,?_⟩;refine⟨_,rfl, .inl ⟨rfl,_, .of i_⟩,_,rfl,_,rfl,_,rfl,bT,rfl,aD Aj,_,rfl,_,_,rfl,rfl,aD (show(Txt.slice bT none (some (other%(1+cell/2%12)))).length+1≤100000 by lia),_,rfl,_,rfl,_,_,rfl,rfl,_,rfl,_,rfl,_,rfl,bT,rfl,aD Aj,_,_,rfl,rfl,?_,D,_,_,rfl,rfl,i_,il,⟨_,_,_,rfl⟩,?_,s2.dU hD⟩
     ·rw[len_app];exact aD (show(Txt.slice bT none (some (other%(1+cell/2%12)))).length+1+_≤100000 by lia)
     rw[ae];have:=nx (Txt.slice bT none (some (other%(1+cell/2%12)))++⟨#[97+((other/12+(0+(i:Int)))%26).toNat]⟩++Txt.slice bT (some (other%(1+cell/2%12)+1)) (some (1+cell/2%12))) (by simp[kc,h]);rw[←this];simp
   ·rintro σ H2 ⟨⟨u,v,w,rfl⟩,i_,s2⟩;refine⟨_,rfl,q H2 D _ s2 hD i_ K4 ?_ (Aw hl cell other (by lia))⟩;intro z hz;obtain⟨k,_,rfl⟩:=List.mem_map.mp hz;exact E5 hl Mt cell other k
variable(a7:bN P w K mg base true 1 "_law_at" ["_law_script","_law_k"] (ER K))
theorem gw:aL ["_law_script","_law_cell","_law_spot","_law_many","_law_bank_here","_law_book_here","_law_rest","_law_k"] ["_law_script","_law_cell","_law_spot","_law_many","_law_bank_here"] (au lX):=gO
include T a7 in
theorem xM{f:Addr}{fd:FuncData}(F:jU K "_law_book" "_law_book" lX f fd):a9 P w K mg base (cY P w) true 2 f fd ["_law_script","_law_cell","_law_spot","_law_many","_law_bank_here"] (xh K):=by
 refine F.gK gw Yz gP
 ·obtain⟨a,b,ns,zs,c,p,m,rfl,_⟩:=h;rfl
 ·obtain⟨a,b,ns,zs,c,p,m,rfl,hS,hb,⟨Zg,MQ⟩,Zh,UA,Cn,q⟩:=h;refine⟨_,(U' (WX (5) gw.nd (ZL af)) (U' (WX (6) gw.nd Wa) (U' (ZJ (@eC _ _ _ _ _ _ (by exact rfl) T.fM (Im (pv 3)) (YG)) (Xc (7) gw.nd) (U' (ZH (Ε K PySem.F.slot_list_append PySem.F.type_list_append bR (pv 5) (Im (Xa (pv 4) (RU bM (RU bD (RU bD (pv 6) (pv 7)) (Y6 a7 aR (R4 WC (Im (RU bD Y1 (pv 7)))))) (ZM (aK K) T.cZ (Im (pv 4)))))))) (R3 (WX (6) gw.nd (RU dF (pv 6) (ZM (aK K) T.cZ (Im (pv 4)))))))) (R3 (Z0 (pv 5)))))),?_⟩;refine⟨aD K4,fun l hl=>?_⟩;refine⟨_,rfl,?_⟩;refine⟨_,rfl,m,rfl,by lia,by lia,?_⟩;refine ft (fun i σ H'=>(∃r u,σ=[sR a,sI c,sI p,sI m,sR b,sR l,sI r,u])∧av H H'∧∃ws:List Str,H' l=some (.lst (ws.map V.str))∧ws.length=i∧∀w∈ws,w∈zs) ⟨⟨_,_,rfl⟩,Wt hl,[],ae,rfl,fun w hw=>by cases hw⟩ ?_ ?_
  ·rintro i σ H' hi ⟨⟨r,u,rfl⟩,s1,ws,lz,sj,Mu⟩;have hi:i<m.toNat:=hi;have j5:=s1 _ _ hb;have z0:0≤(r+(0+(i:Int))+cell ns (p+(0+(i:Int))))%(zs.length:Int):=Int.emod_nonneg _ (by lia);have z1:(r+(0+(i:Int))+cell ns (p+(0+(i:Int))))%(zs.length:Int)<(zs.length:Int):=Int.emod_lt_of_pos _ (by lia);obtain⟨w,hw,DF⟩:=Au zs z0 z1;have el:(zs.map V.str).length=zs.length:=List.length_map ..;refine⟨_,rfl, .inl ⟨rfl,_, .of lz⟩,_,rfl,_,rfl,_,rfl,_,_,rfl,rfl,_,rfl,_,rfl,_,rfl,_,_,rfl,rfl,a,ns,_,rfl,s1.seq hS,by lia,_,_,rfl,rfl,_,rfl,b,_,rfl, .inl (.of j5),_,_,rfl,rfl,(by rw[el];show(0:Int)<_;lia),b,_,_,_,rfl,rfl, .of j5,(by rw[el];exact DF),l,_,_,rfl,rfl,lz,aZ (by rw[List.length_map];lia),?_⟩;have IH:b≠l:=aE hb hl;have xC:upd H' l (.lst (ws.map V.str++[.str w])) b=some (.lst (zs.map V.str)):=by rw[ak IH];exact j5
   refine⟨_,rfl,_,rfl,b,_,rfl, .inl (.of xC),_,_,rfl,rfl,⟨by rw[el];lia,by rw[el];lia⟩,⟨_,_,rfl⟩,s1.dU hl,ws++[w],?_,by simp[sj],?_⟩
   ·rw[ae];simp
   ·intro x hx;rcases List.mem_append.mp hx with hx|hx
    ·exact Mu x hx
    ·have:x=w:=by simpa using hx
     rw[this];exact hw
  ·rintro σ H' ⟨⟨r,u,rfl⟩,s1,ws,lz,sj,Mu⟩;exact⟨_,rfl,q H' l ws s1 hl lz sj Mu⟩
theorem ck:aL ["_law_script","_law_cell","_law_spot","_law_many","_law_first","_law_bank_here","_law_book_here","_law_rest","_law_place","_law_k","_law_pick"] ["_law_script","_law_cell","_law_spot","_law_many","_law_first","_law_bank_here"] (au iU):=gO
include T a7 in
theorem vc{f:Addr}{fd:FuncData}(F:jU K "_law_quote" "_law_quote" iU f fd):a9 P w K mg base (cY P w) true 2 f fd ["_law_script","_law_cell","_law_spot","_law_many","_law_first","_law_bank_here"] (tK K):=by
 refine F.gK ck Yz gP
 ·obtain⟨a,b,x,ns,zs,Mw,c,p,m,rfl,_⟩:=h;rfl
 ·obtain⟨a,b,x,ns,zs,Mw,c,p,m,rfl,hS,hb,hx,⟨Zg,MQ⟩,uY,UB,Zh,UA,Cn,q⟩:=h;have hu:=hr.units;have J1:(A.deeper (Α "_law_quote" (au iU) f f7)).units<cLine:=by lia
  have c8:(0:Int)<8:=Sz;refine⟨_,(U' (WX (6) ck.nd (ZL af)) (U' (WX (7) ck.nd Wa) (U' (WX (8) ck.nd ai) (U' (ZJ (@eC _ _ _ _ _ _ (by exact rfl) T.fM (Im (pv 3)) (YG)) (Xc (9) ck.nd) (U' (WX (10) ck.nd (RU bD (pv 7) (Y6 a7 aR (R4 WC (Im (RU bD Y1 (pv 9))))))) (U' (WX (7) ck.nd (RU dF (pv 7) (RU nB ai (ZM (aK K) T.cZ (Im (pv 5)))))) (R3 (ZI (@PW.pt _ _ _ (@pw_and _ _ _ _ _ _ _ (Z7 mY (RU bM (pv 10) ai) ai) (@pw_and1 _ _ _ _ (Z7 (tH K J1) (pv 4) (ZL af))))) (U' (WX (8) ck.nd (RU bD (pv 8) (γ qr ZW T.BG PyProof.Rows.Boot.«int» (Im (@iO _ _ _ _ _ _ _ _ jb (RU bM (pv 10) ai) ai (aV _)))))) (U' (ZH (Ε K PySem.F.slot_list_append PySem.F.type_list_append bR (pv 6) (Im (Xa (pv 4) (RU bM (pv 8) (ZM (aK K) T.cZ (Im (pv 4)))))))) (R3 (WX (8) ck.nd (RU bD (pv 8) ai))))) (R3 (ZH (Ε K PySem.F.slot_list_append PySem.F.type_list_append bR (pv 6) (Im (Xa (pv 5) (RU bM (RU dF (pv 10) ai) (ZM (aK K) T.cZ (Im (pv 5)))))))))))))) (R3 (Z0 (pv 6))))))),?_⟩;refine⟨aD K4,fun l hl=>?_⟩;refine⟨_,rfl,?_⟩;refine⟨_,rfl,m,rfl,by lia,by lia,?_⟩;refine ft (fun i σ H'=>(∃(r pl:Int)(u1 u2:Option V),σ=[sR a,sI c,sI p,sI m,sR x,sR b,sR l,sI r,sI pl,u1,u2])∧av H H'∧∃ws:List Str,H' l=some (.lst (ws.map V.str))∧ws.length=i∧∀w∈ws,w∈zs) ⟨⟨_,_,_,_,rfl⟩,Wt hl,[],ae,rfl,fun w hw=>by cases hw⟩ ?_ ?_
  ·rintro i σ H' hi ⟨⟨r,pl,u1,u2,rfl⟩,s1,ws,lz,sj,Mu⟩;have hi:i<m.toNat:=hi;have j5:=s1 _ _ hb;have lE:=s1 _ _ hx;have el:(zs.map V.str).length=zs.length:=List.length_map ..;have Wm:(Mw.map V.str).length=Mw.length:=List.length_map ..;have il:(ws.map V.str).length<sizeLine:=aZ (by rw[List.length_map];lia);refine⟨_,rfl,_,rfl,_,rfl,_,rfl,_,_,rfl,rfl,a,ns,_,rfl,s1.seq hS,by lia,_,_,rfl,rfl,?_⟩;refine⟨_,rfl,_,rfl,b,_,rfl, .inl (.of j5),_,_,rfl,rfl, .inl ZV,_,_,rfl,rfl,⟨by rw[el];lia,by rw[el];lia⟩,?_⟩;have fin:∀H3 (w:Str),av H H3→H3 l=some (.lst (ws.map V.str))→w∈zs→av H (upd H3 l (.lst (ws.map V.str++[.str w])))∧∃UC:List Str,upd H3 l (.lst (ws.map V.str++[.str w])) l=some (.lst (UC.map V.str))∧UC.length=i+1∧∀w∈UC,w∈zs:=fun H3 w s3 h3 hw=>by
    refine⟨s3.dU hl,ws++[w],by rw[ae];simp,by simp[sj],fun x hx=>?_⟩;rcases List.mem_append.mp hx with hx|hx
    ·exact Mu x hx
    ·have:x=w:=by simpa using hx
     rw[this];exact hw
   have other:∀H3,av H H3→H3 l=some (.lst (ws.map V.str))→H3 b=some (.lst (zs.map V.str))→∃w,w∈zs∧sM (zs.map V.str) ((r+cell ns (p+(0+(i:Int))))/8%((zs.map V.str).length:Int))=some (.str w):=fun H3 _ _ _=>by
    rw[el];exact Au zs (Int.emod_nonneg _ (by lia)) (Int.emod_lt_of_pos _ (by lia))
   refine⟨_,rfl,_,_,rfl,rfl,c8,_,_,rfl,rfl,_,rfl,?_⟩;refine bb (fun h1=>?_) (fun h1=>?_)
   ·refine⟨_,rfl,aD K4,fun pn Nk=>⟨x,pn,_,rfl,rfl, .of (av.upd Nk _ _ lE), .of ae,_,rfl,?_⟩⟩;have s2:av H (upd H' pn (.lst [])):=s1.trans (Wt Nk);have vR:=av.upd (o:= .lst []) Nk _ _ lz;refine bb (fun h2=>?_) (fun h2=>?_)
    ·have cB:Mw≠[]:=by simpa using h2
     have UD:0<Mw.length:=List.length_pos_iff.mpr cB;obtain⟨w,hw,DF⟩:=Au Mw (i:=(pl+(if decide ((r+cell ns (p+(0+(i:Int))))%8=4)=true then 1 else 0))%((Mw.length:Nat):Int)) (Int.emod_nonneg _ (by lia)) (Int.emod_lt_of_pos _ (by lia));obtain⟨a1,a2⟩:=fin _ w s2 vR (UB w hw);refine⟨_,rfl,_,rfl,_,_,rfl,rfl,c8,rfl, .inr ⟨_,rfl,_,_,rfl,rfl,?_⟩⟩;refine⟨_,rfl, .inl ⟨rfl,_, .of vR⟩,_,rfl,_,rfl,_,rfl,x,_,rfl, .inl (.of (s2 _ _ hx)),_,_,rfl,rfl,(by rw[Wm];show(0:Int)<_;lia),x,_,_,_,rfl,rfl, .of (s2 _ _ hx),by rw[Wm];simpa[beq_iff_eq,wO]using DF,l,_,_,rfl,rfl,vR,il,?_⟩;exact⟨_,rfl,_,_,rfl,rfl,⟨_,_,_,_,rfl⟩,a1,a2⟩
    ·obtain⟨w,hw,DF⟩:=other _ s2 vR (s2 _ _ hb);obtain⟨a1,a2⟩:=fin _ w s2 vR hw;refine⟨_,rfl, .inl ⟨rfl,_, .of vR⟩,_,rfl,_,rfl,_,_,rfl,rfl,⟨Sz,Sz⟩,_,rfl,b,_,rfl, .inl (.of (s2 _ _ hb)),_,_,rfl,rfl,(by rw[el];show(0:Int)<_;lia),b,_,_,_,rfl,rfl, .of (s2 _ _ hb),DF,l,_,_,rfl,rfl,vR,il,⟨_,_,_,_,rfl⟩,a1,a2⟩
   ·refine gR ?_;obtain⟨w,hw,DF⟩:=other _ s1 lz j5;obtain⟨a1,a2⟩:=fin _ w s1 lz hw;refine⟨_,rfl, .inl ⟨rfl,_, .of lz⟩,_,rfl,_,rfl,_,_,rfl,rfl,⟨Sz,Sz⟩,_,rfl,b,_,rfl, .inl (.of j5),_,_,rfl,rfl,(by rw[el];show(0:Int)<_;lia),b,_,_,_,rfl,rfl, .of j5,DF,l,_,_,rfl,rfl,lz,il,⟨_,_,_,_,rfl⟩,a1,a2⟩
  ·rintro σ H' ⟨⟨r,pl,u1,u2,rfl⟩,s1,ws,lz,sj,Mu⟩;exact⟨_,rfl,q H' l ws s1 hl lz sj Mu⟩
theorem eA:aL ["_law_script","_law_spot","_law_pick","_law_same","_law_most"] ["_law_script","_law_spot"] (au gk):=gO
include T a7 in
theorem sq{f:Addr}{fd:FuncData}(F:jU K "_law_numbers" "_law_numbers" gk f fd):a9 P w K mg base (cY P w) true 2 f fd ["_law_script","_law_spot"] (nJ K):=by
 refine F.gK eA Yz gP
 ·obtain⟨a,ns,k,rfl,_⟩:=h;rfl
 ·obtain⟨a,ns,k,rfl,hS,h0,q⟩:=h;have c2:(0:Int)<2:=Sz;have c4:(0:Int)<4:=Sz;have c6:(0:Int)<6:=Sz;have cM:(0:Int)<1000000:=Sz;have Wn:∀i:Int,KH i 4:=fun i=>⟨Sz,Sz⟩
  have Zi:∀i:Int,KH i 8:=fun i=>⟨Sz,Sz⟩
  refine⟨_,(U' (@kH _ _ _ _ _ _ _ _ _ _ _ _ _ _ _ (2) _ _ (by exact rfl) eA.nd ZW (by exact rfl) (show bg ["_law_script","_law_spot","_law_pick","_law_same","_law_most"] (au gk) _ ["_law_k"] [0,1] ["_law_script","_law_spot"]from Ck) (@eC _ _ _ _ _ _ (by exact rfl) T.fM (Im ai) (YG)) (fun _ _ _ _ _=>(Xc (0) (show(["_law_k","_law_script","_law_spot"]:List Str).Nodup by decide+kernel))) (fun _ _ _ _ _=>fz) (fun _ _ _ _ _=>(Y6 a7 aR (R4 Wa (Im (RU bD Y1 (pv 0)))))) (YG) (by intro _;rfl)) (U' (ZI (Z7 mY (Χ bM ai) ai) (U' (WX (3) eA.nd (RU bD ai (RU bM (Χ dF ai) ai))) (R3 (Z0 (ZL (R4 (pv 3) (R4 (Χ bM ai) (R4 (Χ bM ai) (Im (RU bD ai (Χ bM (RU nB ai (pv 3)))))))))))) aS) (U' (WX (3) eA.nd (RU bD ai (RU bM (Χ dF ai) ai))) (U' (WX (4) eA.nd (Xa (ZL (ν (Η (qp rfl) T.EO PyProof.Rows.Boot.«min» (R4 ai (Im (RU nB ai (pv 3))))))) (RU bM (Χ dF ai) ai))) (R3 (Z0 (ZL (R4 (pv 3) (R4 (Χ bM ai) (R4 (Χ bM ai) (Im (RU bD ai (Χ bM (pv 4)))))))))))))),?_⟩;refine⟨4,rfl,Sz,Sz,fun D hD=>?_⟩;refine An (fun i ys bj H'=>(∃u,bj=[u,sR a,sI k])∧∃is:List Int,ys=is.map V.int∧is.length=i∧H' D=some (.lst ys)∧av H H') ⟨⟨_,rfl⟩,[],rfl,rfl,ae,Wt hD⟩ ?_ ?_
  ·rintro i ys bj H' hi ⟨⟨u,rfl⟩,is,rfl,hl,Zj,s1⟩;have hi:i<4:=hi;refine nG ?_;exact⟨_,rfl,_,rfl,_,rfl,_,_,rfl,rfl,a,ns,_,rfl,s1.seq hS,by lia,Zj,aZ (by rw[List.length_map];lia),⟨_,rfl⟩,is++[cell ns (k+(0+(i:Int)))],MD,by simp[hl],ae,s1.dU hD⟩
  ·rintro ys bj H1 ⟨_,is,rfl,hl,si,s1⟩;obtain⟨p0,p1,p2,p3,rfl⟩:=HJ hl;refine⟨_,rfl,D,_,0,_,rfl,rfl, .of si,U_ (j:=0),_,_,rfl,rfl,c4,_,_,rfl,rfl,_,rfl,?_⟩;refine bb (fun _=>?_) (fun _=>?_)
   ·refine⟨_,rfl,D,_,0,_,rfl,rfl, .of si,U_ (j:=0),_,_,rfl,rfl,Wn _,_,_,rfl,rfl,c6,_,_,rfl,rfl,?_⟩;have z0:1≤1+p0/4%6∧1+p0/4%6≤6:=by lia
    have z3:0≤p3%(3*(1+p0/4%6)):=Int.emod_nonneg _ (by lia);have z4:p3%(3*(1+p0/4%6))<3*(1+p0/4%6):=Int.emod_lt_of_pos _ (by lia);exact⟨_,rfl,_,rfl,D,_,1,_,rfl,rfl, .of si,U_ (j:=1),_,_,rfl,rfl,c4,_,rfl,D,_,2,_,rfl,rfl, .of si,U_ (j:=2),_,_,rfl,rfl,c4,_,rfl,D,_,3,_,rfl,rfl, .of si,U_ (j:=3),_,rfl,_,_,rfl,rfl, .inl ZV,_,_,rfl,rfl,(show(0:Int)<3*(1+p0/4%6) by lia),_,_,rfl,rfl,aD K4,fun p hp=>q _ p _ _ _ _ (s1.trans (Wt hp)) (s1.free hp) ae Aj (by lia) (by lia) (by lia)⟩
   ·refine⟨_,rfl,D,_,0,_,rfl,rfl, .of si,U_ (j:=0),_,_,rfl,rfl,Zi _,_,_,rfl,rfl,(show(0:Int)<999999 by decide),_,_,rfl,rfl,?_⟩;have z0:1≤1+p0/8%999999∧1+p0/8%999999≤999999:=by lia
    obtain⟨m,Cn,hm⟩:=int_at [if 3*(1+p0/8%999999)<999999 then 3*(1+p0/8%999999)else 999999,999999] (i:=p0/4%2) (by lia) (show p0/4%2<2 by lia);have GV:1≤m∧m≤999999:=by
     simp only[List.mem_cons,List.not_mem_nil,or_false]at Cn;rcases Cn with rfl|rfl
     ·split<;>lia
     ·lia
    refine⟨_,rfl,_,_,rfl,rfl, .inl ZV,_,_,rfl,aD K4,fun p hp=>?_⟩;have i_:=av.upd (o:= .lst [.int (if 3*(1+p0/8%999999)<999999 then 3*(1+p0/8%999999)else 999999), .int 999999]) hp _ _ si;refine⟨_,rfl,D,_,0,_,rfl,rfl, .of i_,U_ (j:=0),_,_,rfl,rfl,Wn _,_,_,rfl,rfl,c2,p,_,_,_,rfl,rfl, .of ae,hm,?_⟩;have z3:0≤p3%m:=Int.emod_nonneg _ (by lia);have z4:p3%m<m:=Int.emod_lt_of_pos _ (by lia);exact⟨_,rfl,_,rfl,D,_,1,_,rfl,rfl, .of i_,U_ (j:=1),_,_,rfl,rfl,cM,_,rfl,D,_,2,_,rfl,rfl, .of i_,U_ (j:=2),_,_,rfl,rfl,cM,_,rfl,D,_,3,_,rfl,rfl, .of i_,U_ (j:=3),_,rfl,_,_,rfl,rfl,(show(0:Int)<m by lia),_,_,rfl,rfl,aD K4,fun p2 CI=>q _ p2 _ _ _ _ ((s1.trans (Wt hp)).trans (Wt CI)) ((s1.trans (Wt hp)).free CI) ae Aj (by lia) (by lia) (by lia)⟩
theorem du:aL ["_law_cell","_law_bank_here","_law_same","_law_found","_law_rest","_law_x","_law_y","_law_price"] ["_law_cell","_law_bank_here","_law_same"] (au lY):=gO
include T in
theorem xN{f:Addr}{fd:FuncData}(F:jU K "_law_near" "_law_near" lY f fd):a9 P w K mg base (cY P w) true 1 f fd ["_law_cell","_law_bank_here","_law_same"] xc:=by
 refine F.gK du Yz gP
 ·obtain⟨cell,same,b,zs,rfl,_⟩:=h;rfl
 ·obtain⟨cell,same,b,zs,rfl,hb,Zk,hw,hn,Yj,KL,q⟩:=h;have Oo:(0:Int)<same+3:=by lia
  refine⟨_,(U' (WX (3) du.nd (ZL af)) (U' (WX (4) du.nd WC) (U' (ZJ (ZO K Wa) (Xc (5) du.nd) (R3 (ZJ (ZO K Wa) (Xc (6) du.nd) (R3 (ZI (Z7 vH (pv 5) (pv 6)) (U' (WX (7) du.nd (RU bM (RU dF (pv 4) ai) (RU bD Y1 ai))) (X2 (ZI (Z7 jb (RU bM (pv 4) ai) ai) (U' (ZH (Ε K PySem.F.slot_list_append PySem.F.type_list_append bR (pv 3) (Im (@dB _ _ _ _ _ (R4 (pv 5) (R4 (pv 6) (Im (Η (qp rfl) T.EO PyProof.Rows.Boot.«min» (ν (pv 7)))))))))) (R3 (WX (4) du.nd (RU dF (pv 4) (RU bD Y1 ai))))) (R3 (ZI (Z7 jb (RU bM (pv 4) ai) ai) (R3 (ZH (Ε K PySem.F.slot_list_append PySem.F.type_list_append bR (pv 3) (Im (@dB _ _ _ _ _ (R4 (pv 5) (ν (pv 6)))))))) aS))) (R3 (WX (4) du.nd (RU dF (pv 4) ai))))) aS))))) (R3 (Z0 (pv 3)))))),?_⟩;refine⟨aD K4,fun l hl=>?_⟩;refine⟨_,rfl,?_⟩;have hlb:b≠l:=aE hb hl;refine⟨_,rfl,b,rfl,⟨_, .of (av.upd hl _ _ hb)⟩,?_⟩;refine bU (xs:=zs.map V.str) (fun i σ H'=>(∃(rest:Int)(u1 u2 u3:Option V),σ=[sI cell,sR b,sI same,sR l,sI rest,u1,u2,u3])∧av H H'∧∃xs fs,H' l=some (.lst xs)∧cP H' xs fs∧c7 zs i 0 fs) ⟨⟨_,_,_,_,rfl⟩,Wt hl,[],[],ae, .nil, .nil⟩ ?_ ?_ ?_
  ·rintro i σ H' _ ⟨_,s1,_⟩;exact .of (s1 _ _ hb)
  ·rintro i v σ H' hv ⟨⟨rest,u1,u2,u3,rfl⟩,s1,xs,fs,lz,T1,P1⟩;obtain⟨x,hx,rfl⟩:∃x,zs[i]?=some x∧v= .str x:=mB hv;have hi:i<zs.length:=(WB hx).1;refine⟨_,rfl,b,rfl,⟨_, .of (s1 _ _ hb)⟩,?_⟩;refine bU (xs:=zs.map V.str) (fun j σ H'=>(∃(rest:Int)(u2 u3:Option V),σ=[sI cell,sR b,sI same,sR l,sI rest,sS x,u2,u3])∧av H H'∧∃xs fs,H' l=some (.lst xs)∧cP H' xs fs∧c7 zs i j fs) ⟨⟨_,_,_,rfl⟩,s1,xs,fs,lz,T1,P1⟩ ?_ ?_ ?_
   ·rintro j σ H' _ ⟨_,s1,_⟩;exact .of (s1 _ _ hb)
   ·clear s1 lz T1 P1 xs fs u1 u2 u3 rest H';rintro j v σ H' hv ⟨⟨rest,u2,u3,rfl⟩,s1,xs,fs,lz,T1,P1⟩;obtain⟨y,hy,rfl⟩:∃y,zs[j]?=some y∧v= .str y:=mB hv;have EA:xs.length<1000:=by
     have h1:=P1.uL;have h2:i*(zs.length-1)≤8*7:=Nat.mul_le_mul Aj (by lia);have h3:j<zs.length:=(WB hy).1;have h4:=T1.1
     lia
    refine⟨_,rfl,_,rfl,rfl,_,rfl,?_⟩;refine bb (fun h=>?_) (fun h=>?_)
    rotate_left
    ·exact⟨⟨_,_,_,rfl⟩,s1,xs,fs,lz,T1,P1.skip⟩
    have cB:¬x=y:=by simpa using h
    refine⟨_,rfl,_,_,rfl,rfl,⟨Sz,Sz⟩,_,rfl,_,_,rfl,rfl,_,_,rfl,rfl,Oo,?_⟩;have p0:0≤rest/3%(same+3):=Int.emod_nonneg _ (by lia);have add:∀(t:Addr)(ht:H' t=none)(pr:Int),0≤pr→pr≤999999→av H (upd (upd H' t (.tup [.str x, .str y, .int pr])) l (.lst (xs++[.ref t])))∧∃C0 J7,upd (upd H' t (.tup [.str x, .str y, .int pr])) l (.lst (xs++[.ref t])) l=some (.lst C0)∧cP (upd (upd H' t (.tup [.str x, .str y, .int pr])) l (.lst (xs++[.ref t]))) C0 J7∧c7 zs i (j+1) J7:=fun t ht pr h0 h1=>by
     refine⟨(s1.trans (Wt ht)).dU hl,_,fs++[(x,y,pr)],ae,?_,P1.add hn hw hx hy cB h0 h1⟩;have T2:cP (upd H' t (.tup (ES (x,y,pr)))) (xs++[.ref t]) (fs++[(x,y,pr)]):=(T1.same (Wt ht)).snoc ae;exact T2.cb (cJ.lst (av.upd ht _ _ lz))
    refine⟨fun σ H2=>(∃(rest:Int)(u3:Option V),σ=[sI cell,sR b,sI same,sR l,sI rest,sS x,sS y,u3])∧av H H2∧∃xs fs,H2 l=some (.lst xs)∧cP H2 xs fs∧c7 zs i (j+1) fs,?_,?_⟩
    ·refine⟨_,rfl,_,_,rfl,rfl,(show(0:Int)<3 by decide),rfl,_,rfl,?_⟩;refine bb (fun _=>?_) (fun _=>?_)
     ·refine⟨_,rfl, .inl ⟨rfl,_, .of lz⟩,_,rfl,_,rfl,_,rfl,_,_,rfl,aD K4,fun t ht=>⟨l,xs,_,rfl,rfl,av.upd ht _ _ lz,aZ Aj,?_⟩⟩;obtain⟨a1,a2⟩:=add t ht (if 999999<rest/3%(same+3)then 999999 else rest/3%(same+3)) (by split<;>lia) (by split<;>lia);exact⟨_,rfl,_,rfl,_,_,rfl,rfl,_,_,rfl,rfl,⟨Oo,by lia⟩,⟨_,_,rfl⟩,a1,a2⟩
     ·refine⟨_,rfl,_,_,rfl,rfl,(show(0:Int)<9 by decide),rfl,_,rfl,?_⟩;refine bb (fun _=>?_) (fun _=>?_)
      ·refine⟨_,rfl, .inl ⟨rfl,_, .of lz⟩,_,rfl,_,rfl,aD K4,fun t ht=>⟨l,xs,_,rfl,rfl,av.upd ht _ _ lz,aZ Aj,?_⟩⟩;obtain⟨a1,a2⟩:=add t ht 999999 ZV (Sz);exact⟨⟨_,_,rfl⟩,a1,a2⟩
      ·exact⟨⟨_,_,rfl⟩,s1,xs,fs,lz,T1,P1.skip⟩
    rintro σ H2 ⟨⟨J8,u4,rfl⟩,s2,C0,J7,vR,T2,P2⟩;exact⟨_,rfl,_,_,rfl,rfl,⟨Sz,Sz⟩,⟨_,_,_,rfl⟩,s2,C0,J7,vR,T2,P2⟩
   ·rintro σ H2 ⟨⟨J8,u4,u5,rfl⟩,s2,C0,J7,vR,T2,P2⟩;rw[List.length_map]at P2;exact⟨⟨_,_,_,_,rfl⟩,s2,C0,J7,vR,T2,P2.row hi⟩
  ·rintro σ H2 ⟨⟨J8,u4,u5,u6,rfl⟩,s2,C0,J7,vR,T2,P2⟩;rw[List.length_map]at P2;exact⟨_,rfl,q H2 l C0 J7 s2 hl vR T2 (P2.good Zk)⟩
variable(jH:bN P w K mg base true 1 "_law_bank" ["_law_cell","_law_other","_law_many"] xb)
variable(jI:bN P w K mg base true 2 "_law_book" ["_law_script","_law_cell","_law_spot","_law_many","_law_bank_here"] (xh K))
variable(iZ:bN P w K mg base true 2 "_law_quote" ["_law_script","_law_cell","_law_spot","_law_many","_law_first","_law_bank_here"] (tK K))
variable(gy:bN P w K mg base true 2 "_law_numbers" ["_law_script","_law_spot"] (nJ K))
variable(jJ:bN P w K mg base true 1 "_law_near" ["_law_cell","_law_bank_here","_law_same"] xc)
theorem dw:aL ["_law_script","_law_most","_law_many","_law_bank_here","_law_one","_law_other","_law_first","_law_second","_law_numbers_here"] ["_law_script","_law_most"] (au lZ):=gO
include T a7 jH jI iZ gy jJ in
theorem xO{f:Addr}{fd:FuncData}(F:jU K "_law_case" "_law_case" lZ f fd):a9 P w K mg base (cY P w) true 3 f fd ["_law_script","_law_most"] (xi K):=by
 refine F.gK dw Yz gP
 ·obtain⟨a,ns,most,rfl,_⟩:=h;rfl
 ·obtain⟨a,ns,most,rfl,hS,UA,Cn,q⟩:=h;refine⟨_,(X2 (WX (2) dw.nd (RU bD (RU bD ai (RU bM (Υ a7 aR) ai)) (RU nB (γ qr ZW T.BG PyProof.Rows.Boot.«int» (Im (@iO _ _ _ _ _ _ _ _ rD Wa ai (aV _)))) ai))) (X2 (WX (3) dw.nd (Y6 jH aR (R4 (Υ a7 aR) (Ψ (Υ a7 aR))))) (X2 (WX (4) dw.nd (RU cq Wa (RU bM (Υ a7 aR) (RU bD Wa ai)))) (X2 (WX (5) dw.nd (RU cq Wa (RU bM (Υ a7 aR) (RU bD Wa ai)))) (X2 (WX (6) dw.nd (Y6 jI aR (R4 WC (R4 (Υ a7 aR) (R4 ai (Ρ (pv 4))))))) (X2 (WX (7) dw.nd (Y6 iZ aR (R4 WC (R4 (Υ a7 aR) (R4 ai (R4 (pv 5) (Ρ (pv 6)))))))) (X2 (WX (8) dw.nd (Υ gy aR)) (R3 (Z0 (ZL (R4 (pv 6) (R4 (pv 7) (R4 (pv 8) (Im (Y6 jJ aR (R4 (Υ a7 aR) (R4 (@oK _ _ _ _ _ _ _ _ _ _ (EN K) (pv 3) wL (@oJ _ _ _ ai)) (Im (Xa (pv 8) ai))))))))))))))))))),?_⟩;refine⟨fun σ H1=>∃many:Int,σ=[sR a,sI most,sI many,none,none,none,none,none,none]∧H1=H∧1≤many∧many≤12,?_,?_⟩
  ·refine⟨_,rfl,a,ns,2,rfl,hS,Sz,_,_,rfl,rfl,(show(0:Int)<5 by decide),_,_,rfl,rfl,_,rfl,_,_,rfl,rfl, .inr ⟨_,rfl,_,_,rfl,rfl, .inr ⟨Sz,Sz⟩,_,_,rfl,rfl,_,rfl,rfl,?_,?_⟩⟩
   ·split<;>lia
   ·split<;>lia
  rintro σ H ⟨many,rfl,rfl,hy0,D1⟩;refine⟨fun σ H1=>∃(b:Addr)(zs:List Str),σ=[sR a,sI most,sI many,sR b,none,none,none,none,none]∧av H H1∧H1 b=some (.lst (zs.map V.str))∧(1≤zs.length∧zs.length≤12)∧(∀z∈zs,rX z=true)∧zs.Nodup,?_,?_⟩
  ·exact⟨_,rfl,a,ns,0,rfl,hS,Sz,_,rfl,a,ns,1,rfl,hS,Sz,_,rfl,_,_,many,rfl,by lia,by lia,fun H' b zs s1 hb j5 hz hw hn=>⟨b,zs,rfl,s1,j5,by lia,hw,hn⟩⟩
  rintro σ H1 ⟨b,zs,rfl,s1,j5,hz,hw,hn⟩;have P6:=s1.seq hS;refine⟨fun σ H2=>∃one:Int,σ=[sR a,sI most,sI many,sR b,sI one,none,none,none,none]∧H2=H1∧0≤one∧one≤most,?_,?_⟩
  ·have z0:0≤cell ns 3%(most+1):=Int.emod_nonneg _ (by lia);have z1:cell ns 3%(most+1)<most+1:=Int.emod_lt_of_pos _ (by lia);exact⟨_,rfl,_,rfl,a,ns,3,rfl,P6,Sz,_,rfl,_,_,rfl,rfl,_,_,rfl,rfl,(show(0:Int)<most+1 by lia),_,_,rfl,rfl,_,rfl,rfl,by lia,by lia⟩
  rintro σ H1 ⟨one,rfl,rfl,Zl,Ig⟩;refine⟨fun σ H2=>∃IW:Int,σ=[sR a,sI most,sI many,sR b,sI one,sI IW,none,none,none]∧H2=H1∧0≤IW∧IW≤most,?_,?_⟩
  ·have z0:0≤cell ns 4%(most+1):=Int.emod_nonneg _ (by lia);have z1:cell ns 4%(most+1)<most+1:=Int.emod_lt_of_pos _ (by lia);exact⟨_,rfl,_,rfl,a,ns,4,rfl,P6,Sz,_,rfl,_,_,rfl,rfl,_,_,rfl,rfl,(show(0:Int)<most+1 by lia),_,_,rfl,rfl,_,rfl,rfl,by lia,by lia⟩
  rintro σ H1 ⟨IW,rfl,rfl,Gx,O8⟩;refine⟨fun σ H2=>∃(x:Addr)(xs:List Str),σ=[sR a,sI most,sI many,sR b,sI one,sI IW,sR x,none,none]∧av H1 H2∧H2 x=some (.lst (xs.map V.str))∧xs.length=one.toNat∧∀w∈xs,w∈zs,?_,?_⟩
  ·exact⟨_,rfl,_,rfl,a,ns,10,rfl,P6,Sz,_,rfl,_,rfl,a,b,ns,zs,_,16,one,rfl,P6,j5,⟨hz.1,by lia⟩,Sz,Zl,by lia,fun H2 x xs s2 hx uY hl oB=>⟨x,xs,rfl,s2,uY,hl,oB⟩⟩
  rintro σ H2 ⟨x,xs,rfl,s2,uY,Ti,UB⟩;have s3:=s1.trans s2;have UE:=s2.seq P6;refine⟨fun σ H3=>∃(y:Addr)(ys:List Str),σ=[sR a,sI most,sI many,sR b,sI one,sI IW,sR x,sR y,none]∧av H2 H3∧H3 y=some (.lst (ys.map V.str))∧ys.length=IW.toNat,?_,?_⟩
  ·exact⟨_,rfl,_,rfl,a,ns,11,rfl,UE,Sz,_,rfl,_,rfl,_,rfl,a,b,x,ns,zs,xs,_,17,IW,rfl,UE,s2 _ _ j5,uY,⟨hz.1,by lia⟩,by lia,UB,Sz,Gx,by lia,fun H3 y ys s4 hy A6 hl _=>⟨y,ys,rfl,s4,A6,hl⟩⟩
  rintro σ H3 ⟨y,ys,rfl,s4,Zm,VW⟩;have s5:=s3.trans s4;have Wo:=s4.seq UE;refine⟨fun σ H4=>∃(n:Addr)(sa ou iN le:Int),σ=[sR a,sI most,sI many,sR b,sI one,sI IW,sR x,sR y,sR n]∧av H3 H4∧H4 n=some (.lst [.int sa, .int ou, .int iN, .int le])∧(1≤sa∧sa≤999999)∧(0≤ou∧ou≤999999)∧(0≤iN∧iN≤999999)∧(1≤le∧le≤999999),?_,?_⟩
  ·exact⟨_,rfl,a,ns,5,rfl,Wo,Sz,fun H4 D sa ou iN le s6 hD J6 h1 h2 h3 h4=>⟨D,sa,ou,iN,le,rfl,s6,J6,h1,h2,h3,h4⟩⟩
  rintro σ H4 ⟨n,sa,ou,iN,le,rfl,s6,Wq,h1,h2,h3,h4⟩;have s7:=s5.trans s6;have UG:=s6.seq Wo;have Zn:H4 b=some (.lst (zs.map V.str)):=s6 _ _ (s4 _ _ (s2 _ _ j5));refine⟨_,rfl,_,rfl,_,rfl,_,rfl,a,ns,9,rfl,UG,Sz,_,rfl,_,rfl,b,_,rfl, .of Zn,fun b5 Nd=>?_⟩;have e5:CM (zs.map V.str) none (some 5)=(zs.take 5).map V.str:=by
   have:HT.kG (zs.map V.str).length (zs.map V.str).length (some 5)=min 5 zs.length:=by
    rw[List.length_map];simp only[HT.kG];split<;>lia
   have e0:HT.kG (zs.map V.str).length 0 none=0:=by simp[HT.kG]
   unfold CM;rw[this,e0,List.drop_zero,Nat.sub_zero,←List.map_take]
   congr 1
   apply List.ext_getElem?;intro i;rw[List.getElem?_take,List.getElem?_take];by_cases hi:i<zs.length
   ·by_cases h5:i<5
    ·rw[Hz Aj,Hz h5]
    ·rw[Dy Aj,Dy h5]
   ·simp[List.getElem?_eq_none (by lia:zs.length≤i)]
  rw[e5];have s8:av H4 (upd H4 b5 (.lst ((zs.take 5).map V.str))):=Wt Nd;have Zo:=s8 _ _ Wq;refine⟨_,rfl,n,_,0,_,rfl,rfl, .of Zo,U_ (j:=0),_,sa,b5,zs.take 5,rfl,ae,by simp;lia,fun z hz=>hw z (List.mem_of_mem_take hz),hn.sublist (List.take_sublist ..),h1.1,h1.2,fun H6 l us fs s9 hl Tz T6 g6=>?_⟩;have sA:=(s7.trans s8).trans s9;refine⟨aD K4,fun r hr=>?_⟩;have sB:=av.upd (o:= .lst [.ref x, .ref y, .ref n, .ref l]) hr;have sC:=s9.trans sB;refine q _ r ⟨xs,ys,sa,ou,iN,le,fs⟩ x y n l us (sA.trans sB) (sA.free hr) ⟨ae,?_,?_,?_,sB _ _ Tz,T6.same sB⟩ ⟨by show xs.length≤_;lia,by show ys.length≤_;lia,g6,h1,h2,h3,h4⟩
  ·exact sC _ _ (s8 _ _ (s6 _ _ (s4 _ _ uY)))
  ·exact sC _ _ (s8 _ _ (s6 _ _ Zm))
  ·exact sC _ _ (s8 _ _ Wq)
theorem i4:aL ["_law_x","_law_y","_law_same","_law_near_here","_law_old","_law_new","_law_price"] ["_law_x","_law_y","_law_same","_law_near_here"] (au l0):=gO
include T in
theorem xP{f:Addr}{fd:FuncData}(F:jU K "_law_pair" "_law_pair" l0 f fd):a9 P w K mg base (cY P w) true 1 f fd ["_law_x","_law_y","_law_same","_law_near_here"] tI:=by
 refine F.gK i4 Yz gP
 ·obtain⟨x,y,same,l,xs,fs,rfl,_⟩:=h;rfl
 ·obtain⟨x,y,same,l,xs,fs,rfl,hl,T1,q⟩:=h;refine⟨_,(U' (ZI (Z7 jb WC (pv 1)) (R3 (Z0 Y1)) aS) (U' (ZJ (ZO K (pv 3)) (Ν K (3) (ZG (Xc (4) i4.nd) (ZG (Xc (5) i4.nd) (ZG (Xc (6) i4.nd) eL)))) (R3 (ZI (@PW.pt _ _ _ (@pw_and _ _ _ _ _ _ _ (Z7 jb (pv 4) (pv 0)) (@pw_and1 _ _ _ _ (Z7 jb (pv 5) (pv 1))))) (R3 (Z0 (RU cq Y1 (pv 6)))) aS))) (R3 (Z0 jT)))),?_⟩;refine⟨_,rfl,_,rfl,rfl,_,rfl,?_⟩;refine bb (fun h=>?_) (fun h=>?_)
  ·have h:x=y:=by simpa using h
   rw[show cF same fs x y=some same by simp[cF,h]]at q;exact⟨_,rfl,q⟩
  have h:¬x=y:=by simpa using h
  refine⟨_,rfl,l,rfl,⟨_, .of hl⟩,?_⟩;refine bU (xs:=xs) (fun i σ H'=>(∃u1 u2 u3,σ=[sS x,sS y,sI same,sR l,u1,u2,u3])∧H'=H∧∀f∈fs.take i,¬(f.1=x∧f.2.1=y)) ⟨⟨_,_,_,rfl⟩,rfl,MD⟩ ?_ ?_ ?_
  ·rintro i σ H' _ ⟨_,rfl,_⟩;exact .of hl
  ·rintro i v σ H' hv ⟨⟨u1,u2,u3,rfl⟩,rfl,Df⟩;have hi:i<fs.length:=by rw[←T1.1];exact(WB hv).1
   have hf:fs[i]?=some fs[i]:=by simp[hi]
   generalize fs[i]=f0 at hf;obtain⟨t,yw,uN⟩:=T1.2 i f0 hf;rw[hv]at yw;cases yw;obtain⟨x0,y0,p0⟩:=f0;refine⟨t,_,rfl, .of uN,rfl,_,_,rfl,_,_,rfl,_,_,rfl,rfl,?_⟩;have Q2:¬(x0=x∧y0=y)→∀f∈fs.take (i+1),¬(f.1=x∧f.2.1=y):=fun cB f Wr=>by
    rw[List.take_succ,hf]at Wr;rcases List.mem_append.mp Wr with h|h
    ·exact Df f h
    ·have h:f=(x0,y0,p0):=by simpa using h
     rw[h];exact cB
   refine⟨_,rfl,_,rfl,rfl,_,rfl,?_⟩;refine bb (fun hh=>?_) (fun hh=>?_)
   ·have AF:x0=x:=by simpa using hh
    refine⟨_,rfl,_,rfl,rfl,_,rfl,?_⟩;refine bb (fun hh=>?_) (fun hh=>?_)
    ·have j5:y0=y:=by simpa using hh
     have e:cI fs x y=some p0:=rG hf Df ⟨AF,j5⟩;rw[show cF same fs x y=some (same-p0) by simp[cF,h,e]]at q;exact⟨_,rfl,_,rfl,_,_,rfl,rfl,q⟩
    ·have j5:¬y0=y:=by simpa using hh
     exact⟨⟨_,_,_,rfl⟩,rfl,Q2 fun z=>j5 z.2⟩
   ·have AF:¬x0=x:=by simpa using hh
    refine gR ?_;exact⟨⟨_,_,_,rfl⟩,rfl,Q2 fun z=>AF z.1⟩
  ·rintro σ H' ⟨⟨u1,u2,u3,rfl⟩,rfl,Df⟩;rw[T1.1,List.take_length]at Df;have e:cI fs x y=none:=E7 Df;rw[show cF same fs x y=none by simp[cF,h,e]]at q;exact q
variable(bH:bN P w K mg base true 1 "_law_pair" ["_law_x","_law_y","_law_same","_law_near_here"] tI)
theorem cn:aL ["_law_case_here","_law_way","_law_total","_law_k","_law_i","_law_j","_law_gain"] ["_law_case_here","_law_way"] (au kW):=gO
include T bH in
theorem ve{f:Addr}{fd:FuncData}(F:jU K "_law_worth" "_law_worth" kW f fd):a9 P w K mg base (cY P w) true 2 f fd ["_law_case_here","_law_way"] qC:=by
 refine F.gK cn Yz gP
 ·obtain⟨a,w,c,f,g,m,l,us,ws,ps,rfl,_⟩:=h;rfl
 ·obtain⟨a,w,c,x1,x2,m,l,us,ws,ps,rfl,C1,no,hw,P1,hlen,IJ,q⟩:=h;obtain⟨cB,Hw⟩:=kJ IJ;have UD:0<ps.length:=List.length_pos_iff.mpr cB;have IK:=P1.1;have lB:=C1.ca;have zW:=C1.nu;have nO:=no.out;have nI:=no.into;refine⟨_,(U' (WX (2) cn.nd ai) (U' (ZJ (@eC _ _ _ _ _ _ (by exact rfl) T.fM (Im (ZM (aK K) T.cZ (Im Wa))) (YG)) (Xc (3) cn.nd) (U' (@zY _ _ _ _ _ _ (Xa Wa (pv 3)) (Ν K (2) (ZG (Xc (4) cn.nd) (ZG (Xc (5) cn.nd) eL))) (YG) (YG) (YG)) (U' (WX (6) cn.nd (Y6 bH aR (R4 (uj (pv 4)) (R4 (uj (pv 5)) (μ (uj ai)))))) (U' (ZI (Β (@lK _ _ _ _ _ (pv 6))) (R3 (Z0 jT)) aS) (U' (WX (2) cn.nd (RU bD Y1 (pv 6))) (R3 (ZI (Z7 rD (pv 3) ai) (U' (WX (2) cn.nd (RU cq Y1 (RU nB (uj ai) (RU cq (RU cq (pv 4) (ZQ (bI K) (Xa Wa (RU cq (pv 3) ai)) ai)) ai)))) (R3 (WX (2) cn.nd (RU cq Y1 (RU nB (uj ai) (RU cq (RU cq (pv 5) (ZQ (bI K) (Xa Wa (RU cq (pv 3) ai)) ai)) ai)))))) aS))))))) (R3 (Z0 Y1)))),?_⟩;refine⟨_,rfl,w,_,rfl, .inl (.of hw),(ws.length:Int),rfl,by lia,by lia,?_⟩;refine ft (fun i σ H'=>(∃(u1 u2 u3 u4:Option V),σ=[sR a,sR w,sI ((if i=0 then 0 else dG c ps (i-1))),u1,u2,u3,u4])∧H'=H) ⟨⟨_,_,_,_,rfl⟩,rfl⟩ ?_ ?_
  ·rintro i σ H' hi ⟨⟨u1,u2,u3,u4,rfl⟩,e0⟩;subst e0;have hi:i<ps.length:=by lia
   obtain⟨tt,yw,uN⟩:=P1.Lo hi;obtain⟨wo,Rq⟩:=HN (Hw i hi);obtain⟨b1,b2⟩:=c.pw_in Rq;obtain⟨x,lE,uY⟩:=vZ b1.1 b1.2;obtain⟨y,D1,A6⟩:=vZ b2.1 b2.2;have ep:c.pw (pr ps i)=cF c.same c.fs x y:=Case.pw_of lE D1;refine⟨_,rfl,_,rfl,w,_,_,_,rfl,rfl, .of hw,MR yw,tt,_,rfl, .of uN,rfl,_,_,rfl,_,_,rfl,rfl,?_⟩;refine⟨_,rfl,a,_,0,_,rfl,rfl, .of lB,U_ (j:=0),_,rfl,x1,_,_,_,rfl,rfl, .of C1.fi,uY,_,rfl,a,_,1,_,rfl,rfl, .of lB,U_ (j:=1),_,rfl,x2,_,_,_,rfl,rfl, .of C1.se,A6,_,rfl,a,_,2,_,rfl,rfl, .of lB,U_ (j:=2),m,_,0,_,rfl,rfl, .of zW,U_ (j:=0),_,rfl,a,_,3,_,rfl,rfl, .of lB,U_ (j:=3),x,y,c.same,l,us,c.fs,rfl,C1.ne,C1.tr,?_⟩;rw[←ep,Rq];refine⟨_,rfl,_,rfl,?_⟩;refine bb (fun hh=>X7 hh (by simp[bC])) (fun _=>?_);refine⟨_,rfl,_,rfl,_,_,rfl,rfl,?_⟩;refine⟨_,rfl,_,_,rfl,rfl,_,rfl,?_⟩;refine bb (fun h2=>?_) (fun h2=>?_)
   ·have h2:0<i:=by
     have:(0:Int)<0+(i:Int):=by simpa using h2
     lia
    obtain⟨j,rfl⟩:∃j,i=j+1:=⟨i-1,by lia⟩
    have e1:((0+((j+1:Nat):Int))-1)=((j:Nat):Int):=by lia
    obtain⟨t2,O8,F9⟩:=P1.Lo (show j<ps.length by lia);have DF:sM ws ((0+((j+1:Nat):Int))-1)=some (.ref t2):=by rw[e1];exact ar O8
    refine⟨_,rfl,_,rfl,a,_,2,_,rfl,rfl, .of lB,U_ (j:=2),m,_,1,_,rfl,rfl, .of zW,U_ (j:=1),_,rfl,_,rfl,_,rfl,_,_,rfl,rfl,w,_,_,_,rfl,rfl, .of hw,DF,t2,_,0,_,rfl,rfl, .of F9,U_ (j:=0),_,_,rfl,rfl,_,_,rfl,rfl,_,_,rfl,rfl, .inl ⟨by lia,by lia⟩,_,_,rfl,rfl,?_⟩;refine⟨_,rfl,_,rfl,a,_,2,_,rfl,rfl, .of lB,U_ (j:=2),m,_,2,_,rfl,rfl, .of zW,U_ (j:=2),_,rfl,_,rfl,_,rfl,_,_,rfl,rfl,w,_,_,_,rfl,rfl, .of hw,DF,t2,_,1,_,rfl,rfl, .of F9,U_ (j:=1),_,_,rfl,rfl,_,_,rfl,rfl,_,_,rfl,rfl, .inl ⟨by lia,by lia⟩,_,_,rfl,rfl,⟨some (.int (0+((j+1:Nat):Int))),some (.int (pr ps (j+1)).1),some (.int (pr ps (j+1)).2),some (.int wo),?_⟩,rfl⟩;have:dG c ps (j+1)=dG c ps j+wo-c.out*((pr ps (j+1)).1-(pr ps j).1-1)-c.into*((pr ps (j+1)).2-(pr ps j).2-1):=by
     simp only[dG,Rq,Case.gap,Option.getD_some]
     lia
    simp only[Nat.add_sub_cancel,Nat.succ_ne_zero,if_false,this];rfl
   ·have h2:i=0:=by
     have:¬(0:Int)<0+(i:Int):=by simpa using h2
     lia
    subst h2;refine⟨⟨some (.int (0+((0:Nat):Int))),some (.int (pr ps 0).1),some (.int (pr ps 0).2),some (.int wo),?_⟩,rfl⟩;have:dG c ps 0=0+wo:=by simp[dG,Rq]
    simp only[Nat.zero_add,Nat.sub_self,Nat.one_ne_zero,if_false,this];rfl
  ·rintro σ H' ⟨⟨u1,u2,u3,u4,rfl⟩,rfl⟩;have e:((ws.length:Nat):Int).toNat=ps.length:=by lia
   rw[e,Dy Aj];exact⟨_,rfl,q⟩
variable(cK:bN P w K mg base true 1 "_law_whole" ["_law_found"] tG)
theorem nh:aL ["_law_found","_law_pair_here"] ["_law_found"] (au kX):=gO
include T cK in
theorem vf{f:Addr}{fd:FuncData}(F:jU K "_law_pairs" "_law_pairs" kX f fd):a9 P w K mg base (cY P w) true 2 f fd ["_law_found"] qB:=by
 refine F.gK nh Yz gP
 ·obtain⟨a,us,ps,rfl,_⟩:=h;rfl
 ·obtain⟨a,us,ps,rfl,ha,P1,q⟩:=h;refine⟨_,(U' (Γ (@dJ _ _ _ _ (ZY (Η (gS K) T.dX PyProof.Rows.Boot.«isinstance» (R4 WC (Im ο))))) aS) (U' (ZJ (ZO K WC) (Xc (1) nh.nd) (U' (Γ (@PW.pt _ _ _ (ky (@dJ _ _ _ _ (ZY (Η (gS K) T.dX PyProof.Rows.Boot.«isinstance» (R4 Wa (Im (@kE _ _ (.ty "tuple") _ _ (by exact rfl) T.Hy PyProof.Rows.Boot.«tuple» ZW (Sz) (Sz))))))) (@pw_or1 _ _ _ _ (Z7 vH (ZM (aK K) T.cZ (Im Wa)) ai)))) aS) (R3 (Γ (@PW.pt _ _ _ (ky (@dJ _ _ _ _ (ZY (Y6 cK aR (Im (ZQ (bI K) (pv 1) ai))))) (@pw_or1 _ _ _ _ (@dJ _ _ _ _ (ZY (Y6 cK aR (Im (ZQ (bI K) (pv 1) ai)))))))) aS)))) (R3 (Z0 eK)))),?_⟩;refine⟨_,rfl,_,_,_,true,_,rfl,rfl, .lst ha,rfl,_,rfl,?_⟩;refine gR ?_;refine⟨_,rfl,a,rfl,⟨_, .of ha⟩,?_⟩;refine bU (xs:=us) (fun i σ H'=>(∃u,σ=[sR a,u])∧H'=H) ⟨⟨_,rfl⟩,rfl⟩ ?_ ?_ ?_
  ·rintro i σ H' _ ⟨_,rfl⟩;exact .of ha
  ·rintro i v σ H' hv ⟨⟨u,rfl⟩,rfl⟩;have hi:i<ps.length:=by rw[←P1.1];exact(WB hv).1
   obtain⟨t,yw,uN⟩:=P1.Lo hi;rw[hv]at yw;cases yw;refine⟨_,rfl,_,_,_,true,_,rfl,rfl, .tup uN,rfl,_,rfl,?_⟩;refine gR ?_;refine⟨_,rfl,t,_,rfl, .inr (.of uN),rfl,_,rfl,?_⟩;refine bb (fun hh=>absurd hh K4) (fun _=>?_);refine⟨_,rfl,t,_,0,_,rfl,rfl, .of uN,U_ (j:=0),_,rfl,_,rfl,?_⟩;refine gR ?_;refine⟨_,rfl,t,_,1,_,rfl,rfl, .of uN,U_ (j:=1),_,rfl,_,rfl,?_⟩;refine gR ?_;exact⟨⟨_,rfl⟩,rfl⟩
  ·rintro σ H' ⟨⟨u,rfl⟩,rfl⟩;exact q
theorem ni:aL ["_law_case_here","_law_n"] ["_law_case_here"] (au kY):=gO
include T jl in
theorem vh{f:Addr}{fd:FuncData}(F:jU K "_law_terms" "_law_terms" kY f fd):a9 P w K mg base (cY P w) true 7 f fd ["_law_case_here"] (nU aN):=by
 refine F.gK ni Yz gP
 ·obtain⟨a,c,f,g,m,l,us,most,rfl,_⟩:=h;rfl
 ·obtain⟨a,c,x1,x2,m,l,us,most,rfl,C1,ok,q⟩:=h;refine⟨_,(U' (WX (1) ni.nd (Xa WC ai)) (R3 (Z0 (ι jl (hr.mono ZV) hX.pass (R4 (Xa Wa ai) (R4 (Xa Wa ai) (R4 (Xa Wa ai) (R4 (Xa Wa ai) (R4 ai (Im (γ (eE K) (by exact rfl) T.jW PyProof.Rows.Boot.«list» (Im (Xa WC ai))))))))))))),?_⟩;have zW:=C1.nu;have lB:=C1.ca;refine⟨_,rfl,a,_,2,_,rfl,rfl, .of lB,U_ (j:=2),?_⟩;refine⟨_,rfl,m,_,0,_,rfl,rfl, .of zW,U_ (j:=0),_,rfl,m,_,1,_,rfl,rfl, .of zW,U_ (j:=1),_,rfl,m,_,2,_,rfl,rfl, .of zW,U_ (j:=2),_,rfl,m,_,3,_,rfl,rfl, .of zW,U_ (j:=3),_,rfl,a,_,3,_,rfl,rfl, .of lB,U_ (j:=3),l,us,rfl, .inl (.of C1.ne),fun h hh=>fun x dx hx E9 cB=>?_⟩;have s5:av (upd H h (.lst us)) (upd (upd (upd H h (.lst us)) dx (.own x)) x (.ins aN dx [])):=(Wt E9).dU hx;have s4:av H (upd H h (.lst us)):=Wt hh;refine⟨x,dx,⟨c.same,c.out,c.into,c.least,50⟩, .ref h,us,c.fs,rfl,ae,by rw[ak cB];exact ae, .inr ⟨h,rfl,s5 _ _ ae,C1.tr.same (s4.trans s5)⟩,kI ok.good,?_⟩;have Ws:fD ⟨c.same,c.out,c.into,c.least,50⟩=true:=by
   have:=ok.same;have:=ok.out;have:=ok.into;have:=ok.least;simp[fD,inR]
   lia
  rw[Hz Ws,Hz ok.good];intro H6 l2 d sb T6 Tz Yo;exact⟨rfl,q H6 x (s4.trans (SameBut.xg hx E9 sb)) ⟨_,dx,l2,d,us,T6,Ws,rfl,rfl,rfl,rfl⟩⟩
theorem dz:aL ["_law_case_here","_law_many","_law_x","_law_y","_law_each","_law_same","_law_least"] ["_law_case_here"] (au l5):=gO
include T bH in
theorem xQ{f:Addr}{fd:FuncData}(F:jU K "_law_calm" "_law_calm" l5 f fd):a9 P w K mg base (cY P w) true 2 f fd ["_law_case_here"] xE:=by
 refine F.gK dz Yz gP
 ·obtain⟨a,c,f,g,m,l,us,rfl,_⟩:=h;rfl
 ·obtain⟨a,c,x1,x2,m,l,us,rfl,C1,ok,q⟩:=h;refine⟨_,(X2 (WX (1) dz.nd ai) (X2 (ZJ (ZO K (Xa WC ai)) (Xc (2) dz.nd) (R3 (ZJ (ZO K (Xa WC ai)) (Xc (3) dz.nd) (R3 (WX (1) dz.nd (RU bD Wa (γ qr ZW T.BG PyProof.Rows.Boot.«int» (Im (@zX _ _ _ _ _ _ (@oG _ _ _ _ _ (Y6 bH aR (R4 Y1 (R4 (pv 3) (μ (uj ai)))))) (by first|exact bo _ (Sz) (Sz)|rfl)))))))))) (X2 (WX (4) dz.nd (RU bD (RU dF Wa ai) ai)) (X2 (WX (5) dz.nd (Η (qp rfl) T.EO PyProof.Rows.Boot.«min» (R4 (uj ai) (Im (RU dF ai (pv 4)))))) (X2 (WX (6) dz.nd (Η (Cz rfl) T.Jw PyProof.Rows.Boot.«max» (R4 (uj ai) (Im (RU bD (RU nB (RU cq (pv 4) ai) (pv 5)) ai))))) (R3 (Z0 (ZL (R4 (Xa WC ai) (R4 (Xa WC ai) (μ (ZL (R4 (pv 5) (R4 (uj ai) (R4 (uj ai) (Im (pv 6))))))))))))))))),?_⟩;have lB:=C1.ca;have zW:=C1.nu;have lx:(c.xs.map V.str).length=c.xs.length:=List.length_map ..;have ly:(c.ys.map V.str).length=c.ys.length:=List.length_map ..;refine⟨fun σ H1=>H1=H∧σ=[sR a,sI 0,none,none,none,none,none],⟨rfl,rfl⟩,?_⟩;rintro σ H1 ⟨rfl,rfl⟩;refine⟨fun σ H2=>H2=H1∧∃u v,σ=[sR a,sI (manyN c c.xs.length:Nat),u,v,none,none,none],?_,?_⟩
  ·refine⟨_,rfl,a,_,0,_,rfl,rfl, .of lB,U_ (j:=0),x1,rfl,⟨_, .of C1.fi⟩,?_⟩;refine bU (xs:=c.xs.map V.str) (fun i σ H2=>H2=H1∧∃u v,σ=[sR a,sI (manyN c i:Nat),u,v,none,none,none]) ⟨rfl,_,_,rfl⟩ ?_ ?_ ?_
   ·rintro i σ H2 _ ⟨rfl,_⟩;exact .of C1.fi
   ·rintro i v σ H2 hv ⟨rfl,u1,u2,rfl⟩;obtain⟨wx,Rk,rfl⟩:=mB hv;refine⟨_,rfl,a,_,1,_,rfl,rfl, .of lB,U_ (j:=1),x2,rfl,⟨_, .of C1.se⟩,?_⟩;refine bU (xs:=c.ys.map V.str) (fun j σ H3=>H3=H2∧∃v,σ=[sR a,sI (manyN c i+Gg c i j:Nat),sS wx,v,none,none,none]) ⟨rfl,_,rfl⟩ ?_ ?_ ?_
    ·rintro j σ H3 _ ⟨rfl,_⟩;exact .of C1.se
    ·rintro j v σ H3 Mp ⟨rfl,u3,rfl⟩;obtain⟨wy,D6,rfl⟩:=mB Mp;have Ui:c.pw (aQ (i,j))=cF c.same c.fs wx wy:=Case.pw_of (by rw[show(aQ (i,j)).1=(i:Int)from rfl,tJ];exact Rk) (by rw[show(aQ (i,j)).2=(j:Int)from rfl,tJ];exact D6);refine⟨_,rfl,_,rfl,_,rfl,_,rfl,a,_,2,_,rfl,rfl, .of lB,U_ (j:=2),m,_,0,_,rfl,rfl, .of zW,U_ (j:=0),_,rfl,a,_,3,_,rfl,rfl, .of lB,U_ (j:=3),wx,wy,c.same,l,us,c.fs,rfl,C1.ne,C1.tr, .inr ⟨_,rfl,_,_,rfl,rfl,rfl,some (.str wy),?_⟩⟩;rw[Dx,Ui];cases cF c.same c.fs wx wy<;>simp[bC,List.set]<;>lia
    ·rintro σ H3 ⟨rfl,u3,rfl⟩;rw[ly];exact⟨rfl,_,_,rfl⟩
   ·rintro σ H2 ⟨rfl,u1,u2,rfl⟩;rw[lx];exact⟨rfl,_,_,rfl⟩
  rintro σ H1 ⟨rfl,u,v,rfl⟩;have aaO:manyN c c.xs.length≤3600:=by
   have:=Ce c c.xs.length;have h2:=Nat.mul_le_mul ok.x ok.y
   lia
  have ee:((manyN c c.xs.length:Nat):Int)/21+1=(bL c:Int):=by unfold bL;lia
  have he:(1:Int)≤bL c∧(bL c:Int)≤172:=by unfold bL;lia
  refine⟨fun σ H2=>H2=H1∧σ=[sR a,sI (manyN c c.xs.length:Nat),u,v,sI (bL c),none,none],⟨_,rfl,_,_,rfl,rfl,⟨Sz,Sz⟩,_,_,rfl,rfl,rfl,by rw[ee];rfl⟩,?_⟩;rintro σ H1 ⟨rfl,rfl⟩;have es:(if 999999/(bL c:Int)<c.same then 999999/(bL c:Int)else c.same)=f6 c:=by unfold f6;split<;>lia
  refine⟨fun σ H2=>H2=H1∧σ=[sR a,sI (manyN c c.xs.length:Nat),u,v,sI (bL c),sI (f6 c),none],⟨_,rfl,a,_,2,_,rfl,rfl, .of lB,U_ (j:=2),m,_,0,_,rfl,rfl, .of zW,U_ (j:=0),_,rfl,_,_,rfl,rfl,⟨by lia,by lia⟩,_,_,rfl,rfl,by rw[es];rfl⟩,?_⟩;rintro σ H1 ⟨rfl,rfl⟩;have s1:1≤f6 c∧f6 c≤999999:=by
   have:=(Cf ok Aj).same;exact this
  have el:(if ((bL c:Int)-1)*f6 c+1>c.least then((bL c:Int)-1)*f6 c+1 else c.least)=(m_ c).least:=by show _=max c.least _;split<;>lia
  refine⟨fun σ H2=>H2=H1∧σ=[sR a,sI (manyN c c.xs.length:Nat),u,v,sI (bL c),sI (f6 c),sI ((m_ c).least)],⟨_,rfl,a,_,2,_,rfl,rfl, .of lB,U_ (j:=2),m,_,3,_,rfl,rfl, .of zW,U_ (j:=3),_,rfl,_,_,rfl,rfl,_,rfl,_,_,rfl,rfl, .inl ⟨by lia,by lia⟩,_,_,rfl,rfl,_,_,rfl,rfl,by rw[el];rfl⟩,?_⟩;rintro σ H1 ⟨rfl,rfl⟩;refine⟨_,rfl,a,_,0,_,rfl,rfl, .of lB,U_ (j:=0),_,rfl,a,_,1,_,rfl,rfl, .of lB,U_ (j:=1),_,rfl,_,rfl,a,_,2,_,rfl,rfl, .of lB,U_ (j:=2),m,_,1,_,rfl,rfl, .of zW,U_ (j:=1),_,rfl,a,_,2,_,rfl,rfl, .of lB,U_ (j:=2),m,_,2,_,rfl,rfl, .of zW,U_ (j:=2),_,rfl,aD K4,fun m' Am=>?_⟩;have sm:=av.upd (o:= .lst [.int (f6 c), .int c.out, .int c.into, .int (m_ c).least]) Am;have IX:=sm _ _ lB;refine⟨_,rfl,a,_,3,_,rfl,rfl, .of IX,U_ (j:=3),aD K4,fun b hb=>?_⟩;have sb:=av.upd (o:= .lst [.ref x1, .ref x2, .ref m', .ref l]) hb;have sA:=sm.trans sb;exact q _ b m' sA (sm.free hb) ae ⟨ae,sA _ _ C1.fi,sA _ _ C1.se,sb _ _ ae,sA _ _ C1.ne,C1.tr.same sA⟩
variable(gz:bN P w K mg base true 2 "_law_pairs" ["_law_found"] qB)
theorem lC:aL ["_law_found","_law_told"] ["_law_found"] (au gm):=gO
include T Fc cK gz in
theorem sr{f:Addr}{fd:FuncData}(F:jU K "_law_finding" "_law_finding" gm f fd):a9 P w K mg base (cY P w) true 3 f fd ["_law_found"] (ud aA):=by
 refine F.gK lC Yz gP
 ·obtain⟨y,P,d,dy,wy,rw,pr,kO,iC,rfl,_⟩:=h;rfl
 ·obtain⟨y,P,d,dy,wy,i7,pr,kO,iC,rfl,F,hl,cB,q⟩:=h;have hu:=hr.units;have J1:(A.deeper (Α "_law_finding" (au gm) f f7)).units<cLine:=by lia
  refine⟨_,(U' (Γ (@PW.pt _ _ _ (ky (@dJ _ _ _ _ (ZY (Y6 cK aR (Im Z1)))) (ky (@dJ _ _ _ _ (ZY (Y6 gz aR (Im Z1)))) (@pw_or1 _ _ _ _ (@dJ _ _ _ _ (ZY (Y6 gz aR (Im Z1)))))))) aS) (U' (Γ (@PW.pt _ _ _ (ky (@dJ _ _ _ _ (ZY (Η (gS K) T.dX PyProof.Rows.Boot.«isinstance» (R4 Z1 (Im ο))))) (ky (Z7 vH (ZM (aK K) T.cZ (Im Z1)) (ZM (aK K) T.cZ (Im Z1))) (@pw_or1 _ _ _ _ (Z7 (yV K J1) (ζ K) (ZL af)))))) aS) (U' (ZJ (ZO K Z1) (Xc (1) lC.nd) (R3 (Γ (@dJ _ _ _ _ (ZY (Y6 cK aR (Im Wa)))) aS))) (R3 (Z0 eK))))),?_⟩;have h1:kO≠[]:=fun z=>cB (List.length_eq_zero_iff.mp (by rw[←F.pw.1,z];rfl))
  refine⟨_,rfl,y,aA,dy,_,_,rfl,F.ob,Fc.cl,Fc.worth,kg d.worth wy i7 pr,_,rfl,_,rfl,?_⟩;refine gR ?_;refine⟨_,rfl,y,aA,dy,_,_,rfl,F.ob,Fc.cl,Fc.way,qM d.worth wy i7 pr,wy,kO,d.way,rfl,F.hw,F.pw,_,rfl,?_⟩;refine gR ?_;refine⟨_,rfl,y,aA,dy,_,_,rfl,F.ob,Fc.cl,Fc.pairs,jh d.worth wy i7 pr,pr,iC,d.pairs,rfl,F.hp,F.pp,_,rfl,?_⟩;refine gR ?_;refine⟨_,rfl,y,aA,dy,_,_,rfl,F.ob,Fc.cl,Fc.row,AM d.worth wy i7 pr,_,_,_,true,_,rfl,rfl, .lst F.hr,rfl,_,rfl,?_⟩;refine gR ?_;refine⟨_,rfl,y,aA,dy,_,_,rfl,F.ob,Fc.cl,Fc.row,AM d.worth wy i7 pr,i7,_,rfl, .inl (.of F.hr),_,rfl,y,aA,dy,_,_,rfl,F.ob,Fc.cl,Fc.way,qM d.worth wy i7 pr,wy,_,rfl, .inl (.of F.hw),rfl,_,rfl,?_⟩;have h2:(d.row.map V.int).length=kO.length:=by rw[List.length_map,hl,F.pw.1]
  rw[h2];refine bb (fun hh=>absurd hh K4) (fun _=>?_);refine⟨_,rfl,y,aA,dy,_,_,rfl,F.ob,Fc.cl,Fc.way,qM d.worth wy i7 pr,aD K4,fun e he=>⟨wy,e,kO,[],fun _=>true,rfl,rfl, .of (av.upd he _ _ F.hw), .of ae,(fun j x y _ h=>by simp at h),_,rfl,?_⟩⟩;refine bb (fun hh=>X7 hh (by simpa using h1)) (fun _=>?_);have s1:=av.upd (o:= .lst []) he;generalize upd H e (.lst [])=H1 at s1;refine⟨_,rfl,y,aA,dy,_,_,rfl,s1 _ _ F.ob,Fc.cl,Fc.row,AM d.worth wy i7 pr,i7,rfl,⟨_, .of (s1 _ _ F.hr)⟩,?_⟩;refine bU (xs:=d.row.map V.int) (fun i σ H'=>(∃u,σ=[sR y,u])∧H'=H1) ⟨⟨_,rfl⟩,rfl⟩ ?_ ?_ ?_
  ·rintro i σ H' _ ⟨_,rfl⟩;exact .of (s1 _ _ F.hr)
  ·rintro i v σ H' hv ⟨⟨u,rfl⟩,rfl⟩;rw[List.getElem?_map]at hv;obtain⟨z,_,rfl⟩:=Option.map_eq_some_iff.mp hv;refine⟨_,rfl,_,rfl,_,rfl,?_⟩;refine gR ?_;exact⟨⟨_,rfl⟩,rfl⟩
  ·rintro σ H' ⟨⟨u,rfl⟩,rfl⟩;exact q _ s1
theorem gA:aL ["_law_case_here","_law_way","_law_k","_law_i","_law_j"] ["_law_case_here","_law_way"] (au hV):=gO
include T bH in
theorem um{f:Addr}{fd:FuncData}(F:jU K "_law_is_way" "_law_is_way" hV f fd):a9 P w K mg base (cY P w) true 2 f fd ["_law_case_here","_law_way"] tL:=by
 refine F.gK gA Yz gP
 ·obtain⟨a,w,c,f,g,m,l,us,ws,ps,rfl,_⟩:=h;rfl
 ·obtain⟨a,w,c,x1,x2,m,l,us,ws,ps,rfl,C1,hw,P1,hlen,q⟩:=h;have hu:=hr.units;have J1:(A.deeper (Α "_law_is_way" (au hV) f f7)).units<cLine:=by lia
  have IK:=P1.1;have lB:=C1.ca;have zW:=C1.nu;have lx:(c.xs.map V.str).length=c.xs.length:=List.length_map ..;have ly:(c.ys.map V.str).length=c.ys.length:=List.length_map ..;refine⟨_,(U' (ZJ (@eC _ _ _ _ _ _ (by exact rfl) T.fM (Im (ZM (aK K) T.cZ (Im Wa))) (YG)) (Xc (2) gA.nd) (U' (@zY _ _ _ _ _ _ (Xa Wa (pv 2)) (Ν K (2) (ZG (Xc (3) gA.nd) (ZG (Xc (4) gA.nd) eL))) (YG) (YG) (YG)) (U' (Γ (@PW.pt _ _ _ (ky (Z7 mY (pv 3) ai) (ky (Z7 mY (pv 4) ai) (ky (Z7 Bt (pv 3) (ZM (aK K) T.cZ (Im (Xa WC ai)))) (@pw_or1 _ _ _ _ (Z7 Bt (pv 4) (ZM (aK K) T.cZ (Im (Xa WC ai))))))))) aS) (U' (Γ (Β (@lK _ _ _ _ _ (Y6 bH aR (R4 (uj (pv 3)) (R4 (uj (pv 4)) (μ (uj ai))))))) aS) (R3 (Γ (@PW.pt _ _ _ (@pw_and _ _ _ _ _ _ _ (Z7 rD Y1 ai) (@pw_and1 _ _ _ _ (@PW.pt _ _ _ (ky (Z7 Bs (pv 3) (ZQ (bI K) (Xa Wa (RU cq Y1 ai)) ai)) (@pw_or1 _ _ _ _ (Z7 Bs (pv 4) (ZQ (bI K) (Xa Wa (RU cq Y1 ai)) ai)))))))) aS)))))) (R3 (Z0 (@iO _ _ _ _ _ _ _ _ (tH K J1) (pv 1) (ZL af) (aV _))))),?_⟩;refine⟨_,rfl,w,_,rfl, .inl (.of hw),(ws.length:Int),rfl,by lia,by lia,?_⟩;refine ft (fun i σ H'=>(∃(u1 u2 u3:Option V),σ=[sR a,sR w,u1,u2,u3])∧H'=H∧lQ c ps i) ⟨⟨_,_,_,rfl⟩,rfl,fun k hk=>by lia⟩ ?_ ?_
  ·rintro i σ H' hi ⟨⟨u1,u2,u3,rfl⟩,e0,Hw⟩;subst e0;have hi:i<ps.length:=by lia
   obtain⟨tt,yw,uN⟩:=P1.Lo hi;have bad:dD c ps i=false→Q (.bl false) H':=fun e=>by
    have:=q H' (.refl _);rw[Fb hi e]at this;exact this
   have GD:c.pw (pr ps i)=none→Q (.bl false) H':=fun e=>bad (by simp[dD,e])
   refine⟨_,rfl,_,rfl,w,_,_,_,rfl,rfl, .of hw,MR yw,tt,_,rfl, .of uN,rfl,_,_,rfl,_,_,rfl,rfl,?_⟩;refine⟨_,rfl,_,_,rfl,rfl,_,rfl,?_⟩;refine bb (fun h1=>?_) (fun h1=>?_)
   ·have h1:(pr ps i).1<0:=by simpa using h1
    refine jV ?_;exact GD (Case.pw_out Aj)
   have h1:¬(pr ps i).1<0:=by simpa using h1
   refine⟨_,rfl,_,_,rfl,rfl,_,rfl,?_⟩;refine bb (fun h2=>?_) (fun h2=>?_)
   ·have h2:(pr ps i).2<0:=by simpa using h2
    refine jV ?_;exact GD (Case.pw_out Aj)
   have h2:¬(pr ps i).2<0:=by simpa using h2
   refine⟨_,rfl,_,rfl,a,_,0,_,rfl,rfl, .of lB,U_ (j:=0),x1,_,rfl, .inl (.of C1.fi),_,_,rfl,rfl,_,rfl,?_⟩;rw[lx];refine bb (fun h3=>?_) (fun h3=>?_)
   ·have h3:(c.xs.length:Int)≤(pr ps i).1:=by simpa using h3
    refine jV ?_;exact GD (Case.pw_out Aj)
   have h3:¬(c.xs.length:Int)≤(pr ps i).1:=by simpa using h3
   refine⟨_,rfl,_,rfl,a,_,1,_,rfl,rfl, .of lB,U_ (j:=1),x2,_,rfl, .inl (.of C1.se),_,_,rfl,rfl,_,rfl,?_⟩;rw[ly];refine bb (fun h4=>?_) (fun h4=>?_)
   ·have h4:(c.ys.length:Int)≤(pr ps i).2:=by simpa using h4
    exact GD (Case.pw_out Aj)
   have h4:¬(c.ys.length:Int)≤(pr ps i).2:=by simpa using h4
   obtain⟨x,lE,uY⟩:=vZ (xs:=c.xs) (i:=(pr ps i).1) (by lia) (by lia);obtain⟨y,D1,A6⟩:=vZ (xs:=c.ys) (i:=(pr ps i).2) (by lia) (by lia);have ep:c.pw (pr ps i)=cF c.same c.fs x y:=Case.pw_of lE D1;refine⟨_,rfl,a,_,0,_,rfl,rfl, .of lB,U_ (j:=0),_,rfl,x1,_,_,_,rfl,rfl, .of C1.fi,uY,_,rfl,a,_,1,_,rfl,rfl, .of lB,U_ (j:=1),_,rfl,x2,_,_,_,rfl,rfl, .of C1.se,A6,_,rfl,a,_,2,_,rfl,rfl, .of lB,U_ (j:=2),m,_,0,_,rfl,rfl, .of zW,U_ (j:=0),_,rfl,a,_,3,_,rfl,rfl, .of lB,U_ (j:=3),x,y,c.same,l,us,c.fs,rfl,C1.ne,C1.tr,_,rfl,?_⟩;rw[←ep];refine bb (fun h5=>?_) (fun h5=>?_)
   ·refine GD ?_;cases e:c.pw (pr ps i)with
    |none=>rfl
    |some v=>rw[e]at h5;simp[bC]at h5
   have h5:(c.pw (pr ps i)).isSome=true:=by
    cases e:c.pw (pr ps i)with
    |none=>rw[e]at h5;simp[bC]at h5
    |some v=>rfl
   refine⟨_,rfl,_,_,rfl,rfl,_,rfl,?_⟩;refine bb (fun h6=>?_) (fun h6=>?_)
   rotate_left
   ·have h6:i=0:=by
     have:¬(0:Int)<0+(i:Int):=by simpa using h6
     lia
    refine gR ?_;exact⟨⟨_,_,_,rfl⟩,rfl,Hw.next (by simp[dD,h5,h6]at h5⊢;exact h5)⟩
   have h6:0<i:=by
    have:(0:Int)<0+(i:Int):=by simpa using h6
    lia
   obtain⟨j,rfl⟩:∃j,i=j+1:=⟨i-1,by lia⟩
   have e1:((0+((j+1:Nat):Int))-1)=((j:Nat):Int):=by lia
   obtain⟨t2,O8,F9⟩:=P1.Lo (show j<ps.length by lia);have DF:sM ws ((0+((j+1:Nat):Int))-1)=some (.ref t2):=by rw[e1];exact ar O8
   refine⟨_,rfl,_,rfl,_,rfl,_,_,rfl,rfl,w,_,_,_,rfl,rfl, .of hw,DF,t2,_,0,_,rfl,rfl, .of F9,U_ (j:=0),_,_,rfl,rfl,_,rfl,?_⟩;refine bb (fun h7=>?_) (fun h7=>?_)
   ·have h7:(pr ps (j+1)).1≤(pr ps j).1:=by simpa using h7
    refine jV ?_;refine bad ?_;have:stepOk (pr ps j) (pr ps (j+1))=false:=by simp[stepOk];lia
    simp[dD,this]
   have h7:¬(pr ps (j+1)).1≤(pr ps j).1:=by simpa using h7
   refine⟨_,rfl,_,rfl,_,rfl,_,_,rfl,rfl,w,_,_,_,rfl,rfl, .of hw,DF,t2,_,1,_,rfl,rfl, .of F9,U_ (j:=1),_,_,rfl,rfl,_,rfl,?_⟩;refine bb (fun h8=>?_) (fun h8=>?_)
   ·have h8:(pr ps (j+1)).2≤(pr ps j).2:=by simpa using h8
    refine bad ?_;have:stepOk (pr ps j) (pr ps (j+1))=false:=by simp[stepOk];lia
    simp[dD,this]
   have h8:¬(pr ps (j+1)).2≤(pr ps j).2:=by simpa using h8
   refine⟨⟨_,_,_,rfl⟩,rfl,Hw.next ?_⟩;have:stepOk (pr ps j) (pr ps (j+1))=true:=by simp[stepOk];lia
   simp[dD,h5,this]
  ·rintro σ H' ⟨⟨u1,u2,u3,rfl⟩,e0,Hw⟩;subst e0;have e:((ws.length:Nat):Int).toNat=ps.length:=by lia
   rw[e]at Hw;refine⟨_,rfl,aD K4,fun pn Nk=>⟨w,pn,_,rfl,rfl, .of (av.upd Nk _ _ hw), .of ae,?_⟩⟩;have hq:=q _ (av.upd (o:= .lst []) Nk);by_cases hz:ps=[]
   ·subst hz;have:ws=[]:=List.length_eq_zero_iff.mp IK;subst this;exact hq
   ·rw[mC hz Hw]at hq;have:ws≠[]:=fun z=>hz (by subst z;exact List.length_eq_zero_iff.mp IK.symm)
    have:(!ws.isEmpty)=true:=by simpa using this
    rw[this];exact hq
theorem fI:aL ["_law_case_here","_law_shut","_law_found","_law_i","_law_j","_law_gain"] ["_law_case_here","_law_shut"] (au iV):=gO
include T bH in
theorem vi{f:Addr}{fd:FuncData}(F:jU K "_law_spots" "_law_spots" iV f fd):a9 P w K mg base (cY P w) true 2 f fd ["_law_case_here","_law_shut"] uc:=by
 refine F.gK fI Yz gP
 ·obtain⟨a,s0,c,f,g,m,l,us,ws,sh,rfl,_⟩:=h;rfl
 ·obtain⟨a,s0,c,x1,x2,m,l,us,ws,sh,rfl,C1,hs,P1,hx,hy,q⟩:=h;have hu:=hr.units;have hu:(A.deeper (Α "_law_spots" (au iV) f f7)).units+1<cLine:=by lia
  have lx:(c.xs.map V.str).length=c.xs.length:=List.length_map ..;have ly:(c.ys.map V.str).length=c.ys.length:=List.length_map ..;refine⟨_,(U' (WX (2) fI.nd (ZL af)) (U' (ZJ (@eC _ _ _ _ _ _ (by exact rfl) T.fM (Im (ZM (aK K) T.cZ (Im (Xa WC ai)))) (YG)) (Xc (3) fI.nd) (R3 (ZJ (@eC _ _ _ _ _ _ (by exact rfl) T.fM (Im (ZM (aK K) T.cZ (Im (Xa WC ai)))) (YG)) (Xc (4) fI.nd) (U' (WX (5) fI.nd (Y6 bH aR (R4 (uj (pv 3)) (R4 (uj (pv 4)) (μ (uj ai)))))) (R3 (ZI (@PW.pt _ _ _ (@pw_and _ _ _ _ _ _ _ (Β (@oG _ _ _ _ _ (pv 5))) (@pw_and1 _ _ _ _ (@aT _ _ _ _ _ _ _ _ (nc K hu) (@dB _ _ _ _ _ (R4 (pv 3) (Im (pv 4)))) (pv 1) (by with_unfolding_all rfl))))) (R3 (ZH (Ε K PySem.F.slot_list_append PySem.F.type_list_append bR Y1 (Im (@dB _ _ _ _ _ (R4 (pv 3) (R4 (pv 4) (Im (pv 5))))))))) aS)))))) (R3 (Z0 Y1)))),?_⟩;refine⟨aD K4,fun b hb=>?_⟩;have C2:=C1.keep (av.upd (o:= .lst []) hb);refine⟨_,rfl,a,_,0,_,rfl,rfl, .of C2.ca,U_ (j:=0),x1,_,rfl, .inl (.of C2.fi),((c.xs.map V.str).length:Int),rfl,by lia,by lia,?_⟩;refine ft (fun i σ H'=>(∃u1 u2 u3,σ=[sR a,sR s0,sR b,u1,u2,u3])∧av H H'∧∃xs,H' b=some (.lst xs)∧D0 H' xs (kj c sh i)) ⟨⟨_,_,_,rfl⟩,Wt hb,[],ae, .nil⟩ ?_ ?_
  ·rintro i σ H' hi ⟨⟨u1,u2,u3,rfl⟩,s1,xs,j5,S1⟩;have hi:i<c.xs.length:=by rw[lx]at hi;lia
   have C3:=C1.keep s1;refine⟨_,rfl,a,_,1,_,rfl,rfl, .of C3.ca,U_ (j:=1),x2,_,rfl, .inl (.of C3.se),((c.ys.map V.str).length:Int),rfl,by lia,by lia,?_⟩;refine ft (fun j σ H'=>(∃u2 u3,σ=[sR a,sR s0,sR b,sI ((0+(i:Int))),u2,u3])∧av H H'∧∃xs,H' b=some (.lst xs)∧D0 H' xs (kj c sh i++lU c sh i j)) ⟨⟨_,_,rfl⟩,s1,xs,j5,by rw[lU,List.append_nil];exact S1⟩ ?_ ?_
   ·clear s1 j5 S1 xs u1 u2 u3 C3 H';rintro j σ H' hj ⟨⟨u2,u3,rfl⟩,s1,xs,j5,S1⟩;have hj:j<c.ys.length:=by rw[ly]at hj;lia
    have C3:=C1.keep s1;obtain⟨x,lE,uY⟩:=vZ (xs:=c.xs) (i:=0+(i:Int)) (by lia) (by lia);obtain⟨y,D1,A6⟩:=vZ (xs:=c.ys) (i:=0+(j:Int)) (by lia) (by lia);have ez:(0+(i:Int),0+(j:Int))=aQ (i,j):=Prod.ext (by simp[aQ]) (by simp[aQ]);have ep:c.pw (aQ (i,j))=cF c.same c.fs x y:=by rw[←ez];exact Case.pw_of lE D1
    have sl:=S1.1;have l1:=wg c sh i;have l2:=qR c sh i j;have l3:i*c.ys.length≤50*50:=Nat.mul_le_mul Aj hy;rw[List.length_append]at sl;refine⟨_,rfl,a,_,0,_,rfl,rfl, .of C3.ca,U_ (j:=0),_,rfl,x1,_,_,_,rfl,rfl, .of C3.fi,uY,_,rfl,a,_,1,_,rfl,rfl, .of C3.ca,U_ (j:=1),_,rfl,x2,_,_,_,rfl,rfl, .of C3.se,A6,_,rfl,a,_,2,_,rfl,rfl, .of C3.ca,U_ (j:=2),m,_,0,_,rfl,rfl, .of C3.nu,U_ (j:=0),_,rfl,a,_,3,_,rfl,rfl, .of C3.ca,U_ (j:=3),x,y,c.same,l,us,c.fs,rfl,C3.ne,C3.tr,?_⟩;rw[←ep];refine⟨_,rfl,_,rfl,?_⟩;cases e:c.pw ZN with
    |none=>
     refine bb (fun hh=>X7 hh (by simp[bC])) (fun _=>?_);refine gR ?_;refine⟨⟨_,_,rfl⟩,s1,xs,j5,?_⟩;have:oC c sh (aQ (i,j))=none:=by unfold oC;split;rfl;exact e
     rw[lU,this,List.append_nil];exact S1
    |some w=>
     refine bb (fun _=>?_) (fun hh=>X7 (by simp[bC]) hh);refine⟨_,rfl,_,rfl,aD K4,fun p hp=>?_⟩;have s2:=s1.trans (av.upd (o:= .tup [.int (0+(i:Int)), .int (0+(j:Int))]) hp);have xC:=av.upd (o:= .tup [.int (0+(i:Int)), .int (0+(j:Int))]) hp _ _ j5;have S2:=S1.cb (cJ.same (av.upd (o:= .tup [.int (0+(i:Int)), .int (0+(j:Int))]) hp));refine⟨_,rfl,p,s0,(0+(i:Int),0+(j:Int)),ws,sh,rfl,rfl,ae, .of (s2 _ _ hs),P1.same s2,_,rfl,?_⟩;generalize upd H' p (.tup [.int (0+(i:Int)), .int (0+(j:Int))])=H2 at s2 xC S2;rw[ez];refine bb (fun h1=>?_) (fun h1=>?_)
     ·have h1:aQ (i,j)∉sh:=by simpa using h1
      refine⟨_,rfl, .inl ⟨rfl,_, .of xC⟩,_,rfl,_,rfl,_,rfl,aD K4,fun t ht=>⟨b,xs,_,rfl,rfl,av.upd ht _ _ xC,aZ Aj,⟨_,_,rfl⟩,(s2.trans (Wt ht)).dU hb,_,ae,?_⟩⟩;have e2:oC c sh (aQ (i,j))=some w:=by unfold oC;rw[Dy h1];exact e
      rw[lU,e2,←List.append_assoc];have S3:D0 (upd H2 t (.tup [.int (0+(i:Int)), .int (0+(j:Int)), .int w])) (xs++[.ref t]) ((kj c sh i++lU c sh i j)++[(aQ (i,j),w)]):=(S2.cb (cJ.same (Wt ht))).snoc (by rw[←ez];exact ae);exact S3.cb (cJ.lst (av.upd ht _ _ xC))
     ·have h1:aQ (i,j)∈sh:=by simpa using h1
      refine⟨⟨_,_,rfl⟩,s2,xs,xC,?_⟩;have:oC c sh (aQ (i,j))=none:=by unfold oC;rw[Hz h1]
      rw[lU,this,List.append_nil];exact S2
   ·rintro σ H2 ⟨⟨u2,u3,rfl⟩,s2,C0,xC,S2⟩;rw[ly,Int.toNat_natCast]at S2;exact⟨⟨_,_,_,rfl⟩,s2,C0,xC,S2⟩
  ·rintro σ H2 ⟨⟨u1,u2,u3,rfl⟩,s2,C0,xC,S2⟩;rw[lx,Int.toNat_natCast]at S2;exact⟨_,rfl,q _ b _ s2 hb xC S2⟩
variable(gB:bN P w K mg base true 3 "_law_finding" ["_law_found"] (ud aA))
variable(ik:bN P w K mg base true 2 "_law_is_way" ["_law_case_here","_law_way"] tL)
variable(i5:bN P w K mg base true 2 "_law_worth" ["_law_case_here","_law_way"] qC)
variable(i6:bN P w K mg base true 2 "_law_spots" ["_law_case_here","_law_shut"] uc)
theorem cz:aL ["_law_case_here","_law_told","_law_held","_law_one","_law_pair_here","_law_i","_law_j","_law_gain"] ["_law_case_here","_law_told"] (au hZ):=gO
include T Fc gB ik i5 i6 in
theorem uo{f:Addr}{fd:FuncData}(F:jU K "_law_anchor" "_law_anchor" hZ f fd):a9 P w K mg base (cY P w) true 4 f fd ["_law_case_here","_law_told"] (qS aA):=by
 refine F.gK cz Yz gP
 ·obtain⟨a,t,c,f,g,m,l,us,ws,es,rfl,_⟩:=h;rfl
 ·obtain⟨b,t,c,x1,x2,m,l,us,vs,es,rfl,C3,ok,ht,FL,TD,q⟩:=h;have hu:=hr.units;have hu:(A.deeper (Α "_law_anchor" (au hZ) f f7)).units+1<cLine:=by lia
  have Wu:=ok.x;have Wv:=ok.y;have P7:=FL.1;refine⟨_,(X2 (WX (2) cz.nd ka) (X2 (ZJ (ZO K Wa) (Xc (3) cz.nd) (X2 (Γ (@PW.pt _ _ _ (ky (@dJ _ _ _ _ (ZY (Y6 gB aR (Im (pv 3))))) (ky (@dJ _ _ _ _ (ZY (Y6 ik aR (R4 WC (Im (Κ K (pv 3))))))) (@pw_or1 _ _ _ _ (Z7 mY (Κ K (pv 3)) (uj ai)))))) aS) (X2 (Γ (Z7 vH (Y6 i5 aR (R4 WC (Im (Κ K (pv 3))))) (Κ K (pv 3))) aS) (X2 (ZJ (ZO K (Κ K (pv 3))) (Xc (4) cz.nd) (X2 (Γ (Β (@qw _ _ _ _ _ hu (pv 4) (pv 2))) aS) (R3 (@kF _ _ _ _ _ _ _ _ _ hu Y1 (pv 4) eK ZW)))) (R3 (ZJ (ZO K (Κ K (pv 3))) (Xc (4) cz.nd) (R3 (Γ (@aT _ _ _ _ _ _ _ _ (nc K hu) (pv 4) (Κ K (pv 3)) (by with_unfolding_all rfl)) aS)))))))) (X2 (ZJ (ZO K (Y6 i6 aR (R4 WC (Im (ZL af))))) (Ν K (3) (ZG (Xc (5) cz.nd) (ZG (Xc (6) cz.nd) (ZG (Xc (7) cz.nd) eL)))) (R3 (Γ (@PW.pt _ _ _ (@pw_and _ _ _ _ _ _ _ (Z7 Bt (pv 7) (uj ai)) (@pw_and1 _ _ _ _ (Β (@vP _ _ _ _ _ hu (@dB _ _ _ _ _ (R4 (pv 5) (Im (pv 6)))) (pv 2)))))) aS))) (R3 (Z0 eK))))),?_⟩;refine⟨fun σ H4=>∃d,σ=[sR b,sR t,sR d,none,none,none,none,none]∧av H H4∧H d=none∧H4 d=some (.dT []),fun d hd=>⟨d,rfl,Wt hd,hd,ae⟩,?_⟩;rintro σ H4 ⟨D,rfl,s4,M8,hD⟩;refine⟨fun σ H5=>(∃u1 u2,σ=[sR b,sR t,sR D,u1,u2,none,none,none])∧av H H5∧∃kvs,H5 D=some (.dT kvs)∧m8 kvs (lV es es.length),?_,?_⟩
  ·refine⟨_,rfl,t,rfl,⟨_, .of (s4 _ _ ht)⟩,?_⟩;refine bU (xs:=vs) (fun k σ H5=>(∃u1 u2,σ=[sR b,sR t,sR D,u1,u2,none,none,none])∧av H H5∧∃kvs,H5 D=some (.dT kvs)∧kvs.length≤(lV es k).length∧m8 kvs (lV es k)) ⟨⟨_,_,rfl⟩,s4,[],hD,Nat.zero_le _,fun p=>by simp[s_,lV]⟩ ?_ ?_ ?_
   ·rintro k σ H5 _ ⟨_,s5,_⟩;exact .of (s5 _ _ ht)
   ·rintro k v σ H5 hv ⟨⟨u1,u2,rfl⟩,s5,kvs,GW,Tr,Nl⟩;have hk:k<es.length:=by rw[←P7];exact(WB hv).1
    have ek:es[k]?=some es[k]:=by simp[hk]
    generalize es[k]=d at ek;obtain⟨y,dy,wy,i7,pr,kO,iC,e1,F3⟩:=FL.2 k d ek;rw[hv]at e1;cases e1;have iG:=TD.iG d (Y7 ek);have FF:∀{H'},av H H'→we (fun _=>True) H' aA y d dy wy i7 pr kO iC:=fun{H'} s'=>F3.keep (fun b o _ e=>s' b o e) (cJ.same s') fun _ h=>h
    have iw:=Gj iG.way;have nd:=ki iG.qI;have pl:=TD.AX ok (k+1);rw[px ek,List.length_append]at pl;have wl:d.way.length≤2500:=by
     have h6:=len_sub d.way d.pairs (iG.way.up.imp fun{a b} h e=>by
      rw[e]at h;have:=h.1
      lia) iG.sub
     lia
    refine⟨fun σ H6=>σ=[sR b,sR t,sR D,sR y,u2,none,none,none]∧av H5 H6,?_,?_⟩
    ·have F:=FF s5;refine⟨_,rfl,y,_,d,dy,wy,i7,pr,kO,iC,rfl,F,by rw[iG.row,Iv],iG.way.ne,fun H6 s6=>⟨_,rfl,?_⟩⟩;refine gR ?_;have F:=FF (s5.trans s6);refine⟨_,rfl,_,rfl,y,aA,dy,_,_,rfl,F.ob,Fc.cl,Fc.way,qM d.worth wy i7 pr,b,wy,c,x1,x2,m,l,us,kO,d.way,rfl,C3.keep (s5.trans s6),F.hw,F.pw,by lia,fun H7 s7=>⟨_,rfl,?_⟩⟩;rw[iw];refine gR ?_;have IY:=s6.trans s7;have F:=FF (s5.trans IY);have C7:=C3.keep (s5.trans IY);have lB:=C7.ca;refine⟨_,rfl,y,aA,dy,_,_,rfl,F.ob,Fc.cl,Fc.worth,kg d.worth wy i7 pr,_,rfl,b,_,2,_,rfl,rfl, .of lB,U_ (j:=2),m,_,3,_,rfl,rfl, .of C7.nu,U_ (j:=3),_,_,rfl,rfl,_,rfl,?_⟩;have:=iG.least;exact bb (fun hh=>X7 hh Z_) (fun _=>⟨rfl,IY⟩)
    rintro σ H6 ⟨rfl,s6⟩;have s7:=s5.trans s6;have D7:=s6 _ _ GW;have F:=FF s7;refine⟨fun σ H7=>σ=[sR b,sR t,sR D,sR y,u2,none,none,none]∧H7=H6,?_,?_⟩
    ·refine⟨_,rfl,_,rfl,y,aA,dy,_,_,rfl,F.ob,Fc.cl,Fc.way,qM d.worth wy i7 pr,b,wy,c,x1,x2,m,l,us,kO,d.way,rfl,C3.keep s7,ok.num,F.hw,F.pw,by lia,iw,_,rfl,y,aA,dy,_,_,rfl,F.ob,Fc.cl,Fc.worth,kg d.worth wy i7 pr,rfl,_,rfl,?_⟩;rw[(Iu iw).2,iG.worth];exact bb (fun hh=>absurd hh K4) (fun _=>⟨rfl,rfl⟩)
    rintro σ H7 ⟨rfl,rfl⟩;refine⟨fun σ H8=>(∃u3,σ=[sR b,sR t,sR D,sR y,u3,none,none,none])∧av H H8∧∃kvs,H8 D=some (.dT kvs)∧kvs.length≤(lV es (k+1)).length∧m8 kvs (lV es (k+1)),?_,?_⟩
    ·refine⟨_,rfl,y,aA,dy,_,_,rfl,F.ob,Fc.cl,Fc.pairs,jh d.worth wy i7 pr,pr,rfl,⟨_, .of F.hp⟩,?_⟩;refine bU (xs:=iC) (fun i σ H8=>(∃u3,σ=[sR b,sR t,sR D,sR y,u3,none,none,none])∧av H H8∧∃kvs,H8 D=some (.dT kvs)∧kvs.length≤(lV es k).length+i∧m8 kvs (lV es k++d.pairs.take i)) ⟨⟨_,rfl⟩,s7,kvs,D7,by lia,by simpa using Nl⟩ ?_ ?_ ?_
     ·rintro i σ H8 _ ⟨_,s8,_⟩;exact .of (FF s8).hp
     ·rintro i v σ H8 hv ⟨⟨u,rfl⟩,s8,IZ,GX,P8,GF⟩;have hi:i<d.pairs.length:=by rw[←F3.pp.1];exact(WB hv).1
      have ei:d.pairs[i]?=some d.pairs[i]:=by simp[hi]
      generalize d.pairs[i]=g at ei;obtain⟨tt,g1,g2⟩:=F3.pp.2 i g ei;rw[hv]at g1;cases g1;have hn:g∉lV es k++d.pairs.take i:=fun z=>(List.mem_append.mp z).elim (TD.Iy ek (Y7 ei)) (IA nd ei)
      refine⟨fun σ H9=>σ=[sR b,sR t,sR D,sR y,sR tt,none,none,none]∧H9=H8,?_,?_⟩
      ·refine⟨_,rfl,_,rfl,D,_,rfl, .t (k:=ba g) GX (s8 _ _ g2),_,rfl,?_⟩;rw[GF];exact bb (fun hh=>X7 (by simpa using hh) hn) (fun _=>⟨rfl,rfl⟩)
      rintro σ H9 ⟨rfl,rfl⟩;refine⟨_,rfl,_,rfl,D,_,rfl, .t (k:=ba g) GX (s8 _ _ g2) (aZ Aj),⟨_,rfl⟩,s8.dU M8,_,ae,ZX (eZ _ _ _) (by lia),?_⟩;have:=Gm GF g (.bl true);rw[List.append_assoc]at this;rw[List.take_succ,ei];exact this
     ·rintro σ H8 ⟨UH,s8,IZ,GX,P8,GF⟩;rw[F3.pp.1]at P8;rw[F3.pp.1,List.take_length]at GF;rw[px ek];exact⟨UH,s8,IZ,GX,by rw[List.length_append];exact P8,GF⟩
    rintro σ H8 ⟨⟨u4,rfl⟩,s8,IZ,GX,P8,GF⟩;have F:=FF s8;refine⟨_,rfl,y,aA,dy,_,_,rfl,F.ob,Fc.cl,Fc.way,qM d.worth wy i7 pr,wy,rfl,⟨_, .of F.hw⟩,?_⟩;refine bU (xs:=kO) (fun i σ H9=>(∃u3,σ=[sR b,sR t,sR D,sR y,u3,none,none,none])∧H9=H8) ⟨⟨_,rfl⟩,rfl⟩ ?_ ?_ ?_
    ·rintro i σ H9 _ ⟨_,rfl⟩;exact .of F.hw
    ·rintro i v σ H9 hv ⟨⟨u,rfl⟩,rfl⟩;have hi:i<d.way.length:=by rw[←F.pw.1];exact(WB hv).1
     have ei:d.way[i]?=some d.way[i]:=by simp[hi]
     generalize d.way[i]=g at ei;obtain⟨tt,g1,g2⟩:=F.pw.2 i g ei;rw[hv]at g1;cases g1;refine⟨_,rfl,_,rfl,y,aA,dy,_,_,rfl,F.ob,Fc.cl,Fc.pairs,jh d.worth wy i7 pr,tt,pr,g,iC,d.pairs,rfl,rfl,g2, .of F.hp,F.pp,_,rfl,?_⟩;have:=iG.sub g (Y7 ei);exact bb (fun hh=>X7 hh (by simp[this])) (fun _=>⟨⟨_,rfl⟩,rfl⟩)
    ·rintro σ H9 ⟨⟨u,rfl⟩,rfl⟩;exact⟨⟨_,_,rfl⟩,s8,IZ,GX,P8,GF⟩
   ·rintro σ H5 ⟨UH,s5,kvs,GW,_,Nl⟩;rw[P7]at Nl;exact⟨UH,s5,kvs,GW,Nl⟩
  rintro σ H5 ⟨⟨u1,u2,rfl⟩,s5,kvs,GW,Nl⟩;refine⟨fun σ H4=>av H H4,?_,fun σ H4 s4=>q _ s4⟩;refine⟨_,rfl,aD K4,fun e he=>?_⟩;have s6:=s5.trans (av.upd (o:= .lst []) he);refine⟨b,e,c,x1,x2,m,l,us,[],[],rfl,C3.keep s6,ae, .nil,by lia,by lia,fun H7 r ws s7 rM h7 S7=>⟨r,rfl,⟨_, .of h7⟩,?_⟩⟩;have Ww:=s6.trans s7;have D7:=s7 _ _ (av.upd (o:= .lst []) he _ _ GW);refine bU (xs:=ws) (fun k σ H8=>(∃v1 v2 v3,σ=[sR b,sR t,sR D,u1,u2,v1,v2,v3])∧av H7 H8) ⟨⟨_,_,_,rfl⟩, .refl _⟩ ?_ ?_ (fun _ _ ⟨_,s8⟩=>Ww.trans s8)
  ·rintro k σ H8 _ ⟨_,s8⟩;exact .of (s8 _ _ h7)
  ·rintro k v σ H8 hv ⟨⟨v1,v2,v3,rfl⟩,s8⟩;have hk:k<(kj c [] c.xs.length).length:=by rw[←S7.1];exact(WB hv).1
   have ek:(kj c [] c.xs.length)[k]?=some (kj c [] c.xs.length)[k]:=by simp[hk]
   generalize (kj c [] c.xs.length)[k]=x at ek;obtain⟨tt,k1,k2⟩:=S7.2 k x ek;rw[hv]at k1;cases k1;have Zp:=wk (Y7 ek);have C8:=C3.keep (Ww.trans s8);have lB:=C8.ca;refine⟨tt,_,rfl, .of (s8 _ _ k2),rfl,_,_,rfl,_,_,rfl,_,_,rfl,rfl,?_⟩;refine⟨_,rfl,_,rfl,b,_,2,_,rfl,rfl, .of lB,U_ (j:=2),m,_,3,_,rfl,rfl, .of C8.nu,U_ (j:=3),_,_,rfl,rfl,_,rfl,?_⟩;refine bb (fun h1=>?_) (fun _=>?_)
   ·have h1:c.least≤x.2:=by simpa using h1
    refine⟨_,rfl,_,rfl,aD K4,fun p hp=>⟨_,rfl,D,_,rfl, .t (k:=ba x.1) (av.upd hp _ _ (s8 _ _ D7)) ae,_,rfl,?_⟩⟩;rw[Nl];obtain⟨d,hd,hq⟩:=TD.pair Zp h1;refine bb (fun hh=>X7 hh (by simp;exact Mg hd hq)) (fun _=>?_);exact⟨⟨_,_,_,rfl⟩,s8.trans (Wt hp)⟩
   ·refine gR ?_;exact⟨⟨_,_,_,rfl⟩,s8⟩
variable(gY:bN P w K mg base true 8 "compare" ["first","second","terms"] (xD aN aA kn))
variable(d_:bN P w K mg base true 7 "_law_terms" ["_law_case_here"] (nU aN))
theorem vj:aL ["_law_case_here"] ["_law_case_here"] (au kZ):=gO
include T gY d_ in
theorem vk{f:Addr}{fd:FuncData}(F:jU K "_law_asked" "_law_asked" kZ f fd):a9 P w K mg base (cY P w) true 9 f fd ["_law_case_here"] (xG aA):=by
 refine F.gK vj Yz gP
 ·obtain⟨a,c,f,g,m,l,us,most,rfl,_⟩:=h;rfl
 ·obtain⟨a,c,x1,x2,m,l,us,most,rfl,C1,ok,hm,uL,q⟩:=h;refine⟨_,(R3 (Z0 (Y6 gY aR (R4 (γ (eE K) (by exact rfl) T.jW PyProof.Rows.Boot.«list» (Im (Xa WC ai))) (R4 (γ (eE K) (by exact rfl) T.jW PyProof.Rows.Boot.«list» (Im (Xa WC ai))) (Im (Y6 d_ aR (Im WC)))))))),?_⟩;have lB:=C1.ca;refine⟨_,rfl,a,_,0,_,rfl,rfl, .of lB,U_ (j:=0),x1,_,rfl, .inl (.of C1.fi),fun y1 D1=>?_⟩;have s1:=av.upd (o:= .lst (c.xs.map V.str)) D1;have UI:=s1 _ _ lB;refine⟨_,rfl,a,_,1,_,rfl,rfl, .of UI,U_ (j:=1),x2,_,rfl, .inl (.of (s1 _ _ C1.se)),fun y2 A6=>?_⟩;have s2:=s1.trans (av.upd (o:= .lst (c.ys.map V.str)) A6);refine⟨_,rfl,a,c,x1,x2,m,l,us,most,rfl,C1.keep s2,ok,fun H3 t s3 TF=>?_⟩;have Ni:=s2.trans s3;have Wu:=ok.x;have Wv:=ok.y;refine⟨y1,y2,t,c,rfl,s3 _ _ (av.upd A6 _ _ ae),s3 _ _ ae,TF.tf,by lia,by lia,fun es TD H4 r vs s4 hr h4 FL=>?_,fun ds f2 RC hl H4 s4=>?_⟩
  ·exact q es TD H4 r vs (Ni.trans s4) (Ni.free hr) h4 (FL.keep (fun _ _ _ h=>h) (fun _ _ h=>h) fun b hb=>trivial)
  ·have:=uL _ _ RC
   lia
variable(gC:dW P w K mg base true 7 aN "turned" ["self"] (qA aN))
variable(jK:bN P w K mg base true 3 "_law_case" ["_law_script","_law_most"] (xi K))
variable(jL:bN P w K mg base true 2 "_law_calm" ["_law_case_here"] xE)
variable(gD:bN P w K mg base true 9 "_law_asked" ["_law_case_here"] (xG aA))
variable(fJ:bN P w K mg base true 4 "_law_anchor" ["_law_case_here","_law_told"] (qS aA))
theorem jo:aL ["_law_script","_law_case_here","_law_n","_law_near_here","_law_other","_law_told","_law_back","_law_due","_law_found","_law_k"] ["_law_script"] (au lu):=gO
include T Tc Fc dO a7 gY d_ gC jK jL gD fJ in
theorem Mx{f:Addr}{fd:FuncData}(F:jU K "law" "law" lu f fd):a9 P w K mg base (cY P w) true 10 f fd ["_law_script"] (BH K):=by
 refine F.gK jo Yz gP
 ·obtain⟨a,ns,rfl,_⟩:=h;rfl
 ·obtain⟨a,ns,rfl,hS,hlen,q⟩:=h;have hu:=hr.units;have Wx:(A.deeper (Α "law" (au lu) f f7)).units+6<cLine:=by lia
  have hu:(A.deeper (Α "law" (au lu) f f7)).units+1<cLine:=by lia
  have J1:=Nat.lt_of_succ_lt hu;refine⟨_,(X2 (WX (1) jo.nd (Y6 jL aR (Im (Y6 jK aR (R4 WC (Im (Xa (ZL (R4 ai (R4 ai (R4 ai (ν ai))))) (RU bM (Υ a7 aR) ai)))))))) (X2 (WX (2) jo.nd (Xa Wa ai)) (X2 (@kH _ _ _ _ _ _ _ _ _ _ _ _ _ _ _ (3) _ _ (by exact rfl) jo.nd ZW (by exact rfl) (show bg ["_law_script","_law_case_here","_law_n","_law_near_here","_law_other","_law_told","_law_back","_law_due","_law_found","_law_k"] (au lu) _ ["_law_x","_law_y","_law_price"] [] []from Ck) (ZO K (Xa Wa ai)) (fun _ _ _ _ _=>(Ν K (3) (ZG (Xc (0) (show(["_law_x","_law_y","_law_price"]:List Str).Nodup by decide+kernel)) (ZG (Xc (1) (show(["_law_x","_law_y","_law_price"]:List Str).Nodup by decide+kernel)) (ZG (Xc (2) (show(["_law_x","_law_y","_law_price"]:List Str).Nodup by decide+kernel)) eL))))) (fun _ _ _ _ _=>fz) (fun _ _ _ _ _=>(@dB _ _ _ _ _ (R4 Wa (Ψ WC)))) (YG) (by intro _;rfl)) (X2 (WX (4) jo.nd (ZL (R4 (Xa Wa ai) (R4 (Xa Wa ai) (Ρ (ZL (R4 (Xa Y1 ai) (R4 (Xa Y1 ai) (R4 (Xa Y1 ai) (Im (Xa Y1 ai))))))))))) (X2 (WX (5) jo.nd (Y6 gD aR (Im Wa))) (X2 (ZI (Z7 jb (RU bM (RU dF (Υ a7 aR) ai) ai) ai) (R3 (WX (6) jo.nd (Y6 gD aR (Im (pv 4))))) (R3 (WX (6) jo.nd (Y6 gY aR (R4 (γ (eE K) (by exact rfl) T.jW PyProof.Rows.Boot.«list» (Im (Xa Wa ai))) (R4 (γ (eE K) (by exact rfl) T.jW PyProof.Rows.Boot.«list» (Im (Xa Wa ai))) (Im (@vX _ _ _ _ _ _ _ _ _ _ _ _ _ (Y6 d_ aR (Im Wa)) gC (hr.mono ZV) aR (YG))))))))) (X2 (Γ (@PW.pt _ _ _ (ky (@dJ _ _ _ _ (ZY (Η (gS K) T.dX PyProof.Rows.Boot.«isinstance» (R4 (pv 5) (Im ο))))) (@pw_or1 _ _ _ _ (@dJ _ _ _ _ (ZY (Η (gS K) T.dX PyProof.Rows.Boot.«isinstance» (R4 (pv 6) (Im ο)))))))) aS) (X2 (Γ (@PW.pt _ _ _ (ky (@dJ _ _ _ _ (ZY (Y6 fJ aR (R4 Wa (Im (pv 5)))))) (ky (@dJ _ _ _ _ (ZY (Y6 fJ aR (R4 (pv 4) (Im (pv 6)))))) (@pw_or1 _ _ _ _ (Z7 vH (ZM (aK K) T.cZ (Im (pv 5))) (ZM (aK K) T.cZ (Im (pv 6)))))))) aS) (X2 (WX (7) jo.nd (Η (ue K Wx) dO PyProof.Rows.Boot.«sorted» (Im (@jy _ _ _ _ _ _ _ _ _ _ _ _ _ _ (by exact rfl) (show bg ["_law_script","_law_case_here","_law_n","_law_near_here","_law_other","_law_told","_law_back","_law_due","_law_found","_law_k"] (au lu) _ ["_law_one"] [] []from Ck) (ZO K (pv 5)) (fun _ _ _ _ _=>(Xc (0) (show(["_law_one"]:List Str).Nodup by decide+kernel))) (fun _ _ _ _ _=>fz) (fun _ _ _ _ _=>(@dB _ _ _ _ _ (R4 Z1 (Im (Η (nN K) dO PyProof.Rows.Boot.«sorted» (Im Z1)))))) (by intro _;rfl))))) (X2 (WX (8) jo.nd (Η (ue K Wx) dO PyProof.Rows.Boot.«sorted» (Im (@jy _ _ _ _ _ _ _ _ _ _ _ _ _ _ (by exact rfl) (show bg ["_law_script","_law_case_here","_law_n","_law_near_here","_law_other","_law_told","_law_back","_law_due","_law_found","_law_k"] (au lu) _ ["_law_one"] [] []from Ck) (ZO K (pv 6)) (fun _ _ _ _ _=>(Xc (0) (show(["_law_one"]:List Str).Nodup by decide+kernel))) (fun _ _ _ _ _=>fz) (fun _ _ _ _ _=>(@dB _ _ _ _ _ (R4 Z1 (Im (Η (nN K) dO PyProof.Rows.Boot.«sorted» (Im (@jy _ _ _ _ _ _ _ _ _ _ _ _ _ _ (by exact rfl) (show bg ["_law_one"] _ _ ["_law_i","_law_j"] [] []from⟨rfl,by decide+kernel,by decide+kernel,by decide+kernel,rfl,rfl,of_decide_eq_true (by kernel_rfl),of_decide_eq_true (by kernel_rfl),by decide+kernel⟩) (ZO K Z1) (fun _ _ _ _ _=>(Ν K (2) (ZG (Xc (0) (show(["_law_i","_law_j"]:List Str).Nodup by decide+kernel)) (ZG (Xc (1) (show(["_law_i","_law_j"]:List Str).Nodup by decide+kernel)) eL)))) (fun _ _ _ _ _=>fz) (fun _ _ _ _ _=>(@dB _ _ _ _ _ (R4 Wa (Im WC)))) (by intro _;rfl)))))))) (by intro _;rfl))))) (X2 (ZJ (@eC _ _ _ _ _ _ (by exact rfl) T.fM (Im (ZM (aK K) T.cZ (Im (pv 7)))) (YG)) (Xc (9) jo.nd) (R3 (Γ (@PW.pt _ _ _ (ky (Z7 vH (ZQ (bI K) (Xa (pv 7) (pv 9)) ai) (ZQ (bI K) (Xa (pv 8) (pv 9)) ai)) (@pw_or1 _ _ _ _ (Z7 (AY K hu) (ZQ (bI K) (Xa (pv 7) (pv 9)) ai) (ZQ (bI K) (Xa (pv 8) (pv 9)) ai))))) aS))) (R3 (Z0 eK))))))))))))),?_⟩;refine⟨fun σ H1=>∃(b:Addr)(c c0:Case)(x1 x2 m l:Addr)(us:List V),σ=[sR a,sR b,none,none,none,none,none,none,none,none]∧av H H1∧jA H1 b c x1 x2 m l us∧eI 40 c∧(∀q,(c.pw q).isSome=(c0.pw q).isSome)∧((bL c0:Int)-1)*c.same+1≤c.least,?_,?_⟩
  ·obtain⟨mo,Cn,hm⟩:=int_at [12,40,12,12,12] (i:=cell ns 12%5) (by lia) (show cell ns 12%5<(5:Int) by lia);have GV:mo=12∨mo=40:=by simp at Cn;lia
   refine⟨_,rfl,aD K4,fun p hp=>⟨_,rfl,a,ns,12,rfl,(Wt hp).seq hS,Sz,_,_,rfl,rfl,(show(0:Int)<5 by decide),p,_,_,_,rfl,rfl, .of ae,by simpa using hm,a,ns,mo,rfl,(Wt hp).seq hS,by lia,by lia,fun H1 b c x1 x2 m l us s1 hb C1 ok=>?_⟩⟩;have hx:=ok.x;have hy:=ok.y;have UJ:eI 60 c:=⟨by lia,by lia,ok.good,ok.same,ok.out,ok.into,ok.least⟩
   have UK:eI 40 c:=⟨by lia,by lia,ok.good,ok.same,ok.out,ok.into,ok.least⟩
   exact⟨b,c,x1,x2,m,l,us,rfl,C1,UJ,fun H2 b2 m2 s2 xC vR C2=>⟨b2,m_ c,c,x1,x2,m2,l,us,rfl,((Wt hp).trans s1).trans s2,C2,Cf UK Aj,aaH c,A0 c⟩⟩
  rintro σ H1 ⟨b,c,c0,x1,x2,m,l,us,rfl,s1,C1,ok,QO,GO⟩;have uL:=Gv ok GA ⟨QO,GO⟩;have P_:=Gv (c:=Ci c) (Cj ok) kP ⟨fun q=>by rw[JU];exact QO _,GO⟩;have Qa:eI 50 c:=⟨ZX ok.x Aj,ZX ok.y Aj,ok.good,ok.same,ok.out,ok.into,ok.least⟩
  have lB:=C1.ca;refine⟨fun σ H2=>σ=[sR a,sR b,sR m,none,none,none,none,none,none,none]∧H2=H1,⟨_,rfl,b,_,2,_,rfl,rfl, .of lB,U_ (j:=2),rfl,rfl⟩,?_⟩;rintro σ H1 ⟨rfl,rfl⟩;have A7:=kI ok.good;refine⟨fun σ H2=>∃(L:Addr)(ys:List V),σ=[sR a,sR b,sR m,sR L,none,none,none,none,none,none]∧av H1 H2∧H2 L=some (.lst ys)∧cP H2 ys (c.fs.map sw),?_,?_⟩
  ·refine⟨_,rfl,b,_,3,_,rfl,rfl, .of lB,U_ (j:=3),l,rfl,⟨_, .of C1.ne⟩,fun D hD=>?_⟩;refine eD (xs:=us) (fun i ys bj H'=>(∃u1 u2 u3,bj=[u1,u2,u3])∧cP H' ys ((c.fs.take i).map sw)∧H' D=some (.lst ys)∧av H1 H') ⟨⟨_,_,_,rfl⟩, .nil,ae,Wt hD⟩ ?_ ?_ ?_
   ·rintro i ys bj H' _ ⟨_,_,_,s2⟩;exact .of (s2 _ _ C1.ne)
   ·rintro i v ys bj H' hv ⟨⟨u1,u2,u3,rfl⟩,Ty,i_,s2⟩;have hi:i<c.fs.length:=by rw[←C1.tr.1];exact(WB hv).1
    have hf:c.fs[i]?=some c.fs[i]:=by simp[hi]
    generalize c.fs[i]=f0 at hf;obtain⟨t0,h1,h2⟩:=C1.tr.2 i f0 hf;rw[hv]at h1;cases h1;obtain⟨x,y,p⟩:=f0;refine⟨t0,_,rfl, .of (s2 _ _ h2),rfl,_,_,rfl,_,_,rfl,_,_,rfl,rfl,?_⟩;refine my ?_;refine⟨_,rfl,_,rfl,_,rfl,aD K4,fun p1 uS=>⟨av.upd uS _ _ i_,aZ ?_,⟨_,_,_,rfl⟩,?_,ae,(s2.trans (Wt uS)).dU hD⟩⟩
    ·have:=Ty.1;rw[List.length_map,List.length_take]at this;have:=A7.1
     lia
    ·have e:(c.fs.take (i+1)).map sw=(c.fs.take i).map sw++[sw (x,y,p)]:=by rw[List.take_succ,hf,List.map_append];rfl
     rw[e];have T3:cP (upd H' p1 (.tup (ES (sw (x,y,p))))) (ys++[.ref p1]) ((c.fs.take i).map sw++[sw (x,y,p)]):=(Ty.same (Wt uS)).snoc ae;exact T3.cb (cJ.lst (av.upd uS _ _ i_))
   ·rintro ys bj H' ⟨_,Ty,i_,s2⟩;have el:c.fs.take us.length=c.fs:=by rw[C1.tr.1,List.take_length]
    rw[el]at Ty;exact⟨D,ys,rfl,s2,i_,Ty⟩
  rintro σ H2 ⟨L,ys,rfl,s2,Zq,T2⟩;have C2:=C1.keep s2;have IX:=C2.ca;have I0:=C2.nu;refine⟨fun σ H3=>∃(g m2:Addr),σ=[sR a,sR b,sR m,sR L,sR g,none,none,none,none,none]∧av H2 H3∧jA H3 g (Ci c) x2 x1 m2 L ys,?_,?_⟩
  ·refine⟨_,rfl,b,_,1,_,rfl,rfl, .of IX,U_ (j:=1),_,rfl,b,_,0,_,rfl,rfl, .of IX,U_ (j:=0),_,rfl,m,_,0,_,rfl,rfl, .of I0,U_ (j:=0),_,rfl,m,_,2,_,rfl,rfl, .of I0,U_ (j:=2),_,rfl,m,_,1,_,rfl,rfl, .of I0,U_ (j:=1),_,rfl,m,_,3,_,rfl,rfl, .of I0,U_ (j:=3),aD K4,fun m' Am=>⟨_,rfl,aD K4,fun g hg=>?_⟩⟩;have sm:=av.upd (o:= .lst [.int c.same, .int c.into, .int c.out, .int c.least]) Am;have sb:=av.upd (o:= .lst [.ref x2, .ref x1, .ref m', .ref L]) hg;have sA:=sm.trans sb;exact⟨g,m',rfl,sA,ae,sA _ _ C2.se,sA _ _ C2.fi,sb _ _ ae,sA _ _ Zq,T2.same sA⟩
  rintro σ H3 ⟨g,m2,rfl,s3,G3⟩;have C3:=C2.keep s3;refine⟨fun σ H4=>∃(t:Addr)(vs:List V)(es:List Fd),σ=[sR a,sR b,sR m,sR L,sR g,sR t,none,none,none,none]∧av H3 H4∧H4 t=some (.lst vs)∧cx (fun _=>True) H4 aA vs es∧bK (iF c []) c.out c.into c.least es,?_,?_⟩
  ·exact⟨_,rfl,b,c,x1,x2,m,l,us,40,rfl,C3,ok,by lia,uL,fun es TD H4 t vs s4 _ h4 FL=>⟨t,vs,es,rfl,s4,h4,FL,TD⟩⟩
  rintro σ H4 ⟨t,vs,es,rfl,s4,ht,FL,TD⟩;have C4:=C3.keep s4;have G4:=G3.keep s4;have UG:=((((s1.trans s2).trans s3).trans s4)).seq hS;refine⟨fun σ H5=>∃(r:Addr)(ws:List V)(qi:List Fd),σ=[sR a,sR b,sR m,sR L,sR g,sR t,sR r,none,none,none]∧av H4 H5∧H5 r=some (.lst ws)∧cx (fun _=>True) H5 aA ws qi∧bK (iF (Ci c) []) (Ci c).out (Ci c).into (Ci c).least qi,?_,?_⟩
  ·refine⟨_,rfl,a,ns,12,rfl,UG,Sz,_,_,rfl,rfl,⟨Sz,Sz⟩,_,_,rfl,rfl,(show(0:Int)<2 by decide),rfl,_,rfl,?_⟩;refine bb (fun _=>?_) (fun _=>?_)
   ·exact⟨_,rfl,g,Ci c,x2,x1,m2,L,ys,40,rfl,G4,Cj ok,by lia,P_,fun es TD H5 t vs s5 _ h5 FL=>⟨t,vs,es,rfl,s5,h5,FL,TD⟩⟩
   ·have Qb:=C4.ca;refine⟨_,rfl,b,_,1,_,rfl,rfl, .of Qb,U_ (j:=1),x2,_,rfl, .inl (.of C4.se),fun y1 D1=>?_⟩;have s5:=av.upd (o:= .lst (c.ys.map V.str)) D1;have UL:=s5 _ _ Qb;refine⟨_,rfl,b,_,0,_,rfl,rfl, .of UL,U_ (j:=0),x1,_,rfl, .inl (.of (s5 _ _ C4.fi)),fun y2 A6=>?_⟩;have s6:=s5.trans (av.upd (o:= .lst (c.xs.map V.str)) A6);refine⟨_,rfl,b,c,x1,x2,m,l,us,40,rfl,C4.keep s6,ok,fun H7 tt s7 TF=>?_⟩;obtain⟨n,dx,l2,d2,zs,TA,bS,e1,e2,e3,e4⟩:=TF;have IY:=s6.trans s7;refine⟨tt,dx,_,rfl,TA.ob,EY _ _ _,tt,n,c.fs,dx,l2,d2,zs,rfl,TA,bS,ok.good,fun H8 t2 CZ l3 d3 Zr s8 T8=>?_⟩;have Wz:=s7.trans s8;have Zs:=IY.trans s8;have Wu:=ok.x;have Wv:=ok.y;refine⟨y1,y2,t2,Ci c,rfl,Wz _ _ (av.upd A6 _ _ ae),Wz _ _ ae,⟨yT n,CZ,l3,d3,Zr,T8,e1,e3,e2,e4⟩,by show c.ys.length≤_;lia,by show c.xs.length≤_;lia,fun es TD H9 r vs s9 hr h9 FL=>?_,fun ds f2 RC hl H9 s9=>?_⟩
    ·exact⟨r,vs,es,rfl,Zs.trans s9,h9,FL.keep (fun _ _ _ h=>h) (fun _ _ h=>h) (fun b hb=>trivial),TD⟩
    ·have:=P_ _ _ RC
     lia
  rintro σ H5 ⟨r,ws,qi,rfl,s5,hr,FR,TR⟩;have Rr:=s5 _ _ ht;have UM:=FL.keep (P':=fun _=>True) (fun b o _ e=>s5 b o e) (cJ.same s5) fun _ h=>h
  refine⟨fun σ H6=>σ=[sR a,sR b,sR m,sR L,sR g,sR t,sR r,none,none,none]∧H6=H5,?_,?_⟩
  ·refine⟨_,rfl,_,_,_,true,_,rfl,rfl, .lst Rr,rfl,_,rfl,?_⟩;refine gR ?_;refine⟨_,rfl,_,_,_,true,_,rfl,rfl, .lst hr,rfl,_,rfl,?_⟩;exact gR ⟨rfl,rfl⟩
  rintro σ H5 ⟨rfl,rfl⟩;have mv:=TD.moved (φ:=xH) (ψ:=xH) (g:=iF (Ci c) []) (xI c.out c.into) (xI c.into c.out) (JV c) TR;have WA:=TR.moved (φ:=xH) (ψ:=xH) (g:=iF c []) (xI c.into c.out) (xI c.out c.into) (fun q=>(JV c (xH q)).symm) TD;have aau:=wm TD TR mv kP;have aan:=wm TR TD WA kP;have P7:=UM.1;have Jp:=FR.1;have aap:=TD.uL;have aak:=TR.uL;refine⟨fun σ H6=>σ=[sR a,sR b,sR m,sR L,sR g,sR t,sR r,none,none,none]∧av H5 H6,?_,?_⟩
  ·refine⟨_,rfl,_,rfl,b,t,c,x1,x2,m,l,us,vs,es,rfl,C4.keep s5,Qa,Rr,UM,TD,fun H6 s6=>⟨_,rfl,?_⟩⟩;refine gR ?_;refine⟨_,rfl,_,rfl,g,r,Ci c,x2,x1,m2,L,ys,ws,qi,rfl,G4.keep (s5.trans s6),Cj Qa,s6 _ _ hr,FR.keep (fun b o _ e=>s6 b o e) (cJ.same s6) (fun _ h=>h),TR,fun H7 s7=>⟨_,rfl,?_⟩⟩;refine gR ?_;have IY:=s6.trans s7;refine⟨_,rfl,t,_,rfl, .inl (.of (IY _ _ Rr)),_,rfl,r,_,rfl, .inl (.of (IY _ _ hr)),rfl,_,rfl,?_⟩;exact bb (fun hh=>X7 hh Z_) (fun _=>⟨rfl,IY⟩)
  rintro σ H6 ⟨rfl,s6⟩;have WD:=s6 _ _ Rr;have aaK:=s6 _ _ hr;have Zw:=UM.keep (P':=fun _=>True) (fun b o _ e=>s6 b o e) (cJ.same s6) fun _ h=>h
  have Zx:=FR.keep (P':=fun _=>True) (fun b o _ e=>s6 b o e) (cJ.same s6) fun _ h=>h
  refine⟨fun σ H7=>∃(S:Addr)(zs:List V)(ks ls:List Ky),σ=[sR a,sR b,sR m,sR L,sR g,sR t,sR r,sR S,none,none]∧av H6 H7∧H7 S=some (.lst zs)∧zp H7 zs ls∧iL id es ks∧ls.Perm ks∧ls.Pairwise fun a b=>rH (DB a) (DB b)=true,?_,?_⟩
  ·refine⟨_,rfl,t,rfl,⟨_, .of WD⟩,fun D hD=>?_⟩;refine eD (xs:=vs) (fun i ys bj H7=>(∃u,bj=[u])∧H7 D=some (.lst ys)∧av H6 H7∧∃ks,lr H7 D ys ks∧iL id (es.take i) ks) ⟨⟨_,rfl⟩,ae,Wt hD,[], .nil, .nil⟩ ?_ ?_ ?_
   ·rintro i ys bj H7 _ ⟨_,_,s7,_⟩;exact .of (s7 _ _ WD)
   ·rintro i v ys bj H7 hv ⟨⟨u,rfl⟩,D7,s7,ks,DN,KO⟩;have hi:i<es.length:=by rw[←P7];exact(WB hv).1
    have ei:es[i]?=some es[i]:=by simp[hi]
    generalize es[i]=d at ei;obtain⟨y,dy,wy,i7,pr,kO,iC,e1,F6⟩:=Zw.2 i d ei;rw[hv]at e1;cases e1;have F:=F6.keep (P':=fun _=>True) (fun b o _ e=>s7 b o e) (cJ.same s7) fun _ h=>h
    have iG:=TD.iG d (Y7 ei);have pl:=TD.AX ok (i+1);rw[px ei,List.length_append]at pl;have et:es.take (i+1)=es.take i++[d]:=by rw[List.take_succ,ei];rfl
    have dl:=DN.1;have kl:=KO.1;rw[List.length_take]at kl;refine nG ?_;refine⟨_,rfl,y,aA,dy,_,_,rfl,F.ob,Fc.cl,Fc.worth,kg d.worth wy i7 pr,_,rfl,y,aA,dy,_,_,rfl,F.ob,Fc.cl,Fc.pairs,jh d.worth wy i7 pr,pr,iC,d.pairs,rfl, .of F.hp,F.pp,ki iG.qI,by lia,fun z DE qs hz P2 perm pw=>⟨aD K4,fun p hp=>?_⟩⟩;have sz:=av.upd (o:= .lst DE) hz;have sp:=av.upd (o:= .tup [.int d.worth, .ref z]) hp;have nz:z≠D:=fun e=>by rw[e,D7]at hz;cases hz
    have sA:=sz.trans sp;refine⟨sA _ _ D7,aZ Aj,⟨_,rfl⟩,ae,(s7.trans sA).dU hD,ks++[(d.worth,qs)],?_,?_⟩
    ·have D2:=(DN.keep (fun b o _ e=>sA b o e) (cJ.same sA)).snoc (x:=(d.worth,qs)) (t:=p) (l:=z) (us:=DE) ae (sp _ _ ae) (P2.same sA) nz;exact D2.keep (fun b o hb e=>by rw[ak hb];exact e) (cJ.lst (sA _ _ D7))
    ·rw[et];exact KO.snoc ⟨rfl,pw,fun q=>perm.mem_iff⟩
   ·rintro ys bj H7 ⟨_,D7,s7,ks,DN,KO⟩;rw[P7,List.take_length]at KO;obtain⟨f1,f2⟩:=KO.Gy TD GA;have kl:=KO.1;exact⟨D,ys,ks,rfl, .of D7,DN.Pf,f1,f2,by lia,fun S zs qs hS DU perm pw=>⟨S,zs,ks,qs,rfl,s7.trans (Wt hS),ae,DU.keep (Wt hS),KO,perm,pw⟩⟩
  rintro σ H7 ⟨S,zs,ks,ls,rfl,s7,Zy,DU,KO,pm,qI⟩;have WE:=s7 _ _ aaK;have Zz:=Zx.keep (P':=fun _=>True) (fun b o _ e=>s7 b o e) (cJ.same s7) fun _ h=>h
  refine⟨fun σ H8=>∃(U:Addr)(Qc:List V),σ=[sR a,sR b,sR m,sR L,sR g,sR t,sR r,sR S,sR U,none]∧av H7 H8∧H8 U=some (.lst Qc)∧zp H8 Qc ls,?_,?_⟩
  ·refine⟨_,rfl,r,rfl,⟨_, .of WE⟩,fun D hD=>?_⟩;refine eD (xs:=ws) (fun i ys bj H8=>(∃u,bj=[u])∧H8 D=some (.lst ys)∧av H7 H8∧∃ks,lr H8 D ys ks∧iL xH (qi.take i) ks) ⟨⟨_,rfl⟩,ae,Wt hD,[], .nil, .nil⟩ ?_ ?_ ?_
   ·rintro i ys bj H8 _ ⟨_,_,s8,_⟩;exact .of (s8 _ _ WE)
   ·rintro i v ys bj H8 hv ⟨⟨u,rfl⟩,GX,s8,M7,DN,My⟩;have hi:i<qi.length:=by rw[←Jp];exact(WB hv).1
    have ei:qi[i]?=some qi[i]:=by simp[hi]
    generalize qi[i]=d at ei;obtain⟨y,dy,wy,i7,pr,kO,iC,e1,F6⟩:=Zz.2 i d ei;rw[hv]at e1;cases e1;have F:=F6.keep (P':=fun _=>True) (fun b o _ e=>s8 b o e) (cJ.same s8) fun _ h=>h
    have iG:=TR.iG d (Y7 ei);have pl:=TR.AX (Cj ok) (i+1);rw[px ei,List.length_append]at pl;have et:qi.take (i+1)=qi.take i++[d]:=by rw[List.take_succ,ei];rfl
    have dl:=DN.1;have kl:=My.1;rw[List.length_take]at kl;have WG:=F.pp.1;refine nG ?_;refine⟨_,rfl,y,aA,dy,_,_,rfl,F.ob,Fc.cl,Fc.worth,kg d.worth wy i7 pr,_,rfl,y,aA,dy,_,_,rfl,F.ob,Fc.cl,Fc.pairs,jh d.worth wy i7 pr,pr,rfl,⟨_, .of F.hp⟩,fun D2 i_=>?_⟩;refine eD (xs:=iC) (fun j DE fF H9=>(∃u1 u2,fF=[u1,u2])∧H9 D2=some (.lst DE)∧av H8 H9∧fN H9 DE ((d.pairs.take j).map xH)) ⟨⟨_,_,rfl⟩,ae,Wt i_, .nil⟩ ?_ ?_ ?_
    ·rintro j DE fF H9 _ ⟨_,_,s9,_⟩;exact .of (s9 _ _ F.hp)
    ·rintro j v DE fF H9 Mp ⟨⟨u1,u2,rfl⟩,M_,s9,P9⟩;have hj:j<d.pairs.length:=by rw[←WG];exact(WB Mp).1
     have ej:d.pairs[j]?=some d.pairs[j]:=by simp[hj]
     generalize d.pairs[j]=x at ej;obtain⟨tt,k1,k2⟩:=F.pp.2 j x ej;rw[Mp]at k1;cases k1;have kt:=s9 _ _ k2;have p9:=P9.1;rw[List.length_map,List.length_take]at p9;have ht:d.pairs.take (j+1)=d.pairs.take j++[x]:=by rw[List.take_succ,ej];rfl
     refine⟨tt,_,rfl, .of kt,rfl,_,_,rfl,_,_,rfl,rfl,?_⟩;refine my ?_;refine⟨_,rfl,_,rfl,aD K4,fun p1 uS=>⟨av.upd uS _ _ M_,aZ Aj,⟨_,_,rfl⟩,ae,(s9.trans (Wt uS)).dU i_,?_⟩⟩;rw[ht,List.map_append];have ZA:fN (upd H9 p1 (.tup (iK (xH x)))) (DE++[.ref p1]) ((d.pairs.take j).map xH++[xH x]):=(P9.same (Wt uS)).snoc ae;exact ZA.cb (cJ.lst (av.upd uS _ _ M_))
    ·rintro DE fF H9 ⟨_,M_,s9,P9⟩;rw[WG,List.take_length]at P9;refine⟨D2,DE,d.pairs.map xH,rfl, .of M_,P9,List.pairwise_map.mpr ((ki iG.qI).imp fun{a b} h e=>h (by rw[←kP a,e,kP])),by rw[List.length_map];lia,fun z WH qs hz P3 perm pw=>⟨aD K4,fun p hp=>?_⟩⟩;have sz:=av.upd (o:= .lst WH) hz;have sp:=av.upd (o:= .tup [.int d.worth, .ref z]) hp;have Mz:=s9 _ _ GX;have nz:z≠D:=fun e=>by rw[e,Mz]at hz;cases hz
     have sA:=sz.trans sp;have UN:=s9.trans sA;refine⟨sA _ _ Mz,aZ Aj,⟨_,rfl⟩,ae,(s8.trans UN).dU hD,M7++[(d.worth,qs)],?_,?_⟩
     ·have D2:=(DN.keep (fun b o _ e=>UN b o e) (cJ.same UN)).snoc (x:=(d.worth,qs)) (t:=p) (l:=z) (us:=WH) ae (sp _ _ ae) (P3.same sA) nz;exact D2.keep (fun b o hb e=>by rw[ak hb];exact e) (cJ.lst (sA _ _ Mz))
     ·rw[et];refine My.snoc ⟨rfl,pw,fun q=>?_⟩;rw[perm.mem_iff,List.mem_map];constructor
      ·rintro⟨x,hx,rfl⟩;exact hx
      ·exact fun hq=>⟨xH q,hq,rfl⟩
   ·rintro ys bj H8 ⟨_,GX,s8,M7,DN,My⟩;rw[Jp,List.take_length]at My;obtain⟨f1,f2⟩:=My.Gy TR kP;have kl:=My.1;exact⟨D,ys,M7,rfl, .of GX,DN.Pf,f1,f2,by lia,fun U Qc qs hU DU perm pw=>⟨U,Qc,rfl,s8.trans (Wt hU),ae,by
     rw[kys_eq (c':=Ci c) TD mv WA kP KO My pm qI perm pw];exact DU.keep (Wt hU)⟩⟩
  rintro σ H8 ⟨U,Qc,rfl,s8,WI,WJ⟩;have WK:=DU.keep s8;have GF:=s8 _ _ Zy;have kl:=KO.1;have pl:=pm.length_eq;have dl:=WK.1;have dl':=WJ.1;refine⟨fun σ H9=>True,?_,fun σ H9 _=>q _⟩;refine⟨_,rfl,S,_,rfl, .inl (.of GF),_,rfl,by lia,by lia,?_⟩;refine ft (fun k σ H9=>(∃u,σ=[sR a,sR b,sR m,sR L,sR g,sR t,sR r,sR S,sR U,u])∧H9=H8) ⟨⟨_,rfl⟩,rfl⟩ ?_ (fun _ _ _=>trivial);rintro k σ H9 hk ⟨⟨u,rfl⟩,rfl⟩;have hk:k<ls.length:=by have:k<((zs.length:Nat):Int).toNat:=hk;lia
  have ek:ls[k]?=some ls[k]:=by simp[hk]
  generalize ls[k]=x at ek;obtain⟨t1,l1,kO,a1,a2,a3,P1⟩:=WK.2 k x ek;obtain⟨t2,l2,iC,b1,b2,b3,P2⟩:=WJ.2 k x ek;refine⟨_,rfl,_,rfl,S,_,_,_,rfl,rfl, .of GF,MR a1,t1,_,0,_,rfl,rfl, .of a2,U_ (j:=0),_,rfl,_,rfl,U,_,_,_,rfl,rfl, .of WI,MR b1,t2,_,0,_,rfl,rfl, .of b2,U_ (j:=0),rfl,_,rfl,?_⟩;refine bb (fun hh=>absurd hh K4) (fun _=>?_);refine⟨_,rfl,_,rfl,S,_,_,_,rfl,rfl, .of GF,MR a1,t1,_,1,_,rfl,rfl, .of a2,U_ (j:=1),_,rfl,_,rfl,U,_,_,_,rfl,rfl, .of WI,MR b1,t2,_,1,_,rfl,rfl, .of b2,U_ (j:=1),l1,l2,_,_,_,rfl,rfl, .of a3, .of b3,P1,P2,_,rfl,?_⟩;exact gR ⟨⟨_,rfl⟩,rfl⟩
end
theorem all_mk{l:W.OpenLaw}{w:World}{K:W.Frag}{h:Heap}{mg:Str→Option Value}{fa:Addr}(X:K.In h)(G:h.Ns mainGlobals mg)(ZC:mg "law"=some (.ref fa))
  {pG jM:Option Addr} {pH:Array (Option Value)} {pI jN jO jP gE jQ:Value}
  {gF:Addr} {pJ:Value} {pK:Option Addr} {pL:Nat} {pM:Array (Option Value)} {pN:Tok}
  {aN:Addr} (xR:Pd K "Terms" aN)
  {az:Addr} (uq:Pd K "Trails" az)
  {aA:Addr} (qW:Pd K "Finding" aA)
  {aH:Addr} (ur:Pd K "Groups" aH)
  {ay:Addr} (l7:Pd K "Gathering" ay)
  {jR:Addr} (pO:W.nsIn K mainGlobals "is_small_letter"=some (some (.ref jR)))
  (pQ:fO K "is_small_letter" "is_small_letter" gc jR)
  {wt:Addr} (DG:W.nsIn K mainGlobals "is_word"=some (some (.ref wt)))
  (DH:fO K "is_word" "is_word" mI wt)
  {pR:Addr} (xS:W.nsIn K mainGlobals "is_between"=some (some (.ref pR)))
  (xT:fO K "is_between" "is_between" kQ pR)
  {l8:Addr} (uv:W.nsIn K mainGlobals "check_number"=some (some (.ref l8)))
  (uw:fO K "check_number" "check_number" jj l8)
  {jS:Addr} (pS:W.nsIn K mainGlobals "check_near_form"=some (some (.ref jS)))
  (pT:fO K "check_near_form" "check_near_form" gf jS)
  {nj:Addr} (vm:W.nsIn K mainGlobals "near_prices"=some (some (.ref nj)))
  (vn:fO K "near_prices" "near_prices" hG nj)
  {fC:Addr} (qX:W.findIn K (.ref aN) "__init__"=some (some (.ref fC))) (qY:W.isFn K (.ref fC)=true)
  (qZ:K.lookup fC=some ⟨pI,pG, .func (W.fnOf "__init__" "Terms.__init__" (fK bx) (eM bx) (au bx) (.ref gF) jN jO jP jM gE jQ),pH⟩)
  (q_:W.codeIn K gE "Terms.__init__"=true) (rf:W.keepIn K (.ref fC)=true)
  (pU:K.lookup gF=some ⟨pJ,pK, .seq #[.int 50 pN, .none] pL,pM⟩)
  {fW:Addr} (oa:W.findIn K (.ref aN) "pair_worth"=some (some (.ref fW))) (oe:W.isFn K (.ref fW)=true)
  (oh:fO K "pair_worth" "Terms.pair_worth" dY fW)
  {jq:Addr} (ux:W.findIn K (.ref aN) "turned"=some (some (.ref jq))) (uy:W.isFn K (.ref jq)=true)
  (uz:fO K "turned" "Terms.turned" gh jq)
  {uA:Addr} (Bd:W.nsIn K mainGlobals "greatest"=some (some (.ref uA)))
  (Be:fO K "greatest" "greatest" kR uA)
  {GG:Addr} (MA:W.nsIn K mainGlobals "less"=some (some (.ref GG)))
  (MB:fO K "less" "less" A3 GG)
  {jr:Addr} (oj:W.nsIn K mainGlobals "begun_or_gone_on"=some (some (.ref jr)))
  (om:fO K "begun_or_gone_on" "begun_or_gone_on" fT jr)
  {dQ:Addr} (aaG:W.findIn K (.ref az) "brought_behind"=some (some (.ref dQ))) (kz:W.isFn K (.ref dQ)=true)
  (kC:fO K "brought_behind" "Trails.brought_behind" dN dQ)
  {gG:Addr} (pV:W.findIn K (.ref az) "__init__"=some (some (.ref gG))) (pW:W.isFn K (.ref gG)=true)
  (pX:fO K "__init__" "Trails.__init__" eP gG)
  {gZ:Addr} (rg:W.findIn K (.ref az) "goes_on"=some (some (.ref gZ))) (rh:W.isFn K (.ref gZ)=true)
  (rj:fO K "goes_on" "Trails.goes_on" gX gZ)
  {ed:Addr} (lb:W.findIn K (.ref az) "is_brought_by"=some (some (.ref ed))) (lg:W.isFn K (.ref ed)=true)
  (lh:fO K "is_brought_by" "Trails.is_brought_by" dZ ed)
  {cU:Addr} (jv:W.findIn K (.ref az) "crossings_before"=some (some (.ref cU))) (jw:W.isFn K (.ref cU)=true)
  (jx:fO K "crossings_before" "Trails.crossings_before" cT cU)
  {fo:Addr} (l_:W.findIn K (.ref az) "pair_before"=some (some (.ref fo))) (l':W.isFn K (.ref fo)=true)
  (ma:fO K "pair_before" "Trails.pair_before" e_ fo)
  {iI:Addr} (su:W.findIn K (.ref az) "way_to"=some (some (.ref iI))) (sD:W.isFn K (.ref iI)=true)
  (sE:fO K "way_to" "Trails.way_to" iH iI)
  {fX:Addr} (ot:W.findIn K (.ref aA) "__init__"=some (some (.ref fX))) (ow:W.isFn K (.ref fX)=true)
  (oz:fO K "__init__" "Finding.__init__" fU fX)
  {uB:Addr} (Bf:W.nsIn K mainGlobals "order_of"=some (some (.ref uB)))
  (Bg:fO K "order_of" "order_of" nV uB)
  {me:Addr} (uC:W.nsIn K mainGlobals "make_finding"=some (some (.ref me)))
  (uD:fO K "make_finding" "make_finding" fe me)
  {gH:Addr} (pY:W.findIn K (.ref aH) "__init__"=some (some (.ref gH))) (pZ:W.isFn K (.ref gH)=true)
  (p4:fO K "__init__" "Groups.__init__" gi gH)
  {ll:Addr} (xU:W.findIn K (.ref aH) "has"=some (some (.ref ll))) (xV:W.isFn K (.ref ll)=true)
  (xW:fO K "has" "Groups.has" iT ll)
  {g7:Addr} (rk:W.findIn K (.ref aH) "take_in"=some (some (.ref g7))) (rl:W.isFn K (.ref g7)=true)
  (rm:fO K "take_in" "Groups.take_in" fA g7)
  {jt:Addr} (uE:W.findIn K (.ref aH) "unite"=some (some (.ref jt))) (uF:W.isFn K (.ref jt)=true)
  (uG:fO K "unite" "Groups.unite" ff jt)
  {j8:Addr} (vo:W.findIn K (.ref aH) "told"=some (some (.ref j8))) (vp:W.isFn K (.ref j8)=true)
  (vt:fO K "told" "Groups.told" hJ j8)
  {fq:Addr} (mf:W.findIn K (.ref ay) "__init__"=some (some (.ref fq))) (mh:W.isFn K (.ref fq)=true)
  (mi:fO K "__init__" "Gathering.__init__" fg fq)
  {g8:Addr} (rp:W.findIn K (.ref ay) "mark"=some (some (.ref g8))) (rq:W.isFn K (.ref g8)=true)
  (rz:fO K "mark" "Gathering.mark" fB g8)
  {fE:Addr} (mT:W.findIn K (.ref ay) "go_over"=some (some (.ref fE))) (mU:W.isFn K (.ref fE)=true)
  (mV:fO K "go_over" "Gathering.go_over" dH fE)
  {gI:Addr} (p5:W.findIn K (.ref ay) "visit"=some (some (.ref gI))) (p6:W.isFn K (.ref gI)=true)
  (p7:fO K "visit" "Gathering.visit" eQ gI)
  {nk:Addr} (vw:W.nsIn K mainGlobals "best_groups"=some (some (.ref nk)))
  (vx:fO K "best_groups" "best_groups" j4 nk)
  {wu:Addr} (DI:W.nsIn K mainGlobals "shut_by"=some (some (.ref wu)))
  (DJ:fO K "shut_by" "shut_by" mJ wu)
  {nq:Addr} (vy:W.nsIn K mainGlobals "open_worths"=some (some (.ref nq)))
  (vz:fO K "open_worths" "open_worths" fH nq)
  {p8:Addr} (xX:W.nsIn K mainGlobals "make_round"=some (some (.ref p8)))
  (xY:fO K "make_round" "make_round" gj p8)
  {p_:Addr} (xZ:W.nsIn K mainGlobals "shut_pairs"=some (some (.ref p_)))
  (x_:fO K "shut_pairs" "shut_pairs" kT p_)
  {wz:Addr} (DK:W.nsIn K mainGlobals "compare"=some (some (.ref wz)))
  (DL:fO K "compare" "compare" qT wz)
  {wA:Addr} (DM:W.nsIn K mainGlobals "_law_at"=some (some (.ref wA)))
  (DO:fO K "_law_at" "_law_at" qU wA)
  {qb:Addr} (ya:W.nsIn K mainGlobals "_law_whole"=some (some (.ref qb)))
  (yb:fO K "_law_whole" "_law_whole" kU qb)
  {rN:Addr} (zv:W.nsIn K mainGlobals "_law_bank"=some (some (.ref rN)))
  (zw:fO K "_law_bank" "_law_bank" lW rN)
  {rO:Addr} (zx:W.nsIn K mainGlobals "_law_book"=some (some (.ref rO)))
  (zy:fO K "_law_book" "_law_book" lX rO)
  {qc:Addr} (yc:W.nsIn K mainGlobals "_law_quote"=some (some (.ref qc)))
  (yd:fO K "_law_quote" "_law_quote" iU qc)
  {mj:Addr} (uH:W.nsIn K mainGlobals "_law_numbers"=some (some (.ref mj)))
  (uI:fO K "_law_numbers" "_law_numbers" gk mj)
  {rP:Addr} (zA:W.nsIn K mainGlobals "_law_near"=some (some (.ref rP)))
  (zB:fO K "_law_near" "_law_near" lY rP)
  {rQ:Addr} (zC:W.nsIn K mainGlobals "_law_case"=some (some (.ref rQ)))
  (zD:fO K "_law_case" "_law_case" lZ rQ)
  {rR:Addr} (zE:W.nsIn K mainGlobals "_law_pair"=some (some (.ref rR)))
  (zF:fO K "_law_pair" "_law_pair" l0 rR)
  {qd:Addr} (ye:W.nsIn K mainGlobals "_law_worth"=some (some (.ref qd)))
  (yf:fO K "_law_worth" "_law_worth" kW qd)
  {qe:Addr} (yg:W.nsIn K mainGlobals "_law_pairs"=some (some (.ref qe)))
  (yh:fO K "_law_pairs" "_law_pairs" kX qe)
  {qf:Addr} (yi:W.nsIn K mainGlobals "_law_terms"=some (some (.ref qf)))
  (yj:fO K "_law_terms" "_law_terms" kY qf)
  {rS:Addr} (zG:W.nsIn K mainGlobals "_law_calm"=some (some (.ref rS)))
  (zH:fO K "_law_calm" "_law_calm" l5 rS)
  {mn:Addr} (uJ:W.nsIn K mainGlobals "_law_finding"=some (some (.ref mn)))
  (uK:fO K "_law_finding" "_law_finding" gm mn)
  {nr:Addr} (vA:W.nsIn K mainGlobals "_law_is_way"=some (some (.ref nr)))
  (vB:fO K "_law_is_way" "_law_is_way" hV nr)
  {qg:Addr} (yk:W.nsIn K mainGlobals "_law_spots"=some (some (.ref qg)))
  (yl:fO K "_law_spots" "_law_spots" iV qg)
  {ny:Addr} (vC:W.nsIn K mainGlobals "_law_anchor"=some (some (.ref ny)))
  (vD:fO K "_law_anchor" "_law_anchor" hZ ny)
  {qh:Addr} (ym:W.nsIn K mainGlobals "_law_asked"=some (some (.ref qh)))
  (yn:fO K "_law_asked" "_law_asked" kZ qh)
  {J9:Addr} (Qd:W.nsIn K mainGlobals "law"=some (some (.ref J9)))
  (Qe:fO K "law" "law" lu J9)
  (Tc:EU K aN)
  (Rc:BN K az)
  (Fc:JM K aA)
  (Gc:OY K aH)
  (Hc:JQ K ay)
  (zz:TZ K)
  {zI:Tok} (zJ:W.nsIn K mainGlobals "WORD_MOST"=some (some (.int 12 zI)))
  {yo:Tok} (yp:W.nsIn K mainGlobals "WORTH_MOST"=some (some (.int 999999 yo)))
  {zK:Tok} (zL:W.nsIn K mainGlobals "NEAR_MOST"=some (some (.int 60 zK)))
  {zM:Tok} (zN:W.nsIn K mainGlobals "PART_MOST"=some (some (.int 100 zM)))
  {sF:Tok} (sG:W.nsIn K mainGlobals "FINDINGS_MOST"=some (some (.int 20 sF)))
  {d0:Addr} (Bh:Pc K "BadTerms" d0)
  {cV:Addr} (DP:Pc K "BadNear" cV)
  {kn:Addr} (DQ:Pc K "TooMany" kn)
  (Bi:W.nsIn K mainGlobals "reversed"=some none)
  (GH:W.nsIn K mainGlobals "sorted"=some none)
  :∃fd:FuncData,(∀(s:Shared)(v:Value),BindsTo s fd ⟨[v],[]⟩ [("_law_script",v)])∧∀base:Heap,K.In base→base.Ns mainGlobals mg→a9 l.prog w K mg base (cY l.prog w) true 10 fa fd ["_law_script"] (BH K):=by
 have e:=ZC.symm.trans (W.mg_of X G Qd);cases e;have T:=zz.tb X G;have jE:Ej mg "WORD_MOST" (.int 12):=⟨_,W.mg_of X G zJ,_,rfl⟩
 have bQ:Ej mg "WORTH_MOST" (.int 999999):=⟨_,W.mg_of X G yp,_,rfl⟩
 have iA:Ej mg "NEAR_MOST" (.int 60):=⟨_,W.mg_of X G zL,_,rfl⟩
 have jF:Ej mg "PART_MOST" (.int 100):=⟨_,W.mg_of X G zN,_,rfl⟩
 have eh:Ej mg "FINDINGS_MOST" (.int 20):=⟨_,W.mg_of X G sG,_,rfl⟩
 have jk:=Bh.er X G;have bX:=DP.er X G;have kx:=DQ.er X G;have abJ:mg "reversed"=none:=W.mg_none_of X G Bi;have dO:mg "sorted"=none:=W.mg_none_of X G GH;obtain @⟨_,k1,k2,k3,k4,k5,_,k6,_,l9,c9,k9⟩:=Qe;refine⟨W.fnOf "law" "law" (fK lu) (eM lu) (au lu) .none k1 k2 k3 k6 k4 k5,fun s v=> .of_eq rfl,fun base _ _=>?_⟩;have eR:=pQ.df X G pO (fun _ F=>nX (P:=l.prog) (w:=w) (base:=base) T F) (AV fun _ _ _ _ _ _ _=>rfl);have ko:=DH.df X G DG (fun _ F=>A5 (P:=l.prog) (w:=w) (base:=base) T jE eR F) (AV fun _ _ _ _ _ _ _=>rfl);have d6:=xT.df X G xS (fun _ F=>uX (P:=l.prog) (w:=w) (base:=base) T F) (AW fun _ _ _ _ _ _ _ _ _=>rfl);have cy:=uw.df X G uv (fun _ F=>aaM (P:=l.prog) (w:=w) (base:=base) T d6 jk F) (Tt fun _ _ _ _ _ _ _ _ _ _=>rfl);have eU:=pT.df X G pS (fun _ F=>nZ (P:=l.prog) (w:=w) (base:=base) T d6 bQ ko bX F) (AW fun _ _ _ _ _ _ _ _ _=>rfl);have h_:=vn.df X G vm (fun _ F=>uf (P:=l.prog) (w:=w) (base:=base) T bX iA eU F) (AV fun _ _ _ _ _ _ _=>rfl);have rA:=BE (st:=bx) qZ q_ rf;have rB:=pA (P:=l.prog) (w:=w) (base:=base) T bQ jF cy h_ Tc rA;have Bj:Binds K (W.fnOf "__init__" "Terms.__init__" (fK bx) (eM bx) (au bx) (.ref gF) jN jO jP jM gE jQ) ["self","same","out","into","least","part","near"] []:=fun s us hK hl=>by
  obtain⟨_,_,_,_,_,_,_,rfl⟩:=QF.Sy us (by simpa using hl);exact BindsTo.of_defaults rfl (hK _ _ pU) rfl rfl rfl
 have jl:m3 l.prog w K mg base true 5 "Terms" aN ["self","same","out","into","least","part","near"] [] (sO aN d0 cV):=yQ rB ⟨xR.b,qX,qY,xR.c⟩ (W.mg_of X G xR.a) Bj (.nil);have d8:=oh.mt Tc.cl oa oe (fun _ F=>mO (P:=l.prog) (w:=w) (base:=base) T Tc F) (AW fun _ _ _ _ _ _ _ _ _=>rfl);have gC:=uz.mt Tc.cl ux uy (fun _ F=>sg (P:=l.prog) (w:=w) (base:=base) T Tc jl F) (AV fun _ _ _ _ _ _ _=>rfl);have fj:=Be.df X G Bd (fun _ F=>zr (P:=l.prog) (w:=w) (base:=base) T F) (AV fun _ _ _ _ _ _ _=>rfl);have k8:=MB.df X G MA (fun _ F=>IF (P:=l.prog) (w:=w) (base:=base) T F) (yv fun _ _ _ _ _ _ _ _=>rfl);have d7:=om.df X G oj (fun _ F=>mQ (P:=l.prog) (w:=w) (base:=base) T F) (yv fun _ _ _ _ _ _ _ _=>rfl);have cA:=kC.mt Rc.cl aaG kz (fun _ F=>j6 (P:=l.prog) (w:=w) (base:=base) T fj k8 Rc F) (AW fun _ _ _ _ _ _ _ _ _=>rfl);have mM:=pX.nw (W.mg_of X G uq.a) uq.b uq.c pV pW (fun _ F=>n5 (P:=l.prog) (w:=w) (base:=base) T Tc Rc d7 cA F) (AW fun _ _ _ _ _ _ _ _ _=>rfl);have bY:=rj.mt Rc.cl rg rh (fun _ F=>pB (P:=l.prog) (w:=w) (base:=base) T Rc F) (yv fun _ _ _ _ _ _ _ _=>rfl);have bh:=lh.mt Rc.cl lb lg (fun _ F=>kr (P:=l.prog) (w:=w) (base:=base) T Rc F) (AW fun _ _ _ _ _ _ _ _ _=>rfl);have aY:=jx.mt Rc.cl jv jw (fun _ F=>jm (P:=l.prog) (w:=w) (base:=base) T k8 Rc F) (yv fun _ _ _ _ _ _ _ _=>rfl);have dq:=ma.mt Rc.cl l_ l' (fun _ F=>lF (P:=l.prog) (w:=w) (base:=base) T Rc bh aY F) (yv fun _ _ _ _ _ _ _ _=>rfl);have fQ:=sE.mt Rc.cl su sD (fun _ F=>qV (P:=l.prog) (w:=w) (base:=base) T Rc bY dq F) (yv fun _ _ _ _ _ _ _ _=>rfl);have k_:=oz.nw (W.mg_of X G qW.a) qW.b qW.c ot ow (fun _ F=>mS (P:=l.prog) (w:=w) (base:=base) T Fc F) (Vx fun _ _ _ _ _ _ _ _ _ _ _=>rfl);have la:=Bg.df X G Bf (fun _ F=>zu (P:=l.prog) (w:=w) (base:=base) T Fc F) (AV fun _ _ _ _ _ _ _=>rfl);have gu:=uD.df X G uC (fun _ F=>sk (P:=l.prog) (w:=w) (base:=base) T Rc fQ k_ F) (AW fun _ _ _ _ _ _ _ _ _=>rfl);have mK:=p4.nw (W.mg_of X G ur.a) ur.b ur.c pY pZ (fun _ F=>n8 (P:=l.prog) (w:=w) (base:=base) T Gc F) (AV fun _ _ _ _ _ _ _=>rfl);have iW:=xW.mt Gc.cl xU xV (fun _ F=>u0 (P:=l.prog) (w:=w) (base:=base) T Gc F) (yv fun _ _ _ _ _ _ _ _=>rfl);have bZ:=rm.mt Gc.cl rk rl (fun _ F=>pD (P:=l.prog) (w:=w) (base:=base) T Gc F) (yv fun _ _ _ _ _ _ _ _=>rfl);have cR:=uG.mt Gc.cl uE uF (fun _ F=>so (P:=l.prog) (w:=w) (base:=base) T Gc F) (AW fun _ _ _ _ _ _ _ _ _=>rfl);have ic:=vt.mt Gc.cl vo vp (fun _ F=>uh (P:=l.prog) (w:=w) (base:=base) T Gc dO F) (AV fun _ _ _ _ _ _ _=>rfl);have iX:=mi.nw (W.mg_of X G l7.a) l7.b l7.c mf mh (fun _ F=>lH (P:=l.prog) (w:=w) (base:=base) T mK Hc F) (AW fun _ _ _ _ _ _ _ _ _=>rfl);have b_:=rz.mt Hc.cl rp rq (fun _ F=>pF (P:=l.prog) (w:=w) (base:=base) T Hc cR F) (AW fun _ _ _ _ _ _ _ _ _=>rfl);have dI:=mV.mt Hc.cl mT mU (fun _ F=>l6 (P:=l.prog) (w:=w) (base:=base) T bh aY Hc cR bZ b_ F) (AW fun _ _ _ _ _ _ _ _ _=>rfl);have eV:=p7.mt Hc.cl p5 p6 (fun _ F=>n9 (P:=l.prog) (w:=w) (base:=base) T Rc bY Hc bZ b_ iW dI F) (AW fun _ _ _ _ _ _ _ _ _=>rfl);have ie:=vx.df X G vw (fun _ F=>ui (P:=l.prog) (w:=w) (base:=base) T Rc Hc iX eV ic F) (yv fun _ _ _ _ _ _ _ _=>rfl);have mL:=DJ.df X G DI (fun _ F=>A_ (P:=l.prog) (w:=w) (base:=base) T F) (AV fun _ _ _ _ _ _ _=>rfl);have ij:=vz.df X G vy (fun _ F=>aaB (P:=l.prog) (w:=w) (base:=base) T Tc mL d8 F) (Tt fun _ _ _ _ _ _ _ _ _ _=>rfl);have gv:=xY.df X G xX (fun _ F=>u7 (P:=l.prog) (w:=w) (base:=base) T Tc fj Rc mM ie gu F) (yv fun _ _ _ _ _ _ _ _=>rfl);have iY:=x_.df X G xZ (fun _ F=>u9 (P:=l.prog) (w:=w) (base:=base) T Fc F) (yv fun _ _ _ _ _ _ _ _=>rfl);have gY:=DL.df X G DK (fun _ F=>Ba (P:=l.prog) (w:=w) (base:=base) T dO eh ij gv iY la kx F) (AW fun _ _ _ _ _ _ _ _ _=>rfl);have a7:=DO.df X G DM (fun _ F=>Bc (P:=l.prog) (w:=w) (base:=base) T F) (yv fun _ _ _ _ _ _ _ _=>rfl);have cK:=yb.df X G ya (fun _ F=>va (P:=l.prog) (w:=w) (base:=base) T F) (AV fun _ _ _ _ _ _ _=>rfl);have jH:=zw.df X G zv (fun _ F=>xK (P:=l.prog) (w:=w) (base:=base) T F) (AW fun _ _ _ _ _ _ _ _ _=>rfl);have jI:=zy.df X G zx (fun _ F=>xM (P:=l.prog) (w:=w) (base:=base) T a7 F) (Vx fun _ _ _ _ _ _ _ _ _ _ _=>rfl);have iZ:=yd.df X G yc (fun _ F=>vc (P:=l.prog) (w:=w) (base:=base) T a7 F) (X_ fun _ _ _ _ _ _ _ _ _ _ _ _=>rfl);have gy:=uI.df X G uH (fun _ F=>sq (P:=l.prog) (w:=w) (base:=base) T a7 F) (yv fun _ _ _ _ _ _ _ _=>rfl);have jJ:=zB.df X G zA (fun _ F=>xN (P:=l.prog) (w:=w) (base:=base) T F) (AW fun _ _ _ _ _ _ _ _ _=>rfl);have jK:=zD.df X G zC (fun _ F=>xO (P:=l.prog) (w:=w) (base:=base) T a7 jH jI iZ gy jJ F) (yv fun _ _ _ _ _ _ _ _=>rfl);have bH:=zF.df X G zE (fun _ F=>xP (P:=l.prog) (w:=w) (base:=base) T F) (Tt fun _ _ _ _ _ _ _ _ _ _=>rfl);have i5:=yf.df X G ye (fun _ F=>ve (P:=l.prog) (w:=w) (base:=base) T bH F) (yv fun _ _ _ _ _ _ _ _=>rfl);have gz:=yh.df X G yg (fun _ F=>vf (P:=l.prog) (w:=w) (base:=base) T cK F) (AV fun _ _ _ _ _ _ _=>rfl);have d_:=yj.df X G yi (fun _ F=>vh (P:=l.prog) (w:=w) (base:=base) T jl F) (AV fun _ _ _ _ _ _ _=>rfl);have jL:=zH.df X G zG (fun _ F=>xQ (P:=l.prog) (w:=w) (base:=base) T bH F) (AV fun _ _ _ _ _ _ _=>rfl);have gB:=uK.df X G uJ (fun _ F=>sr (P:=l.prog) (w:=w) (base:=base) T Fc cK gz F) (AV fun _ _ _ _ _ _ _=>rfl);have ik:=vB.df X G vA (fun _ F=>um (P:=l.prog) (w:=w) (base:=base) T bH F) (yv fun _ _ _ _ _ _ _ _=>rfl);have i6:=yl.df X G yk (fun _ F=>vi (P:=l.prog) (w:=w) (base:=base) T bH F) (yv fun _ _ _ _ _ _ _ _=>rfl);have fJ:=vD.df X G vC (fun _ F=>uo (P:=l.prog) (w:=w) (base:=base) T Fc gB ik i5 i6 F) (yv fun _ _ _ _ _ _ _ _=>rfl);have gD:=yn.df X G ym (fun _ F=>vk (P:=l.prog) (w:=w) (base:=base) T gY d_ F) (AV fun _ _ _ _ _ _ _=>rfl);exact Mx T Tc Fc dO a7 gY d_ gC jK jL gD fJ (EF (st:=lu) l9 c9 k9)
theorem walk{l:W.OpenLaw}{q:Program}{loose:List Str}{XP:(Str→Option Value)→Heap→Prop}{YP:World→Heap→Prop}{d:DefRec}{K:Params→W.Frag}(hn:l.most=some 63)(Ob:d.params.defaults=[])
  (hY:∀(w:World)(h:Heap),YP w h→(K w.params).In h)
  (F:∀(w:World)(mg:Str→Option Value)(fa:Addr)(h:Heap),(K w.params).In h→h.Ns mainGlobals mg→mg d.name=some (.ref fa)→
   ∃fd:FuncData,(∀(s:Shared)(u:Value),BindsTo s fd ⟨[u],[]⟩ [("_law_script",u)])∧∀base:Heap,(K w.params).In base→base.Ns mainGlobals mg→a9 l.prog w (K w.params) mg base (cY l.prog w) true 10 fa fd ["_law_script"] (BH (K w.params))):
  W.WalkO q loose XP YP l.row.toRowW d [] (fun f vs=>PySem.call f vs):=
 L2.Hs (n:=63) (k:=10) (x:="_law_script") (CX:=fun w=>cY l.prog w) (sp:=fun w=>BH (K w.params)) hn ZV Ob ⟨(fun _=>rfl),Sz,Sz⟩ hY F (fun _ _ a ns hl _ hS=>⟨a,ns,rfl,hS,hl,fun _=>rfl⟩) fun _ _ _ _ _ z=>by obtain⟨_,_,_,_,_,_,_,_,_,_,_,_,_,z⟩:=z;exact z
end Tx
open PySem PySem.W PyProof.Rows
set_option maxRecDepth 100000 in
set_option maxHeartbeats 0 in
theorem PySem.Challenge.cw_quotefind_k22_exchanged_holds : PySem.Challenge.rw_quotefind_k22_exchanged.Holds := by
 w_on;refine holds_law HD.ws fun said=>?_;k_head
 (case hw=>w_witness2)
 refine Tx.walk (l:=PySem.Challenge.rw_quotefind_k22_exchanged) rfl rfl (fun w h Y=>PySem.W.kIn_of Y) ?F
 case F=>
  intro w mg fa h KX G Oc
  refine' Tx.all_mk KX G Oc ?_ ?_ ?_ ?_ ?_ ?_ ?_ ?_ ?_ ?_ ?_ ?_ ?_ ?_ ?_ ?_ ?_ ?_ ?_ ?_ ?_ ?_ ?_ ?_ ?_ ?_ ?_ ?_ ?_ ?_ ?_ ?_ ?_ ?_ ?_ ?_ ?_ ?_ ?_ ?_ ?_ ?_ ?_ ?_ ?_ ?_ ?_ ?_ ?_ ?_ ?_ ?_ ?_ ?_ ?_ ?_ ?_ ?_ ?_ ?_ ?_ ?_ ?_ ?_ ?_ ?_ ?_ ?_ ?_ ?_ ?_ ?_ ?_ ?_ ?_ ?_ ?_ ?_ ?_ ?_ ?_ ?_ ?_ ?_ ?_ ?_ ?_ ?_ ?_ ?_ ?_ ?_ ?_ ?_ ?_ ?_ ?_ ?_ ?_ ?_ ?_ ?_ ?_ ?_ ?_ ?_ ?_ ?_ ?_ ?_ ?_ ?_ ?_ ?_ ?_ ?_ ?_ ?_ ?_ ?_ ?_ ?_ ?_ ?_ ?_ ?_ ?_ ?_ ?_ ?_ ?_ ?_ ?_ ?_ ?_ ?_ ?_ ?_ ?_ ?_ ?_ ?_ ?_ ?_ ?_ ?_ ?_ ?_ ?_ ?_ ?_ ?_ ?_ ?_ ?_ ?_
  all_goals first|k_is|(show(_:Prop);constructor<;>first|(show _=_;k_is)|k_exc|(constructor<;>(show _=_;k_is)))|skip
#print axioms PySem.Challenge.cw_quotefind_k22_exchanged_holds
