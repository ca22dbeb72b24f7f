import PyProof.Rows.All
import KE.KTurns
import KE.KLcPair
import KE.KRevIter
import OpenK.KOwn
import KE.RegKIsAll
import KE.KItem
import KE.KxBytes
import PyProof.EqAt
import PyProof.EqKinds
import PyProof.TupleCall
import PyProof.NeKinds
import PyProof.SumAny
import PyProof.LongRange
import PyProof.ZipIter
import PyProof.Rows.Range3
import KE.KStateDown
import PyProof.DictWalks
import PyProof.ListRange
import PyProof.ListNew
import KE.KIntText
import PySem.Challenge.RW_sawsign_k70_desk_refuses
set_option hygiene false in
def sL(c:String):Lean.MacroM Lean.Term:=match c with
 |"0"=>`(by rfl)
 |"1"=>`(by decide+kernel)
 |"2"=>`(by decide)
 |"3"=>`(by omega)
 |"4"=>`(by walk_at "lo")
 |"5"=>`(by walk_at "kr")
 |"6"=>`(⟨rfl,rfl,rfl,by decide+kernel,rfl,by decide+kernel,by decide+kernel⟩)
 |"7"=>`(fun vs H Q E h=>?_)
 |"8"=>`(fun f cdv A outer s H vs Q E hr h=>?_)
 |"9"=>`(by walk_at "fx")
 |"10"=>`(by kernel_rfl)
 |"11"=>`(fun _ _ _ _ _ _=>ar1 fun _=>by kernel_rfl)
 |"12"=>`(fun _ _=>rfl)
 |"13"=>`(fun _ _ _ _ _ _=>ar2 fun _ _=>by kernel_rfl)
 |"14"=>`(by intro _;rfl)
 |"15"=>`(by simp)
 |"16"=>`(by walk_at "hp")
 |"17"=>`(fun pins a oe cls dx hcls hxo=>(@pss_one _ _ _ (@ps_set _ _ 2 _ _ _ _ nd rfl (Or.inl rfl) pe_str (by rfl) (by walk_at "lo"))))
 |"18"=>`(fun σ H'=>σ=[some (.ref a),some (.str t),some (.ref l),some (.ref fa),some (.str ask),none]/\H4=H')
 |"19"=>`((s₀))
 |"20"=>`((H₀))
 |_=>Lean.Macro.throwUnsupported
def sT:List String:=r#"a @pa_cons _ _ _ _ _ $0 $1 #0
b #1
c #2
d @pss_cons _ _ _ _ _ $0 $1
e #3
f @pss_one _ _ _ $0
g .ref a
h @pe_tup _ _ _ _ _ $0
i @ps_set _ _ $0 _ _ _ _ nd rfl ( Or.inl rfl ) $1 #0 #4
j @pe_op _ _ _ _ _ _ _ _ $0 $1 $2
k .ref C
l @pe_defS _ _ _ _ _ _ _ _ _ _ _ $0 ( hr.mono #2 ) rfl $1 $2 #2 #0 #0
m Def P w K mg base ( CXE P w ) $0 $1 $2 $3
n #5
o #6
p wpAny_bind $0
q model prog w
r @PJ.cons _ _ _ _ _ $0 $1
s #7
t @ps_ret _ _ _ _ $0
u #8
v #9
w @ps_if _ _ _ _ _ _ _ _ $0 $1 pss_nil
x @pe_lst _ _ _ _ $0
y .ref D
z @ps_expr _ _ _ _ $0 #0
A @pe_callB _ _ _ _ _ _ _ _ _ $0 rfl $1 $2 $3 #2 #2 #0 #0
B Str.ofString $0
C Heap.lt_size $0
D #10
E .ref t
F .str t
G #11
H .ref l
I .ref f
J @pe_ix _ _ _ _ _ _ _ ix_A ( pv 1 ) pe_int #12
K @pt_cmpR _ _ _ _ _ _ _ _ $0 $1 $2 ( nomark _ )
L .builtin $0
M .int i
N @pe_ix _ _ _ _ _ _ _ ix_A $0 pe_int #12
O compareOp $0
P .lst xs
Q .ref e
R @pa_cons _ _ _ _ _ pe_str pa_nil #0
S #13
T @pe_glob _ _ $0 _ _ rfl $1 $2 #2
U Nat.ne_of_lt $0
V wpAny_pure $0
W @pa_cons _ _ _ _ _ ( pv 0 ) pa_nil #0
X @pe_joined _ _ _ _ _ _ $0
Y @pa_cons _ _ _ _ _ ( pv 1 ) pa_nil #0
Z List.getElem?_eq_some_iff.mp $0
0 Nat.lt_of_lt_of_le $0 $1
1 .ref fa
2 @pt_val _ _ _ $0 #14
3 List.mem_cons_of_mem _ $0
4 List.mem_of_getElem? $0
5 List.range $0
6 .lst ys
7 Option.some.inj h1
8 Heap.get?_push_of_some _ $0
9 Option.some.inj $0
! eval $0 X.env
# .bl true
$ List.mem_append_right _ $0
& wpAny_pure ?_
* ExN C ad
+ Str.ofString ( toString n )
, .type "type"
- @pg_name _ _ $0 _ $1 rfl ( Or.inl rfl ) #4
. Nat.le_trans $0 #2
/ wpAny_holding $0
: .type "BaseException"
; Heap.get?_push_of_some _ e
< @pe_ix _ _ _ _ _ _ _ ix_A ( pv 2 ) pe_int #12
= @pe_ix _ _ _ _ _ _ _ ix_A ( @pe_ix _ _ _ _ _ _ _ ix_A ( pv 0 ) pe_int #12 ) pe_int #12
> SqL.of e1
? @pe_ix _ _ _ _ _ _ _ $0 $1 $2 #12
@ @pt_not _ _ _ _ $0
^ List.replicate $0 $1
_ some ( .ref f )
| @pa_cons _ _ _ _ _ ( pv 2 ) pa_nil #0
~ ps.take 2
' .cons ( pcA _ #1 ) $0 #15
` @pe_cmpR _ _ _ _ _ _ _ _ $0 $1 $2 ( nomark _ )
aa DefM P w K mg base ( CXE P w ) $0 $1 $2 $3
ab @pss_one _ _ _ ( @ps_ret _ _ _ _ pe_bl )
ac Str.ofString "table"
ad @yu _ _ $0 _ _ rfl $1 $2 rfl #2 #2
ae Heap.get?_update_other _ _ $0
af PySem.mem_of_lookup $0
ag .builtin id
ah xh kvs k v
ai ExD C d ad
aj @pa_cons _ _ _ _ _ ( pv 4 ) pa_nil #0
ak @pt_cmpR _ _ _ _ _ _ _ _ ( op_eqA hr.units0 ) ( pv 0 ) pe_str ( nomark _ )
al .cons ( pcA _ #1 ) p1.one #15
am zfc one far
an @pe_bm _ _ _ _ _ _ _ _ _ _ _ _ PySem.F.plainAttrs_list PySem.F.slot_list_append PySem.F.type_list_append mt_append $0 $1 #0 #0 #0 #0 #0
ao @ps_raise _ _ _ _ _ _ _ _ _ _ _ _ _ _ $0 PySem.F.excBase_ValueError rfl rfl xmade_cx ( @pa_cons _ _ _ _ _ pe_str pa_nil #0 ) #2 #0 #0
ap zk.app $0 ( zk.cons #16 #16 zk.nil )
aq @pe_and _ _ _ _ _ _ _ $0 $1
ar List.mem_append_left _ $0
as @pi_list _ _ _ _ $0
at wpAny_standAt $0
au backTo cpos ( starEach es X.env )
av as.map V.ref
aw @pe_callB _ _ _ _ _ _ _ _ _ call_lenA rfl B.len PySem.boot_len ( @pa_cons _ _ _ _ _ ( pv 0 ) pa_nil #0 ) #2 #2 #0 #0
ax zT ( ps.drop 1 )
ay @pe_comp _ _ _ _ _ _ _ _ _ rfl $0 $1 #1 #1 rfl #1 rfl #14
az @pe_callTy _ _ _ _ _ _ _ _ _ yh rfl B.str PyProof.Rows.boot_str $0 #2 #2 #0 #0
aA @pe_methS _ _ _ _ _ _ _ _ _ _ _ _ _ _ _ _ $0 C.Desk.cl $1 ( hr.mono #2 ) $2 ( pv 0 ) $3 #0 #0 #0
aB @yz _ _ _ _ _ $0 $1 #0
aC backTo pos ( starEach es X.env )
aD .ref s.heap.objs.size
aE binaryOp .Add
aF .type "object"
aG .builtin "len"
aH Same.new hp _
aI @pa_cons _ _ _ _ _ pe_int pa_nil #0
aJ @pa_cons _ _ _ _ _ ( pv 2 ) ( @pa_cons _ _ _ _ _ ( pv 3 ) pa_nil #0 ) #0
aK fs.map V.str
aL @ph_cons0 _ _ _ _ _ _ _ _ _ _ rfl $0 $1 #17 $2 #2
aM @pe_one _ _ _ _ _ $0
aN .Attribute o $0 apos
aO .str ( toString i )
aP X.blockN pins scope nm ex s H
aQ X.blockN pins scope nm fp s3 H3
aR List.cons.inj h
aS op_neA hr.units0
aT @pa_cons _ _ _ _ _ ( pv 0 ) ( @pa_cons _ _ _ _ _ ( pv 1 ) pa_nil #0 ) #0
aU @pe_op _ _ _ _ _ _ _ _ op_subI ( @pe_powc _ _ 60 _ _ _ _ _ #2 #2 ) pe_int
aV .lst ( ds0.map V.ref )
aW #18
aX @pe_bm _ _ _ _ _ _ _ _ _ _ _ _ PySem.F.plainAttrs_str $0 $1 $2 $3 $4 #0 #0 #0 #0 #0
aY @pe_slice _ _ _ _ _ _ _ _ _ _ $0 $1 $2 $3
aZ List.mem_of_mem_take $0
a0 zcW p w os n pos
a1 tupleKind ( zC P w )
a2 assignEach es X.env
a3 some ( .builtin "object.__setattr__" )
a4 some ( .builtin "object.__class__" )
a5 some mainGlobals
a6 .frz o ( ExO C a )
a7 @pa_cons _ _ _ _ _ ( pv 1 ) ( @pa_cons _ _ _ _ _ ( pv 2 ) pa_nil #0 ) #0
a8 Str.ofString "KNOWN"
a9 List.length_eq_zero_iff.mp $0
ba .ins C dx ( yL f y fs )
bb .builtin "object.__class__"
bc List.nodup_cons.mp nd
bd Nat.ne_of_lt ( lfp b hb )
be wpAny_field hi rfl rfl ?_
bf Str.ofString "qwertz"
bg zbA #2 n1 f1
bh @pe_powc _ _ $0 _ _ _ _ _ #2 #2
bi zk.app $0 ( .cons #16 #16 ( .cons #16 #16 .nil ) )
bj @zec _ _ $0 _ _ _ _ _ _ nd rfl ( Or.inl rfl ) $1 zed #4
bk @pt_cmpR _ _ _ _ _ _ _ _ op_in_seq $0 $1 rfl
bl PySem.W.instObj C s.heap.objs.size
bm PySem.F.args_tuple_add_2 _ _
bn xU ( CXE P w ) P w K mg base N qual scope f cd A outer #19 #20 E
bo X.blockF pins scope x ys cl ex s H
bp @pe_defS _ _ _ _ _ _ _ _ _ _ _ D_is_whole ( hr.mono #2 ) rfl xpass_nox ( @pa_cons _ _ _ _ _ ( @pe_ix _ _ _ _ _ _ _ ix_A ( pv 0 ) pe_int #12 ) pa_nil #0 ) #2 #0 #0
bq @pss_one _ _ _ ( @ps_ret _ _ _ _ ( pv 2 ) )
br @pss_one _ _ _ ( @ps_ret _ _ _ _ ( pv 4 ) )
bs @pe_callB _ _ _ _ _ _ _ _ _ call_lenA rfl B.len PySem.boot_len ( @pa_cons _ _ _ _ _ ( pv 1 ) pa_nil #0 ) #2 #2 #0 #0
bt @pa_cons _ _ _ _ _ ( pv 5 ) pa_nil #0
bu @pt_cmpR _ _ _ _ _ _ _ _ ( op_eqA hr.units0 ) ( pv 4 ) pe_str ( nomark _ )
bv fu.not ( yc #1 )
bw @pe_op _ _ _ _ _ _ _ _ op_mulA pe_int ( pv 1 )
bx @pe_ix _ _ _ _ _ _ _ ix_A ( pv 1 ) ( pv 5 ) #12
by @pa_cons _ _ _ _ _ ( @pe_tup _ _ _ _ _ ( @pa_cons _ _ _ _ _ pe_str ( @pa_cons _ _ _ _ _ ( pv 1 ) pa_nil #0 ) #0 ) ) pa_nil #0
bz @zbl _ _ _ _ _ _ _ _ _ _ _ _ _ $0 C.Desk.cl $1 ( hr.mono #2 ) xpass_cx ( pv 0 ) #0
bA zk.app $0 ( .cons #16 #16 .nil )
bB zax nc $0 ( zay #1 ) #1 $1
bC @pi_range1 _ _ _ _ _ _ rfl B.range $0 #0
bD wpAny_callSpecial?_slot hi.ti.typeIs slot_tupleiter_next ( wpAny_call_entry slot_tupleiter_next hi.ti.typeIs entry_tupleiter_next ?_ ( args_tupleiter_next _ ) )
bE yp D2 Z.fo2 ( yp D2 Z.f12 ( yp D2 Z.fz2 st2 k1 ) k2 ) k3
bF @pt_cmpR _ _ _ _ _ _ _ _ ( op_eqA hr.units0 ) ( @pe_op _ _ _ _ _ _ _ _ op_modA ( pv 0 ) pe_int ) pe_int ( nomark _ )
bG @pt_cmpR _ _ _ _ _ _ _ _ ( op_eqA hr.units0 ) ( @pe_op _ _ _ _ _ _ _ _ op_modA ( pv 1 ) pe_int ) pe_int ( nomark _ )
bH @pe_defS _ _ _ _ _ _ _ _ _ _ _ D_sum_rows ( hr.mono #2 ) rfl xpass_cx ( @pa_cons _ _ _ _ _ ( pv 0 ) ( @pa_cons _ _ _ _ _ ( pv 1 ) ( @pa_cons _ _ _ _ _ ( pv 2 ) ( @pa_cons _ _ _ _ _ ( pv 3 ) pa_nil #0 ) #0 ) #0 ) #0 ) #2 #0 #0
bI @pe_defS _ _ _ _ _ _ _ _ _ _ _ D_row_together ( hr.mono #2 ) rfl xpass_nox ( @pa_cons _ _ _ _ _ ( @pe_ix _ _ _ _ _ _ _ ix_A ( pv 0 ) pe_int #12 ) ( @pa_cons _ _ _ _ _ ( pv 1 ) pa_nil #0 ) #0 ) #2 #0 #0
bJ @pe_bm _ _ _ _ _ _ _ _ _ _ _ _ PySem.F.plainAttrs_str PySem.F.slot_str_split PySem.F.type_str_split mt_split ( pv 0 ) ( @pa_cons _ _ _ _ _ pe_str pa_nil #0 ) #0 #0 #0 #0 #0
bK @zbJ _ _ _ _ _ _ _ _ _ ( pv 1 ) ( @po_some _ _ _ pe_int ) ( @po_some _ _ _ pe_int )
bL @pe_callB _ _ _ _ _ _ _ _ _ call_lenA rfl B.len PySem.boot_len ( @pa_cons _ _ _ _ _ ( pv 2 ) pa_nil #0 ) #2 #2 #0 #0
bM @pe_glob _ _ ( .ref tWORD_FORM ) _ _ rfl mWORD_FORM rfl #2
bN @pe_slice _ _ _ _ _ _ _ _ _ _ zjj ( pv 2 ) ( @po_some _ _ _ pe_int ) po_none
bO @pe_defS _ _ _ _ _ _ _ _ _ _ _ D__law_cell ( hr.mono #2 ) rfl xpass_nox ( @pa_cons _ _ _ _ _ ( pv 0 ) ( @pa_cons _ _ _ _ _ pe_int pa_nil #0 ) #0 ) #2 #0 #0
bP @ps_if _ _ _ _ _ _ _ _ ( @pt_cmpR _ _ _ _ _ _ _ _ ( op_eqA hr.units0 ) ( @pe_ix _ _ _ _ _ _ _ ix_A ( pv 1 ) pe_int #12 ) pe_str ( nomark _ ) ) $0 $1"#.splitOn "\n"
def sA(t:Nat->Lean.Term)(w:String):Lean.MacroM Lean.Term:=do
 let r:=(w.drop 1).toString
 match w.front with
 |'@'=>`(@$(Lean.mkIdent r.toName))
 |'$'=>return t r.toNat!
 |'#'=>sL r
 |'.'=>`(.$(Lean.mkIdent r.toName))
 |'"'=>return Lean.Syntax.mkStrLit (r.dropEnd 1).toString
 |'?'=>`(?_)
 |c=>if w=="_" then `(_) else if c.isDigit then return Lean.Syntax.mkNumLit w else return Lean.mkIdent w.toName
def sJ:List Lean.Term->Lean.Term
 |[f]=>f
 |f::l=>Lean.Syntax.mkApp f l.toArray
 |[]=>⟨.missing⟩
def sP(t:Nat->Lean.Term):Nat->List String->Lean.MacroM (List Lean.Term×List String)
 |0,r=>return ([],r)
 |_,[]=>return ([],[])
 |n+1,w::r=>do
  if w==")" then return ([],r)
  let (a,r)<-if w=="(" then do
    let (l,r)<-sP t n r
    pure (sJ l,r)
   else do
    let a<-sA t w
    pure (a,r)
  let (l,r)<-sP t n r
  return (a::l,r)
local macro_rules|`(s! $x)=>do
 let some c:=(x.raw.getArg 0).isInterpolatedStrLit?|Lean.Macro.throwUnsupported
 let some b:=sT.find? (·.startsWith (c++" "))|Lean.Macro.throwUnsupported
 let (l,_)<-sP (fun i=>⟨x.raw.getArg (2*i+1)⟩) 999 ((b.splitOn " ").drop 1)
 return sJ l
set_option internal.cmdlineSnapshots true
set_option Elab.async false
set_option linter.all false
set_option maxRecDepth 100000
local macro_rules|`(tactic|walk_at "wp")=>`(tactic|first|with_reducible refine PySem.wpAny_pure ?_|with_reducible refine PySem.wpAny_bind ?_|with_reducible refine PySem.wpAny_attempt ?_|((with_reducible refine' PySem.wpAny_mkStr' ?_ ?zb);case zb=>size_fits)|((with_reducible apply PySem.wpAny_ite_false);focus(rfl;done))|((with_reducible apply PySem.wpAny_ite_true);focus(rfl;done))|wp_delta|wp_step)
namespace Hd
open PySem PySem.W PyProof.Rows
noncomputable def s0 (w:World) (os:OsState):Shared:=⟨boot_heap w.params,#[],boot_drawn,boot_toks,os⟩
abbrev ann:Option Value:=some (.ref 6)
abbrev P0:Pos:=⟨0,0,0,0⟩
abbrev BB:List Frame:=[topFrame P0]
def env (p:Program):Env:={ scope:=p.main.scope,locals:=mainNs,globals:=mainNs,cells:=[],code:=.ref 13,frame:=some 14 }
def cE (p:Program):Code:=.body (behindTheImports p) (env p)
noncomputable def ziV (p:Program) (w:World) (os:OsState):=topGo treeTable p w 11 ann 12 (s0 w os) (topStub p)
noncomputable def SA (p:Program) (w:World) (os:OsState):Shared:=((ziV p w os).map Prod.fst).getD (s0 w os)
noncomputable def T0 (p:Program) (w:World) (os:OsState):SharedT:=⟨((SA p w os).heap.objs.toList.foldl (fun (x:BT×Nat) o=>(x.1.ins x.2 o,x.2+1)) (BT.nil,0)).1,(SA p w os).heap.objs.size,(SA p w os).heap.life,(SA p w os).gens,(SA p w os).drawn,(SA p w os).toks,os⟩
noncomputable def zae (p:Program) (w:World) (os:OsState) (n:Nat):=segRunT treeTable p w 11 ann 1 n (T0 p w os) (piecesOf (behindTheImports p) (env p) (cE p) P0 BB)
noncomputable def S3 (p:Program) (w:World) (os:OsState) (n:Nat):SharedT:=((zae p w os n).map fun x=>x.2.1).getD (T0 p w os)
noncomputable def zcW (p:Program) (w:World) (os:OsState) (n:Nat) (pos:Pos):Option Shared:=(zae p w os n).bind fun x=>topRun treeTable p w 11 ann 2 x.2.1.abs ⟨doneF .next,cE p,pos,BB⟩
theorem zpO:∀w:World,((boot_heap w.params).isNs mainGlobals && (#[]:Array GenState).size==0,(boot_heap w.params).objs.size,(boot_heap w.params).nsMap mainGlobals "__annotations__")=(true,11,ann):=fun w=>by kernel_rfl
theorem zhK {p q:Program} {loose:List Str} {Xt:Shared->Bool} {α:Type} {Yf:Shared->α} {Ya:World->α} {N n:Nat} {pos:Pos}
 (e:opening p=plainProg p.main.scope.names) (hN:Nat.ble 600 N=true) (f:∀s,fenceModules? p s=some s) (le:Nat.ble (12+(1+(n+2))) N=true)
 (h1:∀w os,ziV p w os=some (SA p w os,⟨denote treeTable (cE p),cE p,P0,BB⟩))
 (h2:∀w os,segRun treeTable p w 11 ann 1 1 (SA p w os) (blockOf (behindTheImports p) (env p) (cE p) P0 BB)=some (.next,(T0 p w os).abs,cE p,P0))
 (h3:∀w os,(zae p w os n,s!"a0".map fun s=>(staticsOk (importedModules p.main.body) (boot_heap w.params) s.heap && namesBound p s.heap && gensDone s && laidKept (boot_heap w.params) s.heap,openSeen q loose (importedModules p.main.body) Xt true s,Yf s))=(some (.next,S3 p w os n,cE p,pos),some (true,openGood q loose,Ya w))):
 LeftO p q loose Xt Yf Ya N:=fun w=>by
 obtain ⟨⟨h,gs,d,k,os⟩,e0,e'⟩:=Option.map_eq_some_iff.mp (boot_open e hN f w);obtain ⟨rfl,rfl,rfl,rfl⟩:h=boot_heap w.params/\gs=Array.mk []/\d=boot_drawn/\k=boot_toks:=by simpa using e'
 obtain ⟨z1,z2,z3⟩:_/\_/\_:=by simpa only [Prod.mk.injEq] using zpO w
 have p3:=congrArg Prod.fst (h3 w os);have l3:=congrArg Prod.snd (h3 w os);dsimp only at p3 l3;obtain ⟨s,hs,hl⟩:=Option.map_eq_some_iff.mp l3;obtain ⟨l1,l2,l4⟩:_/\_/\_:=by simpa only [Prod.mk.injEq] using hl
 unfold zcW at hs;rw [p3] at hs;have run0:=go_top (h1 w os) (piece_block (h2 w os) (r:=s) (N:=n+2) (by
  have:=piece_app (env:=env p) (rest:=[]) (segRun_of p3) (piece_nil hs)
  rwa [List.append_nil] at this))
 have r:=topRun_mono (N-(12+(1+(n+2)))) _ _ _ _ run0;rw [show 12+(1+(n+2))+(N-(12+(1+(n+2))))=N by have:=Nat.le_of_ble_eq_true le;omega] at r
 have t:topFrom treeTable p w N ⟨boot_heap w.params,Array.mk [],boot_drawn,boot_toks,os⟩=some s:=by
  unfold topFrom;dsimp only;rw [z1,z2,z3];have r':topRun treeTable p w 11 ann N ⟨boot_heap w.params,Array.mk [],boot_drawn,boot_toks,os⟩ (topStub p)=some s:=r;rw [r'];show (match staticsOk (importedModules p.main.body) (boot_heap w.params) s.heap && namesBound p s.heap && gensDone s && laidKept (boot_heap w.params) s.heap with | true=>some s | false=>none)=_
  rw [l1]
 unfold openEnds;rw [e0];show (topFrom treeTable p w N ⟨boot_heap w.params,Array.mk [],boot_drawn,boot_toks,os⟩).map _=_;rw [t];show some (_,_)=_;rw [l2,l4]
theorem zfZ {p q:Program} {loose:List Str} {Xt:Shared->Bool} {α:Type} {Yf:Shared->α} {Ya:World->α} {N n:Nat} {pos:Pos}
 (e:opening p=plainProg p.main.scope.names) (hN:Nat.ble 600 N=true) (f:∀s,fenceModules? p s=some s) (le:Nat.ble (12+(1+(n+2))) N=true)
 (h1:∀w os,ziV p w os=some (SA p w os,⟨denote treeTable (cE p),cE p,P0,BB⟩))
 (h2:∀w os,segRun treeTable p w 11 ann 1 1 (SA p w os) (blockOf (behindTheImports p) (env p) (cE p) P0 BB)=some (.next,(T0 p w os).abs,cE p,P0))
 (h3:∀w os,zae p w os n=some (.next,S3 p w os n,cE p,pos))
 (h4:∀w os,s!"a0".map (fun s=>staticsOk (importedModules p.main.body) (boot_heap w.params) s.heap && namesBound p s.heap && gensDone s && laidKept (boot_heap w.params) s.heap)=some true)
 (h5:∀w os,s!"a0".map (openSeen q loose (importedModules p.main.body) Xt true)=some (openGood q loose))
 (h6:∀w os,s!"a0".map Yf=some (Ya w)):
 LeftO p q loose Xt Yf Ya N:=zhK e hN f le h1 h2 (fun w os=>by
  have a:=h4 w os;have b:=h5 w os;have c:=h6 w os;rw [h3 w os];cases hf:zcW p w os n pos with
  | none=>rw [hf] at a;cases a
  | some s=>
   rw [hf] at a b c;have a':=Option.some.inj a;dsimp only at a';have b':=Option.some.inj b;have c':=Option.some.inj c;show (_,some (_,_,_))=_;rw [a',b',c'])
noncomputable def zpP (p:Program) (w:World) (n:Nat) (T:SharedT):=segRunT treeTable p w 11 ann 1 n T (piecesOf (behindTheImports p) (env p) (cE p) P0 BB)
noncomputable def zea (p:Program) (w:World) (n:Nat) (pos:Pos) (T:SharedT):Option Shared:=(zpP p w n T).bind fun x=>topRun treeTable p w 11 ann 2 x.2.1.abs ⟨doneF .next,cE p,pos,BB⟩
noncomputable def lk1 (p q:Program) (n:Nat) (pos:Pos) (w:World) (b:Heap) (T:SharedT):=((zpP p w n T).map fun x=>(x.1,x.2.2),(zea p w n pos T).map fun s=>((staticsOk (importedModules p.main.body) b s.heap && namesBound p s.heap && gensDone s && laidKept b s.heap,plainSeenE q (looseW q []) s),pinSeenD q (drecsOf q) s,plainSeenD q [] s,clsSeenW q [] s))
noncomputable def lk3 (p q:Program) (n:Nat) (pos:Pos) (w:World) (T:SharedT):=(zea p w n pos T).map fun s=>(tabsOk q s,wideSeen q s)
noncomputable def lk4 (p q:Program) (rc:WRecords) (n:Nat) (pos:Pos) (w:World) (T:SharedT):=(zea p w n pos T).map fun s=>((s.heap.bltView,s.heap.keysOk (looseW q []) ((recsOf q).map (·.name)) ((litsOf q).map (·.1)) ((clssOf q (looseW q [])).map (·.name)) && s.heap.accountedOkI (importedModules p.main.body) && s.heap.isNs mainGlobals && s.heap.isNs builtinsNs && tablesOk q s.heap && (xlAt q [] s && recOk rc s) && (s.gens.size==0)),seen ((recsOf q).map (·.name)) (ownsOf q) [] { s with gens:=#[] })
theorem zf0 {rc:WRecords} {α:Type} {Yf:Shared->α} {Ya:World->α} {n:Nat} {pos:Pos} {L1 L3 L4 FN} (e1:lk1=L1) (e3:lk3=L3) (e4:lk4=L4) (eF:zea=FN)
 (e:opening p=plainProg p.main.scope.names) (hN:Nat.ble 600 N=true) (f:∀s,fenceModules? p s=some s) (le:Nat.ble (12+(1+(n+2))) N=true)
 (h1:∀w os,ziV p w os=some (SA p w os,⟨denote treeTable (cE p),cE p,P0,BB⟩))
 (h2:∀w os,segRun treeTable p w 11 ann 1 1 (SA p w os) (blockOf (behindTheImports p) (env p) (cE p) P0 BB)=some (.next,(T0 p w os).abs,cE p,P0))
 (l1:∀w os,L1 p q n pos w (boot_heap w.params) (T0 p w os)=(some (.next,cE p,pos),some ((true,plainGoodE q (looseW q [])),pinGoodD (drecsOf q),plainGoodD q [],clsGoodW q [])))
 (l3:∀w os,L3 p q n pos w (T0 p w os)=some (true,wideGood q))
 (l4:∀w os,L4 p q rc n pos w (T0 p w os)=some ((bltViewBooted,true),expectedOf q))
 (h4:∀w os,(FN p w n pos (T0 p w os)).map Yf=some (Ya w)):
 LeftO p q [] (fun s=>xlAt q [] s && recOk rc s) Yf Ya N:=by
 subst e1 e3 e4 eF
 have r3:∀w os,zae p w os n=some (.next,S3 p w os n,cE p,pos):=fun w os=>by
  have a:(zae p w os n).map (fun x=>(x.1,x.2.2))=some (.next,cE p,pos):=congrArg Prod.fst (l1 w os)
  obtain ⟨⟨a1,a2,a3⟩,ha,hb⟩:=Option.map_eq_some_iff.mp a
  obtain ⟨rfl,rfl⟩:=Prod.mk.inj hb
  unfold S3
  rw [ha]
  rfl
 have z:∀w os,(zcW p w os n pos).map (fun s=>((staticsOk (importedModules p.main.body) (boot_heap w.params) s.heap && namesBound p s.heap && gensDone s && laidKept (boot_heap w.params) s.heap,plainSeenE q (looseW q []) s),pinSeenD q (drecsOf q) s,plainSeenD q [] s,clsSeenW q [] s))=some ((true,plainGoodE q (looseW q [])),pinGoodD (drecsOf q),plainGoodD q [],clsGoodW q []):=fun w os=>congrArg Prod.snd (l1 w os)
 exact zfZ e hN f le h1 h2 r3 (fun w os=>by
  obtain ⟨s,hs,hb⟩:=Option.map_eq_some_iff.mp (z w os)
  rw [hs]
  exact congrArg some (Prod.mk.inj (Prod.mk.inj hb).1).1) (fun w os=>by
  obtain ⟨s,hs,hb⟩:=Option.map_eq_some_iff.mp (z w os)
  have a3:(zcW p w os n pos).map _=_:=l3 w os
  have a4:(zcW p w os n pos).map _=_:=l4 w os
  rw [hs] at a3 a4 ⊢
  have b3:=Option.some.inj a3
  have b4:=Option.some.inj a4
  simp only [Prod.mk.injEq] at b3 b4 hb
  show some (_,_,(_ && _),_,_,_,_,_,_)=some (_,_,_,_,_,_,_,_,_)
  refine congrArg some (Prod.ext b4.2 (Prod.ext b4.1.1 (Prod.ext b4.1.2 (Prod.ext b3.1 (Prod.ext hb.2.1 (Prod.ext hb.1.2 (Prod.ext hb.2.2.1 (Prod.ext b3.2 hb.2.2.2))))))))) h4
end Hd
section
namespace My
open PySem
def top (i:Nat):Stmt:=PySem.Challenge.pw_sawsign_k70_desk_refuses.main.body.getD i (.Pass ⟨0,0,0,0⟩)
end My
def My.view:PySem.Program:={ PySem.Challenge.pw_sawsign_k70_desk_refuses with main:={ PySem.Challenge.pw_sawsign_k70_desk_refuses.main with body:=[My.top 1,My.top 2,My.top 3,My.top 4,My.top 5,My.top 6,My.top 7,My.top 8,My.top 9,My.top 10,My.top 11,My.top 12,My.top 13,My.top 14,My.top 15,My.top 16,My.top 18,My.top 19,My.top 20,My.top 21,My.top 22,My.top 24,My.top 25,My.top 27,My.top 28,My.top 29,My.top 30,My.top 32,My.top 33,My.top 34,My.top 36,My.top 38,My.top 39,My.top 41,My.top 42,My.top 43,My.top 45,My.top 46,My.top 47,My.top 48,My.top 49,My.top 50,My.top 51,My.top 52,My.top 54,My.top 55,My.top 56,My.top 57,My.top 58,My.top 59,My.top 60,My.top 61,My.top 63,My.top 64,My.top 65,My.top 66,My.top 67,My.top 68,My.top 69,My.top 70,My.top 71,My.top 72,My.top 73,My.top 74,My.top 76,My.top 77,My.top 78,My.top 79,My.top 80,My.top 81,My.top 82,My.top 83,My.top 84,My.top 85,My.top 86,My.top 87,My.top 88,My.top 89,My.top 91,My.top 92,My.top 93,My.top 94,My.top 95,My.top 96,My.top 97,My.top 98,My.top 99] } }
open PySem PySem.W PyProof.Rows
set_option maxHeartbeats 0
lay_quick Hd.lk1 Hd.lk3 Hd.lk4 Hd.zea
theorem My.elk1:Hd.lk1=Hd.lk1:=rfl
name_quick lk1Q for Hd.lk1 by My.elk1
theorem My.elk3:Hd.lk3=Hd.lk3:=rfl
name_quick lk3Q for Hd.lk3 by My.elk3
theorem My.elk4:Hd.lk4=Hd.lk4:=rfl
name_quick lk4Q for Hd.lk4 by My.elk4
theorem My.efinS:Hd.zea=Hd.zea:=rfl
name_quick finSQ for Hd.zea by My.efinS
theorem My.h1:∀w os,Hd.ziV PySem.Challenge.pw_sawsign_k70_desk_refuses w os=some (Hd.SA PySem.Challenge.pw_sawsign_k70_desk_refuses w os,⟨denote treeTable (Hd.cE PySem.Challenge.pw_sawsign_k70_desk_refuses),Hd.cE PySem.Challenge.pw_sawsign_k70_desk_refuses,Hd.P0,Hd.BB⟩):=fun _ _=>by kernel_rfl
theorem My.h2:∀w os,segRun treeTable PySem.Challenge.pw_sawsign_k70_desk_refuses w 11 Hd.ann 1 1 (Hd.SA PySem.Challenge.pw_sawsign_k70_desk_refuses w os) (blockOf (behindTheImports PySem.Challenge.pw_sawsign_k70_desk_refuses) (Hd.env PySem.Challenge.pw_sawsign_k70_desk_refuses) (Hd.cE PySem.Challenge.pw_sawsign_k70_desk_refuses) Hd.P0 Hd.BB)=some (.next,(Hd.T0 PySem.Challenge.pw_sawsign_k70_desk_refuses w os).abs,Hd.cE PySem.Challenge.pw_sawsign_k70_desk_refuses,Hd.P0):=fun _ _=>by kernel_rfl
theorem My.hl1:∀w os,Fast.lk1Q PySem.Challenge.pw_sawsign_k70_desk_refuses My.view 12000 ⟨485,0,510,114⟩ w (boot_heap w.params) (Hd.T0 PySem.Challenge.pw_sawsign_k70_desk_refuses w os)=(some (.next,Hd.cE PySem.Challenge.pw_sawsign_k70_desk_refuses,⟨485,0,510,114⟩),some ((true,plainGoodE My.view (looseW My.view [])),pinGoodD (drecsOf My.view),plainGoodD My.view [],clsGoodW My.view [])):=fun _ _=>by kernel_rfl
theorem My.hl3:∀w os,Fast.lk3Q PySem.Challenge.pw_sawsign_k70_desk_refuses My.view 12000 ⟨485,0,510,114⟩ w (Hd.T0 PySem.Challenge.pw_sawsign_k70_desk_refuses w os)=some (true,wideGood My.view):=fun _ _=>by kernel_rfl
theorem My.hl4:∀w os,Fast.lk4Q PySem.Challenge.pw_sawsign_k70_desk_refuses My.view (RowW.records (OpenRow.toRowW (OpenLaw.row PySem.Challenge.rw_sawsign_k70_desk_refuses))) 12000 ⟨485,0,510,114⟩ w (Hd.T0 PySem.Challenge.pw_sawsign_k70_desk_refuses w os)=some ((bltViewBooted,true),expectedOf My.view):=fun _ _=>by kernel_rfl
theorem My.ews:OpenLaw.wellSaid=OpenLaw.wellSaid:=rfl
name_quick wsQ for OpenLaw.wellSaid by My.ews
theorem My.hs:Fast.wsQ PySem.Challenge.rw_sawsign_k70_desk_refuses=true:=by kernel_rfl
local macro_rules | `(tactic| o_law) => `(tactic| refine holds_law ((congrFun Fast.wsQ_eq PySem.Challenge.rw_sawsign_k70_desk_refuses).trans My.hs) fun said => ?_)
local macro_rules | `(tactic| o_head $H:term) => `(tactic| (
  refine holds_open (q := My.view) (loose := []) (Xt := fun s => xlAt My.view [] s && recOk (RowW.records (OpenRow.toRowW (OpenLaw.row PySem.Challenge.rw_sawsign_k70_desk_refuses))) s) (XP := XL My.view []) (Yf := Hook.obs $H) (Ya := Hook.val $H) (YP := Hook.says $H) (N := 13000) ?hl (Hook.of $H) (Hook.keeps $H) (fun s e => xl_of s (Bool.and_eq_true_iff.mp e).1) XL.keeps (by rfl) (by rfl) (by rfl) (fun s e => recFacts_of (Bool.and_eq_true_iff.mp e).2) (by rfl) (by first | assumption | decide +kernel) (by decide +kernel) ⟨rfl, rfl, rfl, rfl, rfl, by decide +kernel⟩ ?hw ?hc
  (case hl => exact Hd.zf0 (n := 12000) (pos := ⟨485, 0, 510, 114⟩) Fast.lk1Q_eq Fast.lk3Q_eq Fast.lk4Q_eq Fast.finSQ_eq (by kernel_rfl) (by decide) (fun _ => by kernel_rfl) (by decide) My.h1 My.h2 My.hl1 My.hl3 My.hl4 (fun _ _ => by kernel_rfl))))
set_option maxHeartbeats 0 in
open_top hd for PySem.Challenge.rw_sawsign_k70_desk_refuses
end
namespace L2
open PySem PySem.Spec PyProof.Rows
abbrev Key:=Sum Int Str
def zdf:Key->Value->Bool
 | .inl k,v=>Value.isInt k v
 | .inr x,v=>Value.isStrOf x v
def zrc (w:World):Key->Int
 | .inl k=>hashInt k
 | .inr x=>hashStr w x
theorem keyIs_shape:∀{k:Key} {v:Value},zdf k v=true->(∃i t,k=Sum.inl i/\v=Value.int i t)\/(∃x t,k=Sum.inr x/\v=Value.str x t)
 | .inl i,v,h=>by
  obtain ⟨t,e⟩:=Value.isInt_shape (k:=i) (v:=v) h;exact .inl ⟨i,t,rfl,e⟩
 | .inr x,v,h=>by
  obtain ⟨t,e⟩:=Value.isStrOf_shape (x:=x) (v:=v) h;exact .inr ⟨x,t,rfl,e⟩
theorem zhL (i:Int) (t:Tok):zdf (.inl i) (.int i t)=true:=by simp [zdf,Value.isInt]
theorem zhM (x:Str) (t:Tok):zdf (.inr x) (.str x t)=true:=by simp [zdf,Value.isStrOf]
theorem zoj (a b:Int):decide ((Sum.inl a:Key)=Sum.inl b)=(a==b):=by
 by_cases e:a=b
 ·subst e;simp
 ·have h:¬(Sum.inl a:Key)=Sum.inl b:=fun q=>e (Sum.inl.inj q)
  rw [decide_eq_false h];exact (beq_eq_false_iff_ne.mpr e).symm
theorem zok (a b:Str):decide ((Sum.inr a:Key)=Sum.inr b)=decide (a=b):=by
 by_cases e:a=b
 ·subst e;simp
 ·have h:¬(Sum.inr a:Key)=Sum.inr b:=fun q=>e (Sum.inr.inj q)
  rw [decide_eq_false h,decide_eq_false e]
theorem zol (a:Int) (b:Str):decide ((Sum.inl a:Key)=Sum.inr b)=false:=decide_eq_false (fun q=>nomatch q)
theorem zom (a:Str) (b:Int):decide ((Sum.inr a:Key)=Sum.inl b)=false:=decide_eq_false (fun q=>nomatch q)
def zC (prog:Program) (w:World):PySem.KeyKind prog w Key where
 is:=zdf
 hash:=zrc w
 inj:=fun v a b ha hb=>by
  rcases keyIs_shape ha with ⟨i,t,rfl,rfl⟩ | ⟨x,t,rfl,rfl⟩
  ·rcases keyIs_shape hb with ⟨j,u,rfl,e⟩ | ⟨y,u,rfl,e⟩
   ·injection e with e1 _;rw [e1]
   ·exact nomatch e
  ·rcases keyIs_shape hb with ⟨j,u,rfl,e⟩ | ⟨y,u,rfl,e⟩
   ·exact nomatch e
   ·injection e with e1 _;rw [e1]
 byValue:=fun k v h=>by
  rcases keyIs_shape h with ⟨i,t,rfl,rfl⟩ | ⟨x,t,rfl,rfl⟩ <;> rfl
 pyHash:=fun hv h=>by
  rcases keyIs_shape hv with ⟨i,t,rfl,rfl⟩ | ⟨x,t,rfl,rfl⟩
  ·exact wpAny_pyHash_int h
  ·exact wpAny_pyHash_str h
 eqBool:=fun hu hv h=>by
  rcases keyIs_shape hu with ⟨i,t,rfl,rfl⟩ | ⟨x,t,rfl,rfl⟩
  ·rcases keyIs_shape hv with ⟨j,u,rfl,rfl⟩ | ⟨y,u,rfl,rfl⟩
   ·rw [zoj] at h;exact wpAny_eqBool_int h
   ·rw [zol] at h;exact SeqAt.EqAt.int_str i t y u _ _ _ _ h
  ·rcases keyIs_shape hv with ⟨j,u,rfl,rfl⟩ | ⟨y,u,rfl,rfl⟩
   ·rw [zom] at h;exact SeqAt.EqAt.str_int x t j u _ _ _ _ h
   ·rw [zok] at h;exact wpAny_eqBool_str h
 «strs»:=fun k x t v h=>by
  rcases keyIs_shape h with ⟨i,u,rfl,e⟩ | ⟨y,u,rfl,e⟩
  ·exact nomatch e
  ·injection e with e1 _
   subst e1;cases v <;> rfl
theorem zfd (prog:Program) (w:World) (i:Int) (t:Tok):(zC prog w).is (.inl i) (.int i t)=true:=zhL i t
theorem zfe (prog:Program) (w:World) (x:Str) (t:Tok):(zC prog w).is (.inr x) (.str x t)=true:=zhM x t
inductive V where
 | non | bl (b:Bool) | int (i:Int) | str (x:Str) | byt (b:Array UInt8) | flt (b:UInt64) | ref (a:Addr) | ty (n:String)
 deriving DecidableEq
def zq:V->Value->Prop
 | .non,u=>u=Value.none
 | .bl b,u=>u=Value.bool b
 | .int i,u=>∃t,u=Value.int i t
 | .str x,u=>∃t,u=Value.str x t
 | .byt b,u=>∃t,u=Value.bytes b t
 | .flt b,u=>∃t,u=Value.float b t
 | .ref a,u=>u=Value.ref a
 | .ty n,u=>u=Value.type n
abbrev zo:List V->List Value->Prop:=Paired zq
theorem zo.length {xs:List V} {us:List Value} (r:zo xs us):xs.length=us.length:=Paired.length r
theorem zo.get:∀{xs:List V} {us:List Value} {i:Nat} {x:V},zo xs us->xs[i]? =some x->∃u,us[i]? =some u/\zq x u
 | _,_,_,_,.nil,e=>by simp at e
 | _,_,0,_,.cons r _,e=>by simp at e;subst e;exact ⟨_,rfl,r⟩
 | _,_,i+1,x,.cons _ t,e=>by
  obtain ⟨u,h1,h2⟩:=zo.get (i:=i) (x:=x) t (by simpa using e)
  exact ⟨u,by simpa using h1,h2⟩
theorem zo.append:∀{xs ys:List V} {us ws:List Value},zo xs us->zo ys ws->zo (xs++ys) (us++ws)
 | _,_,_,_,.nil,s=>s
 | _,_,_,_,.cons r t,s=>.cons r (zo.append t s)
theorem zo.take:∀{xs:List V} {us:List Value} (n:Nat),zo xs us->zo (xs.take n) (us.take n)
 | _,_,0,_=>.nil
 | _,_,_+1,.nil=>.nil
 | _,_,n+1,.cons r t=>.cons r (zo.take n t)
theorem zo.drop:∀{xs:List V} {us:List Value} (n:Nat),zo xs us->zo (xs.drop n) (us.drop n)
 | _,_,0,r=>r
 | _,_,_+1,.nil=>.nil
 | _,_,n+1,.cons _ t=>zo.drop n t
def xk:Option V->Option Value->Prop
 | some v,some u=>zq v u
 | none,none=>True
 | _,_=>False
def KV {κ:Type}:List (κ×V)->List (κ×Value)->Prop:=Paired fun (p:κ×V) (q:κ×Value)=>p.1=q.1/\zq p.2 q.2
def kV:Key->V
 | .inl i=>.int i
 | .inr x=>.str x
inductive HO where
 | lst (xs:List V)
 | tup (xs:List V)
 | dK (kvs:List (Key×V)) | dT (kvs:List (List Key×V))
 | set (S:Int->Bool) (n:Nat)
 | ins (C dx:Addr) (fs:List (Str×V))
 | own (x:Addr)
 | xd (fs:List (Str×V))
 | met (f x:Addr)
 | rng (lo hi:Int)
 | frz (o:Obj) (u:HO)
 | tbl (ps:Array Value)
 | ext (φ:Heap->Prop)
abbrev Hp:=Addr->Option HO
def upd (H:Hp) (a:Addr) (o:HO):Hp:=fun b=>if b=a then some o else H b
theorem zi {H:Hp} {a:Addr} {o:HO}:upd H a o a=some o:=by unfold upd;rw [if_pos rfl]
theorem zg {H:Hp} {a b:Addr} {o:HO} (h:b≠a):upd H a o b=H b:=by unfold upd;rw [if_neg h]
theorem zgU {H:Hp} {a b:Addr} {o u:HO} (h:H a=some o) (h':H b=some u) (d:o≠u):a≠b:=by
 intro e;subst e;rw [h] at h';exact d s!"9{h'}"
theorem yd {H:Hp} {a b:Addr} {o:HO} (h:H a=some o) (h':H b=none):a≠b:=by
 intro e;subst e;rw [h] at h';cases h'
section
variable (P:Program) (w:World)
def zy (H:Hp) (h:Heap) (a:Addr):HO->Prop
 | .lst xs=>xs.length<=sizeLine/\∃(its:List Value) (n:Nat),zo xs its/\h.get? a=some { cls:=.type "list",data:=.seq its.toArray n }
 | .tup xs=>xs.length<=sizeLine/\∃its:List Value,zo xs its/\IsTup h a its.toArray
 | .dK kvs=>kvs.length<=sizeLine/\(a==sysModules)=false/\∃vs,KV kvs vs/\h.DictOf (zC P w) a vs
 | .dT kvs=>kvs.length<=sizeLine/\(a==sysModules)=false/\∃xs:List (List Key×Addr×Value),
  Paired (fun (p:List Key×V) (q:List Key×Addr×Value)=>p.1=q.1/\H q.2.1=some (.tup (p.1.map kV))/\zq p.2 q.2.2) kvs xs/\
  ∃o es ep,h.get? a=some o/\o.ExactDict/\o.data=.dict es ep/\es.toList=xs.map (entryOfKey s!"a1")/\(xs.map (·.1)).Nodup
 | .set S n=>h.SetOf (intKind P w) a S n
 | .ins C dx fs=>H dx=some (.own a)/\fs.length<=1000/\dx≠a/\h.get? a=some (PySem.W.instObj C dx)/\
  ∃mA,h.Ns1 dx mA/\(∀f,xk (fs.lookup f) (mA f))/\PySem.Within mA (fs.map (·.1))
 | .own _=>∃o,h.get? a=some o
 | .xd fs=>∃mA,h.Ns1 a mA/\∀f,xk (fs.lookup f) (mA f)
 | .rng lo hi=>∃t u v,h.get? a=some { cls:=.type "range",data:=.fields #[.int lo t,.int hi u,.int 1 v] }
 | .frz o u=>h.get? a=some o/\zy H h a u
 | .tbl ps=>h.get? a=some { cls:=.none,data:=.fields ps }
 | .met f x=>h.get? a=some (PySem.W.methodObj s!"I" (.ref x))
 | .ext φ=>φ h/\(∃o,h.get? a=some o)/\∀h1 h2:Heap,φ h1->(∀o,h1.get? a=some o->h2.get? a=some o)->φ h2
def HOk (H:Hp) (h:Heap):Prop:=∀a o,H a=some o->zy P w H h a o
end
section
variable {P:Program} {w:World} {H H':Hp} {h h':Heap} {a:Addr} {o:HO}
theorem zy.lt (x:zy P w H h a o):a<h.objs.size:=by
 cases o with
 | lst xs=>obtain ⟨_,_,_,_,e⟩:=x;exact Heap.lt_size e
 | tup xs=>obtain ⟨_,_,_,p⟩:=x;exact p.lt
 | dK kvs=>obtain ⟨_,_,_,_,o,_,_,e,_⟩:=x;exact Heap.lt_size e
 | dT kvs=>obtain ⟨_,_,_,_,o,_,_,e,_⟩:=x;exact Heap.lt_size e
 | set S n=>obtain ⟨o,_,_,_,e,_⟩:=x;exact Heap.lt_size e
 | ins C dx fs=>obtain ⟨_,_,_,e,_⟩:=x;exact Heap.lt_size e
 | own y=>obtain ⟨_,e⟩:=x;exact Heap.lt_size e
 | xd fs=>obtain ⟨_,⟨_,_,_,e,_⟩,_⟩:=x;exact Heap.lt_size e
 | rng lo hi=>obtain ⟨_,_,_,e⟩:=x;exact Heap.lt_size e
 | frz ob u=>obtain ⟨e,_⟩:=x;exact Heap.lt_size e
 | tbl ps=>exact Heap.lt_size (show h.get? a=some _ from x)
 | met f y=>exact Heap.lt_size (show h.get? a=some _ from x)
 | ext φ=>obtain ⟨_,⟨_,e⟩,_⟩:=x;exact Heap.lt_size e
theorem Paired.mapP {α β:Type} {F G:α->β->Prop}:∀{l₁:List α} {l₂:List β},Paired F l₁ l₂->(∀a b,F a b->G a b)->Paired G l₁ l₂
 | _,_,.nil,_=>.nil
 | _,_,.cons r t,f=>.cons (f _ _ r) (Paired.mapP t f)
theorem zy.stay (x:zy P w H h a o) (k:∀b u,(b=a\/H b=some (.own a))->h.get? b=some u->h'.get? b=some u)
 (ho:∀b,H b=some (.own a)->H' b=some (.own a)) (ht:∀b xs,H b=some (.tup xs)->H' b=some (.tup xs)):zy P w H' h' a o:=by
 induction o with
 | lst xs=>obtain ⟨z,its,n,r,e⟩:=x;exact ⟨z,its,n,r,k _ _ (.inl rfl) e⟩
 | tup xs=>obtain ⟨z,its,r,ob,e,c⟩:=x;exact ⟨z,its,r,ob,k _ _ (.inl rfl) e,c⟩
 | dK kvs=>obtain ⟨z,y,vs,r,ob,es,ep,e,c⟩:=x;exact ⟨z,y,vs,r,ob,es,ep,k _ _ (.inl rfl) e,c⟩
 | dT kvs=>
  obtain ⟨z,y,xs,r,ob,es,ep,e,c⟩:=x;exact ⟨z,y,xs,Paired.mapP r fun p q z=>⟨z.1,ht _ _ z.2.1,z.2.2⟩,ob,es,ep,k _ _ (.inl rfl) e,c⟩
 | set S n=>obtain ⟨ob,es,ep,t,e,c⟩:=x;exact ⟨ob,es,ep,t,k _ _ (.inl rfl) e,c⟩
 | ins C dx fs=>
  obtain ⟨d,z,ne,e,mA,⟨od,es,ep,e2,c⟩,r⟩:=x;exact ⟨ho _ d,z,ne,k _ _ (.inl rfl) e,mA,⟨od,es,ep,k _ _ (.inr d) e2,c⟩,r⟩
 | own y=>obtain ⟨ob,e⟩:=x;exact ⟨ob,k _ _ (.inl rfl) e⟩
 | xd fs=>obtain ⟨mA,⟨od,es,ep,e,c⟩,r⟩:=x;exact ⟨mA,⟨od,es,ep,k _ _ (.inl rfl) e,c⟩,r⟩
 | rng lo hi=>obtain ⟨t,u,v,e⟩:=x;exact ⟨t,u,v,k _ _ (.inl rfl) e⟩
 | frz ob u ih=>obtain ⟨e,q⟩:=x;exact ⟨k _ _ (.inl rfl) e,ih q⟩
 | tbl ps=>
  have e:h.get? a=some { cls:=.none,data:=.fields ps }:=x;show h'.get? a=some { cls:=.none,data:=.fields ps };exact k a _ (.inl rfl) e
 | met f y=>
  have e:h.get? a=some (PySem.W.methodObj s!"I" (.ref y)):=x;show h'.get? a=some (PySem.W.methodObj s!"I" (.ref y));exact k a _ (.inl rfl) e
 | ext φ=>obtain ⟨p,⟨o,e⟩,st⟩:=x;exact ⟨st _ _ p fun o q=>k _ _ (.inl rfl) q,⟨o,k _ _ (.inl rfl) e⟩,st⟩
theorem HOk.lt (x:HOk P w H h) (e:H a=some o):a<h.objs.size:=(x a o e).lt
theorem HOk.fresh (x:HOk P w H h) (e:h.objs.size<=a):H a=none:=by
 cases q:H a with
 | none=>rfl
 | some u=>exact absurd s!"0{x.lt q}{e}" (Nat.lt_irrefl _)
theorem HOk.kept (x:HOk P w H h) (k:∀b u,h.get? b=some u->h'.get? b=some u):HOk P w H h':=fun a o e=>
 (x a o e).stay (fun b u _ q=>k b u q) (fun _ q=>q) fun _ _ q=>q
theorem HOk.laid (x:HOk P w H h) (k:∀b u,h.get? b=some u->h'.get? b=some u) (hp:h.objs.size<=a) (new:zy P w (upd H a o) h' a o):HOk P w (upd H a o) h':=fun b u e=>by
 have hn:=x.fresh hp
 by_cases hb:b=a
 ·subst hb;rw [zi] at e;cases e;exact new
 ·rw [zg hb] at e;exact (x b u e).stay (fun c v _ q=>k c v q) (fun c q=>by rw [zg (yd q hn)];exact q) fun c xs q=>by rw [zg (yd q hn)];exact q
end
def Rd (H:Hp) (a:Addr) (u:HO):Prop:=H a=some u\/∃o,H a=some (.frz o u)
theorem Rd.ok {P:Program} {w:World} {H:Hp} {h:Heap} {a:Addr} {u:HO} (r:Rd H a u) (x:HOk P w H h):zy P w H h a u:=by
 rcases r with r | ⟨o,r⟩
 ·exact x a u r
 ·obtain ⟨_,q⟩:=x a _ r;exact q
def Mut:Option HO->Prop
 | some (.lst _)=>True
 | some (.dK _)=>True
 | some (.dT _)=>True
 | some (.set _ _)=>True
 | some (.ins _ _ _)=>True
 | some (.ext _)=>True
 | _=>False
section
variable {P:Program} {w:World} {H:Hp} {h h':Heap} {x e:Addr} {o':HO}
theorem HOk.write (ok:HOk P w H h) (mu:Mut (H x)) (he:e=x\/H e=some (.own x)) (k:∀b u,b≠e->h.get? b=some u->h'.get? b=some u) (heo:∃u,h'.get? e=some u)
 (new:zy P w (upd H x o') h' x o'):HOk P w (upd H x o') h':=fun b u q=>by
 have nown:∀c y,H c=some (.own y)->c≠x:=fun c y r z=>by subst z;rw [r] at mu;exact mu
 have ntup:∀c xs,H c=some (.tup xs)->c≠x:=fun c xs r z=>by subst z;rw [r] at mu;exact mu
 by_cases hb:b=x
 ·subst hb;rw [zi] at q;cases q;exact new
 ·rw [zg hb] at q
  by_cases hbe:b=e
  ·have q':H b=some (.own x):=by
    rcases he with z | z
    ·exact absurd (hbe.trans z) hb
    ·rw [hbe];exact z
   rw [q] at q';cases q';obtain ⟨v,hv⟩:=heo;exact ⟨v,by rw [hbe];exact hv⟩
  ·refine (ok b u q).stay (fun c v hc r=>k c v ?_ r) (fun c r=>by rw [zg (nown c b r)];exact r) fun c xs r=>by rw [zg (ntup c xs r)];exact r
   rcases hc with rfl | hc
   ·exact hbe
   ·rintro rfl;rcases he with z | z
    ·exact nown c b hc z
    ·rw [hc] at z;cases z;exact hb rfl
end
structure Un (fs ex:List Addr) (H H':Hp) (h h':Heap):Prop where
 keep:∀b o,h.get? b=some o->H b=none->b∉fs->b∉ex->h'.get? b=some o
 slot:∀b o,h.get? b=some o->H b=none->b∈fs->b∉ex->∃sl,h'.get? b=some { o with slots:=sl }
 free:∀b o,h.get? b=some o->H b=none->b∉ex->H' b=none
 there:∀b o,h.get? b=some o->b∉ex->∃o',h'.get? b=some o'
 tups:∀b xs,H b=some (.tup xs)->H' b=some (.tup xs)
 frzs:∀b o u,H b=some (.frz o u)->H' b=some (.frz o u)
 tbls:∀b ps,H b=some (.tbl ps)->∃more,H' b=some (.tbl (ps++more))
section
variable {fs fs' ex ex':List Addr} {H H1 H2:Hp} {h h1 h2 h':Heap} {a x e:Addr} {o:HO}
theorem Un.any (u:Un fs ex H H1 h h1) {b:Addr} {ob:Obj} (q:h.get? b=some ob) (n:H b=none) (hx:b∉ex):∃sl,h1.get? b=some { ob with slots:=sl }:=by
 by_cases hb:b∈fs
 ·exact u.slot b ob q n hb hx
 ·exact ⟨ob.slots,u.keep b ob q n hb hx⟩
theorem Un.kept (k:∀b u,h.get? b=some u->h'.get? b=some u):Un fs ex H H h h':=
 ⟨fun b ob q _ _ _=>k b ob q,fun b ob q _ _ _=>⟨ob.slots,k b ob q⟩,fun _ _ _ n _=>n,fun b ob q _=>⟨ob,k b ob q⟩,fun _ _ q=>q,fun _ _ _ q=>q,fun _ ps q=>⟨#[],by rw [q];simp⟩⟩
theorem Un.refl:Un fs ex H H h h:=Un.kept fun _ _ q=>q
theorem Un.laid (k:∀b u,h.get? b=some u->h'.get? b=some u) (hp:h.objs.size<=a) (hn:H a=none):Un fs ex H (upd H a o) h h' where
 keep:=fun b u q _ _ _=>k b u q
 slot:=fun b u q _ _ _=>⟨u.slots,k b u q⟩
 free:=fun b u q n _=>by rw [zg s!"U{s!"0{s!"C{q}"}{hp}"}"];exact n
 there:=fun b u q _=>⟨u,k b u q⟩
 tups:=fun b xs q=>by rw [zg (yd q hn)];exact q
 frzs:=fun b u xs q=>by rw [zg (yd q hn)];exact q
 tbls:=fun b ps q=>⟨#[],by rw [zg (yd q hn),q];simp⟩
theorem Un.write (mu:Mut (H x)) (he:e=x\/H e=some (.own x)) (k:∀b u,b≠e->h.get? b=some u->h'.get? b=some u) (heo:∃u,h'.get? e=some u):Un fs ex H (upd H x o) h h':=by
 have hx:∀b,H b=none->b≠x:=fun b n z=>by subst z;rw [n] at mu;exact mu
 have hb:∀b,H b=none->b≠e:=fun b n z=>by
  subst z;rcases he with r | r
  ·exact hx b n r
  ·rw [n] at r;cases r
 have hm:∀b u,H b=some u->¬Mut (some u)->b≠x:=fun b u q nm z=>by subst z;rw [q] at mu;exact nm mu
 refine ⟨fun b u q n _ _=>k b u (hb b n) q,fun b u q n _ _=>⟨u.slots,k b u (hb b n) q⟩,fun b u q n _=>by rw [zg (hx b n)];exact n,fun b u q _=>?_,
  fun b xs q=>by rw [zg (hm b _ q fun z=>z)];exact q,fun b u xs q=>by rw [zg (hm b _ q fun z=>z)];exact q,fun b ps q=>⟨#[],by rw [zg (hm b _ q fun z=>z),q];simp⟩⟩
 by_cases hbe:b=e
 ·subst hbe;exact heo
 ·exact ⟨u,k b u hbe q⟩
end
def trk (h:Heap) (H:Hp):List Addr:=s!"5{h.objs.size}".filter fun a=>(H a).isSome
def zeb (h:Heap) (H:Hp):Heap:=PySem.W.hideAll h (trk h H)
theorem zhN (h:Heap) (H:Hp):(zeb h H).objs.size=h.objs.size:=PySem.W.hideAll_size _ _
theorem ziW {h:Heap} {H:Hp} {b:Addr} {o:Obj} (e:h.get? b=some o) (n:H b=none):(zeb h H).get? b=some o:=
 PySem.W.hideAll_get _ e fun hm=>by
  have q:(H b).isSome=true:=(List.mem_filter.mp hm).2;rw [n] at q;simp at q
theorem zlp {h:Heap} {H:Hp} {b:Addr} {o:Obj} (e:(zeb h H).get? b=some o):h.get? b=some o/\H b=none:=by
 have e':h.get? b=some o:=PySem.W.of_hideAll (trk h H) e;refine ⟨e',?_⟩;cases q:H b with
 | none=>rfl
 | some x=>
  have hm:b∈trk h H:=List.mem_filter.mpr ⟨List.mem_range.mpr s!"C{e'}",by simp [q]⟩
  have z:(zeb h H).get? b=none:=PySem.W.hideAll_none (trk h H) hm;rw [z] at e;cases e
def zlq (g h:Heap) (L:Addr):List (Addr×Obj):=s!"5{h.objs.size}".filterMap fun a=>if a=L\/(g.get? a).isSome=true then none else (h.get? a).map fun o=>(a,o)
def rest (g h:Heap) (L d:Addr):List (Addr×Obj):=(zlq g h L).filter fun p=>decide (p.1≠d)
structure Mod (K:PySem.W.Frag) (mg:Str->Option Value) (base:Heap):Prop where
 kin:K.In base
 glob:base.Ns mainGlobals mg
 blt:∃mb,base.Ns builtinsNs mb/\∀x:Str,x≠"__name__"->mb x=bootBuiltins x
 nolimit:base.NoLimit
structure Cx where
 prog:Program
 w:World
 K:PySem.W.Frag
 mg:Str->Option Value
 base:Heap
 A:Around
 N:List Str
 s₀:Shared
 H₀:Hp
 env:Env
 outer:List Env
 stack:List Env
 ex:List Addr
 fn:Str->Bool
 calm:Bool
 pn:List (Addr×Obj)
 xe:Value->Shared->Prop
def frs (l:List Env):List Addr:=l.filterMap (·.frame)
abbrev Cx.fs (X:Cx):List Addr:=frs X.outer
def Vis (sc:Scope) (x:Str):Prop:=sc.names.lookup x=some .local\/sc.names.lookup x=some .cell\/sc.names.lookup x=some .free
def Loc (sc:Scope) (x:Str):Prop:=sc.names.lookup x=some .local\/sc.names.lookup x=some .cell
def zrd (env:Env) (h:Heap) (m:Str->Option Value) (x:Str) (u:Value):Prop:=
 (env.kindOf x=some .local/\m x=some u)\/((env.kindOf x=some .cell\/env.kindOf x=some .free)/\∃c,env.cells.lookup x=some c/\h.IsCell c (some u))
structure Cx.Ok (X:Cx):Prop where
 mod:Mod X.K X.mg X.base
 kind:X.env.scope.kind=.function
 glob:X.env.globals=mainGlobals
 blt:X.env.builtins=builtinsNs
 above:X.s₀.heap.objs.size<=X.env.locals
 inj:∀x y c,X.env.cells.lookup x=some c->X.env.cells.lookup y=some c->x=y
 has:∀x,(X.env.kindOf x=some .cell\/X.env.kindOf x=some .free)->∃c,X.env.cells.lookup x=some c
 cab:∀x c,X.fn x=true->X.env.cells.lookup x=some c->X.s₀.heap.objs.size<=c
 hd:X.calm=true->X.A.handled=none
 frames:X.A.frames=some X.stack
 stk:X.stack=X.outer\/(X.stack=X.env::X.outer/\X.env.frame=some X.env.locals)
 exf:∀b∈X.ex,b≠X.env.locals/\∀x c,X.env.cells.lookup x=some c->c≠b
 bs:∀b o,X.base.get? b=some o->X.s₀.heap.get? b=some o/\X.H₀ b=none
 bsz:X.base.objs.size<=X.s₀.heap.objs.size
 noex:∀b o,X.base.get? b=some o->b∉X.ex
 exfs:∀b∈X.ex,b∉X.fs
 funs:X.s₀.heap.FunFrames X.base X.outer
 frf:∀b∈X.fs,X.H₀ b=none
structure Inv (X:Cx) (pins:List (Addr×Obj)) (σ:List (Option V)) (H:Hp) (s:Shared):Prop where
 ok:X.Ok
 os:s.os=X.s₀.os
 bare:AllBare s.gens
 base:Un X.fs X.ex X.H₀ H X.s₀.heap s.heap
 loc:∃m,s.heap.Ns X.env.locals m/\∀(i:Nat) (x:Str) (v:V),X.N[i]? =some x->σ[i]? =some (some v)->Vis X.env.scope x->∃u,zq v u/\zrd X.env s.heap m x u
 cell:∀x c,X.env.cells.lookup x=some c->∃v,s.heap.IsCell c v
 free:H X.env.locals=none
 freeC:∀x c,X.env.cells.lookup x=some c->H c=none
 pin:∀p∈X.pn++pins,s.heap.get? p.1=some p.2/\H p.1=none/\p.1≠X.env.locals/\p.1∉X.fs/\∀v,p.2.data≠.cell v
 hok:HOk X.prog X.w H s.heap
 len:σ.length=X.N.length
section
variable {X:Cx} {pins:List (Addr×Obj)} {σ:List (Option V)} {H H':Hp} {s:Shared} {h':Heap}
theorem Cx.Ok.nofr (ok:X.Ok) {b:Addr} {o:Obj} (e:X.base.get? b=some o):b∉X.fs:=fun hb=>by
 have:=(ok.funs.mem hb).1;rw [e] at this;cases this
theorem Inv.bs (I:Inv X pins σ H s):∀b o,X.base.get? b=some o->s.heap.get? b=some o/\H b=none:=fun b o e=>
 ⟨I.base.keep b o (I.ok.bs b o e).1 (I.ok.bs b o e).2 (I.ok.nofr e) (I.ok.noex b o e),I.base.free b o (I.ok.bs b o e).1 (I.ok.bs b o e).2 (I.ok.noex b o e)⟩
theorem Inv.bk (I:Inv X pins σ H s):∀b o,X.base.get? b=some o->s.heap.get? b=some o:=fun b o e=>(I.bs b o e).1
theorem Inv.mod (I:Inv X pins σ H s):Mod X.K X.mg X.base:=I.ok.mod
theorem Inv.kIn (I:Inv X pins σ H s):X.K.In s.heap:=I.ok.mod.kin.keeps I.bk
theorem Inv.fr (I:Inv X pins σ H s):∃m,Fr X.base X.env.locals s.heap m:=
 let ⟨m,hn,_⟩:=I.loc
 ⟨m,hn,I.bk,Nat.le_trans I.ok.bsz I.ok.above⟩
theorem Inv.lt (I:Inv X pins σ H s):X.env.locals<s.heap.objs.size:=let ⟨_,hn,_⟩:=I.loc;hn.lt
theorem Inv.sz (I:Inv X pins σ H s):X.s₀.heap.objs.size<=s.heap.objs.size:=Nat.le_trans I.ok.above (Nat.le_of_lt I.lt)
theorem Inv.nofs (I:Inv X pins σ H s) {a:Addr} (h:s.heap.objs.size<=a):a∉X.fs:=fun hb=>by
 obtain ⟨_,o,ho,_⟩:=I.ok.funs.mem hb;exact absurd s!"0{s!"C{ho}"}{Nat.le_trans I.sz h}" (Nat.lt_irrefl _)
theorem Inv.cne (I:Inv X pins σ H s):∀x c,X.env.cells.lookup x=some c->c≠X.env.locals:=fun x c e z=>by
 obtain ⟨v,o,ho,hd⟩:=I.cell x c e;obtain ⟨m,⟨o',es,ep,ho',hd',_⟩,_⟩:=I.loc;rw [z,ho'] at ho;cases ho;rw [hd'] at hd;cases hd
theorem Inv.funs (I:Inv X pins σ H s):s.heap.FunFrames X.base X.outer:=by
 have all:∀(l:List Env),(∀b∈frs l,b∈X.fs)->X.s₀.heap.FunFrames X.base l->s.heap.FunFrames X.base l:=by
  intro l
  induction l with
  | nil=>intro _ _;trivial
  | cons env r ih=>
   intro hs hl;obtain ⟨hk,⟨L,o,hf,hn,ho,hd⟩,hr⟩:=hl;have hL:L∈X.fs:=hs L (by unfold frs;rw [List.filterMap_cons,hf];exact List.mem_cons_self)
   obtain ⟨sl,e⟩:=I.base.slot L o ho (I.ok.frf L hL) hL fun z=>I.ok.exfs L z hL
   exact ⟨hk,⟨L,_,hf,hn,e,hd⟩,ih (fun b hb=>hs b (by unfold frs;rw [List.filterMap_cons,hf];exact List.mem_cons_of_mem _ hb)) hr⟩
 exact all X.outer (fun _ hb=>hb) I.ok.funs
theorem Inv.stack (I:Inv X pins σ H s):s.heap.FunFrames X.base X.stack:=by
 rcases I.ok.stk with e | ⟨e,hf⟩
 ·rw [e];exact I.funs
 ·rw [e];obtain ⟨m,hn,_⟩:=I.loc;refine .cons (by rw [I.ok.kind];decide) hf hn ?_ I.funs
  exact Heap.get?_none_of_le (Nat.le_trans I.ok.bsz I.ok.above)
theorem Inv.stkSub (I:Inv X pins σ H s):∀b∈frs X.stack,b∈X.env.locals::X.fs:=fun b hb=>by
 rcases I.ok.stk with e | ⟨e,hf⟩
 ·rw [e] at hb;exact List.mem_cons_of_mem _ hb
 ·rw [e] at hb;unfold frs at hb;rw [List.filterMap_cons,hf] at hb;exact hb
theorem Inv.stkFree (I:Inv X pins σ H s):∀b∈frs X.stack,H b=none:=fun b hb=>by
 rcases List.mem_cons.mp (I.stkSub b hb) with e | hb
 ·rw [e];exact I.free
 ·obtain ⟨_,o,ho,_⟩:=I.ok.funs.mem hb;exact I.base.free b o ho (I.ok.frf b hb) fun z=>I.ok.exfs b z hb
theorem Inv.step {g':Array GenState} {t':Nat} {d':Drawn} {ch:List Addr} (I:Inv X pins σ H s)
 (hch:∀b∈ch,(b∈X.ex\/X.s₀.heap.objs.size<=b)/\b≠X.env.locals/\(∀x c,X.env.cells.lookup x=some c->c≠b)/\∀p∈X.pn++pins,p.1≠b)
 (keep:∀b o,b≠X.env.locals->b∉X.fs->b∉ch->s.heap.get? b=some o->H b=none->h'.get? b=some o)
 (slot:∀b o,b≠X.env.locals->b∈X.fs->b∉ch->s.heap.get? b=some o->H b=none->∃sl,h'.get? b=some { o with slots:=sl }) (free:∀b o,b∉ch->s.heap.get? b=some o->H b=none->H' b=none)
 (there:∀b o,b∉ch->s.heap.get? b=some o->∃o',h'.get? b=some o')
 (tups:∀b xs,H b=some (.tup xs)->H' b=some (.tup xs)) (frzs:∀b o u,H b=some (.frz o u)->H' b=some (.frz o u)) (tbls:∀b ps,H b=some (.tbl ps)->∃more,H' b=some (.tbl (ps++more)))
 (ns:∀m,s.heap.Ns X.env.locals m->h'.Ns X.env.locals m) (hok:HOk X.prog X.w H' h') (hg:AllBare g'):
 Inv X pins σ H' { s with heap:=h',gens:=g',drawn:=d',toks:=t' }:=by
 have neL:∀b o,X.s₀.heap.get? b=some o->b≠X.env.locals:=fun b o e=>Nat.ne_of_lt s!"0{s!"C{e}"}{I.ok.above}"
 have neC:∀b o,X.s₀.heap.get? b=some o->b∉X.ex->b∉ch:=fun b o e hx hb=>by
  rcases (hch b hb).1 with z | z
  ·exact hx z
  ·exact absurd s!"0{s!"C{e}"}{z}" (Nat.lt_irrefl _)
 have cellK:∀x c,X.env.cells.lookup x=some c->∀v,s.heap.IsCell c v->h'.IsCell c v:=fun x c e v ⟨o,ho,hd⟩=>by
  have nch:c∉ch:=fun z=>(hch c z).2.2.1 x c e rfl
  by_cases hc:c∈X.fs
  ·obtain ⟨sl,q⟩:=slot c o (I.cne x c e) hc nch ho (I.freeC x c e);exact ⟨_,q,hd⟩
  ·exact ⟨o,keep c o (I.cne x c e) hc nch ho (I.freeC x c e),hd⟩
 refine ⟨I.ok,I.os,hg,⟨fun b o e n hb hx=>?_,fun b o e n hb hx=>?_,fun b o e n hx=>?_,fun b o e hx=>?_,fun b xs e=>tups b xs (I.base.tups b xs e),fun b o xs e=>frzs b o xs (I.base.frzs b o xs e),fun b ps e=>?_⟩,?_,fun x c e=>?_,?_,fun x c e=>?_,fun p hp=>?_,hok,I.len⟩
 ·exact keep b o (neL b o e) hb (neC b o e hx) (I.base.keep b o e n hb hx) (I.base.free b o e n hx)
 ·obtain ⟨sl,e1⟩:=I.base.slot b o e n hb hx;obtain ⟨sl',e2⟩:=slot b _ (neL b o e) hb (neC b o e hx) e1 (I.base.free b o e n hx);exact ⟨sl',e2⟩
 ·obtain ⟨o',e1⟩:=I.base.there b o e hx;exact free b o' (neC b o e hx) e1 (I.base.free b o e n hx)
 ·obtain ⟨o',e1⟩:=I.base.there b o e hx;exact there b o' (neC b o e hx) e1
 ·obtain ⟨m1,e1⟩:=I.base.tbls b ps e;obtain ⟨m2,e2⟩:=tbls b _ e1;exact ⟨m1++m2,by rw [e2,Array.append_assoc]⟩
 ·obtain ⟨m,hn,hl⟩:=I.loc;refine ⟨m,ns m hn,fun i x v e1 e2 e3=>?_⟩
  obtain ⟨u,r,l⟩:=hl i x v e1 e2 e3;refine ⟨u,r,?_⟩;rcases l with l | ⟨k,c,e,z⟩
  ·exact .inl l
  ·exact .inr ⟨k,c,e,cellK x c e _ z⟩
 ·obtain ⟨v,z⟩:=I.cell x c e;exact ⟨v,cellK x c e v z⟩
 ·obtain ⟨m,⟨o,_,_,ho,_⟩,_⟩:=I.loc;exact free _ o (fun z=>(hch _ z).2.1 rfl) ho I.free
 ·obtain ⟨v,o,ho,hd⟩:=I.cell x c e;exact free c o (fun z=>(hch c z).2.2.1 x c e rfl) ho (I.freeC x c e)
 ·obtain ⟨e,n,ne,nf,d⟩:=I.pin p hp;have nch:p.1∉ch:=fun z=>(hch p.1 z).2.2.2 p hp rfl
  exact ⟨keep p.1 p.2 ne nf nch e n,free p.1 p.2 nch e n,ne,nf,d⟩
theorem Inv.un {t':Nat} (I:Inv X pins σ H s) (u:Un X.fs [] H H' s.heap h') (hok:HOk X.prog X.w H' h'):Inv X pins σ H' { s with heap:=h',toks:=t' }:=by
 obtain ⟨m,⟨o,es,ep,ho,r⟩,_⟩:=id I.loc;obtain ⟨sl,hL⟩:=u.any ho I.free (by simp)
 exact I.step (g':=s.gens) (d':=s.drawn) (ch:=[]) (fun _ z=>nomatch z) (fun b o _ hb _ e n=>u.keep b o e n hb (by simp)) (fun b o _ hb _ e n=>u.slot b o e n hb (by simp)) (fun b o _ e n=>u.free b o e n (by simp)) (fun b o _ e=>u.there b o e (by simp)) u.tups u.frzs u.tbls (fun m' hm=>by
  obtain ⟨o',es',ep',ho',r'⟩:=hm;rw [ho] at ho';cases ho';exact ⟨_,es',ep',hL,r'⟩) hok I.bare
theorem Inv.call {g':Array GenState} {t':Nat} {d':Drawn} {ch:List Addr} (I:Inv X pins σ H s) (u:Un (frs X.stack) ch H H' s.heap h') (hok:HOk X.prog X.w H' h') (hg:AllBare g')
 (hch:∀b∈ch,(b∈X.ex\/X.s₀.heap.objs.size<=b)/\b≠X.env.locals/\(∀x c,X.env.cells.lookup x=some c->c≠b)/\∀p∈X.pn++pins,p.1≠b):
 Inv X pins σ H' { s with heap:=h',gens:=g',drawn:=d',toks:=t' }:=by
 obtain ⟨m,⟨o,es,ep,ho,r⟩,_⟩:=id I.loc;obtain ⟨sl,hL⟩:=u.any ho I.free fun z=>(hch _ z).2.1 rfl
 exact I.step (ch:=ch) hch (fun b o hL hb hc e n=>u.keep b o e n (fun z=>(List.mem_cons.mp (I.stkSub b z)).elim hL hb) hc) (fun b o _ _ hc e n=>u.any e n hc) (fun b o hc e n=>u.free b o e n hc) (fun b o hc e=>u.there b o e hc) u.tups u.frzs u.tbls (fun m' hm=>by
  obtain ⟨o',es',ep',ho',r'⟩:=hm;rw [ho] at ho';cases ho';exact ⟨_,es',ep',hL,r'⟩) hok hg
theorem Inv.turned {t':Nat} {it:Addr} (I:Inv X pins σ H s) (k:∀b o,b≠it->s.heap.get? b=some o->h'.get? b=some o) (hn:H it=none) (hL:it≠X.env.locals)
 (h1:it∈X.ex\/X.s₀.heap.objs.size<=it) (h2:∀x c,X.env.cells.lookup x=some c->c≠it) (h3:∀p∈X.pn++pins,p.1≠it):Inv X pins σ H { s with heap:=h',toks:=t' }:=by
 have nit:∀b u,H b=some u->b≠it:=fun b u e z=>by rw [z,hn] at e;cases e
 refine I.step (g':=s.gens) (d':=s.drawn) (ch:=[it]) (fun b hb=>?_) (fun b o _ _ hc e _=>k b o (fun z=>hc (by simp [z])) e) (fun b o _ _ hc e _=>⟨o.slots,k b o (fun z=>hc (by simp [z])) e⟩) (fun _ _ _ _ n=>n)
  (fun b o hc e=>⟨o,k b o (fun z=>hc (by simp [z])) e⟩) (fun _ _ e=>e) (fun _ _ _ e=>e) (fun b ps e=>⟨#[],by rw [e];simp⟩) (fun m hm=>?_) (fun b u e=>?_) I.bare
 ·have e:b=it:=by simpa using hb
  subst e;exact ⟨h1,hL,h2,h3⟩
 ·obtain ⟨o,es,ep,ho,r⟩:=hm;exact ⟨o,es,ep,k _ o (Ne.symm hL) ho,r⟩
 ·refine (I.hok b u e).stay (fun c v hc q=>k c v ?_ q) (fun _ q=>q) fun _ _ q=>q
  rcases hc with z | z
  ·rw [z];exact nit b u e
  ·exact nit c _ z
theorem Inv.tok (I:Inv X pins σ H s) (t:Nat):Inv X pins σ H { s with toks:=t }:=I.un (h':=s.heap) (t':=t) Un.refl I.hok
theorem Inv.kept {t':Nat} (I:Inv X pins σ H s) (k:∀b u,s.heap.get? b=some u->h'.get? b=some u):Inv X pins σ H { s with heap:=h',toks:=t' }:=I.un (Un.kept k) (I.hok.kept k)
theorem Inv.laid {a:Addr} {o:HO} {t':Nat} (I:Inv X pins σ H s) (k:∀b u,s.heap.get? b=some u->h'.get? b=some u) (hp:s.heap.objs.size<=a) (new:zy X.prog X.w (upd H a o) h' a o):
 Inv X pins σ (upd H a o) { s with heap:=h',toks:=t' }:=I.un (Un.laid k hp (I.hok.fresh hp)) (I.hok.laid k hp new)
theorem Inv.write {x e:Addr} {o:HO} {t':Nat} (I:Inv X pins σ H s) (mu:Mut (H x)) (he:e=x\/H e=some (.own x)) (k:∀b u,b≠e->s.heap.get? b=some u->h'.get? b=some u) (heo:∃u,h'.get? e=some u)
 (new:zy X.prog X.w (upd H x o) h' x o):Inv X pins σ (upd H x o) { s with heap:=h',toks:=t' }:=I.un (Un.write mu he k heo) (I.hok.write mu he k heo new)
theorem Inv.pins_of {pins':List (Addr×Obj)} (I:Inv X pins σ H s) (h:∀p∈pins',s.heap.get? p.1=some p.2/\H p.1=none/\p.1≠X.env.locals/\p.1∉X.fs/\∀v,p.2.data≠.cell v):Inv X pins' σ H s:=
 ⟨I.ok,I.os,I.bare,I.base,I.loc,I.cell,I.free,I.freeC,fun p hp=>(List.mem_append.mp hp).elim (fun z=>I.pin p s!"ar{z}") (h p),I.hok,I.len⟩
theorem zch {N:List Str} (hN:N.Nodup) {i j:Nat} {x:Str} (a:N[i]? =some x) (b:N[j]? =some x):i=j:=by
 obtain ⟨h1,e1⟩:=List.getElem?_eq_some_iff.mp a;obtain ⟨h2,e2⟩:=List.getElem?_eq_some_iff.mp b;exact (List.getElem_inj hN).mp (e1.trans e2.symm)
theorem zdg {M:Model} {A:Around} {E:Value->Shared->Prop} {i:Nat} {x:Str} {v:V} {u:Value} {Q:Unit->Shared->Prop} (I:Inv X pins σ H s) (hN:X.N.Nodup) (hi:X.N[i]? =some x) (hx:Loc X.env.scope x) (r:zq v u)
 (h:∀s',Inv X pins (σ.set i (some v)) H s'->(∃a,Heap.SameBut a s.heap s'.heap/\(a=X.env.locals\/X.env.cells.lookup x=some a))->Q () s') (hf:X.fn x=true\/X.env.scope.names.lookup x=some .local:=by first | exact .inl rfl | exact .inr rfl | assumption):wpAny M A (storeName X.env x u) Q E s:=by
 obtain ⟨m,hn,hl⟩:=id I.loc;have hcls:(X.env.scope.kind==.class || (X.env.scope.kind==.module && X.env.locals !=X.env.globals))=false:=by rw [I.ok.kind];rfl
 have hiσ:i<σ.length:=by rw [I.len];exact s!"Z{hi}".1
 have cne:=I.cne;have tracked:∀{a:Addr} {h':Heap},(∃o,s.heap.get? a=some o/\H a=none)->Heap.SameBut a s.heap h'->HOk X.prog X.w H h':=fun {a h'} ha hs b ob e=>by
  obtain ⟨_,_,hfree⟩:=ha;refine (I.hok b ob e).stay (fun c w' hc q=>(hs.2 c ?_).trans q) (fun _ q=>q) fun _ _ q=>q
  rintro rfl;rcases hc with rfl | hc
  ·rw [hfree] at e;cases e
  ·rw [hfree] at hc;cases hc
 rcases hx with hk | hk
 ·refine wpAny_storeName_local hk hn (fun h' hn' hs=>?_) hcls
  obtain ⟨oL,_,_,hoL,_⟩:=id hn;refine h _ ⟨I.ok,I.os,I.bare,⟨fun b o e n hb hx=>?_,fun b o e n hb hx=>?_,I.base.free,fun b o e hx=>?_,I.base.tups,I.base.frzs,I.base.tbls⟩,⟨_,hn',fun j y v' e1 e2 e3=>?_⟩,fun y c e=>?_,I.free,I.freeC,fun p hp=>?_,tracked ⟨oL,hoL,I.free⟩ hs,by simpa using I.len⟩ ⟨_,hs,.inl rfl⟩
  ·exact (hs.2 b s!"U{s!"0{s!"C{e}"}{I.ok.above}"}").trans (I.base.keep b o e n hb hx)
  ·obtain ⟨sl,e1⟩:=I.base.slot b o e n hb hx;exact ⟨sl,(hs.2 b s!"U{s!"0{s!"C{e}"}{I.ok.above}"}").trans e1⟩
  ·obtain ⟨o',e1⟩:=I.base.there b o e hx;exact ⟨o',(hs.2 b s!"U{s!"0{s!"C{e}"}{I.ok.above}"}").trans e1⟩
  ·by_cases hj:j=i
   ·subst hj;rw [hi] at e1;cases e1;rw [List.getElem?_set_self hiσ] at e2;cases e2;exact ⟨u,r,.inl ⟨hk,by simp⟩⟩
   ·rw [List.getElem?_set_ne (Ne.symm hj)] at e2;obtain ⟨u',r',q⟩:=hl j y v' e1 e2 e3;refine ⟨u',r',?_⟩;rcases q with ⟨k,e⟩ | ⟨k,c,e,z⟩
    ·refine .inl ⟨k,?_⟩;have:y≠x:=fun e=>hj (zch hN e1 (e▸hi))
     simp [this,e]
    ·exact .inr ⟨k,c,e,z.sameBut hs (cne y c e)⟩
  ·obtain ⟨w',z⟩:=I.cell y c e;exact ⟨w',z.sameBut hs (cne y c e)⟩
  ·obtain ⟨e,n,ne,nf,d⟩:=I.pin p hp;exact ⟨(hs.2 p.1 ne).trans e,n,ne,nf,d⟩
 ·have hfn:X.fn x=true:=by
   rcases hf with z | z
   ·exact z
   ·rw [z] at hk;cases hk
  obtain ⟨c,hc⟩:=I.ok.has x (.inl hk);obtain ⟨w',z⟩:=I.cell x c hc;refine wpAny_storeName_cell I.ok.kind hk hc z (fun h' hc' hs=>?_)
  obtain ⟨oc,hoc,hocd⟩:=id z;refine h { s with heap:=h' } ⟨I.ok,I.os,I.bare,⟨fun b o e n hb hx=>?_,fun b o e n hb hx=>?_,I.base.free,fun b o e hx=>?_,I.base.tups,I.base.frzs,I.base.tbls⟩,⟨m,hn.sameBut hs (Ne.symm (cne x c hc)),fun j y v' e1 e2 e3=>?_⟩,fun y c' e=>?_,I.free,I.freeC,fun p hp=>?_,tracked ⟨oc,hoc,I.freeC x c hc⟩ hs,by simpa using I.len⟩ ⟨c,hs,.inr hc⟩
  ·exact (hs.2 b s!"U{s!"0{s!"C{e}"}{I.ok.cab x c hfn hc}"}").trans (I.base.keep b o e n hb hx)
  ·obtain ⟨sl,e1⟩:=I.base.slot b o e n hb hx;exact ⟨sl,(hs.2 b s!"U{s!"0{s!"C{e}"}{I.ok.cab x c hfn hc}"}").trans e1⟩
  ·obtain ⟨o',e1⟩:=I.base.there b o e hx;exact ⟨o',(hs.2 b s!"U{s!"0{s!"C{e}"}{I.ok.cab x c hfn hc}"}").trans e1⟩
  ·by_cases hj:j=i
   ·subst hj;rw [hi] at e1;cases e1;rw [List.getElem?_set_self hiσ] at e2;cases e2;exact ⟨u,r,.inr ⟨.inl hk,c,hc,hc'⟩⟩
   ·rw [List.getElem?_set_ne (Ne.symm hj)] at e2;obtain ⟨u',r',q⟩:=hl j y v' e1 e2 e3;refine ⟨u',r',?_⟩;rcases q with q | ⟨k,c',e,z'⟩
    ·exact .inl q
    ·refine .inr ⟨k,c',e,z'.sameBut hs ?_⟩;rintro rfl;exact hj (zch hN e1 (I.ok.inj _ _ _ e hc▸hi))
  ·by_cases hcc:c'=c
   ·subst hcc;exact ⟨_,hc'⟩
   ·obtain ⟨w2,z2⟩:=I.cell y c' e;exact ⟨w2,z2.sameBut hs hcc⟩
  ·obtain ⟨e,n,ne,nf,d⟩:=I.pin p hp;refine ⟨(hs.2 p.1 ?_).trans e,n,ne,nf,d⟩;intro q;rw [q,hoc] at e;have q':oc=p.2:=Option.some.inj e;exact d w' (by rw [<-q'];exact hocd)
theorem yQ {M:Model} {A:Around} {E:Value->Shared->Prop} {i:Nat} {x:Str} {v:V} {u:Value} {Q:Unit->Shared->Prop} (I:Inv X pins σ H s) (hN:X.N.Nodup) (hi:X.N[i]? =some x) (hx:Loc X.env.scope x) (r:zq v u)
 (h:∀s',Inv X pins (σ.set i (some v)) H s'->Q () s') (hf:X.fn x=true\/X.env.scope.names.lookup x=some .local:=by first | exact .inl rfl | exact .inr rfl | assumption):wpAny M A (storeName X.env x u) Q E s:=
 zdg I hN hi hx r (fun s' I' _=>h s' I') hf
theorem Inv.call' {s':Shared} {ch:List Addr} (I:Inv X pins σ H s) (ho:s'.os=s.os) (u:Un (frs X.stack) ch H H' s.heap s'.heap) (hok:HOk X.prog X.w H' s'.heap) (hg:AllBare s'.gens)
 (hch:∀b∈ch,(b∈X.ex\/X.s₀.heap.objs.size<=b)/\b≠X.env.locals/\(∀x c,X.env.cells.lookup x=some c->c≠b)/\∀p∈X.pn++pins,p.1≠b):Inv X pins σ H' s':=by
 obtain ⟨h',g',d',t',o'⟩:=s';have e:o'=s.os:=ho;subst e;exact I.call (g':=g') (t':=t') (d':=d') u hok hg hch
end
abbrev XK:=Value->Option Addr->Hp->Prop
abbrev St:=List (Option V)
abbrev VK:=V->Hp->Prop
abbrev TE:=St->Hp->VK->Prop
abbrev TT:=St->Hp->(Bool->Hp->Prop)->Prop
abbrev TA:=St->Hp->(List V->Hp->Prop)->Prop
structure Ends where
 nx:St->Hp->Prop
 rt:VK
 bk:St->Hp->Prop:=fun _ _=>False
 ct:St->Hp->Prop:=fun _ _=>False
abbrev TS:=Ends->St->Hp->Prop
def EP (X:Cx) (pins:List (Addr×Obj)) (σ:St) (Q:VK) (u:Value) (s':Shared):Prop:=∃v H',Inv X pins σ H' s'/\zq v u/\Q v H'
def TP (X:Cx) (pins:List (Addr×Obj)) (σ:St) (Q:Bool->Hp->Prop) (b:Bool) (s':Shared):Prop:=∃H',Inv X pins σ H' s'/\Q b H'
def AP (X:Cx) (pins:List (Addr×Obj)) (σ:St) (Q:List V->Hp->Prop) (us:List Value) (s':Shared):Prop:=∃vs H',Inv X pins σ H' s'/\zo vs us/\Q vs H'
def SP (X:Cx) (pins:List (Addr×Obj)) (D:Ends) (f:Flow) (s':Shared):Prop:=
 match f with
 | .next=>∃σ' H',Inv X pins σ' H' s'/\D.nx σ' H'
 | .brk=>∃σ' H',Inv X pins σ' H' s'/\D.bk σ' H'
 | .cont=>∃σ' H',Inv X pins σ' H' s'/\D.ct σ' H'
 | .ret u=>∃v σ' H',Inv X pins σ' H' s'/\zq v u/\D.rt v H'
def PE (X:Cx) (e:Expr) (t:TE):Prop:=
 ∀(pins:List (Addr×Obj)) (s:Shared) (σ:St) (H:Hp) (Q:VK),Inv X pins σ H s->t σ H Q->wpAny (model X.prog X.w) X.A s!"!{e}" (EP X pins σ Q) X.xe s
def PT (X:Cx) (e:Expr) (t:TT):Prop:=
 ∀(pins:List (Addr×Obj)) (s:Shared) (σ:St) (H:Hp) (Q:Bool->Hp->Prop),Inv X pins σ H s->t σ H Q->wpAny (model X.prog X.w) X.A (isTrue e X.env s!"!{e}") (TP X pins σ Q) X.xe s
def PW (X:Cx) (e:Expr) (t:TT):Prop:=
 ∀(whole:Sem Value) (pins:List (Addr×Obj)) (s:Shared) (σ:St) (H:Hp) (Q:Bool->Hp->Prop),Inv X pins σ H s->t σ H Q->wpAny (model X.prog X.w) X.A (isTrue e X.env whole) (TP X pins σ Q) X.xe s
theorem PW.pt {X:Cx} {e:Expr} {t:TT} (h:PW X e t):PT X e t:=h _
def PA (X:Cx) (es:List Expr) (t:TA):Prop:=
 ∀(pos:Pos) (pins:List (Addr×Obj)) (s:Shared) (σ:St) (H:Hp) (Q:List V->Hp->Prop),Inv X pins σ H s->t σ H Q->wpAny (model X.prog X.w) X.A (spliced s!"aC") (AP X pins σ Q) X.xe s
def PS (X:Cx) (st:Stmt) (t:TS):Prop:=
 ∀(pins:List (Addr×Obj)) (s:Shared) (σ:St) (H:Hp) (D:Ends),Inv X pins σ H s->t D σ H->wpAny (model X.prog X.w) X.A (exec st X.env) (SP X pins D) X.xe s
def PSs (X:Cx) (st:List Stmt) (t:TS):Prop:=
 ∀(pins:List (Addr×Obj)) (s:Shared) (σ:St) (H:Hp) (D:Ends),Inv X pins σ H s->t D σ H->wpAny (model X.prog X.w) X.A (execs st X.env) (SP X pins D) X.xe s
theorem thn {α:Type} {t:Sem α} {Q Q':α->Shared->Prop} {M:Model} {A:Around} {E:Value->Shared->Prop} {s:Shared} (h:wpAny M A t Q E s) (hQ:∀a s,Q a s->Q' a s):wpAny M A t Q' E s:=wpAny_mono h hQ fun _ _ x=>x
section
variable {X:Cx}
def zff (i:Nat):TE:=fun σ H Q=>∃v,σ[i]? =some (some v)/\Q v H
def tC (v:V):TE:=fun _ H Q=>Q v H
theorem zon {i:Nat} {x:Str} {pos:Pos} (hN:X.N[i]? =some x) (hv:Vis X.env.scope x) (hd:(x==("__debug__":Str))=false:=by decide) (hcd:(x==("__classdict__":Str))=false:=by decide):PE X (.Name x pos) (zff i):=by
 intro pins s σ H Q I h;obtain ⟨v,e,h⟩:=h;obtain ⟨m,hn,hl⟩:=I.loc;obtain ⟨u,r,l⟩:=hl i x v hN e hv;have fin:EP X pins σ Q u s:=⟨v,H,I,r,h⟩;rcases l with ⟨hk,hm⟩ | ⟨hk,c,hc,hcell⟩
 ·exact wpAny_Name (wpAny_loadName_local I.ok.kind hk hn hm fin) hd
 ·rcases hk with hk | hk
  ·exact wpAny_Name (wpAny_loadName_cell I.ok.kind hk hc hcell fin) hd
  ·exact wpAny_Name (wpAny_loadName_free I.ok.kind hk hc hcell fin hcd) hd
theorem pe_int {i j pos}:PE X (.Constant s!"M" j pos) (tC s!"M"):=fun _ _ _ H _ I h=>wpAny_Constant_int ⟨.int i,H,I.tok _,⟨_,rfl⟩,h⟩
theorem pe_bl {b j pos}:PE X (.Constant (.bool b) j pos) (tC (.bl b)):=fun _ _ _ H _ I h=>Constant_bool ⟨.bl b,H,I,rfl,h⟩
theorem pe_non {j pos}:PE X (.Constant .none j pos) (tC .non):=fun _ _ _ H _ I h=>Constant_none ⟨.non,H,I,rfl,h⟩
theorem pe_str {x j pos}:PE X (.Constant (.str x) j pos) (tC (.str x)):=fun _ _ _ H _ I h=>Calls.Constant_str ⟨.str x,H,I.tok _,⟨_,rfl⟩,h⟩
def Gl (X:Cx) (x:Str):Prop:=X.env.kindOf x=some .globalImplicit
theorem xE {E:Value->Shared->Prop} {pins:List (Addr×Obj)} {s:Shared} {σ:St} {H:Hp} {x:Str} {u:Value} {pos:Pos} {Q:Value->Shared->Prop} (I:Inv X pins σ H s) (hg:Gl X x) (hm:X.mg x=some u) (h:Q u s)
 (hd:(x==("__debug__":Str))=false:=by decide):wpAny (model X.prog X.w) X.A s!"!{.Name x pos}" Q E s:=
 Calls.Name_function_global I.ok.kind hg (Calls.loadGlobal_global (by rw [I.ok.glob];exact I.mod.glob.keeps I.bk) hm h) hd
theorem zba {E:Value->Shared->Prop} {pins:List (Addr×Obj)} {s:Shared} {σ:St} {H:Hp} {x:Str} {u:Value} {pos:Pos} {Q:Value->Shared->Prop} (I:Inv X pins σ H s) (hg:Gl X x) (hm:X.mg x=none) (hv:bootBuiltins x=some u) (h:Q u s)
 (hn:x≠"__name__":=by decide) (hd:(x==("__debug__":Str))=false:=by decide):wpAny (model X.prog X.w) X.A s!"!{.Name x pos}" Q E s:=by
 obtain ⟨mb,h1,h2⟩:=I.mod.blt;exact Calls.Name_function_global I.ok.kind hg (Calls.loadGlobal_builtin (by rw [I.ok.glob];exact I.mod.glob.keeps I.bk) hm (by rw [I.ok.blt];exact h1.keeps I.bk) ((h2 x hn).trans hv) h) hd
theorem pe_glob {x:Str} {v:V} {u:Value} {pos:Pos} (hg:Gl X x) (hm:X.mg x=some u) (r:zq v u) (hd:(x==("__debug__":Str))=false:=by decide):PE X (.Name x pos) (tC v):=
 fun _ _ _ H _ I h=>xE I hg hm ⟨v,H,I,r,h⟩ hd
theorem yu {x:Str} {v:V} {u:Value} {pos:Pos} (hg:Gl X x) (hm:X.mg x=none) (hv:bootBuiltins x=some u) (r:zq v u) (hn:x≠"__name__":=by decide) (hd:(x==("__debug__":Str))=false:=by decide):PE X (.Name x pos) (tC v):=
 fun _ _ _ H _ I h=>zba I hg hm hv ⟨v,H,I,r,h⟩ hn hd
variable {a b:Expr} {ta tb:TE} {pos:Pos}
def PC (X:Cx) (op:CmpOp) (a b:Expr) (t:TE):Prop:=
 ∀(pins:List (Addr×Obj)) (s:Shared) (σ:St) (H:Hp) (Q:VK),Inv X pins σ H s->t σ H Q->
  wpAny (model X.prog X.w) X.A s!"!{a}" (fun v s₁=>wpAny (model X.prog X.w) X.A s!"!{b}" (fun u s₂=>wpAny (model X.prog X.w) X.A (compareOp op v u) (EP X pins σ Q) X.xe s₂) X.xe s₁) X.xe s
theorem zfg (b:Expr) {op:CmpOp} (h:op≠.In) (h2:op≠.NotIn):behindInMarks op b=false:=by
 have e1:(op==CmpOp.In)=false:=by cases op <;> first | rfl | exact absurd rfl h
 have e2:(op==CmpOp.NotIn)=false:=by cases op <;> first | rfl | exact absurd rfl h2
 cases b <;> simp [behindInMarks,e1,e2]
def tB (t:TE):TT:=fun σ H Q=>t σ H fun x H1=>∃c,x=.bl c/\Q c H1
theorem zoo {op:CmpOp} {t:TE} (h:PC X op a b t) (h1:behindInMarks op b=false:=by first | exact zfg _ s!"c" s!"c" | rfl):PT X (.Compare a [op] [b] pos) (tB t):=by
 intro pins s σ H Q I hw;refine wpAny_isTrue_Compare1 (thn (h pins s σ H _ I hw) fun v s1 h1=>thn h1 fun u s2 h2=>thn h2 fun c s3 ⟨x,H1,I1,r1,q1⟩=>?_) h1
 obtain ⟨d,rfl,q⟩:=q1;cases r1;exact wpAny_truthy_bool ⟨H1,I1,q⟩
theorem pt_val {e:Expr} {t:TE} (h:PE X e t) (he:∀whole,isTrue e X.env whole=(do let v <-whole;standAt e.pos;holding [v] (truthy v)):=by intro _;rfl):PT X e (tB t):=by
 intro pins s σ H Q I hw;refine isTrue_plain (thn (h pins s σ H _ I hw) fun v s1 ⟨x,H1,I1,r1,q1⟩=>?_) (he _)
 obtain ⟨d,rfl,q⟩:=q1;cases r1;exact wpAny_truthy_bool ⟨H1,I1,q⟩
variable {tA tB':TT} {rest:List Expr}
def zpQ (t u:TT):TT:=fun σ H Q=>t σ H fun c H1=>if c=true then u σ H1 Q else Q false H1
def tOr (t u:TT):TT:=fun σ H Q=>t σ H fun c H1=>if c=true then Q true H1 else u σ H1 Q
def zpR (t:TT):TT:=fun σ H Q=>t σ H fun c H1=>Q (!c) H1
theorem zlr (ha:PT X a tA):PW X (.BoolOp .And [a] pos) tA:=by
 intro wh pins s σ H Q I h;refine isTrue_and (thn (ha pins s σ H Q I h) fun c s1 e=>?_)
 cases c with
 | true=>exact isTrue_and_nil e
 | false=>exact e
theorem pw_or1 (ha:PT X a tA):PW X (.BoolOp .Or [a] pos) tA:=by
 intro wh pins s σ H Q I h;refine isTrue_or (thn (ha pins s σ H Q I h) fun c s1 e=>?_)
 cases c with
 | false=>exact isTrue_or_nil e
 | true=>exact e
theorem zop (ha:PT X a tA) (hb:PW X (.BoolOp .And (b::rest) pos) tB'):PW X (.BoolOp .And (a::b::rest) pos) (zpQ tA tB'):=by
 intro wh pins s σ H Q I h;refine isTrue_and (thn (ha pins s σ H _ I h) fun c s1 ⟨H1,I1,q1⟩=>?_)
 cases c with
 | true=>exact hb wh pins s1 σ H1 Q I1 q1
 | false=>exact ⟨H1,I1,q1⟩
theorem pw_or (ha:PT X a tA) (hb:PW X (.BoolOp .Or (b::rest) pos) tB'):PW X (.BoolOp .Or (a::b::rest) pos) (tOr tA tB'):=by
 intro wh pins s σ H Q I h;refine isTrue_or (thn (ha pins s σ H _ I h) fun c s1 ⟨H1,I1,q1⟩=>?_)
 cases c with
 | true=>exact ⟨H1,I1,q1⟩
 | false=>exact hb wh pins s1 σ H1 Q I1 q1
theorem pt_not (ha:PT X a tA):PT X (.UnaryOp .Not a pos) (zpR tA):=by
 intro pins s σ H Q I h;exact isTrue_not (ha pins s σ H (fun c H1=>Q (!c) H1) I h)
def zny (ta tb:TE):TE:=fun σ H Q=>ta σ H fun x H1=>∃c,x=.bl c/\if c=true then tb σ H1 Q else Q (.bl false) H1
def zpS (ta tb:TE):TE:=fun σ H Q=>ta σ H fun x H1=>∃c,x=.bl c/\if c=true then Q s!"#" H1 else tb σ H1 Q
def znz (ta:TE):TE:=fun σ H Q=>ta σ H fun x H1=>∃c,x=.bl c/\Q (.bl (!c)) H1
theorem pe_one {op} {t:TE} (h:PE X a t):PE X (.BoolOp op [a] pos) t:=fun pins s σ H Q I hw=>BoolOp_one (h pins s σ H Q I hw)
theorem pe_and (ha:PE X a ta) (hb:PE X (.BoolOp .And (b::rest) pos) tb):PE X (.BoolOp .And (a::b::rest) pos) (zny ta tb):=by
 intro pins s σ H Q I h;refine BoolOp_and (thn (ha pins s σ H _ I h) fun v s1 ⟨x,H1,I1,r1,q1⟩=>?_)
 obtain ⟨c,rfl,q1⟩:=q1;cases r1;refine wpAny_truthy_bool ?_;cases c with
 | true=>exact hb pins s1 σ H1 Q I1 q1
 | false=>exact ⟨.bl false,H1,I1,rfl,q1⟩
theorem pe_or (ha:PE X a ta) (hb:PE X (.BoolOp .Or (b::rest) pos) tb):PE X (.BoolOp .Or (a::b::rest) pos) (zpS ta tb):=by
 intro pins s σ H Q I h;refine BoolOp_or (thn (ha pins s σ H _ I h) fun v s1 ⟨x,H1,I1,r1,q1⟩=>?_)
 obtain ⟨c,rfl,q1⟩:=q1;cases r1;refine wpAny_truthy_bool ?_;cases c with
 | false=>exact hb pins s1 σ H1 Q I1 q1
 | true=>exact ⟨.bl true,H1,I1,rfl,q1⟩
theorem pe_not (ha:PE X a ta):PE X (.UnaryOp .Not a pos) (znz ta):=by
 intro pins s σ H Q I h;refine UnaryOp_ (thn (ha pins s σ H _ I h) fun v s1 ⟨x,H1,I1,r1,q1⟩=>?_)
 obtain ⟨c,rfl,q1⟩:=q1;cases r1;exact not_of (wpAny_truthy_bool ⟨.bl (!c),H1,I1,rfl,q1⟩)
def tIf (t:TT) (ta tb:TE):TE:=fun σ H Q=>t σ H fun c H1=>if c=true then ta σ H1 Q else tb σ H1 Q
theorem xl {c:Expr} (hc:PT X c tA) (ha:PE X a ta) (hb:PE X b tb):PE X (.IfExp c a b pos) (tIf tA ta tb):=by
 intro pins s σ H Q I h;refine wpAny_IfExp (thn (hc pins s σ H _ I h) fun d s1 ⟨H1,I1,q1⟩=>?_)
 cases d with
 | true=>exact ha pins s1 σ H1 Q I1 q1
 | false=>exact hb pins s1 σ H1 Q I1 q1
end
def SqL (K:PySem.W.Frag) (H:Hp) (a:Addr) (xs:List V):Prop:=
 Rd H a s!"P"\/
  ∃(o:Obj) (its:Array Value) (n:Nat),K.lookup a=some o/\o.cls=.type "list"/\o.dict=none/\o.data=.seq its n/\its.size<=sizeLine/\zo xs its.toList
def SqT (K:PySem.W.Frag) (H:Hp) (a:Addr) (xs:List V):Prop:=
 Rd H a (.tup xs)\/
  ∃(o:Obj) (its:Array Value) (n:Nat),K.lookup a=some o/\o.cls=.type "tuple"/\o.data=.seq its n/\its.size<=sizeLine/\zo xs its.toList
def zre:Value->Option V
 | .none=>some .non
 | .bool b=>some (.bl b)
 | .int i _=>some s!"M"
 | .str x _=>some (.str x)
 | .bytes b _=>some (.byt b)
 | .float b _=>some (.flt b)
 | .ref a=>some s!"g"
 | .type n=>some (.ty n)
 | _=>none
theorem zq.abs {x:V} {u:Value} (r:zq x u):zre u=some x:=by
 cases x with
 | non=>cases r;rfl
 | bl _=>cases r;rfl
 | int _=>obtain ⟨t,rfl⟩:=r;rfl
 | str _=>obtain ⟨t,rfl⟩:=r;rfl
 | byt _=>obtain ⟨t,rfl⟩:=r;rfl
 | flt _=>obtain ⟨t,rfl⟩:=r;rfl
 | ref _=>cases r;rfl
 | ty _=>cases r;rfl
theorem zq.inj {x y:V} {u:Value} (r:zq x u) (q:zq y u):x=y:=Option.some.inj (r.abs.symm.trans q.abs)
theorem zo.inj:∀{xs ys:List V} {us:List Value},zo xs us->zo ys us->xs=ys
 | _,_,_,.nil,.nil=>rfl
 | _,_,_,.cons r t,.cons r' t'=>by rw [r.inj r',zo.inj t t']
section
variable {X:Cx} {pins:List (Addr×Obj)} {σ:St} {H:Hp} {s:Shared} {a:Addr} {xs ys:List V}
theorem SqL.of {K:PySem.W.Frag} (h:H a=some s!"P"):SqL K H a xs:=.inl (.inl h)
theorem SqT.of {K:PySem.W.Frag} (h:H a=some (.tup xs)):SqT K H a xs:=.inl (.inl h)
theorem Inv.list (I:Inv X pins σ H s) (h:SqL X.K H a xs):∃its:List Value,zo xs its/\PlainL s.heap a its.toArray/\xs.length<=sizeLine:=by
 rcases h with h | ⟨o,its,n,hk,hc,hd,hs,hz,r⟩
 ·obtain ⟨z,its,n,r,e⟩:=h.ok I.hok;exact ⟨its,r,⟨_,n,e,rfl,rfl,rfl⟩,z⟩
 ·refine ⟨its.toList,r,⟨o,n,I.kIn a o hk,hc,hd,by simpa using hs⟩,?_⟩
  have e:=r.length;simp only [Array.length_toList] at e;omega
theorem Inv.tuple (I:Inv X pins σ H s) (h:SqT X.K H a xs):∃its:List Value,zo xs its/\IsTup s.heap a its.toArray/\xs.length<=sizeLine:=by
 rcases h with h | ⟨o,its,n,hk,hc,hs,hz,r⟩
 ·obtain ⟨z,its,r,p⟩:=h.ok I.hok;exact ⟨its,r,p,z⟩
 ·refine ⟨its.toList,r,⟨o,I.kIn a o hk,hc,n,by simpa using hs⟩,?_⟩
  have e:=r.length;simp only [Array.length_toList] at e;omega
theorem Inv.list_inj (I:Inv X pins σ H s) (h:SqL X.K H a xs) (h':SqL X.K H a ys):xs=ys:=by
 obtain ⟨its,r,⟨o,n,e,_,_,d⟩,_⟩:=I.list h;obtain ⟨its',r',⟨o',n',e',_,_,d'⟩,_⟩:=I.list h';rw [e] at e';cases e';rw [d] at d';injection d' with d1 _
 have:its=its':=by simpa using congrArg Array.toList d1
 subst this;exact r.inj r'
theorem Inv.tuple_inj (I:Inv X pins σ H s) (h:SqT X.K H a xs) (h':SqT X.K H a ys):xs=ys:=by
 obtain ⟨its,r,⟨o,e,_,n,d⟩,_⟩:=I.tuple h;obtain ⟨its',r',⟨o',e',_,n',d'⟩,_⟩:=I.tuple h';rw [e] at e';cases e';rw [d] at d';injection d' with d1 _
 have:its=its':=by simpa using congrArg Array.toList d1
 subst this;exact r.inj r'
end
abbrev Cx.wish (X:Cx) (E:Value->Shared->Prop):Cx:={ X with xe:=E }
abbrev Cx.nox (X:Cx):Cx:=X.wish fun _ _=>False
theorem Cx.Ok.wish {X:Cx} (ok:X.Ok) (E:Value->Shared->Prop):(X.wish E).Ok:=
 ⟨ok.mod,ok.kind,ok.glob,ok.blt,ok.above,ok.inj,ok.has,ok.cab,ok.hd,ok.frames,ok.stk,ok.exf,ok.bs,ok.bsz,ok.noex,ok.exfs,ok.funs,ok.frf⟩
theorem Cx.Ok.unwish {X:Cx} {E:Value->Shared->Prop} (ok:(X.wish E).Ok):X.Ok:=
 ⟨ok.mod,ok.kind,ok.glob,ok.blt,ok.above,ok.inj,ok.has,ok.cab,ok.hd,ok.frames,ok.stk,ok.exf,ok.bs,ok.bsz,ok.noex,ok.exfs,ok.funs,ok.frf⟩
section
variable {X:Cx} {pins:List (Addr×Obj)} {σ:St} {H:Hp} {s:Shared} {E:Value->Shared->Prop}
theorem Inv.wish (I:Inv X pins σ H s) (E:Value->Shared->Prop):Inv (X.wish E) pins σ H s:=⟨I.ok.wish E,I.os,I.bare,I.base,I.loc,I.cell,I.free,I.freeC,I.pin,I.hok,I.len⟩
theorem Inv.unwish (I:Inv (X.wish E) pins σ H s):Inv X pins σ H s:=⟨I.ok.unwish,I.os,I.bare,I.base,I.loc,I.cell,I.free,I.freeC,I.pin,I.hok,I.len⟩
theorem SP.unwish {D:Ends} {f:Flow} {s':Shared} (h:SP (X.wish E) pins D f s'):SP X pins D f s':=by
 cases f with
 | next=>obtain ⟨σ',H',I,q⟩:=h;exact ⟨σ',H',I.unwish,q⟩
 | brk=>obtain ⟨σ',H',I,q⟩:=h;exact ⟨σ',H',I.unwish,q⟩
 | cont=>obtain ⟨σ',H',I,q⟩:=h;exact ⟨σ',H',I.unwish,q⟩
 | ret u=>obtain ⟨v,σ',H',I,r,q⟩:=h;exact ⟨v,σ',H',I.unwish,r,q⟩
theorem PSs.nox {st:List Stmt} {t:TS} (h:PSs X.nox st t):PSs X st t:=fun pins s σ H D I hw=>
 wpAny_mono (h pins s σ H D (I.wish _) hw) (fun _ _ q=>q.unwish) fun _ _ z=>False.elim z
end
section
variable {X:Cx} {st:Stmt} {rest:List Stmt} {t u:TS} {e:Expr} {te:TE} {pos:Pos}
def znA:TS:=fun D σ H=>D.nx σ H
def zpT (t u:TS):TS:=fun D σ H=>t { D with nx:=u D } σ H
theorem pss_nil:PSs X [] znA:=fun _ _ σ H _ I h=>wpAny_execs_nil ⟨σ,H,I,h⟩
theorem pss_cons (h1:PS X st t) (h2:PSs X rest u):PSs X (st::rest) (zpT t u):=by
 intro pins s σ H D I h;refine wpAny_execs_cons (thn (h1 pins s σ H { D with nx:=u D } I h) fun f s1 q=>?_)
 cases f with
 | next=>
  obtain ⟨σ',H',I',q⟩:=q;exact h2 pins s1 σ' H' D I' q
 | ret v=>exact q
 | brk=>exact q
 | cont=>exact q
theorem pss_one (h1:PS X st t):PSs X [st] t:=by
 intro pins s σ H D I h;refine wpAny_execs_cons (thn (h1 pins s σ H D I h) fun f s1 q=>?_)
 cases f with
 | next=>exact wpAny_execs_nil q
 | ret v=>exact q
 | brk=>exact q
 | cont=>exact q
theorem Inv.quiet {pins:List (Addr×Obj)} {σ:St} {H:Hp} {s:Shared} (I:Inv X pins σ H s):interactive X.env=false:=by simp [interactive,I.ok.kind]
def znB (te:TE):TS:=fun D σ H=>te σ H fun _ H1=>D.nx σ H1
theorem ps_expr (he:PE X e te) (hs:swapsWith e none pos.line X.env=pure false:=by rfl):PS X (.Expr e pos) (znB te):=by
 intro pins s σ H D I h;exact wpAny_Expr_any (thn (he pins s σ H _ I h) fun v s1 ⟨x,H1,I1,r1,q1⟩=>⟨σ,H1,I1,q1⟩) I.quiet hs
def zpU (te:TE):TS:=fun D σ H=>te σ H D.rt
theorem ps_ret (he:PE X e te):PS X (.Return (some e) pos) (zpU te):=by
 intro pins s σ H D I h;exact wpAny_Return_some (thn (he pins s σ H _ I h) fun v s1 ⟨x,H1,I1,r1,q1⟩=>⟨x,σ,H1,I1,r1,q1⟩)
def zpV (c:TT) (t u:TS):TS:=fun D σ H=>c σ H fun b H1=>if b=true then t D σ H1 else u D σ H1
theorem ps_if {c:Expr} {a b:List Stmt} {tc:TT} (hc:PT X c tc) (ha:PSs X a t) (hb:PSs X b u):PS X (.If c a b pos) (zpV tc t u):=by
 intro pins s σ H D I h;refine wpAny_If (thn (hc pins s σ H _ I h) fun d s1 ⟨H1,I1,q1⟩=>?_)
 cases d with
 | true=>exact ha pins s1 σ H1 D I1 q1
 | false=>exact hb pins s1 σ H1 D I1 q1
end
abbrev TG:=V->St->Hp->(St->Hp->Prop)->Prop
abbrev TGs:=List V->St->Hp->(St->Hp->Prop)->Prop
def PG (X:Cx) (target:Expr) (t:TG):Prop:=
 ∀(pins:List (Addr×Obj)) (s:Shared) (σ:St) (H:Hp) (v:V) (u:Value) (Q:St->Hp->Prop),Inv X pins σ H s->zq v u->t v σ H Q->
  wpAny (model X.prog X.w) X.A (assign target X.env u) (fun _ s'=>∃σ' H',Inv X pins σ' H' s'/\Q σ' H') X.xe s
def PGs (X:Cx) (ts:List Expr) (t:TGs):Prop:=
 ∀(pins:List (Addr×Obj)) (s:Shared) (σ:St) (H:Hp) (vs:List V) (us:List Value) (Q:St->Hp->Prop),Inv X pins σ H s->zo vs us->t vs σ H Q->
  wpAny (model X.prog X.w) X.A (assignInOrder ((assignEach ts X.env).map (·.2)) us) (fun _ s'=>∃σ' H',Inv X pins σ' H' s'/\Q σ' H') X.xe s
abbrev TIp:=V->V->Hp->VK->Prop
def PIp (X:Cx) (op:Operator) (t:TIp):Prop:=
 ∀(pins:List (Addr×Obj)) (s:Shared) (σ:St) (H:Hp) (x y:V) (v u:Value) (Q:VK),Inv X pins σ H s->zq x v->zq y u->t x y H Q->
  wpAny (model X.prog X.w) X.A (inplaceOp op v u) (EP X pins σ Q) X.xe s
section
variable {X:Cx} {pos:Pos}
def yR (i:Nat):TG:=fun v σ H Q=>Q (σ.set i (some v)) H
theorem pg_name {i:Nat} {x:Str} (hN:X.N.Nodup) (hi:X.N[i]? =some x) (hx:Loc X.env.scope x) (hf:X.fn x=true\/X.env.scope.names.lookup x=some .local:=by first | exact .inl rfl | exact .inr rfl | assumption):PG X (.Name x pos) (yR i):=by
 intro pins s σ H v u Q I r h;exact wpAny_assign_Name (yQ I hN hi hx r (fun s' I'=>⟨_,H,I',h⟩) hf)
def zoq:TGs:=fun vs σ H Q=>vs=[]/\Q σ H
def zgV (t:TG) (u:TGs):TGs:=fun vs σ H Q=>∃v r,vs=v::r/\t v σ H fun σ' H'=>u r σ' H' Q
theorem zb3:PGs X [] zoq:=by
 intro pins s σ H vs us Q I r h;obtain ⟨e,h⟩:=h;subst e;cases r;exact assignInOrder_nil ⟨σ,H,I,h⟩
theorem yz {e:Expr} {es:List Expr} {t:TG} {u:TGs} (h1:PG X e t) (h2:PGs X es u)
 (hs:(assignEach (e::es) X.env).map (·.2)=assign e X.env::s!"a2".map (·.2):=by rfl):PGs X (e::es) (zgV t u):=by
 intro pins s σ H vs us Q I r h;obtain ⟨v,vr,e1,h⟩:=h;subst e1;cases r with
 | cons r rr=>
  rw [hs];refine assignInOrder_cons (thn (h1 pins s σ H _ _ _ I r h) fun _ s1 ⟨σ1,H1,I1,q1⟩=>?_)
  exact h2 pins s1 σ1 H1 _ _ Q I1 rr q1
def zls (K:PySem.W.Frag) (n:Nat) (t:TGs):TG:=fun v σ H Q=>∃a xs,v=.ref a/\SqT K H a xs/\xs.length=n/\t xs σ H Q
theorem zf1 {es:List Expr} {k:Nat} {t:TGs} {n:Nat} (hc:X.calm=true) (h:PGs X es t)
 (hn:s!"a2".length=n:=by rfl) (hst:s!"a2".findIdx? (·.1)=none:=by rfl):PG X (.Tuple es k pos) (zls X.K n t):=by
 intro pins s σ H v u Q I r hw;obtain ⟨a,xs,e1,hq,hl,hw⟩:=hw;subst e1;cases r;obtain ⟨its,rv,ht,hz⟩:=I.tuple hq;refine assign_Tuple_tuple (I.ok.hd hc) ht (by simp [hn,<-hl,rv.length]) hst fun h' hx=>?_
 have I1:Inv X pins σ H { s with heap:=h' }:=I.kept (t':=s.toks) fun b o e=>hx b o s!"U{s!"C{e}"}" e
 exact h pins _ σ H xs _ Q I1 (by simpa using rv) hw
def zlt (te:TE) (g:TG):TS:=fun D σ H=>te σ H fun x H1=>g x σ H1 D.nx
theorem zor {tg e:Expr} {te:TE} {g:TG} (he:PE X e te) (hg:PG X tg g) (hs:swapsWithSole [tg] e pos.line X.env=pure false:=by rfl) (hw:swappedStores [tg] e X.env=pure none:=by rfl)
 (h1:(assignEach [tg] X.env).map (·.2)=[assign tg X.env]:=by rfl):PS X (.Assign [tg] e pos) (zlt te g):=by
 intro pins s σ H D I h;refine wpAny_Assign_stores (thn (he pins s σ H _ I h) fun v s1 ⟨x,H1,I1,r1,q1⟩=>?_) hs hw
 rw [h1];exact thn (hg pins s1 σ H1 x v _ I1 r1 q1) fun _ s2 q=>q
theorem ps_set {i:Nat} {x:Str} {e:Expr} {te:TE} {pos':Pos} (hN:X.N.Nodup) (hi:X.N[i]? =some x) (hx:Loc X.env.scope x) (he:PE X e te) (hs:swapsWith e (some (.Name x pos')) pos.line X.env=pure false:=by rfl) (hf:X.fn x=true\/X.env.scope.names.lookup x=some .local:=by first | exact .inl rfl | exact .inr rfl | assumption):
 PS X (.Assign [.Name x pos'] e pos) (zlt te (yR i)):=by
 intro pins s σ H D I h;refine wpAny_Assign_Name (thn (he pins s σ H _ I h) fun v s1 ⟨y,H1,I1,r1,q1⟩=>?_) hs
 exact yQ I1 hN hi hx r1 (fun s2 I2=>⟨_,H1,I2,q1⟩) hf
def zpW (i:Nat) (te:TE) (ti:TIp):TS:=fun D σ H=>∃x,σ[i]? =some (some x)/\te σ H fun y H1=>ti x y H1 fun z H2=>D.nx (σ.set i (some z)) H2
theorem zec {i:Nat} {x:Str} {e:Expr} {te:TE} {op:Operator} {ti:TIp} {pos':Pos} (hN:X.N.Nodup) (hi:X.N[i]? =some x) (hx:Loc X.env.scope x) (he:PE X e te) (ho:PIp X op ti) (hf:X.fn x=true\/X.env.scope.names.lookup x=some .local:=by first | exact .inl rfl | exact .inr rfl | assumption):
 PS X (.AugAssign (.Name x pos') op e pos) (zpW i te ti):=by
 intro pins s σ H D I h;obtain ⟨v,e1,h⟩:=h;obtain ⟨m,hn,hl⟩:=I.loc;have vis:Vis X.env.scope x:=by rcases hx with k | k;exact .inl k;exact .inr (.inl k)
 obtain ⟨u,r,l⟩:=hl i x v hi e1 vis;refine wpAny_AugAssign_Name ?_;have go:wpAny (model X.prog X.w) X.A s!"!{e}" (fun w s₂=>wpAny (model X.prog X.w) X.A (inplaceOp op u w) (fun r s₃=>wpAny (model X.prog X.w) X.A (storeName X.env x r) (fun _=>SP X pins D .next) X.xe s₃) X.xe s₂) X.xe s:=by
  refine thn (he pins s σ H _ I h) fun w s1 ⟨y,H1,I1,r1,q1⟩=>?_
  refine thn (ho pins s1 σ H1 v y u w _ I1 r r1 q1) fun z s2 ⟨zv,H2,I2,r2,q2⟩=>?_
  exact yQ I2 hN hi hx r2 (fun s3 I3=>⟨_,H2,I3,q2⟩) hf
 rcases l with ⟨hk,hm⟩ | ⟨hk,c,hc,hcell⟩
 ·exact wpAny_loadName_local I.ok.kind hk hn hm go
 ·rcases hk with hk | hk
  ·exact wpAny_loadName_cell I.ok.kind hk hc hcell go
  ·rcases hx with k | k
   ·have:X.env.scope.names.lookup x=some .free:=hk;rw [k] at this;cases this
   ·have:X.env.scope.names.lookup x=some .free:=hk;rw [k] at this;cases this
def ipI (f:Int->Int->Int):TIp:=fun x y H Q=>∃i j,x=.int i/\y=.int j/\Q (.int (f i j)) H
theorem zed:PIp X .Add (ipI fun i j=>i+j):=by
 intro pins s σ H x y v u Q I r1 r2 h;obtain ⟨i,j,e1,e2,q⟩:=h;subst e1;subst e2;obtain ⟨t,rfl⟩:=r1;obtain ⟨t',rfl⟩:=r2;exact iadd_int ⟨.int _,H,I.tok _,⟨_,rfl⟩,q⟩
end
section
variable {X:Cx} {pos:Pos}
def ziX (c:TT) (tb:TS):TS:=fun D σ H=>∃W:Nat->St->Hp->Prop,(∃m,W m σ H)/\∀m σ H,W m σ H->
 c σ H fun b H1=>if b=true then ∃N:St->Hp->Prop,(∀σ' H',N σ' H'->∃m',m'<m/\W m' σ' H')/\tb { D with nx:=N,ct:=N,bk:=D.nx } σ H1 else D.nx σ H1
theorem zaz {c:Expr} {body:List Stmt} {tc:TT} {tb:TS} (hp:PassesOwn (model X.prog X.w) X.A X.env X.xe) (hc:PT X c tc) (hb:PSs X body tb):PS X (.While c body [] pos) (ziX tc tb):=by
 intro pins s σ H D I h;obtain ⟨W,⟨m0,w0⟩,turn⟩:=h;refine wpAny_While (codeAny_whileLoop (fun n s'=>∃σ' H',Inv X pins σ' H' s'/\W n σ' H') ?_ m0 ⟨σ,H,I,w0⟩)
 rintro n s1 ⟨σ1,H1,I1,w1⟩;refine wpAny_passesOwn hp (thn (hc pins s1 σ1 H1 _ I1 (turn n σ1 H1 w1)) fun b s2 ⟨H2,I2,q2⟩=>?_)
 cases b with
 | true=>
  obtain ⟨N,hN,q2⟩:=q2;rw [if_pos rfl];refine wpAny_passesOwn hp (thn (hb pins s2 σ1 H2 _ I2 q2) fun f s3 q3=>?_)
  cases f with
  | next=>
   obtain ⟨σ3,H3,I3,n3⟩:=q3;obtain ⟨m',hm,w3⟩:=hN σ3 H3 n3;exact ⟨m',hm,σ3,H3,I3,w3⟩
  | cont=>
   obtain ⟨σ3,H3,I3,n3⟩:=q3;obtain ⟨m',hm,w3⟩:=hN σ3 H3 n3;exact ⟨m',hm,σ3,H3,I3,w3⟩
  | brk=>exact q3
  | ret v=>exact q3
 | false=>
  rw [if_neg Bool.false_ne_true];exact wpAny_execs_nil ⟨σ1,H2,I2,q2⟩
end
structure It where
 go:Nat->Hp->Prop
 yld:Nat->Hp->V->Hp->Prop
 stop:Nat->Hp->Prop
def wS (X:Cx) (pins:List (Addr×Obj)) (H:Hp) (b:Addr):Prop:=
 H b=none/\b≠X.env.locals/\b∉X.fs/\(b∈X.ex\/X.s₀.heap.objs.size<=b)/\(∀x c,X.env.cells.lookup x=some c->c≠b)/\∀p∈X.pn++pins,p.1≠b
theorem Inv.fpOk {X:Cx} {pins:List (Addr×Obj)} {σ:St} {H H':Hp} {s:Shared} {b:Addr} (I:Inv X pins σ H s) (hb:s.heap.objs.size<=b) (hn:H' b=none):wS X pins H' b:=by
 refine ⟨hn,Nat.ne_of_gt s!"0{I.lt}{hb}",I.nofs hb,.inr (Nat.le_trans I.sz hb),fun x c e z=>?_,fun p hp z=>?_⟩
 ·obtain ⟨v,q⟩:=I.cell x c e;exact absurd s!"0{q.lt}{by rw [z];exact hb}" (Nat.lt_irrefl _)
 ·exact absurd s!"0{s!"C{(I.pin p hp).1}"}{by rw [z];exact hb}" (Nat.lt_irrefl _)
structure Turn (P:Program) (w:World) (K:PySem.W.Frag) (tg:Expr) (J:It) (fp:List Addr) (it:Addr) (tn:Nat->Heap->Prop):Prop where
 mem:it∈fp
 obj:∀i h,tn i h->∀b∈fp,∃o,h.get? b=some o/\∀v,o.data≠.cell v
 keep:∀i h h',tn i h->(∀b∈fp,∀o,h.get? b=some o->h'.get? b=some o)->tn i h'
 item:∀(X:Cx),X.prog=P->X.w=w->X.K=K->X.calm=true->∀(i:Nat) (pins:List (Addr×Obj)) (s:Shared) (σ:St) (H:Hp) (E:Value->Shared->Prop),Inv X pins σ H s->(∀b∈fp,wS X pins H b)->tn i s.heap->J.go i H->
  wpAny (model P w) X.A (pyNext (.ref it)) (fun r s1=>∃u,r=some u/\
   wpAny (model P w) X.A (letOwnedTupleGo tg (.ref it) u) (fun _ s2=>∃x H',Inv X pins σ H' s2/\zq x u/\J.yld i H x H'/\tn (i+1) s2.heap/\∀b∈fp,H' b=none) E s1) E s
 done:∀(X:Cx),X.prog=P->X.w=w->X.K=K->X.calm=true->∀(i:Nat) (pins:List (Addr×Obj)) (s:Shared) (σ:St) (H:Hp) (E:Value->Shared->Prop),Inv X pins σ H s->(∀b∈fp,wS X pins H b)->tn i s.heap->J.stop i H->
  wpAny (model P w) X.A (pyNext (.ref it)) (fun r s1=>r=none/\Inv X pins σ H s1) E s
 self:∀(A:Around) (i:Nat) (s:Shared) (Q:Value->Shared->Prop) (E:Value->Shared->Prop),tn i s.heap->Q (.ref it) s->wpAny (model P w) A (pyIter (.ref it)) Q E s
abbrev TI:=St->Hp->(It->Hp->Prop)->Prop
def PIE (X:Cx) (pins:List (Addr×Obj)) (σ:St) (tg:Expr) (R:It->Hp->Prop) (itv:Value) (s2:Shared):Prop:=
 ∃(it:Addr) (fp:List Addr) (tn:Nat->Heap->Prop) (J:It) (H':Hp),itv=.ref it/\Inv X pins σ H' s2/\Turn X.prog X.w X.K tg J fp it tn/\tn 0 s2.heap/\(∀b∈fp,wS X pins H' b)/\R J H'
def PI (X:Cx) (tg iter:Expr) (wi:TI):Prop:=
 ∀(pins:List (Addr×Obj)) (s:Shared) (σ:St) (H:Hp) (R:It->Hp->Prop),Inv X pins σ H s->wi σ H R->
  wpAny (model X.prog X.w) X.A s!"!{iter}" (fun v s1=>wpAny (model X.prog X.w) X.A (pyIter v) (PIE X pins σ tg R) X.xe s1) X.xe s
theorem zgW {M:Model} {A:Around} {E:Value->Shared->Prop} {s:Shared} {tg:Expr} {it:Addr} {u:Value} {o:Obj} {n:String} {vs:Array Value} {Q:Unit->Shared->Prop} (ho:s.heap.get? it=some o) (hc:o.cls=.type n) (hd:o.data=.fields vs)
 (hn:["enumerate","zip","dict_itemiterator","dict_reverseitemiterator","odict_iterator","itertools.zip_longest","itertools.pairwise"].contains n=false) (hQ:Q () s):wpAny M A (letOwnedTupleGo tg (.ref it) u) Q E s:=by
 unfold letOwnedTupleGo;cases tg <;> first
  | exact wpAny_pure hQ
  | (cases u <;> first
   | exact wpAny_pure hQ
   | (refine wpAny_bind (wpAny_load ho ?_)
      rw [hc,hd];show wpAny M A (if (["enumerate","zip","dict_itemiterator","dict_reverseitemiterator","odict_iterator","itertools.zip_longest","itertools.pairwise"].contains n && vs[0]? ==some (rawInt _))=true then _ else _) Q E s
      rw [if_neg (by intro h;rw [hn,Bool.false_and] at h;cases h)]
      exact wpAny_pure hQ))
def Itl (K:PySem.W.Frag) (a:Addr):It:=
 ⟨fun i H=>∃xs x,SqL K H a xs/\xs[i]? =some x,fun i H x H'=>H'=H/\∀xs,SqL K H a xs->xs[i]? =some x,fun i H=>∃xs,SqL K H a xs/\xs.length<=i⟩
def Itt (K:PySem.W.Frag) (a:Addr):It:=
 ⟨fun i H=>∃xs x,SqT K H a xs/\xs[i]? =some x,fun i H x H'=>H'=H/\∀xs,SqT K H a xs->xs[i]? =some x,fun i H=>∃xs,SqT K H a xs/\xs.length<=i⟩
def Itr (lo:Int) (n:Nat):It:=⟨fun i _=>i<n,fun i H x H'=>H'=H/\x=.int (lo+i),fun i _=>n<=i⟩
theorem zhO {P:Program} {w:World} {K:PySem.W.Frag} {tg:Expr} (a it:Addr):Turn P w K tg (Itl K a) [it] it (fun i h=>h.IsListIter it a i) where
 mem:=by simp
 obj:=fun i h st b hb=>by
  have e:b=it:=by simpa using hb
  subst e;obtain ⟨o,e,c,d⟩:=st;exact ⟨o,e,fun v z=>by rw [d] at z;cases z⟩
 keep:=fun i h h' st k=>st.at fun o e=>k it (by simp) o e
 item:=by
  intro X hP hw hK hc i pins s σ H E I hf st hg;subst hP hw hK;obtain ⟨xs,x,hq,hx⟩:=hg;obtain ⟨its,rv,p,hz⟩:=I.list hq;obtain ⟨u,hu,ru⟩:=rv.get hx;obtain ⟨f0,f1,f2,f3,f4,f5⟩:=hf it (by simp)
  refine wpAny_pyNext_list_item st p.isList (x:=u) (by simpa using hu) fun h' st' sb=>?_
  have I1:Inv X pins σ H { s with heap:=h' }:=I.turned (t':=s.toks) (fun b o hb e=>(sb.2 b hb).trans e) f0 f1 f3 f4 f5
  obtain ⟨o,e,c,d⟩:=id st';exact ⟨u,rfl,zgW (s:={ s with heap:=h' }) e c d s!"c" ⟨x,H,I1,ru,⟨rfl,fun ys hy=>by rw [I.list_inj hy hq];exact hx⟩,st',fun b hb=>(hf b hb).1⟩⟩
 done:=by
  intro X hP hw hK hc i pins s σ H E I hf st hg;subst hP hw hK;obtain ⟨xs,hq,hx⟩:=hg;obtain ⟨its,rv,p,hz⟩:=I.list hq;obtain ⟨f0,f1,f2,f3,f4,f5⟩:=hf it (by simp)
  have hl:=rv.length;exact wpAny_pyNext_list_end (I.ok.hd hc) st p.isList (by simp;omega) fun h' eb=>⟨rfl,I.turned (t':=s.toks) (fun b o hb e=>eb b o hb e) f0 f1 f3 f4 f5⟩
 self:=fun _ _ _ _ _ st h=>wpAny_pyIter_listiter st h
theorem zf2 {P:Program} {w:World} {K:PySem.W.Frag} {tg:Expr} (a it:Addr):Turn P w K tg (Itt K a) [it] it (fun i h=>h.IsTupleIter it a i) where
 mem:=by simp
 obj:=fun i h st b hb=>by
  have e:b=it:=by simpa using hb
  subst e;obtain ⟨o,e,c,d⟩:=st;exact ⟨o,e,fun v z=>by rw [d] at z;cases z⟩
 keep:=fun i h h' st k=>st.at fun o e=>k it (by simp) o e
 item:=by
  intro X hP hw hK hc i pins s σ H E I hf st hg;subst hP hw hK;obtain ⟨xs,x,hq,hx⟩:=hg;obtain ⟨its,rv,p,hz⟩:=I.tuple hq;obtain ⟨u,hu,ru⟩:=rv.get hx;obtain ⟨f0,f1,f2,f3,f4,f5⟩:=hf it (by simp)
  refine wpAny_pyNext_tuple_item st (show s.heap.IsTuple a its.toArray from p) (x:=u) (by simpa using hu) fun h' st' sb=>?_
  have I1:Inv X pins σ H { s with heap:=h' }:=I.turned (t':=s.toks) (fun b o hb e=>(sb.2 b hb).trans e) f0 f1 f3 f4 f5
  obtain ⟨o,e,c,d⟩:=id st';exact ⟨u,rfl,zgW (s:={ s with heap:=h' }) e c d s!"c" ⟨x,H,I1,ru,⟨rfl,fun ys hy=>by rw [I.tuple_inj hy hq];exact hx⟩,st',fun b hb=>(hf b hb).1⟩⟩
 done:=by
  intro X hP hw hK hc i pins s σ H E I hf st hg;subst hP hw hK;obtain ⟨xs,hq,hx⟩:=hg;obtain ⟨its,rv,p,hz⟩:=I.tuple hq;obtain ⟨f0,f1,f2,f3,f4,f5⟩:=hf it (by simp)
  have hl:=rv.length;exact wpAny_pyNext_tuple_end (I.ok.hd hc) st (show s.heap.IsTuple a its.toArray from p) (by simp;omega) fun h' eb=>⟨rfl,I.turned (t':=s.toks) (fun b o hb e=>eb b o hb e) f0 f1 f3 f4 f5⟩
 self:=fun _ _ _ _ _ st h=>wpAny_pyIter_tupleiter st h
theorem zf3 {P:Program} {w:World} {K:PySem.W.Frag} {tg:Expr} (it:Addr) (lo:Int) (n:Nat):Turn P w K tg (Itr lo n) [it] it (fun i h=>IsRangeIter h it (lo+(i:Nat)*1) ((n:Int)-(i:Nat)) 1) where
 mem:=by simp
 obj:=fun i h st b hb=>by
  have e:b=it:=by simpa using hb
  subst e;exact ⟨_,st,fun v z=>by
   have z':Data.fields _=Data.cell v:=z;cases z'⟩
 keep:=fun i h h' st k=>k it (by simp) _ st
 item:=by
  intro X hP hw hK hc i pins s σ H E I hf st hg;subst hP hw hK;obtain ⟨f0,f1,f2,f3,f4,f5⟩:=hf it (by simp)
  have W:=Walks.range (prog:=X.prog) (w:=X.w) (I.ok.hd hc) it lo 1 n;refine W.item i s _ _ hg st fun v h' tk hv st' kk=>?_
  obtain ⟨t,rfl⟩:=hv;have I1:Inv X pins σ H { s with heap:=h',toks:=tk }:=I.turned (fun b o hb e=>kk b o (by simpa using hb) e) f0 f1 f3 f4 f5
  refine ⟨_,rfl,zgW (s:={ s with heap:=h',toks:=tk }) (n:="range_iterator") st' rfl rfl s!"c" ⟨.int (lo+i),H,I1,⟨t,?_⟩,⟨rfl,rfl⟩,st',fun b hb=>(hf b hb).1⟩⟩
  rw [Int.mul_one]
 done:=by
  intro X hP hw hK hc i pins s σ H E I hf st hg;subst hP hw hK;obtain ⟨f0,f1,f2,f3,f4,f5⟩:=hf it (by simp)
  exact wpAny_pyNext_range_end (I.ok.hd hc) st (by have:n<=i:=hg;omega) fun h' eb=>⟨rfl,I.turned (t':=s.toks) (fun b o hb e=>eb b o hb e) f0 f1 f3 f4 f5⟩
 self:=fun _ _ _ _ _ st h=>wpAny_pyIter_rangeiter st h
section
variable {X:Cx} {tg:Expr}
def zgX (K:PySem.W.Frag) (tl:TE):TI:=fun σ H R=>tl σ H fun x H1=>∃a,x=.ref a/\(∃xs,SqL K H1 a xs)/\R (Itl K a) H1
def zos (K:PySem.W.Frag) (tl:TE):TI:=fun σ H R=>tl σ H fun x H1=>∃a,x=.ref a/\(∃xs,SqT K H1 a xs)/\R (Itt K a) H1
theorem pi_list {l:Expr} {tl:TE} (hl:PE X l tl):PI X tg l (zgX X.K tl):=by
 intro pins s σ H R I h;refine thn (hl pins s σ H _ I h) fun v s1 ⟨x,H1,I1,r1,q1⟩=>?_
 obtain ⟨a,e,⟨xs,hq⟩,q⟩:=q1;subst e;cases r1;obtain ⟨its,rv,p,hz⟩:=I1.list hq;refine wpAny_pyIter_list p.isList ?_;refine ⟨s1.heap.objs.size,[s1.heap.objs.size],_,_,H1,rfl,I1.kept (t':=s1.toks) fun b o e=>Heap.get?_push_of_some _ e,zhO a _,⟨_,Heap.get?_push_size _ rfl,rfl,rfl⟩,fun b hb=>?_,q⟩
 have e:b=s1.heap.objs.size:=by simpa using hb
 subst e;exact I1.fpOk (Nat.le_refl _) (I1.hok.fresh (Nat.le_refl _))
theorem pi_tup {l:Expr} {tl:TE} (hl:PE X l tl):PI X tg l (zos X.K tl):=by
 intro pins s σ H R I h;refine thn (hl pins s σ H _ I h) fun v s1 ⟨x,H1,I1,r1,q1⟩=>?_
 obtain ⟨a,e,⟨xs,hq⟩,q⟩:=q1;subst e;cases r1;obtain ⟨its,rv,p,hz⟩:=I1.tuple hq;refine wpAny_pyIter_tuple (show s1.heap.IsTuple a its.toArray from p) ?_
 refine ⟨s1.heap.objs.size,[s1.heap.objs.size],_,_,H1,rfl,I1.kept (t':=s1.toks) fun b o e=>Heap.get?_push_of_some _ e,zf2 a _,⟨_,Heap.get?_push_size _ rfl,rfl,rfl⟩,fun b hb=>?_,q⟩
 have e:b=s1.heap.objs.size:=by simpa using hb
 subst e;exact I1.fpOk (Nat.le_refl _) (I1.hok.fresh (Nat.le_refl _))
theorem zfh {pins:List (Addr×Obj)} {σ:St} {H:Hp} {s:Shared} {R:It->Hp->Prop} {E:Value->Shared->Prop} {lo hi:Int} {t u v:Tok} {tk:Nat} (I:Inv X pins σ H s) (h1:-(2^62)<=lo) (h2:lo<2^62) (h3:-(2^62)<=hi) (h4:hi<2^62)
 (q:R (Itr lo (hi-lo).toNat) H):wpAny (model X.prog X.w) X.A (pyIter s!"aD") (PIE X pins σ tg R) E { s with heap:=s.heap.push { cls:=.type "range",data:=.fields #[.int lo t,.int hi u,.int 1 v] },toks:=tk }:=by
 refine wpAny_pyIter_range (IsRange.new ..) (small_one h1 h2 h3 h4) ?_;have I1:Inv X pins σ H { s with heap:=s.heap.push { cls:=.type "range",data:=.fields #[.int lo t,.int hi u,.int 1 v] },toks:=tk }:=I.kept fun b o e=>Heap.get?_push_of_some _ e
 refine ⟨(s.heap.push { cls:=.type "range",data:=.fields #[.int lo t,.int hi u,.int 1 v] }).objs.size,[(s.heap.push { cls:=.type "range",data:=.fields #[.int lo t,.int hi u,.int 1 v] }).objs.size],_,_,H,rfl,
  I1.kept (t':=tk) fun b o e=>Heap.get?_push_of_some _ e,zf3 _ lo (hi-lo).toNat,?_,fun b hb=>?_,q⟩
 ·have e1:lo+((0:Nat):Int)*1=lo:=by simp
  have e2:(((hi-lo).toNat:Nat):Int)-((0:Nat):Int)=Builtin.Range.rangeSize lo hi 1:=by rw [rangeSize_one];split <;> omega
  show IsRangeIter _ _ (lo+((0:Nat):Int)*1) ((((hi-lo).toNat:Nat):Int)-((0:Nat):Int)) 1;rw [e1,e2];exact Heap.get?_push_size _ rfl
 ·have e:b=(s.heap.push { cls:=.type "range",data:=.fields #[.int lo t,.int hi u,.int 1 v] }).objs.size:=by simpa using hb
  subst e;exact I1.fpOk (Nat.le_refl _) (I1.hok.fresh (Nat.le_refl _))
def ziY (ta:TA):TI:=fun σ H R=>ta σ H fun vs H1=>∃j:Int,vs=[.int j]/\-(2^62)<=j/\j<2^62/\R (Itr 0 j.toNat) H1
def znC (ta:TA):TI:=fun σ H R=>ta σ H fun vs H1=>∃i j:Int,vs=[.int i,.int j]/\(-(2^62)<=i/\i<2^62/\-(2^62)<=j/\j<2^62)/\R (Itr i (j-i).toNat) H1
theorem pi_range1 {a:Expr} {ta:TA} {p pos:Pos} (hg:Gl X "range") (hm:X.mg "range"=none) (ha:PA X [a] ta) (hs:starEach [a] X.env=[(false,eval a X.env)]:=by rfl):PI X tg (.Call (.Name "range" p) [a] [] pos) (ziY ta):=by
 intro pins s σ H R I h;refine Call_ (zba I hg hm boot_range (PyProof.Rows.callWith_type1 (thn (ha pos pins s σ H _ I h) fun us s1 ⟨vs,H1,I1,r1,q1⟩=>?_) hs rfl))
 obtain ⟨j,e,q1,q2,q⟩:=q1;subst e;cases r1 with
 | cons r rr=>
  cases rr;obtain ⟨t,rfl⟩:=r;exact call_range_1 (zfh I1 s!"e" s!"e" q1 q2 (by simpa using q))
theorem pi_range2 {a b:Expr} {ta:TA} {p pos:Pos} (hg:Gl X "range") (hm:X.mg "range"=none) (ha:PA X [a,b] ta) (hs:starEach [a,b] X.env=[(false,eval a X.env),(false,eval b X.env)]:=by rfl) (hs2:starEach [b] X.env=[(false,eval b X.env)]:=by rfl):
 PI X tg (.Call (.Name "range" p) [a,b] [] pos) (znC ta):=by
 intro pins s σ H R I h;refine Call_ (zba I hg hm boot_range (PyProof.Rows.callWith_type1 (thn (ha pos pins s σ H _ I h) fun us s1 ⟨vs,H1,I1,r1,q1⟩=>?_) (by rw [hs,hs2]) (by rw [hs2];rfl)))
 obtain ⟨i,j,e,⟨q1,q2,q3,q4⟩,q⟩:=q1;subst e;cases r1 with
 | cons r rr=>
  cases rr with
  | cons r' rr=>
   cases rr;obtain ⟨t,rfl⟩:=r;obtain ⟨t',rfl⟩:=r';exact call_range_2 (zfh I1 q1 q2 q3 q4 q)
def ziZ (wi:TI) (g:TG) (tb:TS):TS:=fun D σ H=>wi σ H fun J H1=>∃W:Nat->Nat->St->Hp->Prop,(∃m,W 0 m σ H1)/\∀i m σ H,W i m σ H->
 (J.stop i H/\D.nx σ H)\/(J.go i H/\∃N:St->Hp->Prop,(∀σ' H',N σ' H'->∃m',m'<m/\W (i+1) m' σ' H')/\∀x H',J.yld i H x H'->g x σ H' fun σ2 H2=>tb { D with nx:=N,ct:=N,bk:=D.nx } σ2 H2)
def zee (fp:List Addr) (h:Heap):List (Addr×Obj):=fp.filterMap fun b=>(h.get? b).map fun o=>(b,o)
theorem zI {fp:List Addr} {h:Heap} {b:Addr} {o:Obj} (hb:b∈fp) (e:h.get? b=some o):(b,o)∈zee fp h:=List.mem_filterMap.mpr ⟨b,hb,by rw [e];rfl⟩
theorem zhP {fp:List Addr} {h:Heap} {p:Addr×Obj} (hp:p∈zee fp h):p.1∈fp/\h.get? p.1=some p.2:=by
 obtain ⟨b,hb,e⟩:=List.mem_filterMap.mp hp;cases q:h.get? b with
 | none=>rw [q] at e;cases e
 | some o=>
  rw [q] at e;have e':(b,o)=p:=Option.some.inj e;subst e';exact ⟨hb,q⟩
theorem Inv.pinned {pins:List (Addr×Obj)} {σ:St} {H:Hp} {s:Shared} {fp:List Addr} (I:Inv X pins σ H s) (hf:∀b∈fp,wS X pins H b) (ho:∀b∈fp,∃o,s.heap.get? b=some o/\∀v,o.data≠.cell v):Inv X (pins++zee fp s.heap) σ H s:=
 I.pins_of fun p hp=>(List.mem_append.mp hp).elim (fun z=>I.pin p s!"${z}") fun z=>by
  obtain ⟨hb,e⟩:=zhP z;obtain ⟨f0,f1,f2,_⟩:=hf p.1 hb;obtain ⟨o,e',d⟩:=ho p.1 hb;rw [e] at e';cases e';exact ⟨e,f0,f1,f2,d⟩
theorem Inv.unpinned {pins pl:List (Addr×Obj)} {σ:St} {H:Hp} {s:Shared} (I:Inv X (pins++pl) σ H s):Inv X pins σ H s:=I.pins_of fun p hp=>I.pin p s!"${s!"ar{hp}"}"
theorem ps_for {iter:Expr} {body:List Stmt} {wi:TI} {g:TG} {tb:TS} {pos:Pos} (hp:PassesOwn (model X.prog X.w) X.A X.env X.xe) (hc:X.calm=true) (hi:PI X tg iter wi) (hg:PG X tg g) (hb:PSs X body tb)
 (hs:∀x,foldedSetIterable iter X.env x=pure x:=by intro _;rfl):PS X (.For tg iter body [] pos) (ziZ wi g tb):=by
 intro pins s σ H D I h;refine wpAny_For (thn (hi pins s σ H _ I h) fun v s1 h1=>thn h1 fun itv s2 h2=>?_) hs
 obtain ⟨it,fp,tn,J,H2,e,I2,T,st2,f2,W,⟨m0,w0⟩,turn⟩:=h2;subst e;have stat:∀{H':Hp},(∀b∈fp,H' b=none)->∀b∈fp,wS X pins H' b:=fun hn b hb=>⟨hn b hb,(f2 b hb).2⟩
 refine codeAny_forLoop_any (fun n s'=>∃i σ' H',Inv X pins σ' H' s'/\tn i s'.heap/\(∀b∈fp,H' b=none)/\W i n σ' H') ?_ m0 ⟨0,σ,H2,I2,st2,fun b hb=>(f2 b hb).1,w0⟩
 rintro n s3 ⟨i,σ3,H3,I3,st3,fr3,w3⟩;rcases turn i n σ3 H3 w3 with ⟨stop,qn⟩ | ⟨go,N,hN,step⟩
 ·refine wpAny_passesOwn hp (thn (T.done X rfl rfl rfl hc i pins s3 σ3 H3 X.xe I3 (stat fr3) st3 stop) fun r s4 ⟨hr,I4⟩=>?_)
  subst hr;exact wpAny_execs_nil ⟨σ3,H3,I4,qn⟩
 ·refine wpAny_passesOwn hp (thn (T.item X rfl rfl rfl hc i pins s3 σ3 H3 X.xe I3 (stat fr3) st3 go) fun r s4 ⟨u,hr,h4⟩=>?_)
  subst hr;refine wpAny_passesOwn hp (thn h4 fun _ s5 ⟨x,H5,I5,r5,y5,st5,fr5⟩=>?_)
  have I5':=I5.pinned (stat fr5) (T.obj _ _ st5);refine wpAny_passesOwn hp (thn (hg _ s5 σ3 H5 x u _ I5' r5 (step x H5 y5)) fun _ s6 ⟨σ6,H6,I6,q6⟩=>?_)
  refine wpAny_passesOwn hp (thn (hb _ s6 σ6 H6 _ I6 q6) fun f s7 q7=>?_)
  have again:∀{σ7:St} {H7:Hp},Inv X (pins++zee fp s5.heap) σ7 H7 s7->N σ7 H7->∃m,m<n/\∃i σ' H',Inv X pins σ' H' s7/\tn i s7.heap/\(∀b∈fp,H' b=none)/\W i m σ' H':=fun {σ7 H7} I7 n7=>by
   obtain ⟨m',hm,w7⟩:=hN σ7 H7 n7;refine ⟨m',hm,i+1,σ7,H7,I7.unpinned,T.keep _ _ _ st5 fun b hb o e=>(I7.pin (b,o) (List.mem_append_right _ s!"${zI hb e}")).1,fun b hb=>?_,w7⟩
   obtain ⟨o,e,d⟩:=T.obj _ _ st5 b hb;exact (I7.pin (b,o) (List.mem_append_right _ s!"${zI hb e}")).2.1
  cases f with
  | next=>obtain ⟨σ7,H7,I7,n7⟩:=q7;exact again I7 n7
  | cont=>obtain ⟨σ7,H7,I7,n7⟩:=q7;exact again I7 n7
  | brk=>obtain ⟨σ7,H7,I7,q7⟩:=q7;exact ⟨σ7,H7,I7.unpinned,q7⟩
  | ret v=>obtain ⟨x7,σ7,H7,I7,r7,q7⟩:=q7;exact ⟨x7,σ7,H7,I7.unpinned,r7,q7⟩
end
theorem zfi {K:PySem.W.Frag} {a:Addr} {xs:List V} {g:TG} {tb:TS} {D:Ends} {σ:St} {H:Hp} (Pv:Nat->St->Hp->Prop) (h0:Pv 0 σ H) (hl:∀i σ H,i<=xs.length->Pv i σ H->SqL K H a xs)
 (hs:∀i x σ H,xs[i]? =some x->Pv i σ H->g x σ H fun σ2 H2=>tb { D with nx:=Pv (i+1),ct:=Pv (i+1),bk:=D.nx } σ2 H2) (hd:∀σ H,Pv xs.length σ H->D.nx σ H):
 ∃W:Nat->Nat->St->Hp->Prop,(∃m,W 0 m σ H)/\∀i m σ H,W i m σ H->
  ((Itl K a).stop i H/\D.nx σ H)\/((Itl K a).go i H/\∃N:St->Hp->Prop,(∀σ' H',N σ' H'->∃m',m'<m/\W (i+1) m' σ' H')/\∀x H',(Itl K a).yld i H x H'->g x σ H' fun σ2 H2=>tb { D with nx:=N,ct:=N,bk:=D.nx } σ2 H2):=by
 refine ⟨fun i m σ H=>m=xs.length-i/\i<=xs.length/\Pv i σ H,⟨xs.length,by simp,Nat.zero_le _,h0⟩,?_⟩
 rintro i m σ H ⟨rfl,hi,p⟩;have q:=hl i σ H hi p
 by_cases hlt:i<xs.length
 ·refine .inr ⟨⟨xs,xs[i],q,by simp [hlt]⟩,Pv (i+1),fun σ' H' p'=>⟨xs.length-(i+1),by omega,rfl,hlt,p'⟩,fun x H' y=>?_⟩
  obtain ⟨e,y⟩:=y;subst e;exact hs i x σ _ (y xs q) p
 ·have e:i=xs.length:=by omega
  subst e;exact .inl ⟨⟨xs,q,Nat.le_refl _⟩,hd σ H p⟩
theorem zgY {K:PySem.W.Frag} {a:Addr} {xs:List V} {g:TG} {tb:TS} {D:Ends} {σ:St} {H:Hp} (Pv:Nat->St->Hp->Prop) (h0:Pv 0 σ H) (hl:∀i σ H,i<=xs.length->Pv i σ H->SqT K H a xs)
 (hs:∀i x σ H,xs[i]? =some x->Pv i σ H->g x σ H fun σ2 H2=>tb { D with nx:=Pv (i+1),ct:=Pv (i+1),bk:=D.nx } σ2 H2) (hd:∀σ H,Pv xs.length σ H->D.nx σ H):
 ∃W:Nat->Nat->St->Hp->Prop,(∃m,W 0 m σ H)/\∀i m σ H,W i m σ H->
  ((Itt K a).stop i H/\D.nx σ H)\/((Itt K a).go i H/\∃N:St->Hp->Prop,(∀σ' H',N σ' H'->∃m',m'<m/\W (i+1) m' σ' H')/\∀x H',(Itt K a).yld i H x H'->g x σ H' fun σ2 H2=>tb { D with nx:=N,ct:=N,bk:=D.nx } σ2 H2):=by
 refine ⟨fun i m σ H=>m=xs.length-i/\i<=xs.length/\Pv i σ H,⟨xs.length,by simp,Nat.zero_le _,h0⟩,?_⟩
 rintro i m σ H ⟨rfl,hi,p⟩;have q:=hl i σ H hi p
 by_cases hlt:i<xs.length
 ·refine .inr ⟨⟨xs,xs[i],q,by simp [hlt]⟩,Pv (i+1),fun σ' H' p'=>⟨xs.length-(i+1),by omega,rfl,hlt,p'⟩,fun x H' y=>?_⟩
  obtain ⟨e,y⟩:=y;subst e;exact hs i x σ _ (y xs q) p
 ·have e:i=xs.length:=by omega
  subst e;exact .inl ⟨⟨xs,q,Nat.le_refl _⟩,hd σ H p⟩
theorem zdh {lo:Int} {n:Nat} {g:TG} {tb:TS} {D:Ends} {σ:St} {H:Hp} (Pv:Nat->St->Hp->Prop) (h0:Pv 0 σ H)
 (hs:∀i σ H,i<n->Pv i σ H->g (.int (lo+i)) σ H fun σ2 H2=>tb { D with nx:=Pv (i+1),ct:=Pv (i+1),bk:=D.nx } σ2 H2) (hd:∀σ H,Pv n σ H->D.nx σ H):
 ∃W:Nat->Nat->St->Hp->Prop,(∃m,W 0 m σ H)/\∀i m σ H,W i m σ H->
  ((Itr lo n).stop i H/\D.nx σ H)\/((Itr lo n).go i H/\∃N:St->Hp->Prop,(∀σ' H',N σ' H'->∃m',m'<m/\W (i+1) m' σ' H')/\∀x H',(Itr lo n).yld i H x H'->g x σ H' fun σ2 H2=>tb { D with nx:=N,ct:=N,bk:=D.nx } σ2 H2):=by
 refine ⟨fun i m σ H=>m=n-i/\i<=n/\Pv i σ H,⟨n,by simp,Nat.zero_le _,h0⟩,?_⟩
 rintro i m σ H ⟨rfl,hi,p⟩
 by_cases hlt:i<n
 ·refine .inr ⟨hlt,Pv (i+1),fun σ' H' p'=>⟨n-(i+1),by omega,rfl,hlt,p'⟩,fun x H' y=>?_⟩
  obtain ⟨e,y⟩:=y;subst e y;exact hs i σ _ hlt p
 ·have e:i=n:=by omega
  subst e;exact .inl ⟨Nat.le_refl _,hd σ H p⟩
abbrev R2:=V->V->Hp->VK->Prop
def OpR (X:Cx) (f:Value->Value->Sem Value) (r:R2):Prop:=
 ∀(pins:List (Addr×Obj)) (s:Shared) (σ:St) (H:Hp) (x y:V) (v u:Value) (Q:VK),Inv X pins σ H s->zq x v->zq y u->r x y H Q->
  wpAny (model X.prog X.w) X.A (f v u) (EP X pins σ Q) X.xe s
def UnR (X:Cx) (f:Value->Sem Value) (r:V->Hp->VK->Prop):Prop:=
 ∀(pins:List (Addr×Obj)) (s:Shared) (σ:St) (H:Hp) (x:V) (v:Value) (Q:VK),Inv X pins σ H s->zq x v->r x H Q->
  wpAny (model X.prog X.w) X.A (f v) (EP X pins σ Q) X.xe s
def yi (X:Cx) (f:Value) (r:List V->Hp->VK->Prop):Prop:=
 ∀(pins:List (Addr×Obj)) (s:Shared) (σ:St) (H:Hp) (xs:List V) (us:List Value) (Q:VK),Inv X pins σ H s->zo xs us->r xs H Q->
  wpAny (model X.prog X.w) X.A (call f us) (EP X pins σ Q) X.xe s
def tOp (r:R2) (ta tb:TE):TE:=fun σ H Q=>ta σ H fun x H1=>tb σ H1 fun y H2=>r x y H2 Q
def tUn (r:V->Hp->VK->Prop) (ta:TE):TE:=fun σ H Q=>ta σ H fun x H1=>r x H1 Q
def rI (C:Int->Int->Prop) (g:Int->Int->V):R2:=fun x y H Q=>∃i j,x=.int i/\y=.int j/\C i j/\Q (g i j) H
def rI0 (g:Int->Int->V):R2:=fun x y H Q=>∃i j,x=.int i/\y=.int j/\Q (g i j) H
def rU (g:Int->V):V->Hp->VK->Prop:=fun x H Q=>∃i,x=.int i/\Q (g i) H
section
variable {X:Cx} {a b c:Expr} {ta tb tc:TE} {pos:Pos}
theorem zot (ha:PE X a ta) (hb:PE X b tb) {pins:List (Addr×Obj)} {s:Shared} {σ:St} {H:Hp} {R:V->V->Hp->Prop} (I:Inv X pins σ H s)
 (h:ta σ H fun x H1=>tb σ H1 fun y H2=>R x y H2) {Q:Value->Shared->Prop} {f:Value->Value->Sem Value}
 (hf:∀v u s2 x y H2,Inv X pins σ H2 s2->zq x v->zq y u->R x y H2->wpAny (model X.prog X.w) X.A (f v u) Q X.xe s2):
 wpAny (model X.prog X.w) X.A s!"!{a}" (fun v s₁=>wpAny (model X.prog X.w) X.A s!"!{b}" (fun u s₂=>wpAny (model X.prog X.w) X.A (f v u) Q X.xe s₂) X.xe s₁) X.xe s:=by
 refine thn (ha pins s σ H _ I h) fun v s1 ⟨x,H1,I1,r1,q1⟩=>?_
 refine thn (hb pins s1 σ H1 _ I1 q1) fun u s2 ⟨y,H2,I2,r2,q2⟩=>?_
 exact hf v u s2 x y H2 I2 r1 r2 q2
theorem pe_op {op:Operator} {r:R2} (ho:OpR X (binaryOp op) r) (ha:PE X a ta) (hb:PE X b tb):PE X (.BinOp a op b pos) (tOp r ta tb):=by
 intro pins s σ H Q I h;exact wpAny_BinOp (zot ha hb I h fun v u s2 x y H2 I2 rx ry q=>ho pins s2 σ H2 x y v u Q I2 rx ry q)
theorem zgZ {op:UnaryOp} {r:V->Hp->VK->Prop} (ho:UnR X (unaryOp op) r) (ha:PE X a ta):PE X (.UnaryOp op a pos) (tUn r ta):=by
 intro pins s σ H Q I h;exact UnaryOp_ (thn (ha pins s σ H _ I h) fun v s1 ⟨x,H1,I1,r1,q1⟩=>ho pins s1 σ H1 x v Q I1 r1 q1)
theorem opI {f:Value->Value->Sem Value} {C:Int->Int->Prop} {g:Int->Int->Int}
 (rule:∀(i j:Int) (t u:Tok) (s:Shared) (Q:Value->Shared->Prop) (E:Value->Shared->Prop),C i j->Q (.int (g i j) s.toks) { s with toks:=s.toks+1 }->wpAny (model X.prog X.w) X.A (f (.int i t) (.int j u)) Q E s):
 OpR X f (rI C fun i j=>.int (g i j)):=by
 intro pins s σ H x y v u Q I rx ry h;obtain ⟨i,j,rfl,rfl,hc,q⟩:=h;obtain ⟨t,rfl⟩:=rx;obtain ⟨t',rfl⟩:=ry;exact rule i j t t' s _ _ hc ⟨.int (g i j),H,I.tok _,⟨_,rfl⟩,q⟩
theorem zpX {f:Value->Value->Sem Value} {g:Int->Int->Int}
 (rule:∀(i j:Int) (t u:Tok) (s:Shared) (Q:Value->Shared->Prop) (E:Value->Shared->Prop),Q (.int (g i j) s.toks) { s with toks:=s.toks+1 }->wpAny (model X.prog X.w) X.A (f (.int i t) (.int j u)) Q E s):
 OpR X f (rI0 fun i j=>.int (g i j)):=by
 intro pins s σ H x y v u Q I rx ry h;obtain ⟨i,j,rfl,rfl,q⟩:=h;obtain ⟨t,rfl⟩:=rx;obtain ⟨t',rfl⟩:=ry;exact rule i j t t' s _ _ ⟨.int (g i j),H,I.tok _,⟨_,rfl⟩,q⟩
theorem zlu {f:Value->Value->Sem Value} {g:Int->Int->Bool}
 (rule:∀(i j:Int) (t u:Tok) (s:Shared) (Q:Value->Shared->Prop) (E:Value->Shared->Prop),Q (.bool (g i j)) s->wpAny (model X.prog X.w) X.A (f (.int i t) (.int j u)) Q E s):
 OpR X f (rI0 fun i j=>.bl (g i j)):=by
 intro pins s σ H x y v u Q I rx ry h;obtain ⟨i,j,rfl,rfl,q⟩:=h;obtain ⟨t,rfl⟩:=rx;obtain ⟨t',rfl⟩:=ry;exact rule i j t t' s _ _ ⟨.bl (g i j),H,I,rfl,q⟩
def zpY (i j:Int):Prop:=0<=j/\j<=1000000/\i.natAbs<2^64
theorem zou:OpR X s!"aE" (rI0 fun i j=>.int (i+j)):=zpX fun _ _ _ _ _ _ _ q=>add_int q
theorem zov:OpR X (binaryOp .Sub) (rI0 fun i j=>.int (i-j)):=zpX fun _ _ _ _ _ _ _ q=>sub_int q
theorem zlv:OpR X (binaryOp .Mod) (rI (fun _ j=>j≠0) fun i j=>.int (i.fmod j)):=opI fun _ _ _ _ _ _ _ hc q=>mod_int' hc q
theorem zow:OpR X (binaryOp .Pow) (rI zpY fun i j=>.int (i^j.toNat)):=opI fun _ _ _ _ _ _ _ hc q=>pow_int_small hc.1 hc.2.1 hc.2.2 q
theorem unI {f:Value->Sem Value} {g:Int->Int}
 (rule:∀(i:Int) (t:Tok) (s:Shared) (Q:Value->Shared->Prop) (E:Value->Shared->Prop),Q (.int (g i) s.toks) { s with toks:=s.toks+1 }->wpAny (model X.prog X.w) X.A (f (.int i t)) Q E s):
 UnR X f (rU fun i=>.int (g i)):=by
 intro pins s σ H x v Q I rx h;obtain ⟨i,rfl,q⟩:=h;obtain ⟨t,rfl⟩:=rx;exact rule i t s _ _ ⟨.int (g i),H,I.tok _,⟨_,rfl⟩,q⟩
theorem zef:UnR X (unaryOp .USub) (rU fun i=>.int (-i)):=unI fun _ _ _ _ _ q=>neg_int q
end
def zpZ:V->V->Bool
 | .non,.non=>true | .non,.int _=>true | .int _,.non=>true | .non,.bl _=>true | .bl _,.non=>true | .non,.str _=>true | .str _,.non=>true
 | .int _,.int _=>true | .bl _,.bl _=>true | .str _,.str _=>true | .byt _,.byt _=>true
 | .int _,.str _=>true | .str _,.int _=>true | .bl _,.str _=>true | .str _,.bl _=>true
 | _,_=>false
def rEq:R2:=fun x y H Q=>zpZ x y=true/\Q (.bl (decide (x=y))) H
def rNe:R2:=fun x y H Q=>zpZ x y=true/\Q (.bl (!decide (x=y))) H
theorem zg0 {i j:Int}:decide (V.int i=V.int j)=(i==j):=by
 rw [Bool.eq_iff_iff];simp
theorem zi0 {i j:Bool}:decide (V.bl i=V.bl j)=(i==j):=by
 rw [Bool.eq_iff_iff];simp
theorem zg1 {i j:Str}:decide (V.str i=V.str j)=(i==j):=by
 rw [Bool.eq_iff_iff];simp
theorem zg2 {i j:Array UInt8}:decide (V.byt i=V.byt j)=(i.toList==j.toList):=by
 rw [Bool.eq_iff_iff];cases i;cases j;simp
section
variable {X:Cx} {a b c:Expr} {ta tb tc:TE} {pos:Pos}
theorem zt {pins:List (Addr×Obj)} {σ:St} {H:Hp} {s:Shared} {Q:VK} {k k':Bool} (I:Inv X pins σ H s) (q:Q (.bl k) H) (e:k=k'):EP X pins σ Q (.bool k') s:=by
 subst e;exact ⟨.bl k,H,I,rfl,q⟩
theorem znD:OpR X s!"O{.Eq}" rEq:=by
 intro pins s σ H x y v u Q I rx ry h;obtain ⟨hs,q⟩:=h;cases x with
 | non=>
  cases rx;cases y with
  | non=>cases ry;exact PySem.EqNone.eq_none_none (zt I q (by simp))
  | bl j=>cases ry;exact PySem.EqNone.eq_none_bool (zt I q (by simp))
  | int j=>obtain ⟨t',rfl⟩:=ry;exact PySem.EqNone.eq_none_int (zt I q (by simp))
  | str j=>obtain ⟨t',rfl⟩:=ry;exact PySem.EqNone.eq_none_str (zt I q (by simp))
  | _=>exact absurd (show false=true from hs) Bool.false_ne_true
 | bl i=>
  cases rx;cases y with
  | non=>cases ry;exact PySem.EqNone.eq_bool_none (zt I q (by simp))
  | bl j=>cases ry;exact eq_bool (zt I q zi0)
  | str j=>obtain ⟨t',rfl⟩:=ry;exact PySem.EqMixed.eq_bool_str (zt I q (by simp))
  | _=>exact absurd (show false=true from hs) Bool.false_ne_true
 | int i=>
  obtain ⟨t,rfl⟩:=rx;cases y with
  | non=>cases ry;exact PySem.EqNone.eq_int_none (zt I q (by simp))
  | int j=>obtain ⟨t',rfl⟩:=ry;exact eq_int (zt I q zg0)
  | str j=>obtain ⟨t',rfl⟩:=ry;exact PySem.EqMixed.eq_int_str (zt I q (by simp))
  | _=>exact absurd (show false=true from hs) Bool.false_ne_true
 | str i=>
  obtain ⟨t,rfl⟩:=rx;cases y with
  | non=>cases ry;exact PySem.EqNone.eq_str_none (zt I q (by simp))
  | bl j=>cases ry;exact PySem.EqMixed.eq_str_bool (zt I q (by simp))
  | int j=>obtain ⟨t',rfl⟩:=ry;exact PySem.EqMixed.eq_str_int (zt I q (by simp))
  | str j=>obtain ⟨t',rfl⟩:=ry;exact eq_str (zt I q zg1)
  | _=>exact absurd (show false=true from hs) Bool.false_ne_true
 | byt i=>
  obtain ⟨t,rfl⟩:=rx;cases y with
  | byt j=>obtain ⟨t',rfl⟩:=ry;exact PySem.W.eq_bytes (zt I q zg2)
  | _=>exact absurd (show false=true from hs) Bool.false_ne_true
 | _=>cases y <;> exact absurd (show false=true from hs) Bool.false_ne_true
theorem znE:OpR X s!"O{.NotEq}" rNe:=by
 intro pins s σ H x y v u Q I rx ry h;obtain ⟨hs,q⟩:=h;cases x with
 | non=>
  cases rx;cases y with
  | non=>cases ry;exact PySem.EqNone.ne_none_none (zt I q (by simp))
  | bl j=>cases ry;exact PySem.EqNone.ne_none_bool (zt I q (by simp))
  | int j=>obtain ⟨t',rfl⟩:=ry;exact PySem.EqNone.ne_none_int (zt I q (by simp))
  | str j=>obtain ⟨t',rfl⟩:=ry;exact PySem.EqNone.ne_none_str (zt I q (by simp))
  | _=>exact absurd (show false=true from hs) Bool.false_ne_true
 | bl i=>
  cases rx;cases y with
  | non=>cases ry;exact PySem.EqNone.ne_bool_none (zt I q (by simp))
  | bl j=>cases ry;exact ne_bool (zt I q (congrArg not zi0))
  | str j=>obtain ⟨t',rfl⟩:=ry;exact PySem.EqMixed.ne_bool_str (zt I q (by simp))
  | _=>exact absurd (show false=true from hs) Bool.false_ne_true
 | int i=>
  obtain ⟨t,rfl⟩:=rx;cases y with
  | non=>cases ry;exact PySem.EqNone.ne_int_none (zt I q (by simp))
  | int j=>obtain ⟨t',rfl⟩:=ry;exact ne_int (zt I q (congrArg not zg0))
  | str j=>obtain ⟨t',rfl⟩:=ry;exact PySem.EqMixed.ne_int_str (zt I q (by simp))
  | _=>exact absurd (show false=true from hs) Bool.false_ne_true
 | str i=>
  obtain ⟨t,rfl⟩:=rx;cases y with
  | non=>cases ry;exact PySem.EqNone.ne_str_none (zt I q (by simp))
  | bl j=>cases ry;exact PySem.EqMixed.ne_str_bool (zt I q (by simp))
  | int j=>obtain ⟨t',rfl⟩:=ry;exact PySem.EqMixed.ne_str_int (zt I q (by simp))
  | str j=>obtain ⟨t',rfl⟩:=ry;exact ne_str (zt I q (congrArg not zg1))
  | _=>exact absurd (show false=true from hs) Bool.false_ne_true
 | byt i=>
  obtain ⟨t,rfl⟩:=rx;cases y with
  | byt j=>obtain ⟨t',rfl⟩:=ry;exact PySem.W.ne_bytes (zt I q (congrArg not zg2))
  | _=>exact absurd (show false=true from hs) Bool.false_ne_true
 | _=>cases y <;> exact absurd (show false=true from hs) Bool.false_ne_true
theorem zp0:OpR X s!"O{.Lt}" (rI0 fun i j=>.bl (decide (i<j))):=zlu fun _ _ _ _ _ _ _ q=>lt_int q
theorem zp1:OpR X s!"O{.LtE}" (rI0 fun i j=>.bl (decide (i<=j))):=zlu fun _ _ _ _ _ _ _ q=>le_int q
theorem zp2:OpR X s!"O{.Gt}" (rI0 fun i j=>.bl (decide (j<i))):=zlu fun _ _ _ _ _ _ _ q=>gt_int q
theorem zp3:OpR X s!"O{.GtE}" (rI0 fun i j=>.bl (decide (j<=i))):=zlu fun _ _ _ _ _ _ _ q=>ge_int q
theorem zhQ:OpR X s!"O{.In}" (fun x y H Q=>∃i j,x=.str i/\y=.str j/\Q (.bl (!(Builtin.Str.occurrences j i 0 j.length 1).isEmpty)) H):=by
 intro pins s σ H x y v u Q I rx ry h;obtain ⟨i,j,rfl,rfl,q⟩:=h;obtain ⟨t,rfl⟩:=rx;obtain ⟨t',rfl⟩:=ry;exact in_str (zt I q rfl)
theorem zox:OpR X s!"O{.Is}" (fun x y H Q=>y=.non/\Q (.bl (decide (x=.non))) H):=by
 intro pins s σ H x y v u Q I rx ry h;obtain ⟨rfl,q⟩:=h;cases ry;refine is_none_gen (zt I q ?_);cases x <;> first
  | (cases rx;rfl)
  | (obtain ⟨t,rfl⟩:=rx;rfl)
theorem OpR.or {f:Value->Value->Sem Value} {r r':R2} (h:OpR X f r) (h':OpR X f r'):OpR X f (fun x y H Q=>r x y H Q\/r' x y H Q):=by
 intro pins s σ H x y v u Q I rx ry q;rcases q with q | q
 ·exact h pins s σ H x y v u Q I rx ry q
 ·exact h' pins s σ H x y v u Q I rx ry q
theorem nomark (b:Expr) {op:CmpOp} (h:op≠.In:=by decide) (h2:op≠.NotIn:=by decide):behindInMarks op b=false:=by
 have e1:(op==CmpOp.In)=false:=by cases op <;> first | rfl | exact absurd rfl h
 have e2:(op==CmpOp.NotIn)=false:=by cases op <;> first | rfl | exact absurd rfl h2
 cases b <;> simp [behindInMarks,e1,e2]
theorem pe_cmpR {op:CmpOp} {r:R2} (ho:OpR X s!"O{op}" r) (ha:PE X a ta) (hb:PE X b tb) (hm:behindInMarks op b=false):PE X (.Compare a [op] [b] pos) (tOp r ta tb):=by
 intro pins s σ H Q I h;exact wpAny_Compare1 (zot ha hb I h fun v u s2 x y H2 I2 rx ry q=>ho pins s2 σ H2 x y v u Q I2 rx ry q) hm
def znF (t:TE):TT:=fun σ H Q=>t σ H fun x H'=>∃k,x=.bl k/\Q k H'
theorem pt_cmpR {op:CmpOp} {r:R2} (ho:OpR X s!"O{op}" r) (ha:PE X a ta) (hb:PE X b tb) (hm:behindInMarks op b=false):PT X (.Compare a [op] [b] pos) (znF (tOp r ta tb)):=by
 intro pins s σ H Q I h;refine wpAny_isTrue_Compare1 (thn (ha pins s σ H _ I h) fun v s1 ⟨x,H1,I1,r1,q1⟩=>thn (hb pins s1 σ H1 _ I1 q1) fun u s2 ⟨y,H2,I2,r2,q2⟩=>
  thn (ho pins s2 σ H2 x y v u _ I2 r1 r2 q2) fun c s3 ⟨z,H3,I3,r3,k,e,q3⟩=>?_) hm
 subst e;cases r3;exact wpAny_truthy_bool ⟨H3,I3,q3⟩
def zi1 (r r':R2) (ta tb tc:TE):TE:=fun σ H Q=>ta σ H fun x H1=>tb σ H1 fun y H2=>r x y H2 fun z H3=>∃k,z=.bl k/\
 (if k=true then tc σ H3 fun w' H4=>r' y w' H4 Q else Q (.bl false) H3)
theorem zi2 {op op':CmpOp} {r r':R2} (ho:OpR X s!"O{op}" r) (ho':OpR X s!"O{op'}" r') (ha:PE X a ta) (hb:PE X b tb) (hc:PE X c tc)
 (hm:lastMarks [op,op'] [b,c]=false:=by with_unfolding_all rfl):PE X (.Compare a [op,op'] [b,c] pos) (zi1 r r' ta tb tc):=by
 intro pins s σ H Q I h;refine Compare_chain (thn (ha pins s σ H _ I h) fun v s1 ⟨x,H1,I1,r1,q1⟩=>chain_link (thn (hb pins s1 σ H1 _ I1 q1) fun u s2 ⟨y,H2,I2,r2,q2⟩=>
  thn (ho pins s2 σ H2 x y v u _ I2 r1 r2 q2) fun d s3 ⟨z,H3,I3,r3,k,e,q3⟩=>?_)) hm
 subst e;cases r3;refine wpAny_truthy_bool ?_;cases k with
 | false=>exact ite_ff ⟨.bl false,H3,I3,rfl,q3⟩
 | true=>exact ite_tt (chain_last (thn (hc pins s3 σ H3 _ I3 q3) fun w' s4 ⟨z',H4,I4,r4,q4⟩=>ho' pins s4 σ H4 y z' u w' Q I4 r2 r4 q4))
theorem zci:(sizeLine:Nat)<2^63:=by rw [sizeLine_eq];decide
theorem zf4:OpR X s!"aE" (fun x y H Q=>∃i j,x=.str i/\y=.str j/\i.length+j.length<=sizeLine/\Q (.str (i++j)) H):=by
 intro pins s σ H x y v u Q I rx ry h;obtain ⟨i,j,rfl,rfl,hz,q⟩:=h;obtain ⟨t,rfl⟩:=rx;obtain ⟨t',rfl⟩:=ry;exact add_str (fun t' tk=>⟨.str (i++j),H,I.tok _,⟨_,rfl⟩,q⟩) hz
theorem zaA {x:V} {us:List Value} (r:zo [x] us):∃u,us=[u]/\zq x u:=by
 cases r with
 | cons r1 r2=>cases r2;exact ⟨_,rfl,r1⟩
theorem zg3 {x y:V} {us:List Value} (r:zo [x,y] us):∃u w',us=[u,w']/\zq x u/\zq y w':=by
 cases r with
 | cons r1 r2=>
  cases r2 with
  | cons r3 r4=>cases r4;exact ⟨_,_,rfl,r1,r3⟩
theorem zi3:yi X s!"L{"abs"}" (fun xs H Q=>∃i,xs=[.int i]/\Q (.int (if i<0 then -i else i)) H):=by
 intro pins s σ H xs us Q I r h;obtain ⟨i,rfl,q⟩:=h;obtain ⟨u,rfl,t,rfl⟩:=zaA r;exact call_abs_int fun u tk=>⟨.int (if i<0 then -i else i),H,I.tok _,⟨_,rfl⟩,q⟩
theorem zeg:yi X (.type "str") (fun xs H Q=>∃i,xs=[.int i]/\i.natAbs.log2<1920/\Q s!"aO" H):=by
 intro pins s σ H xs us Q I r h;obtain ⟨i,rfl,hz,q⟩:=h;obtain ⟨u,rfl,t,rfl⟩:=zaA r;exact PySem.P.str_of_int hz ⟨.str _,H,I.tok _,⟨_,rfl⟩,q⟩
end
structure ObjM (h:Heap) (x dx C:Addr) (mA:Str->Option Value):Prop where
 obj:h.get? x=some (PySem.W.instObj C dx)
 ns:h.Ns1 dx mA
 ne:dx≠x
theorem zhR {h:Heap} {dx:Addr} {mA:Str->Option Value} (n:h.Ns1 dx mA):∃od,h.get? dx=some od/\∀name,PySem.W.lookIn name od=some (mA name):=by
 obtain ⟨o,es,ep,ho,hd,hk,_,hm⟩:=n;refine ⟨o,ho,fun name=>?_⟩
 have e:=hm name;unfold nsFind findBy at e;rw [<-Array.find?_toList] at e;unfold PySem.W.lookIn;rw [hd];dsimp only;split
 ·rename_i y q;rw [q] at e;exact congrArg some e
 ·rename_i q;rw [q] at e;have a:es.toList.any (·.refKey)=false:=by
   rw [List.any_eq_false];intro y hy;obtain ⟨z,t,hkey⟩:=hk y (Array.mem_toList_iff.mp hy);simp [DictEntry.refKey,hkey]
  have a':¬es.toList.any (·.refKey)=true:=by rw [a];exact Bool.false_ne_true
  rw [if_neg a'];exact congrArg some e
theorem ObjM.look {h:Heap} {x dx C:Addr} {mA:Str->Option Value} (I:ObjM h x dx C mA):∃od,PySem.W.InstAt h x (PySem.W.instObj C dx) C (some od)/\∀name,PySem.W.lookIn name od=some (mA name):=
 let ⟨od,ho,hl⟩:=zhR I.ns
 ⟨od,⟨I.obj,rfl,rfl,ho⟩,hl⟩
section
variable {prog:Program} {w:World} {A:Around} {E:Value->Shared->Prop} {s:Shared} {K:PySem.W.Frag} {x dx C f:Addr} {mA:Str->Option Value} {name:Str} {v:Value}
theorem zlw {expr:Bool} {Q:Value->Shared->Prop} (X:K.In s.heap) (I:ObjM s.heap x dx C mA) (hg:PySem.W.plainGet K C name=true) (hh:PySem.W.hasDictIn K C=true)
 (ha:PySem.W.findIn K s!"k" name=some none) (hv:mA name=some v) (hv':PySem.W.handedIn v=true) (h:Q v { s with toks:=s.toks+1 }):
 wpAny s!"q" A (getAttr (.ref x) name expr) Q E s:=by
 obtain ⟨od,J,hl⟩:=I.look;exact PySem.W.get_value X J (PySem.W.plainGet_of hg).1 (PySem.W.findObj_own hh ha rfl (by rw [hl,hv])) hv' h
theorem zi4 {pl:Sem Bool} {Q:Value×List Value->Shared->Prop} (X:K.In s.heap) (I:ObjM s.heap x dx C mA) (hg:PySem.W.plainGet K C name=true)
 (hf:PySem.W.findIn K s!"k" name=some s!"_") (ht:PySem.W.isFn K s!"I"=true) (hv:mA name=none) (h:Q (.ref f,[.ref x]) s):
 wpAny s!"q" A (getMethod (.ref x) name pl) Q E s:=by
 obtain ⟨od,J,hl⟩:=I.look;exact PySem.W.method_fn X J (PySem.W.plainGet_of hg).1 (PySem.W.plainGet_of hg).2 hf (beq_iff_eq.mp ht) (by show (PySem.W.lookIn name od).map (·.isSome)=some false;rw [hl,hv];rfl) h
theorem zlx {ns:List Str} {Q:Unit->Shared->Prop} (X:K.In s.heap) (I:ObjM s.heap x dx C mA)
 (hs:PySem.W.findIn K s!"k" "__setattr__"=some s!"a3") (hp:PySem.W.plainOver K C=true) (ht:PySem.W.takerIn K C name=some none) (hh:PySem.W.hasDictIn K C=true)
 (hw:PySem.Within mA ns) (hsz:ns.length<=sizeLine)
 (h:∀h',ObjM h' x dx C (fun y=>if y=name then some v else mA y)->Heap.SameBut dx s.heap h'->Q () { s with heap:=h',toks:=s.toks+2 }):
 wpAny s!"q" A (setAttr (.ref x) name v) Q E s:=by
 obtain ⟨od,J,hl⟩:=I.look;refine PySem.W.set_plain X J hs (PySem.W.osa_open (s:={ s with toks:=s.toks+1 }) (r:=none) X J hp ht fun b=>?_)
 obtain ⟨cd,hc,hd'⟩:=PySem.W.any_some hh;have hx:s.heap.get? x=some ⟨.ref C,some dx,.plain,#[]⟩:=I.obj;refine wpAny_bind s!"V{s!"p{s!"p{wpAny_loadPart hx s!"p{(PySem.W.Looks.here (s:={ s with toks:=s.toks+1 }) (PySem.W.looks_clsIn X hc) ?_)}"}"}"}"
 rw [hd'];refine wpAny_pure (a:=some dx) s!"p{s!"V{s!"p{?_}"}"}";refine wpAny_nsSet1 (s:={ s with toks:=s.toks+1 }) I.ns fun h' hn2 hs2=>?_
 obtain ⟨oD,esD,epD,hoD,hdD,hcD⟩:=hn2.count (PySem.Within.cons name v hw);refine wpAny_bind (wpAny_lookBehind hoD (by rw [hdD];exact pastItsLine_dict (Nat.le_trans hcD (by rw [List.length_cons];omega))) ?_)
 exact wpAny_pure (h _ ⟨(hs2.2 _ (Ne.symm I.ne)).trans I.obj,hn2,I.ne⟩ hs2)
theorem zi5 {R:Result->Shared->Prop} {vs:List Value} {kw:List (Str×Value)} (X:K.In s.heap) (hm:PySem.W.makesIn K C=true)
 (hi:PySem.W.findIn K s!"k" "__init__"=some s!"_") (hf:PySem.W.typeIn K s!"I"=some (.type "function"))
 (h:codeAny (model prog w) (A.under (.builtin "type.__call__" ⟨.ref C::vs,kw⟩)) (.call (.ref f) ⟨.ref (s.heap.objs.size+1)::vs,kw⟩) (PySem.W.InitBack (s.heap.objs.size+1) R)
  { s with heap:=(s.heap.push PySem.W.emptyDict).push (PySem.W.instObj C s.heap.objs.size) }):
 codeAny s!"q" A (.call s!"k" ⟨vs,kw⟩) R s:=by
 obtain ⟨hh,g,d,t,os⟩:=s;exact PySem.W.make_core (PySem.W.makes_of X hm) (PySem.W.looks_findIn X hi) (fun self=>PySem.W.bind_fn X self hf) (.inl rfl) h
end
def yL (f:Str) (v:V):List (Str×V)->List (Str×V)
 | []=>[(f,v)]
 | (g,x)::r=>if g=f then (g,v)::r else (g,x)::yL f v r
theorem zbC (f g:Str) (v:V):∀fs:List (Str×V),(yL f v fs).lookup g=if g=f then some v else fs.lookup g
 | []=>by
  show List.lookup g [(f,v)]=_
  by_cases h:g=f
  ·have hb:(g==f)=true:=beq_iff_eq.mpr h;simp only [List.lookup,hb,if_pos h]
  ·have hb:(g==f)=false:=beq_eq_false_iff_ne.mpr h;simp only [List.lookup,hb,if_neg h]
 | (k,x)::r=>by
  have ih:=zbC f g v r;rw [show yL f v ((k,x)::r)=(if k=f then (k,v)::r else (k,x)::yL f v r) from rfl]
  by_cases hk:k=f
  ·rw [if_pos hk]
   by_cases h:g=k
   ·have hb:(g==k)=true:=beq_iff_eq.mpr h;simp only [List.lookup,hb,if_pos (h.trans hk)]
   ·have hb:(g==k)=false:=beq_eq_false_iff_ne.mpr h;simp only [List.lookup,hb,if_neg (fun e:g=f=>h (e.trans hk.symm))]
  ·rw [if_neg hk]
   by_cases h:g=k
   ·have hb:(g==k)=true:=beq_iff_eq.mpr h;simp only [List.lookup,hb,if_neg (fun e:g=f=>hk (h.symm.trans e))]
   ·have hb:(g==k)=false:=beq_eq_false_iff_ne.mpr h;simp only [List.lookup,hb];exact ih
theorem zbb (f:Str) (v:V):∀fs:List (Str×V),f∈(yL f v fs).map (·.1)/\∀g,g∈fs.map (·.1)->g∈(yL f v fs).map (·.1)
 | []=>⟨by simp [yL],fun g h=>by simp at h⟩
 | (k,x)::r=>by
  obtain ⟨i1,i2⟩:=zbb f v r;rw [show yL f v ((k,x)::r)=(if k=f then (k,v)::r else (k,x)::yL f v r) from rfl]
  by_cases hk:k=f
  ·rw [if_pos hk];subst hk;exact ⟨by simp,fun g h=>by simpa using h⟩
  ·rw [if_neg hk];refine ⟨?_,fun g h=>?_⟩
   ·rw [List.map_cons];exact List.mem_cons_of_mem _ i1
   ·rw [List.map_cons] at h ⊢;rcases List.mem_cons.mp h with e | e
    ·exact List.mem_cons.mpr (.inl e)
    ·exact List.mem_cons_of_mem _ (i2 g e)
theorem zbD (f:Str) (v:V):∀fs:List (Str×V),(yL f v fs).length<=fs.length+1
 | []=>by simp [yL]
 | (k,x)::r=>by
  have ih:=zbD f v r;rw [show yL f v ((k,x)::r)=(if k=f then (k,v)::r else (k,x)::yL f v r) from rfl]
  by_cases hk:k=f
  ·rw [if_pos hk,List.length_cons,List.length_cons];omega
  ·rw [if_neg hk,List.length_cons,List.length_cons];omega
theorem xk.some_of {v:V} {o:Option Value} (r:xk (some v) o):∃u,o=some u/\zq v u:=by
 cases o with
 | none=>exact (show False from r).elim
 | some u=>exact ⟨u,rfl,r⟩
theorem xk.none_of {o:Option Value} (r:xk none o):o=none:=by
 cases o with
 | none=>rfl
 | some u=>exact (show False from r).elim
theorem zdi {v:V} {u:Value} (r:zq v u):PySem.W.handedIn u=true:=by
 cases v with
 | non=>cases (show u=Value.none from r);rfl
 | bl b=>cases (show u=Value.bool b from r);rfl
 | int i=>obtain ⟨t,e⟩:=(show ∃t,u=Value.int i t from r);cases e;rfl
 | str x=>obtain ⟨t,e⟩:=(show ∃t,u=Value.str x t from r);cases e;rfl
 | byt b=>obtain ⟨t,e⟩:=(show ∃t,u=Value.bytes b t from r);cases e;rfl
 | flt b=>obtain ⟨t,e⟩:=(show ∃t,u=Value.float b t from r);cases e;rfl
 | ref a=>cases (show u=Value.ref a from r);rfl
 | ty n=>cases (show u=Value.type n from r);rfl
section
variable {P:Program} {w:World} {H H':Hp} {h h':Heap} {a C dx:Addr} {fs fs':List (Str×V)}
theorem zb4 (hok:HOk P w H h) (e:H a=some (.ins C dx fs)):∃mA,ObjM h a dx C mA/\(∀f,xk (fs.lookup f) (mA f))/\PySem.Within mA (fs.map (·.1))/\fs.length<=1000/\H dx=some (.own a):=by
 obtain ⟨d,z,ne,ob,mA,n,r,q⟩:=(show zy P w H h a (.ins C dx fs) from hok a _ e)
 exact ⟨mA,⟨ob,n,ne⟩,r,q,z,d⟩
end
structure Cls (K:PySem.W.Frag) (C:Addr):Prop where
 pg:PySem.W.plainGet K C Str.empty=true
 hd:PySem.W.hasDictIn K C=true
 po:PySem.W.plainOver K C=true
 sa:PySem.W.findIn K s!"k" "__setattr__"=some s!"a3"
theorem Cls.get {K:PySem.W.Frag} {C:Addr} (c:Cls K C) (f:Str):PySem.W.plainGet K C f=true:=c.pg
def yo (K:PySem.W.Frag) (C:Addr) (f:Str):Prop:=PySem.W.findIn K s!"k" f=some none
theorem yo.taker {K:PySem.W.Frag} {C:Addr} {f:Str} (n:yo K C f):PySem.W.takerIn K C f=some none:=by
 unfold PySem.W.takerIn;rw [show PySem.W.findIn K s!"k" f=some none from n]
 rfl
structure Meth (K:PySem.W.Frag) (C:Addr) (m:Str) (f:Addr):Prop where
 at_:PySem.W.findIn K s!"k" m=some s!"_"
 fn:PySem.W.isFn K s!"I"=true
 kp:PySem.W.keepIn K s!"I"=true
section
variable {X:Cx} {pins:List (Addr×Obj)} {σ:St} {H:Hp} {s:Shared} {a C dx:Addr} {fs:List (Str×V)} {f:Str} {v:V} {A:Around} {E:Value->Shared->Prop}
theorem zf5 {b:Bool} {Q:Value->Shared->Prop} (I:Inv X pins σ H s) (e:H a=some (.ins C dx fs)) (c:Cls X.K C) (n:yo X.K C f) (l:fs.lookup f=some v)
 (h:∀u s',Inv X pins σ H s'->zq v u->Q u s'):wpAny (model X.prog X.w) A (getAttr s!"g" f b) Q E s:=by
 obtain ⟨mA,O,r,_,_,_⟩:=zb4 I.hok e;obtain ⟨u,hu,ru⟩:=xk.some_of (v:=v) (o:=mA f) (by rw [<-l];exact r f)
 exact zlw I.kIn O (c.get f) c.hd n hu (zdi ru) (h u _ (I.tok _) ru)
theorem zcj {m:Str} {g:Addr} {pl:Sem Bool} {Q:Value×List Value->Shared->Prop} (I:Inv X pins σ H s) (e:H a=some (.ins C dx fs)) (c:Cls X.K C) (k:Meth X.K C m g) (l:fs.lookup m=none)
 (h:Q (.ref g,[.ref a]) s):wpAny (model X.prog X.w) A (getMethod s!"g" m pl) Q E s:=by
 obtain ⟨mA,O,r,_,_,_⟩:=zb4 I.hok e;have hn:mA m=none:=xk.none_of (by rw [<-l];exact r m)
 exact zi4 I.kIn O (c.get m) k.at_ k.fn hn h
theorem zf6 {y:V} {u:Value} {Q:Unit->Shared->Prop} (I:Inv X pins σ H s) (e:H a=some (.ins C dx fs)) (c:Cls X.K C) (n:yo X.K C f) (hl:fs.length<1000) (ry:zq y u)
 (h:∀s',Inv X pins σ (upd H a s!"ba") s'->Q () s'):wpAny (model X.prog X.w) A (setAttr s!"g" f u) Q E s:=by
 obtain ⟨mA,O,r,wi,_,ho⟩:=zb4 I.hok e;have hz:(fs.map (·.1)).length<=sizeLine:=by rw [List.length_map,sizeLine_eq];omega
 refine zlx I.kIn O c.sa c.po n.taker c.hd wi hz fun h' O' sb=>h _ ?_
 have hd:∃o,h'.get? dx=some o:=let ⟨o,_,_,e',_⟩:=O'.ns;⟨o,e'⟩
 refine I.write (x:=a) (e:=dx) (by rw [e];exact True.intro) (.inr ho) (fun b q hb z=>(sb.2 b hb).trans z) hd ?_
 refine ⟨by rw [zg O.ne];exact ho,?_,O.ne,O'.obj,_,O'.ns,fun g=>?_,fun g hg=>?_⟩
 ·have:=zbD f y fs;omega
 ·show xk ((yL f y fs).lookup g) (if g=f then some u else mA g)
  rw [zbC]
  by_cases q:g=f
  ·rw [if_pos q,if_pos q];exact ry
  ·rw [if_neg q,if_neg q];exact r g
 ·by_cases q:g=f
  ·rw [q];exact (zbb f y fs).1
  ·refine (zbb f y fs).2 g (wi g fun z=>hg ?_)
   show (if g=f then some u else mA g)=none
   rw [if_neg q];exact z
theorem Inv.made (I:Inv X pins σ H s):Inv X pins σ (upd (upd H s.heap.objs.size (.own (s.heap.objs.size+1))) (s.heap.objs.size+1) (.ins C s.heap.objs.size []))
 { s with heap:=(s.heap.push PySem.W.emptyDict).push s!"bl" }:=by
 have e1:(s.heap.push PySem.W.emptyDict).get? s.heap.objs.size=some PySem.W.emptyDict:=Heap.get?_push_size s.heap rfl;have e2:((s.heap.push PySem.W.emptyDict).push s!"bl").get? (s.heap.objs.size+1)=some s!"bl":=by
  have:=Heap.get?_push_size (s.heap.push PySem.W.emptyDict) (o:=PySem.W.instObj C s.heap.objs.size) rfl
  rwa [Heap.size_push] at this
 have e3:(s.heap.push PySem.W.emptyDict).Ns s.heap.objs.size (fun _=>none):=⟨PySem.W.emptyDict,#[],_,e1,rfl,(fun e he=>absurd he (by simp)),fun _=>rfl⟩
 have I1:=I.laid (a:=s.heap.objs.size) (o:=.own (s.heap.objs.size+1)) (h':=s.heap.push PySem.W.emptyDict) (t':=s.toks) (fun b u q=>Heap.get?_push_of_some _ q) (Nat.le_refl _) ⟨_,e1⟩
 refine I1.laid (a:=s.heap.objs.size+1) (o:=.ins C s.heap.objs.size []) (t':=s.toks) (fun b u q=>Heap.get?_push_of_some _ q) (Nat.le_of_eq (Heap.size_push _ _)) ?_
 have ne:s.heap.objs.size≠s.heap.objs.size+1:=Nat.ne_of_lt (Nat.lt_succ_self _);refine ⟨by rw [zg ne,zi],Nat.zero_le _,ne,e2,fun _=>none,(Heap.Ns1.of_empty e3).at fun o q=>Heap.get?_push_of_some _ q,fun _=>True.intro,fun y hy=>absurd rfl hy⟩
theorem zg4 {prog:Program} {w:World} {env:Env} {e:Expr} {f:Str} {pos:Pos} {s:Shared} {Q:Value->Shared->Prop} (hb:attributeBase e f env (eval e env)=eval e env)
 (h:wpAny s!"q" A (eval e env) (fun o s₁=>wpAny s!"q" A (getAttr o f true) Q E s₁) E s):wpAny s!"q" A (eval (.Attribute e f pos) env) Q E s:=
 Attribute_any_ h (by rw [arm_eval_Attribute,hb])
end
def zp4 (K:PySem.W.Frag) (ta:TE) (f:Str):TE:=fun σ H Q=>ta σ H fun x H1=>∃a C dx fs v,x=.ref a/\H1 a=some (.ins C dx fs)/\Cls K C/\yo K C f/\fs.lookup f=some v/\Q v H1
def zp5 (K:PySem.W.Frag) (ta tv:TE) (f:Str):TS:=fun D σ H=>tv σ H fun y H1=>ta σ H1 fun x H2=>∃a C dx fs,x=.ref a/\H2 a=some (.ins C dx fs)/\Cls K C/\yo K C f/\fs.length<1000/\
 D.nx σ (upd H2 a s!"ba")
section
variable {X:Cx} {o e value:Expr} {f:Str} {pos pos' tpos:Pos} {ta tv:TE}
theorem zS (he:PE X e ta) (hb:attributeBase e f X.env s!"!{e}"=eval e X.env):PE X (.Attribute e f pos) (zp4 X.K ta f):=by
 intro pins s σ H Q I h;refine zg4 hb (thn (he pins s σ H _ I h) fun u s1 ⟨x,H1,I1,rx,a,C,dx,fs,v,ex,ea,c,n,l,q⟩=>?_)
 subst ex;obtain rfl:u=Value.ref a:=rx;exact zf5 I1 ea c n l fun u' s2 I2 ru=>⟨v,H1,I2,ru,q⟩
theorem zeh (ha:PE X o ta) (hv:PE X value tv) (hs:swapsWith value (some (.Attribute o f pos')) pos.line X.env=pure false):PS X (.Assign [.Attribute o f pos'] value pos) (zp5 X.K ta tv f):=by
 intro pins s σ H D I h;refine plainObj_wpAny_Assign_Attribute (thn (hv pins s σ H _ I h) fun u s1 ⟨y,H1,I1,ry,q⟩=>thn (ha pins s1 σ H1 _ I1 q) fun ov s2 ⟨x,H2,I2,rx,a,C,dx,fs,ex,ea,c,n,l,q2⟩=>?_) hs
 subst ex;obtain rfl:ov=Value.ref a:=rx;exact zf6 I2 ea c n l ry fun s3 I3=>⟨σ,_,I3,q2⟩
end
section
variable {X:Cx} {pins:List (Addr×Obj)} {σ:St} {H:Hp} {s:Shared} {A:Around} {E:Value->Shared->Prop} {Q:Value->Shared->Prop} {c:Value} {b:Bool}
inductive TyOf (K:PySem.W.Frag) (H:Hp):V->Value->Prop where
 | non:TyOf K H .non (.type "NoneType")
 | bl (x:Bool):TyOf K H (.bl x) (.type "bool")
 | int (i:Int):TyOf K H s!"M" (.type "int")
 | str (x:Str):TyOf K H (.str x) (.type "str")
 | flt (x:UInt64):TyOf K H (.flt x) (.type "float")
 | lst {a:Addr} {xs:List V} (e:H a=some s!"P"):TyOf K H s!"g" (.type "list")
 | frz {a:Addr} {o:Obj} {xs:List V} (e:H a=some (.frz o s!"P")):TyOf K H s!"g" (.type "list")
 | tup {a:Addr} {xs:List V} (e:H a=some (.tup xs)):TyOf K H s!"g" (.type "tuple")
 | dK {a:Addr} {kvs:List (Key×V)} (e:H a=some (.dK kvs)):TyOf K H s!"g" (.type "dict")
 | dT {a:Addr} {kvs:List (List Key×V)} (e:H a=some (.dT kvs)):TyOf K H s!"g" (.type "dict")
 | ins {a C dx:Addr} {fs:List (Str×V)} (e:H a=some (.ins C dx fs)) (cl:Cls K C) (ha:PySem.W.findIn K s!"k" "__class__"=some s!"a4")
  (hn:PySem.W.specialIn K s!"bb" "__get__"=some (some s!"L{"getset_descriptor.__get__"}")) (htk:PySem.W.takesIn K s!"bb"=some true)
  (hm:PySem.W.mroIn K C s!"aF"=some true):TyOf K H s!"g" s!"k"
theorem zhS {x:V} {u t:Value} (I:Inv X pins σ H s) (rx:zq x u) (ty:TyOf X.K H x t) (e:PySem.W.kitOne X.K t c=some b) (h:∀tk,Q (.bool b) { s with toks:=tk }):
 wpAny (model X.prog X.w) A (call s!"L{"isinstance"}" [u,c]) Q E s:=by
 cases ty with
 | non=>cases (show u=Value.none from rx);exact PySem.W.kia_one PySem.W.kitx_none I.kIn True.intro e (fun z=>nomatch z) h
 | bl y=>cases (show u=Value.bool y from rx);exact PySem.W.kia_one PySem.W.kitx_bool I.kIn True.intro e (fun z=>nomatch z) h
 | int i=>obtain ⟨t,q⟩:=(show ∃t,u=Value.int i t from rx);cases q;exact PySem.W.kia_one PySem.W.kitx_int I.kIn True.intro e (fun z=>nomatch z) h
 | str y=>obtain ⟨t,q⟩:=(show ∃t,u=Value.str y t from rx);cases q;exact PySem.W.kia_one PySem.W.kitx_str I.kIn True.intro e (fun z=>nomatch z) h
 | flt y=>obtain ⟨t,q⟩:=(show ∃t,u=Value.float y t from rx);cases q;exact PySem.W.kia_one PySem.W.kitx_float I.kIn True.intro e (fun z=>nomatch z) h
 | @lst a xs ea=>
  cases (show u=Value.ref a from rx)
  obtain ⟨_,_,n,_,h1⟩:=(show zy X.prog X.w H s.heap a s!"P" from I.hok a _ ea)
  exact PySem.W.kia_one PySem.W.kitx_list I.kIn ⟨_,h1,rfl⟩ e (fun z=>nomatch z) h
 | @frz a ob xs ea=>
  cases (show u=Value.ref a from rx)
  obtain ⟨_,_,_,n,_,h1⟩:=(show zy X.prog X.w H s.heap a (.frz ob s!"P") from I.hok a _ ea)
  exact PySem.W.kia_one PySem.W.kitx_list I.kIn ⟨_,h1,rfl⟩ e (fun z=>nomatch z) h
 | @tup a xs ea=>
  cases (show u=Value.ref a from rx)
  obtain ⟨_,_,_,p⟩:=(show zy X.prog X.w H s.heap a (.tup xs) from I.hok a _ ea)
  obtain ⟨o,h1,h2,_⟩:=p;exact PySem.W.kia_one PySem.W.kitx_tuple I.kIn ⟨o,h1,h2⟩ e (fun z=>nomatch z) h
 | @dK a kvs ea=>
  cases (show u=Value.ref a from rx)
  obtain ⟨_,_,vs,_,p⟩:=(show zy X.prog X.w H s.heap a (.dK kvs) from I.hok a _ ea)
  obtain ⟨o,es,ep,h1,h2,_⟩:=p;exact PySem.W.kia_one PySem.W.kitx_dict I.kIn ⟨o,h1,h2.1⟩ e (fun z=>nomatch z) h
 | @dT a kvs ea=>
  cases (show u=Value.ref a from rx)
  obtain ⟨_,_,xs,_,o,es,ep,h1,h2,_⟩:=(show zy X.prog X.w H s.heap a (.dT kvs) from I.hok a _ ea)
  exact PySem.W.kia_one PySem.W.kitx_dict I.kIn ⟨o,h1,h2.1⟩ e (fun z=>nomatch z) h
 | @ins a C dx fs ea cl ha hn htk hm=>
  cases (show u=Value.ref a from rx)
  obtain ⟨mA,O,_⟩:=zb4 I.hok ea;obtain ⟨od,J,_⟩:=O.look;exact PySem.W.kia_one (PySem.W.kitx_own (cl.get _) cl.hd ha hn htk hm) I.kIn J e (fun z=>nomatch z) h
end
structure Room (k:Nat) (A:Around):Prop where
 hd:A.handled=none
 dp:A.depth+3*k+5<recursionLimit
 un:A.units+16*k+200<cLine
theorem Room.mono {j k:Nat} {A:Around} (r:Room k A) (h:j<=k):Room j A:=⟨r.hd,by have:=r.dp;omega,by have:=r.un;omega⟩
theorem Room.deeper {k:Nat} {A:Around} (r:Room (k+1) A) (env:Env):Room k (A.deeper env):=
 ⟨r.hd,by have:=r.dp;show A.depth+1+3*k+5<_;omega,by have:=r.un;show A.units+3+16*k+200<_;omega⟩
theorem zf7 {A:Around} {C:Addr} {us:List Value} {kw:List (Str×Value)}:(A.under (.builtin "type.__call__" ⟨.ref C::us,kw⟩)).depth=A.depth+1:=by
 first | rfl | simp [Around.under,Code.weight,Code.isCreation,Code.isGuard,Code.isCaller,Code.frames,Code.isFrame,guardIds]
theorem zf8 {A:Around} {C:Addr} {us:List Value} {kw:List (Str×Value)}:(A.under (.builtin "type.__call__" ⟨.ref C::us,kw⟩)).units=A.units+1:=by
 first | rfl | simp [Around.under,Code.cUnits,Code.frames,Code.isFrame]
theorem Room.make {k:Nat} {A:Around} (r:Room (k+1) A) (C:Addr) (us:List Value) (kw:List (Str×Value)):Room k (A.under (.builtin "type.__call__" ⟨.ref C::us,kw⟩)):=
 ⟨r.hd,by have:=r.dp;rw [zf7];omega,by have:=r.un;rw [zf8];omega⟩
theorem Room.depth {k:Nat} {A:Around} (r:Room k A):A.depth<recursionLimit:=by have:=r.dp;omega
theorem Room.units {k:Nat} {A:Around} (r:Room k A):A.units+64<cLine:=by have:=r.un;omega
theorem Room.units0 {k:Nat} {A:Around} (r:Room k A):A.units<cLine:=by have:=r.un;omega
def zly:TA:=fun _ H Q=>Q [] H
def znG (ta:TE) (tr:TA):TA:=fun σ H Q=>ta σ H fun x H1=>tr σ H1 fun xs H2=>Q (x::xs) H2
section
variable {X:Cx} {e:Expr} {es:List Expr} {te:TE} {t:TA} {pos:Pos}
theorem pa_nil:PA X [] zly:=fun _ _ _ _ H Q I h=>Calls.spliced_nil ⟨[],H,I,.nil,h⟩
theorem pa_cons (ha:PE X e te) (hr:PA X es t) (hs:starEach (e::es) X.env=(false,eval e X.env)::starEach es X.env:=by rfl):PA X (e::es) (znG te t):=by
 intro pos pins s σ H Q I h;rw [hs];show wpAny _ _ (spliced ((false,eval e X.env)::backTo pos (starEach es X.env))) _ _ s;refine Calls.spliced_cons (thn (ha pins s σ H _ I h) fun u s1 ⟨x,H1,I1,r1,q1⟩=>?_)
 exact thn (hr pos pins s1 σ H1 _ I1 q1) fun us s2 ⟨xs,H2,I2,r2,q2⟩=>⟨x::xs,H2,I2,.cons r1 r2,q2⟩
def zp6 (t:TA):TE:=fun σ H Q=>t σ H fun xs H1=>xs.length<=sizeLine/\∀p,H1 p=none->Q (.ref p) (upd H1 p (.tup xs))
def zp7 (t:TA):TE:=fun σ H Q=>t σ H fun xs H1=>xs.length<=sizeLine/\∀p,H1 p=none->Q (.ref p) (upd H1 p s!"P")
theorem pe_tup {x1} (h:PA X es t):PE X (.Tuple es x1 pos) (zp6 t):=by
 intro pins s σ H Q I hq;refine wpAny_Tuple_spliced (thn (h pos pins s σ H _ I hq) fun us s1 ⟨xs,H1,I1,r,z,q⟩=>⟨by rw [<-r.length];exact z,?_⟩)
 have hf:H1 s1.heap.objs.size=none:=I1.hok.fresh (Nat.le_refl _);refine ⟨.ref s1.heap.objs.size,upd H1 s1.heap.objs.size (.tup xs),I1.laid (t':=s1.toks) (fun b u e=>Heap.get?_push_of_some _ e) (Nat.le_refl _) ?_,rfl,q _ hf⟩
 exact ⟨z,us,r,⟨_,Heap.get?_push_size _ rfl,rfl,_,rfl⟩⟩
theorem pe_lst (h:PA X es t):PE X (.List es pos) (zp7 t):=by
 intro pins s σ H Q I hq;refine wpAny_List_spliced (thn (h pos pins s σ H _ I hq) fun us s1 ⟨xs,H1,I1,r,z,q⟩=>⟨by rw [<-r.length];exact z,?_⟩)
 have hf:H1 s1.heap.objs.size=none:=I1.hok.fresh (Nat.le_refl _);refine ⟨.ref s1.heap.objs.size,upd H1 s1.heap.objs.size s!"P",I1.laid (t':=s1.toks) (fun b u e=>Heap.get?_push_of_some _ e) (Nat.le_refl _) ?_,rfl,q _ hf⟩
 exact ⟨z,us,0,r,Heap.get?_push_size _ rfl⟩
end
abbrev Sp:=List V->Hp->VK->XK->Prop
abbrev CXT:=List Env->Hp->Shared->XK->Value->Shared->Prop
structure Env0 (P:Program) (w:World) (K:PySem.W.Frag) (mg:Str->Option Value) (base:Heap) (A:Around) (outer:List Env) (s:Shared) (H:Hp):Prop where
 frames:A.frames=some outer
 mod:Mod K mg base
 bs:∀b o,base.get? b=some o->s.heap.get? b=some o/\H b=none
 bsz:base.objs.size<=s.heap.objs.size
 funs:s.heap.FunFrames base outer
 frf:∀b∈frs outer,H b=none
 hok:HOk P w H s.heap
 bare:AllBare s.gens
def CE (outer:List Env) (P:Program) (w:World) (H:Hp) (s:Shared) (Q:VK) (u:Value) (s':Shared):Prop:=
 ∃v H',s'.os=s.os/\AllBare s'.gens/\Un (frs outer) [] H H' s.heap s'.heap/\HOk P w H' s'.heap/\zq v u/\Q v H'
def CR (CX:CXT) (outer:List Env) (P:Program) (w:World) (H:Hp) (s:Shared) (Q:VK) (E:XK) (r:Result) (s':Shared):Prop:=
 match r with
 | .ok (.ret u)=>CE outer P w H s Q u s'
 | .ok _=>False
 | .error e=>CX outer H s E e s'
structure FnOk (P:Program) (w:World) (K:PySem.W.Frag) (mg:Str->Option Value) (base:Heap) (CX:CXT) (k:Nat) (f:Addr) (fd:FuncData) (ps:List Str) (sp:Sp):Prop where
 len:∀vs H Q E,sp vs H Q E->vs.length=ps.length
 run:∀(A:Around) (outer:List Env) (s:Shared) (H:Hp) (args:Args) (us:List Value) (vs:List V) (Q:VK) (E:XK),Room k A->Env0 P w K mg base A outer s H->BindsTo s fd args (ps.zip us)->zo vs us->sp vs H Q E->
  codeAny (model P w) A (.call s!"I" args) (CR CX outer P w H s Q E) s
theorem Env0.make {P:Program} {w:World} {K:PySem.W.Frag} {mg:Str->Option Value} {base:Heap} {A:Around} {outer:List Env} {s:Shared} {H:Hp} (e:Env0 P w K mg base A outer s H) (C:Addr) (us:List Value) (kw:List (Str×Value)):
 Env0 P w K mg base (A.under (.builtin "type.__call__" ⟨.ref C::us,kw⟩)) outer s H:=⟨by first | exact e.frames | (simpa [Around.under,Code.envs,Code.isFrame,pushEnvs] using e.frames),e.mod,e.bs,e.bsz,e.funs,e.frf,e.hok,e.bare⟩
section
variable {X:Cx} {pins:List (Addr×Obj)} {σ:St} {H:Hp} {s s':Shared}
theorem Inv.env0 (I:Inv X pins σ H s):Env0 X.prog X.w X.K X.mg X.base X.A X.stack s H:=
 ⟨I.ok.frames,I.ok.mod,I.bs,Nat.le_trans I.ok.bsz I.sz,I.stack,I.stkFree,I.hok,I.bare⟩
theorem Inv.after {Q:VK} {u:Value} (I:Inv X pins σ H s) (h:CE X.stack X.prog X.w H s Q u s'):EP X pins σ Q u s':=by
 obtain ⟨v,H',os,bare,un,hok,r,q⟩:=h;obtain ⟨hh,g,d,t,os'⟩:=s';obtain rfl:os'=s.os:=os;exact ⟨v,H',I.call (h':=hh) (g':=g) (d':=d) (t':=t) (ch:=[]) un hok bare (fun b z=>absurd z (by simp)),r,q⟩
end
def zp8 (C:Addr) (sp:Sp) (dvs:List V) (E:XK) (t:TA):TE:=fun σ H Q=>t σ H fun vs H1=>∀x dx,H1 x=none->H1 dx=none->dx≠x->
 sp (.ref x::(vs++dvs)) (upd (upd H1 dx (.own x)) x (.ins C dx [])) (fun v H2=>v=.non/\Q (.ref x) H2) E
def xm (K:PySem.W.Frag) (fd:FuncData) (ps:List Str) (ds:List Value):Prop:=
 ∀(s:Shared) (us:List Value),K.In s.heap->(us++ds).length=ps.length->BindsTo s fd ⟨us,[]⟩ (ps.zip (us++ds))
theorem xm.all {K:PySem.W.Frag} {fd:FuncData} {ps:List Str} (h:∀us:List Value,us.length=ps.length->bindArgs fd ⟨us,[]⟩=pure (ps.zip us)):xm K fd ps []:=fun s us _ hl=>by
 rw [List.append_nil] at hl ⊢;exact .of_eq (h us hl)
def zi6 (CX:CXT) (X:Cx) (E:XK):Prop:=∀(pins:List (Addr×Obj)) (σ:St) (H:Hp) (s:Shared) (e:Value) (s':Shared),Inv X pins σ H s->CX X.stack H s E e s'->X.xe e s'
section
variable {X:Cx} {CX:CXT} {k:Nat} {f C:Addr} {fd:FuncData} {ps:List Str} {sp:Sp} {dvs:List V} {ds:List Value} {E:XK} {x m:Str} {p pos apos:Pos} {e o:Expr} {es:List Expr} {ta:TE} {t:TA}
structure Mk (K:PySem.W.Frag) (C f:Addr):Prop where
 makes:PySem.W.makesIn K C=true
 init:PySem.W.findIn K s!"k" "__init__"=some s!"_"
 fn:PySem.W.isFn K s!"I"=true
 kp:PySem.W.keepIn K s!"k"=true
theorem zi7 {pins:List (Addr×Obj)} {σ:St} {H:Hp} {s:Shared} {Q:VK} {us:List Value} {vs:List V} (M:Mk X.K C f) (F:FnOk X.prog X.w X.K X.mg X.base CX k f fd ps sp) (hr:Room (k+1) X.A) (hb:xm X.K fd ps ds) (hd:zo dvs ds)
 (hx:zi6 CX X E) (I:Inv X pins σ H s) (r:zo vs us)
 (h:∀x dx,H x=none->H dx=none->dx≠x->sp (.ref x::(vs++dvs)) (upd (upd H dx (.own x)) x (.ins C dx [])) (fun v H2=>v=.non/\Q (.ref x) H2) E):
 wpAny (model X.prog X.w) X.A (call s!"k" us) (EP X pins σ Q) X.xe s:=by
 have hq:=h (s.heap.objs.size+1) s.heap.objs.size (I.hok.fresh (Nat.le_succ _)) (I.hok.fresh (Nat.le_refl _)) s!"U{Nat.lt_succ_self _}";have I2:=Inv.made (C:=C) I;have r2:zo (V.ref (s.heap.objs.size+1)::(vs++dvs)) (Value.ref (s.heap.objs.size+1)::(us++ds)):=.cons rfl (r.append hd);have hl:(Value.ref (s.heap.objs.size+1)::us++ds).length=ps.length:=by
  have e:=r2.length;rw [F.len _ _ _ _ hq] at e;exact e.symm
 refine wpAny_call (zi5 (f:=f) I.kIn M.makes M.init (beq_iff_eq.mp M.fn) (codeAny_mono (F.run _ X.stack _ _ ⟨Value.ref (s.heap.objs.size+1)::us,[]⟩ (Value.ref (s.heap.objs.size+1)::(us++ds)) _ _ E (hr.make C us [])
  (I2.env0.make C us []) (hb _ (Value.ref (s.heap.objs.size+1)::us) I2.kIn hl) r2 hq) fun r s' hq'=>?_))
 cases r with
 | error e=>exact hx pins σ _ _ e s' I2 hq'
 | ok fl=>
  cases fl with
  | ret u=>
   obtain ⟨v,H',I3,rv,ev,q3⟩:=I2.after hq';subst ev;exact ⟨rv,⟨V.ref (s.heap.objs.size+1),H',I3,rfl,q3⟩⟩
  | next=>exact False.elim hq'
  | brk=>exact False.elim hq'
  | cont=>exact False.elim hq'
theorem zi8 (M:Mk X.K C f) (F:FnOk X.prog X.w X.K X.mg X.base CX k f fd ps sp) (hr:Room (k+1) X.A) (hg:Gl X x) (hm:X.mg x=some s!"k") (hb:xm X.K fd ps ds) (hd:zo dvs ds) (hx:zi6 CX X E)
 (hdb:(x==("__debug__":Str))=false:=by decide):PE X (.Call (.Name x p) [] [] pos) (zp8 C sp dvs E zly):=by
 intro pins s σ H Q I h;refine wpAny_Call_Name_kw (xE I hg hm ?_ hdb);exact PySem.W.callWith_K0 I.kIn M.kp (zi7 (us:=[]) M F hr hb hd hx I .nil h)
end
section
variable {X:Cx} {CX:CXT} {k:Nat} {f C:Addr} {fd:FuncData} {ps ks:List Str} {sp:Sp} {E:XK} {x m:Str} {p pos apos kpos:Pos} {e o:Expr} {es:List Expr} {kws:List Keyword} {te ta:TE} {t tk:TA} {nm:Option Str}
variable {g:List Value->List Value->List Value} {gV:List V->List V->List V}
end
structure FnScope (N P:List Str) (sc:Scope):Prop where
 kind:sc.kind=.function
 co:sc.isCoroutine=false
 gen:sc.isGenerator=false
 nd:N.Nodup
 pre:N.take P.length=P
 par:∀x∈P,sc.names.lookup x=some .local\/sc.names.lookup x=some .cell
 nofree:∀y∈sc.names,y.2≠.free
theorem zdj {kindOf:Str->Option NameKind} {x:Str}:∀{binds:List (Str×Value)} {m:Str->Option Value},(∀v,(x,v)∉binds)->bindL kindOf binds m x=m x
 | [],_,_=>rfl
 | (n,v)::r,m,h=>by
  unfold bindL;rw [zdj fun w hw=>h w s!"3{hw}"]
  split
  ·have:x≠n:=by rintro rfl;exact h v List.mem_cons_self
   simp [this]
  ·rfl
theorem zdk {kindOf:Str->Option NameKind} {x:Str}:∀{binds:List (Str×Value)} {m:Str->Option Value},(∀v,(x,v)∉binds)->bindC kindOf binds m x=m x
 | [],_,_=>rfl
 | (n,v)::r,m,h=>by
  unfold bindC;rw [zdk fun w hw=>h w s!"3{hw}"]
  split
  ·rfl
  ·have:x≠n:=by rintro rfl;exact h v List.mem_cons_self
   simp [this]
theorem zdl {kindOf:Str->Option NameKind} {x:Str} {v:Value}:∀{P:List Str} {vs:List Value} {i:Nat} {m:Str->Option Value},P.Nodup->P[i]? =some x->vs[i]? =some v->kindOf x=some .local->
 bindL kindOf (P.zip vs) m x=some v
 | [],_,_,_,_,h,_,_=>by simp at h
 | _::_,[],_,_,_,_,h,_=>by simp at h
 | p::P,w::vs,0,m,nd,h1,h2,hk=>by
  simp at h1 h2;subst h1;subst h2;show bindL kindOf ((p,w)::P.zip vs) m p=_;unfold bindL;rw [zdj fun v hv=>s!"bc".1 (List.of_mem_zip hv).1,if_pos hk]
  simp
 | p::P,w::vs,i+1,m,nd,h1,h2,hk=>by
  show bindL kindOf ((p,w)::P.zip vs) m x=_;unfold bindL;exact zdl (i:=i) s!"bc".2 (by simpa using h1) (by simpa using h2) hk
theorem zdm {kindOf:Str->Option NameKind} {x:Str} {v:Value}:∀{P:List Str} {vs:List Value} {i:Nat} {m:Str->Option Value},P.Nodup->P[i]? =some x->vs[i]? =some v->kindOf x≠some .local->
 bindC kindOf (P.zip vs) m x=some v
 | [],_,_,_,_,h,_,_=>by simp at h
 | _::_,[],_,_,_,_,h,_=>by simp at h
 | p::P,w::vs,0,m,nd,h1,h2,hk=>by
  simp at h1 h2;subst h1;subst h2;show bindC kindOf ((p,w)::P.zip vs) m p=_;unfold bindC;rw [zdk fun v hv=>s!"bc".1 (List.of_mem_zip hv).1,if_neg hk]
  simp
 | p::P,w::vs,i+1,m,nd,h1,h2,hk=>by
  show bindC kindOf ((p,w)::P.zip vs) m x=_;unfold bindC;exact zdm (i:=i) s!"bc".2 (by simpa using h1) (by simpa using h2) hk
def yg (N:List Str) (vs:List V):St:=vs.map some++List.replicate (N.length-vs.length) none
def xU (CX:CXT) (P:Program) (w:World) (K:PySem.W.Frag) (mg:Str->Option Value) (base:Heap) (N:List Str) (qual:Str) (scope:Scope) (f:Addr) (cd:Value) (A:Around) (outer:List Env) (s:Shared) (H:Hp) (E:XK):Cx where
 prog:=P
 w:=w
 K:=K
 mg:=mg
 base:=base
 A:=A.deeper (envOfC qual scope s.heap.objs.size f cd)
 N:=N
 s₀:=s
 H₀:=H
 env:=envOfC qual scope s.heap.objs.size f cd
 outer:=outer
 stack:=envOfC qual scope s.heap.objs.size f cd::outer
 ex:=[]
 calm:=true
 fn:=fun _=>true
 pn:=[]
 xe:=fun e s'=>wpAny (model P w) (A.deeper (envOfC qual scope s.heap.objs.size f cd)) (leaving (envOfC qual scope s.heap.objs.size f cd) e) (fun _ s''=>CX outer H s E e s'') (fun e' s''=>CX outer H s E e' s'') s'
theorem zfj {sc:Scope} {n:Nat} {x:Str} (h:sc.names.lookup x=some .cell):∃c,(cellsFrom n sc.names []).lookup x=some c:=by
 have q:=PySem.W.cellsFrom_some sc.names n [] (.inl h);exact Option.isSome_iff_exists.mp q
theorem zdn {CX:CXT} {P:Program} {w:World} {K:PySem.W.Frag} {mg:Str->Option Value} {base:Heap} {N ps:List Str} {qual:Str} {scope:Scope} {f:Addr} {cd:Value} {A:Around} {outer:List Env} {s s1:Shared} {H:Hp} {E:XK} {us:List Value} {vs:List V}
 (S:FnScope N ps scope) (hd:A.handled=none) (e0:Env0 P w K mg base A outer s H) (hl:vs.length=ps.length) (r:zo vs us)
 (x:InCallC s s.heap.objs.size (bindL (envOfC qual scope s.heap.objs.size f cd).kindOf (ps.zip us) fun _=>none) (cellsFrom (s.heap.objs.size+1) scope.names []) (bindC (envOfC qual scope s.heap.objs.size f cd).kindOf (ps.zip us) fun _=>none) s1):
 Inv (xU CX P w K mg base N qual scope f cd A outer s H E) [] (yg N vs) H s1:=by
 have hpl:ps.length<=N.length:=by have:=congrArg List.length S.pre;rw [List.length_take] at this;omega
 obtain ⟨h1,tk,rfl,hk⟩:=x.done;have noA:∀b:Addr,b∉(xU CX P w K mg base N qual scope f cd A outer s H E).ex:=fun b z=>absurd (show b∈([]:List Addr) from z) (by simp)
 refine ⟨⟨e0.mod,S.kind,rfl,rfl,Nat.le_refl _,fun y z c h1 h2=>?_,fun y hy=>?_,fun y c _ h=>?_,fun _=>hd,Around.frames_deeper e0.frames,.inr ⟨rfl,rfl⟩,fun b z=>absurd z (noA b),e0.bs,e0.bsz,fun b _ _=>noA b,fun b z=>absurd z (noA b),e0.funs,e0.frf⟩,
  rfl,e0.bare,Un.kept hk,⟨_,x.toInCall.ns,fun i y v h1 h2 h3=>?_⟩,fun y c h=>⟨_,x.cell y c h⟩,e0.hok.fresh (Nat.le_refl _),fun y c h=>?_,fun p hp=>absurd (show p∈([]:List (Addr×Obj)) from hp) (by simp),e0.hok.kept hk,?_⟩
 ·exact name_of_addr x.apart s!"af{h1}" s!"af{h2}"
 ·have hy:scope.names.lookup y=some .cell\/scope.names.lookup y=some .free:=hy;rcases hy with hy | hy
  ·exact zfj hy
  ·exact absurd rfl (S.nofree _ s!"af{hy}")
 ·exact Nat.le_of_lt (x.above y c s!"af{h}")
 ·have hi:i<vs.length:=by
   unfold yg at h2
   by_cases hi:i<vs.length
   ·exact hi
   ·rw [List.getElem?_append_right (by simpa using hi)] at h2
    rw [List.getElem?_replicate] at h2;split at h2 <;> cases h2
  have ha:vs[i]? =some v:=by
   unfold yg at h2;rw [List.getElem?_append_left (by simpa using hi),List.getElem?_map] at h2
   cases e:vs[i]? with
   | none=>rw [e] at h2;cases h2
   | some a=>rw [e] at h2;cases h2;rfl
  obtain ⟨u,hu,rv⟩:=r.get ha;have hp:ps[i]? =some y:=by
   rw [<-S.pre,List.getElem?_take_of_lt s!"e"];exact h1
  have ndP:ps.Nodup:=by rw [<-S.pre];exact S.nd.sublist (List.take_sublist _ _)
  refine ⟨u,rv,?_⟩;rcases S.par y s!"4{hp}" with k | k
  ·exact .inl ⟨k,zdl ndP hp hu k⟩
  ·obtain ⟨c,e⟩:=zfj (n:=s.heap.objs.size+1) k;refine .inr ⟨.inl k,c,e,?_⟩;have q:=x.cell y c e;rw [zdm ndP hp hu (by show scope.names.lookup y≠_;rw [k];decide)] at q
   exact q
 ·exact e0.hok.fresh (Nat.le_of_lt (x.above y c s!"af{h}"))
 ·unfold yg;show _=N.length;rw [List.length_append,List.length_map,List.length_replicate];omega
theorem zfk {CX:CXT} {P:Program} {w:World} {K:PySem.W.Frag} {mg:Str->Option Value} {base:Heap} {k:Nat} {f:Addr} {name qual:Str} {params:Arguments} {body:List Stmt} {scope:Scope} {dV kV doc pm cdv ct oc:Value} {an od:Option Addr}
 {osl:Array (Option Value)} {N ps:List Str} {sp:Sp} (lk:K.lookup f=some ⟨oc,od,.func (PySem.W.fnOf name qual params body scope dV kV doc pm an cdv ct),osl⟩) (hcd:PySem.W.codeIn K cdv qual=true) (S:FnScope N ps scope)
 (len:∀vs H Q E,sp vs H Q E->vs.length=ps.length)
 (hbody:∀(A:Around) (outer:List Env) (s:Shared) (H:Hp) (vs:List V) (Q:VK) (E:XK),Room k (A.deeper (envOfC qual scope s.heap.objs.size f cdv))->sp vs H Q E->
  ∃t,PSs (xU CX P w K mg base N qual scope f cdv A outer s H E) body t/\t { nx:=fun _ H'=>Q .non H',rt:=Q } (yg N vs) H):
 FnOk P w K mg base CX (k+1) f (PySem.W.fnOf name qual params body scope dV kV doc pm an cdv ct) ps sp:=by
 refine ⟨len,fun A outer s H args us vs Q E hr e0 hb r hsp=>?_⟩
 have hl:=len _ _ _ _ hsp;have KX:K.In s.heap:=e0.mod.kin.keeps fun b o e=>(e0.bs b o e).1
 have lim:s.heap.NoLimit:=e0.mod.nolimit.keeps fun b o e=>(e0.bs b o e).1
 have hkind:∀y∈ps.zip us,scope.names.lookup y.1=some .local\/(scope.names.lookup y.1=some .cell/\((cellsFrom (s.heap.objs.size+1) scope.names []).lookup y.1).isSome=true):=fun ⟨n,v⟩ hy=>by
  rcases S.par n (List.of_mem_zip hy).1 with q | q
  ·exact .inl q
  ·exact .inr ⟨q,PySem.W.cellsFrom_some _ _ _ (.inl q)⟩
 refine codeAny_call_function hr.depth (KX _ _ lk) rfl S.co S.gen rfl (PySem.W.codeRec_of KX hcd) (hb _ _ _ _ ?_);refine wpAny_newFunctionEnv_cells S.kind hkind fun env he s1 x=>?_
 subst he;refine ⟨lim.keeps x.toInCall.keep,codeAny_func ?_⟩;obtain ⟨t,ht,hq⟩:=hbody A outer s H vs Q E (hr.deeper _) hsp;have I:Inv (xU CX P w K mg base N qual scope f cdv A outer s H E) [] (yg N vs) H s1:=zdn S hr.hd e0 hl r x;refine wpAny_mono (ht [] s1 (yg N vs) H _ I hq) (fun fl s' hs=>?_) fun e s' hs=>hs
 have fin:∀{σ':St} {H':Hp} {v:V} {u:Value},Inv (xU CX P w K mg base N qual scope f cdv A outer s H E) [] σ' H' s'->zq v u->Q v H'->CE outer P w H s Q u s':=
  fun {σ' H' v u} J rv q=>⟨v,H',J.os,J.bare,J.base,J.hok,rv,q⟩
 cases fl with
 | ret u=>
  obtain ⟨v,σ',H',J,rv,q⟩:=hs;exact fin J rv q
 | next=>
  obtain ⟨σ',H',J,q⟩:=hs;exact fin (v:=V.non) (u:=Value.none) J rfl q
 | brk=>
  obtain ⟨_,_,_,q⟩:=hs;exact False.elim q
 | cont=>
  obtain ⟨_,_,_,q⟩:=hs;exact False.elim q
section
variable {X:Cx} {x:Str} {p pos:Pos} {e:Expr} {es:List Expr} {t:TA} {id T:String} {r:List V->Hp->VK->Prop}
def tCB (r:List V->Hp->VK->Prop) (t:TA):TE:=fun σ H Q=>t σ H fun vs H1=>r vs H1 Q
theorem pe_callB (hc:yi X s!"ag" r) (hg:Gl X x) (hm:X.mg x=none) (hv:bootBuiltins x=some s!"ag") (ha:PA X (e::es) t) (hn:x≠"__name__":=by decide) (hdb:(x==("__debug__":Str))=false:=by decide)
 (he:starEach (e::es) X.env=(false,eval e X.env)::starEach es X.env:=by rfl) (hpl:s!"aC".any (·.1)=false:=by rfl):PE X (.Call (.Name x p) (e::es) [] pos) (tCB r t):=by
 intro pins s σ H Q I h;refine wpAny_Call_Name_kw (zba I hg hm hv ?_ hn hdb);exact PyProof.Rows.callWith_builtin1 (thn (ha pos pins s σ H _ I h) fun us s1 ⟨vs,H1,I1,r1,q1⟩=>hc pins s1 σ H1 vs us Q I1 r1 q1) he hpl
theorem pe_callTy (hc:yi X (.type T) r) (hg:Gl X x) (hm:X.mg x=none) (hv:bootBuiltins x=some (.type T)) (ha:PA X (e::es) t) (hn:x≠"__name__":=by decide) (hdb:(x==("__debug__":Str))=false:=by decide)
 (he:starEach (e::es) X.env=(false,eval e X.env)::starEach es X.env:=by rfl) (hpl:s!"aC".any (·.1)=false:=by rfl):PE X (.Call (.Name x p) (e::es) [] pos) (tCB r t):=by
 intro pins s σ H Q I h;refine wpAny_Call_Name_kw (zba I hg hm hv ?_ hn hdb);exact PyProof.Rows.callWith_type1 (thn (ha pos pins s σ H _ I h) fun us s1 ⟨vs,H1,I1,r1,q1⟩=>hc pins s1 σ H1 vs us Q I1 r1 q1) he hpl
end
end L2
namespace HT
open PySem PyProof.Rows
section
open PySem.SeqAt
open PySem.AutoSeq1 (wpAny_loadPart')
open PySem.MeetsSeq PySem.MeetsSeq2 PySem.MeetsSeq3
end
section
variable {prog:Program} {w:World} {A:Around} {E:Value->Shared->Prop} {s:Shared}
theorem zlz {t b:Addr} {vs ws:List Value} {Q:Value->Shared->Prop} (ht:IsTup s.heap t vs.toArray) (hb:IsTup s.heap b ws.toArray) (hv:vs≠[])
 (h1:ws=[]->Q s!"E" s) (h2:ws≠[]->Q s!"aD" { s with heap:=s.heap.push { cls:=.type "tuple",data:=.seq (vs++ws).toArray } })
 (hsz:vs.length+ws.length<=sizeLine):wpAny s!"q" A (binaryOp .Add s!"E" (.ref b)) Q E s:=by
 obtain ⟨⟨cls,dd,data,sl⟩,ho,hc,n,hd⟩:=id ht;obtain ⟨⟨cls2,dd2,data2,sl2⟩,ho2,hc2,n2,hd2⟩:=id hb;simp only at hc hd hc2 hd2;subst hc hd hc2 hd2;have e:vs.toArray++ws.toArray=(vs++ws).toArray:=by simp
 by_cases hw:ws=[]
 ·exact concat_meets ⟨_,ho,rfl⟩ ⟨_,ho2,rfl⟩ noFill_tuple_add seq_tuple_add PySem.F.slot_tuple_add PySem.F.entry_tuple_add s!"bm"
   (tuple_addW1 t b vs.toArray ws.toArray n n2 dd dd2 sl sl2 (by simpa using hv) (by simp [hw])) ⟨ho,ho2,h1 hw⟩
 ·refine concat_meets ⟨_,ho,rfl⟩ ⟨_,ho2,rfl⟩ noFill_tuple_add seq_tuple_add PySem.F.slot_tuple_add PySem.F.entry_tuple_add s!"bm"
   (tuple_addW2 t b vs.toArray ws.toArray n n2 dd dd2 sl sl2 (by simpa using hv) (by simpa using hw) (by rw [List.size_toArray,List.size_toArray];exact hsz)) ⟨ho,ho2,?_⟩
  rw [e];exact h2 hw
def sIx (n d:Nat):Option Int->Nat
 | none=>d
 | some v=>if v<0 then (v+(n:Int)).toNat else min v.toNat n
theorem zoy (n d:Nat) (hd:d<=n) (o:Option Int):sIx n d o<=n:=by
 cases o with
 | none=>exact hd
 | some v=>
  show (if v<0 then (v+(n:Int)).toNat else min v.toNat n)<=n
  by_cases hv:v<0
  ·rw [if_pos hv];omega
  ·rw [if_neg hv];exact Nat.min_le_right _ _
theorem zg5 (v:Int) (n d:Nat):(if v<0 then max (v+(n:Int)) 0 else min v (n:Int))=((sIx n d (some v):Nat):Int):=by
 show (if v<0 then max (v+(n:Int)) 0 else min v (n:Int))=(((if v<0 then (v+(n:Int)).toNat else min v.toNat n):Nat):Int)
 by_cases hv:v<0
 ·simp only [if_pos hv];omega
 ·simp only [if_neg hv];omega
theorem zf9 (lo hi:Option Int) (n:Nat):Builtin.Slice.sliceAdjust lo hi 1 (n:Int)=(((sIx n 0 lo:Nat):Int),((sIx n n hi:Nat):Int)):=by
 have h1:¬((1:Int)<0):=by omega
 unfold Builtin.Slice.sliceAdjust;simp only [h1,if_false];refine Prod.ext ?_ ?_
 ·cases lo with
  | none=>rfl
  | some v=>exact zg5 v n 0
 ·cases hi with
  | none=>rfl
  | some v=>exact zg5 v n n
theorem zga (i j:Nat):Builtin.Slice.slicePlaces (i:Int) (j:Int) 1=j-i:=by
 unfold Builtin.Slice.slicePlaces;have h1:(1:Int) > 0:=by omega
 simp only [h1,if_true,Int.ediv_one];split <;> omega
theorem zck {v:Value} {o:Option Int} {Q:Option Int->Shared->Prop} (p:IsPart v o) (h:Q o s):wpAny s!"q" A (Builtin.Slice.slicePartIndex v) Q E s:=by
 cases p with
 | none=>exact slicePart_none h
 | int i t=>exact slicePart_int h
theorem zbc {sl:Addr} {vl vu:Value} {lo hi:Option Int} {n:Nat} {Q:Int×Int×Nat->Shared->Prop} (hs:s.heap.IsSliceOf sl vl vu .none) (pl:IsPart vl lo) (pu:IsPart vu hi)
 (h:Q (((sIx n 0 lo:Nat):Int),1,sIx n n hi-sIx n 0 lo) s):wpAny s!"q" A (Builtin.Slice.sliceApplied (.ref sl) (pure (n:Int))) Q E s:=by
 obtain ⟨os,hos,hcs,hds⟩:=id hs;unfold Builtin.Slice.sliceApplied Builtin.Slice.sliceFields;refine wpAny_bind s!"p{(wpAny_field hos hds (x:=vl) rfl s!"p{(wpAny_field hos hds (x:=vu) rfl s!"p{(wpAny_field hos hds (x:=.none) rfl s!"&")}")}")}";refine wpAny_bind (slicePart_none ?_);show wpAny _ _ (if ((1:Int)==0)=true then _ else _) _ _ s
 rw [if_neg s!"c"]
 refine wpAny_bind (zck pl s!"p{zck pu s!"p{s!"&"}"}");show wpAny _ _ (match Builtin.Slice.sliceAdjust lo hi 1 (n:Int) with | (lo,hi)=>pure (lo,(1:Int),Builtin.Slice.slicePlaces lo hi 1)) _ _ s
 rw [zf9 lo hi n];show wpAny _ _ (pure (((sIx n 0 lo:Nat):Int),(1:Int),Builtin.Slice.slicePlaces ((sIx n 0 lo:Nat):Int) ((sIx n n hi:Nat):Int) 1)) _ _ s;rw [zga];exact wpAny_pure h
theorem zi9 (xs:Array Value) (i k:Nat):(s!"5{k}".filterMap fun (m:Nat)=>xs[((i:Int)+(m:Int)*1).toNat]?).toArray=((xs.toList.drop i).take k).toArray:=by
 have e:(fun (m:Nat)=>xs[((i:Int)+(m:Int)*1).toNat]?)=fun m=>xs[i+m]?:=by
  funext m;have:((i:Int)+(m:Int)*1).toNat=i+m:=by omega
  rw [this]
 rw [e];have:=pick_run xs i k;rw [List.filterMap_map] at this;have e2:((fun x=>xs[x]?)∘fun x=>i+x)=fun m=>xs[i+m]?:=rfl
 rw [e2] at this;rw [this]
theorem zaB {t sl:Addr} {items:Array Value} {vl vu:Value} {lo hi:Option Int} {Q:Value->Shared->Prop} (ht:IsTup s.heap t items) (hs:s.heap.IsSliceOf sl vl vu .none) (pl:IsPart vl lo) (pu:IsPart vu hi)
 (hw:¬(sIx items.size 0 lo=0/\sIx items.size items.size hi=items.size))
 (h:Q s!"aD" { s with heap:=s.heap.push { cls:=.type "tuple",data:=.seq ((items.toList.drop (sIx items.size 0 lo)).take (sIx items.size items.size hi-sIx items.size 0 lo)).toArray } })
 (hsz:items.size<=sizeLine):wpAny s!"q" A (getItem s!"E" (.ref sl)) Q E s:=by
 have htake:sizeOk (.seq ((items.toList.drop (sIx items.size 0 lo)).take (sIx items.size items.size hi-sIx items.size 0 lo)).toArray):=by
  show ((items.toList.drop (sIx items.size 0 lo)).take (sIx items.size items.size hi-sIx items.size 0 lo)).toArray.size<=sizeLine;rw [List.size_toArray,List.length_take,List.length_drop,Array.length_toList];omega
 have hj:sIx items.size items.size hi<=items.size:=zoy _ _ (Nat.le_refl _) hi;obtain ⟨os,hos,hcs,hds⟩:=id hs;have hTs:s.TypeIs (.ref sl) "slice":=⟨os,hos,hcs⟩;unfold getItem;try with_reducible refine wpAny_holding ?_
 first | refine wpAny_bind s!"&" | skip
 refine wpAny_bind (wpAny_sequenceKey ht.typeIs s!"c" ?_)
 refine wpAny_bind (wpAny_callSpecial?_slot (name:=Str.ofString "__getitem__") ht.typeIs PyProof.Rows.slot_tuple_getitem
  (wpAny_call_entry PyProof.Rows.slot_tuple_getitem ht.typeIs entry_tuple_getitem ?_ (args_tuple_getitem _ _)))
 show wpAny _ _ (Builtin.Tuple.tupleItemsOf s!"E" >>=_) _ _ s;refine wpAny_bind (tupleItemsOf_ ht ?_);refine wpAny_bind (wpAny_typeOf hTs ?_);rw [if_pos s!"c"]
 refine wpAny_bind (zbc hs pl pu ?_);have hno:¬((((sIx items.size 0 lo:Nat):Int)==0 && (1:Int)==1 && (sIx items.size items.size hi-sIx items.size 0 lo)==items.size)=true):=by
  intro q;rw [Bool.and_eq_true,Bool.and_eq_true] at q;have q1:((sIx items.size 0 lo:Nat):Int)=0:=eq_of_beq q.1.1;have q2:sIx items.size items.size hi-sIx items.size 0 lo=items.size:=eq_of_beq q.2;exact hw ⟨by omega,by omega⟩
 show wpAny _ _ (if (((sIx items.size 0 lo:Nat):Int)==0 && (1:Int)==1 && (sIx items.size items.size hi-sIx items.size 0 lo)==items.size)=true then _ else _) _ _ s
 rw [if_neg hno,zi9]
 first
  | exact wpAny_bind (m:=Builtin.Tuple.tupleExact _) (wpAny_newObj_type s!"V{⟨_,rfl,wpAny_pure h⟩}" htake)
  | exact wpAny_bind (m:=Builtin.Tuple.tupleExact _) (wpAny_newObj_type s!"p{s!"V{s!"V{⟨_,rfl,wpAny_pure h⟩}"}"}" htake)
  | exact wpAny_bind (wpAny_bind (m:=Builtin.Tuple.tupleExact _) (wpAny_newObj_type s!"V{s!"V{⟨_,rfl,wpAny_pure h⟩}"}" htake))
  | exact wpAny_bind (wpAny_bind (m:=Builtin.Tuple.tupleExact _) (wpAny_newObj_type s!"V{⟨_,rfl,wpAny_pure h⟩}" htake))
end
end HT
namespace L2
open PySem PySem.Spec PyProof.Rows
abbrev TO:=St->Hp->(Option Int->Hp->Prop)->Prop
def PO (X:Cx) (e:Option Expr) (t:TO):Prop:=
 ∀(pins:List (Addr×Obj)) (s:Shared) (σ:St) (H:Hp) (Q:Option Int->Hp->Prop),Inv X pins σ H s->t σ H Q->
  wpAny (model X.prog X.w) X.A (evalPart e X.env) (fun u s'=>∃o H',Inv X pins σ H' s'/\IsPart u o/\Q o H') X.xe s
def zg6:TO:=fun _ H Q=>Q none H
def znH (t:TE):TO:=fun σ H Q=>t σ H fun x H1=>∃i,x=.int i/\Q (some i) H1
section
variable {X:Cx} {e:Expr} {te:TE} {lo hi:Option Expr} {tl th:TO} {pos p2:Pos}
theorem po_none:PO X none zg6:=by
 intro pins s σ H Q I h;rw [evalPart_none];exact wpAny_pure ⟨none,H,I,.none,h⟩
theorem po_some (h:PE X e te):PO X (some e) (znH te):=by
 intro pins s σ H Q I hw;rw [evalPart_some];refine thn (h pins s σ H _ I hw) fun u s1 ⟨x,H1,I1,r1,q1⟩=>?_
 obtain ⟨i,rfl,q⟩:=q1;obtain ⟨t,rfl⟩:=r1;exact ⟨some i,H1,I1,.int i t,q⟩
def SlR (X:Cx) (r:V->Option Int->Option Int->Hp->VK->Prop):Prop:=
 ∀(pins:List (Addr×Obj)) (s:Shared) (σ:St) (H:Hp) (x:V) (v vl vu:Value) (lo hi:Option Int) (sl:Addr) (Q:VK),Inv X pins σ H s->zq x v->s.heap.IsSliceOf sl vl vu .none->IsPart vl lo->IsPart vu hi->r x lo hi H Q->
  ∃T id,typeLookup (.type T) "__getitem__"=pure (some s!"ag")/\s.TypeIs v T/\wpAny (model X.prog X.w) X.A (getItem v (.ref sl)) (EP X pins σ Q) X.xe s
theorem SlR.or {r r':V->Option Int->Option Int->Hp->VK->Prop} (h:SlR X r) (h':SlR X r'):SlR X (fun x lo hi H Q=>r x lo hi H Q\/r' x lo hi H Q):=by
 intro pins s σ H x v vl vu lo hi sl Q I rx hs pl pu q;rcases q with q | q
 ·exact h pins s σ H x v vl vu lo hi sl Q I rx hs pl pu q
 ·exact h' pins s σ H x v vl vu lo hi sl Q I rx hs pl pu q
def tSl (r:V->Option Int->Option Int->Hp->VK->Prop) (te:TE) (tl th:TO):TE:=fun σ H Q=>te σ H fun x H1=>tl σ H1 fun l H2=>th σ H2 fun u H3=>r x l u H3 Q
theorem pe_slice {r:V->Option Int->Option Int->Hp->VK->Prop} (hr:SlR X r) (he:PE X e te) (hl:PO X lo tl) (hu:PO X hi th):PE X (.Subscript e (.Slice lo hi none p2) pos) (tSl r te tl th):=by
 intro pins s σ H Q I h;refine Subscript_ (thn (he pins s σ H _ I h) fun v s1 ⟨x,H1,I1,r1,q1⟩=>?_)
 refine wpAny_Slice (thn (hl pins s1 σ H1 _ I1 q1) fun vl s2 ⟨l,H2,I2,pl,q2⟩=>thn (hu pins s2 σ H2 _ I2 q2) fun vu s3 ⟨u,H3,I3,pu,q3⟩=>?_)
 rw [evalPart_none];refine wpAny_pure ?_;have I4:Inv X pins σ H3 { s3 with heap:=s3.heap.push { cls:=.type "slice",data:=.fields #[vl,vu,.none] } }:=I3.kept (t':=s3.toks) fun b ob q=>Heap.get?_push_of_some _ q
 obtain ⟨T,id,hT,ht,hg⟩:=hr pins { s3 with heap:=s3.heap.push { cls:=.type "slice",data:=.fields #[vl,vu,.none] } } σ H3 x v vl vu l u s3.heap.objs.size Q I4 r1 (Heap.IsSliceOf.new ..) pl pu q3
 show wpAny (model X.prog X.w) X.A (subscriptTail e (.Slice lo hi none p2) v (.ref s3.heap.objs.size)) (EP X pins σ Q) X.xe { s3 with heap:=s3.heap.push { cls:=.type "slice",data:=.fields #[vl,vu,.none] } }
 exact tail_any (ops:=[.ref s3.heap.objs.size,v]) ht hT hg (by with_unfolding_all rfl)
def zaC (xs:List V) (lo hi:Option Int):List V:=(xs.drop (HT.sIx xs.length 0 lo)).take (HT.sIx xs.length xs.length hi-HT.sIx xs.length 0 lo)
theorem zbE (xs:List V) (lo hi:Option Int):(zaC xs lo hi).length<=xs.length:=by
 unfold zaC;rw [List.length_take,List.length_drop];omega
def zp9 (K:PySem.W.Frag):V->Option Int->Option Int->Hp->VK->Prop:=fun x lo hi H Q=>∃a xs,x=.ref a/\SqT K H a xs/\
 ¬(HT.sIx xs.length 0 lo=0/\HT.sIx xs.length xs.length hi=xs.length)/\∀p,H p=none->Q (.ref p) (upd H p (.tup (zaC xs lo hi)))
theorem zoz:SlR X (zp9 X.K):=by
 intro pins s σ H x v vl vu lo hi sl Q I rx hs pl pu h;obtain ⟨a,xs,rfl,hx,hw,q⟩:=h;cases rx;obtain ⟨its,r,ht,hz⟩:=I.tuple hx;have hlen:its.toArray.size=xs.length:=by rw [List.size_toArray];exact r.length.symm
 refine ⟨"tuple",_,PyProof.Rows.slot_tuple_getitem.lookup,ht.typeIs,?_⟩;refine HT.zaB ht hs pl pu (by rw [hlen];exact hw) ?_ (by rw [hlen];exact hz)
 rw [hlen];refine ⟨.ref s.heap.objs.size,_,I.laid (t':=s.toks) (o:=.tup (zaC xs lo hi)) (fun b ob q=>Heap.get?_push_of_some _ q) (Nat.le_refl _) ?_,rfl,q _ (I.hok.fresh (Nat.le_refl _))⟩
 exact ⟨Nat.le_trans (zbE xs lo hi) hz,_,(r.drop (HT.sIx xs.length 0 lo)).take (HT.sIx xs.length xs.length hi-HT.sIx xs.length 0 lo),IsTup.new _ _⟩
theorem zo.nil_iff {xs:List V} {us:List Value} (r:zo xs us):us=[]↔xs=[]:=by
 cases r with
 | nil=>simp
 | cons _ _=>simp
end
def ixN (n:Nat) (i:Int):Option Nat:=if 0<=i then (if i<n then some i.toNat else none) else if -(n:Int)<=i then some (i+n).toNat else none
def atI {α:Type} (xs:List α) (i:Int):Option α:=(ixN xs.length i).bind fun j=>xs[j]?
theorem zlA {n:Nat} {i:Int} {j:Nat} (h:ixN n i=some j):seqIndex? i n=some j/\j<n/\-(n:Int)<=i/\i<n:=by
 unfold ixN at h
 by_cases h0:0<=i
 ·rw [if_pos h0] at h
  by_cases h1:i<n
  ·rw [if_pos h1] at h;have e:i.toNat=j:=Option.some.inj h;exact ⟨by rw [seqIndex_of h0 h1,e],by omega,by omega,h1⟩
  ·rw [if_neg h1] at h;cases h
 ·rw [if_neg h0] at h
  by_cases h1:-(n:Int)<=i
  ·rw [if_pos h1] at h;have e:(i+n).toNat=j:=Option.some.inj h;exact ⟨by rw [seqIndex_neg s!"e" h1,e],by omega,h1,by omega⟩
  ·rw [if_neg h1] at h;cases h
theorem zei {α:Type} {xs:List α} {i:Int} {v:α} (h:atI xs i=some v):∃j,seqIndex? i xs.length=some j/\xs[j]? =some v/\j<xs.length/\-(xs.length:Int)<=i/\i<xs.length:=by
 unfold atI at h;cases e:ixN xs.length i with
 | none=>rw [e] at h;cases h
 | some j=>
  rw [e] at h;obtain ⟨h1,h2,h3,h4⟩:=zlA e;exact ⟨j,h1,h,h2,h3,h4⟩
theorem wH {α:Type} {xs:List α} {j:Nat} {v:α} (h:xs[j]? =some v):atI xs (j:Int)=some v:=by
 have hj:j<xs.length:=s!"Z{h}".1;have e:ixN xs.length (j:Int)=some j:=by
  unfold ixN;rw [if_pos s!"e",if_pos s!"e"];simp
 unfold atI;rw [e];exact h
def zlB (b:Expr):Prop:=∀o i,subscripted b false o i=operate [o,i] (getItem o i)
def IxR (X:Cx) (r:R2):Prop:=
 ∀(value slice:Expr) (pins:List (Addr×Obj)) (s:Shared) (σ:St) (H:Hp) (x y:V) (v u:Value) (Q:VK),Inv X pins σ H s->zq x v->zq y u->r x y H Q->
  subscripted slice false v u=operate [v,u] (getItem v u)->wpAny (model X.prog X.w) X.A (subscriptTail value slice v u) (EP X pins σ Q) X.xe s
def MtR (X:Cx) (id:String) (r:V->List V->Hp->VK->Prop):Prop:=
 ∀(pins:List (Addr×Obj)) (s:Shared) (σ:St) (H:Hp) (x:V) (xs:List V) (v:Value) (us:List Value) (Q:VK),Inv X pins σ H s->zq x v->zo xs us->r x xs H Q->
  wpAny (model X.prog X.w) X.A (call s!"ag" (v::us)) (EP X pins σ Q) X.xe s
section
variable {X:Cx} {a b:Expr} {ta tb:TE} {pos:Pos}
theorem IxR.or {r r':R2} (h:IxR X r) (h':IxR X r'):IxR X (fun x y H Q=>r x y H Q\/r' x y H Q):=by
 intro value slice pins s σ H x y v u Q I rx ry q hs;rcases q with q | q
 ·exact h value slice pins s σ H x y v u Q I rx ry q hs
 ·exact h' value slice pins s σ H x y v u Q I rx ry q hs
theorem pe_ix {r:R2} (hr:IxR X r) (ha:PE X a ta) (hb:PE X b tb) (hs:zlB b):PE X (.Subscript a b pos) (tOp r ta tb):=by
 intro pins s σ H Q I h;exact Subscript_ (zot ha hb I h fun v u s2 x y H2 I2 rx ry q=>hr a b pins s2 σ H2 x y v u Q I2 rx ry q (hs _ _))
def zqa (K:PySem.W.Frag):R2:=fun x y H Q=>∃p xs i v,x=.ref p/\y=.int i/\SqL K H p xs/\atI xs i=some v/\Q v H
def zqb (K:PySem.W.Frag):R2:=fun x y H Q=>∃p xs i v,x=.ref p/\y=.int i/\SqT K H p xs/\atI xs i=some v/\Q v H
def zqc:R2:=fun x y H Q=>∃z i c,x=.str z/\y=.int i/\z.length<=sizeLine/\atI z.cps.toList i=some c/\Q (.str ⟨#[c]⟩) H
theorem zlC:IxR X (zqa X.K):=by
 intro value slice pins s σ H x y v u Q I rx ry h hs;obtain ⟨p,xs,i,z,rfl,rfl,hq,he,q⟩:=h;cases rx;obtain ⟨t,rfl⟩:=ry;obtain ⟨its,r,pl,hz⟩:=I.list hq;obtain ⟨j,h1,h2,h3,h4,h5⟩:=zei he;obtain ⟨w,ew,rw'⟩:=r.get h2;have hl:=r.length;have hn:=zci;have fin:EP X pins σ Q w s:=⟨z,H,I,rw',q⟩
 by_cases h0:0<=i
 ·have hj:i.toNat=j:=by
   rw [seqIndex_of h0 h5] at h1;exact Option.some.inj h1
  exact item_listR pl.isList h0 s!"e" (by rw [hj];simpa using ew) fin hs
 ·have hj:(i+(its.toArray.size:Int)).toNat=j:=by
   rw [seqIndex_neg s!"e" h4] at h1
   rw [List.size_toArray,<-hl];exact Option.some.inj h1
  exact subscriptTail_builtinR (x:=w) pl.isList.typeIs slot_list_getitem.lookup
   (wpAny_getItem_list_neg (Q:=fun r s'=>r=w/\EP X pins σ Q r s') pl.isList s!"e" (by rw [List.size_toArray] <;> omega) s!"e" (by rw [hj];simpa using ew) ⟨rfl,fin⟩) hs
theorem zoA:IxR X (zqb X.K):=by
 intro value slice pins s σ H x y v u Q I rx ry h hs;obtain ⟨p,xs,i,z,rfl,rfl,hq,he,q⟩:=h;cases rx;obtain ⟨t,rfl⟩:=ry;obtain ⟨its,r,pl,hz⟩:=I.tuple hq;obtain ⟨j,h1,h2,h3,h4,h5⟩:=zei he;obtain ⟨w,ew,rw'⟩:=r.get h2;have hl:=r.length;have hn:=zci;have fin:EP X pins σ Q w s:=⟨z,H,I,rw',q⟩;exact subscriptTail_builtinR (x:=w) pl.typeIs slot_tuple_getitem.lookup
  (getItem_tuple (j:=j) (Q:=fun r s'=>r=w/\EP X pins σ Q r s') pl s!"e" s!"e" (by rw [List.size_toArray,<-hl];exact h1) (by simpa using ew) ⟨rfl,fin⟩) hs
theorem zja:IxR X zqc:=by
 intro value slice pins s σ H x y v u Q I rx ry h hs;obtain ⟨z,i,c,rfl,rfl,hz,he,q⟩:=h;obtain ⟨t,rfl⟩:=rx;obtain ⟨t',rfl⟩:=ry;obtain ⟨j,h1,h2,h3,h4,h5⟩:=zei he;have hl:z.cps.toList.length=z.length:=by simp [Str.length]
 rw [hl] at h1 h4 h5;have hn:=zci;exact tail_any (typeIs_str s z t) slot_str_getitem.lookup (getItem_str (c:=c) (by
  have e1:decide (i < -(2^63:Int))=false:=decide_eq_false s!"e"
  have e2:decide (i>=2^63)=false:=decide_eq_false s!"e"
  rw [e1,e2,Bool.or_false]) (by rw [h1];simpa using h2) ⟨.str ⟨#[c]⟩,H,I.tok _,⟨_,rfl⟩,q⟩) hs
theorem Inv.lst {pins:List (Addr×Obj)} {σ:St} {H:Hp} {s:Shared} {p:Addr} {xs:List V} (I:Inv X pins σ H s) (h:H p=some s!"P"):
 ∃(its:List Value) (n:Nat),zo xs its/\s.heap.get? p=some { cls:=.type "list",data:=.seq its.toArray n }/\xs.length<=sizeLine:=by
 obtain ⟨z,its,n,r,e⟩:=I.hok p _ h;exact ⟨its,n,r,e,z⟩
theorem zej (lo hi:Option Int) (n:Nat):(sliceBounds lo hi none n).1=((HT.sIx n 0 lo:Nat):Int)/\(sliceBounds lo hi none n).2.1=((HT.sIx n n hi:Nat):Int)/\(sliceBounds lo hi none n).2.2=1:=by
 refine ⟨?_,?_,rfl⟩
 ·cases lo with
  | none=>simp [sliceBounds,HT.sIx]
  | some i=>
   simp only [sliceBounds,HT.sIx,Option.getD_none,show (1:Int) > 0 by decide,if_true]
   by_cases h:i<0
   ·simp only [h,if_true] <;> omega
   ·simp only [h,if_false] <;> omega
 ·cases hi with
  | none=>simp [sliceBounds,HT.sIx]
  | some i=>
   simp only [sliceBounds,HT.sIx,Option.getD_none,show (1:Int) > 0 by decide,if_true]
   by_cases h:i<0
   ·simp only [h,if_true] <;> omega
   ·simp only [h,if_false] <;> omega
theorem zcX (its:List Value) (lo hi:Option Int):slicePick its.toArray lo hi none=((its.drop (HT.sIx its.length 0 lo)).take (HT.sIx its.length its.length hi-HT.sIx its.length 0 lo)).toArray:=by
 obtain ⟨h1,h2,h3⟩:=zej lo hi its.toArray.size;unfold slicePick;rw [h1,h2,h3];simp only [sliceRange_one,pick_run,List.size_toArray] <;> rfl
def zqd (K:PySem.W.Frag):V->Option Int->Option Int->Hp->VK->Prop:=fun x lo hi H Q=>∃a xs,x=.ref a/\SqL K H a xs/\∀p,H p=none->Q (.ref p) (upd H p (.lst (zaC xs lo hi)))
theorem zlD:SlR X (zqd X.K):=by
 intro pins s σ H x v vl vu lo hi sl Q I rx hs pl pu h;obtain ⟨a,xs,rfl,hx,q⟩:=h;cases rx;obtain ⟨its,r,ht,hz⟩:=I.list hx;have hlen:=r.length;refine ⟨"list",_,slot_list_getitem.lookup,ht.isList.typeIs,?_⟩;refine wpAny_getItem_list_slice ht.isList hs pl pu .none (by simp) ?_ (by rw [List.size_toArray] <;> omega)
 rw [zcX,<-hlen];refine ⟨.ref s.heap.objs.size,_,I.laid (t':=s.toks) (o:=.lst (zaC xs lo hi)) (fun b ob q=>Heap.get?_push_of_some _ q) (Nat.le_refl _) ?_,rfl,q _ (I.hok.fresh (Nat.le_refl _))⟩
 exact ⟨Nat.le_trans (zbE xs lo hi) hz,_,0,(r.drop (HT.sIx xs.length 0 lo)).take (HT.sIx xs.length xs.length hi-HT.sIx xs.length 0 lo),Heap.get?_push_size _ rfl⟩
def ya:V->Bool
 | .non=>true
 | .bl _=>true
 | .int _=>true
 | .str _=>true
 | _=>false
def eqV:V->V->Bool
 | .non,.non=>true
 | .bl a,.bl b=>a==b
 | .bl a,.int b=>(if a then 1 else 0)==b
 | .int a,.bl b=>a==(if b then 1 else 0)
 | .int a,.int b=>a==b
 | .str a,.str b=>a==b
 | _,_=>false
theorem eqAt_V {A:Around} {s:Shared} {y x:V} {u v:Value} (ry:zq y u) (rx:zq x v) (fy:ya y=true) (fx:ya x=true):SeqAt.EqAt A s u v (eqV y x):=by
 cases y with
 | non=>
  cases ry;cases x with
  | non=>cases rx;exact SeqAt.EqAt.same _
  | bl b=>cases rx;exact SeqAt.EqAt.none_bool b
  | int b=>obtain ⟨t,rfl⟩:=rx;exact SeqAt.EqAt.none_int b t
  | str b=>obtain ⟨t,rfl⟩:=rx;exact SeqAt.EqAt.none_str b t
  | _=>exact absurd (show false=true from fx) Bool.false_ne_true
 | bl a=>
  cases ry;cases x with
  | non=>cases rx;exact SeqAt.EqAt.bool_none a
  | bl b=>cases rx;exact SeqAt.EqAt.bool_bool a b
  | int b=>obtain ⟨t,rfl⟩:=rx;exact SeqAt.EqAt.bool_int a b t
  | str b=>obtain ⟨t,rfl⟩:=rx;exact SeqAt.EqAt.bool_str a b t
  | _=>exact absurd (show false=true from fx) Bool.false_ne_true
 | int a=>
  obtain ⟨t',rfl⟩:=ry;cases x with
  | non=>cases rx;exact SeqAt.EqAt.int_none a t'
  | bl b=>cases rx;exact SeqAt.EqAt.int_bool a t' b
  | int b=>obtain ⟨t,rfl⟩:=rx;exact SeqAt.EqAt.int_int a t' b t
  | str b=>obtain ⟨t,rfl⟩:=rx;exact SeqAt.EqAt.int_str a t' b t
  | _=>exact absurd (show false=true from fx) Bool.false_ne_true
 | str a=>
  obtain ⟨t',rfl⟩:=ry;cases x with
  | non=>cases rx;exact SeqAt.EqAt.str_none a t'
  | bl b=>cases rx;exact SeqAt.EqAt.str_bool a t' b
  | int b=>obtain ⟨t,rfl⟩:=rx;exact SeqAt.EqAt.str_int a t' b t
  | str b=>obtain ⟨t,rfl⟩:=rx;exact SeqAt.EqAt.str_str a t' b t
  | _=>exact absurd (show false=true from fx) Bool.false_ne_true
 | _=>exact absurd (show false=true from fy) Bool.false_ne_true
def eqU (x:V) (u:Value):Bool:=match u with
 | .none=>eqV .non x
 | .bool b=>eqV (.bl b) x
 | .int i _=>eqV s!"M" x
 | .str z _=>eqV (.str z) x
 | _=>false
theorem zjb {x y:V} {u:Value} (r:zq y u) (f:ya y=true):eqU x u=eqV y x:=by
 cases y with
 | non=>cases r;rfl
 | bl b=>cases r;rfl
 | int i=>obtain ⟨t,rfl⟩:=r;rfl
 | str z=>obtain ⟨t,rfl⟩:=r;rfl
 | _=>exact absurd (show false=true from f) Bool.false_ne_true
theorem zek {x:V}:∀{xs:List V} {us:List Value},zo xs us->xs.all ya=true->us.any (eqU x)=xs.any fun y=>eqV y x
 | _,_,.nil,_=>rfl
 | y::xs,u::us,.cons r t,f=>by
  rw [List.all_cons,Bool.and_eq_true] at f;rw [List.any_cons,List.any_cons,zjb r f.1,zek t f.2]
theorem zcl {A:Around} {s:Shared} {x:V} {v:Value} (rx:zq x v) (fx:ya x=true):∀{xs:List V} {us:List Value},zo xs us->xs.all ya=true->∀u∈us,SeqAt.EqAt A s u v (eqU x u)
 | _,_,.nil,_=>fun u hu=>by cases hu
 | y::xs,u::us,.cons r t,f=>fun u' hu=>by
  rw [List.all_cons,Bool.and_eq_true] at f;rcases List.mem_cons.mp hu with rfl | hu
  ·rw [zjb r f.1];exact eqAt_V r rx f.1 fx
  ·exact zcl rx fx t f.2 u' hu
def inV (x:V) (xs:List V):Bool:=xs.any fun y=>eqV y x
def rIn (K:PySem.W.Frag) (neg:Bool):R2:=fun x y H Q=>∃p xs,y=.ref p/\(SqL K H p xs\/SqT K H p xs)/\ya x=true/\xs.all ya=true/\Q (.bl (if neg then !inV x xs else inV x xs)) H
theorem op_in_seq:OpR X s!"O{.In}" (rIn X.K false):=by
 intro pins s σ H x y v u Q I rx ry h;obtain ⟨p,xs,rfl,hq,fx,fs,q⟩:=h;cases ry;rcases hq with hq | hq
 ·obtain ⟨its,r,pl,hz⟩:=I.list hq;refine SeqAt.in_listAt (eqU x) pl.isList (fun w hw=>zcl rx fx r fs w (by simpa using hw)) ⟨.bl _,H,I,rfl,?_⟩
  rw [show its.toArray.any (eqU x)=its.any (eqU x) by simp,zek r fs]
  exact q
 ·obtain ⟨its,r,pl,hz⟩:=I.tuple hq;refine SeqAt.in_tupleAt (eqU x) pl (fun w hw=>zcl rx fx r fs w (by simpa using hw)) ⟨.bl _,H,I,rfl,?_⟩
  rw [show its.toArray.any (eqU x)=its.any (eqU x) by simp,zek r fs]
  exact q
theorem zel:yi X s!"aG" (fun xs H Q=>∃p ys,xs=[.ref p]/\(SqL X.K H p ys\/SqT X.K H p ys)/\Q (.int ys.length) H):=by
 intro pins s σ H xs us Q I r h;obtain ⟨p,ys,rfl,hq,q⟩:=h;obtain ⟨u,rfl,rx⟩:=zaA r;cases rx;have hn:=zci;rcases hq with hq | hq
 ·obtain ⟨its,r',pl,hz⟩:=I.list hq;have hlen:=r'.length;exact Calls.call_len_list pl.isList (by simp only [List.size_toArray] <;> omega) ⟨.int ys.length,H,I.tok _,⟨s.toks+1,by rw [List.size_toArray,hlen]⟩,q⟩
 ·obtain ⟨its,r',pl,hz⟩:=I.tuple hq;have hlen:=r'.length;exact len_tuple pl (by simp only [List.size_toArray] <;> omega) ⟨.int ys.length,H,I.tok _,⟨s.toks+1,by rw [List.size_toArray,hlen]⟩,q⟩
theorem zem:yi X s!"aG" (fun xs H Q=>∃z,xs=[.str z]/\z.length<=sizeLine/\Q (.int z.length) H):=by
 intro pins s σ H xs us Q I r h;obtain ⟨z,rfl,hz,q⟩:=h;obtain ⟨u,rfl,t,rfl⟩:=zaA r;have hn:=zci;exact len_str s!"e" ⟨.int z.length,H,I.tok _,⟨_,rfl⟩,q⟩
def tyV (K:PySem.W.Frag) (T:String) (x:V) (H:Hp):Prop:=match x with
 | .str _=>T="str"
 | .int _=>T="int"
 | .ref p=>(T="list"/\∃xs,SqL K H p xs)\/(T="tuple"/\∃o,K.lookup p=some o/\o.cls=.type "tuple"/\o.dict=none)\/
  (T="dict"/\((∃kvs,H p=some (.dK kvs))\/∃kvs,H p=some (.dT kvs)))\/(T="set"/\∃S n,H p=some (.set S n))
 | _=>False
theorem zjc {pins:List (Addr×Obj)} {σ:St} {H:Hp} {s:Shared} {T:String} {x:V} {v:Value} (I:Inv X pins σ H s) (r:zq x v) (ty:tyV X.K T x H):
 s.TypeIs v T/\∀a,v=.ref a->∃ob,s.heap.get? a=some ob/\ob.dict=none:=by
 cases x with
 | str z=>
  obtain ⟨t,rfl⟩:=r;cases (show T="str" from ty)
  exact ⟨typeIs_str s z t,fun _ e=>nomatch e⟩
 | int i=>
  obtain ⟨t,rfl⟩:=r;cases (show T="int" from ty)
  exact ⟨typeIs_int s i t,fun _ e=>nomatch e⟩
 | ref p=>
  cases r;rcases ty with ⟨rfl,xs,hq⟩ | ⟨rfl,o,hk,hc,hd⟩ | ⟨rfl,hk⟩ | ⟨rfl,S,n,hk⟩
  ·obtain ⟨its,_,pl,_⟩:=I.list hq;refine ⟨pl.isList.typeIs,fun a e=>?_⟩
   cases e;obtain ⟨o,n,e,c,hd,_⟩:=pl;exact ⟨o,e,hd⟩
  ·refine ⟨⟨o,I.kIn p o hk,hc⟩,fun a e=>?_⟩
   cases e;exact ⟨o,I.kIn _ o hk,hd⟩
  ·have z:∃o,s.heap.get? p=some o/\o.ExactDict:=by
    rcases hk with ⟨kvs,hk⟩ | ⟨kvs,hk⟩
    ·obtain ⟨_,_,_,_,o,_,_,e,ex,_⟩:=I.hok p _ hk;exact ⟨o,e,ex⟩
    ·obtain ⟨_,_,_,_,o,_,_,e,ex,_⟩:=I.hok p _ hk;exact ⟨o,e,ex⟩
   obtain ⟨o,e,ex⟩:=z;refine ⟨⟨o,e,ex.1⟩,fun a e2=>?_⟩
   cases e2;exact ⟨o,e,ex.2.1⟩
  ·obtain ⟨o,_,_,_,e,ex,_⟩:=I.hok p _ hk;refine ⟨⟨o,e,ex.1⟩,fun a e2=>?_⟩
   cases e2;exact ⟨o,e,ex.2.1⟩
 | _=>exact False.elim ty
def zqe (K:PySem.W.Frag) (T:String) (r:V->List V->Hp->VK->Prop) (to:TE):TE:=fun σ H Q=>to σ H fun x H1=>tyV K T x H1/\r x [] H1 Q
def tBM (K:PySem.W.Frag) (T:String) (r:V->List V->Hp->VK->Prop) (to:TE) (t:TA):TE:=fun σ H Q=>to σ H fun x H1=>tyV K T x H1/\t σ H1 fun xs H2=>r x xs H2 Q
variable {o e:Expr} {es:List Expr} {to:TE} {t:TA} {name:Str} {apos cpos:Pos} {T id:String} {r:V->List V->Hp->VK->Prop}
theorem zjd (pa:PlainAttrs T) (slot:Slot T name id) (hty:typeOf s!"ag"=pure (.type "method_descriptor")) (hm:MtR X id r) (ho:PE X o to)
 (hbase:attributeBase o name X.env s!"!{o}"=eval o X.env:=by rfl) (hline:(apos.endLine==cpos.line)=true:=by rfl):PE X (.Call s!"aN{name}" [] [] cpos) (zqe X.K T r to):=by
 intro pins s σ H Q I h;refine wpAny_Call_method0_late hbase hline (thn (ho pins s σ H _ I h) fun v s1 ⟨x,H1,I1,r1,ty,q1⟩=>?_)
 obtain ⟨h1,h2⟩:=zjc I1 r1 ty;exact ⟨T,id,pa,slot,hty,h1,h2,Calls.callWith_builtin rfl (PySem.evalArgs_none (hm pins s1 σ H1 x [] v [] Q I1 r1 .nil q1))⟩
theorem pe_bm (pa:PlainAttrs T) (slot:Slot T name id) (hty:typeOf s!"ag"=pure (.type "method_descriptor")) (hm:MtR X id r) (ho:PE X o to) (ha:PA X (e::es) t)
 (hbase:attributeBase o name X.env s!"!{o}"=eval o X.env:=by rfl)
 (hfew:((backTo cpos (starEach (e::es) X.env)).all (fun x=>!x.1) && (backToKw cpos (keywordEach [] X.env)).all (fun x=>x.1.isSome)
  && decide ((e::es).length+([]:List Keyword).length+(if ([]:List Keyword).isEmpty then 0 else 1)<30))=true:=by rfl)
 (hline:(apos.endLine==cpos.line)=true:=by rfl) (hs:starEach (e::es) X.env=(false,eval e X.env)::starEach es X.env:=by rfl) (hplain:s!"au".any (·.1)=false:=by rfl):
 PE X (.Call s!"aN{name}" (e::es) [] cpos) (tBM X.K T r to t):=by
 intro pins s σ H Q I h;refine wpAny_Call_method_late hbase hfew hline rfl (thn (ho pins s σ H _ I h) fun v s1 ⟨x,H1,I1,r1,ty,q1⟩=>?_)
 obtain ⟨h1,h2⟩:=zjc I1 r1 ty;refine ⟨T,id,pa,slot,hty,h1,h2,?_⟩;have hA:=ha cpos pins s1 σ H1 _ I1 q1;rw [hs] at hA ⊢;refine Calls.callWith_builtin (by show (false || s!"au".any (·.1))=false;rw [hplain] <;> rfl) (Calls.evalArgs_plain ?_)
 exact thn hA fun us s2 ⟨vs,H2,I2,r2,q2⟩=>hm pins s2 σ H2 x vs v us Q I2 r1 r2 q2
/- xs.append(e),list.index on a module's tuple .. are MtR facts of 06m -/
end
def MtM (X:Cx) (id:String) (r:V->List V->Hp->VK->Prop):Prop:=
 ∀(pins:List (Addr×Obj)) (s:Shared) (σ:St) (H:Hp) (x:V) (xs:List V) (v:Value) (us:List Value) (Q:VK),Inv X pins σ H s->zq x v->zo xs us->r x xs H Q->
  wpAny (model X.prog X.w) X.A (call s!"ag" (v::us)) (EP X pins σ Q) X.xe s
theorem zo.one:∀{x:V} {us:List Value},zo [x] us->∃u,us=[u]/\zq x u
 | _,_,.cons r .nil=>⟨_,rfl,r⟩
theorem zo.zero:∀{us:List Value},zo [] us->us=[]
 | _,.nil=>rfl
theorem zo.dropLast {xs:List V} {us:List Value} (h:zo xs us):zo xs.dropLast us.dropLast:=by
 induction h with
 | nil=>exact .nil
 | cons r t ih=>
  cases t with
  | nil=>exact .nil
  | cons q t'=>exact .cons r ih
theorem zo.rep {xs:List V} {us:List Value} (h:zo xs us):∀k:Nat,zo s!"^{k}{xs}".flatten s!"^{k}{us}".flatten
 | 0=>.nil
 | k+1=>by
  rw [List.replicate_succ,List.replicate_succ,List.flatten_cons,List.flatten_cons];exact zo.append h (zo.rep h k)
theorem zgb {α:Type} (l:List α):l.eraseIdx (l.length-1)=l.dropLast:=by
 induction l with
 | nil=>rfl
 | cons a r ih=>
  cases r with
  | nil=>rfl
  | cons b r=>
   have e:(a::b::r).length-1=((b::r).length-1)+1:=by
    have h1:(a::b::r).length=r.length+2:=rfl;have h2:(b::r).length=r.length+1:=rfl;omega
   rw [e,List.eraseIdx_cons_succ,ih]
   all_goals rfl
theorem zdo (its:List Value):∀(k:Nat) (acc:List Value),
 List.foldl (fun x1 x2=>x1++x2) acc.toArray s!"^{k}{its.toArray}"=(acc++s!"^{k}{its}".flatten).toArray
 | 0,acc=>by simp
 | k+1,acc=>by
  have e:acc.toArray++its.toArray=(acc++its).toArray:=by simp
  have e2:(acc++its)++s!"^{k}{its}".flatten=acc++s!"^{(k+1)}{its}".flatten:=by
   rw [List.replicate_succ,List.flatten_cons,List.append_assoc]
  rw [<-e2,<-zdo its k (acc++its),<-e,List.replicate_succ,List.foldl_cons]
section
variable {X:Cx} {pins:List (Addr×Obj)} {σ:St} {H:Hp} {s:Shared} {l b:Addr} {xs ys zs:List V}
theorem Inv.lset {its its':List Value} {n:Nat} {f:Array Value->Array Value} {t':Nat} (I:Inv X pins σ H s) (hH:H l=some s!"P")
 (e:s.heap.get? l=some { cls:=.type "list",data:=.seq its.toArray n }) (hf:f its.toArray=its'.toArray) (hv:zo ys its') (hz:ys.length<=sizeLine):
 Inv X pins σ (upd H l s!"6") { s with heap:=s.heap.update l (Obj.mapSeq f),toks:=t' }:=by
 have q:=PySem.IsL.update e f;rw [hf] at q;refine I.write (x:=l) (e:=l) (by rw [hH];exact trivial) (.inl rfl) (fun b' u hb hu=>(Heap.get?_update_other s.heap (Obj.mapSeq f) (Ne.symm hb)).trans hu) ⟨_,q⟩ ?_
 exact ⟨hz,its',_,hv,q⟩
theorem Inv.lnew {its:List Value} {t':Nat} (I:Inv X pins σ H s) (hv:zo ys its) (hz:ys.length<=sizeLine):
 Inv X pins σ (upd H s.heap.objs.size s!"6") { s with heap:=s.heap.push { cls:=.type "list",data:=.seq its.toArray },toks:=t' }:=
 I.laid (fun _ _ q=>Heap.get?_push_of_some _ q) (Nat.le_refl _) ⟨hz,its,0,hv,Heap.get?_push_size _ rfl⟩
theorem Inv.fresh (I:Inv X pins σ H s):H s.heap.objs.size=none:=I.hok.fresh (Nat.le_refl _)
theorem Inv.lstM (I:Inv X pins σ H s) (hH:H l=some s!"P"):xs.length<=sizeLine/\∃(its:List Value) (n:Nat),zo xs its/\xs.length=its.length/\s.heap.get? l=some { cls:=.type "list",data:=.seq its.toArray n }:=by
 obtain ⟨z,its,n,r,e⟩:=I.hok l _ hH;exact ⟨z,its,n,r,r.length,e⟩
theorem zje {n:Nat} (h:n<=sizeLine):Builtin.List.listTooLong n=false:=by
 unfold Builtin.List.listTooLong;exact decide_eq_false s!"e"
end
section
variable {X:Cx}
def zg7:V->List V->Hp->VK->Prop:=fun x vs H Q=>∃l xs y,x=.ref l/\vs=[y]/\H l=some s!"P"/\xs.length<sizeLine/\Q .non (upd H l (.lst (xs++[y])))
theorem mt_append:MtM X "list.append" zg7:=by
 intro pins s σ H x vs v us Q I rx rv h;obtain ⟨l,xs,y,rfl,rfl,hH,hz,q⟩:=h;cases rx;obtain ⟨u,rfl,ru⟩:=rv.one;obtain ⟨z,its,n,r,hl,e⟩:=I.lstM hH;refine call_meets F.slot_list_append ⟨_,e,rfl⟩ F.entry_list_append (F.args_list_append_2 _ _) (PySem.list_append l its.toArray n u (by rw [List.size_toArray];omega)) ⟨e,?_⟩
 refine ⟨.non,_,I.lset (its':=its++[u]) hH e (by simp) (r.append (.cons ru .nil)) ?_,rfl,q⟩
 rw [List.length_append,List.length_singleton];omega
def zqf:V->List V->Hp->VK->Prop:=fun x vs H Q=>∃l xs y,x=.ref l/\vs=[]/\H l=some s!"P"/\xs[xs.length-1]? =some y/\Q y (upd H l (.lst xs.dropLast))
theorem zjf:MtM X "list.pop" zqf:=by
 intro pins s σ H x vs v us Q I rx rv h;obtain ⟨l,xs,y,rfl,rfl,hH,hy,q⟩:=h;cases rx;have hus:=rv.zero;subst hus;obtain ⟨z,its,n,r,hl,e⟩:=I.lstM hH;obtain ⟨u,hu,ru⟩:=r.get hy;have hy':its.toArray[its.toArray.size-1]? =some u:=by
  show its.toArray[its.length-1]? =some u;rw [<-Array.getElem?_toList,<-hl];exact hu
 refine call_meets F.slot_list_pop ⟨_,e,rfl⟩ F.entry_list_pop (F.args_list_pop_1 _) (MeetsSeq.list_pop_last l its.toArray n u hy' (by rw [List.size_toArray];omega)) ⟨e,?_⟩
 refine ⟨y,_,I.lset (its':=its.dropLast) hH e ?_ r.dropLast ?_,ru,q⟩
 ·show its.toArray.eraseIdxIfInBounds (its.toArray.size-1)=its.dropLast.toArray;rw [List.size_toArray,List.eraseIdxIfInBounds_toArray,zgb]
 ·rw [List.length_dropLast];omega
def zqg:R2:=fun x y H Q=>∃l b xs zs,x=.ref l/\y=.ref b/\H l=some s!"P"/\H b=some (.lst zs)/\xs.length+zs.length<=sizeLine/\∀p,H p=none->Q (.ref p) (upd H p (.lst (xs++zs)))
theorem zoB:OpR X s!"aE" zqg:=by
 intro pins s σ H x y v u Q I rx ry h;obtain ⟨l,b,xs,zs,rfl,rfl,hH,hB,hz,q⟩:=h;cases rx;cases ry;obtain ⟨z,its,n,r,hl,e⟩:=I.lstM hH;obtain ⟨z2,its2,n2,r2,hl2,e2⟩:=I.lstM hB;refine PySem.P.add_list e e2 ?_ (by rw [List.size_toArray,List.size_toArray];omega)
 have ea:its.toArray++its2.toArray=(its++its2).toArray:=by simp
 rw [ea];exact ⟨.ref _,_,I.lnew (t':=s.toks) (r.append r2) (by rw [List.length_append];omega),rfl,q _ I.fresh⟩
def zqh:R2:=fun x y H Q=>∃l k xs,x=.ref l/\y=.int k/\H l=some s!"P"/\-(2^63)<=k/\k<2^63/\xs.length*k.toNat<=sizeLine/\
 ∀p,H p=none->Q (.ref p) (upd H p (.lst s!"^{k.toNat}{xs}".flatten))
theorem zlE {α:Type} (xs:List α) (k:Nat):s!"^{k}{xs}".flatten.length=k*xs.length:=by
 induction k with
 | zero=>simp
 | succ k ih=>rw [List.replicate_succ,List.flatten_cons,List.length_append,ih,Nat.succ_mul,Nat.add_comm]
theorem zoC:OpR X (binaryOp .Mult) zqh:=by
 intro pins s σ H x y v u Q I rx ry h;obtain ⟨l,k,xs,rfl,rfl,hH,h1,h2,hz,q⟩:=h;cases rx;obtain ⟨t,rfl⟩:=ry;obtain ⟨z,its,n,r,hl,e⟩:=I.lstM hH;have hlen:its.toArray.size*k.toNat<=sizeLine:=by rw [List.size_toArray,<-hl];exact hz
 have hcap:¬its.toArray.size*k.toNat > (2^63-1) / 8:=by
  have:(sizeLine:Nat)<=(2^63-1) / 8:=by decide
  omega
 have hfit:¬(!Builtin.List.listFitsIndex k)=true:=by
  rw [fitsIndex_both h1 h2];exact Bool.false_ne_true
 have hlong:¬Builtin.List.listTooLong (its.toArray.size*k.toNat)=true:=by
  rw [zje hlen];exact Bool.false_ne_true
 have hnew:List.foldl (fun x1 x2=>x1++x2) #[] s!"^{(if its.toArray.isEmpty=true then 0 else k.toNat)}{its.toArray}"=s!"^{k.toNat}{its}".flatten.toArray:=by
  have f0:∀m:Nat,List.foldl (fun x1 x2=>x1++x2) #[] s!"^{m}{its.toArray}"=s!"^{m}{its}".flatten.toArray:=fun m=>by
   have:=zdo its m [];rw [List.nil_append] at this;exact this
  rw [f0];cases its with
  | nil=>simp
  | cons a r'=>rw [if_neg (by simp)]
 refine wpAny_binaryOp_repeat_ref (T:="list") (U:="int") s!"c" ⟨_,e,rfl⟩ (fun s'=>typeIs_int s' k t) noFill_list_mul F.fills_int_mul F.slot_int_rmul repeat_list F.slot_int_index.lookup
  (call_meets F.slot_int_rmul (typeIs_int s k t) F.entry_int_rmul (F.args_int_rmul_2 _ _) (int___rmul___int_list k t l its.toArray n)
   ⟨e,rfl,⟨_,e,rfl⟩,call_meets F.slot_list_mul ⟨_,e,rfl⟩ F.entry_list_mul (F.args_list_mul_2 _ _) (AutoListH.list___mul___list_int_3 l its.toArray n k t hfit hcap hlong) ⟨e,?_⟩⟩)
 rw [hnew];exact ⟨.ref _,_,I.lnew (t':=s.toks) (r.rep k.toNat) (by rw [zlE,Nat.mul_comm];exact hz),rfl,q _ I.fresh⟩
end
section
variable {prog:Program} {w:World} {A:Around} {E:Value->Shared->Prop} {s:Shared}
end
section
variable {X:Cx}
end
end L2
namespace Att
open PySem PySem.W PySem.Calls PyProof.Rows
theorem zbU {P:Params} {h:Heap}:∀(ns:List Int) (vs:List Value),WellAll P h vs (ns.map WData.int)->IntsAre vs ns:=by
 intro ns
 induction ns with
 | nil=>
  intro vs w;rw [List.map_nil] at w;cases w;exact .nil
 | cons n ns ih=>
  intro vs w;rw [List.map_cons] at w;cases w with
  | cons a b=>
   cases a;exact .cons _ _ (ih _ b)
theorem zdp {l:OpenLaw} {n:Nat} (hn:l.most=some n) {P:Params} {h:Heap} {args:List WData} {vals:List Value}
 (hpre:l.row.toRowW.claim.pre args=true) (hwl:WellAll P h vals args):
 ∃a vs ns,vals=[Value.ref a]/\args=[WData.list (ns.map WData.int)]/\h.get? a=some { cls:=.type "list",data:=.seq vs.toArray }/\IntsAre vs ns/\ns.length<=n:=by
 have hsh:WShape.hasAll [] args [.list .int]=true:=(pre_splitW hpre).1;have hc:l.pre.holds [] { args:=args }=true:=(pre_splitW hpre).2;obtain ⟨d,r,rfl,h1,h2⟩:=hasAllW_cons hsh;obtain rfl:=hasAllW_nil h2;obtain ⟨xs,rfl,h3⟩:=hasW_list h1;obtain ⟨ns,rfl⟩:=items_int h3;have hlen:ns.length<=n:=by
  unfold OpenLaw.pre at hc;have h4:(WTm.not (.lt (.lit (.int (n:Int))) (.len (.arg 0)))).holds [] { args:=[.list (ns.map .int)] }=true:=by
   have h4:=(holds_andW hc).1;rw [hn] at h4;exact h4
  have h5:=condW_of h4 (w_not (w_lt w_lit (w_len_list (w_arg rfl))));rw [List.length_map] at h5;refine Nat.le_of_not_lt fun q=>?_
  have q':(n:Int)<((ns.length:Nat):Int):=by omega
  first
   | (rw [decide_eq_true q'] at h5;exact absurd h5 s!"c")
   | (simp at h5;omega)
 cases hwl with
 | cons w1 w2=>
  cases w2;cases w1 with
  | list ho hall=>exact ⟨_,_,ns,rfl,rfl,ho,zbU ns _ hall,hlen⟩
theorem zdq (l:OpenLaw) (args:List WData):l.row.toRowW.claim.post args (.bool true) args=true:=
 postW_of (r:=l.row.toRowW) (X:=(true==true))
  (show WShape.has [] (.bool true) .bool=true by first | rfl | decide | simp [WShape.has,WShape.arms,WShape.armsAll])
  (show (WTm.eq .res (.lit (.bool true))).value [] { args:=args,res:=some (.bool true),after:=args }=some (.bool (true==true)) from w_eq_bool (w_res rfl) w_lit) rfl
theorem zrf {l:OpenLaw} {n:Nat} {q:Program} {loose:List Str} {XP:(Str->Option Value)->Heap->Prop} {YP:World->Heap->Prop} {d:DefRec} {x:Str}
 (hn:l.most=some n) (hdf:d.params.defaults=[])
 (hbind:∀pm cd doc v:Value,bindArgs (docDef d.name d.params d.body d.scope pm cd doc) ⟨[v],[]⟩=pure [(x,v)])
 (hx:d.scope.names.lookup x=some .local\/d.scope.names.lookup x=some .cell)
 (hk:d.scope.kind=.function) (hco:d.scope.isCoroutine=false) (hgen:d.scope.isGenerator=false)
 (body:∀(w:World) (s₀ s₁ s:Shared) (mg mb:Str->Option Value) (fa:Addr) (o:Obj) (pm cd doc:Value) (a:Addr) (vs:List Value) (ns:List Int),
  Ground q loose [] XP w s₀ mg mb s₁.heap->YP w s₁.heap->
  s₁.heap.get? fa=some o->o.data=.func (docDef d.name d.params d.body d.scope pm cd doc)->s₁.heap.CodeRec cd d.name->mg d.name=some s!"1"->
  s₁.heap.get? a=some { cls:=.type "list",data:=.seq vs.toArray }->IntsAre vs ns->ns.length<=n->
  s.gens=#[]->s.os=s₁.os->
  Fr s₁.heap s₁.heap.objs.size s.heap (bindL (envOfC d.name d.scope s₁.heap.objs.size fa cd).kindOf [(x,.ref a)] fun _=>none)->
  Cl s₁.heap.objs.size (cellsFrom (s₁.heap.objs.size+1) d.scope.names []) s.heap (bindC (envOfC d.name d.scope s₁.heap.objs.size fa cd).kindOf [(x,.ref a)] fun _=>none)->
  wpAny (model l.prog w) (callerA.deeper (envOfC d.name d.scope s₁.heap.objs.size fa cd)) (execs d.body (envOfC d.name d.scope s₁.heap.objs.size fa cd))
   (fun f s'=>f=.ret (.bool true)/\OldK s₁.heap s'.heap/\s'.os=s₁.os/\AllBare s'.gens) (fun _ _=>False) s):
 WalkO q loose XP YP l.row.toRowW d [] (fun f vs=>PySem.call f vs):=by
 intro w s₀ s₁ mg mb G Y fa o pm cd doc dV kV ho hd hcd hD hmg hg args vals as hpre hlay hrd hwl hlo;obtain rfl:dV=.none:=Dflts.none hD hdf;obtain rfl:kV=.none:=Dflts.noKw hD;obtain ⟨a,vs,ns,rfl,rfl,hobj,hints,hlen⟩:=zdp hn hpre hwl;refine enter_call ?_;refine call_cells_ret (o:=o) (by rw [depth_caller];decide) ho (fd_plain hd) G.T.nolimit hcd (hbind pm cd doc s!"g") (fun y hy=>?_) (fun h₁ tk F X=>?_) hco hgen hk
 ·obtain rfl:y=(x,Value.ref a):=List.mem_singleton.mp hy;rcases hx with e | e
  ·exact .inl e
  ·exact .inr ⟨e,cellsFrom_some _ _ _ (.inl e)⟩
 ·refine wpAny_mono (body w s₀ s₁ { s₁ with heap:=h₁,toks:=tk } mg mb fa o pm cd doc a vs ns G Y ho (fd_plain hd) hcd hmg hobj hints hlen hg rfl F X) (fun f s' hq=>?_) (fun _ _ hq=>hq)
  obtain ⟨rfl,h2,h3,h4⟩:=hq;exact ⟨.inl ⟨.bool true,.bool true,[],rfl,fun _=>rfl,.bool true,zdq l _,fun _=>⟨List.Pairwise.nil,fun _ hm=>(nomatch hm)⟩⟩,h2,h3,h4⟩
theorem attach_call {l:OpenLaw} {n:Nat} {q:Program} {loose:List Str} {XP:(Str->Option Value)->Heap->Prop} {YP:World->Heap->Prop} {d:DefRec}
 (hn:l.most=some n) (hdf:d.params.defaults=[])
 (call:∀(w:World) (s₀ s₁:Shared) (mg mb:Str->Option Value) (fa:Addr) (o:Obj) (pm cd doc:Value) (a:Addr) (vs:List Value) (ns:List Int),
  Ground q loose [] XP w s₀ mg mb s₁.heap->YP w s₁.heap->
  s₁.heap.get? fa=some o->o.data=.func (docDef d.name d.params d.body d.scope pm cd doc)->s₁.heap.CodeRec cd d.name->mg d.name=some s!"1"->
  s₁.heap.get? a=some { cls:=.type "list",data:=.seq vs.toArray }->IntsAre vs ns->ns.length<=n->s₁.gens=#[]->
  codeAny (model l.prog w) callerA (.call (.ref fa) ⟨[.ref a],[]⟩) (fun r s'=>r=.ok (.ret (.bool true))/\OldK s₁.heap s'.heap/\s'.os=s₁.os/\AllBare s'.gens) s₁):
 WalkO q loose XP YP l.row.toRowW d [] (fun f vs=>PySem.call f vs):=by
 intro w s₀ s₁ mg mb G Y fa o pm cd doc dV kV ho hd hcd hD hmg hg args vals as hpre hlay hrd hwl hlo;obtain rfl:dV=.none:=Dflts.none hD hdf;obtain rfl:kV=.none:=Dflts.noKw hD;obtain ⟨a,vs,ns,rfl,rfl,hobj,hints,hlen⟩:=zdp hn hpre hwl;refine enter_call (codeAny_mono (call w s₀ s₁ mg mb fa o pm cd doc a vs ns G Y ho (fd_plain hd) hcd hmg hobj hints hlen hg) fun r s' hq=>?_)
 obtain ⟨rfl,h2,h3,h4⟩:=hq;exact ⟨.inl ⟨.bool true,.bool true,[],rfl,fun _=>rfl,.bool true,zdq l _,fun _=>⟨List.Pairwise.nil,fun _ hm=>(nomatch hm)⟩⟩,h2,h3,h4⟩
section
variable {prog:Program} {w:World} {A:Around} {E:Value->Shared->Prop} {s:Shared} {K:Frag}
end
end Att
namespace L2
open PySem PySem.Spec PyProof.Rows
theorem zdr:∀{vs:List Value} {ns:List Int},IntsAre vs ns->zo (ns.map V.int) vs
 | _,_,.nil=>.nil
 | _,_,.cons n t h=>.cons ⟨t,rfl⟩ (zdr h)
def zoD (H:Hp):Prop:=∀b,H b=none\/∃o xs,H b=some (.frz o s!"P")
theorem zjg {P:Program} {w:World} {K:PySem.W.Frag} {mg mb:Str->Option Value} {CX:CXT} {k:Nat} {fa a:Addr} {fd:FuncData} {x:Str} {sp:Sp} {s₁:Shared} {vs:List Value} {ns:List Int}
 (KX:K.In s₁.heap) (hns:s₁.heap.Ns mainGlobals mg) (hb:s₁.heap.Ns builtinsNs mb) (hbb:∀x:Str,x≠"__name__"->mb x=bootBuiltins x) (hlim:s₁.heap.NoLimit) (hg:s₁.gens=#[])
 (ha:s₁.heap.get? a=some { cls:=.type "list",data:=.seq vs.toArray }) (hi:IntsAre vs ns) (hl:ns.length<=sizeLine) (hr:Room k callerA)
 (F:∀base:Heap,K.In base->base.Ns mainGlobals mg->FnOk P w K mg base CX k fa fd [x] sp) (hbind:∀(s:Shared) (u:Value),BindsTo s fd ⟨[u],[]⟩ [(x,u)])
 (hsp:∀H:Hp,zoD H->SqL K H a (ns.map V.int)->sp [.ref a] H (fun v _=>v=.bl true) fun _ _ _=>False)
 (hCX:∀H e s',CX [] H s₁ (fun _ _ _=>False) e s'->False):
 codeAny (model P w) callerA (.call s!"1" ⟨[.ref a],[]⟩) (fun r s'=>r=.ok (.ret (.bool true))/\OldK s₁.heap s'.heap/\s'.os=s₁.os/\AllBare s'.gens) s₁:=by
 have rv:=zdr hi;have lenV:=hi.length;have core:∀H:Hp,zoD H->SqL K H a (ns.map V.int)->HOk P w H s₁.heap->(∀b,H b≠none->b=a)->(H a≠none->K.lookup a=none)->
  codeAny (model P w) callerA (.call s!"1" ⟨[.ref a],[]⟩) (fun r s'=>r=.ok (.ret (.bool true))/\OldK s₁.heap s'.heap/\s'.os=s₁.os/\AllBare s'.gens) s₁:=by
  intro H hO hS hok hA hK;have base_of:∀{b:Addr} {o:Obj},s₁.heap.get? b=some o->H b=none->(zeb s₁.heap H).get? b=some o:=fun e n=>ziW e n
  have noA:∀{b:Addr} {o:Obj} {es:Array DictEntry} {ep:Nat},s₁.heap.get? b=some o->o.data=.dict es ep->H b=none:=fun {b o es ep} e d=>by
   cases q:H b with
   | none=>rfl
   | some u=>
    have e':b=a:=hA b (by rw [q];simp)
    subst e';rw [ha] at e;cases e;have d':Data.seq vs.toArray _=Data.dict es ep:=d;cases d'
  have nsK:∀{b:Addr} {m:Str->Option Value},s₁.heap.Ns b m->(zeb s₁.heap H).Ns b m:=fun {b m} ⟨o,es,ep,e,d,r⟩=>⟨o,es,ep,base_of e (noA e d),d,r⟩
  have hKb:K.In (zeb s₁.heap H):=fun b o e=>base_of (KX b o e) (by
   cases q:H b with
   | none=>rfl
   | some u=>
    have e':b=a:=hA b (by rw [q];simp)
    subst e';rw [hK (by rw [q];simp)] at e;cases e)
  have hM:Mod K mg (zeb s₁.heap H):=⟨hKb,nsK hns,⟨mb,nsK hb,hbb⟩,let ⟨mc,h1,h2⟩:=hlim;⟨mc,nsK h1,h2⟩⟩
  have e0:Env0 P w K mg (zeb s₁.heap H) callerA [] s₁ H:=⟨rfl,hM,fun b o e=>zlp e,Nat.le_of_eq (zhN _ _),trivial,fun b hb=>absurd (show b∈([]:List Addr) from hb) (by simp),hok,.of_eq hg⟩
  refine codeAny_mono ((F _ hKb (nsK hns)).run callerA [] s₁ H ⟨[.ref a],[]⟩ [.ref a] [.ref a] _ _ hr e0 (hbind s₁ s!"g") (.cons rfl .nil) (hsp H hO hS)) fun r s' h=>?_
  cases r with
  | error e=>exact (hCX H e s' h).elim
  | ok fl=>
   cases fl with
   | next=>exact False.elim h
   | brk=>exact False.elim h
   | cont=>exact False.elim h
   | ret u=>
    obtain ⟨v,H',os,bare,un,hok',r',q⟩:=h;have q':v=.bl true:=q;subst q';obtain rfl:u=Value.bool true:=r';refine ⟨rfl,OldK.of_keep fun b o e=>?_,os,bare⟩
    cases q:H b with
    | none=>exact un.keep b o e q (by intro z;exact absurd (show b∈([]:List Addr) from z) (by simp)) (by simp)
    | some u=>
     rcases hO b with z | ⟨ob,xs,z⟩
     ·rw [q] at z;cases z
     ·have z2:=un.frzs b ob _ z;obtain ⟨e1,_⟩:=hok b _ z;obtain ⟨e2,_⟩:=hok' b _ z2;rw [e] at e1;cases e1;exact e2
 cases hk:K.lookup a with
 | some o=>
  have e:=KX a o hk;rw [ha] at e;cases e;refine core (fun _=>none) (fun _=>.inl rfl) (.inr ⟨_,vs.toArray,_,hk,rfl,rfl,rfl,by rw [List.size_toArray,lenV];exact hl,by simpa using rv⟩) (fun b u z=>by have z':(none:Option HO)=some u:=z;cases z') (fun b z=>absurd rfl z) fun z=>absurd rfl z
 | none=>
  refine core (fun b=>if b=a then some (.frz { cls:=.type "list",data:=.seq vs.toArray } (.lst (ns.map V.int))) else none) (fun b=>?_) (.inl (.inr ⟨{ cls:=.type "list",data:=.seq vs.toArray },if_pos rfl⟩)) (fun b u z=>?_) (fun b z=>?_) fun _=>hk
  ·by_cases hb:b=a
   ·exact .inr ⟨_,_,if_pos hb⟩
   ·exact .inl (if_neg hb)
  ·by_cases hb:b=a
   ·have z':=(if_pos hb).symm.trans z;cases z';subst hb;exact ⟨ha,by rw [List.length_map];exact hl,vs,_,rv,ha⟩
   ·have z':=(if_neg hb).symm.trans z;cases z'
  ·by_cases hb:b=a
   ·exact hb
   ·exact absurd (if_neg hb) z
theorem zg8 {l:PySem.W.OpenLaw} {n k:Nat} {q:Program} {loose:List Str} {XP:(Str->Option Value)->Heap->Prop} {YP:World->Heap->Prop} {d:DefRec} {K:Params->PySem.W.Frag} {CX:World->CXT} {sp:World->Sp} {x:Str}
 (hn:l.most=some n) (hn2:n<=sizeLine) (hdf:d.params.defaults=[]) (hr:Room k callerA)
 (hY:∀(w:World) (h:Heap),YP w h->(K w.params).In h)
 (F:∀(w:World) (mg:Str->Option Value) (fa:Addr) (h:Heap),(K w.params).In h->h.Ns mainGlobals mg->mg d.name=some (.ref fa)->
  ∃fd:FuncData,(∀(s:Shared) (u:Value),BindsTo s fd ⟨[u],[]⟩ [(x,u)])/\
   ∀base:Heap,(K w.params).In base->base.Ns mainGlobals mg->FnOk l.prog w (K w.params) mg base (CX w) k fa fd [x] (sp w))
 (hsp:∀(w:World) (H:Hp) (a:Addr) (ns:List Int),ns.length<=n->zoD H->SqL (K w.params) H a (ns.map V.int)->sp w [.ref a] H (fun v _=>v=.bl true) fun _ _ _=>False)
 (hCX:∀(w:World) (H:Hp) (s:Shared) (e:Value) (s':Shared),CX w [] H s (fun _ _ _=>False) e s'->False):
 PySem.W.WalkO q loose XP YP l.row.toRowW d [] (fun f vs=>PySem.call f vs):=by
 refine Att.attach_call hn hdf fun w s₀ s₁ mg mb fa o pm cd doc a vs ns G Y ho hd hcd hmg hobj hints hlen hg=>?_
 have KX:=hY w _ Y;obtain ⟨fd,hb,hF⟩:=F w mg fa _ KX G.T.g hmg;exact zjg KX G.T.g G.T.b G.T.builtins G.T.nolimit hg hobj hints (Nat.le_trans hlen hn2) hr hF hb (fun H hO hS=>hsp w H a ns hlen hO hS) fun H e s'=>hCX w H s₁ e s'
end L2
namespace L2
open PySem PySem.Spec PyProof.Rows
def yw (s:Stmt) (j:Nat):Stmt:=match s with
 | .ClassDef _ _ _ body _ _ _ _ _ _ _=>body.getD j (.Pass ⟨0,0,0,0⟩)
 | _=>.Pass ⟨0,0,0,0⟩
def zD (s:Stmt):Arguments:=match s with
 | .FunctionDef _ a _ _ _ _ _ _ _ _=>a
 | _=>{ posonlyargs:=[],args:=[],vararg:=none,kwonlyargs:=[],kw_defaults:=[],kwarg:=none,defaults:=[] }
def zw (s:Stmt):List Stmt:=match s with
 | .FunctionDef _ _ b _ _ _ _ _ _ _=>b
 | _=>[]
def ze (s:Stmt):Scope:=match s with
 | .FunctionDef _ _ _ _ _ _ sc _ _ _=>sc
 | _=>{ kind:=.function,names:=[],isGenerator:=false,isCoroutine:=false }
abbrev E0:XK:=fun _ _ _=>False
structure Fun (K:PySem.W.Frag) (x qual:Str) (st:Stmt) (f:Addr) (fd:FuncData):Prop where
 ex:∃(oc:Value) (od:Option Addr) (kV doc pm:Value) (an:Option Addr) (cdv ct:Value) (osl:Array (Option Value)),
  fd=PySem.W.fnOf x qual (zD st) (zw st) (ze st) .none kV doc pm an cdv ct/\K.lookup f=some ⟨oc,od,.func fd,osl⟩/\PySem.W.codeIn K cdv qual=true
 kp:PySem.W.keepIn K s!"I"=true
section
variable {P:Program} {w:World} {K:PySem.W.Frag} {mg:Str->Option Value} {base:Heap}
theorem Fun.binds {x qual:Str} {st:Stmt} {f:Addr} {fd:FuncData} {ps:List Str} (F:Fun K x qual st f fd)
 (h:∀(kV doc pm:Value) (an:Option Addr) (cdv ct:Value) (us:List Value),us.length=ps.length->bindArgs (PySem.W.fnOf x qual (zD st) (zw st) (ze st) .none kV doc pm an cdv ct) ⟨us,[]⟩=pure (ps.zip us)):xm K fd ps []:=by
 obtain ⟨oc,od,kV,doc,pm,an,cdv,ct,osl,rfl,lk,hcd⟩:=F.ex;exact .all (h kV doc pm an cdv ct)
theorem zbd {x qual:Str} {st:Stmt} {f:Addr} {oc:Value} {od an:Option Addr} {osl:Array (Option Value)} {kV doc pm cdv ct:Value} (l:K.lookup f=some ⟨oc,od,.func (PySem.W.fnOf x qual (zD st) (zw st) (ze st) .none kV doc pm an cdv ct),osl⟩)
 (c:PySem.W.codeIn K cdv qual=true) (k:PySem.W.keepIn K s!"I"=true):Fun K x qual st f (PySem.W.fnOf x qual (zD st) (zw st) (ze st) .none kV doc pm an cdv ct):=⟨⟨oc,od,kV,doc,pm,an,cdv,ct,osl,rfl,l,c⟩,k⟩
end
theorem zz {n:Nat} (h:n<=1000):n<sizeLine:=Nat.lt_of_le_of_lt h s!"c"
section
variable {X:Cx}
theorem pv (i:Nat) {x:Str} {pos:Pos} (hN:X.N[i]? =some x:=by rfl) (hv:Vis X.env.scope x:=by first | exact Or.inl rfl | exact Or.inr (Or.inl rfl) | exact Or.inr (Or.inr rfl)) (hd:(x==("__debug__":Str))=false:=by decide)
 (hcd:(x==("__classdict__":Str))=false:=by decide):PE X (.Name x pos) (zff i):=zon hN hv hd hcd
end
def Same (H H':Hp):Prop:=∀b o,H b=some o->H' b=some o
theorem Same.refl (H:Hp):Same H H:=fun _ _ h=>h
theorem Same.trans {H H1 H2:Hp} (a:Same H H1) (b:Same H1 H2):Same H H2:=fun c o h=>b c o (a c o h)
theorem Same.seq {K:PySem.W.Frag} {H H':Hp} {a:Addr} {xs:List V} (e:Same H H') (h:SqL K H a xs):SqL K H' a xs:=by
 rcases h with (h | ⟨o,h⟩) | h
 ·exact .inl (.inl (e _ _ h))
 ·exact .inl (.inr ⟨o,e _ _ h⟩)
 ·exact .inr h
set_option exponentiation.threshold 4000
def Bd (n:Nat) (i:Int):Prop:=i.natAbs<2^n
theorem Bd.log2 {n:Nat} {i:Int} (h:Bd n i) (hn:0<n):i.natAbs.log2<n:=by
 by_cases h0:i.natAbs=0
 ·rw [h0];exact hn
 ·exact (Nat.log2_lt h0).mpr h
theorem Bd.bits {n:Nat} {i:Int} (h:Bd n i):Builtin.Int.intBits i<=n:=by
 unfold Builtin.Int.intBits;split
 ·exact Nat.zero_le _
 ·rename_i h0;have h1:i.natAbs≠0:=by
   intro z;apply h0;simpa using z
  have:=(Nat.log2_lt h1).mpr h;omega
theorem Bd.mulOk {m n:Nat} {i j:Int} (h1:Bd m i) (h2:Bd n j) (hm:m<=2^20) (hn:n<=2^20):IntMulOk i j:=IntMulOk.of_bits (Nat.le_trans h1.bits hm) (Nat.le_trans h2.bits hn)
theorem Bd.mul {m n:Nat} {i j:Int} (h1:Bd m i) (h2:Bd n j):Bd (m+n) (i*j):=by
 unfold Bd at*;rw [Int.natAbs_mul,Nat.pow_add];exact Nat.mul_lt_mul'' h1 h2
def znI (_ j:Int):Prop:=j≠0/\j.natAbs.log2<9000
section
variable {X:Cx}
theorem zlF:OpR X (binaryOp .Mult) (rI IntMulOk fun i j=>.int (i*j)):=opI fun _ _ _ _ _ _ _ hc q=>mul_int q hc
theorem zjh:OpR X (binaryOp .FloorDiv) (rI znI fun i j=>.int (i.fdiv j)):=opI fun _ _ _ _ _ _ _ hc q=>floordiv_int hc.1 q (.inl (PyProof.noPylong_of_log2 hc.2))
def zfl:R2:=fun x y H Q=>rI0 (fun i j=>.int (i+j)) x y H Q\/zqg x y H Q
theorem op_addA:OpR X s!"aE" zfl:=zou.or zoB
def znJ:R2:=fun x y H Q=>rI IntMulOk (fun i j=>.int (i*j)) x y H Q\/zqh x y H Q
theorem op_mulA:OpR X (binaryOp .Mult) znJ:=zlF.or zoC
def znK:R2:=rI (fun _ j=>j≠0) fun i j=>.int (i.fmod j)
theorem op_modA:OpR X (binaryOp .Mod) znK:=zlv
def znL:R2:=rI znI fun i j=>.int (i.fdiv j)
theorem op_divA:OpR X (binaryOp .FloorDiv) znL:=zjh
def znM:R2:=rI0 fun i j=>.int (i-j)
theorem op_subI:OpR X (binaryOp .Sub) znM:=zov
def zqi:R2:=rI zpY fun i j=>.int (i^j.toNat)
theorem zlG:OpR X (binaryOp .Pow) zqi:=zow
def zqj:R2:=rI0 fun i j=>.bl (decide (i<j))
def zqk:R2:=rI0 fun i j=>.bl (decide (i<=j))
def zql:R2:=rI0 fun i j=>.bl (decide (j<i))
def zqm:R2:=rI0 fun i j=>.bl (decide (j<=i))
theorem zgc:OpR X s!"O{.Lt}" zqj:=zp0
theorem zji:OpR X s!"O{.LtE}" zqk:=zp1
theorem op_gtI:OpR X s!"O{.Gt}" zql:=zp2
theorem op_geI:OpR X s!"O{.GtE}" zqm:=zp3
theorem pe_powc {a:Int} {n:Nat} {j1 j2:Nat} {p1 p2 pos:Pos} (hn:n<=1000000) (ha:a.natAbs<2^64):PE X (.BinOp (.Constant (.int a) j1 p1) .Pow (.Constant (.int (n:Int)) j2 p2) pos) (tC (.int (a^n))):=by
 intro pins s σ H Q I h;exact pe_op zlG pe_int pe_int pins s σ H Q I ⟨a,n,rfl,rfl,⟨Int.natCast_nonneg n,Int.ofNat_le.mpr hn,ha⟩,h⟩
def zgd (K:PySem.W.Frag):R2:=fun x y H Q=>zqa K x y H Q\/zqb K x y H Q
theorem ix_A:IxR X (zgd X.K):=zlC.or zoA
def zoE (K:PySem.W.Frag):V->Option Int->Option Int->Hp->VK->Prop:=fun x lo hi H Q=>zqd K x lo hi H Q\/zp9 K x lo hi H Q
theorem zjj:SlR X (zoE X.K):=zlD.or zoz
def zqn (K:PySem.W.Frag):List V->Hp->VK->Prop:=fun xs H Q=>∃x n t b,xs=[x,.ty n]/\TyOf K H x t/\PySem.W.kitOne K t (.type n)=some b/\Q (.bl b) H
theorem yj:yi X s!"L{"isinstance"}" (zqn X.K):=by
 intro pins s σ H xs us Q I r h;obtain ⟨x,n,t,b,e,ty,k,q⟩:=h;subst e;obtain ⟨u,w',rfl,rx,rn⟩:=zg3 r;obtain rfl:w'=Value.type n:=rn;exact zhS I rx ty k fun tk=>⟨.bl b,H,I.tok tk,rfl,q⟩
def zjk (K:PySem.W.Frag):List V->Hp->VK->Prop:=fun xs H Q=>∃p ys,xs=[.ref p]/\(SqL K H p ys\/SqT K H p ys)/\Q (.int ys.length) H
theorem call_lenA:yi X s!"aG" (zjk X.K):=zel
def zqo:List V->Hp->VK->Prop:=fun xs H Q=>∃i,xs=[.int i]/\Q (.int (if i<0 then -i else i)) H
theorem wI:yi X s!"L{"abs"}" zqo:=zi3
end
structure Src (K:PySem.W.Frag) (mg:Str->Option Value) (x:Str) (st:Stmt) (ps:List Str):Prop where
 ex:∃f fd,Fun K x x st f fd/\mg x=some s!"I"/\xm K fd ps []
structure Def (P:Program) (w:World) (K:PySem.W.Frag) (mg:Str->Option Value) (base:Heap) (CX:CXT) (k:Nat) (x:Str) (ps:List Str) (sp:Sp):Prop where
 ex:∃f fd,FnOk P w K mg base CX k f fd ps sp/\mg x=some s!"I"/\PySem.W.keepIn K s!"I"=true/\xm K fd ps []/\∃oc od osl,K.lookup f=some ⟨oc,od,.func fd,osl⟩
section
variable {P:Program} {w:World} {K:PySem.W.Frag} {mg:Str->Option Value} {base:Heap} {CX:CXT}
theorem Src.ok {x:Str} {st:Stmt} {N ps:List Str} {k:Nat} {sp:Sp} (F:Src K mg x st ps) (S:FnScope N ps (ze st)) (len:∀vs H Q E,sp vs H Q E->vs.length=ps.length)
 (hbody:∀(f:Addr) (cdv:Value) (A:Around) (outer:List Env) (s:Shared) (H:Hp) (vs:List V) (Q:VK) (E:XK),Room k (A.deeper (envOfC x (ze st) s.heap.objs.size f cdv))->sp vs H Q E->
  ∃t,PSs (xU CX P w K mg base N x (ze st) f cdv A outer s H E).nox (zw st) t/\t { nx:=fun _ H'=>Q .non H',rt:=Q } (yg N vs) H):Def P w K mg base CX (k+1) x ps sp:=by
 obtain ⟨f,fd,Fn,m,b⟩:=F.ex;have kp:=Fn.kp;obtain ⟨oc,od,kV,doc,pm,an,cdv,ct,osl,rfl,lk,hcd⟩:=Fn.ex;refine ⟨f,_,zfk lk hcd S len fun A outer s H vs Q E hr hsp=>?_,m,kp,b,oc,od,osl,lk⟩
 obtain ⟨t,h,q⟩:=hbody f cdv A outer s H vs Q E hr hsp;exact ⟨t,h.nox,q⟩
theorem Src.okX {x:Str} {st:Stmt} {N ps:List Str} {k:Nat} {sp:Sp} (F:Src K mg x st ps) (S:FnScope N ps (ze st)) (len:∀vs H Q E,sp vs H Q E->vs.length=ps.length)
 (hbody:∀(f:Addr) (cdv:Value) (A:Around) (outer:List Env) (s:Shared) (H:Hp) (vs:List V) (Q:VK) (E:XK),Room k (A.deeper (envOfC x (ze st) s.heap.objs.size f cdv))->sp vs H Q E->
  ∃t,PSs (xU CX P w K mg base N x (ze st) f cdv A outer s H E) (zw st) t/\t { nx:=fun _ H'=>Q .non H',rt:=Q } (yg N vs) H):Def P w K mg base CX (k+1) x ps sp:=by
 obtain ⟨f,fd,Fn,m,b⟩:=F.ex;have kp:=Fn.kp;obtain ⟨oc,od,kV,doc,pm,an,cdv,ct,osl,rfl,lk,hcd⟩:=Fn.ex;exact ⟨f,_,zfk lk hcd S len fun A outer s H vs Q E hr hsp=>hbody f cdv A outer s H vs Q E hr hsp,m,kp,b,oc,od,osl,lk⟩
theorem zoF {x:Str} {st:Stmt} {f:Addr} {oc:Value} {od an:Option Addr} {osl:Array (Option Value)} {kV doc pm cdv ct:Value} {ps:List Str} {h:Heap} (X:K.In h) (G:h.Ns mainGlobals mg)
 (a:PySem.W.nsIn K mainGlobals x=some s!"_") (l:K.lookup f=some ⟨oc,od,.func (PySem.W.fnOf x x (zD st) (zw st) (ze st) .none kV doc pm an cdv ct),osl⟩)
 (c:PySem.W.codeIn K cdv x=true) (k:PySem.W.keepIn K s!"I"=true)
 (hb:∀(kV doc pm:Value) (an:Option Addr) (cdv ct:Value) (us:List Value),us.length=ps.length->bindArgs (PySem.W.fnOf x x (zD st) (zw st) (ze st) .none kV doc pm an cdv ct) ⟨us,[]⟩=pure (ps.zip us)):Src K mg x st ps:=
 ⟨f,_,zbd l c k,PySem.W.mg_of X G a,(zbd (st:=st) l c k).binds hb⟩
end
theorem Def.fn {P:Program} {w:World} {K:PySem.W.Frag} {mg:Str->Option Value} {base:Heap} {CX:CXT} {k:Nat} {x:Str} {f:Addr} {fd:FuncData} {ps:List Str} {sp:Sp} {oc:Value} {od:Option Addr} {osl:Array (Option Value)}
 (D:Def P w K mg base CX k x ps sp) (hm:mg x=some s!"I") (hl:K.lookup f=some ⟨oc,od,.func fd,osl⟩):FnOk P w K mg base CX k f fd ps sp:=by
 obtain ⟨f1,fd1,F,m,_,_,oc1,od1,sl1,l1⟩:=D.ex;rw [hm] at m;cases m;rw [hl] at l1;cases l1;exact F
section
variable {X:Cx} {CX:CXT} {k:Nat} {ps:List Str} {sp:Sp} {E:XK} {x:Str} {p pos:Pos} {e:Expr} {es:List Expr} {t:TA}
end
def znN (t u:TS):TS:=fun D σ H=>∃J:St->Hp->Prop,t { D with nx:=J } σ H/\∀σ' H',J σ' H'->u D σ' H'
theorem xn {X:Cx} {st:Stmt} {rest:List Stmt} {t u:TS} (h1:PS X st t) (h2:PSs X rest u):PSs X (st::rest) (znN t u):=by
 intro pins s σ H D I h;obtain ⟨J,h,hJ⟩:=h;refine wpAny_execs_cons (thn (h1 pins s σ H { D with nx:=J } I h) fun f s1 q=>?_)
 cases f with
 | next=>
  obtain ⟨σ',H',I',q⟩:=q;exact h2 pins s1 σ' H' D I' (hJ σ' H' q)
 | ret v=>exact q
 | brk=>exact q
 | cont=>exact q
theorem zA {t u:TS} {D:Ends} {σ:St} {H:Hp} (J:St->Hp->Prop) (h:t { D with nx:=J } σ H) (hJ:∀σ' H',J σ' H'->u D σ' H'):znN t u D σ H:=⟨J,h,hJ⟩
def kB (x:V) (H:Hp) (Q:Bool->Hp->Prop):Prop:=∃k,x=.bl k/\Q k H
def zjl (vs:List V) (H:Hp) (R:It->Hp->Prop):Prop:=∃j:Int,vs=[.int j]/\-(2^62)<=j/\j<2^62/\R (Itr 0 j.toNat) H
def znO (vs:List V) (H:Hp) (R:It->Hp->Prop):Prop:=∃i j:Int,vs=[.int i,.int j]/\(-(2^62)<=i/\i<2^62/\-(2^62)<=j/\j<2^62)/\R (Itr i (j-i).toNat) H
def zoG (K:PySem.W.Frag) (x:V) (H:Hp) (R:It->Hp->Prop):Prop:=∃a,x=.ref a/\(∃xs,SqL K H a xs)/\R (Itl K a) H
def zqp (xs:List V) (H:Hp) (Q:VK):Prop:=xs.length<=sizeLine/\∀p,H p=none->Q (.ref p) (upd H p s!"P")
def zqq (xs:List V) (H:Hp) (Q:VK):Prop:=xs.length<=sizeLine/\∀p,H p=none->Q (.ref p) (upd H p (.tup xs))
def znP (x:V) (H:Hp) (Q:Option Int->Hp->Prop):Prop:=∃i,x=.int i/\Q (some i) H
theorem Same.obj {H H':Hp} {a:Addr} {o:HO} (s:Same H H') (h:H a=some o):H' a=some o:=s a o h
theorem Same.new {H:Hp} {p:Addr} (h:H p=none) (o:HO):Same H (upd H p o):=fun b u q=>by rw [zg (yd q h)];exact q
theorem Same.upd {H0 H:Hp} {l:Addr} {o:HO} (s:Same H0 H) (h:H0 l=none):Same H0 (upd H l o):=fun b u q=>by
 rw [zg (yd q h)];exact s b u q
theorem Same.tup {K:PySem.W.Frag} {H H':Hp} {a:Addr} {xs:List V} (e:Same H H') (h:SqT K H a xs):SqT K H' a xs:=by
 rcases h with (h | ⟨o,h⟩) | h
 ·exact .inl (.inl (e _ _ h))
 ·exact .inl (.inr ⟨o,e _ _ h⟩)
 ·exact .inr h
section
variable {σ:St} {H:Hp} {Q:VK} {D:Ends} {K:PySem.W.Frag}
theorem zh {t:TS} {N:List Str} {vs:List V} (σ:St) (e:yg N vs=σ) (h:t D σ H):t D (yg N vs) H:=by rw [e];exact h
theorem tC.Qa {v:V} (h:Q v H):tC v σ H Q:=h
theorem tOp.Qa {r:R2} {ta tb:TE} (h:ta σ H fun x H1=>tb σ H1 fun y H2=>r x y H2 Q):tOp r ta tb σ H Q:=h
theorem tUn.Qa {r:V->Hp->VK->Prop} {ta:TE} (h:ta σ H fun x H1=>r x H1 Q):tUn r ta σ H Q:=h
theorem rU.Qa {g:Int->V} {i:Int} (h:Q (g i) H):rU g s!"M" H Q:=⟨i,rfl,h⟩
theorem zfl.Qa {i j:Int} (h:Q (.int (i+j)) H):zfl s!"M" (.int j) H Q:=.inl ⟨i,j,rfl,rfl,h⟩
theorem zfl.Qb {a b:Addr} {xs ys:List V} (h1:H a=some s!"P") (h2:H b=some s!"6") (hz:xs.length+ys.length<=sizeLine) (h:∀p H',Same H H'->H p=none->H' p=some (.lst (xs++ys))->Q (.ref p) H'):zfl s!"g" (.ref b) H Q:=
 .inr ⟨a,b,xs,ys,rfl,rfl,h1,h2,hz,fun p hp=>h p _ s!"aH" hp zi⟩
theorem znM.Qa {i j:Int} (h:Q (.int (i-j)) H):znM s!"M" (.int j) H Q:=⟨i,j,rfl,rfl,h⟩
theorem znJ.Qw {i j:Int} (c:IntMulOk i j) (h:Q (.int (i*j)) H):znJ s!"M" (.int j) H Q:=.inl ⟨i,j,rfl,rfl,c,h⟩
theorem znK.Qx {i j:Int} (c:0<j) (h:Q (.int (i%j)) H):znK s!"M" (.int j) H Q:=⟨i,j,rfl,rfl,by omega,by show Q (.int (i.fmod j)) H;rw [Int.fmod_eq_emod_of_nonneg _ (Int.le_of_lt c)];exact h⟩
theorem znL.Qy {i j:Int} (c:0<j) (c2:Bd 2000 j) (h:Q (.int (i / j)) H):znL s!"M" (.int j) H Q:=⟨i,j,rfl,rfl,⟨by omega,Nat.lt_trans (c2.log2 s!"c") s!"c"⟩,by show Q (.int (i.fdiv j)) H;rw [Int.fdiv_eq_ediv_of_nonneg _ (Int.le_of_lt c)];exact h⟩
theorem zqj.Qa {i j:Int} (h:Q (.bl (decide (i<j))) H):zqj s!"M" (.int j) H Q:=⟨i,j,rfl,rfl,h⟩
theorem zqk.Qa {i j:Int} (h:Q (.bl (decide (i<=j))) H):zqk s!"M" (.int j) H Q:=⟨i,j,rfl,rfl,h⟩
theorem zql.Qa {i j:Int} (h:Q (.bl (decide (j<i))) H):zql s!"M" (.int j) H Q:=⟨i,j,rfl,rfl,h⟩
theorem zqm.Qa {i j:Int} (h:Q (.bl (decide (j<=i))) H):zqm s!"M" (.int j) H Q:=⟨i,j,rfl,rfl,h⟩
theorem znQ {i j:Int}:decide (V.int i=V.int j)=decide (i=j):=by
 by_cases e:i=j
 ·subst e;simp
 ·rw [decide_eq_false e,decide_eq_false (fun z=>e (V.int.inj z))]
theorem znR {i j:Str}:decide (V.str i=V.str j)=decide (i=j):=by
 by_cases e:i=j
 ·subst e;simp
 ·rw [decide_eq_false e,decide_eq_false (fun z=>e (V.str.inj z))]
theorem rEq.Qa {i j:Int} (h:Q (.bl (decide (i=j))) H):rEq s!"M" (.int j) H Q:=⟨rfl,by rw [znQ];exact h⟩
theorem rNe.Qa {i j:Int} (h:Q (.bl (!decide (i=j))) H):rNe s!"M" (.int j) H Q:=⟨rfl,by rw [znQ];exact h⟩
theorem rEq.Qe {i j:Str} (h:Q (.bl (decide (i=j))) H):rEq (.str i) (.str j) H Q:=⟨rfl,by rw [znR];exact h⟩
theorem rNe.Qe {i j:Str} (h:Q (.bl (!decide (i=j))) H):rNe (.str i) (.str j) H Q:=⟨rfl,by rw [znR];exact h⟩
theorem znF.Qa {t:TE} {R:Bool->Hp->Prop} (h:t σ H fun x H1=>kB x H1 R):znF t σ H R:=h
theorem tB.Qa {t:TE} {R:Bool->Hp->Prop} (h:t σ H fun x H1=>kB x H1 R):tB t σ H R:=h
theorem kB.Qa {b:Bool} {R:Bool->Hp->Prop} (h:R b H):kB (.bl b) H R:=⟨b,rfl,h⟩
theorem zpQ.Qa {t u:TT} {R:Bool->Hp->Prop} (h:t σ H fun c H1=>if c=true then u σ H1 R else R false H1):zpQ t u σ H R:=h
theorem tOr.Qa {t u:TT} {R:Bool->Hp->Prop} (h:t σ H fun c H1=>if c=true then R true H1 else u σ H1 R):tOr t u σ H R:=h
theorem zpR.Qa {t:TT} {R:Bool->Hp->Prop} (h:t σ H fun c H1=>R (!c) H1):zpR t σ H R:=h
theorem zny.Qa {ta tb:TE} (h:ta σ H fun x H1=>kB x H1 fun c H2=>if c=true then tb σ H2 Q else Q (.bl false) H2):zny ta tb σ H Q:=h
theorem zpS.Qa {ta tb:TE} (h:ta σ H fun x H1=>kB x H1 fun c H2=>if c=true then Q s!"#" H2 else tb σ H2 Q):zpS ta tb σ H Q:=h
theorem znz.Qa {ta:TE} (h:ta σ H fun x H1=>kB x H1 fun c H2=>Q (.bl (!c)) H2):znz ta σ H Q:=h
theorem tIf.Qa {c:TT} {ta tb:TE} (h:c σ H fun b H1=>if b=true then ta σ H1 Q else tb σ H1 Q):tIf c ta tb σ H Q:=h
theorem zi1.Qa {r r':R2} {ta tb tc:TE} (h:ta σ H fun x H1=>tb σ H1 fun y H2=>r x y H2 fun z H3=>kB z H3 fun k H4=>if k=true then tc σ H4 (fun w' H5=>r' y w' H5 Q) else Q (.bl false) H4):zi1 r r' ta tb tc σ H Q:=h
theorem Ends.nx.Q9 {f:St->Hp->Prop} {rt:VK} {bk ct:St->Hp->Prop} (h:f σ H):Ends.nx { nx:=f,rt:=rt,bk:=bk,ct:=ct } σ H:=h
theorem zoQ {p:Prop} [Decidable p] {A B:Prop} (h1:p->A) (h2:¬p->B):if decide p=true then A else B:=by
 by_cases h:p
 ·rw [decide_eq_true h];exact h1 h
 ·rw [decide_eq_false h];exact h2 h
theorem zlM {p:Prop} [Decidable p] {A B:Prop} (h1:¬p->A) (h2:p->B):if (!decide p)=true then A else B:=by
 by_cases h:p
 ·rw [decide_eq_true h];exact h2 h
 ·rw [decide_eq_false h];exact h1 h
theorem zjq {p:Prop} [Decidable p] {A B:Prop} (h1:p->A) (h2:¬p->B):if (!(!decide p))=true then A else B:=by
 by_cases h:p
 ·rw [decide_eq_true h];exact h1 h
 ·rw [decide_eq_false h];exact h2 h
theorem _root_.ite.Qa {A B:Prop} (h:A):if true=true then A else B:=h
theorem _root_.ite.Qe {A B:Prop} (h:B):if false=true then A else B:=h
theorem _root_.ite.Qf {A B:Prop} (h:B):if (!true)=true then A else B:=h
theorem _root_.ite.Qg {A B:Prop} (h:A):if (!false)=true then A else B:=h
theorem zlP {b:Bool} {A B:Prop} (h1:b=true->A) (h2:b=false->B):if b=true then A else B:=by
 cases b with
 | true=>exact h1 rfl
 | false=>exact h2 rfl
theorem zly.Qa {R:List V->Hp->Prop} (h:R [] H):zly σ H R:=h
theorem znG.Qa {ta:TE} {tr:TA} {R:List V->Hp->Prop} (h:ta σ H fun x H1=>tr σ H1 fun xs H2=>R (x::xs) H2):znG ta tr σ H R:=h
theorem zp7.Qa {t:TA} (h:t σ H fun xs H1=>zqp xs H1 Q):zp7 t σ H Q:=h
theorem zp6.Qa {t:TA} (h:t σ H fun xs H1=>zqq xs H1 Q):zp6 t σ H Q:=h
theorem zqp.Q2 {xs:List V} (hz:xs.length<=sizeLine) (h:∀p H',Same H H'->H p=none->H' p=some s!"P"->Q (.ref p) H'):zqp xs H Q:=⟨hz,fun p hp=>h p _ s!"aH" hp zi⟩
theorem zqq.Q2 {xs:List V} (hz:xs.length<=sizeLine) (h:∀p H',Same H H'->H p=none->H' p=some (.tup xs)->Q (.ref p) H'):zqq xs H Q:=⟨hz,fun p hp=>h p _ s!"aH" hp zi⟩
theorem tCB.Qa {r:List V->Hp->VK->Prop} {t:TA} (h:t σ H fun vs H1=>r vs H1 Q):tCB r t σ H Q:=h
theorem zqn.Q8 {x:V} {n:String} {t:Value} {b:Bool} (ty:TyOf K H x t) (k:PySem.W.kitOne K t (.type n)=some b) (h:Q (.bl b) H):zqn K [x,.ty n] H Q:=⟨x,n,t,b,rfl,ty,k,h⟩
theorem zjk.Qc {a:Addr} {xs:List V} (h1:SqL K H a xs) (h:Q (.int xs.length) H):zjk K [.ref a] H Q:=⟨a,xs,rfl,.inl h1,h⟩
theorem zjk.Qd {a:Addr} {xs:List V} (h1:SqT K H a xs) (h:Q (.int xs.length) H):zjk K [.ref a] H Q:=⟨a,xs,rfl,.inr h1,h⟩
theorem zqo.Qz {i:Int} (h:∀j:Int,j=(i.natAbs:Int)->Q (.int j) H):zqo [.int i] H Q:=⟨i,rfl,h _ (by split <;> omega)⟩
theorem zgd.Qn {a:Addr} {xs:List V} {i:Int} {v:V} (h1:SqL K H a xs) (e:atI xs i=some v) (h:Q v H):zgd K s!"g" s!"M" H Q:=.inl ⟨a,xs,i,v,rfl,rfl,h1,e,h⟩
theorem zgd.Qo {a:Addr} {xs:List V} {i:Int} {v:V} (h1:SqT K H a xs) (e:atI xs i=some v) (h:Q v H):zgd K s!"g" s!"M" H Q:=.inr ⟨a,xs,i,v,rfl,rfl,h1,e,h⟩
theorem tSl.Qa {r:V->Option Int->Option Int->Hp->VK->Prop} {te:TE} {tl th:TO} (h:te σ H fun x H1=>tl σ H1 fun l H2=>th σ H2 fun u H3=>r x l u H3 Q):tSl r te tl th σ H Q:=h
theorem zg6.Qa {R:Option Int->Hp->Prop} (h:R none H):zg6 σ H R:=h
theorem znH.Qa {t:TE} {R:Option Int->Hp->Prop} (h:t σ H fun x H1=>znP x H1 R):znH t σ H R:=h
theorem znP.Qa {i:Int} {R:Option Int->Hp->Prop} (h:R (some i) H):znP s!"M" H R:=⟨i,rfl,h⟩
theorem zoE.Q3 {a:Addr} {xs:List V} {lo hi:Option Int} (h1:SqL K H a xs) (h:∀p H',Same H H'->H p=none->H' p=some (.lst (zaC xs lo hi))->Q (.ref p) H'):zoE K s!"g" lo hi H Q:=.inl ⟨a,xs,rfl,h1,fun p hp=>h p _ s!"aH" hp zi⟩
theorem znA.Qa (h:D.nx σ H):znA D σ H:=h
theorem zpU.Qa {te:TE} (h:te σ H D.rt):zpU te D σ H:=h
theorem znB.Qa {te:TE} (h:te σ H fun _ H1=>D.nx σ H1):znB te D σ H:=h
theorem zpT.Qa {t u:TS} (h:t { D with nx:=u D } σ H):zpT t u D σ H:=h
theorem zpV.Qa {c:TT} {t u:TS} (h:c σ H fun b H1=>if b=true then t D σ H1 else u D σ H1):zpV c t u D σ H:=h
theorem zlt.Qa {te:TE} {g:TG} (h:te σ H fun x H1=>g x σ H1 D.nx):zlt te g D σ H:=h
theorem zls.Qn {a:Addr} {xs:List V} {n:Nat} {t:TGs} {R:St->Hp->Prop} (h1:SqT K H a xs) (hn:xs.length=n) (h:t xs σ H R):zls K n t s!"g" σ H R:=⟨a,xs,rfl,h1,hn,h⟩
theorem zoq.Qa {R:St->Hp->Prop} (h:R σ H):zoq [] σ H R:=⟨rfl,h⟩
theorem zgV.Qa {t:TG} {u:TGs} {v:V} {r:List V} {R:St->Hp->Prop} (h:t v σ H fun σ' H'=>u r σ' H' R):zgV t u (v::r) σ H R:=⟨v,r,rfl,h⟩
theorem zjv {c:TT} {tb:TS} (W:Nat->St->Hp->Prop) (m:Nat) (h0:W m σ H) (hs:∀m σ H,W m σ H->c σ H fun b H1=>if b=true then ∃N:St->Hp->Prop,(∀σ' H',N σ' H'->∃m',m'<m/\W m' σ' H')/\tb { D with nx:=N,ct:=N,bk:=D.nx } σ H1 else D.nx σ H1):ziX c tb D σ H:=⟨W,⟨m,h0⟩,hs⟩
theorem _root_.Exists.Qa {tb:TS} {m:Nat} {W:Nat->St->Hp->Prop} (h:tb { D with nx:=fun σ' H'=>∃m',m'<m/\W m' σ' H',ct:=fun σ' H'=>∃m',m'<m/\W m' σ' H',bk:=D.nx } σ H):∃N:St->Hp->Prop,(∀σ' H',N σ' H'->∃m',m'<m/\W m' σ' H')/\tb { D with nx:=N,ct:=N,bk:=D.nx } σ H:=⟨_,fun _ _ h=>h,h⟩
theorem ziZ.Qe {ta:TA} {g:TG} {tb:TS} (h:ta σ H fun vs H1=>zjl vs H1 fun J H2=>∃W:Nat->Nat->St->Hp->Prop,(∃m,W 0 m σ H2)/\∀i m σ H,W i m σ H->
 (J.stop i H/\D.nx σ H)\/(J.go i H/\∃N:St->Hp->Prop,(∀σ' H',N σ' H'->∃m',m'<m/\W (i+1) m' σ' H')/\∀x H',J.yld i H x H'->g x σ H' fun σ2 H2=>tb { D with nx:=N,ct:=N,bk:=D.nx } σ2 H2)):ziZ (ziY ta) g tb D σ H:=h
theorem zjl.Q6 {j:Int} {R:It->Hp->Prop} (h1:-(2^62)<=j) (h2:j<2^62) (h:R (Itr 0 j.toNat) H):zjl [.int j] H R:=⟨j,rfl,h1,h2,h⟩
theorem znO.Q7 {i j:Int} {R:It->Hp->Prop} (h1:-(2^62)<=i) (h2:i<2^62) (h3:-(2^62)<=j) (h4:j<2^62) (h:R (Itr i (j-i).toNat) H):znO [.int i,.int j] H R:=⟨i,j,rfl,⟨h1,h2,h3,h4⟩,h⟩
theorem ziZ.Qg {tl:TE} {g:TG} {tb:TS} (h:tl σ H fun x H1=>zoG K x H1 fun J H2=>∃W:Nat->Nat->St->Hp->Prop,(∃m,W 0 m σ H2)/\∀i m σ H,W i m σ H->
 (J.stop i H/\D.nx σ H)\/(J.go i H/\∃N:St->Hp->Prop,(∀σ' H',N σ' H'->∃m',m'<m/\W (i+1) m' σ' H')/\∀x H',J.yld i H x H'->g x σ H' fun σ2 H2=>tb { D with nx:=N,ct:=N,bk:=D.nx } σ2 H2)):ziZ (zgX K tl) g tb D σ H:=h
theorem zoG.Qc {a:Addr} {xs:List V} {R:It->Hp->Prop} (h1:SqL K H a xs) (h:R (Itl K a) H):zoG K s!"g" H R:=⟨a,rfl,⟨xs,h1⟩,h⟩
theorem tBM.Qa {T:String} {r:V->List V->Hp->VK->Prop} {to:TE} {t:TA} (h:to σ H fun x H1=>tyV K T x H1/\t σ H1 fun xs H2=>r x xs H2 Q):tBM K T r to t σ H Q:=h
theorem zqe.Qa {T:String} {r:V->List V->Hp->VK->Prop} {to:TE} (h:to σ H fun x H1=>tyV K T x H1/\r x [] H1 Q):zqe K T r to σ H Q:=h
theorem _root_.And.Qc {a:Addr} {xs:List V} {B:Prop} (h1:SqL K H a xs) (h:B):tyV K "list" s!"g" H/\B:=⟨.inl ⟨rfl,xs,h1⟩,h⟩
theorem xo {a:Addr} {xs:List V} {y:V} (h1:H a=some s!"P") (hz:xs.length<sizeLine) (h:Q .non (upd H a (.lst (xs++[y])))):zg7 s!"g" [y] H Q:=⟨a,xs,y,rfl,rfl,h1,hz,h⟩
theorem zff.Qa {v:V} {r:St} (h:Q v H):zff 0 (some v::r) H Q:=⟨v,rfl,h⟩
theorem zff.Qe {v:V} {a0:Option V} {r:St} (h:Q v H):zff 1 (a0::some v::r) H Q:=⟨v,rfl,h⟩
theorem zff.Qf {v:V} {a0 a1:Option V} {r:St} (h:Q v H):zff 2 (a0::a1::some v::r) H Q:=⟨v,rfl,h⟩
theorem zff.Qg {v:V} {a0 a1 a2:Option V} {r:St} (h:Q v H):zff 3 (a0::a1::a2::some v::r) H Q:=⟨v,rfl,h⟩
theorem zff.Qh {v:V} {a0 a1 a2 a3:Option V} {r:St} (h:Q v H):zff 4 (a0::a1::a2::a3::some v::r) H Q:=⟨v,rfl,h⟩
theorem zff.Qi {v:V} {a0 a1 a2 a3 a4:Option V} {r:St} (h:Q v H):zff 5 (a0::a1::a2::a3::a4::some v::r) H Q:=⟨v,rfl,h⟩
theorem yR.Qa {v:V} {a0 a1:Option V} {r:St} {R:St->Hp->Prop} (h:R (a0::some v::r) H):yR 1 v (a0::a1::r) H R:=h
theorem yR.Qe {v:V} {a0 a1 a2:Option V} {r:St} {R:St->Hp->Prop} (h:R (a0::a1::some v::r) H):yR 2 v (a0::a1::a2::r) H R:=h
theorem yR.Qf {v:V} {a0 a1 a2 a3:Option V} {r:St} {R:St->Hp->Prop} (h:R (a0::a1::a2::some v::r) H):yR 3 v (a0::a1::a2::a3::r) H R:=h
theorem yR.Qg {v:V} {a0 a1 a2 a3 a4:Option V} {r:St} {R:St->Hp->Prop} (h:R (a0::a1::a2::a3::some v::r) H):yR 4 v (a0::a1::a2::a3::a4::r) H R:=h
theorem yR.Qh {v:V} {a0 a1 a2 a3 a4 a5:Option V} {r:St} {R:St->Hp->Prop} (h:R (a0::a1::a2::a3::a4::some v::r) H):yR 5 v (a0::a1::a2::a3::a4::a5::r) H R:=h
theorem yR.Qi {v:V} {a0 a1 a2 a3 a4 a5 a6:Option V} {r:St} {R:St->Hp->Prop} (h:R (a0::a1::a2::a3::a4::a5::some v::r) H):yR 6 v (a0::a1::a2::a3::a4::a5::a6::r) H R:=h
theorem zcm {a:Addr} {ns:List Int} {i:Int} (h1:SqL K H a (ns.map V.int)) (h0:0<=i) (hl:i<ns.length) (h:∀v:Int,v∈ns->ns[i.toNat]? =some v->Q (.int v) H):zgd K s!"g" s!"M" H Q:=by
 have hi:i.toNat<ns.length:=by omega
 refine zgd.Qn (v:=.int ns[i.toNat]) h1 ?_ (h _ (List.getElem_mem hi) (List.getElem?_eq_getElem hi));have e:=wH (xs:=ns.map V.int) (j:=i.toNat) (v:=.int ns[i.toNat]) (by rw [List.getElem?_map,List.getElem?_eq_getElem hi];rfl)
 have ei:((i.toNat:Nat):Int)=i:=by omega
 rw [ei] at e;exact e
end
def XD (oe:Obj) (vs:Array Value) (dx:Option Addr):Prop:=(oe.dict=dx/\vs[2]? =some .none)\/(dx=some mainGlobals/\oe.dict=none)
def XTr (h B:Heap) (e:Addr) (c a0:Value) (dx:Option Addr) (T:Addr) (fl:Value):Prop:=
 ∃(oe:Obj) (vs:Array Value) (oT:Obj) (ts:Array Value),(h.get? e=some oe/\oe.data=.fields vs/\oe.cls=c/\XD oe vs dx/\vs[0]? =some a0/\vs[1]? =some (.ref T)/\True)/\T≠e/\B.get? T=none/\h.get? T=some oT/\oT.data=.fields ts/\ts[3]? =some fl
def zR (B:Heap) (l:List Env) (e:Addr) (c a0:Value) (dx:Option Addr) (fl:Value) (h:Heap):Prop:=(B.StaysIn h/\B.get? e=none)/\h.FunFrames B l/\∃T,XTr h B e c a0 dx T fl
section
variable {M:Model} {A:Around} {E:Value->Shared->Prop} {s:Shared} {B h h1:Heap} {l outer:List Env} {env:Env} {e L T:Addr} {c a0 fl:Value} {dx:Option Addr} {oe ob:Obj} {vs ts:Array Value} {Q:Unit->Shared->Prop} {P:Prop}
theorem zR.stays (x:zR B l e c a0 dx fl h):∀b o,B.get? b=some o->h.get? b=some o:=x.1.1
theorem zR.obj (x:zR B l e c a0 dx fl h):∃oe vs,h.get? e=some oe/\oe.data=.fields vs/\oe.cls=c/\XD oe vs dx:=by
 obtain ⟨_,_,T,oe,vs,_,_,⟨y1,y2,y3,y4,_,_,y5⟩,_⟩:=x;exact ⟨oe,vs,y1,y2,y3,y4⟩
theorem zR.tail (x:zR B (env::l) e c a0 dx fl h):zR B l e c a0 dx fl h:=⟨x.1,x.2.1.2.2,x.2.2⟩
theorem zR.mark (x:zR B l e c a0 dx fl h) (v:Value) (k:∀(T:Addr) (oe:Obj) (vs:Array Value) (oT:Obj) (ts:Array Value),h.get? e=some oe->oe.data=.fields vs->vs[1]? =some (.ref T)->h.get? T=some oT->oT.data=.fields ts->ts[3]? =some fl->
 (zR B l e c a0 dx v (h.update T (Obj.mapFields (·.setIfInBounds 3 v)))/\h.UpToSlots (h.update T (Obj.mapFields (·.setIfInBounds 3 v))))->P):P:=by
 obtain ⟨⟨x1,x2⟩,x3,T,oe,vs,oT,ts,⟨y1,y2,y3,y4,y5,y6,y7⟩,t1,t2,t3,t4,t5⟩:=x;have oth:∀b o,b≠T->h.get? b=some o->(h.update T (Obj.mapFields (·.setIfInBounds 3 v))).get? b=some o:=fun b o n q=>s!"ae{fun z=>n z.symm}".trans q
 have nT:∀b o,h.get? b=some o->(∀ws,o.data≠.fields ws)->b≠T:=fun b o q n z=>by
  rw [z,t3] at q;cases q;exact n ts t4
 have z3:3<ts.size:=(Array.getElem?_eq_some_iff.mp t5).1;refine k T oe vs oT ts y1 y2 y6 t3 t4 t5 ⟨⟨⟨fun b o q=>oth b o (fun z=>by rw [z,t2] at q;cases q) (x1 b o q),x2⟩,x3.of_keeps fun b o q n=>⟨o,oth b o (nT b o q n) q,rfl⟩,T,oe,vs,oT.mapFields (·.setIfInBounds 3 v),ts.setIfInBounds 3 v,
  ⟨oth e oe (fun z=>t1 z.symm) y1,y2,y3,y4,y5,y6,y7⟩,t1,t2,Heap.get?_update_self _ t3 (Obj.isFreed_of_fields (Obj.data_mapFields t4 _)),Obj.data_mapFields t4 _,?_⟩,fun b o q n=>⟨o.slots,oth b o (nT b o q n) q⟩⟩
 rw [Array.getElem?_setIfInBounds_self_of_lt z3]
theorem xV (f:Array Value->Array Value) (o:Obj):(o.mapFields f).dict=o.dict:=by
 obtain ⟨c,d,dt,sl⟩:=o;cases dt <;> rfl
theorem zmg (hl:h.FunFrames B l) (he:h.get? e=some oe) (hd:oe.data=.fields vs) (hz:1<vs.size) (kb:B.StaysIn h) (en:B.get? e=none) (sl:Heap.SlotsOnly (l.filterMap (·.frame)) h h1) (od:ob.data=.fields ts) (t3:ts[3]? =some fl) (v0:vs[0]? =some a0) (v2:XD oe vs dx):
 zR B l e oe.cls a0 dx fl ((h1.push ob).update e (Obj.mapFields (·.setIfInBounds 1 (.ref h1.objs.size))))/\h.UpToSlots ((h1.push ob).update e (Obj.mapFields (·.setIfInBounds 1 (.ref h1.objs.size)))):=by
 have offF:e∉l.filterMap (·.frame):=fun z=>by
  obtain ⟨_,o,q,n⟩:=hl.mem z;rw [he] at q;cases q;exact n vs hd
 have e1:h1.get? e=some oe:=(sl.2.1 e offF).trans he;have e2:=Heap.get?_push_of_some (h:=h1) ob e1;have d3:=Obj.data_mapFields hd (·.setIfInBounds 1 (.ref h1.objs.size))
 have e3:=Heap.get?_update_self (Obj.mapFields (·.setIfInBounds 1 (.ref h1.objs.size))) e2 (Obj.isFreed_of_fields d3)
 have nTe:h1.objs.size≠e:=Nat.ne_of_gt s!"C{e1}";have of:ob.isFreed=false:=Obj.isFreed_of_fields od;have oth:∀b o,b≠e->h1.get? b=some o->((h1.push ob).update e (Obj.mapFields (·.setIfInBounds 1 (.ref h1.objs.size)))).get? b=some o:=fun b o n q=>s!"ae{fun z=>n z.symm}".trans s!"8{q}"
 have kb1:B.StaysIn h1:=fun b o q=>(sl.2.1 b fun z=>by rw [(hl.mem z).1] at q;cases q).trans (kb b o q)
 have ne:∀b o,h.get? b=some o->(∀ws,o.data≠.fields ws)->b≠e:=fun b o q n z=>by
  rw [z,he] at q;cases q;exact n vs hd
 have up:h.UpToSlots ((h1.push ob).update e (Obj.mapFields (·.setIfInBounds 1 (.ref h1.objs.size)))):=fun b o q n=>by
  obtain ⟨sl',q'⟩:=sl.2.2 b o q;exact ⟨sl',oth b _ (ne b o q n) q'⟩
 refine ⟨⟨⟨fun b o q=>oth b o (fun z=>by rw [z,en] at q;cases q) (kb1 b o q),en⟩,hl.of_keeps fun b o q n=>?_,h1.objs.size,_,_,ob,ts,⟨e3,d3,Obj.cls_mapFields _ _,?_,?_,?_,?_⟩,nTe,kb1.fresh,s!"ae{fun z=>nTe z.symm}".trans (Heap.get?_push_size h1 of),od,t3⟩,up⟩
 ·obtain ⟨sl',q'⟩:=up b o q n;exact ⟨_,q',rfl⟩
 ·rcases v2 with ⟨z1,z2⟩ | ⟨z1,z2⟩
  ·exact .inl ⟨(xV _ _).trans z1,by rw [Array.getElem?_setIfInBounds_ne s!"c"];exact z2⟩
  ·exact .inr ⟨z1,(xV _ _).trans z2⟩
 ·rw [Array.getElem?_setIfInBounds_ne s!"c"]
  exact v0
 ·rw [Array.getElem?_setIfInBounds_self_of_lt hz]
 ·trivial
theorem zaf {head:Value} {hn:Bool} (fr:A.frames=some (env::outer)) (hl:s.heap.FunFrames B (env::outer)) (hf:env.frame=some L) (he:s.heap.get? e=some oe) (hd:oe.data=.fields vs) (hz:1<vs.size) (kb:B.StaysIn s.heap) (en:B.get? e=none) (v0:vs[0]? =some a0) (v2:XD oe vs dx)
 (k:∀h',zR B (env::outer) e oe.cls a0 dx (rawInt L) h'->s.heap.UpToSlots h'->Q () { s with heap:=h' }):wpAny M A (do let f <-frameOf env;let p <-entryPlaceOf L hn;let t <-EntryCells.newEntry head f .none (rawInt L) .none p;setField s!"Q" 1 t) Q E s:=by
 refine wpAny_bind (wpAny_frameOf_fun fr hl hf fun h1 sl=>wpAny_bind (wpAny_entryPlaceOf fun pl hp=>?_))
 unfold EntryCells.newEntry newFields;refine wpAny_bind (wpAny_newObj_type ?_ (hp.sizeOk5 _ _ _ _ _));have offF:e∉(env::outer).filterMap (·.frame):=fun z=>by
  obtain ⟨_,o,q,n⟩:=hl.mem z;rw [he] at q;cases q;exact n vs hd
 have e1:h1.get? e=some oe:=(sl.2.1 e offF).trans he;refine wpAny_setField (Heap.get?_push_of_some _ e1) hd hz ?_;obtain ⟨x1,x2⟩:=zmg (fl:=rawInt L) (ob:={ cls:=.type "traceback",dict:=none,data:=.fields ([head,.ref L,.none,rawInt L,.none]++(if pl.isEmpty then List.replicate 6 Value.none else pl)).toArray }) hl he hd hz kb en sl rfl (by
  first | (simp;done) | (rcases hp with rfl | ⟨_,_,_,_,_,_,_,rfl⟩ <;> simp)) v0 v2
 exact k _ x1 x2
theorem zR.lands (x:zR B l e c a0 dx fl s.heap) (k:∀h',zR B l e c a0 dx .none h'->s.heap.UpToSlots h'->Q () { s with heap:=h' }):wpAny M A (setFlight s!"Q" none) Q E s:=by
 refine x.mark .none fun T oe vs oT ts y1 y2 y3 t1 t2 t3 ⟨x1,x2⟩=>?_
 unfold setFlight;refine wpAny_bind (wpAny_field y1 y2 y3 ?_);rw [if_pos (by simp)]
 exact wpAny_setField t1 t2 (Array.getElem?_eq_some_iff.mp t3).1 (k _ x1 x2)
theorem zR.looks (fr:A.frames=some (env::outer)) (hf:env.frame=some L) (x:zR B (env::outer) e c a0 dx .none s.heap) (k:∀h',zR B (env::outer) e c a0 dx (rawInt L) h'->s.heap.UpToSlots h'->Q () { s with heap:=h' }):wpAny M A (noteFrame s!"Q" env) Q E s:=by
 refine x.mark .none fun T oe vs oT ts y1 y2 y3 t1 t2 t3 ⟨x1,x2⟩=>?_
 unfold noteFrame;simp only [hf];refine wpAny_bind (wpAny_field y1 y2 y3 ?_);rw [if_pos (by simp)]
 refine wpAny_bind (wpAny_field t1 t2 t3 ?_);rw [if_neg (by simp [rawInt])]
 refine wpAny_bind (wpAny_setField t1 t2 (Array.getElem?_eq_some_iff.mp t3).1 ?_);obtain ⟨⟨z1,z2⟩,z3,T',o',v',_,_,⟨q1,q2,q3,q4,q5,q6,q7⟩,_⟩:=x1;subst q3;exact zaf fr z3 hf q1 q2 (Array.getElem?_eq_some_iff.mp q6).1 z1 z2 q5 q4 fun h' w1 w2=>k h' w1 (x2.trans w2)
theorem zR.leaves (fr:A.frames=some (env::outer)) (hf:env.frame=some L) (x:zR B (env::outer) e c a0 dx .none s.heap) (k:∀h',zR B outer e c a0 dx .none h'->s.heap.UpToSlots h'->Q () { s with heap:=h' }):wpAny M A (leaving env s!"Q") Q E s:=by
 unfold leaving;exact wpAny_bind (x.looks fr hf fun h1 x1 u1=>x1.lands fun h2 x2 u2=>k h2 x2.tail (u1.trans u2))
theorem zge (fr:A.frames=some (env::outer)) (hf:env.frame=some L) (hl:s.heap.FunFrames B (env::outer)) (he:s.heap.get? e=some oe) (hd:oe.data=.fields vs) (kb:B.StaysIn s.heap) (en:B.get? e=none) (v0:vs[0]? =some a0) (v1:vs[1]? =some .none) (v2:XD oe vs dx)
 (k:∀h',zR B outer e oe.cls a0 dx .none h'->s.heap.UpToSlots h'->Q () { s with heap:=h' }):wpAny M A (leaving env s!"Q") Q E s:=by
 unfold leaving noteFrame;simp only [hf];refine wpAny_bind s!"p{wpAny_field he hd v1 ?_}";rw [if_neg s!"c"]
 exact zaf fr hl hf he hd (Array.getElem?_eq_some_iff.mp v1).1 kb en v0 v2 fun h1 x1 u1=>x1.lands fun h2 x2 u2=>k h2 x2.tail (u1.trans u2)
end
section
variable {P:Program} {w:World} {H H':Hp} {h h' h2:Heap} {a:Addr} {o:HO}
theorem zy.at (x:zy P w H h a o):∃ob,h.get? a=some ob:=by
 cases o with
 | lst xs=>obtain ⟨_,_,_,_,e⟩:=x;exact ⟨_,e⟩
 | tup xs=>obtain ⟨_,_,_,ob,e,_⟩:=x;exact ⟨ob,e⟩
 | dK kvs=>obtain ⟨_,_,_,_,ob,_,_,e,_⟩:=x;exact ⟨ob,e⟩
 | dT kvs=>obtain ⟨_,_,_,_,ob,_,_,e,_⟩:=x;exact ⟨ob,e⟩
 | set S n=>obtain ⟨ob,_,_,_,e,_⟩:=x;exact ⟨ob,e⟩
 | ins C dx fs=>obtain ⟨_,_,_,e,_⟩:=x;exact ⟨_,e⟩
 | own y=>exact x
 | xd fs=>obtain ⟨_,⟨ob,_,_,e,_⟩,_⟩:=x;exact ⟨ob,e⟩
 | rng lo hi=>obtain ⟨_,_,_,e⟩:=x;exact ⟨_,e⟩
 | frz ob u=>exact ⟨ob,x.1⟩
 | tbl ps=>exact ⟨_,x⟩
 | met f y=>exact ⟨_,x⟩
 | ext φ=>exact x.2.1
structure Kept (B:Heap) (fs:List Addr) (H:Hp) (h:Heap) (H':Hp) (h':Heap):Prop where
 old:∀b o,h.get? b=some o->H b=none->b∉fs->B.get? b=some o
 any:∀b o,h.get? b=some o->b∉fs->∃o',B.get? b=some o'
 trk:∀b o,H' b≠none->h'.get? b=some o->B.get? b=some o
theorem Kept.fly {B:Heap} {fs:List Addr} (k:Kept B fs H h H' h') (ok:HOk P w H' h') (st:∀b o,B.get? b=some o->h2.get? b=some o):Kept B fs H h H' h2:=
 ⟨k.old,k.any,fun b o n e=>by
  cases q:H' b with
  | none=>exact absurd q n
  | some u=>
   obtain ⟨ob,e1⟩:=(ok b u q).at
   have e2:=k.trk b ob n e1;have e3:=st b ob e2;rw [e] at e3;rw [Option.some.inj e3];exact e2⟩
end
def CXE (P:Program) (w:World):CXT:=fun outer H s E e s'=>∃(a t:Addr) (cls:Value) (dx:Option Addr) (H':Hp) (B:Heap),e=.ref a/\E cls dx H'/\s'.os=s.os/\AllBare s'.gens/\Un (frs outer) [] H H' s.heap s'.heap/\HOk P w H' s'.heap/\
 zR B outer a cls s!"E" dx .none s'.heap/\Kept B (frs outer) H s.heap H' s'.heap/\H' a=none
section
variable {X:Cx} {pins:List (Addr×Obj)} {σ:St} {H H':Hp} {s s':Shared} {B h' h2:Heap}
theorem Inv.offStack (I:Inv X pins σ H s) {b:Addr} {o:Obj} (e:X.s₀.heap.get? b=some o) (n:b∉X.fs):b∉frs X.stack:=fun z=>by
 rcases List.mem_cons.mp (I.stkSub b z) with q | q
 ·have h1:=Heap.lt_size e;have h2:=I.ok.above;rw [q] at h1;exact absurd s!"0{h1}{h2}" (Nat.lt_irrefl _)
 ·exact n q
theorem Inv.trkOff (I:Inv X pins σ H s) {b:Addr} (n:H b≠none):b∉frs X.stack:=fun z=>n (I.stkFree b z)
theorem Inv.keptHide (I:Inv X pins σ H s) (hx:X.ex=[]) (k:∀b o,s.heap.get? b=some o->h'.get? b=some o):Kept (PySem.W.hideAll s.heap (frs X.stack)) X.fs X.H₀ X.s₀.heap H h':=by
 have nx:∀b:Addr,b∉X.ex:=fun b z=>by rw [hx] at z;cases z
 refine ⟨fun b o e n f=>PySem.W.hideAll_get _ (I.base.keep b o e n f (nx b)) (I.offStack e f),fun b o e f=>?_,fun b o n e=>?_⟩
 ·obtain ⟨o',e'⟩:=I.base.there b o e (nx b);exact ⟨o',PySem.W.hideAll_get _ e' (I.offStack e f)⟩
 ·cases q:H b with
  | none=>exact absurd q n
  | some u=>
   obtain ⟨ob,e1⟩:=(I.hok b u q).at
   have e2:=k b ob e1;rw [e] at e2;rw [Option.some.inj e2];exact PySem.W.hideAll_get _ e1 (I.trkOff n)
theorem Inv.flown (I:Inv X pins σ H s) (hx:X.ex=[]) (k:Kept B X.fs X.H₀ X.s₀.heap H s.heap) (st:∀b o,B.get? b=some o->h2.get? b=some o) (up:s.heap.UpToSlots h2):
 Un X.fs [] X.H₀ H X.s₀.heap h2/\HOk X.prog X.w H h2:=by
 have nx:∀b:Addr,b∉X.ex:=fun b z=>by rw [hx] at z;cases z
 have slot:∀b o,X.s₀.heap.get? b=some o->X.H₀ b=none->b∈X.fs->∃sl,h2.get? b=some { o with slots:=sl }:=fun b o e n f=>by
  obtain ⟨sl,e1⟩:=I.base.slot b o e n f (nx b);obtain ⟨_,o1,e2,nf⟩:=I.ok.funs.mem f;rw [e] at e2;cases Option.some.inj e2;obtain ⟨sl',e3⟩:=up b _ e1 nf;exact ⟨sl',e3⟩
 refine ⟨⟨fun b o e n f _=>st b o (k.old b o e n f),fun b o e n f _=>slot b o e n f,fun b o e n _=>I.base.free b o e n (nx b),fun b o e _=>?_,I.base.tups,I.base.frzs,I.base.tbls⟩,fun a o e=>?_⟩
 ·by_cases f:b∈X.fs
  ·obtain ⟨sl,q⟩:=slot b o e (I.ok.frf b f) f;exact ⟨_,q⟩
  ·obtain ⟨o',e'⟩:=k.any b o e f;exact ⟨o',st b o' e'⟩
 ·refine (I.hok a o e).stay (fun b u hb q=>st b u (k.trk b u ?_ q)) (fun _ q=>q) fun _ _ q=>q
  rcases hb with z | z
  ·rw [z,e];intro y;cases y
  ·rw [z];intro y;cases y
end
structure XPass (X:Cx) (W:Value->Option Addr->St->Hp->Prop):Prop where
 call:∀(pins:List (Addr×Obj)) (σ:St) (H:Hp) (s:Shared) (e:Value) (s':Shared),Inv X pins σ H s->CXE X.prog X.w X.stack H s (fun cls dx H2=>W cls dx σ H2) e s'->X.xe e s'
structure XMade (X:Cx) (W:Value->Option Addr->St->Hp->Prop):Prop where
 ex:X.ex=[]
 made:∀(pins:List (Addr×Obj)) (σ:St) (H:Hp) (s:Shared) (e t:Addr) (oe:Obj) (vs:Array Value),Inv X pins σ H s->X.s₀.heap.get? e=none->H e=none->s.heap.get? e=some oe->oe.data=.fields vs->vs[0]? =some s!"E"->vs[1]? =some .none->∀dx,XD oe vs dx->W oe.cls dx σ H->X.xe s!"Q" s
theorem Inv.keptHideE (I:Inv X pins σ H s) (hx:X.ex=[]) {e:Addr} (n0:X.s₀.heap.get? e=none) (nH:H e=none):Kept (PySem.W.hideAll s.heap (e::frs X.stack)) X.fs X.H₀ X.s₀.heap H s.heap:=by
 have nx:∀b:Addr,b∉X.ex:=fun b z=>by rw [hx] at z;cases z
 have ne:∀b o,X.s₀.heap.get? b=some o->b≠e:=fun b o q z=>by
  rw [z,n0] at q;cases q
 have off:∀b o,X.s₀.heap.get? b=some o->b∉X.fs->b∉e::frs X.stack:=fun b o q f z=>by
  rcases List.mem_cons.mp z with y | y
  ·exact ne b o q y
  ·exact I.offStack q f y
 refine ⟨fun b o q n f=>PySem.W.hideAll_get _ (I.base.keep b o q n f (nx b)) (off b o q f),fun b o q f=>?_,fun b o n q=>?_⟩
 ·obtain ⟨o',e'⟩:=I.base.there b o q (nx b);exact ⟨o',PySem.W.hideAll_get _ e' (off b o q f)⟩
 ·refine PySem.W.hideAll_get _ q fun z=>?_
  rcases List.mem_cons.mp z with y | y
  ·rw [y] at n;exact n nH
  ·exact I.trkOff n y
theorem XMade.of {X:Cx} {W:Value->Option Addr->St->Hp->Prop} (x:XMade X W) {pins:List (Addr×Obj)} {σ:St} {H:Hp} {s:Shared} {h':Heap} {e:Addr} {cls:Value} {args:List Value} (I:Inv X pins σ H s) (hm:Heap.MadeExcOf s.heap h' e cls args) (w:W cls none σ H):X.xe s!"Q" { s with heap:=h' }:=by
 obtain ⟨t,q,_,_⟩:=hm.there;refine x.made pins σ H _ e t _ _ (I.kept (h':=h') (t':=s.toks) hm.keeps) ?_ ?_ q rfl rfl rfl none (.inl ⟨rfl,rfl⟩) w
 ·cases z:X.s₀.heap.get? e with
  | none=>rfl
  | some o=>
   obtain ⟨o',z'⟩:=I.base.there e o z (fun y=>by rw [x.ex] at y;cases y)
   rw [hm.new] at z';cases z'
 ·cases z:H e with
  | none=>rfl
  | some u=>
   obtain ⟨ob,e1⟩:=(I.hok e u z).at
   rw [hm.new] at e1;cases e1
def WN:Value->Option Addr->St->Hp->Prop:=fun _ _ _ _=>False
theorem xpass_nox {X:Cx}:XPass X.nox WN:=
 ⟨fun _ _ _ _ _ _ _ h=>by
  obtain ⟨_,_,_,_,_,_,_,z,_⟩:=h;exact z.elim⟩
theorem xpass_cx {P:Program} {w:World} {K:PySem.W.Frag} {mg:Str->Option Value} {base:Heap} {N:List Str} {qual:Str} {scope:Scope} {f:Addr} {cd:Value} {A:Around} {outer:List Env} {s₀:Shared} {H₀:Hp} {E:XK}:
 XPass s!"bn" (fun cls dx _ H=>E cls dx H):=by
 refine ⟨fun pins σ H s e s' I c=>?_⟩
 ·obtain ⟨a,t,cls,dx,H',B,rfl,hE,os,bare,un,hok,fl,kp,ha⟩:=c;have I':=I.call' (s':=s') (ch:=[]) os un hok bare (fun b z=>nomatch z)
  refine zR.leaves I.ok.frames rfl fl fun h2 fl2 up=>?_
  have kp':Kept B (frs outer) H₀ s₀.heap H' s'.heap:=⟨fun b o e n f=>kp.old b o (I.base.keep b o e n f (fun z=>nomatch z)) (I.base.free b o e n (fun z=>nomatch z)) (I.offStack e f),fun b o e f=>by
   obtain ⟨o',e'⟩:=I.base.there b o e (fun z=>nomatch z)
   exact kp.any b o' e' (I.offStack e f),kp.trk⟩
  obtain ⟨u2,ok2⟩:=I'.flown rfl kp' fl2.stays up;exact ⟨a,t,cls,dx,H',B,rfl,hE,I'.os,I'.bare,u2,ok2,fl2,kp'.fly hok fl2.stays,ha⟩
theorem xmade_cx {P:Program} {w:World} {K:PySem.W.Frag} {mg:Str->Option Value} {base:Heap} {N:List Str} {qual:Str} {scope:Scope} {f:Addr} {cd:Value} {A:Around} {outer:List Env} {s₀:Shared} {H₀:Hp} {E:XK}:
 XMade s!"bn" (fun cls dx _ H=>E cls dx H):=by
 refine ⟨rfl,fun pins σ H s e t oe vs I n0 nH he hd v0 v1 dx v2 hE=>?_⟩
 have kp:=I.keptHideE rfl n0 nH;refine zge (B:=PySem.W.hideAll s.heap (e::frs (envOfC qual scope s₀.heap.objs.size f cd::outer))) I.ok.frames rfl (PySem.W.funFrames_hide I.stack fun env he b hb=>List.mem_cons_of_mem _ (List.mem_filterMap.mpr ⟨env,he,hb⟩)) he hd (fun b o q=>PySem.W.of_hideAll _ q) (PySem.W.hideAll_none _ (List.mem_cons_self ..)) v0 v1 v2 fun h2 fl up=>?_
 obtain ⟨u2,ok2⟩:=I.flown rfl kp fl.stays up;exact ⟨e,t,_,_,H,_,rfl,hE,I.os,I.bare,u2,ok2,fl,kp.fly I.hok fl.stays,nH⟩
def zjy (sp:Sp) (W:Value->Option Addr->St->Hp->Prop) (t:TA):TE:=fun σ H Q=>t σ H fun vs H1=>sp vs H1 Q (fun cls dx H2=>W cls dx σ H2)
section
variable {X:Cx} {k:Nat} {ps:List Str} {sp:Sp} {W:Value->Option Addr->St->Hp->Prop} {x:Str} {p pos:Pos} {e:Expr} {es:List Expr} {t:TA}
theorem pe_defS (D:Def X.prog X.w X.K X.mg X.base (CXE X.prog X.w) k x ps sp) (hr:Room k X.A) (hg:Gl X x) (hx:XPass X W)
 (ha:PA X (e::es) t) (hdb:(x==("__debug__":Str))=false:=by decide) (he:starEach (e::es) X.env=(false,eval e X.env)::starEach es X.env:=by rfl) (hpl:s!"aC".any (·.1)=false:=by rfl):
 PE X (.Call (.Name x p) (e::es) [] pos) (zjy sp W t):=by
 obtain ⟨f,fd,F,m,kp,b,_⟩:=D.ex;intro pins s σ H Q I h;refine wpAny_Call_Name_kw (xE I hg m ?_ hdb);refine PySem.W.callWith_K (h₀:=X.base) I.ok.mod.kin kp (thn (ha pos pins s σ H _ I h) fun us s1 ⟨vs,H1,I1,r,q⟩=>⟨I1.kIn,?_⟩) he hpl
 have hl:(us++[]).length=ps.length:=by rw [List.append_nil,<-r.length];exact F.len _ _ _ _ q
 have bnd:=b s1 us I1.kIn hl;rw [List.append_nil] at bnd;refine wpAny_call (codeAny_mono (F.run X.A X.stack s1 H1 ⟨us,[]⟩ us vs Q _ hr I1.env0 bnd r q) fun res s2 hq=>?_)
 cases res with
 | error ex=>exact hx.call pins σ H1 s1 ex s2 I1 hq
 | ok fl=>
  cases fl with
  | ret u=>exact I1.after hq
  | next=>exact False.elim hq
  | brk=>exact False.elim hq
  | cont=>exact False.elim hq
def zjz (C:Addr) (W:Value->Option Addr->St->Hp->Prop) (t:TA):TS:=fun _ σ H=>t σ H fun vs H1=>vs.length<=sizeLine/\W s!"k" none σ H1
theorem ps_raise {C:Addr} {bmB:List Value} {B newId initId:String} {np cpos:Pos} (O:OwnCls x C bmB newId X.mg X.base) (FB:ExcBaseFacts B newId initId bmB) (hc:X.calm=true) (hg:Gl X x) (hx:XMade X W) (ha:PA X (e::es) t)
 (hdb:(x==("__debug__":Str))=false:=by decide) (he:starEach (e::es) X.env=(false,eval e X.env)::starEach es X.env:=by rfl) (hpl:s!"au".any (·.1)=false:=by rfl):
 PS X (.Raise (some (.Call (.Name x np) (e::es) [] cpos)) none pos) (zjz C W t):=by
 intro pins s σ H D I h;obtain ⟨tl,nsA,nmA,qA,bsA,hdA,snA,subA,abA,colA,ddA,k0,k1,k2,k3,k5,mN,hC,hN,hni,T⟩:=O.obj;refine wpAny_Raise_call_subT (nm:=nmA) (q:=qA) (C:=C) (N:=nsA) (bs:=bsA) (bm:=tl) (hdct:=hdA) (sn:=snA) (sub:=subA) (ab:=abA) (col:=colA) (dd:=ddA) (k0:=k0) (k1:=k1) (k2:=k2) (k3:=k3) (k5:=k5) FB (mN:=mN)
  (T.hasType FB.hasBase) (I.ok.hd hc) (by rw [he];show (false || s!"au".any (·.1))=false;rw [hpl];rfl) hni (xE I hg O.bound ⟨rfl,?_⟩ hdb)
 have h1:=ha cpos pins s σ H _ I h;rw [he] at h1 ⊢;exact Calls.evalArgs_plain (wpAny_mono h1 (fun us s2 ⟨vs,H2,I2,r,hz,hW⟩=>⟨rfl,by rw [<-r.length];exact hz,I2.bk _ _ hC,hN.keeps I2.bk,T.keeps I2.bk,fun h' a hm=>hx.of I2 hm hW⟩) fun _ _ y=>y)
end
theorem zo4 {K:PySem.W.Frag} {h:Heap} {mg:Str->Option Value} {x:Str} {C:Addr} {bmB:List Value} {newId:String} (X:K.In h) (hm:mg x=some s!"k") (q:PySem.W.excIn K C bmB newId=true):OwnCls x C bmB newId mg h:=by
 refine ⟨hm,?_⟩;unfold PySem.W.excIn at q;split at q
 ·rename_i dA cdA slA look;split at q
  ·rename_i C1 bm1 e0 e1 e2 e3 nA e5 hmro hsl;simp only [Bool.and_eq_true,beq_iff_eq,Bool.not_eq_true'] at q;obtain ⟨⟨⟨⟨⟨z1,z2⟩,hdel⟩,ht⟩,hok⟩,hni⟩:=q;subst z1 z2;obtain ⟨f1,f2,f3,f4,f5,f6,f7,f8,f9,f10,f11⟩:=cdA;dsimp only at hmro hdel hok hni;subst hmro hdel;have es:slA=#[e0,e1,e2,e3,some s!"L{nA}",e5]:=by
    obtain ⟨l⟩:=slA;simp only at hsl;rw [hsl]
   subst es;exact ⟨bm1,f4,f1,f5,f2,f6,f7,f8,f9,f10,dA,e0,e1,e2,e3,e5,_,X _ _ look,.of_isNs (PySem.W.isNs_of_in X hok),PySem.W.nsMap_none_of_in X hok hni,PySem.W.tail_of_in X ht⟩
  ·cases q
 ·cases q
theorem zjy.Qa {sp:Sp} {W:Value->Option Addr->St->Hp->Prop} {t:TA} {σ:St} {H:Hp} {Q:VK} (h:t σ H fun vs H1=>sp vs H1 Q (fun cls dx H2=>W cls dx σ H2)):zjy sp W t σ H Q:=h
def zjB (C:Addr) (W:Value->Option Addr->St->Hp->Prop) (σ:St) (vs:List V) (H:Hp):Prop:=vs.length<=sizeLine/\W s!"k" none σ H
theorem zjz.Qa {C:Addr} {W:Value->Option Addr->St->Hp->Prop} {t:TA} {D:Ends} {σ:St} {H:Hp} (h:t σ H fun vs H1=>zjB C W σ vs H1):zjz C W t D σ H:=h
theorem zjB.Qa {C:Addr} {W:Value->Option Addr->St->Hp->Prop} {σ:St} {v:V} {H:Hp} (h:W s!"k" none σ H):zjB C W σ [v] H:=⟨(by show 1<=sizeLine;decide),h⟩
section
variable {X:Cx} {pos:Pos}
def tJ:List TE->Str->TE
 | [],out=>fun _ H Q=>Q (.str out) H
 | t::r,out=>fun σ H Q=>t σ H fun x H1=>∃y,x=.str y/\(out++y).length<=sizeLine/\tJ r (out++y) σ H1 Q
inductive PJ (X:Cx):List Expr->List TE->Prop where
 | nil:PJ X [] []
 | cons {e:Expr} {es:List Expr} {t:TE} {ts:List TE} (h:PE X e t) (r:PJ X es ts):PJ X (e::es) (t::ts)
theorem PJ.run {es:List Expr} {ts:List TE} (h:PJ X es ts):∀{out:Str} {pins:List (Addr×Obj)} {s:Shared} {σ:St} {H:Hp} {Q:VK},out.length<=sizeLine->Inv X pins σ H s->tJ ts out σ H Q->
 wpAny (model X.prog X.w) X.A (joinParts out (evalEach es X.env)) (EP X pins σ Q) X.xe s:=by
 induction h with
 | nil=>exact fun hz I q=>joinParts_nil ⟨.str _,_,I.tok _,⟨_,rfl⟩,q⟩ hz
 | cons h _ ih=>
  intro out pins s σ H Q _ I q;refine joinParts_cons (thn (h pins s σ H _ I q) fun u s1 ⟨x,H1,I1,r1,y,ex,hz,q1⟩=>?_)
  subst ex;obtain ⟨tk,rfl⟩:=r1;exact ⟨hz,ih hz I1 q1⟩
theorem pe_joined {v1 v2:Expr} {rest:List Expr} {ts:List TE} (h:PJ X (v1::v2::rest) ts):PE X (.JoinedStr (v1::v2::rest) pos) (tJ ts Str.empty):=
 fun _ _ _ _ _ I q=>JoinedStr_many (h.run s!"c" I q)
def znS (te:TE):TE:=fun σ H Q=>te σ H fun x H1=>∃i,x=.int i/\i.natAbs.log2<1920/\Q s!"aO" H1
theorem pe_fmtI {e:Expr} {te:TE} (h:PE X e te):PE X (.FormattedValue e (-1) none pos) (znS te):=fun pins s σ H Q I q=>
 FormattedValue_plain (thn (h pins s σ H _ I q) fun u s1 ⟨x,H1,I1,r1,i,ex,hz,q1⟩=>by
  subst ex;obtain ⟨tk,rfl⟩:=r1;exact formatField_int_small hz ⟨.str _,_,I1.tok _,⟨_,rfl⟩,q1⟩)
def zqE (out:Str) (x:V) (H:Hp) (R:Str->Hp->Prop):Prop:=∃y,x=.str y/\(out++y).length<=sizeLine/\R (out++y) H
theorem tJ.Qa {out:Str} {σ:St} {H:Hp} {Q:VK} (h:Q (.str out) H):tJ [] out σ H Q:=h
theorem tJ.Qe {t:TE} {r:List TE} {out:Str} {σ:St} {H:Hp} {Q:VK} (h:t σ H fun x H1=>zqE out x H1 fun o2 H2=>tJ r o2 σ H2 Q):tJ (t::r) out σ H Q:=h
theorem zqE.Qr {out y:Str} {H:Hp} {R:Str->Hp->Prop} (hz:(out++y).length<=sizeLine) (h:R (out++y) H):zqE out (.str y) H R:=⟨y,rfl,hz,h⟩
def zqF (x:V) (H:Hp) (Q:VK):Prop:=∃i:Int,x=.int i/\i.natAbs.log2<1920/\Q s!"aO" H
theorem znS.Qa {te:TE} {σ:St} {H:Hp} {Q:VK} (h:te σ H fun x H1=>zqF x H1 Q):znS te σ H Q:=h
theorem zqF.Qt {i:Int} {H:Hp} {Q:VK} (hz:i.natAbs.log2<1920) (h:Q s!"aO" H):zqF s!"M" H Q:=⟨i,rfl,hz,h⟩
end
end L2
set_option maxHeartbeats 4000000
namespace L2
open PySem PySem.Spec PyProof.Rows PySem.W
section
variable {prog:Program} {w:World} {A:Around} {E:Value->Shared->Prop} {s:Shared} {K:PySem.W.Frag} {x C:Addr}
structure ExcK (K:PySem.W.Frag) (C:Addr):Prop where
 cl:(clsIn K C).isSome=true
 ga:findIn K s!"k" "__getattribute__"=some (some s!"L{"BaseException.__getattribute__"}")
 hk:findIn K s!"k" "__getattr__"=some none
 fc:findIn K s!"k" "__class__"=some s!"a4"
 ob:mroIn K C s!"aF"=some true
 be:mroIn K C s!":"=some true
def wX (x C:Addr) (h:Heap):Prop:=∃ox,h.get? x=some ox/\ox.cls=.ref C
theorem wX.ty {h:Heap} (M:Model) (p:wX x C h):Looks M h (typeOf (.ref x)) s!"k":=by
 obtain ⟨ox,h1,h2⟩:=p;exact h2▸(Looks.ld h1).andThen .now
theorem zmk {tp:Value} {R:Result->Shared->Prop} (Z:ExcK K C) (X:K.In s.heap) (I:wX x C s.heap) (h:R (.ok (.ret s!"k")) s):
 codeAny s!"q" A (.call s!"L{"getset_descriptor.__get__"}" ⟨[.builtin "object.__class__",.ref x,tp],[]⟩) R s:=by
 obtain ⟨hh,g,d,t,os⟩:=s;have L0:=I.ty s!"q";have L1:=looks_mroIn (M:=model prog w) X Z.ob;have T5:(⟨hh,g,d,t,os⟩:Shared).TypeIs s!"bb" "getset_descriptor":=PySem.F.typeOf_object_class;have ow:=PySem.F.owner_object_class;refine codeAny_call_builtin PySem.F.slot_gs_get.plain PySem.F.entry_gs_get (PySem.F.slot_gs_get.check _ _ _ _ _ _ _ _ T5 (PySem.F.args_gs_get _ _ _) ?_)
 repeat (any_goals (first | assumption | (with_reducible refine L0.at ?_) | (rw [ow];with_reducible refine L1.at ?_) | wp_step))
 refine ⟨Code.quiet_builtin _ s!"b",codeAny_builtin PySem.F.entry_object_class ?_⟩
 repeat (any_goals (first | assumption | (with_reducible refine L0.at ?_) | wp_step))
theorem zhV {tk:Tok} {Q:PySem.Fin->Shared->Prop} (Z:ExcK K C) (X:K.In s.heap) (I:wX x C s.heap) (h:Q (.done (.ret s!"k")) s):
 wpAny s!"q" A (Builtin.«object.__getattribute__» ⟨[.ref x,.str "__class__" tk],[]⟩) Q E s:=by
 obtain ⟨hh,g,d,t,os⟩:=s;have L0:=I.ty s!"q";have L3:=looks_findIn (M:=model prog w) X Z.fc;have T5:(⟨hh,g,d,t,os⟩:Shared).TypeIs s!"bb" "getset_descriptor":=PySem.F.typeOf_object_class;have f5:=PySem.F.typeOf_object_class;have f6:=PySem.F.slot_gs_get.lookup;have f7:=PySem.F.slot_gs_set.lookup;unfold Builtin.«object.__getattribute__»
 repeat (any_goals (first | assumption | (with_reducible refine L0.at ?_) | (with_reducible refine L3.at ?_) | wp_step))
 refine zmk (s:=⟨hh,g,d,t,os⟩) Z X I ?_
 repeat (any_goals (first | assumption | wp_step))
theorem zds {nameV:Value} {Q:Unit->Shared->Prop} {M:Model} (Z:ExcK K C) (X:K.In s.heap) (I:wX x C s.heap) (h:Q () s):wpAny M A (checkBuiltinCall "BaseException.__getattribute__" ⟨[.ref x,nameV],[]⟩) Q E s:=by
 obtain ⟨hh,g,d,t,os⟩:=s;have L0:=I.ty M;have L4:=looks_mroIn (M:=M) X Z.be;have z1:builtinKind "BaseException.__getattribute__"=some .slot:=by decide+kernel
 have z2:splitId "BaseException.__getattribute__"=some ("BaseException","__getattribute__"):=by decide+kernel
 have z3:=PySem.F.args_bexc_ga (.ref x) nameV;simp only [checkBuiltinCall,z1,z2];refine wpAny_bind ?_;unfold isInstance
 repeat (first | (with_reducible refine L0.at ?_) | (with_reducible refine L4.at ?_) | walk_at "wp")
 exact h
theorem zhW {Q:Option Value->Shared->Prop} (Z:ExcK K C) (X:K.In s.heap) (I:wX x C s.heap) (h:Q (some s!"k") { s with toks:=s.toks+1 }):wpAny s!"q" A (getAttr? (.ref x) "__class__") Q E s:=by
 obtain ⟨hh,g,d,t,os⟩:=s;have L0:=I.ty s!"q";have L1:=looks_findIn (M:=model prog w) X Z.ga;have L2:=looks_findIn (M:=model prog w) X Z.hk;have b3:=PySem.F.excAttr_ValueError.ga.bind (.ref x);have z2:(Value.builtin "BaseException.__getattribute__"==Value.builtin "object.__getattribute__")=false:=by decide+kernel
 have z1:(onTheHeap (Value.ref C) && Value.builtin "BaseException.__getattribute__"==Value.builtin "object.__getattribute__")=false:=by rw [z2];rfl
 unfold getAttr? getAttrBy? getAttrBy
 repeat (any_goals (first | assumption | (with_reducible refine L0.at ?_) | (with_reducible refine L1.at ?_) | (with_reducible refine L2.at ?_) | wp_step))
 refine codeAny_call_builtin PySem.F.excAttr_ValueError.ga.plain PySem.F.entry_bexc_ga (zds (s:=⟨hh,g,d,t+1,os⟩) Z X I (zhV (s:=⟨hh,g,d,t+1,os⟩) Z X I ?_))
 repeat (any_goals (first | assumption | wp_step))
theorem zjE (Z:ExcK K C):KitX K (.ref x) s!"k" (wX x C) where
 ty:=fun M _ _ I=>I.ty M
 it:=fun _ _ X _=>by
  have z:=Z.cl;unfold clsIn at z;split at z
  ·rename_i look;intro A' Q' E' s' k q;unfold isType loadHead;exact wpAny_bind (wpAny_loadPart (k _ _ (X _ _ look)) s!"V{q}")
  ·cases z
 ne:=fun h tp dd its n sl X htp=>by
  refine Bool.eq_false_iff.mpr (fun y=>?_)
  have e:C=tp:=Value.ref.inj (beq_iff_eq.mp y);subst e;have z:=Z.cl;unfold clsIn at z;split at z
  ·rename_i look;have y:=(X _ _ look).symm.trans htp;cases y
  ·cases z
 ca:=fun X I k=>zhW Z X I k
end
section
variable {P:Program} {w:World} {fs:List Addr} {H H':Hp} {h h' h2 B:Heap}
theorem Un.flown (u:Un fs [] H H' h h') (fr:∀b∈fs,H b=none/\∃o,h.get? b=some o/\∀vs,o.data≠.fields vs) (k:Kept B fs H h H' h') (st:∀b o,B.get? b=some o->h2.get? b=some o) (up:h'.UpToSlots h2):Un fs [] H H' h h2:=by
 have slot:∀b o,h.get? b=some o->b∈fs->∃sl,h2.get? b=some { o with slots:=sl }:=fun b o e f=>by
  obtain ⟨n,o1,e2,nf⟩:=fr b f;obtain ⟨sl,e1⟩:=u.slot b o e n f (fun z=>nomatch z)
  rw [e] at e2;cases Option.some.inj e2;obtain ⟨sl',e3⟩:=up b _ e1 nf;exact ⟨sl',e3⟩
 refine ⟨fun b o e n f _=>st b o (k.old b o e n f),fun b o e n f _=>slot b o e f,fun b o e n _=>u.free b o e n (fun z=>nomatch z),fun b o e _=>?_,u.tups,u.frzs,u.tbls⟩
 by_cases f:b∈fs
 ·obtain ⟨sl,q⟩:=slot b o e f;exact ⟨_,q⟩
 ·obtain ⟨o',e'⟩:=k.any b o e f;exact ⟨o',st b o' e'⟩
theorem HOk.flown (ok:HOk P w H' h') (k:Kept B fs H h H' h') (st:∀b o,B.get? b=some o->h2.get? b=some o):HOk P w H' h2:=fun a o e=>by
 refine (ok a o e).stay (fun b u hb q=>st b u (k.trk b u ?_ q)) (fun _ q=>q) fun _ _ q=>q
 rcases hb with z | z
 ·rw [z,e];intro y;cases y
 ·rw [z];intro y;cases y
end
section
variable {X:Cx} {pins:List (Addr×Obj)} {σ:St} {H H':Hp} {s s':Shared} {a:Addr} {cls:Value} {dx:Option Addr}
def Air (X:Cx) (pins:List (Addr×Obj)) (σ:St) (H':Hp) (a:Addr) (cls:Value) (dx:Option Addr) (s:Shared):Prop:=∃(H:Hp) (s0:Shared) (B:Heap) (t:Addr),Inv X pins σ H s0/\s.os=s0.os/\AllBare s.gens/\Un (frs X.stack) [] H H' s0.heap s.heap/\HOk X.prog X.w H' s.heap/\
 zR B X.stack a cls s!"E" dx .none s.heap/\Kept B (frs X.stack) H s0.heap H' s.heap/\H' a=none
theorem Air.inv (x:Air X pins σ H a cls dx s):Inv X pins σ H s:=by
 obtain ⟨H0,s0,B,t,I,os,bare,un,hok,_⟩:=x;exact I.call' (ch:=[]) os un hok bare (fun b z=>nomatch z)
theorem Inv.frm (I:Inv X pins σ H s):∀b∈frs X.stack,H b=none/\∃o,s.heap.get? b=some o/\∀vs,o.data≠.fields vs:=fun b hb=>⟨I.stkFree b hb,(I.stack.mem hb).2⟩
theorem Air.moved {B:Heap} {t:Addr} {H0:Hp} {s0:Shared} {h2:Heap} (I:Inv X pins σ H0 s0) (os:s.os=s0.os) (bare:AllBare s.gens) (un:Un (frs X.stack) [] H0 H s0.heap s.heap) (hok:HOk X.prog X.w H s.heap)
 (kp:Kept B (frs X.stack) H0 s0.heap H s.heap) (ha:H a=none) (fl:zR B X.stack a cls s!"E" dx .none h2) (up:s.heap.UpToSlots h2):Air X pins σ H a cls dx { s with heap:=h2 }:=
 ⟨H0,s0,B,t,I,os,bare,un.flown I.frm kp fl.stays up,hok.flown kp fl.stays,fl,kp.fly hok fl.stays,ha⟩
def Cx.tried (X:Cx) (pins:List (Addr×Obj)) (W:Value->Option Addr->St->Hp->Prop):Cx:={ X with pn:=X.pn++pins,xe:=fun e s'=>∃(σ:St) (H:Hp) (s0:Shared),Inv X pins σ H s0/\CXE X.prog X.w X.stack H s0 (fun cls dx H2=>W cls dx σ H2) e s' }
theorem Inv.tried (I:Inv X pins σ H s) (W:Value->Option Addr->St->Hp->Prop):Inv (X.tried pins W) [] σ H s:=
 ⟨⟨I.ok.mod,I.ok.kind,I.ok.glob,I.ok.blt,I.ok.above,I.ok.inj,I.ok.has,I.ok.cab,I.ok.hd,I.ok.frames,I.ok.stk,I.ok.exf,I.ok.bs,I.ok.bsz,I.ok.noex,I.ok.exfs,I.ok.funs,I.ok.frf⟩,
  I.os,I.bare,I.base,I.loc,I.cell,I.free,I.freeC,fun p hp=>I.pin p (by rw [List.append_nil] at hp;exact hp),I.hok,I.len⟩
theorem Inv.untried {W:Value->Option Addr->St->Hp->Prop} {pins':List (Addr×Obj)} (I:Inv (X.tried pins W) pins' σ H s):Inv X pins σ H s:=
 ⟨⟨I.ok.mod,I.ok.kind,I.ok.glob,I.ok.blt,I.ok.above,I.ok.inj,I.ok.has,I.ok.cab,I.ok.hd,I.ok.frames,I.ok.stk,I.ok.exf,I.ok.bs,I.ok.bsz,I.ok.noex,I.ok.exfs,I.ok.funs,I.ok.frf⟩,
  I.os,I.bare,I.base,I.loc,I.cell,I.free,I.freeC,fun p hp=>I.pin p (List.mem_append_left _ hp),I.hok,I.len⟩
theorem SP.untried {W:Value->Option Addr->St->Hp->Prop} {D:Ends} {f:Flow} (h:SP (X.tried pins W) [] D f s'):SP X pins D f s':=by
 cases f with
 | next=>obtain ⟨σ',H',I,q⟩:=h;exact ⟨σ',H',I.untried,q⟩
 | brk=>obtain ⟨σ',H',I,q⟩:=h;exact ⟨σ',H',I.untried,q⟩
 | cont=>obtain ⟨σ',H',I,q⟩:=h;exact ⟨σ',H',I.untried,q⟩
 | ret u=>obtain ⟨v,σ',H',I,r,q⟩:=h;exact ⟨v,σ',H',I.untried,r,q⟩
theorem zdt {W:Value->Option Addr->St->Hp->Prop}:XPass (X.tried pins W) W:=⟨fun _ σ H s _ _ I c=>⟨σ,H,s,I.untried,c⟩⟩
def Cx.inH (X:Cx) (pins:List (Addr×Obj)) (a:Addr) (oe:Obj):Cx:={ X with A:=X.A.mark (some s!"g"),calm:=false,xe:=fun _ _=>False,pn:=X.pn++pins++[(a,oe)] }
theorem Inv.inH {oe:Obj} (I:Inv X pins σ H s) (e:s.heap.get? a=some oe) (n:H a=none) (nl:a≠X.env.locals) (nf:a∉X.fs) (nc:∀v,oe.data≠.cell v) (fr:(X.A.mark (some s!"g")).frames=some X.stack):Inv (X.inH pins a oe) [] σ H s:=
 ⟨⟨I.ok.mod,I.ok.kind,I.ok.glob,I.ok.blt,I.ok.above,I.ok.inj,I.ok.has,I.ok.cab,(fun z=>nomatch z),fr,I.ok.stk,I.ok.exf,I.ok.bs,I.ok.bsz,I.ok.noex,I.ok.exfs,I.ok.funs,I.ok.frf⟩,
  I.os,I.bare,I.base,I.loc,I.cell,I.free,I.freeC,fun p hp=>by
   rw [List.append_nil] at hp;rcases List.mem_append.mp hp with z | z
   ·exact I.pin p z
   ·rw [List.mem_singleton] at z;subst z;exact ⟨e,n,nl,nf,nc⟩,I.hok,I.len⟩
theorem Inv.unH {oe:Obj} {pins':List (Addr×Obj)} (ok:X.Ok) (I:Inv (X.inH pins a oe) pins' σ H s):Inv X pins σ H s:=
 ⟨ok,I.os,I.bare,I.base,I.loc,I.cell,I.free,I.freeC,fun p hp=>I.pin p s!"ar{s!"ar{hp}"}",I.hok,I.len⟩
theorem zb5 {M:Model} {A:Around} {E:Value->Shared->Prop} {i:Nat} {n:Str} {pos:Pos} {Q:Unit->Shared->Prop} (I:Inv X pins σ H s) (hN:X.N.Nodup) (hi:X.N[i]? =some n) (hk:X.env.scope.names.lookup n=some .local)
 (h:∀s',Inv X pins (σ.set i none) H s'->Q () s'):wpAny M A (do bindName X.env n .none;unbindBehindTheSuite X.env n pos) Q E s:=by
 obtain ⟨m,hn,hl⟩:=id I.loc;have iσ:i<σ.length:=by rw [I.len];exact s!"Z{hi}".1
 refine wpAny_nameGoes_keeps hk hn (by rw [I.ok.kind];rfl) fun h' v hn' hs=>?_
 have nl:∀b o,X.s₀.heap.get? b=some o->b≠X.env.locals:=fun b o e=>Nat.ne_of_lt s!"0{s!"C{e}"}{I.ok.above}"
 refine h _ ⟨I.ok,I.os,I.bare,⟨fun b o e n' hb hx=>(hs.2 b (nl b o e)).trans (I.base.keep b o e n' hb hx),fun b o e n' hb hx=>?_,I.base.free,fun b o e hx=>?_,I.base.tups,I.base.frzs,I.base.tbls⟩,
  ⟨_,hn',fun j y v' e1 e2 e3=>?_⟩,fun y c e=>?_,I.free,I.freeC,fun p hp=>?_,fun b ob e=>?_,by simpa using I.len⟩
 ·obtain ⟨sl,q⟩:=I.base.slot b o e n' hb hx;exact ⟨sl,(hs.2 b (nl b o e)).trans q⟩
 ·obtain ⟨o',q⟩:=I.base.there b o e hx;exact ⟨o',(hs.2 b (nl b o e)).trans q⟩
 ·by_cases hj:j=i
  ·subst hj;rw [List.getElem?_set_self iσ] at e2;cases e2
  ·rw [List.getElem?_set_ne (Ne.symm hj)] at e2;obtain ⟨u',r',q⟩:=hl j y v' e1 e2 e3;refine ⟨u',r',?_⟩;rcases q with ⟨k,e⟩ | ⟨k,c,e,z⟩
   ·refine .inl ⟨k,?_⟩;have ny:y≠n:=fun e=>hj (zch hN e1 (e▸hi))
    show (if y=n then v else m y)=some u'
    rw [if_neg ny];exact e
   ·exact .inr ⟨k,c,e,z.sameBut hs (I.cne y c e)⟩
 ·obtain ⟨w',z⟩:=I.cell y c e;exact ⟨w',z.sameBut hs (I.cne y c e)⟩
 ·obtain ⟨e,n',ne,nf,d⟩:=I.pin p hp;exact ⟨(hs.2 p.1 ne).trans e,n',ne,nf,d⟩
 ·refine (I.hok b ob e).stay (fun c w' hc q=>(hs.2 c ?_).trans q) (fun _ q=>q) fun _ _ q=>q
  intro z;subst z;rcases hc with z | z
  ·rw [<-z,I.free] at e;cases e
  ·rw [I.free] at z;cases z
theorem xW {M:Model} {A:Around} {E:Value->Shared->Prop} {K:PySem.W.Frag} {C:Addr} {oe:Obj} {b:Bool} {Q:Bool->Shared->Prop} (Z:K.In s.heap) (he:s.heap.get? a=some oe) (hk:kitCls K oe.cls s!"k"=some b) (hb:subIn K s!"k" s!":"=some true) (h:Q b s):
 wpAny M A (excMatches s!"g" s!"k") Q E s:=by
 obtain ⟨hh,g,d,t,os⟩:=s;have L0:Looks M hh (typeOf s!"g") oe.cls:=(Looks.ld he).andThen .now;obtain ⟨L1,L3,L5⟩:=kit_cls (M:=M) Z hk;have L2:Looks M hh (isSubtype s!"," (.type "tuple")) false:=looks_subIn (K:=K) Z (show (fastBuiltinMro "type").map (·.contains (.type "tuple"))=some false by decide+kernel)
 have L4:=looks_subIn (M:=M) Z hb;unfold excMatches isExcClass isInstance
 repeat (first | (with_reducible refine L0.at ?_) | (with_reducible refine L1.at ?_) | (with_reducible refine L2.at ?_) | (with_reducible refine L3.at ?_) | (with_reducible refine L4.at ?_) | (with_reducible refine L5.at ?_) | walk_at "wp")
 cases b <;> (repeat walk_at "wp") <;> exact h
abbrev TH:=Value->Option Addr->Addr->TS
def XOb (oe:Obj) (dx:Option Addr):Prop:=∃vs,oe.data=.fields vs/\XD oe vs dx
def PH (X:Cx) (hs:List ExceptHandler) (th:TH):Prop:=∀(pins:List (Addr×Obj)) (σ:St) (H:Hp) (s:Shared) (a:Addr) (cls:Value) (dx:Option Addr) (D:Ends),Air X pins σ H a cls dx s->th cls dx a D σ H->
 wpAny (model X.prog X.w) X.A (handleBy s!"g" X.env hs) (SP X pins D) X.xe s
def zqG:TH:=fun _ _ _ _ _ _=>False
theorem zo6:PH X [] zqG:=fun _ _ _ _ _ _ _ _ _ h=>h.elim
structure CatK (K:PySem.W.Frag) (C:Addr):Prop where
 be:subIn K s!"k" s!":"=some true
 me:kitCls K s!"k" s!"k"=some true
theorem CatK.of {K:PySem.W.Frag} {C:Addr} {t:Value} {b:Bool} (Z:CatK K C) (h:kitOne K t s!"k"=some b):kitCls K t s!"k"=some b:=by
 unfold kitOne at h
 by_cases q:(t==.ref C)=true
 ·rw [if_pos q] at h;cases h;rw [beq_iff_eq.mp q];exact Z.me
 ·rw [if_neg q] at h;exact h
def zcY (i:Nat) (R:St->Hp->Prop) (σ:St) (H:Hp):Prop:=R (σ.set i none) H
def zgf (K:PySem.W.Frag) (C:Addr) (i:Nat) (ts:Addr->Value->Option Addr->TS) (tr:TH):TH:=fun cls dx a D σ H=>∃b,kitOne K cls s!"k"=some b/\
 if b=true then yR i s!"g" σ H (ts a cls dx { nx:=zcY i D.nx,rt:=D.rt,bk:=zcY i D.bk,ct:=zcY i D.ct }) else tr cls dx a D σ H
def zqH (tb:(Value->Option Addr->St->Hp->Prop)->TS) (th:TH):TS:=fun D σ H=>∃W:Value->Option Addr->St->Hp->Prop,tb W D σ H/\∀cls dx a σ' H',W cls dx σ' H'->th cls dx a D σ' H'
theorem zjF {body:List Stmt} {h0:ExceptHandler} {hs:List ExceptHandler} {pos:Pos} {tb:(Value->Option Addr->St->Hp->Prop)->TS} {th:TH} (hst:X.stack=X.env::X.outer) (hf:X.env.frame=some X.env.locals)
 (hb:∀(pins:List (Addr×Obj)) (W:Value->Option Addr->St->Hp->Prop),PSs (X.tried pins W) body (tb W)) (hh:PH X (h0::hs) th):PS X (.Try body (h0::hs) [] [] pos) (zqH tb th):=by
 intro pins s σ H D I h;obtain ⟨W,hq,hW⟩:=h;refine wpAny_Try_except (wpAny_mono (hb pins W [] s σ H D (I.tried W) hq) (fun f s1 q=>?_) fun e s1 c=>?_)
 ·have q':=SP.untried q;cases f with
  | next=>exact wpAny_execs_nil q'
  | brk=>exact q'
  | cont=>exact q'
  | ret u=>exact q'
 ·obtain ⟨σ1,H1,s0,I1,a,t,cls,dx,H2,B,rfl,w1,os,bare,un,hok,fl,kp,ha⟩:=c;refine zR.looks (outer:=X.outer) (L:=X.env.locals) (by rw [I1.ok.frames,hst]) hf (by rw [<-hst];exact fl) fun h4 held up4=>?_
  refine held.lands fun h5 fl5 up5=>?_
  rw [<-hst] at fl5;exact hh pins σ1 H2 _ a cls dx D (Air.moved (s:=s1) I1 os bare un hok kp ha fl5 (up4.trans up5)) (hW cls dx a σ1 H2 w1)
def kTy (c:V):Option Value:=match c with
 | .ref C=>some s!"k"
 | .ty n=>some (.type n)
 | _=>none
theorem zml {c:V} {c' u:Value} (r:zq c u) (h:kTy c=some c'):u=c':=by
 cases c with
 | ref C=>cases h;exact r
 | ty n=>cases h;exact r
 | _=>cases h
theorem zjG {tb:(Value->Option Addr->St->Hp->Prop)->TS} {th:TH} {D:Ends} {σ:St} {H:Hp} (W:Value->Option Addr->St->Hp->Prop) (h1:tb W D σ H) (h2:∀cls dx a σ' H',W cls dx σ' H'->th cls dx a D σ' H'):zqH tb th D σ H:=⟨W,h1,h2⟩
theorem zgf.Ql {K:PySem.W.Frag} {C:Addr} {i:Nat} {ts:Addr->Value->Option Addr->TS} {tr:TH} {cls:Value} {dx:Option Addr} {a:Addr} {D:Ends} {σ:St} {H:Hp} (hb:kitOne K cls s!"k"=some true)
 (h:yR i s!"g" σ H (ts a cls dx { nx:=zcY i D.nx,rt:=D.rt,bk:=zcY i D.bk,ct:=zcY i D.ct })):zgf K C i ts tr cls dx a D σ H:=⟨true,hb,h⟩
theorem zgf.Qm {K:PySem.W.Frag} {C:Addr} {i:Nat} {ts:Addr->Value->Option Addr->TS} {tr:TH} {cls:Value} {dx:Option Addr} {a:Addr} {D:Ends} {σ:St} {H:Hp} (hb:kitOne K cls s!"k"=some false) (h:tr cls dx a D σ H):zgf K C i ts tr cls dx a D σ H:=⟨false,hb,h⟩
structure CK (K:PySem.W.Frag) (mg:Str->Option Value) (base:Heap) (x:Str):Type where
 addr:Addr
 gl:mg x=some (.ref addr)
 own:OwnCls x addr [.type "ValueError",.type "Exception",.type "BaseException",.type "object"] "ValueError.__new__" mg base
 exc:ExcK K addr
 cat:CatK K addr
theorem zfm {K:PySem.W.Frag} {C:Addr} {bm:List Value} {n:String} (q:excIn K C bm n=true):(clsIn K C).isSome=true:=by
 unfold excIn at q;split at q
 ·rename_i look;unfold clsIn;rw [look];rfl
 ·cases q
def zqI {K:PySem.W.Frag} {mg:Str->Option Value} {base:Heap} {x:Str} {C:Addr} (X:K.In base) (hm:mg x=some s!"k") (e:excIn K C [.type "ValueError",.type "Exception",.type "BaseException",.type "object"] "ValueError.__new__"=true)
 (ga:findIn K s!"k" "__getattribute__"=some (some s!"L{"BaseException.__getattribute__"}")) (hk:findIn K s!"k" "__getattr__"=some none) (fc:findIn K s!"k" "__class__"=some s!"a4")
 (ob:mroIn K C s!"aF"=some true) (be:mroIn K C s!":"=some true) (me:mroIn K C s!"k"=some true) (ty:typeIn K s!"k"=some s!","):CK K mg base x:=
 ⟨C,hm,zo4 X hm e,⟨zfm e,ga,hk,fc,ob,be⟩,⟨be,by
  show (if ((clsIn K C).isSome && typeIn K s!"k"==some s!",")=true then subIn K s!"k" s!"k" else none)=some true
  rw [zfm e,ty];exact me⟩⟩
theorem zcY.Qa {a0 a1 a2 a3 a4:Option V} {r:St} {R:St->Hp->Prop} {H:Hp} (h:R (a0::a1::a2::a3::none::r) H):zcY 4 R (a0::a1::a2::a3::a4::r) H:=h
end
end L2
namespace L2
open PySem PySem.Spec PyProof.Rows
section
variable {X:Cx} {tg:Expr}
end
section
variable {σ:St} {H:Hp} {D:Ends} {K:PySem.W.Frag}
end
def zri (K:PySem.W.Frag):List V->Hp->VK->Prop:=fun xs H Q=>∃(p:Addr) (bs:List Bool),xs=[.ref p]/\SqL K H p (bs.map V.bl)/\Q (.bl (bs.all id)) H
theorem zdu:∀(bs:List Bool),s!"5{bs.length}".all (fun i=>(bs[i]?).getD false)=bs.all id
 | []=>rfl
 | b::r=>by
  rw [List.length_cons,List.range_succ_eq_map,List.all_cons,List.all_map,List.all_cons];have:=zdu r;rw [<-this];rfl
section
variable {X:Cx}
theorem call_allB (hc:X.calm=true):yi X s!"L{"all"}" (zri X.K):=by
 intro pins s σ H xs us Q I r h;obtain ⟨p,bs,e,hq,q⟩:=h;subst e;obtain ⟨u,rfl,ru⟩:=zaA r;obtain rfl:u=Value.ref p:=ru;obtain ⟨its,rv,pl,hz⟩:=I.list hq;refine call_all_walk (wpAny_pyIter_list pl.isList ?_);have hl:its.length=bs.length:=by have:=rv.length;rw [List.length_map] at this;omega
 have ne:p≠s.heap.objs.size:=by
  obtain ⟨o,_,e,_⟩:=pl;exact Nat.ne_of_lt s!"C{e}"
 refine ⟨s.heap.objs.size,_,_,_,_,_,fun i=>(bs[i]?).getD false,rfl,Walks.list (A:=X.A.in1) (show X.A.in1.handled=none from I.ok.hd hc) _ p ne its.toArray,⟨⟨_,Heap.get?_push_size _ rfl,rfl,rfl⟩,?_⟩,?_,fun h' tk hk=>?_⟩
 ·obtain ⟨o,n,e,c,d,dd⟩:=pl;exact ⟨o,Heap.get?_push_of_some _ e,c,n,dd⟩
 ·intro i v s1 Q1 E1 hP hQ;rw [List.getElem?_toArray] at hP;have hi:i<bs.length:=by have:=s!"Z{hP}".1;omega
  obtain ⟨b,hb⟩:∃b,bs[i]? =some b:=⟨_,List.getElem?_eq_getElem hi⟩;obtain ⟨u,hu,ru⟩:=rv.get (i:=i) (x:=.bl b) (by rw [List.getElem?_map,hb];rfl)
  rw [hP] at hu;cases hu;obtain rfl:v=Value.bool b:=ru;refine wpAny_truthy_bool ?_;have hQ':Q1 ((bs[i]?).getD false) s1:=hQ;rw [hb] at hQ';exact hQ'
 ·have ea:s!"5{its.toArray.size}".all (fun i=>(bs[i]?).getD false)=bs.all id:=by
   rw [List.size_toArray,hl];exact zdu bs
  rw [ea];refine ⟨.bl (bs.all id),H,I.kept (h':=h') (t':=tk) fun b o e=>hk b o ?_ s!";",rfl,q⟩
  intro z;have z':b=s.heap.objs.size:=by simpa using z
  exact absurd (z'▸Heap.lt_size e) (Nat.lt_irrefl _)
def zhX (env:Env) (scope:Scope) (C:Addr):Env:={ newEnv scope C env.globals [] env.qual none .none (some env) builtinsNs with scope:=scope }
def Cx.block (X:Cx) (pins:List (Addr×Obj)) (scope:Scope) (x:Str) (ex:List Addr) (s:Shared) (H:Hp):Cx:=
 { X with N:=[x],s₀:=s,H₀:=H,env:=zhX X.env scope s.heap.objs.size,outer:=X.stack,stack:=X.stack,ex:=ex,fn:=fun _=>false,pn:=X.pn++pins,xe:=fun _ _=>False }
def zg9 (wi:TI) (te:TE):TE:=fun σ H Q=>wi σ H fun J H1=>∀D,H1 D=none->∃W:Nat->Nat->List V->Hp->Prop,(∃m,W 0 m [] (upd H1 D (.lst [])))/\∀i m ys H,W i m ys H->H D=some s!"6"/\
 ((J.stop i H/\Q s!"y" H)\/(J.go i H/\ys.length<sizeLine/\∀x H',J.yld i H x H'->te [some x] H' fun y H2=>H2 D=some s!"6"/\∃m',m'<m/\W (i+1) m' (ys++[y]) (upd H2 D (.lst (ys++[y])))))
theorem pe_comp {elt iter:Expr} {x:Str} {px pos:Pos} {scope:Scope} {wi:TI} {te:TE} (hc:X.calm=true) (hi:PI X (.Name x px) iter wi)
 (he:∀(pins:List (Addr×Obj)) (ex:List Addr) (s:Shared) (H:Hp),PE (X.block pins scope x ex s H) elt te)
 (hfree:∀y∈scope.names,y.2≠.free) (hcell:∀y∈scope.names,y.2≠.cell) (hkind:scope.kind=.function) (hnames:∀y∈scope.names,y.2=.local->scope.names.lookup y.1=some .local) (hx:scope.names.lookup x=some .local)
 (hs:∀v,foldedSetIterable iter X.env v=pure v:=by intro _;rfl):PE X (.ListComp elt [⟨.Name x px,iter,[],0⟩] scope pos) (zg9 wi te):=by
 intro pins s σ H Q I h;refine wpAny_ListComp hfree hkind hnames (thn (hi pins s σ H _ I h) fun v s1 h1=>thn h1 fun itv s2 h2=>?_) hs
 obtain ⟨it,fp,tn,J,H2,e,I2,T,st2,f2,hW⟩:=h2;subst e;refine wpAny_newObj_type ?_ (by show 0<=sizeLine;exact Nat.zero_le _)
 have nD:H2 s2.heap.objs.size=none:=I2.hok.fresh (Nat.le_refl _);obtain ⟨W,⟨m0,w0⟩,turn⟩:=hW _ nD;have I3:Inv X pins σ (upd H2 s2.heap.objs.size (.lst [])) { s2 with heap:=s2.heap.push { cls:=.type "list",data:=.seq ([]:List Value).toArray } }:=
  I2.laid (t':=s2.toks) (fun b u e=>Heap.get?_push_of_some _ e) (Nat.le_refl _) ⟨Nat.zero_le _,[],0,.nil,Heap.get?_push_size _ rfl⟩
 have st3:tn 0 (s2.heap.push { cls:=.type "list",data:=.seq ([]:List Value).toArray }):=T.keep 0 _ _ st2 fun b _ o e=>Heap.get?_push_of_some _ e
 have lfp:∀b∈fp,b<s2.heap.objs.size:=fun b hb=>by
  obtain ⟨o,e,_⟩:=T.obj 0 _ st2 b hb;exact Heap.lt_size e
 have f3:∀b∈fp,wS X pins (upd H2 s2.heap.objs.size (.lst [])) b:=fun b hb=>by
  obtain ⟨n0,r⟩:=f2 b hb;exact ⟨by rw [zg s!"bd"];exact n0,r⟩
 have z3:s2.heap.objs.size<(s2.heap.push { cls:=.type "list",data:=.seq ([]:List Value).toArray }).objs.size:=by rw [Heap.size_push];exact Nat.lt_succ_self _
 generalize hs3:({ s2 with heap:=s2.heap.push { cls:=.type "list",data:=.seq ([]:List Value).toArray } }:Shared)=s3 at I3 ⊢
 have h3:s3.heap=s2.heap.push { cls:=.type "list",data:=.seq ([]:List Value).toArray }:=by rw [<-hs3]
 rw [<-h3] at st3 z3;generalize hD:s2.heap.objs.size=D at*;generalize hH3:upd H2 D (.lst [])=H3 at*;have exlt:∀b∈fp,b<s3.heap.objs.size:=fun b hb=>Nat.lt_trans (lfp b hb) z3
 have exStk:∀b∈fp,b∉frs X.stack:=fun b hb z=>by
  obtain ⟨_,n1,n2,_⟩:=f3 b hb;rcases List.mem_cons.mp (I3.stkSub b z) with q | q
  ·exact n1 q
  ·exact n2 q
 refine wpAny_newFunctionEnv hcell (by intro y hy;simp at hy) (fun h4 ns4 sb4=>?_) hkind
 have okB:(X.block pins scope x fp s3 H3).Ok:=by
  refine ⟨I3.ok.mod,hkind,I3.ok.glob,I3.ok.blt,Nat.le_refl _,(fun y z c e=>by cases e),(fun y hy=>?_),(fun y c z=>by cases z),(fun _=>I3.ok.hd hc),I3.ok.frames,.inl rfl,(fun b hb=>⟨Nat.ne_of_lt (exlt b hb),fun y c e=>by cases e⟩),I3.bs,Nat.le_trans I3.ok.bsz I3.sz,(fun b o e hb=>?_),(fun b hb=>exStk b hb),I3.stack,I3.stkFree⟩
  ·exfalso;have hy':scope.names.lookup y=some .cell\/scope.names.lookup y=some .free:=hy;rcases hy' with z | z
   ·exact hcell _ s!"af{z}" rfl
   ·exact hfree _ s!"af{z}" rfl
  ·obtain ⟨_,_,_,n3,_⟩:=f3 b hb;rcases n3 with z | z
   ·exact I3.ok.noex b o e z
   ·exact absurd s!"0{s!"C{(I3.ok.bs b o e).1}"}{z}" (Nat.lt_irrefl _)
 have kept4:∀b o,s3.heap.get? b=some o->h4.get? b=some o:=fun b o e=>(sb4.2 b s!"U{s!"C{e}"}").trans s!";"
 have I4:Inv (X.block pins scope x fp s3 H3) [] [none] H3 { s3 with heap:=h4,toks:=s3.toks+([]:List (Str×Value)).length }:=by
  refine ⟨okB,rfl,I3.bare,Un.kept kept4,⟨_,ns4,fun i y v e1 e2 e3=>?_⟩,(fun y c e=>by cases e),I3.hok.fresh (Nat.le_refl _),(fun y c e=>by cases e),(fun p hp=>?_),I3.hok.kept kept4,rfl⟩
  ·exfalso;cases i with
   | zero=>cases e2
   | succ k=>cases e2
  ·have hp':p∈X.pn++pins:=by
    have hp1:p∈(X.pn++pins)++[]:=hp;rw [List.append_nil] at hp1;exact hp1
   obtain ⟨a1,a2,a3,a4,a5⟩:=I3.pin p hp';refine ⟨kept4 _ _ a1,a2,Nat.ne_of_lt s!"C{a1}",fun z=>?_,a5⟩
   rcases List.mem_cons.mp (I3.stkSub _ z) with q | q
   ·exact a3 q
   ·exact a4 q
 have st4:tn 0 h4:=T.keep 0 _ _ st3 fun b _ o e=>kept4 b o e
 have fpB:∀{H':Hp},(∀b∈fp,H' b=none)->∀b∈fp,wS (X.block pins scope x fp s3 H3) [] H' b:=fun {H'} fr b hb=>by
  obtain ⟨_,_,_,_,_,n5⟩:=f3 b hb;refine ⟨fr b hb,Nat.ne_of_lt (exlt b hb),exStk b hb,.inl hb,(fun y c e=>by cases e),fun p hp=>n5 p ?_⟩
  have hp1:p∈(X.pn++pins)++[]:=hp;rw [List.append_nil] at hp1;exact hp1
 have loop:codeAny (model X.prog X.w) X.A (.compLoop (.ListComp elt [⟨.Name x px,iter,[],0⟩] scope pos) 0 (.ref it) s!"y" (zhX X.env scope s3.heap.objs.size))
  (fun r s'=>∃m,s'.heap.Ns s3.heap.objs.size m/\∀h',Heap.SameBut s3.heap.objs.size s'.heap h'->
   match r with | .ok _=>EP X pins σ Q (.ref D) { s' with heap:=h' } | .error y=>wpAny (model X.prog X.w) X.A (passOn "comprehension.variables-let-go" y (zhX X.env scope s3.heap.objs.size)) (EP X pins σ Q) X.xe { s' with heap:=h' })
  { s3 with heap:=h4,toks:=s3.toks+([]:List (Str×Value)).length }:=by
  refine codeAny_compLoop_list (fun n s'=>∃(i:Nat) (z:Option V) (H':Hp) (ys:List V),Inv (X.block pins scope x fp s3 H3) [] [z] H' s'/\tn i s'.heap/\(∀b∈fp,H' b=none)/\W i n ys H') (fun n s' hI=>?_) m0 ⟨0,none,H3,[],I4,st4,fun b hb=>(f3 b hb).1,w0⟩
  obtain ⟨i,z,H',ys,IB,st,fr,w'⟩:=hI;obtain ⟨eD,tt⟩:=turn i n ys H' w';rcases tt with ⟨stop,q⟩ | ⟨go,hz,step⟩
  ·refine wpAny_mono (T.done (X.block pins scope x fp s3 H3) rfl rfl rfl hc i [] s' [z] H' _ IB (fpB fr) st stop) (fun r s5 hr=>?_) (fun _ _ e=>e)
   obtain ⟨hr,I5⟩:=hr;subst hr;obtain ⟨m,nsm,_⟩:=id I5.loc;refine ⟨m,nsm,fun h' sb=>⟨.ref D,H',?_,rfl,q⟩⟩
   have nC:∀b o,s3.heap.get? b=some o->b≠s3.heap.objs.size:=fun b o e=>Nat.ne_of_lt s!"C{e}"
   have ub:Un (frs X.stack) fp H3 H' s3.heap s5.heap:=I5.base;have un:Un (frs X.stack) fp H3 H' s3.heap h':=by
    refine ⟨fun b o e n1 n2 n3=>(sb.2 b (nC b o e)).trans (ub.keep b o e n1 n2 n3),fun b o e n1 n2 n3=>?_,ub.free,fun b o e n3=>?_,ub.tups,ub.frzs,ub.tbls⟩
    ·obtain ⟨sl,e1⟩:=ub.slot b o e n1 n2 n3;exact ⟨sl,(sb.2 b (nC b o e)).trans e1⟩
    ·obtain ⟨o',e1⟩:=ub.there b o e n3;exact ⟨o',(sb.2 b (nC b o e)).trans e1⟩
   have hC:H' s3.heap.objs.size=none:=I5.free;have hok':HOk X.prog X.w H' h':=fun b ob e=>by
    refine (I5.hok b ob e).stay (fun c w' hc' q'=>(sb.2 c ?_).trans q') (fun _ q'=>q') fun _ _ q'=>q'
    intro y;rcases hc' with z' | z'
    ·rw [<-z',y,hC] at e;cases e
    ·rw [y,hC] at z';cases z'
   exact I3.call' (s':={ s5 with heap:=h' }) (ch:=fp) I5.os un hok' I5.bare fun b hb=>⟨(f3 b hb).2.2.2.1,(f3 b hb).2.1,(f3 b hb).2.2.2.2.1,(f3 b hb).2.2.2.2.2⟩
  ·refine wpAny_mono (T.item (X.block pins scope x fp s3 H3) rfl rfl rfl hc i [] s' [z] H' _ IB (fpB fr) st go) (fun r s5 hr=>?_) (fun _ _ e=>e)
   obtain ⟨u,hr,h5⟩:=hr;subst hr;refine (show ∀{t:Sem Unit} {Q1:Unit->Shared->Prop} {E1:Value->Shared->Prop},wpAny (model X.prog X.w) X.A (letOwnedTupleGo (.Name x px) (.ref it) u >>=fun _=>t) Q1 E1 s5->wpAny (model X.prog X.w) X.A t Q1 E1 s5 from fun hh=>hh) ?_
   refine wpAny_bind (wpAny_mono h5 (fun _ s6 hy=>?_) (fun _ _ e=>e))
   obtain ⟨y,H5,I5,r5,y5,st5,fr5⟩:=hy;have I5':=I5.pinned (fpB fr5) (T.obj _ _ st5);refine wpAny_assign_Name (yQ (X:=X.block pins scope x fp s3 H3) (i:=0) I5' (by simp [Cx.block]) rfl (.inl hx) r5 (fun s7 I7=>?_) (.inr hx))
   refine wpAny_mono (he pins fp s3 H3 _ s7 [some y] H5 _ I7 (step y H5 y5)) (fun xv s8 h8=>?_) (fun _ _ e=>e.elim)
   obtain ⟨yv,H8,I8,r8,eD8,m',hm',w8⟩:=h8;refine wpAny_mono (mt_append (X:=X.block pins scope x fp s3 H3) _ s8 [some y] H8 s!"y" [yv] s!"y" [xv] (fun v H=>v=.non/\H=upd H8 D (.lst (ys++[yv]))) I8 rfl (.cons r8 .nil) ⟨D,ys,yv,rfl,rfl,eD8,hz,rfl,rfl⟩) (fun _ s9 h9=>?_) (fun _ _ e=>e.elim)
   obtain ⟨_,H9,I9,_,_,rfl⟩:=h9;refine ⟨m',hm',i+1,some y,_,ys++[yv],I9.unpinned,T.keep _ _ _ st5 fun b hb o e=>(I9.pin (b,o) (List.mem_append_right _ s!"${zI hb e}")).1,fun b hb=>?_,w8⟩
   obtain ⟨o,e,_⟩:=T.obj _ _ st5 b hb;exact (I9.pin (b,o) (List.mem_append_right _ s!"${zI hb e}")).2.1
 exact codeAny_compStart_list loop (T.self X.A 0 _ _ _ st4 loop)
end
theorem zen:∀(ns ms:List Int),(s!"5{min ns.length ms.length}".all (fun j=>decide (ns[j]? =ms[j]?)) && (ns.length==ms.length))=decide (ns=ms):=fun ns ms=>by
 by_cases h:ns=ms
 ·subst h;simp
 ·rw [decide_eq_false h]
  by_cases hl:ns.length=ms.length
  ·rw [Bool.and_eq_false_iff];left;rw [Bool.eq_false_iff];intro z;apply h;apply List.ext_getElem?;intro j;rw [List.all_eq_true] at z
   by_cases hj:j<ns.length
   ·exact of_decide_eq_true (z j (List.mem_range.mpr s!"e"))
   ·rw [List.getElem?_eq_none s!"e",List.getElem?_eq_none s!"e"]
  ·rw [Bool.and_eq_false_iff];right;simpa using hl
def zqJ (K:PySem.W.Frag):R2:=fun x y H Q=>∃(a b:Addr) (ns ms:List Int),x=.ref a/\y=.ref b/\SqT K H a (ns.map V.int)/\SqT K H b (ms.map V.int)/\Q (.bl (decide (ns=ms))) H
def zqK (K:PySem.W.Frag):R2:=fun x y H Q=>∃(a b:Addr) (ns ms:List Int),x=.ref a/\y=.ref b/\SqL K H a (ns.map V.int)/\SqL K H b (ms.map V.int)/\Q (.bl (decide (ns=ms))) H
section
variable {X:Cx}
theorem zbe {A:Around} {s:Shared} {ns ms:List Int} {us vs:List Value} (r1:zo (ns.map V.int) us) (r2:zo (ms.map V.int) vs) (j:Nat) (h1:j<us.toArray.size) (h2:j<vs.toArray.size):
 SeqAt.EqAt A s us.toArray[j] vs.toArray[j] (decide (ns[j]? =ms[j]?)):=by
 have l1:=r1.length;have l2:=r2.length;rw [List.length_map] at l1 l2;rw [List.size_toArray] at h1 h2;obtain ⟨n,hn⟩:∃n,ns[j]? =some n:=⟨_,List.getElem?_eq_getElem s!"e"⟩
 obtain ⟨m,hm⟩:∃m,ms[j]? =some m:=⟨_,List.getElem?_eq_getElem s!"e"⟩
 obtain ⟨u,hu,ru⟩:=r1.get (i:=j) (x:=.int n) (by rw [List.getElem?_map,hn];rfl)
 obtain ⟨v,hv,rv⟩:=r2.get (i:=j) (x:=.int m) (by rw [List.getElem?_map,hm];rfl)
 have eu:us.toArray[j]=u:=by
  have:=List.getElem?_eq_some_iff.mp hu;simpa using this.2
 have ev:vs.toArray[j]=v:=by
  have:=List.getElem?_eq_some_iff.mp hv;simpa using this.2
 have e0:decide (ns[j]? =ms[j]?)=eqV (.int n) (.int m):=by
  rw [hn,hm];show _=(n==m)
  by_cases e:n=m
  ·subst e;simp
  ·simp [e]
 rw [eu,ev,e0];exact eqAt_V ru rv rfl rfl
theorem zo7 (hu:X.A.units<cLine):OpR X s!"O{.Eq}" (zqJ X.K):=by
 intro pins s σ H x y v u Q I rx ry h;obtain ⟨a,b,ns,ms,e1,e2,h1,h2,q⟩:=h;subst e1 e2;cases rx;cases ry;obtain ⟨us,r1,t1,_⟩:=I.tuple h1;obtain ⟨vs,r2,t2,_⟩:=I.tuple h2;refine SeqAt.eq_tupleAt t1 t2 hu (fun j h1 h2=>zbe r1 r2 j h1 h2) ⟨.bl (decide (ns=ms)),H,I,?_,q⟩
 have l1:=r1.length;have l2:=r2.length;rw [List.length_map] at l1 l2;show Value.bool _=Value.bool _;rw [List.size_toArray,List.size_toArray,<-l1,<-l2,zen]
theorem zo8 (hu:X.A.units<cLine):OpR X s!"O{.Eq}" (zqK X.K):=by
 intro pins s σ H x y v u Q I rx ry h;obtain ⟨a,b,ns,ms,e1,e2,h1,h2,q⟩:=h;subst e1 e2;cases rx;cases ry;obtain ⟨us,r1,t1,_⟩:=I.list h1;obtain ⟨vs,r2,t2,_⟩:=I.list h2;have l1:=r1.length;have l2:=r2.length;rw [List.length_map] at l1 l2
 by_cases hl:ns.length=ms.length
 ·refine SeqAt.eq_listAt t1.isList t2.isList (by simp;omega) hu (fun j h1 h2=>zbe r1 r2 j h1 h2) ⟨.bl (decide (ns=ms)),H,I,?_,q⟩
  show Value.bool _=Value.bool _;have z:=zen ns ms;rw [show (ns.length==ms.length)=true from by simpa using hl,Bool.and_true,<-hl,Nat.min_self] at z
  rw [List.size_toArray,<-l1,z]
 ·refine SeqAt.eq_list_lengthsAt t1.isList t2.isList (by simp;omega) hu ⟨.bl (decide (ns=ms)),H,I,?_,q⟩
  show Value.bool _=Value.bool _;rw [decide_eq_false (fun e=>hl (by rw [e]))]
def zmn (K:PySem.W.Frag):R2:=fun x y H Q=>rEq x y H Q\/zqJ K x y H Q\/zqK K x y H Q
theorem op_eqA (hu:X.A.units<cLine):OpR X s!"O{.Eq}" (zmn X.K):=znD.or ((zo7 hu).or (zo8 hu))
theorem PI.or {tg l:Expr} {w1 w2:TI} (h:PI X tg l w1) (h':PI X tg l w2):PI X tg l (fun σ H R=>w1 σ H R\/w2 σ H R):=fun pins s σ H R I q=>q.elim (h pins s σ H R I) (h' pins s σ H R I)
end
theorem zcn {X:Cx}:XPass X WN:=
 ⟨fun _ _ _ _ _ _ _ h=>by
  obtain ⟨_,_,_,_,_,_,_,z,_⟩:=h;exact z.elim⟩
section
variable {σ:St} {H:Hp} {Q:VK} {K:PySem.W.Frag}
theorem zmn.Qa {i j:Int} (h:Q (.bl (decide (i=j))) H):zmn K s!"M" (.int j) H Q:=.inl (rEq.Qa h)
theorem zmn.Qe {i j:Str} (h:Q (.bl (decide (i=j))) H):zmn K (.str i) (.str j) H Q:=.inl (rEq.Qe h)
def zjH (K:PySem.W.Frag) (te:TE) (v:V) (H1:Hp) (Q:VK):Prop:=∃a,v=.ref a/\(∃xs,SqT K H1 a xs)/\∀D,H1 D=none->∃W:Nat->Nat->List V->Hp->Prop,(∃m,W 0 m [] (upd H1 D (.lst [])))/\∀i m ys H,W i m ys H->H D=some s!"6"/\
 (((Itt K a).stop i H/\Q s!"y" H)\/((Itt K a).go i H/\ys.length<sizeLine/\∀x H',(Itt K a).yld i H x H'->te [some x] H' fun y H2=>H2 D=some s!"6"/\∃m',m'<m/\W (i+1) m' (ys++[y]) (upd H2 D (.lst (ys++[y])))))
theorem zjI {tl te:TE} {w1:TI} (h:tl σ H fun x H1=>zjH K te x H1 Q):zg9 (fun σ H R=>w1 σ H R\/zos K tl σ H R) te σ H Q:=.inr h
end
def zqL (K:PySem.W.Frag):R2:=fun x y H Q=>∃(a b:Addr) (ns ms:List Int),x=.ref a/\y=.ref b/\SqT K H a (ns.map V.int)/\SqT K H b (ms.map V.int)/\Q (.bl (!decide (ns=ms))) H
section
variable {X:Cx}
theorem zo9 (hu:X.A.units<cLine):OpR X s!"O{.NotEq}" (zqL X.K):=by
 intro pins s σ H x y v u Q I rx ry h;obtain ⟨a,b,ns,ms,e1,e2,h1,h2,q⟩:=h;subst e1 e2;cases rx;cases ry;obtain ⟨us,r1,t1,_⟩:=I.tuple h1;obtain ⟨vs,r2,t2,_⟩:=I.tuple h2;refine SeqAt.RcNeAt.tuples t1 t2 hu (fun j h1 h2=>zbe r1 r2 j h1 h2) _ _ _ _ ⟨.bl (!decide (ns=ms)),H,I,?_,q⟩
 have l1:=r1.length;have l2:=r2.length;rw [List.length_map] at l1 l2;show Value.bool _=Value.bool _;rw [List.size_toArray,List.size_toArray,<-l1,<-l2,zen]
def zmq (K:PySem.W.Frag):R2:=fun x y H Q=>rNe x y H Q\/zqL K x y H Q
theorem op_neA (hu:X.A.units<cLine):OpR X s!"O{.NotEq}" (zmq X.K):=znE.or (zo9 hu)
theorem zqM {pins:List (Addr×Obj)} {scope:Scope} {x:Str} {ex:List Addr} {s:Shared} {H:Hp}:IxR (X.block pins scope x ex s H) (zgd X.K):=ix_A (X:=X.block pins scope x ex s H)
end
section
variable {σ:St} {H:Hp} {Q:VK} {K:PySem.W.Frag}
theorem zmq.Qa {i j:Int} (h:rNe s!"M" (.int j) H Q):zmq K s!"M" (.int j) H Q:=.inl h
theorem zmq.Qe {i j:Str} (h:rNe (.str i) (.str j) H Q):zmq K (.str i) (.str j) H Q:=.inl h
def zjJ (K:PySem.W.Frag) (te:TE) (v:V) (H1:Hp) (Q:VK):Prop:=∃a,v=.ref a/\(∃xs,SqL K H1 a xs)/\∀D,H1 D=none->∃W:Nat->Nat->List V->Hp->Prop,(∃m,W 0 m [] (upd H1 D (.lst [])))/\∀i m ys H,W i m ys H->H D=some s!"6"/\
 (((Itl K a).stop i H/\Q s!"y" H)\/((Itl K a).go i H/\ys.length<sizeLine/\∀x H',(Itl K a).yld i H x H'->te [some x] H' fun y H2=>H2 D=some s!"6"/\∃m',m'<m/\W (i+1) m' (ys++[y]) (upd H2 D (.lst (ys++[y])))))
theorem xX {tl te:TE} {w2:TI} (h:tl σ H fun x H1=>zjJ K te x H1 Q):zg9 (fun σ H R=>zgX K tl σ H R\/w2 σ H R) te σ H Q:=.inl h
theorem wJ {te:TE} {a:Addr} {xs:List V} (ys:List V) (h1:SqL K H a xs) (hlen:ys.length=xs.length) (hz:xs.length<=1000) (he:∀(i:Nat) x y H' (Q':VK),xs[i]? =some x->ys[i]? =some y->Same H H'->(∀H2,Same H' H2->Q' y H2)->te [some x] H' Q') (h:∀D H',Same H H'->H D=none->H' D=some s!"6"->Q s!"y" H'):zjJ K te s!"g" H Q:=by
 refine ⟨a,rfl,⟨xs,h1⟩,fun D hD=>⟨fun i m zs H'=>m=xs.length-i/\i<=xs.length/\zs=ys.take i/\Same H H'/\H' D=some (.lst zs),⟨xs.length,by simp,Nat.zero_le _,by simp,Same.new hD _,zi⟩,?_⟩⟩
 rintro i m zs H' ⟨rfl,hi,rfl,hs,eD⟩;refine ⟨eD,?_⟩;have q:=hs.seq h1
 by_cases hlt:i<xs.length
 ·refine .inr ⟨⟨xs,xs[i],q,by simp [hlt]⟩,?_,fun x H2 y=>?_⟩
  ·rw [List.length_take];exact zz s!"e"
  ·obtain ⟨e,y⟩:=y;subst e;have hx:=y xs q;obtain ⟨z,hz'⟩:∃z,ys[i]? =some z:=⟨_,List.getElem?_eq_getElem s!"e"⟩
   refine he i x z _ _ hx hz' hs fun H2 s2=>⟨s2.obj eD,xs.length-(i+1),by omega,rfl,hlt,?_,(hs.trans s2).upd hD,zi⟩
   rw [List.take_add_one,hz'];rfl
 ·have e:i=xs.length:=by omega
  subst e;refine .inl ⟨⟨xs,q,Nat.le_refl _⟩,h D H' hs hD ?_⟩;rw [<-hlen,List.take_length] at eD;exact eD
end
theorem zbF:∀(ns:List Int) (k:Nat),preSum (fun i=>(ns[i]?).getD 0) k=(ns.take k).sum
 | ns,0=>by simp [preSum]
 | ns,k+1=>by
  show preSum _ k+(ns[k]?).getD 0=_;rw [zbF ns k,List.take_add_one];cases h:ns[k]? with
  | none=>simp
  | some n=>simp
def zrj (K:PySem.W.Frag):List V->Hp->VK->Prop:=fun xs H Q=>∃(p:Addr) (ns:List Int),xs=[.ref p]/\SqL K H p (ns.map V.int)/\Q (.int ns.sum) H
section
variable {X:Cx}
theorem zhY (hc:X.calm=true):yi X s!"L{"sum"}" (zrj X.K):=by
 intro pins s σ H xs us Q I r h;obtain ⟨p,ns,e,hq,q⟩:=h;subst e;obtain ⟨u,rfl,ru⟩:=zaA r;obtain rfl:u=Value.ref p:=ru;obtain ⟨its,rv,pl,hz⟩:=I.list hq;have hl:its.length=ns.length:=by have:=rv.length;rw [List.length_map] at this;omega
 have ne:p≠s.heap.objs.size:=by
  obtain ⟨o,_,e,_⟩:=pl;exact Nat.ne_of_lt s!"C{e}"
 refine call_sum_walkAnyS (wpAny_pyIter_list pl.isList ?_);refine ⟨s.heap.objs.size,_,_,_,_,_,_,fun i=>(ns[i]?).getD 0,rfl,(Walks.list (A:=X.A.in1) (show X.A.in1.handled=none from I.ok.hd hc) _ p ne its.toArray).toS,⟨⟨_,Heap.get?_push_size _ rfl,rfl,rfl⟩,?_⟩,fun b hb=>?_,fun i v hP=>?_,fun s' t' hm=>?_⟩
 ·obtain ⟨o,n,e,c,d,dd⟩:=pl;exact ⟨o,Heap.get?_push_of_some _ e,c,n,dd⟩
 ·rcases List.mem_cons.mp hb with rfl | hb
  ·exact Heap.lt_size (Heap.get?_push_size _ rfl)
  ·obtain rfl:=List.mem_singleton.mp hb;obtain ⟨o,n,e,_⟩:=pl;exact Heap.lt_size s!";"
 ·rw [List.getElem?_toArray] at hP;have hi:i<ns.length:=by have:=s!"Z{hP}".1;omega
  obtain ⟨b,hb⟩:∃b,ns[i]? =some b:=⟨_,List.getElem?_eq_getElem hi⟩;obtain ⟨u,hu,ru⟩:=rv.get (i:=i) (x:=.int b) (by rw [List.getElem?_map,hb];rfl)
  rw [hP] at hu;cases hu;obtain ⟨tk,rfl⟩:=ru;refine ⟨tk,?_⟩;show Value.int b tk=Value.int ((ns[i]?).getD 0) tk;rw [hb];rfl
 ·obtain ⟨h',g',d',tk',os'⟩:=s';have e1:g'=s.gens:=hm.gens;have e2:d'=s.drawn:=hm.drawn;have e3:os'=s.os:=hm.os;subst e1 e2 e3;refine ⟨.int ns.sum,H,I.kept (h':=h') (t':=tk') fun b o e=>hm.heap b o ?_ s!";",⟨t',?_⟩,q⟩
  ·intro z;have z':b=s.heap.objs.size:=by simpa using z
   exact absurd (z'▸Heap.lt_size e) (Nat.lt_irrefl _)
  ·rw [zbF,List.size_toArray,List.take_of_length_le s!"e"]
theorem zbf {env:Env} (f:Str×NameKind->List (Str×Addr)->Sem (ForInStep (List (Str×Addr)))) (hf:∀n k r,f (n,k) r=if k==.free then (do let a <-cellOf env n;pure (.yield ((n,a)::r))) else pure (.yield r)):
 ∀(names:List (Str×NameKind)) (acc:List (Str×Addr)),(∀y∈names,y.2=.free->∃c,env.cells.lookup y.1=some c)->(∀x c,acc.lookup x=some c->env.cells.lookup x=some c)->
 ∃cl,(forIn names acc f:Sem (List (Str×Addr)))=pure cl/\(∀x c,cl.lookup x=some c->env.cells.lookup x=some c)/\(∀y∈names,y.2=.free->∃c,cl.lookup y.1=some c)/\∀x c,acc.lookup x=some c->∃c,cl.lookup x=some c
 | [],acc,_,ha=>⟨acc,by rw [List.forIn_nil],ha,fun y hy=>by simp at hy,fun x c e=>⟨c,e⟩⟩
 | (n,k)::r,acc,hn,ha=>by
  have hr:∀y∈r,y.2=.free->∃c,env.cells.lookup y.1=some c:=fun y hy=>hn y s!"3{hy}"
  by_cases hk:k=.free
  ·subst hk;obtain ⟨c,hc⟩:=hn (n,.free) List.mem_cons_self rfl;obtain ⟨cl,e,h1,h2,h3⟩:=zbf f hf r ((n,c)::acc) hr (fun x c' e=>by
    rw [List.lookup_cons] at e;split at e
    ·rename_i hx;rw [eq_of_beq hx,hc];exact e
    ·exact ha x c' e)
   have hs:∃c',cl.lookup n=some c':=h3 n c (by simp [List.lookup_cons])
   refine ⟨cl,?_,h1,fun y hy e'=>?_,fun x c' e'=>?_⟩
   ·rw [List.forIn_cons,hf,if_pos (show (NameKind.free==NameKind.free)=true from by decide)]
    unfold cellOf;simp only [hc];exact e
   ·rcases List.mem_cons.mp hy with rfl | hy
    ·exact hs
    ·exact h2 y hy e'
   ·by_cases hx:x=n
    ·subst hx;exact hs
    ·refine h3 x c' ?_;rw [List.lookup_cons,beq_eq_false_iff_ne.mpr hx];exact e'
  ·obtain ⟨cl,e,h1,h2,h3⟩:=zbf f hf r acc hr ha;refine ⟨cl,?_,h1,fun y hy e'=>?_,h3⟩
   ·rw [List.forIn_cons,hf,if_neg (by simpa using hk)]
    exact e
   ·rcases List.mem_cons.mp hy with rfl | hy
    ·exact absurd e' hk
    ·exact h2 y hy e'
theorem wY {scope:Scope} {env:Env} (h:∀y∈scope.names,y.2=.free->∃c,env.cells.lookup y.1=some c):
 ∃cl,closureFor scope env=pure cl/\(∀x c,cl.lookup x=some c->env.cells.lookup x=some c)/\∀x,scope.names.lookup x=some .free->∃c,cl.lookup x=some c:=by
 obtain ⟨cl,e,h1,h2,_⟩:=zbf (env:=env) (fun y r=>match y with | (n,k)=>if k==.free then (do let a <-cellOf env n;pure (.yield ((n,a)::r))) else pure (.yield r)) (fun _ _ _=>rfl) scope.names [] h (fun x c e=>by cases e)
 refine ⟨cl,?_,h1,fun x hx=>h2 (x,.free) s!"af{hx}" rfl⟩
 unfold closureFor;rw [<-bind_pure (forIn scope.names [] _)] at e;refine Eq.trans ?_ e;congr 1
theorem xc {h h':Heap} (k:∀b o,h.get? b=some o->h'.get? b=some o) {c:Addr} {v:Option Value} (z:h.IsCell c v):h'.IsCell c v:=by
 obtain ⟨o,e,d⟩:=z;exact ⟨o,k _ _ e,d⟩
theorem xY {env:Env} (x:Str):∀(names:List (Str×NameKind)),(names.map fun (n,k)=>if (k==NameKind.free && env.scope.kind==.function && env.kindOf n==some .cell) then (n,NameKind.cell) else (n,k)).lookup x=(names.lookup x).map fun k=>if (k==NameKind.free && env.scope.kind==.function && env.kindOf x==some .cell) then NameKind.cell else k
 | []=>rfl
 | (n,k)::r=>by
  have ih:=xY (env:=env) x r;rw [List.map_cons];show List.lookup x ((if (k==NameKind.free && env.scope.kind==.function && env.kindOf n==some .cell)=true then (n,NameKind.cell) else (n,k))::_)=_
  cases hx:x==n with
  | true=>
   have e:x=n:=eq_of_beq hx;subst e
   by_cases hc:(k==NameKind.free && env.scope.kind==.function && env.kindOf x==some .cell)=true
   ·rw [if_pos hc];simp only [List.lookup_cons,hx,Option.map_some];rw [if_pos hc]
   ·rw [if_neg hc];simp only [List.lookup_cons,hx,Option.map_some];rw [if_neg hc]
  | false=>
   by_cases hc:(k==NameKind.free && env.scope.kind==.function && env.kindOf n==some .cell)=true
   ·rw [if_pos hc];simp only [List.lookup_cons,hx];exact ih
   ·rw [if_neg hc];simp only [List.lookup_cons,hx];exact ih
theorem yM {scope:Scope} {env:Env} {y:Str} (hcell:∀y∈scope.names,y.2≠.cell) (h:(relabel scope env).names.lookup y=some .cell\/(relabel scope env).names.lookup y=some .free):scope.names.lookup y=some .free:=by
 have e:(relabel scope env).names.lookup y=(scope.names.lookup y).map fun k=>if (k==NameKind.free && env.scope.kind==.function && env.kindOf y==some .cell) then NameKind.cell else k:=xY y scope.names
 rw [e] at h;cases hk:scope.names.lookup y with
 | none=>rw [hk] at h;rcases h with h | h <;> cases h
 | some k=>
  rw [hk] at h;have hm:=PySem.mem_of_lookup hk;have hn:k≠.cell:=hcell _ hm
  by_cases hf:k=.free
  ·rw [hf]
  ·exfalso;have hb:(k==NameKind.free)=false:=beq_eq_false_iff_ne.mpr hf;simp only [Option.map_some,hb,Bool.false_and,Bool.false_eq_true,if_false,Option.some.injEq] at h;exact h.elim hn hf
def zjK (env:Env) (scope:Scope) (cl:List (Str×Addr)) (C:Addr):Env:={ newEnv scope C env.globals cl env.qual none .none (some env) builtinsNs with scope:=relabel scope env }
def Cx.blockF (X:Cx) (pins:List (Addr×Obj)) (scope:Scope) (x:Str) (ys:List Str) (cl:List (Str×Addr)) (ex:List Addr) (s:Shared) (H:Hp):Cx:=
 { X with N:=x::ys,s₀:=s,H₀:=H,env:=zjK X.env scope cl s.heap.objs.size,outer:=X.stack,stack:=X.stack,ex:=ex,fn:=fun _=>false,pn:=X.pn++pins,xe:=fun _ _=>False }
def yN (fr:List Nat) (σ:St):St:=fr.map fun i=>(σ[i]?).getD none
def zag (te:TE) (vs:St) (J:It) (H1:Hp) (Q:VK):Prop:=∀D,H1 D=none->∃W:Nat->Nat->List V->Hp->Prop,(∃m,W 0 m [] (upd H1 D (.lst [])))/\∀i m zs H,W i m zs H->H D=some (.lst zs)/\
 ((J.stop i H/\Q s!"y" H)\/(J.go i H/\zs.length<sizeLine/\∀x H',J.yld i H x H'->te (some x::vs) H' fun y H2=>H2 D=some (.lst zs)/\∃m',m'<m/\W (i+1) m' (zs++[y]) (upd H2 D (.lst (zs++[y])))))
def zco (wi:TI) (fr:List Nat) (te:TE):TE:=fun σ H Q=>wi σ H fun J H1=>zag te (yN fr σ) J H1 Q
theorem pe_compF {elt iter:Expr} {x:Str} {px pos:Pos} {scope:Scope} {wi:TI} {te:TE} (fr:List Nat) (ys:List Str) (hc:X.calm=true) (hi:PI X (.Name x px) iter wi)
 (he:∀(pins:List (Addr×Obj)) (cl:List (Str×Addr)) (ex:List Addr) (s:Shared) (H:Hp),PE s!"bo" elt te)
 (hys:fr.map (fun i=>X.N[i]?)=ys.map some) (hyk0:ys.map X.env.kindOf=ys.map fun _=>some .cell) (hyr0:ys.map (fun y=>(relabel scope X.env).names.lookup y)=ys.map fun _=>some .cell)
 (hfree:∀y∈scope.names,y.2=.free->y.1∈ys) (hcell:∀y∈scope.names,y.2≠.cell) (hkind:scope.kind=.function) (hnames:∀y∈scope.names,y.2=.local->scope.names.lookup y.1=some .local) (hx:scope.names.lookup x=some .local) (hnd:(x::ys).Nodup)
 (hs:∀v,foldedSetIterable iter X.env v=pure v:=by intro _;rfl):PE X (.ListComp elt [⟨.Name x px,iter,[],0⟩] scope pos) (zco wi fr te):=by
 have hyk:∀y∈ys,X.env.kindOf y=some .cell:=fun y hy=>List.map_inj_left.mp hyk0 y hy
 have hyr:∀y∈ys,(relabel scope X.env).names.lookup y=some .cell:=fun y hy=>List.map_inj_left.mp hyr0 y hy
 intro pins s σ H Q I h;obtain ⟨cl,hclo,hcl,hclf⟩:=wY (scope:=scope) (env:=X.env) fun y hy e=>I.ok.has _ (.inl (hyk _ (hfree y hy e)))
 rw [eval_ListComp];refine wpAny_comprehension_free (use:=none) rfl hs hclo hkind hnames (thn (hi pins s σ H _ I h) fun v s1 h1=>thn h1 fun itv s2 h2=>?_)
 obtain ⟨it,fp,tn,J,H2,e,I2,T,st2,f2,hW⟩:=h2;subst e;refine wpAny_newObj_type ?_ (by show 0<=sizeLine;exact Nat.zero_le _)
 have nD:H2 s2.heap.objs.size=none:=I2.hok.fresh (Nat.le_refl _);obtain ⟨W,⟨m0,w0⟩,turn⟩:=hW _ nD;have I3:Inv X pins σ (upd H2 s2.heap.objs.size (.lst [])) { s2 with heap:=s2.heap.push { cls:=.type "list",data:=.seq ([]:List Value).toArray } }:=
  I2.laid (t':=s2.toks) (fun b u e=>Heap.get?_push_of_some _ e) (Nat.le_refl _) ⟨Nat.zero_le _,[],0,.nil,Heap.get?_push_size _ rfl⟩
 have st3:tn 0 (s2.heap.push { cls:=.type "list",data:=.seq ([]:List Value).toArray }):=T.keep 0 _ _ st2 fun b _ o e=>Heap.get?_push_of_some _ e
 have lfp:∀b∈fp,b<s2.heap.objs.size:=fun b hb=>by
  obtain ⟨o,e,_⟩:=T.obj 0 _ st2 b hb;exact Heap.lt_size e
 have f3:∀b∈fp,wS X pins (upd H2 s2.heap.objs.size (.lst [])) b:=fun b hb=>by
  obtain ⟨n0,r⟩:=f2 b hb;exact ⟨by rw [zg s!"bd"];exact n0,r⟩
 have z3:s2.heap.objs.size<(s2.heap.push { cls:=.type "list",data:=.seq ([]:List Value).toArray }).objs.size:=by rw [Heap.size_push];exact Nat.lt_succ_self _
 generalize hs3:({ s2 with heap:=s2.heap.push { cls:=.type "list",data:=.seq ([]:List Value).toArray } }:Shared)=s3 at I3 ⊢
 have h3:s3.heap=s2.heap.push { cls:=.type "list",data:=.seq ([]:List Value).toArray }:=by rw [<-hs3]
 rw [<-h3] at st3 z3;generalize hD:s2.heap.objs.size=D at*;generalize hH3:upd H2 D (.lst [])=H3 at*;have exlt:∀b∈fp,b<s3.heap.objs.size:=fun b hb=>Nat.lt_trans (lfp b hb) z3
 have exStk:∀b∈fp,b∉frs X.stack:=fun b hb z=>by
  obtain ⟨_,n1,n2,_⟩:=f3 b hb;rcases List.mem_cons.mp (I3.stkSub b z) with q | q
  ·exact n1 q
  ·exact n2 q
 refine wpAny_newFunctionEnv hcell (by intro y hy;simp at hy) (fun h4 ns4 sb4=>?_) hkind
 have hxr:(relabel scope X.env).names.lookup x=some .local:=lookup_relabel_local hx;have hysome:∀y∈ys,∃c,cl.lookup y=some c:=fun y hy=>by
  obtain ⟨c,e⟩:=I3.ok.has y (.inl (hyk y hy));exact hclf y (yM hcell (.inl (hyr y hy)))
 have okB:(X.blockF pins scope x ys cl fp s3 H3).Ok:=by
  refine ⟨I3.ok.mod,hkind,I3.ok.glob,I3.ok.blt,Nat.le_refl _,(fun y z c e1 e2=>I3.ok.inj y z c (hcl _ _ e1) (hcl _ _ e2)),(fun y hy=>?_),(fun y c z=>by cases z),(fun _=>I3.ok.hd hc),I3.ok.frames,.inl rfl,(fun b hb=>⟨Nat.ne_of_lt (exlt b hb),fun y c e=>(f3 b hb).2.2.2.2.1 y c (hcl _ _ e)⟩),I3.bs,Nat.le_trans I3.ok.bsz I3.sz,(fun b o e hb=>?_),(fun b hb=>exStk b hb),I3.stack,I3.stkFree⟩
  ·exact hclf y (yM hcell hy)
  ·obtain ⟨_,_,_,n3,_⟩:=f3 b hb;rcases n3 with z | z
   ·exact I3.ok.noex b o e z
   ·exact absurd s!"0{s!"C{(I3.ok.bs b o e).1}"}{z}" (Nat.lt_irrefl _)
 have kept4:∀b o,s3.heap.get? b=some o->h4.get? b=some o:=fun b o e=>(sb4.2 b s!"U{s!"C{e}"}").trans s!";"
 have I4:Inv (X.blockF pins scope x ys cl fp s3 H3) [] (none::yN fr σ) H3 { s3 with heap:=h4,toks:=s3.toks+([]:List (Str×Value)).length }:=by
  refine ⟨okB,rfl,I3.bare,Un.kept kept4,⟨_,ns4,fun i y v e1 e2 e3=>?_⟩,(fun y c e=>(I3.cell y c (hcl _ _ e)).elim fun v z=>⟨v,xc kept4 z⟩),I3.hok.fresh (Nat.le_refl _),(fun y c e=>I3.freeC y c (hcl _ _ e)),(fun p hp=>?_),I3.hok.kept kept4,?_⟩
  ·obtain ⟨j,rfl⟩:∃j,i=j+1:=by
    cases i with
    | zero=>cases e2
    | succ k=>exact ⟨k,rfl⟩
   have e1':ys[j]? =some y:=e1;have e2':(yN fr σ)[j]? =some (some v):=e2;obtain ⟨m,hn,hl⟩:=I3.loc;unfold yN at e2';rw [List.getElem?_map] at e2';cases hj:fr[j]? with
   | none=>rw [hj] at e2';cases e2'
   | some q=>
    rw [hj] at e2';have e2'':(σ[q]?).getD none=some v:=by simpa using e2'
    have hq:σ[q]? =some (some v):=by
     cases hh:σ[q]? with
     | none=>rw [hh] at e2'';cases e2''
     | some z=>rw [hh] at e2'';rw [show z=some v from e2'']
    have hN:X.N[q]? =some y:=by
     have:=congrArg (fun l=>l[j]?) hys
     simp only [List.getElem?_map,hj,e1'] at this;exact Option.some.inj this
    have hy:y∈ys:=List.mem_of_getElem? e1';obtain ⟨u,ru,lu⟩:=hl q y v hN hq (.inr (.inl (hyk y hy)));refine ⟨u,ru,.inr ⟨.inl (hyr y hy),?_⟩⟩;rcases lu with ⟨hk1,_⟩ | ⟨_,c,hc1,hc2⟩
    ·rw [hyk y hy] at hk1;cases hk1
    ·obtain ⟨c',hc'⟩:=hysome y hy;have:=hcl _ _ hc';rw [hc1] at this;cases this;exact ⟨c,hc',xc kept4 hc2⟩
  ·have hp':p∈X.pn++pins:=by
    have hp1:p∈(X.pn++pins)++[]:=hp;rw [List.append_nil] at hp1;exact hp1
   obtain ⟨a1,a2,a3,a4,a5⟩:=I3.pin p hp';refine ⟨kept4 _ _ a1,a2,Nat.ne_of_lt s!"C{a1}",fun z=>?_,a5⟩
   rcases List.mem_cons.mp (I3.stkSub _ z) with q | q
   ·exact a3 q
   ·exact a4 q
  ·show (yN fr σ).length+1=ys.length+1;have:=congrArg List.length hys;simp only [List.length_map] at this;unfold yN;rw [List.length_map,this]
 have st4:tn 0 h4:=T.keep 0 _ _ st3 fun b _ o e=>kept4 b o e
 have fpB:∀{H':Hp},(∀b∈fp,H' b=none)->∀b∈fp,wS (X.blockF pins scope x ys cl fp s3 H3) [] H' b:=fun {H'} fr' b hb=>by
  obtain ⟨_,_,_,_,_,n5⟩:=f3 b hb;refine ⟨fr' b hb,Nat.ne_of_lt (exlt b hb),exStk b hb,.inl hb,(fun y c e=>(f3 b hb).2.2.2.2.1 y c (hcl _ _ e)),fun p hp=>n5 p ?_⟩
  have hp1:p∈(X.pn++pins)++[]:=hp;rw [List.append_nil] at hp1;exact hp1
 have loop:codeAny (model X.prog X.w) X.A (.compLoop (.ListComp elt [⟨.Name x px,iter,[],0⟩] scope pos) 0 (.ref it) s!"y" (zjK X.env scope cl s3.heap.objs.size))
  (compPost (model X.prog X.w) X.A X.xe none (EP X pins σ Q) s!"y" s3.heap.objs.size)
  { s3 with heap:=h4,toks:=s3.toks+([]:List (Str×Value)).length }:=by
  refine codeAny_compLoop_list (fun n s'=>∃(i:Nat) (z:Option V) (H':Hp) (zs:List V),Inv (X.blockF pins scope x ys cl fp s3 H3) [] (z::yN fr σ) H' s'/\tn i s'.heap/\(∀b∈fp,H' b=none)/\W i n zs H') (fun n s' hI=>?_) m0 ⟨0,none,H3,[],I4,st4,fun b hb=>(f3 b hb).1,w0⟩
  obtain ⟨i,z,H',zs,IB,st,fr',w'⟩:=hI;obtain ⟨eD,tt⟩:=turn i n zs H' w';rcases tt with ⟨stop,q⟩ | ⟨go,hz,step⟩
  ·refine wpAny_mono (T.done (X.blockF pins scope x ys cl fp s3 H3) rfl rfl rfl hc i [] s' (z::yN fr σ) H' _ IB (fpB fr') st stop) (fun r s5 hr=>?_) (fun _ _ e=>e)
   obtain ⟨hr,I5⟩:=hr;subst hr;obtain ⟨m,nsm,_⟩:=id I5.loc;refine ⟨m,nsm,fun h' sb=>⟨.ref D,H',?_,rfl,q⟩⟩
   have nC:∀b o,s3.heap.get? b=some o->b≠s3.heap.objs.size:=fun b o e=>Nat.ne_of_lt s!"C{e}"
   have ub:Un (frs X.stack) fp H3 H' s3.heap s5.heap:=I5.base;have un:Un (frs X.stack) fp H3 H' s3.heap h':=by
    refine ⟨fun b o e n1 n2 n3=>(sb.2 b (nC b o e)).trans (ub.keep b o e n1 n2 n3),fun b o e n1 n2 n3=>?_,ub.free,fun b o e n3=>?_,ub.tups,ub.frzs,ub.tbls⟩
    ·obtain ⟨sl,e1⟩:=ub.slot b o e n1 n2 n3;exact ⟨sl,(sb.2 b (nC b o e)).trans e1⟩
    ·obtain ⟨o',e1⟩:=ub.there b o e n3;exact ⟨o',(sb.2 b (nC b o e)).trans e1⟩
   have hC:H' s3.heap.objs.size=none:=I5.free;have hok':HOk X.prog X.w H' h':=fun b ob e=>by
    refine (I5.hok b ob e).stay (fun c w' hc' q'=>(sb.2 c ?_).trans q') (fun _ q'=>q') fun _ _ q'=>q'
    intro y;rcases hc' with z' | z'
    ·rw [<-z',y,hC] at e;cases e
    ·rw [y,hC] at z';cases z'
   exact I3.call' (s':={ s5 with heap:=h' }) (ch:=fp) I5.os un hok' I5.bare fun b hb=>⟨(f3 b hb).2.2.2.1,(f3 b hb).2.1,(f3 b hb).2.2.2.2.1,(f3 b hb).2.2.2.2.2⟩
  ·refine wpAny_mono (T.item (X.blockF pins scope x ys cl fp s3 H3) rfl rfl rfl hc i [] s' (z::yN fr σ) H' _ IB (fpB fr') st go) (fun r s5 hr=>?_) (fun _ _ e=>e)
   obtain ⟨u,hr,h5⟩:=hr;subst hr;refine (show ∀{t:Sem Unit} {Q1:Unit->Shared->Prop} {E1:Value->Shared->Prop},wpAny (model X.prog X.w) X.A (letOwnedTupleGo (.Name x px) (.ref it) u >>=fun _=>t) Q1 E1 s5->wpAny (model X.prog X.w) X.A t Q1 E1 s5 from fun hh=>hh) ?_
   refine wpAny_bind (wpAny_mono h5 (fun _ s6 hy=>?_) (fun _ _ e=>e))
   obtain ⟨y,H5,I5,r5,y5,st5,fr5⟩:=hy;have I5':=I5.pinned (fpB fr5) (T.obj _ _ st5);refine wpAny_assign_Name (yQ (X:=X.blockF pins scope x ys cl fp s3 H3) (i:=0) I5' hnd rfl (.inl hxr) r5 (fun s7 I7=>?_) (.inr hxr))
   refine wpAny_mono (he pins cl fp s3 H3 _ s7 (some y::yN fr σ) H5 _ I7 (step y H5 y5)) (fun xv s8 h8=>?_) (fun _ _ e=>e.elim)
   obtain ⟨yv,H8,I8,r8,eD8,m',hm',w8⟩:=h8;refine wpAny_mono (mt_append (X:=X.blockF pins scope x ys cl fp s3 H3) _ s8 (some y::yN fr σ) H8 s!"y" [yv] s!"y" [xv] (fun v H=>v=.non/\H=upd H8 D (.lst (zs++[yv]))) I8 rfl (.cons r8 .nil) ⟨D,zs,yv,rfl,rfl,eD8,hz,rfl,rfl⟩) (fun _ s9 h9=>?_) (fun _ _ e=>e.elim)
   obtain ⟨_,H9,I9,_,_,rfl⟩:=h9;refine ⟨m',hm',i+1,some y,_,zs++[yv],I9.unpinned,T.keep _ _ _ st5 fun b hb o e=>(I9.pin (b,o) (List.mem_append_right _ s!"${zI hb e}")).1,fun b hb=>?_,w8⟩
   obtain ⟨o,e,_⟩:=T.obj _ _ st5 b hb;exact (I9.pin (b,o) (List.mem_append_right _ s!"${zI hb e}")).2.1
 exact codeAny_compStart_list loop (T.self X.A 0 _ _ _ st4 loop)
theorem zbg {pins:List (Addr×Obj)} {scope:Scope} {x:Str} {ys:List Str} {cl:List (Str×Addr)} {ex:List Addr} {s:Shared} {H:Hp}:IxR s!"bo" (zgd X.K):=ix_A (X:=X.blockF pins scope x ys cl ex s H)
end
section
variable {σ:St} {H:Hp} {Q:VK} {K:PySem.W.Frag}
theorem zjL {ta:TA} {te:TE} {fr:List Nat} (vs:St) (e:yN fr σ=vs) (h:ta σ H fun ws H1=>zjl ws H1 fun J H2=>zag te vs J H2 Q):zco (ziY ta) fr te σ H Q:=by subst e;exact h
theorem zhZ {ta:TA} {te:TE} {fr:List Nat} (vs:St) (e:yN fr σ=vs) (h:ta σ H fun ws H1=>znO ws H1 fun J H2=>zag te vs J H2 Q):zco (znC ta) fr te σ H Q:=by subst e;exact h
theorem zh0 {te:TE} {vs:St} {lo:Int} {n:Nat} (g:Int->V) (hz:n<=1000) (he:∀(i:Nat) (k:Int) H' (Q':VK),i<n->k=lo+i->Same H H'->(∀H2,Same H' H2->Q' (g k) H2)->te (some (.int k)::vs) H' Q')
 (h:∀D H',Same H H'->H D=none->H' D=some (.lst (s!"5{n}".map fun i=>g (lo+(i:Nat))))->Q s!"y" H'):zag te vs (Itr lo n) H Q:=by
 intro D hD;refine ⟨fun i m zs H'=>m=n-i/\i<=n/\zs=s!"5{i}".map (fun i=>g (lo+(i:Nat)))/\Same H H'/\H' D=some (.lst zs),⟨n,by simp,Nat.zero_le _,by simp,Same.new hD _,zi⟩,?_⟩
 rintro i m zs H' ⟨rfl,hi,rfl,hs,eD⟩;refine ⟨eD,?_⟩
 by_cases hlt:i<n
 ·refine .inr ⟨hlt,?_,fun x H2 y=>?_⟩
  ·rw [List.length_map,List.length_range];exact zz s!"e"
  ·obtain ⟨rfl,rfl⟩:=y;refine he i _ _ _ hlt rfl hs fun H2 s2=>⟨s2.obj eD,n-(i+1),by omega,rfl,hlt,?_,(hs.trans s2).upd hD,zi⟩
   rw [List.range_succ,List.map_append];rfl
 ·have e:i=n:=by omega
  subst e;exact .inl ⟨Nat.le_refl _,h D H' hs hD eD⟩
end
structure CG (mg:Str->Option Value) (x:Str):Type where
 addr:Addr
 gl:mg x=some (.ref addr)
def zha:V->List V->Hp->VK->Prop:=fun x vs H Q=>∃(l:Addr) (bs:List Bool),x=.ref l/\vs=[.bl true]/\H l=some (.lst (bs.map V.bl))/\Q (.int (bs.countP id:Nat)) H
def zb6:Value->Bool
 | .bool b=>b
 | _=>false
section
variable {X:Cx}
theorem zbG:∀{bs:List Bool} {us:List Value},zo (bs.map V.bl) us->us.countP zb6=bs.countP id
 | [],_,r=>by
  cases r;rfl
 | b::bs,us,r=>by
  cases us with
  | nil=>have:=r.length;simp at this
  | cons u us=>
   cases r with
   | cons r1 r2=>
    obtain rfl:u=Value.bool b:=r1;rw [List.countP_cons,List.countP_cons,zbG r2];rfl
theorem zh1 {bs:List Bool} {us:List Value} (r:zo (bs.map V.bl) us) {y:Value} (hy:y∈us.toArray):∃b,y=.bool b:=by
 have hy':y∈us:=by simpa using hy
 obtain ⟨i,hi,e⟩:=List.getElem_of_mem hy';have l:=r.length;rw [List.length_map] at l;obtain ⟨b,hb⟩:∃b,bs[i]? =some b:=⟨_,List.getElem?_eq_getElem s!"e"⟩
 obtain ⟨u,hu,ru⟩:=r.get (i:=i) (x:=.bl b) (by rw [List.getElem?_map,hb];rfl)
 rw [List.getElem?_eq_getElem hi,e] at hu;cases hu;exact ⟨b,ru⟩
theorem zgh {A:Around} {s:Shared} (b:Bool):SeqAt.EqAt A s (.bool b) (.bool true) (zb6 (.bool b)):=by
 have h:=eqAt_V (A:=A) (s:=s) (y:=.bl b) (x:=.bl true) (u:=.bool b) (v:=.bool true) rfl rfl rfl rfl;have e:eqV (.bl b) s!"#"=zb6 (.bool b):=by cases b <;> rfl
 rw [e] at h;exact h
theorem zh2:MtM X "list.count" zha:=by
 intro pins s σ H x vs v us Q I rx rv h;obtain ⟨l,bs,rfl,rfl,hH,q⟩:=h;cases rx;obtain ⟨u,rfl,ru⟩:=rv.one;obtain rfl:u=Value.bool true:=ru;obtain ⟨z,its,n,r,hl,e⟩:=I.lstM hH;refine call_meets F.slot_list_count ⟨_,e,rfl⟩ F.entry_list_count (F.args_list_count_2 _ _) (SeqAt.list_countAt l its.toArray n _ _ (.bool true) zb6) ⟨e,fun y hy=>?_,?_⟩
 ·obtain ⟨b,rfl⟩:=zh1 r hy;exact zgh b
 ·refine ⟨.int (bs.countP id:Nat),H,I.tok _,⟨s.toks,?_⟩,q⟩;show Value.int _ _=_;rw [<-zbG r]
end
section
variable {σ:St} {H:Hp} {Q:VK} {K:PySem.W.Frag}
theorem zdv {a:Addr} (bs:List Bool) {k:Nat} (h1:H a=some (.lst (bs.map V.bl))) (hk:bs.countP id=k) (h:Q (.int k) H):zha s!"g" [.bl true] H Q:=⟨a,bs,rfl,rfl,h1,by rw [hk];exact h⟩
end
section
variable {X:Cx}
end
section
variable {σ:St} {H:Hp} {Q:VK} {K:PySem.W.Frag}
end
section
variable {X:Cx} {tg:Expr}
end
section
variable {σ:St} {H:Hp} {Q:VK} {K:PySem.W.Frag}
end
section
variable {X:Cx} {pins:List (Addr×Obj)} {σ:St} {H:Hp} {s:Shared} {h':Heap}
theorem Inv.turnedL {t':Nat} {ch:List Addr} (I:Inv X pins σ H s) (k:∀b o,b∉ch->s.heap.get? b=some o->h'.get? b=some o) (hf:∀b∈ch,wS X pins H b):Inv X pins σ H { s with heap:=h',toks:=t' }:=by
 have nit:∀b u,H b=some u->b∉ch:=fun b u e z=>by rw [(hf b z).1] at e;cases e
 refine I.step (g':=s.gens) (d':=s.drawn) (ch:=ch) (fun b hb=>?_) (fun b o _ _ hc e _=>k b o hc e) (fun b o _ _ hc e _=>⟨o.slots,k b o hc e⟩) (fun _ _ _ _ n=>n)
  (fun b o hc e=>⟨o,k b o hc e⟩) (fun _ _ e=>e) (fun _ _ _ e=>e) (fun b ps e=>⟨#[],by rw [e];simp⟩) (fun m hm=>?_) (fun b u e=>?_) I.bare
 ·obtain ⟨f0,f1,f2,f3,f4,f5⟩:=hf b hb;exact ⟨f3,f1,f4,f5⟩
 ·obtain ⟨o,es,ep,ho,r⟩:=hm;exact ⟨o,es,ep,k _ o (fun z=>(hf _ z).2.1 rfl) ho,r⟩
 ·refine (I.hok b u e).stay (fun c v hc q=>k c v ?_ q) (fun _ q=>q) fun _ _ q=>q
  rcases hc with z | z
  ·rw [z];exact nit b u e
  ·exact nit c _ z
end
section
variable {X:Cx}
end
section
variable {σ:St} {H:Hp} {Q:VK} {D:Ends} {K:PySem.W.Frag}
end
section
variable {σ:St} {H:Hp} {Q:VK} {K:PySem.W.Frag}
end
def zk (H:Hp) (r:Addr) (rs:List (List Int)):Prop:=∃as:List Addr,H r=some (.lst s!"av")/\as.length=rs.length/\∀(i:Nat) (x:Addr) (p:List Int),as[i]? =some x->rs[i]? =some p->H x=some (.tup (p.map V.int))
theorem zk.same {H H':Hp} {r:Addr} {rs:List (List Int)} (h:zk H r rs) (s:Same H H'):zk H' r rs:=by
 obtain ⟨as,e1,hl,hT⟩:=h;exact ⟨as,s.obj e1,hl,fun i x q hx hq=>s.obj (hT i x q hx hq)⟩
theorem Same.none {H H':Hp} {t:Addr} (s:Same H H') (h:H' t=none):H t=none:=by
 cases e:H t with
 | none=>rfl
 | some o=>rw [s.obj e] at h;cases h
section
variable {X:Cx}
theorem zmt {ti:Nat} {tv:Str} {py spos:Pos} {elt iter:Expr} {x:Str} {px pos:Pos} {scope:Scope} {wi:TI} {te:TE} (fr:List Nat) (ys:List Str) (hc:X.calm=true) (hi:PI X (.Name x px) iter wi)
 (he:∀(pins:List (Addr×Obj)) (cl:List (Str×Addr)) (ex:List Addr) (s:Shared) (H:Hp),PE s!"bo" elt te)
 (hys:fr.map (fun i=>X.N[i]?)=ys.map some) (hyk0:ys.map X.env.kindOf=ys.map fun _=>some .cell) (hyr0:ys.map (fun y=>(relabel scope X.env).names.lookup y)=ys.map fun _=>some .cell)
 (hfree:∀y∈scope.names,y.2=.free->y.1∈ys) (hcell:∀y∈scope.names,y.2≠.cell) (hkind:scope.kind=.function) (hnames:∀y∈scope.names,y.2=.local->scope.names.lookup y.1=some .local) (hx:scope.names.lookup x=some .local) (hnd:(x::ys).Nodup)
 (hN:X.N.Nodup) (hti:X.N[ti]? =some tv) (htl:Loc X.env.scope tv) (hsw:swapsWith (.ListComp elt [⟨.Name x px,iter,[],0⟩] scope pos) (some (.Name tv py)) spos.line X.env=pure true:=by rfl) (hfn:X.fn tv=true\/X.env.scope.names.lookup tv=some .local:=by first | exact .inl rfl | exact .inr rfl | assumption)
 (hs:∀v,foldedSetIterable iter X.env v=pure v:=by intro _;rfl):PS X (.Assign [.Name tv py] (.ListComp elt [⟨.Name x px,iter,[],0⟩] scope pos) spos) (zlt (zco wi fr te) (yR ti)):=by
 have hyk:∀y∈ys,X.env.kindOf y=some .cell:=fun y hy=>List.map_inj_left.mp hyk0 y hy
 have hyr:∀y∈ys,(relabel scope X.env).names.lookup y=some .cell:=fun y hy=>List.map_inj_left.mp hyr0 y hy
 intro pins s σ H Ds I h;obtain ⟨cl,hclo,hcl,hclf⟩:=wY (scope:=scope) (env:=X.env) fun y hy e=>I.ok.has _ (.inl (hyk _ (hfree y hy e)))
 rw [exec_Assign_Name_used _ _ _ _ hsw];refine wpAny_bind s!"at{s!"p{?_}"}";show wpAny _ X.A (do let _ <-comprehension (.ListComp elt [⟨.Name x px,iter,[],0⟩] scope pos) scope X.env _ (newList []) false s!"!{iter}" (some (assign (.Name tv py) X.env))) _ _ s
 refine wpAny_bind (wpAny_mono (wpAny_comprehension_free (use:=some (assign (.Name tv py) X.env)) (Q:=fun _ s'=>SP X pins Ds .next s') rfl hs hclo hkind hnames (thn (hi pins s σ H _ I h) fun v s1 h1=>thn h1 fun itv s2 h2=>?_)) (fun _ s' hq=>wpAny_pure s!"V{hq}") fun _ _ e=>e)
 obtain ⟨it,fp,tn,J,H2,e,I2,T,st2,f2,hW⟩:=h2;subst e;refine wpAny_newObj_type ?_ (by show 0<=sizeLine;exact Nat.zero_le _)
 have nD:H2 s2.heap.objs.size=none:=I2.hok.fresh (Nat.le_refl _);obtain ⟨W,⟨m0,w0⟩,turn⟩:=hW _ nD;have I3:Inv X pins σ (upd H2 s2.heap.objs.size (.lst [])) { s2 with heap:=s2.heap.push { cls:=.type "list",data:=.seq ([]:List Value).toArray } }:=
  I2.laid (t':=s2.toks) (fun b u e=>Heap.get?_push_of_some _ e) (Nat.le_refl _) ⟨Nat.zero_le _,[],0,.nil,Heap.get?_push_size _ rfl⟩
 have st3:tn 0 (s2.heap.push { cls:=.type "list",data:=.seq ([]:List Value).toArray }):=T.keep 0 _ _ st2 fun b _ o e=>Heap.get?_push_of_some _ e
 have lfp:∀b∈fp,b<s2.heap.objs.size:=fun b hb=>by
  obtain ⟨o,e,_⟩:=T.obj 0 _ st2 b hb;exact Heap.lt_size e
 have f3:∀b∈fp,wS X pins (upd H2 s2.heap.objs.size (.lst [])) b:=fun b hb=>by
  obtain ⟨n0,r⟩:=f2 b hb;exact ⟨by rw [zg s!"bd"];exact n0,r⟩
 have z3:s2.heap.objs.size<(s2.heap.push { cls:=.type "list",data:=.seq ([]:List Value).toArray }).objs.size:=by rw [Heap.size_push];exact Nat.lt_succ_self _
 generalize hs3:({ s2 with heap:=s2.heap.push { cls:=.type "list",data:=.seq ([]:List Value).toArray } }:Shared)=s3 at I3 ⊢
 have h3:s3.heap=s2.heap.push { cls:=.type "list",data:=.seq ([]:List Value).toArray }:=by rw [<-hs3]
 rw [<-h3] at st3 z3;generalize hD:s2.heap.objs.size=D at*;generalize hH3:upd H2 D (.lst [])=H3 at*;have exlt:∀b∈fp,b<s3.heap.objs.size:=fun b hb=>Nat.lt_trans (lfp b hb) z3
 have exStk:∀b∈fp,b∉frs X.stack:=fun b hb z=>by
  obtain ⟨_,n1,n2,_⟩:=f3 b hb;rcases List.mem_cons.mp (I3.stkSub b z) with q | q
  ·exact n1 q
  ·exact n2 q
 refine wpAny_newFunctionEnv hcell (by intro y hy;simp at hy) (fun h4 ns4 sb4=>?_) hkind
 have hxr:(relabel scope X.env).names.lookup x=some .local:=lookup_relabel_local hx;have hysome:∀y∈ys,∃c,cl.lookup y=some c:=fun y hy=>by
  obtain ⟨c,e⟩:=I3.ok.has y (.inl (hyk y hy));exact hclf y (yM hcell (.inl (hyr y hy)))
 have okB:(X.blockF pins scope x ys cl fp s3 H3).Ok:=by
  refine ⟨I3.ok.mod,hkind,I3.ok.glob,I3.ok.blt,Nat.le_refl _,(fun y z c e1 e2=>I3.ok.inj y z c (hcl _ _ e1) (hcl _ _ e2)),(fun y hy=>?_),(fun y c z=>by cases z),(fun _=>I3.ok.hd hc),I3.ok.frames,.inl rfl,(fun b hb=>⟨Nat.ne_of_lt (exlt b hb),fun y c e=>(f3 b hb).2.2.2.2.1 y c (hcl _ _ e)⟩),I3.bs,Nat.le_trans I3.ok.bsz I3.sz,(fun b o e hb=>?_),(fun b hb=>exStk b hb),I3.stack,I3.stkFree⟩
  ·exact hclf y (yM hcell hy)
  ·obtain ⟨_,_,_,n3,_⟩:=f3 b hb;rcases n3 with z | z
   ·exact I3.ok.noex b o e z
   ·exact absurd s!"0{s!"C{(I3.ok.bs b o e).1}"}{z}" (Nat.lt_irrefl _)
 have kept4:∀b o,s3.heap.get? b=some o->h4.get? b=some o:=fun b o e=>(sb4.2 b s!"U{s!"C{e}"}").trans s!";"
 have I4:Inv (X.blockF pins scope x ys cl fp s3 H3) [] (none::yN fr σ) H3 { s3 with heap:=h4,toks:=s3.toks+([]:List (Str×Value)).length }:=by
  refine ⟨okB,rfl,I3.bare,Un.kept kept4,⟨_,ns4,fun i y v e1 e2 e3=>?_⟩,(fun y c e=>(I3.cell y c (hcl _ _ e)).elim fun v z=>⟨v,xc kept4 z⟩),I3.hok.fresh (Nat.le_refl _),(fun y c e=>I3.freeC y c (hcl _ _ e)),(fun p hp=>?_),I3.hok.kept kept4,?_⟩
  ·obtain ⟨j,rfl⟩:∃j,i=j+1:=by
    cases i with
    | zero=>cases e2
    | succ k=>exact ⟨k,rfl⟩
   have e1':ys[j]? =some y:=e1;have e2':(yN fr σ)[j]? =some (some v):=e2;obtain ⟨m,hn,hl⟩:=I3.loc;unfold yN at e2';rw [List.getElem?_map] at e2';cases hj:fr[j]? with
   | none=>rw [hj] at e2';cases e2'
   | some q=>
    rw [hj] at e2';have e2'':(σ[q]?).getD none=some v:=by simpa using e2'
    have hq:σ[q]? =some (some v):=by
     cases hh:σ[q]? with
     | none=>rw [hh] at e2'';cases e2''
     | some z=>rw [hh] at e2'';rw [show z=some v from e2'']
    have hN:X.N[q]? =some y:=by
     have:=congrArg (fun l=>l[j]?) hys
     simp only [List.getElem?_map,hj,e1'] at this;exact Option.some.inj this
    have hy:y∈ys:=List.mem_of_getElem? e1';obtain ⟨u,ru,lu⟩:=hl q y v hN hq (.inr (.inl (hyk y hy)));refine ⟨u,ru,.inr ⟨.inl (hyr y hy),?_⟩⟩;rcases lu with ⟨hk1,_⟩ | ⟨_,c,hc1,hc2⟩
    ·rw [hyk y hy] at hk1;cases hk1
    ·obtain ⟨c',hc'⟩:=hysome y hy;have:=hcl _ _ hc';rw [hc1] at this;cases this;exact ⟨c,hc',xc kept4 hc2⟩
  ·have hp':p∈X.pn++pins:=by
    have hp1:p∈(X.pn++pins)++[]:=hp;rw [List.append_nil] at hp1;exact hp1
   obtain ⟨a1,a2,a3,a4,a5⟩:=I3.pin p hp';refine ⟨kept4 _ _ a1,a2,Nat.ne_of_lt s!"C{a1}",fun z=>?_,a5⟩
   rcases List.mem_cons.mp (I3.stkSub _ z) with q | q
   ·exact a3 q
   ·exact a4 q
  ·show (yN fr σ).length+1=ys.length+1;have:=congrArg List.length hys;simp only [List.length_map] at this;unfold yN;rw [List.length_map,this]
 have st4:tn 0 h4:=T.keep 0 _ _ st3 fun b _ o e=>kept4 b o e
 have fpB:∀{H':Hp},(∀b∈fp,H' b=none)->∀b∈fp,wS (X.blockF pins scope x ys cl fp s3 H3) [] H' b:=fun {H'} fr' b hb=>by
  obtain ⟨_,_,_,_,_,n5⟩:=f3 b hb;refine ⟨fr' b hb,Nat.ne_of_lt (exlt b hb),exStk b hb,.inl hb,(fun y c e=>(f3 b hb).2.2.2.2.1 y c (hcl _ _ e)),fun p hp=>n5 p ?_⟩
  have hp1:p∈(X.pn++pins)++[]:=hp;rw [List.append_nil] at hp1;exact hp1
 have loop:codeAny (model X.prog X.w) X.A (.compLoop (.ListComp elt [⟨.Name x px,iter,[],0⟩] scope pos) 0 (.ref it) s!"y" (zjK X.env scope cl s3.heap.objs.size))
  (compPost (model X.prog X.w) X.A X.xe (some (assign (.Name tv py) X.env)) (fun _ s'=>SP X pins Ds .next s') s!"y" s3.heap.objs.size)
  { s3 with heap:=h4,toks:=s3.toks+([]:List (Str×Value)).length }:=by
  refine codeAny_compLoop_list (fun n s'=>∃(i:Nat) (z:Option V) (H':Hp) (zs:List V),Inv (X.blockF pins scope x ys cl fp s3 H3) [] (z::yN fr σ) H' s'/\tn i s'.heap/\(∀b∈fp,H' b=none)/\W i n zs H') (fun n s' hI=>?_) m0 ⟨0,none,H3,[],I4,st4,fun b hb=>(f3 b hb).1,w0⟩
  obtain ⟨i,z,H',zs,IB,st,fr',w'⟩:=hI;obtain ⟨eD,tt⟩:=turn i n zs H' w';rcases tt with ⟨stop,q⟩ | ⟨go,hz,step⟩
  ·refine wpAny_mono (T.done (X.blockF pins scope x ys cl fp s3 H3) rfl rfl rfl hc i [] s' (z::yN fr σ) H' _ IB (fpB fr') st stop) (fun r s5 hr=>?_) (fun _ _ e=>e)
   obtain ⟨hr,I5⟩:=hr;subst hr;obtain ⟨m,nsm,_⟩:=id I5.loc;have IX:Inv X pins σ H' s5:=I3.call' (s':=s5) (ch:=fp) I5.os I5.base I5.hok I5.bare fun b hb=>⟨(f3 b hb).2.2.2.1,(f3 b hb).2.1,(f3 b hb).2.2.2.2.1,(f3 b hb).2.2.2.2.2⟩
   show wpAny (model X.prog X.w) X.A (assign (.Name tv py) X.env s!"y") _ _ s5;refine wpAny_assign_Name (zdg (v:=.ref D) IX hN hti htl rfl (fun s6 I6 hsb=>?_) hfn)
   obtain ⟨a,sb6,ha⟩:=hsb;have aC:s3.heap.objs.size≠a:=by
    rcases ha with rfl | ha
    ·exact Ne.symm s!"U{I3.lt}"
    ·obtain ⟨v',z'⟩:=I3.cell _ _ ha;exact Ne.symm s!"U{z'.lt}"
   refine ⟨m,nsm.sameBut sb6 aC,fun h' sb=>⟨_,H',I6.turnedL (t':=s6.toks) (ch:=[s3.heap.objs.size]) (fun b o hb e=>(sb.2 b (by simpa using hb)).trans e) (fun b hb=>?_),q⟩⟩
   have eb:b=s3.heap.objs.size:=by simpa using hb
   subst eb;exact I3.fpOk (Nat.le_refl _) I5.free
  ·refine wpAny_mono (T.item (X.blockF pins scope x ys cl fp s3 H3) rfl rfl rfl hc i [] s' (z::yN fr σ) H' _ IB (fpB fr') st go) (fun r s5 hr=>?_) (fun _ _ e=>e)
   obtain ⟨u,hr,h5⟩:=hr;subst hr;refine (show ∀{t:Sem Unit} {Q1:Unit->Shared->Prop} {E1:Value->Shared->Prop},wpAny (model X.prog X.w) X.A (letOwnedTupleGo (.Name x px) (.ref it) u >>=fun _=>t) Q1 E1 s5->wpAny (model X.prog X.w) X.A t Q1 E1 s5 from fun hh=>hh) ?_
   refine wpAny_bind (wpAny_mono h5 (fun _ s6 hy=>?_) (fun _ _ e=>e))
   obtain ⟨y,H5,I5,r5,y5,st5,fr5⟩:=hy;have I5':=I5.pinned (fpB fr5) (T.obj _ _ st5);refine wpAny_assign_Name (yQ (X:=X.blockF pins scope x ys cl fp s3 H3) (i:=0) I5' hnd rfl (.inl hxr) r5 (fun s7 I7=>?_) (.inr hxr))
   refine wpAny_mono (he pins cl fp s3 H3 _ s7 (some y::yN fr σ) H5 _ I7 (step y H5 y5)) (fun xv s8 h8=>?_) (fun _ _ e=>e.elim)
   obtain ⟨yv,H8,I8,r8,eD8,m',hm',w8⟩:=h8;refine wpAny_mono (mt_append (X:=X.blockF pins scope x ys cl fp s3 H3) _ s8 (some y::yN fr σ) H8 s!"y" [yv] s!"y" [xv] (fun v H=>v=.non/\H=upd H8 D (.lst (zs++[yv]))) I8 rfl (.cons r8 .nil) ⟨D,zs,yv,rfl,rfl,eD8,hz,rfl,rfl⟩) (fun _ s9 h9=>?_) (fun _ _ e=>e.elim)
   obtain ⟨_,H9,I9,_,_,rfl⟩:=h9;refine ⟨m',hm',i+1,some y,_,zs++[yv],I9.unpinned,T.keep _ _ _ st5 fun b hb o e=>(I9.pin (b,o) (List.mem_append_right _ s!"${zI hb e}")).1,fun b hb=>?_,w8⟩
   obtain ⟨o,e,_⟩:=T.obj _ _ st5 b hb;exact (I9.pin (b,o) (List.mem_append_right _ s!"${zI hb e}")).2.1
 exact codeAny_compStart_list loop (T.self X.A 0 _ _ _ st4 loop)
end
def Cx.blockN (X:Cx) (pins:List (Addr×Obj)) (scope:Scope) (nm:List Str) (ex:List Addr) (s:Shared) (H:Hp):Cx:=
 { X with N:=nm,s₀:=s,H₀:=H,env:=zhX X.env scope s.heap.objs.size,outer:=X.stack,stack:=X.stack,ex:=ex,fn:=fun _=>false,pn:=X.pn++pins,xe:=fun _ _=>False }
def zgi (g:TG) (te:TE) (τ0:St) (J:It) (H1:Hp) (Q:VK):Prop:=∀D,H1 D=none->∃W:Nat->Nat->List V->St->Hp->Prop,(∃m,W 0 m [] τ0 (upd H1 D (.lst [])))/\∀i m ys τ H,W i m ys τ H->H D=some s!"6"/\
 ((J.stop i H/\Q s!"y" H)\/(J.go i H/\ys.length<sizeLine/\∀x H',J.yld i H x H'->g x τ H' fun τ' H''=>te τ' H'' fun y H2=>H2 D=some s!"6"/\∃m',m'<m/\W (i+1) m' (ys++[y]) τ' (upd H2 D (.lst (ys++[y])))))
def zjM (wi:TI) (τ0:St) (g:TG) (te:TE):TE:=fun σ H Q=>wi σ H fun J H1=>zgi g te τ0 J H1 Q
section
variable {X:Cx}
theorem zjN {elt iter:Expr} {elts:List Expr} {x1:Nat} {tp pos:Pos} {scope:Scope} {wi:TI} {g:TG} {te:TE} (nm:List Str) (hc:X.calm=true) (hi:PI X (.Tuple elts x1 tp) iter wi)
 (hg:∀(pins:List (Addr×Obj)) (ex:List Addr) (s:Shared) (H:Hp),PG s!"aP" (.Tuple elts x1 tp) g)
 (he:∀(pins:List (Addr×Obj)) (ex:List Addr) (s:Shared) (H:Hp),PE s!"aP" elt te)
 (hfree:∀y∈scope.names,y.2≠.free) (hcell:∀y∈scope.names,y.2≠.cell) (hkind:scope.kind=.function) (hnames:∀y∈scope.names,y.2=.local->scope.names.lookup y.1=some .local)
 (hs:∀v,foldedSetIterable iter X.env v=pure v:=by intro _;rfl):PE X (.ListComp elt [⟨.Tuple elts x1 tp,iter,[],0⟩] scope pos) (zjM wi (nm.map fun _=>none) g te):=by
 intro pins s σ H Q I h;refine wpAny_ListComp hfree hkind hnames (thn (hi pins s σ H _ I h) fun v s1 h1=>thn h1 fun itv s2 h2=>?_) hs
 obtain ⟨it,fp,tn,J,H2,e,I2,T,st2,f2,hW⟩:=h2;subst e;refine wpAny_newObj_type ?_ (by show 0<=sizeLine;exact Nat.zero_le _)
 have nD:H2 s2.heap.objs.size=none:=I2.hok.fresh (Nat.le_refl _);obtain ⟨W,⟨m0,w0⟩,turn⟩:=hW _ nD;have I3:Inv X pins σ (upd H2 s2.heap.objs.size (.lst [])) { s2 with heap:=s2.heap.push { cls:=.type "list",data:=.seq ([]:List Value).toArray } }:=
  I2.laid (t':=s2.toks) (fun b u e=>Heap.get?_push_of_some _ e) (Nat.le_refl _) ⟨Nat.zero_le _,[],0,.nil,Heap.get?_push_size _ rfl⟩
 have st3:tn 0 (s2.heap.push { cls:=.type "list",data:=.seq ([]:List Value).toArray }):=T.keep 0 _ _ st2 fun b _ o e=>Heap.get?_push_of_some _ e
 have lfp:∀b∈fp,b<s2.heap.objs.size:=fun b hb=>by
  obtain ⟨o,e,_⟩:=T.obj 0 _ st2 b hb;exact Heap.lt_size e
 have f3:∀b∈fp,wS X pins (upd H2 s2.heap.objs.size (.lst [])) b:=fun b hb=>by
  obtain ⟨n0,r⟩:=f2 b hb;exact ⟨by rw [zg s!"bd"];exact n0,r⟩
 have z3:s2.heap.objs.size<(s2.heap.push { cls:=.type "list",data:=.seq ([]:List Value).toArray }).objs.size:=by rw [Heap.size_push];exact Nat.lt_succ_self _
 generalize hs3:({ s2 with heap:=s2.heap.push { cls:=.type "list",data:=.seq ([]:List Value).toArray } }:Shared)=s3 at I3 ⊢
 have h3:s3.heap=s2.heap.push { cls:=.type "list",data:=.seq ([]:List Value).toArray }:=by rw [<-hs3]
 rw [<-h3] at st3 z3;generalize hD:s2.heap.objs.size=D at*;generalize hH3:upd H2 D (.lst [])=H3 at*;have exlt:∀b∈fp,b<s3.heap.objs.size:=fun b hb=>Nat.lt_trans (lfp b hb) z3
 have exStk:∀b∈fp,b∉frs X.stack:=fun b hb z=>by
  obtain ⟨_,n1,n2,_⟩:=f3 b hb;rcases List.mem_cons.mp (I3.stkSub b z) with q | q
  ·exact n1 q
  ·exact n2 q
 refine wpAny_newFunctionEnv hcell (by intro y hy;simp at hy) (fun h4 ns4 sb4=>?_) hkind
 have okB:s!"aQ".Ok:=by
  refine ⟨I3.ok.mod,hkind,I3.ok.glob,I3.ok.blt,Nat.le_refl _,(fun y z c e=>by cases e),(fun y hy=>?_),(fun y c z=>by cases z),(fun _=>I3.ok.hd hc),I3.ok.frames,.inl rfl,(fun b hb=>⟨Nat.ne_of_lt (exlt b hb),fun y c e=>by cases e⟩),I3.bs,Nat.le_trans I3.ok.bsz I3.sz,(fun b o e hb=>?_),(fun b hb=>exStk b hb),I3.stack,I3.stkFree⟩
  ·exfalso;have hy':scope.names.lookup y=some .cell\/scope.names.lookup y=some .free:=hy;rcases hy' with z | z
   ·exact hcell _ s!"af{z}" rfl
   ·exact hfree _ s!"af{z}" rfl
  ·obtain ⟨_,_,_,n3,_⟩:=f3 b hb;rcases n3 with z | z
   ·exact I3.ok.noex b o e z
   ·exact absurd s!"0{s!"C{(I3.ok.bs b o e).1}"}{z}" (Nat.lt_irrefl _)
 have kept4:∀b o,s3.heap.get? b=some o->h4.get? b=some o:=fun b o e=>(sb4.2 b s!"U{s!"C{e}"}").trans s!";"
 have I4:Inv s!"aQ" [] (nm.map fun _=>none) H3 { s3 with heap:=h4,toks:=s3.toks+([]:List (Str×Value)).length }:=by
  refine ⟨okB,rfl,I3.bare,Un.kept kept4,⟨_,ns4,fun i y v e1 e2 e3=>?_⟩,(fun y c e=>by cases e),I3.hok.fresh (Nat.le_refl _),(fun y c e=>by cases e),(fun p hp=>?_),I3.hok.kept kept4,List.length_map _⟩
  ·exfalso;have e2':((nm.map fun _=>(none:Option V))[i]?)=some (some v):=e2
   rw [List.getElem?_map] at e2';cases hn:nm[i]? with
   | none=>rw [hn] at e2';cases e2'
   | some w=>rw [hn] at e2';cases e2'
  ·have hp':p∈X.pn++pins:=by
    have hp1:p∈(X.pn++pins)++[]:=hp;rw [List.append_nil] at hp1;exact hp1
   obtain ⟨a1,a2,a3,a4,a5⟩:=I3.pin p hp';refine ⟨kept4 _ _ a1,a2,Nat.ne_of_lt s!"C{a1}",fun z=>?_,a5⟩
   rcases List.mem_cons.mp (I3.stkSub _ z) with q | q
   ·exact a3 q
   ·exact a4 q
 have st4:tn 0 h4:=T.keep 0 _ _ st3 fun b _ o e=>kept4 b o e
 have fpB:∀{H':Hp},(∀b∈fp,H' b=none)->∀b∈fp,wS s!"aQ" [] H' b:=fun {H'} fr b hb=>by
  obtain ⟨_,_,_,_,_,n5⟩:=f3 b hb;refine ⟨fr b hb,Nat.ne_of_lt (exlt b hb),exStk b hb,.inl hb,(fun y c e=>by cases e),fun p hp=>n5 p ?_⟩
  have hp1:p∈(X.pn++pins)++[]:=hp;rw [List.append_nil] at hp1;exact hp1
 have loop:codeAny (model X.prog X.w) X.A (.compLoop (.ListComp elt [⟨.Tuple elts x1 tp,iter,[],0⟩] scope pos) 0 (.ref it) s!"y" (zhX X.env scope s3.heap.objs.size))
  (fun r s'=>∃m,s'.heap.Ns s3.heap.objs.size m/\∀h',Heap.SameBut s3.heap.objs.size s'.heap h'->
   match r with | .ok _=>EP X pins σ Q (.ref D) { s' with heap:=h' } | .error y=>wpAny (model X.prog X.w) X.A (passOn "comprehension.variables-let-go" y (zhX X.env scope s3.heap.objs.size)) (EP X pins σ Q) X.xe { s' with heap:=h' })
  { s3 with heap:=h4,toks:=s3.toks+([]:List (Str×Value)).length }:=by
  refine PyProof.Rows.LCp.codeAny_compLoop_pair (fun n s'=>∃(i:Nat) (z:St) (H':Hp) (ys:List V),Inv s!"aQ" [] z H' s'/\tn i s'.heap/\(∀b∈fp,H' b=none)/\W i n ys z H') (fun n s' hI=>?_) m0 ⟨0,nm.map fun _=>none,H3,[],I4,st4,fun b hb=>(f3 b hb).1,w0⟩
  obtain ⟨i,z,H',ys,IB,st,fr,w'⟩:=hI;obtain ⟨eD,tt⟩:=turn i n ys z H' w';rcases tt with ⟨stop,q⟩ | ⟨go,hz,step⟩
  ·refine wpAny_mono (T.done s!"aQ" rfl rfl rfl hc i [] s' z H' _ IB (fpB fr) st stop) (fun r s5 hr=>?_) (fun _ _ e=>e)
   obtain ⟨hr,I5⟩:=hr;subst hr;obtain ⟨m,nsm,_⟩:=id I5.loc;refine ⟨m,nsm,fun h' sb=>⟨.ref D,H',?_,rfl,q⟩⟩
   have nC:∀b o,s3.heap.get? b=some o->b≠s3.heap.objs.size:=fun b o e=>Nat.ne_of_lt s!"C{e}"
   have ub:Un (frs X.stack) fp H3 H' s3.heap s5.heap:=I5.base;have un:Un (frs X.stack) fp H3 H' s3.heap h':=by
    refine ⟨fun b o e n1 n2 n3=>(sb.2 b (nC b o e)).trans (ub.keep b o e n1 n2 n3),fun b o e n1 n2 n3=>?_,ub.free,fun b o e n3=>?_,ub.tups,ub.frzs,ub.tbls⟩
    ·obtain ⟨sl,e1⟩:=ub.slot b o e n1 n2 n3;exact ⟨sl,(sb.2 b (nC b o e)).trans e1⟩
    ·obtain ⟨o',e1⟩:=ub.there b o e n3;exact ⟨o',(sb.2 b (nC b o e)).trans e1⟩
   have hC:H' s3.heap.objs.size=none:=I5.free;have hok':HOk X.prog X.w H' h':=fun b ob e=>by
    refine (I5.hok b ob e).stay (fun c w' hc' q'=>(sb.2 c ?_).trans q') (fun _ q'=>q') fun _ _ q'=>q'
    intro y;rcases hc' with z' | z'
    ·rw [<-z',y,hC] at e;cases e
    ·rw [y,hC] at z';cases z'
   exact I3.call' (s':={ s5 with heap:=h' }) (ch:=fp) I5.os un hok' I5.bare fun b hb=>⟨(f3 b hb).2.2.2.1,(f3 b hb).2.1,(f3 b hb).2.2.2.2.1,(f3 b hb).2.2.2.2.2⟩
  ·refine wpAny_mono (T.item s!"aQ" rfl rfl rfl hc i [] s' z H' _ IB (fpB fr) st go) (fun r s5 hr=>?_) (fun _ _ e=>e)
   obtain ⟨u,hr,h5⟩:=hr;subst hr;refine wpAny_mono h5 (fun _ s6 hy=>?_) (fun _ _ e=>e)
   obtain ⟨y,H5,I5,r5,y5,st5,fr5⟩:=hy;have I5':=I5.pinned (fpB fr5) (T.obj _ _ st5);refine wpAny_mono (hg pins fp s3 H3 _ s6 z H5 y u _ I5' r5 (step y H5 y5)) (fun _ s7 h7=>?_) (fun _ _ e=>e.elim)
   obtain ⟨z7,H7,I7,q7⟩:=h7;refine wpAny_mono (he pins fp s3 H3 _ s7 z7 H7 _ I7 q7) (fun xv s8 h8=>?_) (fun _ _ e=>e.elim)
   obtain ⟨yv,H8,I8,r8,eD8,m',hm',w8⟩:=h8;refine wpAny_mono (mt_append (X:=X.blockN pins scope nm fp s3 H3) _ s8 z7 H8 s!"y" [yv] s!"y" [xv] (fun v H=>v=.non/\H=upd H8 D (.lst (ys++[yv]))) I8 rfl (.cons r8 .nil) ⟨D,ys,yv,rfl,rfl,eD8,hz,rfl,rfl⟩) (fun _ s9 h9=>?_) (fun _ _ e=>e.elim)
   obtain ⟨_,H9,I9,_,_,rfl⟩:=h9;refine ⟨m',hm',i+1,z7,_,ys++[yv],I9.unpinned,T.keep _ _ _ st5 fun b hb o e=>(I9.pin (b,o) (List.mem_append_right _ s!"${zI hb e}")).1,fun b hb=>?_,w8⟩
   obtain ⟨o,e,_⟩:=T.obj _ _ st5 b hb;exact (I9.pin (b,o) (List.mem_append_right _ s!"${zI hb e}")).2.1
 exact codeAny_compStart_list loop (T.self X.A 0 _ _ _ st4 loop)
theorem zmu {pins:List (Addr×Obj)} {scope:Scope} {nm:List Str} {ex:List Addr} {s:Shared} {H:Hp} {es:List Expr} {k:Nat} {t:TGs} {n:Nat} {pos:Pos} (hc:X.calm=true) (h:PGs s!"aP" es t)
 (hn:(assignEach es s!"aP".env).length=n:=by rfl) (hst:(assignEach es s!"aP".env).findIdx? (·.1)=none:=by rfl):PG s!"aP" (.Tuple es k pos) (zls X.K n t):=zf1 (X:=X.blockN pins scope nm ex s H) hc h hn hst
end
section
variable {σ:St} {H:Hp} {Q:VK} {K:PySem.W.Frag}
end
section
variable {X:Cx} {tg:Expr}
end
section
variable {σ:St} {H:Hp} {D:Ends}
end
section
variable {σ:St} {H:Hp} {Q:VK} {K:PySem.W.Frag}
end
section
variable {X:Cx}
variable {H:Hp} {Q:VK}
end
section
variable {X:Cx}
end
section
variable {σ:St} {H:Hp} {Q:VK} {K:PySem.W.Frag}
structure Tab (H:Hp) (t:Addr) (a b c d:Int):Prop where
 ex:∃r s:Addr,H t=some (.tup [.ref r,.ref s])/\H r=some (.tup [.int a,.int b])/\H s=some (.tup [.int c,.int d])
theorem Tab.same {H H':Hp} {t:Addr} {a b c d:Int} (T:Tab H t a b c d) (s:Same H H'):Tab H' t a b c d:=by
 obtain ⟨r,u,e1,e2,e3⟩:=T.ex;exact ⟨r,u,s.obj e1,s.obj e2,s.obj e3⟩
end
theorem Room.units2 {k:Nat} {A:Around} (h:Room k A):A.units+1<cLine:=by
 have:=h.un;omega
section
variable {X:Cx}
end
section
variable {σ:St} {H:Hp} {Q:VK} {K:PySem.W.Frag}
end
section
variable {σ:St} {H:Hp} {Q:VK} {K:PySem.W.Frag}
end
def zpa:R2:=fun x y H Q=>y=.non/\Q (.bl (decide (x=.non))) H
section
variable {X:Cx}
theorem zmv:OpR X s!"O{.Is}" zpa:=zox
variable {H:Hp} {Q:VK}
theorem zpa.Qa {a:Addr} (h:Q (.bl false) H):zpa s!"g" .non H Q:=⟨rfl,by rw [decide_eq_false (fun e=>by cases e)];exact h⟩
theorem zpa.Qe (h:Q s!"#" H):zpa .non .non H Q:=⟨rfl,by rw [decide_eq_true rfl];exact h⟩
end
section
variable {H:Hp} {Q:VK}
end
section
variable {X:Cx} {pins:List (Addr×Obj)} {scope:Scope} {x:Str} {ex:List Addr} {s:Shared} {H:Hp} {tg l:Expr} {tl:TE}
end
theorem zcp {h h':Heap} {a l:Addr} {items:Array Value} (ne:l≠a) (k:Heap.SameBut a h h') (hl:h.IsList l items):h'.IsList l items:=by
 obtain ⟨o,e,r⟩:=hl;exact ⟨o,(k.2 l ne).trans e,r⟩
theorem zdw {prog:Program} {w:World} {A:Around} {E:Value->Shared->Prop} {it l:Addr} {items:Array Value} (ne:l≠it):∀(n i:Nat) (s:Shared) (Q:List Value->Shared->Prop),s.heap.IsListIter it l i->s.heap.IsList l items->i+n<=items.size->
 (∀h':Heap,h'.IsListIter it l (i+n)->Heap.SameBut it s.heap h'->Q ((items.toList.drop i).take n) { s with heap:=h' })->wpAny s!"q" A (draw (.ref it) n) Q E s
 | 0,i,s,Q,hi,hl,hn,q=>by
  rw [draw.eq_1];refine wpAny_pure ?_;have:=q s.heap hi ⟨rfl,fun b _=>rfl⟩
  simpa using this
 | n+1,i,s,Q,hi,hl,hn,q=>by
  rw [draw.eq_2];have hlt:i<items.size:=by omega
  refine wpAny_bind (wpAny_pyNext_list_item (x:=items[i]) hi hl (by simp [hlt]) fun h' hi' hk=>?_)
  refine wpAny_bind s!"/{(zdw ne n (i+1) { s with heap:=h' } _ hi' (zcp ne hk hl) s!"e" fun h2 hi2 hk2=>wpAny_pure ?_)}"
  have:=q h2 (by rw [show i+(n+1)=i+1+n by omega];exact hi2) (hk.trans hk2)
  have e:(items.toList.drop i).take (n+1)=items[i]::(items.toList.drop (i+1)).take n:=by
   rw [List.drop_eq_getElem_cons (by simpa using hlt),List.take_succ_cons]
   simp
  rw [e] at this;exact this
theorem zbh {prog:Program} {w:World} {A:Around} {E:Value->Shared->Prop} {s:Shared} {t:Addr} {items:Array Value} {Q:List Value->Shared->Prop} (hh:A.handled=none) (ht:s.heap.IsList t items) (hQ:∀h':Heap,Heap.ExtBut s.heap.objs.size s.heap h'->Q items.toList { s with heap:=h' }):wpAny s!"q" A (unpackItems s!"E" items.size none) Q E s:=by
 have hlt:t≠s.heap.objs.size:=by
  obtain ⟨o,e,_⟩:=ht;exact Nat.ne_of_lt s!"C{e}"
 have hty:s.TypeIs s!"E" "list":=by
  obtain ⟨o,e,c,_⟩:=ht;exact ⟨o,e,c⟩
 unfold unpackItems notIterableAtAll;refine wpAny_bind s!"p{wpAny_specialOf hty slot_list_iter.lookup s!"&"}";simp only [Bool.false_eq_true,if_false];refine wpAny_bind s!"/{wpAny_pyIter_list ht ?_}";have hl1:(s.heap.push { cls:=.type "list_iterator",data:=.fields #[.ref t,.int 0 0] }).IsList t items:=by
  obtain ⟨o,e,r⟩:=ht;exact ⟨o,Heap.get?_push_of_some _ e,r⟩
 refine wpAny_bind s!"/{(zdw hlt items.size 0 _ _ ⟨_,Heap.get?_push_size _ rfl,rfl,rfl⟩ hl1 s!"e" fun h1 hi1 hk1=>?_)}"
 rw [List.drop_zero,show List.take items.size items.toList=items.toList from List.take_of_length_le (by simp)]
 simp only [Array.length_toList,Nat.lt_irrefl,if_false];refine wpAny_bind s!"/{(wpAny_pyNext_list_end hh hi1 (zcp hlt hk1 hl1) (by simp) fun h2 hk2=>?_)}"
 simp only [Option.isSome_none,Bool.false_eq_true,if_false];refine wpAny_pure (hQ h2 fun b o hb e=>hk2 b o hb ?_)
 rw [hk1.2 b hb];exact Heap.get?_push_of_some _ e
theorem zfn {prog:Program} {w:World} {A:Around} {E:Value->Shared->Prop} {s:Shared} {t:Addr} {items:Array Value} {targets:List (Bool×(Value->Sem Unit))} {Q:Unit->Shared->Prop} (hh:A.handled=none) (ht:s.heap.IsList t items) (hn:targets.length=items.size) (hs:targets.findIdx? (·.1)=none)
 (h:∀h':Heap,Heap.ExtBut s.heap.objs.size s.heap h'->wpAny s!"q" A (assignInOrder (targets.map (·.2)) items.toList) Q E { s with heap:=h' }):wpAny s!"q" A (unpack s!"E" targets) Q E s:=by
 unfold unpack;rw [hn,hs];exact wpAny_bind s!"/{zbh hh ht h}"
section
variable {X:Cx} {pos:Pos}
def zqN (K:PySem.W.Frag) (n:Nat) (t:TGs):TG:=fun v σ H Q=>∃a xs,v=.ref a/\SqL K H a xs/\xs.length=n/\t xs σ H Q
theorem zpb {es:List Expr} {k:Nat} {t:TGs} {n:Nat} (hc:X.calm=true) (h:PGs X es t)
 (hn:s!"a2".length=n:=by rfl) (hst:s!"a2".findIdx? (·.1)=none:=by rfl):PG X (.Tuple es k pos) (zqN X.K n t):=by
 intro pins s σ H v u Q I r hw;obtain ⟨a,xs,e1,hq,hl,hw⟩:=hw;subst e1;cases r;obtain ⟨its,rv,ht,hz⟩:=I.list hq;rw [assign_Tuple];refine wpAny_bind s!"at{(zfn (I.ok.hd hc) ht.isList (by simp [hn,<-hl,rv.length]) hst fun h' hx=>?_)}"
 have I1:Inv X pins σ H { s with heap:=h' }:=I.kept (t':=s.toks) fun b o e=>hx b o s!"U{s!"C{e}"}" e
 exact h pins _ σ H xs _ Q I1 (by simpa using rv) hw
variable {σ:St} {H:Hp} {K:PySem.W.Frag}
theorem zmy {a:Addr} {xs:List V} {n:Nat} {t:TGs} {R:St->Hp->Prop} (h1:SqL K H a xs) (hn:xs.length=n) (h:t xs σ H R):zqN K n t s!"g" σ H R:=⟨a,xs,rfl,h1,hn,h⟩
end
def ltr (b:Bool):Str:=if b then "u" else "v"
structure WordL (H:Hp) (D:Addr) (ws:List (Bool×Int)):Prop where
 ex:∃as:List Addr,H D=some (.lst s!"av")/\as.length=ws.length/\∀(i:Nat) (x:Addr) (p:Bool×Int),as[i]? =some x->ws[i]? =some p->H x=some (.tup [.str (ltr p.1),.int p.2])
theorem WordL.same {H H':Hp} {D:Addr} {ws:List (Bool×Int)} (W:WordL H D ws) (s:Same H H'):WordL H' D ws:=by
 obtain ⟨as,e,l,t⟩:=W.ex;exact ⟨as,s.obj e,l,fun i x p hx hp=>s.obj (t i x p hx hp)⟩
theorem WordL.nil {H:Hp} {D:Addr} (e:H D=some (.lst [])):WordL H D []:=⟨[],e,rfl,fun i x p hx=>by simp at hx⟩
section
variable {H:Hp} {Q:VK}
end
section
variable {σ:St} {H:Hp} {Q:VK} {K:PySem.W.Frag}
end
section
variable {σ:St} {H:Hp} {Q:VK} {K:PySem.W.Frag} {D:Ends}
def zqO (K:PySem.W.Frag) (x:V) (H:Hp) (R:It->Hp->Prop):Prop:=∃a,x=.ref a/\(∃xs,SqT K H a xs)/\R (Itt K a) H
theorem ziZ.Qf {tl:TE} {g:TG} {tb:TS} (h:tl σ H fun x H1=>zqO K x H1 fun J H2=>∃W:Nat->Nat->St->Hp->Prop,(∃m,W 0 m σ H2)/\∀i m σ H,W i m σ H->
 (J.stop i H/\D.nx σ H)\/(J.go i H/\∃N:St->Hp->Prop,(∀σ' H',N σ' H'->∃m',m'<m/\W (i+1) m' σ' H')/\∀x H',J.yld i H x H'->g x σ H' fun σ2 H2=>tb { D with nx:=N,ct:=N,bk:=D.nx } σ2 H2)):ziZ (zos K tl) g tb D σ H:=h
theorem zqO.Qc {a:Addr} {xs:List V} {R:It->Hp->Prop} (h1:SqT K H a xs) (h:R (Itt K a) H):zqO K s!"g" H R:=⟨a,rfl,⟨xs,h1⟩,h⟩
end
section
variable {σ:St} {H:Hp} {Q:VK} {K:PySem.W.Frag}
end
section
variable {σ:St} {H:Hp} {Q:VK} {K:PySem.W.Frag} {D:Ends}
def kIp (v:Int) (y:V) (H:Hp) (R:Int->Hp->Prop):Prop:=∃j,y=.int j/\R (v+j) H
theorem kIp.Q5 {v j:Int} {R:Int->Hp->Prop} (h:R (v+j) H):kIp v (.int j) H R:=⟨j,rfl,h⟩
theorem zpW.Q4 {i:Nat} {v:Int} {te:TE} (e:σ[i]? =some (some (.int v))) (h:te σ H fun y H1=>kIp v y H1 fun z H2=>yR i (.int z) σ H2 D.nx):zpW i te (ipI fun i j=>i+j) D σ H:=by
 refine ⟨.int v,e,?_⟩;have:(fun y H1=>kIp v y H1 fun z H2=>yR i (.int z) σ H2 D.nx)=fun y H1=>(ipI fun i j=>i+j) (.int v) y H1 fun z H2=>D.nx (σ.set i (some z)) H2:=by
  funext y H1;apply propext;constructor
  ·rintro ⟨j,rfl,h⟩;exact ⟨v,j,rfl,rfl,h⟩
  ·rintro ⟨i',j,e1,rfl,h⟩;cases e1;exact ⟨j,rfl,h⟩
 rw [this] at h;exact h
end
section
variable {X:Cx}
end
section
variable {σ:St} {H:Hp} {Q:VK} {K:PySem.W.Frag}
end
def zcq (h:Heap) (it t:Addr) (i:Nat):Prop:=h.get? it=some { cls:=.type "tuple_iterator",data:=.fields #[.ref t,.int (i:Int) 0] }
section
variable {prog:Program} {w:World} {A:Around} {E:Value->Shared->Prop} {s:Shared} {it t:Addr} {i:Nat} {items:Array Value}
theorem zcq.ti {h:Heap} (hi:zcq h it t i):IsTupIter h it t i:=⟨_,hi,rfl,rfl⟩
theorem zbV {x:Value} {Q:Value->Shared->Prop} (hi:zcq s.heap it t i) (ht:IsTup s.heap t items) (hx:items[i]? =some x)
 (h:∀h':Heap,zcq h' it t (i+1)->Heap.SameBut it s.heap h'->Q x { s with heap:=h' }):wpAny s!"q" A (Builtin.SmallTypes.nextOf (.ref it)) Q E s:=by
 obtain ⟨o2,e2,c2,n2,d2⟩:=id ht;refine wpAny_bind s!"bD";refine wpAny_bind (wpAny_pure (a:=(Value.ref it,[])) ?_);refine wpAny_bind s!"be";refine wpAny_bind s!"be";refine wpAny_bind (wpAny_seqItems e2 d2 ?_);show wpAny _ _ (match items[(i:Int).toNat]? with | some x=>_ | none=>_) _ _ _
 rw [Int.toNat_natCast,hx];refine wpAny_bind (wpAny_setField_rec hi (by show 1<2;decide) fun h' a1 a2=>?_)
 exact wpAny_pure ⟨x,rfl,wpAny_pure (h h' a1 a2)⟩
theorem zh3 {α:Type} {Q:α->Shared->Prop} (hd:A.handled=none) (h:∀(h':Heap) (e:Addr),(∀b o,s.heap.get? b=some o->h'.get? b=some o)->(∃o,h'.get? e=some o/\o.cls=Value.type "StopIteration")->E s!"Q" { s with heap:=h' }):
 wpAny s!"q" A (Builtin.SmallTypes.stopIteration (α:=α)) Q E s:=by
 refine wpAny_bind ?_;rw [newExc.eq_1];refine wpAny_bind (wpAny_newTuple ?_);refine wpAny_bind s!"p{s!"V{s!"&"}"}";refine wpAny_bind (wpAny_alloc ?_);refine wpAny_pure (wpAny_raiseNew_none hd (h _ _ ?_ ?_))
 ·intro b o hb;exact Heap.get?_push_of_some _ s!"8{hb}"
 ·exact ⟨_,Heap.get?_push_size _ rfl,rfl⟩
theorem zcr {Q:Value->Shared->Prop} (hd:A.handled=none) (hi:zcq s.heap it t i) (ht:IsTup s.heap t items) (hx:items[i]? =none)
 (h:∀(h':Heap) (e:Addr),Heap.ExtBut it s.heap h'->(∃o,h'.get? e=some o/\o.cls=Value.type "StopIteration")->E s!"Q" { s with heap:=h' }):wpAny s!"q" A (Builtin.SmallTypes.nextOf (.ref it)) Q E s:=by
 obtain ⟨o2,e2,c2,n2,d2⟩:=id ht;refine wpAny_bind s!"bD";refine wpAny_bind (wpAny_pure (a:=(Value.ref it,[])) ?_);refine wpAny_bind s!"be";refine wpAny_bind s!"be";refine wpAny_bind (wpAny_seqItems e2 d2 ?_);show wpAny _ _ (match items[(i:Int).toNat]? with | some x=>_ | none=>_) _ _ _
 rw [Int.toNat_natCast,hx];refine wpAny_bind (wpAny_rule ?_);refine wpAny_bind (wpAny_setField_rec hi (by show 0<2;decide) fun h' a1 a2=>?_)
 refine zh3 (s:={ s with heap:=h' }) hd fun h2 e k1 k2=>h h2 e (fun b o hb ho=>k1 b o ?_) k2
 show h'.get? b=some o;rw [a2.2 b hb];exact ho
theorem zcq.keep {h h':Heap} (hi:zcq h it t i) (k:∀o,h.get? it=some o->h'.get? it=some o):zcq h' it t i:=k _ hi
theorem zdx (hd:A.handled=none) (it t:Addr) (hne:t≠it) (items:Array Value):Draws prog w A it [it,t] items.size (fun i v=>items[i]? =some v) fun i h=>zcq h it t i/\IsTup h t items where
 live:=fun i h st=>⟨_,st.1⟩
 frame:=fun i h h' st k=>⟨st.1.keep fun o e=>k it (by simp) o e,by
  obtain ⟨o,e,c⟩:=st.2;exact ⟨o,k t (by simp) o e,c⟩⟩
 item:=fun i s Q E hi st h=>by
  refine zbV st.1 st.2 (Array.getElem?_eq_getElem hi) fun h' a1 a2=>h _ h' s.toks (Array.getElem?_eq_getElem hi) ⟨a1,?_⟩ a2
  obtain ⟨o,e,c⟩:=st.2;exact ⟨o,(a2.2 t hne).trans e,c⟩
 done:=fun s Q E st h=>zcr hd st.1 st.2 (Array.getElem?_eq_none (Nat.le_refl _)) h
end
section
variable {X:Cx}
end
section
variable {σ:St} {H:Hp} {Q:VK} {D:Ends} {K:PySem.W.Frag}
end
section
variable {X:Cx}
end
section
variable {σ:St} {H:Hp} {Q:VK} {K:PySem.W.Frag}
end
theorem zjO {prog:Program} {w:World} {A:Around} {E:Value->Shared->Prop} {s:Shared} {t b:Addr} {vs ws:List Value} {Q:Value->Shared->Prop} (ht:IsTup s.heap t vs.toArray) (hb:IsTup s.heap b ws.toArray) (hv:vs=[]) (h:Q (.ref b) s):wpAny s!"q" A (binaryOp .Add s!"E" (.ref b)) Q E s:=by
 obtain ⟨⟨cls,dd,data,sl⟩,ho,hc,n,hd⟩:=id ht;obtain ⟨⟨cls2,dd2,data2,sl2⟩,ho2,hc2,n2,hd2⟩:=id hb;simp only at hc hd hc2 hd2;subst hc hd hc2 hd2;exact concat_meets ⟨_,ho,rfl⟩ ⟨_,ho2,rfl⟩ noFill_tuple_add seq_tuple_add PySem.F.slot_tuple_add PySem.F.entry_tuple_add s!"bm"
  (tuple_addW0 t b vs.toArray ws.toArray n n2 dd dd2 sl sl2 (by simp [hv])) ⟨ho,ho2,h⟩
def znT:R2:=fun x y H Q=>∃a b xs ys,x=.ref a/\y=.ref b/\H a=some (.tup xs)/\H b=some (.tup ys)/\xs.length+ys.length<=sizeLine/\∀p H',Same H H'->H' p=some (.tup (xs++ys))->Q (.ref p) H'
section
variable {X:Cx}
theorem zmA:OpR X s!"aE" znT:=by
 intro pins s σ H x y v u Q I rx ry h;obtain ⟨a,b,xs,ys,rfl,rfl,ha,hb,hz,q⟩:=h;cases rx;cases ry;obtain ⟨its,r1,p1,_⟩:=I.tuple (SqT.of ha);obtain ⟨its2,r2,p2,_⟩:=I.tuple (SqT.of hb)
 by_cases hx:xs=[]
 ·subst hx;exact zjO p1 p2 (r1.nil_iff.mpr rfl) ⟨.ref b,H,I,rfl,q b H (Same.refl _) (by rw [List.nil_append];exact hb)⟩
 ·refine HT.zlz p1 p2 (fun z=>hx (r1.nil_iff.mp z)) (fun z=>⟨.ref a,H,I,rfl,q a H (Same.refl _) (by rw [r2.nil_iff.mp z,List.append_nil];exact ha)⟩) (fun z=>?_) (by rw [<-r1.length,<-r2.length];exact hz)
  have nf:H s.heap.objs.size=none:=I.hok.fresh (Nat.le_refl _);refine ⟨.ref s.heap.objs.size,_,I.laid (t':=s.toks) (o:=.tup (xs++ys)) (fun b ob q=>Heap.get?_push_of_some _ q) (Nat.le_refl _) ?_,rfl,q _ _ (Same.new nf _) zi⟩
  exact ⟨by rw [List.length_append];exact hz,_,r1.append r2,IsTup.new _ _⟩
def znU:R2:=fun x y H Q=>zfl x y H Q\/znT x y H Q
theorem zeo:OpR X s!"aE" znU:=op_addA.or zmA
end
section
variable {σ:St} {H:Hp} {Q:VK} {K:PySem.W.Frag}
theorem zhc {a b:Addr} {xs ys:List V} (h1:H a=some (.tup xs)) (h2:H b=some (.tup ys)) (hz:xs.length+ys.length<=1000) (h:∀p H',Same H H'->H' p=some (.tup (xs++ys))->Q (.ref p) H'):znU s!"g" (.ref b) H Q:=.inr ⟨a,b,xs,ys,rfl,rfl,h1,h2,Nat.le_of_lt (zz hz),h⟩
end
section
variable {prog:Program} {w:World} {A:Around} {E:Value->Shared->Prop} {s:Shared} {r:Addr} {n:Nat} {t u v:Tok} {j:Int}
theorem zgj (args:Args):A.under (Code.builtin "list.__iadd__" args)=A.in1:=by
 obtain ⟨hd,dp,fr,gd,un⟩:=A;unfold Around.under;cases fr <;> cases gd <;> rfl
end
section
variable {X:Cx}
end
section
variable {σ:St} {H:Hp} {Q:VK} {K:PySem.W.Frag}
end
section
variable {X:Cx}
end
section
variable {σ:St} {H:Hp} {Q:VK} {K:PySem.W.Frag}
theorem zh4 {tl:TE} {w2:TI} {te:TE} {fr:List Nat} (vs:St) (e:yN fr σ=vs) (h:tl σ H fun x H1=>zoG K x H1 fun J H2=>zag te vs J H2 Q):zco (fun σ H R=>zgX K tl σ H R\/w2 σ H R) fr te σ H Q:=by subst e;exact .inl h
end
section
variable {X:Cx}
variable {H:Hp} {Q:VK}
end
section
variable {X:Cx}
variable {H:Hp} {Q:VK} {K:PySem.W.Frag}
end
section
variable {X:Cx}
end
section
variable {X:Cx} {pins:List (Addr×Obj)} {scope:Scope} {x:Str} {ys:List Str} {cl:List (Str×Addr)} {ex:List Addr} {s:Shared} {H:Hp}
end
section
variable {σ:St} {H:Hp} {Q:VK} {K:PySem.W.Frag}
end
inductive Cmp (K:PySem.W.Frag) (H:Hp):Nat->V->V->Bool->Prop
 | flat {d:Nat} {x y:V} (fx:ya x=true) (fy:ya y=true):Cmp K H d x y (eqV x y)
 | tup {d:Nat} {a b:Addr} {xs ys:List V} (e:Nat->Bool) (h1:SqT K H a xs) (h2:SqT K H b ys) (hl:xs.length=ys.length) (he:∀(i:Nat) x y,xs[i]? =some x->ys[i]? =some y->Cmp K H d x y (e i)):Cmp K H (d+1) s!"g" (.ref b) (s!"5{xs.length}".all e)
 | lst {d:Nat} {a b:Addr} {xs ys:List V} (e:Nat->Bool) (h1:SqL K H a xs) (h2:SqL K H b ys) (hl:xs.length=ys.length) (he:∀(i:Nat) x y,xs[i]? =some x->ys[i]? =some y->Cmp K H d x y (e i)):Cmp K H (d+1) s!"g" (.ref b) (s!"5{xs.length}".all e)
 | lens {d:Nat} {a b:Addr} {xs ys:List V} (h1:SqL K H a xs) (h2:SqL K H b ys) (hl:xs.length≠ys.length):Cmp K H (d+1) s!"g" (.ref b) false
theorem eqV_refl {x:V} (f:ya x=true):eqV x x=true:=by
 cases x <;> simp [ya] at f <;> simp [eqV]
theorem zmB {n:Nat} {e:Nat->Bool} (h:∀i,i<n->e i=true):s!"5{n}".all e=true:=
 List.all_eq_true.mpr fun i hi=>h i (List.mem_range.mp hi)
section
variable {X:Cx} {pins:List (Addr×Obj)} {σ:St} {H:Hp} {s:Shared}
theorem Cmp.self (I:Inv X pins σ H s) {d:Nat} {x y:V} {b:Bool} (c:Cmp X.K H d x y b):x=y->b=true:=by
 induction c with
 | flat fx fy=>intro e;subst e;exact eqV_refl fx
 | @tup d a b xs ys e h1 h2 hl he ih=>
  intro q;cases q;have:=I.tuple_inj h1 h2;subst this;exact zmB fun i hi=>ih i xs[i] xs[i] (List.getElem?_eq_getElem hi) (List.getElem?_eq_getElem hi) rfl
 | @lst d a b xs ys e h1 h2 hl he ih=>
  intro q;cases q;have:=I.list_inj h1 h2;subst this;exact zmB fun i hi=>ih i xs[i] xs[i] (List.getElem?_eq_getElem hi) (List.getElem?_eq_getElem hi) rfl
 | lens h1 h2 hl=>
  intro q;cases q;exact absurd (by rw [I.list_inj h1 h2]) hl
theorem Cmp.items {d:Nat} {xs ys:List V} {us vs:List Value} {e:Nat->Bool} {A:Around} (r1:zo xs us) (r2:zo ys vs) (he:∀(i:Nat) x y,xs[i]? =some x->ys[i]? =some y->∀{u v:Value},zq x u->zq y v->SeqAt.EqAt A s u v (e i))
 (j:Nat) (g1:j<us.toArray.size) (g2:j<vs.toArray.size):SeqAt.EqAt A s us.toArray[j] vs.toArray[j] (e j):=by
 have l1:=r1.length;have l2:=r2.length;rw [List.size_toArray] at g1 g2;obtain ⟨x,hx⟩:∃x,xs[j]? =some x:=⟨_,List.getElem?_eq_getElem s!"e"⟩
 obtain ⟨y,hy⟩:∃y,ys[j]? =some y:=⟨_,List.getElem?_eq_getElem s!"e"⟩
 obtain ⟨u,hu',ru⟩:=r1.get hx;obtain ⟨v,hv',rv⟩:=r2.get hy;have eu:us.toArray[j]=u:=by
  have:=List.getElem?_eq_some_iff.mp hu';simpa using this.2
 have ev:vs.toArray[j]=v:=by
  have:=List.getElem?_eq_some_iff.mp hv';simpa using this.2
 rw [eu,ev];exact he j x y hx hy ru rv
theorem Cmp.at (I:Inv X pins σ H s) {d:Nat} {x y:V} {b:Bool} (c:Cmp X.K H d x y b):∀{A:Around} {u v:Value},A.units+d<cLine->zq x u->zq y v->SeqAt.EqAt A s u v b:=by
 induction c with
 | flat fx fy=>intro A u v _ ru rv;exact eqAt_V ru rv fx fy
 | @tup d a b xs ys e h1 h2 hl he ih=>
  intro A u v hu ru rv;cases ru;cases rv
  by_cases q:a=b
  ·subst q;rw [(Cmp.tup e h1 h2 hl he).self I rfl];exact SeqAt.EqAt.same _
  ·obtain ⟨us,r1,t1,_⟩:=I.tuple h1;obtain ⟨vs,r2,t2,_⟩:=I.tuple h2;have h:=SeqAt.EqAt.of_refs q (SeqAt.RcAt.tuples t1 t2 s!"e" (Cmp.items (s:=s) (A:=A.in1) (e:=e) (d:=d) r1 r2 fun i x y hx hy u v ru rv=>ih i x y hx hy (A:=A.in1) (by show A.units+1+d<_;omega) ru rv))
   have l1:=r1.length;have l2:=r2.length;rw [List.size_toArray,List.size_toArray,<-l1,<-l2,<-hl,Nat.min_self,beq_self_eq_true,Bool.and_true] at h;exact h
 | @lst d a b xs ys e h1 h2 hl he ih=>
  intro A u v hu ru rv;cases ru;cases rv
  by_cases q:a=b
  ·subst q;rw [(Cmp.lst e h1 h2 hl he).self I rfl];exact SeqAt.EqAt.same _
  ·obtain ⟨us,r1,t1,_⟩:=I.list h1;obtain ⟨vs,r2,t2,_⟩:=I.list h2;have l1:=r1.length;have l2:=r2.length;have h:=SeqAt.EqAt.of_refs q (SeqAt.RcAt.lists t1.isList t2.isList (by rw [List.size_toArray,List.size_toArray];omega) s!"e" (Cmp.items (s:=s) (A:=A.in1) (e:=e) (d:=d) r1 r2 fun i x y hx hy u v ru rv=>ih i x y hx hy (A:=A.in1) (by show A.units+1+d<_;omega) ru rv))
   rw [List.size_toArray,<-l1] at h;exact h
 | @lens d a b xs ys h1 h2 hl=>
  intro A u v hu ru rv;cases ru;cases rv
  by_cases q:a=b
  ·subst q;exact absurd (by rw [I.list_inj h1 h2]) hl
  ·obtain ⟨us,r1,t1,_⟩:=I.list h1;obtain ⟨vs,r2,t2,_⟩:=I.list h2;have l1:=r1.length;have l2:=r2.length;exact SeqAt.EqAt.of_refs q (SeqAt.RcAt.lists_lengths t1.isList t2.isList (by rw [List.size_toArray,List.size_toArray,<-l1,<-l2];simpa using hl) s!"e")
end
theorem Room.units3 {k:Nat} {A:Around} (h:Room k A):A.units+5<cLine:=by
 have:=h.un;omega
def zqP (K:PySem.W.Frag):R2:=fun x y H Q=>zmn K x y H Q\/∃a c b,x=.ref a/\y=.ref c/\Cmp K H 4 s!"g" (.ref c) b/\Q (.bl b) H
def zqQ (K:PySem.W.Frag):R2:=fun x y H Q=>zmq K x y H Q\/∃a c b,x=.ref a/\y=.ref c/\Cmp K H 4 s!"g" (.ref c) b/\Q (.bl (!b)) H
section
variable {X:Cx}
theorem zjP (hu:X.A.units+5<cLine):OpR X s!"O{.Eq}" (zqP X.K):=by
 refine (op_eqA s!"e").or ?_
 intro pins s σ H x y v u Q I rx ry h;obtain ⟨a,c,b,rfl,rfl,hc,q⟩:=h;cases rx;cases ry;cases hc with
 | flat f1 f2=>cases f1
 | @tup d a b xs ys e h1 h2 hl he=>
  obtain ⟨us,r1,t1,_⟩:=I.tuple h1;obtain ⟨vs,r2,t2,_⟩:=I.tuple h2;have l1:=r1.length;have l2:=r2.length;refine SeqAt.eq_tupleAt (e:=e) t1 t2 s!"e" (Cmp.items (d:=3) r1 r2 fun i x y hx hy u v ru rv=>(he i x y hx hy).at I (by show X.A.units+1+3<_;omega) ru rv) ⟨.bl _,H,I,?_,q⟩
  show Value.bool _=Value.bool _;rw [List.size_toArray,List.size_toArray,<-l1,<-l2,<-hl,Nat.min_self,beq_self_eq_true,Bool.and_true]
 | @lst d a b xs ys e h1 h2 hl he=>
  obtain ⟨us,r1,t1,_⟩:=I.list h1;obtain ⟨vs,r2,t2,_⟩:=I.list h2;have l1:=r1.length;have l2:=r2.length;refine SeqAt.eq_listAt (e:=e) t1.isList t2.isList (by rw [List.size_toArray,List.size_toArray];omega) s!"e" (Cmp.items (d:=3) r1 r2 fun i x y hx hy u v ru rv=>(he i x y hx hy).at I (by show X.A.units+1+3<_;omega) ru rv) ⟨.bl _,H,I,?_,q⟩
  show Value.bool _=Value.bool _;rw [List.size_toArray,<-l1]
 | @lens d a b xs ys h1 h2 hl=>
  obtain ⟨us,r1,t1,_⟩:=I.list h1;obtain ⟨vs,r2,t2,_⟩:=I.list h2;have l1:=r1.length;have l2:=r2.length;exact SeqAt.eq_list_lengthsAt t1.isList t2.isList (by rw [List.size_toArray,List.size_toArray,<-l1,<-l2];simpa using hl) s!"e" ⟨.bl _,H,I,rfl,q⟩
theorem zjQ (hu:X.A.units+5<cLine):OpR X s!"O{.NotEq}" (zqQ X.K):=by
 refine (op_neA s!"e").or ?_
 intro pins s σ H x y v u Q I rx ry h;obtain ⟨a,c,b,rfl,rfl,hc,q⟩:=h;cases rx;cases ry;cases hc with
 | flat f1 f2=>cases f1
 | @tup d a b xs ys e h1 h2 hl he=>
  obtain ⟨us,r1,t1,_⟩:=I.tuple h1;obtain ⟨vs,r2,t2,_⟩:=I.tuple h2;have l1:=r1.length;have l2:=r2.length;refine SeqAt.RcNeAt.tuples (e:=e) t1 t2 s!"e" (Cmp.items (d:=3) r1 r2 fun i x y hx hy u v ru rv=>(he i x y hx hy).at I (by show X.A.units+1+3<_;omega) ru rv) _ _ _ _ ⟨.bl _,H,I,?_,q⟩
  show Value.bool _=Value.bool _;rw [List.size_toArray,List.size_toArray,<-l1,<-l2,<-hl,Nat.min_self,beq_self_eq_true,Bool.and_true]
 | @lst d a b xs ys e h1 h2 hl he=>
  obtain ⟨us,r1,t1,_⟩:=I.list h1;obtain ⟨vs,r2,t2,_⟩:=I.list h2;have l1:=r1.length;have l2:=r2.length;refine SeqAt.RcNeAt.lists (e:=e) t1.isList t2.isList (by rw [List.size_toArray,List.size_toArray];omega) s!"e" (Cmp.items (d:=3) r1 r2 fun i x y hx hy u v ru rv=>(he i x y hx hy).at I (by show X.A.units+1+3<_;omega) ru rv) _ _ _ _ ⟨.bl _,H,I,?_,q⟩
  show Value.bool _=Value.bool _;rw [List.size_toArray,<-l1]
 | @lens d a b xs ys h1 h2 hl=>
  obtain ⟨us,r1,t1,_⟩:=I.list h1;obtain ⟨vs,r2,t2,_⟩:=I.list h2;have l1:=r1.length;have l2:=r2.length;exact SeqAt.RcNeAt.lists_lengths t1.isList t2.isList (by rw [List.size_toArray,List.size_toArray,<-l1,<-l2];simpa using hl) s!"e" _ _ _ _ ⟨.bl _,H,I,rfl,q⟩
theorem zh5 (a b c d:Value):argsOk "min" ⟨[a,b,c,d],[]⟩:=by unfold argsOk;kernel_rfl
def znV:List V->Hp->VK->Prop:=fun xs H Q=>∃a b c d:Int,xs=[.int a,.int b,.int c,.int d]/\∀M:Int,(M=a\/M=b\/M=c\/M=d)->M<=a->M<=b->M<=c->M<=d->Q (.int M) H
theorem zh6 (hc:X.calm=true):yi X s!"L{"min"}" znV:=by
 intro pins s σ H xs us Q I r h;obtain ⟨a,b,c,d,e,q⟩:=h;subst e;obtain _ | ⟨⟨t1,rfl⟩,_ | ⟨⟨t2,rfl⟩,_ | ⟨⟨t3,rfl⟩,_ | ⟨⟨t4,rfl⟩,_ | _⟩⟩⟩⟩:=r
 have val:∀(i:Nat) (v:Value),(#[Value.int a t1,.int b t2,.int c t3,.int d t4])[i]? =some v->∃t,v=Value.int (([a,b,c,d])[i]?.getD 0) t:=fun i v hv=>by
  match i,hv with
  | 0,hv=>exact ⟨t1,s!"9{hv}".symm⟩
  | 1,hv=>exact ⟨t2,s!"9{hv}".symm⟩
  | 2,hv=>exact ⟨t3,s!"9{hv}".symm⟩
  | 3,hv=>exact ⟨t4,s!"9{hv}".symm⟩
 obtain ⟨T,hT⟩:∃T,T=s.heap.objs.size:=⟨_,rfl⟩;have tup:(s.heap.push { cls:=.type "tuple",data:=.seq #[.int a t1,.int b t2,.int c t3,.int d t4] }).IsTuple T #[.int a t1,.int b t2,.int c t3,.int d t4]:=by
  rw [hT];exact ⟨_,Heap.get?_push_size _ rfl,rfl,0,rfl⟩
 refine call_function_tree F.kind_min F.plain_min F.entry_min (zh5 _ _ _ _) s!"p{wpAny_of_eq (show Builtin.Builtins.bindParams "min" ["key","default"] 0 ⟨[],[]⟩=pure [none,none] from rfl) s!"p{wpAny_newObj_type s!"p{?_}"}"}"
 rw [<-hT];refine wpAny_pyIter_tuple tup s!"p{wpAny_newObj_type s!"V{⟨plainId_quiet F.plain_min_loop _,?_⟩}"}";have n1:T≠(s.heap.push { cls:=.type "tuple",data:=.seq #[.int a t1,.int b t2,.int c t3,.int d t4] }).objs.size:=by rw [hT];exact Nat.ne_of_lt (by rw [show (s.heap.push _).objs.size=s.heap.objs.size+1 from Heap.size_push ..];exact Nat.lt_succ_self _)
 refine codeAny_min_loop_first (Walks.tuple (A:=X.A.in1) (show X.A.in1.handled=none from I.ok.hd hc) _ T n1 #[.int a t1,.int b t2,.int c t3,.int d t4]) _ (CmpOf.ints_lt (fun i=>([a,b,c,d])[i]?.getD 0) val) _ ?_ (by show 0<4;decide) ⟨⟨_,Heap.get?_push_of_some _ (Heap.get?_push_size _ rfl),rfl,rfl⟩,(tup.push _).push _⟩ (Heap.get?_push_size _ rfl) fun v h' tk hP hk=>?_
 ·intro z;rcases List.mem_cons.mp z with z | z
  ·exact absurd (show (Heap.push (Heap.push s.heap _) _).objs.size=(Heap.push s.heap _).objs.size from z) (Nat.ne_of_gt (by rw [show ((s.heap.push _).push _).objs.size=(s.heap.push _).objs.size+1 from Heap.size_push ..];exact Nat.lt_succ_self _))
  ·exact absurd (show (Heap.push (Heap.push s.heap _) _).objs.size=T from List.mem_singleton.mp z) (by rw [hT,show ((s.heap.push _).push _).objs.size=(s.heap.push _).objs.size+1 from Heap.size_push ..,show (s.heap.push _).objs.size=s.heap.objs.size+1 from Heap.size_push ..];omega)
 ·obtain ⟨b1,b2⟩:=argBest_lt (fun i=>([a,b,c,d])[i]?.getD 0) 3
  have hP':(#[Value.int a t1,.int b t2,.int c t3,.int d t4])[argBest (fun i j=>decide ((fun i=>([a,b,c,d])[i]?.getD 0) i<(fun i=>([a,b,c,d])[i]?.getD 0) j)) 3]? =some v:=hP
  generalize argBest (fun i j=>decide ((fun i=>([a,b,c,d])[i]?.getD 0) i<(fun i=>([a,b,c,d])[i]?.getD 0) j)) 3=k at*
  obtain ⟨t,ev⟩:=val k v hP';subst ev;have z0:=b2 0 s!"e"
  have z1:=b2 1 s!"e"
  have z2:=b2 2 s!"e"
  have z3:=b2 3 s!"e"
  refine ⟨.int (([a,b,c,d])[k]?.getD 0),H,I.kept (h':=h') (t':=tk) fun c o e=>hk c o (fun z=>?_) (fun z=>?_) s!"8{s!"8{s!";"}"}",⟨t,rfl⟩,q _ ?_ z0 z1 z2 z3⟩
  ·have l:=Heap.lt_size e;rw [List.mem_singleton.mp z] at l;have l2:(s.heap.push _).objs.size<s.heap.objs.size:=l;rw [show (s.heap.push _).objs.size=s.heap.objs.size+1 from Heap.size_push ..] at l2
   omega
  ·have l:=Heap.lt_size e;rw [z] at l;have l2:((s.heap.push _).push _).objs.size<s.heap.objs.size:=l;rw [show ((s.heap.push _).push _).objs.size=(s.heap.push _).objs.size+1 from Heap.size_push ..,show (s.heap.push _).objs.size=s.heap.objs.size+1 from Heap.size_push ..] at l2
   omega
  ·match k,b1 with
   | 0,_=>exact .inl rfl
   | 1,_=>exact .inr (.inl rfl)
   | 2,_=>exact .inr (.inr (.inl rfl))
   | 3,_=>exact .inr (.inr (.inr rfl))
   | n+4,h=>exact absurd h s!"e"
end
section
variable {σ:St} {H:Hp} {Q:VK} {K:PySem.W.Frag}
theorem zpe {a c:Addr} {b:Bool} (hc:Cmp K H 4 s!"g" (.ref c) b) (h:Q (.bl (!b)) H):zqQ K s!"g" (.ref c) H Q:=.inr ⟨a,c,b,rfl,rfl,hc,h⟩
theorem zep {a c:Addr} {b:Bool} (hc:Cmp K H 4 s!"g" (.ref c) b) (h:Q (.bl b) H):zqP K s!"g" (.ref c) H Q:=.inr ⟨a,c,b,rfl,rfl,hc,h⟩
theorem Cmp.to {d:Nat} {x y:V} {b b':Bool} (h:Cmp K H d x y b) (e:b=b'):Cmp K H d x y b':=e▸h
theorem znV.Q0 {a b c d:Int} (h:∀M:Int,(M=a\/M=b\/M=c\/M=d)->M<=a->M<=b->M<=c->M<=d->Q (.int M) H):znV [.int a,.int b,.int c,.int d] H Q:=⟨a,b,c,d,rfl,h⟩
end
section
variable {X:Cx} {pins:List (Addr×Obj)} {scope:Scope} {x:Str} {ys:List Str} {cl:List (Str×Addr)} {ex:List Addr} {s:Shared} {H:Hp}
end
structure ZDiff (z TI TO i1 i2:Addr) (f1 f2:List Addr):Prop where
 zTI:z≠TI
 zTO:z≠TO
 z1:z≠i1
 z2:z≠i2
 oI:TO≠TI
 o1:TO≠i1
 o2:TO≠i2
 I1:TI≠i1
 I2:TI≠i2
 ii:i1≠i2
 fz1:z∉f1
 fz2:z∉f2
 fo1:TO∉f1
 fo2:TO∉f2
 f12:i1∉f2
 f21:i2∉f1
section
variable {prog:Program} {w:World} {A:Around} {E:Value->Shared->Prop} {s:Shared} {z TI TO i1 i2:Addr} {f1 f2:List Addr} {n1 n2 i:Nat} {P1 P2:Nat->Value->Prop} {S1 S2:Nat->Heap->Prop} {a b:Value}
theorem zl {t:Addr} {h h':Heap} (k:Heap.SameBut t h h') {c:Addr} {o:Obj} (n:c≠t) (e:h.get? c=some o):h'.get? c=some o:=(k.2 c n).trans e
theorem yp {it:Addr} {fp:List Addr} {n:Nat} {P:Nat->Value->Prop} {St:Nat->Heap->Prop} (D:Draws prog w A it fp n P St) {j:Nat} {t:Addr} {h h':Heap} (nt:t∉fp) (st:St j h) (k:Heap.SameBut t h h'):St j h':=
 D.frame j h h' st fun c hc o e=>zl k (fun q=>nt (q▸hc)) e
theorem zh7 (D1:Draws prog w A i1 f1 n1 P1 S1) (D2:Draws prog w A i2 f2 n2 P2 S2) (Z:ZDiff z TI TO i1 i2 f1 f2) (hz:IsZip s.heap z TI TO .none) (hI:IsPair s.heap TI (.ref i1) (.ref i2)) (hO:IsPair s.heap TO a b)
 (st1:S1 i s.heap) (st2:S2 i s.heap) (l1:i<n1) (l2:i<n2) {Q:Value->Shared->Prop}
 (hQ:∀x y h' tk,P1 i x->P2 i y->IsZip h' z TI TO (rawInt s.heap.objs.size)->IsPair h' TO x y->S1 (i+1) h'->S2 (i+1) h'->IsPair h' s.heap.objs.size x y->(∀c o,c≠z->c≠TO->c≠i1->c≠i2->s.heap.get? c=some o->h'.get? c=some o)->Q s!"aD" { s with heap:=h',toks:=tk }):
 wpAny s!"q" A (Builtin.«zip.__next__» ⟨[.ref z],[]⟩) (fun fin s'=>∃v,fin=.done (.ret v)/\Q v s') E s:=by
 refine wpAny_bind (wpAny_pure (a:=(Value.ref z,[])) s!"p{wpAny_field hz rfl rfl s!"p{wpAny_field hz rfl rfl s!"p{wpAny_seqItems hI rfl ?_}"}"}");refine wpAny_bind s!"p{wpAny_field hz rfl rfl s!"V{s!"p{wpAny_rule s!"p{wpAny_field hz rfl rfl s!"p{(wpAny_setField_rec hz (by show 0<5;decide) fun g1 z1 k1=>wpAny_bind ?_)}"}"}"}"}"
 have z1':IsZip g1 z TI TO .ellipsis:=z1;simp only [List.zipIdx_cons,List.zipIdx_nil,List.forIn_cons,List.forIn_nil];refine wpAny_bind s!"p{wpAny_onRaise s!"p{(D1.item i { s with heap:=g1 } _ _ l1 (yp D1 Z.fz1 st1 k1) fun x g2 t2 px q1 k2=>wpAny_pure ?_)}"}"
 have O2:IsPair g2 TO a b:=zl k2 Z.o1 (zl k1 Z.zTO.symm hO);refine wpAny_bind (wpAny_seqItems O2 rfl s!"p{(wpAny_updateSeq_pair O2 fun g3 O3 k3=>wpAny_bind (wpAny_letGo s!"&"))}")
 refine wpAny_bind s!"p{wpAny_onRaise s!"p{(D2.item i { s with heap:=g3,toks:=t2 } _ _ l2 s!"bE" fun y g4 t4 py q2 k4=>wpAny_pure ?_)}"}"
 have O4:IsPair g4 TO x b:=zl k4 Z.o2 O3;refine wpAny_bind (wpAny_seqItems O4 rfl s!"p{(wpAny_updateSeq_pair O4 fun g5 O5 k5=>wpAny_bind (wpAny_letGo s!"V{s!"&"}"))}")
 have O5':IsPair g5 TO x y:=O5;have sz:g5.objs.size=s.heap.objs.size:=k5.1.trans (k4.1.trans (k3.1.trans (k2.1.trans k1.1)));have z5:IsZip g5 z TI TO .ellipsis:=zl k5 Z.zTO (zl k4 Z.z2 (zl k3 Z.zTO (zl k2 Z.z1 z1')));have all:∀c o,c≠z->c≠TO->c≠i1->c≠i2->s.heap.get? c=some o->g5.get? c=some o:=fun c o c1 c2 c3 c4 e=>zl k5 c2 (zl k4 c4 (zl k3 c2 (zl k2 c3 (zl k1 c1 e))))
 refine wpAny_bind (wpAny_seqItems O5' rfl s!"p{wpAny_newTuple ?_}");have z6:IsZip (g5.push { cls:=.type "tuple",data:=.seq #[x,y] }) z TI TO .ellipsis:=Heap.get?_push_of_some _ z5;refine wpAny_bind s!"p{(wpAny_setField_rec z6 (by show 0<5;decide) fun g7 z7 k7=>?_)}"
 have z7':IsZip g7 z TI TO (rawInt g5.objs.size):=z7;refine wpAny_setField_rec z7' (by show 1<5;decide) fun g8 z8 k8=>wpAny_pure ⟨_,rfl,?_⟩
 have z8':IsZip g8 z TI TO (rawInt g5.objs.size):=z8;have up:∀c o,c≠z->g5.get? c=some o->g8.get? c=some o:=fun c o n e=>zl k8 n (zl k7 n s!";")
 have nz:g5.objs.size≠z:=Nat.ne_of_gt s!"C{z5}";have r8:IsPair g8 g5.objs.size x y:=zl k8 nz (zl k7 nz (Heap.get?_push_size _ rfl));have fin:=hQ x y g8 t4 px py;rw [<-sz] at fin;refine fin z8' (up _ _ Z.zTO.symm O5') ?_ ?_ r8 fun c o c1 c2 c3 c4 e=>up c o c1 (all c o c1 c2 c3 c4 e)
 ·exact D1.frame _ g5 g8 (yp D1 Z.fo1 (yp D1 Z.f21 (yp D1 Z.fo1 q1 k3) k4) k5) fun c hc o e=>up c o (fun q=>Z.fz1 (q▸hc)) e
 ·exact D2.frame _ g5 g8 (yp D2 Z.fo2 q2 k5) fun c hc o e=>up c o (fun q=>Z.fz2 (q▸hc)) e
theorem zjR (D1:Draws prog w A i1 f1 n1 P1 S1) (D2:Draws prog w A i2 f2 n2 P2 S2) (Z:ZDiff z TI TO i1 i2 f1 f2) (hz:IsZip s.heap z TI TO .none) (hI:IsPair s.heap TI (.ref i1) (.ref i2)) (hO:IsPair s.heap TO a b)
 (st1:S1 i s.heap) (st2:S2 i s.heap) (ends:i=n1\/(i<n1/\i=n2)) {Q:Fin->Shared->Prop}
 (hE:∀h' tk e,(∀c o,c≠z->c≠TO->c≠i1->c≠i2->s.heap.get? c=some o->h'.get? c=some o)->(∃o,h'.get? e=some o/\o.cls=.type "StopIteration")->E s!"Q" { s with heap:=h',toks:=tk }):
 wpAny s!"q" A (Builtin.«zip.__next__» ⟨[.ref z],[]⟩) Q E s:=by
 refine wpAny_bind (wpAny_pure (a:=(Value.ref z,[])) s!"p{wpAny_field hz rfl rfl s!"p{wpAny_field hz rfl rfl s!"p{wpAny_seqItems hI rfl ?_}"}"}");refine wpAny_bind s!"p{wpAny_field hz rfl rfl s!"V{s!"p{wpAny_rule s!"p{wpAny_field hz rfl rfl s!"p{(wpAny_setField_rec hz (by show 0<5;decide) fun g1 z1 k1=>wpAny_bind ?_)}"}"}"}"}"
 have z1':IsZip g1 z TI TO .ellipsis:=z1;simp only [List.zipIdx_cons,List.zipIdx_nil,List.forIn_cons,List.forIn_nil];rcases ends with rfl | ⟨l1,rfl⟩
 ·refine wpAny_bind s!"p{wpAny_onRaise s!"p{(D1.done { s with heap:=g1 } _ _ (yp D1 Z.fz1 st1 k1) fun g2 e k2 he=>?_)}"}"
  obtain ⟨oe,e1,e2⟩:=he;have z2:IsZip g2 z TI TO .ellipsis:=k2 _ _ Z.z1 z1';have ne:e≠z:=fun q=>by rw [q,z2] at e1;rw [<-Option.some.inj e1] at e2;simp at e2
  exact wpAny_setField_rec z2 (by show 0<5;decide) fun g3 _ k3=>hE g3 s.toks e (fun c o c1 _ c3 _ x=>zl k3 c1 (k2 _ _ c3 (zl k1 c1 x))) ⟨oe,zl k3 ne e1,e2⟩
 ·refine wpAny_bind s!"p{wpAny_onRaise s!"p{(D1.item i { s with heap:=g1 } _ _ l1 (yp D1 Z.fz1 st1 k1) fun x g2 t2 px q1 k2=>wpAny_pure ?_)}"}"
  have O2:IsPair g2 TO a b:=zl k2 Z.o1 (zl k1 Z.zTO.symm hO);refine wpAny_bind (wpAny_seqItems O2 rfl s!"p{(wpAny_updateSeq_pair O2 fun g3 O3 k3=>wpAny_bind (wpAny_letGo s!"&"))}")
  refine wpAny_bind s!"p{wpAny_onRaise s!"p{(D2.done { s with heap:=g3,toks:=t2 } _ _ s!"bE" fun g4 e k4 he=>?_)}"}"
  obtain ⟨oe,e1,e2⟩:=he;have z4:IsZip g4 z TI TO .ellipsis:=k4 _ _ Z.z2 (zl k3 Z.zTO (zl k2 Z.z1 z1'));have ne:e≠z:=fun q=>by rw [q,z4] at e1;rw [<-Option.some.inj e1] at e2;simp at e2
  exact wpAny_setField_rec z4 (by show 0<5;decide) fun g5 _ k5=>hE g5 t2 e (fun c o c1 c2 c3 c4 x=>zl k5 c1 (k4 _ _ c4 (zl k3 c2 (zl k2 c3 (zl k1 c1 x))))) ⟨oe,zl k5 ne e1,e2⟩
end
abbrev zt1 (h:Heap) (t:Addr):Heap:=h.push { cls:=.type "tuple_iterator",data:=.fields #[.ref t,.int 0 0] }
section
variable {prog:Program} {w:World} {A:Around} {E:Value->Shared->Prop} {s:Shared}
variable {z TI TO i1 i2:Addr} {f1 f2:List Addr} {n1 n2 i:Nat} {P1 P2:Nat->Value->Prop} {S1 S2:Nat->Heap->Prop} {a b:Value}
theorem zh8 {Q:Option Value->Shared->Prop} (D1:Draws prog w A.in1 i1 f1 n1 P1 S1) (D2:Draws prog w A.in1 i2 f2 n2 P2 S2) (Z:ZDiff z TI TO i1 i2 f1 f2) (hz:IsZip s.heap z TI TO .none) (hI:IsPair s.heap TI (.ref i1) (.ref i2)) (hO:IsPair s.heap TO a b)
 (st1:S1 i s.heap) (st2:S2 i s.heap) (l1:i<n1) (l2:i<n2)
 (hQ:∀x y h' tk,P1 i x->P2 i y->IsZip h' z TI TO (rawInt s.heap.objs.size)->IsPair h' TO x y->S1 (i+1) h'->S2 (i+1) h'->IsPair h' s.heap.objs.size x y->(∀c o,c≠z->c≠TO->c≠i1->c≠i2->s.heap.get? c=some o->h'.get? c=some o)->Q (some s!"aD") { s with heap:=h',toks:=tk }):
 wpAny s!"q" A (pyNext (.ref z)) Q E s:=by
 have ty:s.TypeIs (.ref z) "zip":=⟨_,hz,rfl⟩;exact wpAny_bind (wpAny_attempt (wpAny_callSpecial?_slot (name:=Str.ofString "__next__") ty F.slot_zip_next (wpAny_call_entry F.slot_zip_next ty F.entry_zip_next (zh7 D1 D2 Z hz hI hO st1 st2 l1 l2 fun x y h' tk p1 p2 a1 a2 a3 a4 a5 a6=>wpAny_pure (hQ x y h' tk p1 p2 a1 a2 a3 a4 a5 a6)) (F.args_zip_next_1 _))))
theorem zh9 {Q:Option Value->Shared->Prop} (D1:Draws prog w A.in1 i1 f1 n1 P1 S1) (D2:Draws prog w A.in1 i2 f2 n2 P2 S2) (Z:ZDiff z TI TO i1 i2 f1 f2) (hz:IsZip s.heap z TI TO .none) (hI:IsPair s.heap TI (.ref i1) (.ref i2)) (hO:IsPair s.heap TO a b)
 (st1:S1 i s.heap) (st2:S2 i s.heap) (ends:i=n1\/(i<n1/\i=n2))
 (hQ:∀h' tk,(∀c o,c≠z->c≠TO->c≠i1->c≠i2->s.heap.get? c=some o->h'.get? c=some o)->Q none { s with heap:=h',toks:=tk }):wpAny s!"q" A (pyNext (.ref z)) Q E s:=by
 have ty:s.TypeIs (.ref z) "zip":=⟨_,hz,rfl⟩;refine wpAny_bind (wpAny_attempt (wpAny_callSpecial?_slot (name:=Str.ofString "__next__") ty F.slot_zip_next (wpAny_call_entry F.slot_zip_next ty F.entry_zip_next (zjR D1 D2 Z hz hI hO st1 st2 ends fun h' tk e k he=>?_) (F.args_zip_next_1 _))))
 obtain ⟨o,e1,e2⟩:=he;exact wpAny_bind (wpAny_isInstance (T:="StopIteration") (b:=true) ⟨o,e1,e2⟩ isSubtype_stop s!"V{hQ h' tk k}")
end
section
variable {X:Cx}
end
section
variable {σ:St} {H:Hp} {Q:VK} {D:Ends} {K:PySem.W.Frag}
end
end L2
namespace HT
open PySem PySem.Spec PyProof.Rows
section
variable {prog:Program} {w:World} {A:Around} {E:Value->Shared->Prop} {s:Shared}
end
end HT
namespace L2
open PySem PySem.Spec PyProof.Rows
section
variable {X:Cx}
variable {H:Hp} {Q:VK} {K:PySem.W.Frag}
end
section
variable {X:Cx} {pins:List (Addr×Obj)} {scope:Scope} {x:Str} {ex:List Addr} {s:Shared} {H:Hp}
end
section
variable {X:Cx}
end
section
variable {σ:St} {H:Hp} {Q:VK} {K:PySem.W.Frag} {D:Ends}
end
section
variable {X:Cx} {pins:List (Addr×Obj)} {scope:Scope} {x:Str} {ys:List Str} {cl:List (Str×Addr)} {ex:List Addr} {s:Shared} {H:Hp}
end
section
variable {σ:St} {H:Hp} {Q:VK} {K:PySem.W.Frag} {D:Ends}
end
section
variable {X:Cx} {pins:List (Addr×Obj)} {scope:Scope} {x:Str} {ys:List Str} {cl:List (Str×Addr)} {ex:List Addr} {s:Shared} {H:Hp}
end
section
variable {X:Cx}
variable {pins:List (Addr×Obj)} {W:Value->Option Addr->St->Hp->Prop}
end
section
variable {σ:St} {H:Hp} {Q:VK} {K:PySem.W.Frag} {D:Ends}
end
section
variable {prog:Program} {w:World} {A:Around} {s:Shared}
end
section
variable {X:Cx}
end
section
variable {X:Cx}
end
section
variable {X:Cx} {pins:List (Addr×Obj)} {scope:Scope} {x:Str} {ys:List Str} {cl:List (Str×Addr)} {ex:List Addr} {s:Shared} {H:Hp}
def znW:List V->Hp->VK->Prop:=fun xs H Q=>∃z,xs=[.str z]/\z.length<=sizeLine/\Q (.int z.length) H
theorem call_lenS:yi X s!"aG" znW:=zem
end
section
variable {σ:St} {H:Hp} {Q:VK} {K:PySem.W.Frag}
end
section
variable {X:Cx}
end
section
variable {X:Cx} {P0:List (Addr×Obj)} {S0:Scope} {x0:Str} {Y0:List Str} {C0:List (Str×Addr)} {E0:List Addr} {s0:Shared} {H0:Hp}
end
section
variable {κ:Type} [DecidableEq κ]
def zO (kvs:List (κ×V)) (k:κ):Option V:=(kvs.find? fun kv=>decide (kv.1=k)).map (·.2)
def xh (kvs:List (κ×V)) (k:κ) (v:V):List (κ×V):=
 if (kvs.any fun kv=>decide (kv.1=k))=true then kvs.map (fun kv=>if kv.1=k then (kv.1,v) else kv) else kvs++[(k,v)]
def yb (kvs:List (κ×V)) (k:κ):List (κ×V):=kvs.filter fun kv=>decide (kv.1≠k)
theorem zN {p:κ×V} {r:List (κ×V)} {k:κ} (e:p.1=k):zO (p::r) k=some p.2:=by simp [zO,List.find?_cons,e]
theorem zE {p:κ×V} {r:List (κ×V)} {k:κ} (e:¬p.1=k):zO (p::r) k=zO r k:=by simp [zO,List.find?_cons,e]
theorem yA (k:κ):∀kvs:List (κ×V),(kvs.any fun kv=>decide (kv.1=k))=(zO kvs k).isSome
 | []=>rfl
 | p::r=>by
  rw [List.any_cons]
  by_cases e:p.1=k
  ·simp only [zN e,decide_eq_true e,Bool.true_or,Option.isSome_some]
  ·rw [zE e,decide_eq_false e,Bool.false_or];exact yA k r
theorem zfo (k j:κ) (y:V):∀kvs:List (κ×V),zO (kvs.map fun kv=>if kv.1=k then (kv.1,y) else kv) j=(zO kvs j).map fun x=>if j=k then y else x
 | []=>rfl
 | p::r=>by
  have ih:=zfo k j y r;rw [List.map_cons]
  by_cases h:p.1=k
  ·rw [if_pos h]
   by_cases e:p.1=j
   ·rw [zN (p:=(p.1,y)) e,zN e,Option.map_some,if_pos (e.symm.trans h)]
   ·rw [zE (p:=(p.1,y)) e,zE e,ih]
  ·rw [if_neg h]
   by_cases e:p.1=j
   ·rw [zN (p:=p) e,zN e,Option.map_some,if_neg (fun z=>h (e.trans z))]
   ·rw [zE (p:=p) e,zE e,ih]
theorem zdy (k j:κ) (y:V):∀kvs:List (κ×V),zO kvs k=none->zO (kvs++[(k,y)]) j=if j=k then some y else zO kvs j
 | [],_=>by
  by_cases e:k=j
  ·rw [if_pos e.symm];exact zN (p:=(k,y)) e
  ·rw [if_neg (fun z=>e z.symm)];exact zE (p:=(k,y)) e
 | p::r,hn=>by
  rw [List.cons_append];have hk:¬p.1=k:=fun z=>by rw [zN z] at hn;cases hn
  rw [zE hk] at hn;have ih:=zdy k j y r hn
  by_cases e:p.1=j
  ·rw [zN e,zN e,if_neg (fun z=>hk (e.trans z))]
  ·rw [zE e,zE e,ih]
theorem zjS (kvs:List (κ×V)) (k j:κ) (y:V):zO (xh kvs k y) j=if j=k then some y else zO kvs j:=by
 unfold xh
 by_cases a:(kvs.any fun kv=>decide (kv.1=k))=true
 ·rw [if_pos a,zfo];rw [yA] at a
  by_cases e:j=k
  ·obtain ⟨x,hx⟩:=Option.isSome_iff_exists.mp a;rw [if_pos e,e,hx,Option.map_some,if_pos rfl]
  ·rw [if_neg e];cases zO kvs j with
   | none=>rfl
   | some x=>rw [Option.map_some,if_neg e]
 ·rw [if_neg a];refine zdy k j y kvs ?_;rw [yA] at a;cases q:zO kvs k with
  | none=>rfl
  | some x=>rw [q] at a;exact (a rfl).elim
theorem zbH (kvs:List (κ×V)) (k:κ) (v:V):s!"ah".length<=kvs.length+1:=by
 unfold xh;split
 ·rw [List.length_map];omega
 ·rw [List.length_append,List.length_cons,List.length_nil];omega
theorem zjT {kvs:List (κ×V)} {k:κ} (v:V) (h:zO kvs k=none):xh kvs k v=kvs++[(k,v)]:=by
 unfold xh;rw [yA,h];exact if_neg s!"c"
theorem xk.isSome_eq {o:Option V} {u:Option Value} (r:xk o u):o.isSome=u.isSome:=by
 cases o with
 | none=>cases u with
  | none=>rfl
  | some _=>exact (show False from r).elim
 | some _=>cases u with
  | none=>exact (show False from r).elim
  | some _=>rfl
theorem xk.getD {o:Option V} {u:Option Value} {d:V} {d':Value} (r:xk o u) (rd:zq d d'):zq (o.getD d) (u.getD d'):=by
 cases o with
 | none=>cases u with
  | none=>exact rd
  | some _=>exact (show False from r).elim
 | some _=>cases u with
  | none=>exact (show False from r).elim
  | some _=>exact r
theorem KV.val {kvs:List (κ×V)} {vs:List (κ×Value)} (r:KV kvs vs) (k:κ):xk (zO kvs k) (valueAt vs k):=by
 unfold KV at r
 induction r with
 | nil=>exact True.intro
 | @cons p q ps qs h t ih=>
  obtain ⟨h1,h2⟩:=h
  by_cases e:p.1=k
  ·have e':q.1=k:=h1.symm.trans e;have b:valueAt (q::qs) k=some q.2:=by simp [valueAt,List.find?_cons,e']
   rw [zN e,b];exact h2
  ·have e':¬q.1=k:=fun z=>e (h1.trans z)
   have b:valueAt (q::qs) k=valueAt qs k:=by simp [valueAt,List.find?_cons,e']
   rw [zE e,b];exact ih
theorem KV.any {kvs:List (κ×V)} {vs:List (κ×Value)} (r:KV kvs vs) (k:κ):(kvs.any fun kv=>decide (kv.1=k))=vs.any fun kv=>decide (kv.1=k):=by
 unfold KV at r
 induction r with
 | nil=>rfl
 | cons h t ih=>rw [List.any_cons,List.any_cons,ih,h.1]
theorem KV.repl {kvs:List (κ×V)} {vs:List (κ×Value)} (r:KV kvs vs) (k:κ) {y:V} {u:Value} (ry:zq y u):
 KV (kvs.map fun kv=>if kv.1=k then (kv.1,y) else kv) (vs.map fun kv=>if kv.1=k then (kv.1,u) else kv):=by
 unfold KV at r ⊢
 induction r with
 | nil=>exact .nil
 | @cons p q ps qs h t ih=>
  rw [List.map_cons,List.map_cons];refine .cons ?_ ih;obtain ⟨h1,h2⟩:=h
  by_cases e:p.1=k
  ·rw [if_pos e,if_pos (h1.symm.trans e)];exact ⟨h1,ry⟩
  ·rw [if_neg e,if_neg (fun z=>e (h1.trans z))];exact ⟨h1,h2⟩
theorem KV.put {kvs:List (κ×V)} {vs:List (κ×Value)} (r:KV kvs vs) (k:κ) {y:V} {u:Value} (ry:zq y u):KV (xh kvs k y) (stored vs k u):=by
 unfold xh stored;rw [r.any k]
 by_cases e:(vs.any fun kv=>decide (kv.1=k))=true
 ·rw [if_pos e,if_pos e];exact r.repl k ry
 ·rw [if_neg e,if_neg e];exact Paired.snoc r ⟨rfl,ry⟩
theorem KV.drop {kvs:List (κ×V)} {vs:List (κ×Value)} (r:KV kvs vs) (k:κ):KV (yb kvs k) (without vs k):=by
 unfold KV at r ⊢;unfold yb without
 induction r with
 | nil=>exact .nil
 | @cons p q ps qs h t ih=>
  obtain ⟨h1,h2⟩:=h;rw [List.filter_cons,List.filter_cons]
  by_cases e:p.1=k
  ·have a:¬decide (p.1≠k)=true:=by simp [e]
   have b:¬decide (q.1≠k)=true:=by simp [h1.symm.trans e]
   rw [if_neg a,if_neg b];exact ih
  ·have e':¬q.1=k:=fun z=>e (h1.trans z)
   have a:decide (p.1≠k)=true:=by simp [e]
   have b:decide (q.1≠k)=true:=by simp [e']
   rw [if_pos a,if_pos b];exact .cons ⟨h1,h2⟩ ih
theorem KV.keys {kvs:List (κ×V)} {vs:List (κ×Value)} (r:KV kvs vs):kvs.map (·.1)=vs.map (·.1):=by
 unfold KV at r
 induction r with
 | nil=>rfl
 | cons h t ih=>rw [List.map_cons,List.map_cons,ih,h.1]
theorem KV.length {kvs:List (κ×V)} {vs:List (κ×Value)} (r:KV kvs vs):kvs.length=vs.length:=Paired.length r
theorem dropK_le (kvs:List (κ×V)) (k:κ):(yb kvs k).length<=kvs.length:=List.length_filter_le _ _
end
theorem zdz {P:Program} {w:World} {k:Key} {u:Value} (r:zq (kV k) u):(zC P w).is k u=true:=by
 cases k with
 | inl i=>obtain ⟨t,e⟩:=(show ∃t,u=Value.int i t from r);subst e;exact zfd P w i t
 | inr x=>obtain ⟨t,e⟩:=(show ∃t,u=Value.str x t from r);subst e;exact zfe P w x t
theorem zdA {P:Program} {w:World}:∀{ks:List Key} {us:List Value},zo (ks.map kV) us->ItemsAre (zC P w) ks us
 | [],_,r=>by rw [List.map_nil] at r;cases r;exact .nil
 | k::ks,_,r=>by
  rw [List.map_cons] at r;cases r with
  | cons h t=>exact .cons (zdz h) (zdA t)
abbrev KT (H:Hp):List (List Key×V)->List (List Key×Addr×Value)->Prop:=Paired fun p q=>p.1=q.1/\H q.2.1=some (.tup (p.1.map kV))/\zq p.2 q.2.2
theorem KT.val {H:Hp} {kvs:List (List Key×V)} {xs:List (List Key×Addr×Value)} (r:KT H kvs xs) (k:List Key):xk (zO kvs k) ((atKey xs k).map (·.2)):=by
 induction r with
 | nil=>exact True.intro
 | @cons p q ps qs h t ih=>
  obtain ⟨h1,_,h2⟩:=h
  by_cases e:p.1=k
  ·have e':q.1=k:=h1.symm.trans e;have b:atKey (q::qs) k=some q.2:=by simp [atKey,List.find?_cons,e']
   rw [zN e,b];exact h2
  ·have e':¬q.1=k:=fun z=>e (h1.trans z)
   have b:atKey (q::qs) k=atKey qs k:=by simp [atKey,List.find?_cons,e']
   rw [zE e,b];exact ih
theorem KT.repl {H:Hp} {kvs:List (List Key×V)} {xs:List (List Key×Addr×Value)} (r:KT H kvs xs) (k:List Key) {y:V} {u:Value} (ry:zq y u):
 KT H (kvs.map fun kv=>if kv.1=k then (kv.1,y) else kv) (xs.map (putAt k u)):=by
 induction r with
 | nil=>exact .nil
 | @cons p q ps qs h t ih=>
  rw [List.map_cons,List.map_cons];refine .cons ?_ ih;obtain ⟨h1,h2,h3⟩:=h;unfold putAt
  by_cases e:p.1=k
  ·rw [if_pos e,if_pos (h1.symm.trans e)];exact ⟨h1,h2,ry⟩
  ·rw [if_neg e,if_neg (fun z=>e (h1.trans z))];exact ⟨h1,h2,h3⟩
theorem KT.put {H:Hp} {kvs:List (List Key×V)} {xs:List (List Key×Addr×Value)} (r:KT H kvs xs) (k:List Key) {b:Addr} {y:V} {u:Value} (hb:H b=some (.tup (k.map kV))) (ry:zq y u):
 KT H (xh kvs k y) (storedH xs k b u):=by
 have e:(kvs.any fun kv=>decide (kv.1=k))=(atKey xs k).isSome:=by
  rw [yA,(r.val k).isSome_eq,Option.isSome_map]
 unfold xh storedH;rw [e]
 by_cases q:(atKey xs k).isSome=true
 ·rw [if_pos q,if_pos q];exact r.repl k ry
 ·rw [if_neg q,if_neg q];exact Paired.snoc r ⟨rfl,hb,ry⟩
theorem KT.keeps {H H':Hp} {kvs:List (List Key×V)} {xs:List (List Key×Addr×Value)} (r:KT H kvs xs) (ht:∀b ys,H b=some (.tup ys)->H' b=some (.tup ys)):KT H' kvs xs:=
 Paired.mapP r fun _ _ z=>⟨z.1,ht _ _ z.2.1,z.2.2⟩
section
variable {P:Program} {w:World} {H:Hp} {h:Heap} {a:Addr}
theorem znX {u:HO} (ok:HOk P w H h) (e:Rd H a u):zy P w H h a u:=e.ok ok
theorem zcs {kvs:List (Key×V)} (ok:HOk P w H h) (e:Rd H a (.dK kvs)):kvs.length<=sizeLine/\(a==sysModules)=false/\∃vs,KV kvs vs/\h.DictOf (zC P w) a vs:=
 show zy P w H h a (.dK kvs) from znX ok e
theorem zjU {kvs:List (Key×V)} (ok:HOk P w H h) (e:H a=some (.dK kvs)):kvs.length<=sizeLine/\(a==sysModules)=false/\∃vs,KV kvs vs/\h.DictOf (zC P w) a vs:=zcs ok (.inl e)
theorem zct {ks:List Key} (ok:HOk P w H h) (e:H a=some (.tup (ks.map kV))):s!"a1".is h ks a:=by
 obtain ⟨_,its,r,o,h1,h2,n,h3⟩:=(show zy P w H h a (.tup (ks.map kV)) from ok a _ e)
 exact ⟨o,its.toArray,n,h1,h2,h3,by simpa using zdA r⟩
theorem zdB {kvs:List (List Key×V)} (ok:HOk P w H h) (e:Rd H a (.dT kvs)):kvs.length<=sizeLine/\(a==sysModules)=false/\
 ∃xs,KT H kvs xs/\h.DictOfH s!"a1" a xs:=by
 obtain ⟨z,y,xs,r,o,es,ep,h1,h2,h3,h4,h5⟩:=(show zy P w H h a (.dT kvs) from znX ok e)
 refine ⟨z,y,xs,r,o,es,ep,h1,h2,h3,h4,fun x hx=>?_,h5⟩
 have all:∀{l:List (List Key×V)} {m:List (List Key×Addr×Value)},KT H l m->∀x∈m,s!"a1".is h x.1 x.2.1:=by
  intro l m q
  induction q with
  | nil=>intro x hx;exact nomatch hx
  | @cons p q ps qs hq t ih=>
   intro x hx;rcases List.mem_cons.mp hx with e | hx
   ·subst e;exact zct ok (by rw [<-hq.1];exact hq.2.1)
   ·exact ih x hx
 exact all r x hx
theorem zqR {kvs:List (List Key×V)} (ok:HOk P w H h) (e:H a=some (.dT kvs)):kvs.length<=sizeLine/\(a==sysModules)=false/\
 ∃xs,KT H kvs xs/\h.DictOfH s!"a1" a xs:=zdB ok (.inl e)
end
def wT (H:Hp) (a:Addr) (y:V) (r:Option V):Prop:=
 (∃kvs k,Rd H a (.dK kvs)/\y=kV k/\r=zO kvs k)\/∃kvs k b,Rd H a (.dT kvs)/\y=.ref b/\H b=some (.tup (k.map kV))/\r=zO kvs k
def zia (H:Hp) (a:Addr) (y v:V) (H':Hp):Prop:=
 (∃kvs k,H a=some (.dK kvs)/\y=kV k/\kvs.length<sizeLine/\H'=upd H a (.dK s!"ah"))\/
 ∃kvs k b,H a=some (.dT kvs)/\y=.ref b/\H b=some (.tup (k.map kV))/\kvs.length<sizeLine/\H'=upd H a (.dT s!"ah")
theorem wT.k {H:Hp} {a:Addr} {kvs:List (Key×V)} {k:Key} (e:H a=some (.dK kvs)):wT H a (kV k) (zO kvs k):=.inl ⟨kvs,k,.inl e,rfl,rfl⟩
theorem zia.k {H:Hp} {a:Addr} {kvs:List (Key×V)} {k:Key} {v:V} (e:H a=some (.dK kvs)) (hl:kvs.length<sizeLine):zia H a (kV k) v (upd H a (.dK s!"ah")):=.inl ⟨kvs,k,e,rfl,hl,rfl⟩
section
variable {X:Cx} {pins:List (Addr×Obj)} {σ:St} {H:Hp} {s:Shared} {a:Addr} {y v:V} {u r:Value} {o:Option V} {A:Around} {E:Value->Shared->Prop}
theorem Inv.big (I:Inv X pins σ H s):sysModules<s.heap.objs.size:=by
 have h:mainGlobals<s.heap.objs.size:=(I.mod.glob.keeps I.bk).lt;exact Nat.lt_trans s!"c" h
theorem zib {Q:Value->Shared->Prop} (hu:A.units+1<cLine) (I:Inv X pins σ H s) (g:wT H a y (some v)) (ry:zq y u) (h:∀w' s',Inv X pins σ H s'->zq v w'->Q w' s'):
 wpAny (model X.prog X.w) A (getItem s!"g" u) Q E s:=by
 rcases g with ⟨kvs,k,e,ey,l⟩ | ⟨kvs,k,b,e,ey,eb,l⟩
 ·subst ey;obtain ⟨z,hd,vs,rel,dd⟩:=zcs I.hok e;obtain ⟨w',hw,rw'⟩:=xk.some_of (v:=v) (o:=valueAt vs k) (by rw [l];exact rel.val k)
  exact wpAny_getItem_of (zdz ry) dd.mapOf hw (h w' _ (I.tok _) rw')
 ·subst ey;cases (show u=Value.ref b from ry)
  obtain ⟨z,hd,xs,rel,dd⟩:=zdB I.hok e;obtain ⟨w',hw,rw'⟩:=xk.some_of (v:=v) (o:=(atKey xs k).map (·.2)) (by rw [l];exact rel.val k)
  obtain ⟨p,hp,hp2⟩:=Option.map_eq_some_iff.mp hw;refine wpAny_getItem_heap (tupleKind_room_in1 hu) (zct I.hok eb) dd hp ?_;rw [hp2];exact h w' _ (I.tok _) rw'
theorem zmD {Q:Value->Shared->Prop} (hu:A.units+1<cLine) (I:Inv X pins σ H s) (g:wT H a y o) (ry:zq y u) (h:∀s',Inv X pins σ H s'->Q (.bool (!o.isSome)) s'):
 wpAny (model X.prog X.w) A (compareOp .NotIn u s!"g") Q E s:=by
 rcases g with ⟨kvs,k,e,ey,l⟩ | ⟨kvs,k,b,e,ey,eb,l⟩
 ·subst ey;obtain ⟨z,hd,vs,rel,dd⟩:=zcs I.hok e;refine wpAny_notIn_of (zdz ry) hd dd.mapOf ?_;rw [<-(rel.val k).isSome_eq,<-l];exact h _ (I.tok _)
 ·subst ey;cases (show u=Value.ref b from ry)
  obtain ⟨z,hd,xs,rel,dd⟩:=zdB I.hok e;refine wpAny_notIn_heap (tupleKind_room_in1 hu) (zct I.hok eb) hd dd ?_;have q:=(rel.val k).isSome_eq;rw [Option.isSome_map] at q;rw [<-q,<-l];exact h _ (I.tok _)
theorem zeq {h':Heap} {t':Nat} {ob:HO} (I:Inv X pins σ H s) (mu:Mut (H a)) (hs:Heap.SameBut a s.heap h') (he:∃q,h'.get? a=some q) (new:zy X.prog X.w (upd H a ob) h' a ob):
 Inv X pins σ (upd H a ob) { s with heap:=h',toks:=t' }:=
 I.write (x:=a) (e:=a) mu (.inl rfl) (fun b q hb z=>(hs.2 b hb).trans z) he new
theorem dk_new {P:Program} {w:World} {H':Hp} {h':Heap} {kvs:List (Key×V)} {vs:List (Key×Value)} (z:kvs.length<=sizeLine) (hd:(a==sysModules)=false) (rel:KV kvs vs) (dd:h'.DictOf (zC P w) a vs):
 zy P w H' h' a (.dK kvs):=⟨z,hd,vs,rel,dd⟩
theorem zic {H':Hp} {Q:Unit->Shared->Prop} (hu:A.units+1<cLine) (I:Inv X pins σ H s) (g:zia H a y v H') (ry:zq y u) (rv:zq v r) (h:∀s',Inv X pins σ H' s'->Q () s'):
 wpAny (model X.prog X.w) A (setItem s!"g" u r) Q E s:=by
 rcases g with ⟨kvs,k,e,ey,l,eH⟩ | ⟨kvs,k,b,e,ey,eb,l,eH⟩
 ·subst ey eH;obtain ⟨z,hd,vs,rel,dd⟩:=zjU I.hok e;have hz:vs.length<=sizeLine:=by rw [<-rel.length];exact z
  have hl:s!"ah".length<=sizeLine:=by have:=zbH kvs k v;omega
  refine wpAny_setItem_pairs (hsz:=hz) (zdz ry) dd fun h' dd' hs=>h _ ?_
  have he:∃q,h'.get? a=some q:=let ⟨q,_,_,hq,_⟩:=dd';⟨q,hq⟩
  exact zeq I (by rw [e];exact True.intro) hs he (dk_new hl hd (rel.put k rv) dd')
 ·subst ey eH;cases (show u=Value.ref b from ry)
  obtain ⟨z,hd,xs,rel,dd⟩:=zqR I.hok e;have hz:xs.length<=sizeLine:=by rw [<-Paired.length rel];exact z
  have hl:s!"ah".length<=sizeLine:=by have:=zbH kvs k v;omega
  refine wpAny_setItem_heap (hsz:=hz) (tupleKind_room_in1 hu) (zct I.hok eb) dd fun h' dd' hs=>h _ ?_
  obtain ⟨q,es,ep,hq,h2,h3,h4,_,h5⟩:=dd';refine zeq I (by rw [e];exact True.intro) hs ⟨q,hq⟩ ⟨hl,hd,_,(rel.put k eb rv).keeps fun c ys ec=>?_,q,es,ep,hq,h2,h3,h4,h5⟩
  rw [zg (zgU ec e (fun z=>nomatch z))]
  exact ec
end
section
variable {X:Cx} {pins:List (Addr×Obj)} {σ:St} {H:Hp} {s:Shared} {a:Addr} {kvs:List (Key×V)} {k:Key} {u:Value} {A:Around} {E:Value->Shared->Prop}
theorem zqS {v:V} {more:List Value} {Q:Value->Shared->Prop} (I:Inv X pins σ H s) (e:H a=some (.dK kvs)) (ry:zq (kV k) u) (l:zO kvs k=some v) (hm:more=[]\/∃x,more=[x])
 (h:∀w' s',Inv X pins σ (upd H a (.dK (yb kvs k))) s'->zq v w'->Q w' s'):wpAny (model X.prog X.w) A (call s!"L{"dict.pop"}" (.ref a::u::more)) Q E s:=by
 obtain ⟨z,hd,vs,rel,dd⟩:=zjU I.hok e;obtain ⟨w',hw,rw'⟩:=xk.some_of (v:=v) (o:=valueAt vs k) (by rw [<-l];exact rel.val k)
 have hp:(keyPart u).isSome=true:=by
  cases k with
  | inl i=>obtain ⟨t,q⟩:=(show ∃t,u=Value.int i t from ry);subst q;rfl
  | inr x=>obtain ⟨t,q⟩:=(show ∃t,u=Value.str x t from ry);subst q;rfl
 have ha:argsOk "dict.pop" ⟨.ref a::u::more,[]⟩:=by
  rcases hm with q | ⟨x,q⟩
  ·subst q;exact PySem.F.args_dict_pop_2 _ _
  ·subst q;exact PySem.F.args_dict_pop_3 _ _ _
 refine call_meetsIn PySem.F.slot_dict_pop dd.typeIs PySem.F.entry_dict_pop ha (meets_dict_pop_there (zC X.prog X.w) a (zdz ry) more hm hp)
  ⟨vs,w',dd,by rw [<-rel.length];exact z,hw,fun h' dd' hs=>h w' _ ?_ rw'⟩
 have he:∃q,h'.get? a=some q:=let ⟨q,_,_,hq,_⟩:=dd';⟨q,hq⟩
 exact zeq I (by rw [e];exact True.intro) hs he (dk_new (Nat.le_trans (dropK_le kvs k) z) hd (rel.drop k) dd')
theorem zqT {Q:Value->Shared->Prop} (I:Inv X pins σ H s) (e:Rd H a (.dK kvs)) (h:∀t s',Inv X pins σ H s'->Q (.int kvs.length t) s'):wpAny (model X.prog X.w) A (call s!"aG" [.ref a]) Q E s:=by
 obtain ⟨z,hd,vs,rel,dd⟩:=zcs I.hok e;refine call_len_dict hd dd (by rw [<-rel.length];rw [sizeLine_eq] at z;omega) ?_
 rw [<-rel.length];exact h _ _ (I.tok _)
end
def zqU (i:Expr):Prop:=∀ov iv,subscripted i false ov iv=operate [ov,iv] (getItem ov iv)
theorem zmE {prog:Program} {w:World} {A:Around} {E:Value->Shared->Prop} {s:Shared} {env:Env} {value slice:Expr} {pos:Pos} {T id:String} {Q:Value->Shared->Prop}
 (hl:typeLookup (.type T) "__getitem__"=pure (some s!"ag")) (hs:zqU slice)
 (h:wpAny s!"q" A (eval value env) (fun o s₁=>wpAny s!"q" A (eval slice env) (fun i s₂=>s₂.TypeIs o T/\wpAny s!"q" A (getItem o i) Q E s₂) E s₁) E s):
 wpAny s!"q" A (eval (.Subscript value slice pos) env) Q E s:=by
 refine Subscript_ (wpAny_mono h (fun o s₁ h₁=>wpAny_mono h₁ (fun i s₂ h₂=>?_) fun _ _ x=>x) fun _ _ x=>x)
 obtain ⟨hT,h₂⟩:=h₂;unfold subscriptTail;refine wpAny_bind ?_;rw [getitemInPython_of_ne hT.not_modules];refine wpAny_bind (wpAny_specialOf hT hl ?_);have fin:wpAny s!"q" A (subscripted slice false o i) (fun r s₃=>wpAny s!"q" A (letTemporaryGo value o r >>=fun _=>pure r) Q E s₃) E s₂:=by
  rw [hs o i];exact wpAny_operating (wpAny_mono h₂ (fun r s₃ h₃=>wpAny_bind (wpAny_letTemporaryGo s!"V{h₃}")) fun _ _ x=>x)
 first
  | exact wpAny_pure s!"p{fin}"
  | exact wpAny_bind s!"V{s!"p{fin}"}"
  | exact wpAny_bind fin
theorem zfp {X:Cx} {pins:List (Addr×Obj)} {σ:St} {H:Hp} {s:Shared} {a:Addr} {y:V} {o:Option V} (I:Inv X pins σ H s) (g:wT H a y o):s.TypeIs s!"g" "dict":=by
 rcases g with ⟨kvs,k,e,_,_⟩ | ⟨kvs,k,b,e,_,_,_⟩
 ·obtain ⟨_,_,vs,_,dd⟩:=zcs I.hok e;exact dd.typeIs
 ·obtain ⟨_,_,xs,_,dd⟩:=zdB I.hok e;exact dd.typeIs
def znY (td ty:TE):TE:=fun σ H Q=>td σ H fun x H1=>ty σ H1 fun y H2=>∃a v,x=.ref a/\wT H2 a y (some v)/\Q v H2
def zhd (ty td:TE):TE:=fun σ H Q=>ty σ H fun y H1=>td σ H1 fun x H2=>∃a o,x=.ref a/\wT H2 a y o/\Q (.bl (!o.isSome)) H2
def znZ (td ty tv:TE):TS:=fun D σ H=>tv σ H fun v H1=>td σ H1 fun x H2=>ty σ H2 fun y H3=>∃a H4,x=.ref a/\zia H3 a y v H4/\D.nx σ H4
section
variable {X:Cx} {o i e value:Expr} {pos pos' tpos:Pos} {td ty tv:TE}
theorem zb7 (hu:X.A.units+1<cLine) (ho:PE X o td) (hi:PE X i ty) (hs:zqU i):PE X (.Subscript o i pos) (znY td ty):=by
 intro pins s σ H Q I h;refine zmE PySem.F.slot_dict_getitem.lookup hs (thn (ho pins s σ H _ I h) fun u s1 ⟨x,H1,I1,rx,q1⟩=>thn (hi pins s1 σ H1 _ I1 q1) fun iv s2 ⟨y,H2,I2,ry,a,v,ex,g,q2⟩=>?_)
 subst ex;obtain rfl:u=Value.ref a:=rx;exact ⟨zfp I2 g,zib hu I2 g ry fun w' s3 I3 rw'=>⟨v,H2,I3,rw',q2⟩⟩
theorem zid (hu:X.A.units+1<cLine) (hi:PE X i ty) (ho:PE X o td):PC X .NotIn i o (zhd ty td):=by
 intro pins s σ H Q I h;refine thn (hi pins s σ H _ I h) fun iv s1 ⟨y,H1,I1,ry,q1⟩=>thn (ho pins s1 σ H1 _ I1 q1) fun u s2 ⟨x,H2,I2,rx,a,ov,ex,g,q2⟩=>?_
 subst ex;obtain rfl:u=Value.ref a:=rx;exact zmD hu I2 g ry fun s3 I3=>⟨.bl (!ov.isSome),H2,I3,rfl,q2⟩
theorem zmF (hu:X.A.units+1<cLine) (ho:PE X o td) (hi:PE X i ty) (hv:PE X value tv) (hs:swapsWith value (some (.Subscript o i pos')) pos.line X.env=pure false):
 PS X (.Assign [.Subscript o i pos'] value pos) (znZ td ty tv):=by
 intro pins s σ H D I h;refine wpAny_Assign_Subscript (thn (hv pins s σ H _ I h) fun r s1 ⟨v,H1,I1,rv,q1⟩=>thn (ho pins s1 σ H1 _ I1 q1) fun u s2 ⟨x,H2,I2,rx,q2⟩=>thn (hi pins s2 σ H2 _ I2 q2) fun iv s3 ⟨y,H3,I3,ry,a,H4,ex,g,q3⟩=>?_) hs
 subst ex;obtain rfl:u=Value.ref a:=rx;exact zic hu I3 g ry rv fun s4 I4=>⟨σ,H4,I4,q3⟩
end
theorem zjV {P:Program} {w:World} {H:Hp} (h:Heap) (hb:sysModules<h.objs.size):zy P w H (h.push { cls:=.type "dict",data:=.dict #[] }) h.objs.size (.dK []):=
 ⟨Nat.zero_le _,beq_eq_false_iff_ne.mpr (Ne.symm s!"U{hb}"),[],.nil,Heap.DictOf.new h⟩
def zjW:TE:=fun _ H Q=>∀p,H p=none->Q (.ref p) (upd H p (.dK []))
section
variable {X:Cx} {pos:Pos}
theorem zjX:PE X (.Dict [] [] pos) zjW:=fun pins s σ H Q I h=>
 wpAny_Dict_empty ⟨.ref s.heap.objs.size,_,I.laid (a:=s.heap.objs.size) (o:=.dK []) (t':=s.toks) (fun _ _ q=>Heap.get?_push_of_some _ q) (Nat.le_refl _) (zjV s.heap I.big),rfl,h _ (I.hok.fresh (Nat.le_refl _))⟩
end
structure M1 (X:Cx) (o:Expr) (m:Str) (apos:Pos) (e:Expr) (cpos:Pos):Prop where
 base:attributeBase o m X.env s!"!{o}"=eval o X.env
 few:((backTo cpos (starEach [e] X.env)).all (fun x=>!x.1) && (backToKw cpos (keywordEach [] X.env)).all (fun x=>x.1.isSome)
  && decide (([e]:List Expr).length+([]:List Keyword).length+(if ([]:List Keyword).isEmpty then 0 else 1)<30))=true
 line:(apos.endLine==cpos.line)=true
 trees:backTo cpos (starEach [e] X.env)=[(false,eval e X.env)]
def IsD (H:Hp) (a:Addr):Prop:=(∃kvs,Rd H a (.dK kvs))\/∃kvs,Rd H a (.dT kvs)
theorem zjY {X:Cx} {pins:List (Addr×Obj)} {σ:St} {H:Hp} {s:Shared} {a:Addr} (I:Inv X pins σ H s) (d:IsD H a):
 s.TypeIs s!"g" "dict"/\(∀b,Value.ref a=.ref b->∃ob,s.heap.get? b=some ob/\ob.dict=none)/\(a==sysModules)=false:=by
 rcases d with ⟨kvs,e⟩ | ⟨kvs,e⟩
 ·obtain ⟨_,hd,vs,_,dd⟩:=zcs I.hok e;refine ⟨dd.typeIs,fun b q=>?_,hd⟩
  cases q;obtain ⟨ob,_,_,h1,h2,_⟩:=dd;exact ⟨ob,h1,h2.2.1⟩
 ·obtain ⟨_,hd,xs,_,dd⟩:=zdB I.hok e;refine ⟨dd.typeIs,fun b q=>?_,hd⟩
  cases q;obtain ⟨ob,_,_,h1,h2,_⟩:=dd;exact ⟨ob,h1,h2.2.1⟩
section
variable {X:Cx} {pins:List (Addr×Obj)} {σ:St} {H:Hp} {s:Shared} {a:Addr} {y d:V} {u r:Value} {o:Option V} {A:Around} {E:Value->Shared->Prop}
theorem zpf {Q:Value->Shared->Prop} (hu:A.units+1<cLine) (I:Inv X pins σ H s) (g:wT H a y o) (ry:zq y u) (h:∀w' s',Inv X pins σ H s'->zq (o.getD .non) w'->Q w' s'):
 wpAny (model X.prog X.w) A (call s!"L{"dict.get"}" [.ref a,u]) Q E s:=by
 rcases g with ⟨kvs,k,e,ey,l⟩ | ⟨kvs,k,b,e,ey,eb,l⟩
 ·subst ey;obtain ⟨z,hd,vs,rel,dd⟩:=zcs I.hok e;refine call_meetsIn PySem.F.slot_dict_get dd.typeIs PySem.F.entry_dict_get (PySem.F.args_dict_get_2 _ _) (meets_dict_get (zC X.prog X.w) a (zdz ry) hd) ⟨_,dd.mapOf,h _ _ (I.tok _) ?_⟩;rw [l];exact (rel.val k).getD rfl
 ·subst ey;cases (show u=Value.ref b from ry)
  obtain ⟨z,hd,xs,rel,dd⟩:=zdB I.hok e;refine call_meetsIn PySem.F.slot_dict_get dd.typeIs PySem.F.entry_dict_get (PySem.F.args_dict_get_2 _ _) (meetsH_dict_get (tupleKind (zC X.prog X.w)) a b hd) ⟨tupleKind_room_in1 hu,k,xs,zct I.hok eb,dd,h _ _ (I.tok _) ?_⟩;rw [l];exact (rel.val k).getD rfl
end
def zjZ (td ty:TE):TE:=fun σ H Q=>td σ H fun x H1=>∃a,x=.ref a/\IsD H1 a/\ty σ H1 fun y H2=>∃o,wT H2 a y o/\Q (o.getD .non) H2
def zj0 (td ty:TE):TE:=fun σ H Q=>td σ H fun x H1=>∃a,x=.ref a/\IsD H1 a/\ty σ H1 fun y H2=>∃kvs k v,H2 a=some (.dK kvs)/\y=kV k/\zO kvs k=some v/\Q v (upd H2 a (.dK (yb kvs k)))
section
variable {X:Cx} {o e f:Expr} {apos cpos:Pos} {td ty tx:TE}
theorem zj1 (hu:X.A.units+1<cLine) (ho:PE X o td) (he:PE X e ty) (m:M1 X o "get" apos e cpos):PE X (.Call s!"aN{"get"}" [e] [] cpos) (zjZ td ty):=by
 intro pins s σ H Q I h;refine wpAny_Call_method m.base m.few m.line PySem.F.plainAttrs_dict PySem.F.slot_dict_get PySem.F.type_dict_get (thn (ho pins s σ H _ I h) fun u s1 ⟨x,H1,I1,rx,a,ex,d,q1⟩=>?_)
 subst ex;obtain rfl:u=Value.ref a:=rx;obtain ⟨t1,t2,_⟩:=zjY I1 d;refine ⟨t1,t2,?_⟩;rw [m.trees];refine Calls.callWith_builtin rfl (Calls.evalArgs_plain (Calls.spliced_cons (thn (he pins s1 σ H1 _ I1 q1) fun iv s2 ⟨y,H2,I2,ry,ov,g,q2⟩=>Calls.spliced_nil ?_)))
 exact zpf hu I2 g ry fun w' s3 I3 rw'=>⟨_,H2,I3,rw',q2⟩
theorem zj2 (ho:PE X o td) (he:PE X e ty) (m:M1 X o "pop" apos e cpos):PE X (.Call s!"aN{"pop"}" [e] [] cpos) (zj0 td ty):=by
 intro pins s σ H Q I h;refine wpAny_Call_method m.base m.few m.line PySem.F.plainAttrs_dict PySem.F.slot_dict_pop PySem.F.type_dict_pop (thn (ho pins s σ H _ I h) fun u s1 ⟨x,H1,I1,rx,a,ex,d,q1⟩=>?_)
 subst ex;obtain rfl:u=Value.ref a:=rx;obtain ⟨t1,t2,_⟩:=zjY I1 d;refine ⟨t1,t2,?_⟩;rw [m.trees];refine Calls.callWith_builtin rfl (Calls.evalArgs_plain (Calls.spliced_cons (thn (he pins s1 σ H1 _ I1 q1) fun iv s2 ⟨y,H2,I2,ry,kvs,k,v,ea,ey,l,q2⟩=>Calls.spliced_nil ?_)))
 subst ey;exact zqS I2 ea ry l (.inl rfl) fun w' s3 I3 rw'=>⟨v,_,I3,rw',q2⟩
end
section
variable {X:Cx} {pins:List (Addr×Obj)} {σ:St} {H:Hp} {s:Shared} {a:Addr} {kvs:List (Key×V)} {A:Around} {E:Value->Shared->Prop}
end
section
variable {X:Cx} {pins:List (Addr×Obj)} {σ:St} {H:Hp} {s:Shared} {a:Addr} {y:V} {u:Value} {A:Around} {E:Value->Shared->Prop}
end
section
variable {X:Cx}
theorem zie:yi X s!"aG" (fun xs H Q=>∃a kvs,xs=[V.ref a]/\H a=some (.dK kvs)/\Q (.int kvs.length) H):=by
 intro pins s σ H xs us Q I r h;obtain ⟨a,kvs,rfl,ha,q⟩:=h;obtain ⟨u,rfl,ru⟩:=zaA r;cases ru;exact zqT I (.inl ha) fun t s' I'=>⟨.int kvs.length,H,I',⟨t,rfl⟩,q⟩
end
section
variable {κ:Type} [DecidableEq κ]
theorem zfq {kvs:List (κ×V)} {k:κ} (h:zO kvs k=none):¬k∈kvs.map (·.1):=by
 intro m;obtain ⟨p,hp,e⟩:=List.mem_map.mp m;have q:(kvs.any fun kv=>decide (kv.1=k))=true:=List.any_eq_true.mpr ⟨p,hp,decide_eq_true e⟩
 rw [yA,h] at q;exact absurd q (by simp)
theorem zmG {kvs:List (κ×V)} {k:κ} {v:V} (h:zO kvs k=some v):k∈kvs.map (·.1):=by
 have q:(kvs.any fun kv=>decide (kv.1=k))=true:=by
  rw [yA,h]
  all_goals rfl
 obtain ⟨p,hp,e⟩:=List.any_eq_true.mp q;exact List.mem_map.mpr ⟨p,hp,of_decide_eq_true e⟩
theorem zhe:∀{l:List κ} {k:κ},l.Nodup->¬k∈l->(l++[k]).Nodup
 | [],k,_,_=>by simp
 | a::r,k,h,hk=>by
  obtain ⟨h1,h2⟩:=List.nodup_cons.mp h;show (a::(r++[k])).Nodup;refine List.nodup_cons.mpr ⟨fun m=>?_,zhe h2 fun m=>hk (List.mem_cons.mpr (Or.inr m))⟩
  rcases List.mem_append.mp m with q | q
  ·exact h1 q
  ·exact hk (List.mem_cons.mpr (Or.inl (List.mem_singleton.mp q).symm))
theorem zmH {kvs:List (κ×V)} {k:κ} (v:V) (hn:(kvs.map (·.1)).Nodup) (h:zO kvs k=none):(s!"ah".map (·.1)).Nodup:=by
 rw [zjT v h,List.map_append];exact zhe hn (zfq h)
theorem zdC {p:κ×V} {r:List (κ×V)} {k:κ} (e:p.1=k):yb (p::r) k=yb r k:=by
 unfold yb;rw [List.filter_cons,if_neg (by simp [e])]
theorem zdD {p:κ×V} {r:List (κ×V)} {k:κ} (e:¬p.1=k):yb (p::r) k=p::yb r k:=by
 unfold yb;rw [List.filter_cons,if_pos (by simp [e])]
theorem zdE {kvs:List (κ×V)} {k:κ} {p:κ×V} (h:p∈yb kvs k):p∈kvs:=(List.mem_filter.mp h).1
theorem zcu:∀{kvs:List (κ×V)} {k:κ},(kvs.map (·.1)).Nodup->((yb kvs k).map (·.1)).Nodup
 | [],_,_=>List.nodup_nil
 | p::r,k,h=>by
  have h:(p.1::r.map (·.1)).Nodup:=h
  obtain ⟨h1,h2⟩:=List.nodup_cons.mp h
  by_cases e:p.1=k
  ·rw [zdC e];exact zcu h2
  ·rw [zdD e];show (p.1::(yb r k).map (·.1)).Nodup
   refine List.nodup_cons.mpr ⟨fun m=>h1 ?_,zcu h2⟩
   obtain ⟨q,hq,eq⟩:=List.mem_map.mp m;exact List.mem_map.mpr ⟨q,zdE hq,eq⟩
end
structure VKind (prog:Program) (w:World) (K:Type) [DecidableEq K] where
 is:Heap->K->Value->Prop
 hash:K->Int
 draws:K->Nat
 deep:Nat
 like:K->K->Prop
 inj:∀{h:Heap} {v:Value} {x y:K},is h x v->is h y v->x=y
 keeps:∀{h h':Heap} {k:K} {v:Value} {d:Addr} {o:Obj} {es ep},is h k v->h.get? d=some o->o.data=.dict es ep->Heap.SameBut d h h'->is h' k v
 pyHash:∀{A:Around} {E:Value->Shared->Prop} {s:Shared} {k:K} {v:Value} {Q:Int->Shared->Prop},A.units+deep<cLine->is s.heap k v->Q (hash k) { s with toks:=s.toks+draws k }->wpAny s!"q" A (PySem.pyHash v) Q E s
 eqBool:∀{A:Around} {E:Value->Shared->Prop} {s:Shared} {x y:K} {u v:Value} {Q:Bool->Shared->Prop},A.units+deep<cLine->like x y->is s.heap x u->is s.heap y v->Q (decide (x=y)) s->wpAny s!"q" A (PySem.eqBool u v) Q E s
 quiet:∀{A:Around} {E:Value->Shared->Prop} {s:Shared} {k:K} {v:Value} {n:Nat} {Q:Bool->Shared->Prop},deep<=n->is s.heap k v->Q true s->wpAny s!"q" A (eqIsQuiet n v) Q E s
section
variable {prog:Program} {w:World} {K:Type} [DecidableEq K] (knd:VKind prog w K)
variable {knd}
variable {A:Around} {E:Value->Shared->Prop} {s:Shared}
end
abbrev zrk:=Int×Int×List (Int×Int)
section
variable (P:Program) (w:World)
end
section
variable {P:Program} {w:World} {H:Hp} {h:Heap}
end
section
variable (P:Program) (w:World)
end
section
variable {P:Program} {w:World} {H:Hp} {h:Heap} {a:Addr} {xs:List (zrk×Addr×Value)}
end
section
variable {X:Cx} {o i value:Expr} {pos pos':Pos} {td ty tv:TE}
end
section
variable {P:Program} {w:World} {K:PySem.W.Frag} {σ:St} {H:Hp} {Q:VK} {D:Ends} {td ty tv:TE}
theorem zjW.Qv (h:∀p H',Same H H'->H p=none->H' p=some (.dK [])->Q (.ref p) H'):zjW σ H Q:=fun p hp=>h p _ s!"aH" hp zi
def zqV (n:Bool) (y x:V) (H:Hp) (Q:VK):Prop:=∃a o,x=.ref a/\wT H a y o/\Q (.bl (if n then !o.isSome else o.isSome)) H
theorem zhd.Qa (h:ty σ H fun y H1=>td σ H1 fun x H2=>zqV true y x H2 Q):zhd ty td σ H Q:=h
def zn0 (v x y:V) (σ:St) (H:Hp) (D:Ends):Prop:=∃a H4,x=.ref a/\zia H a y v H4/\D.nx σ H4
theorem znZ.Qa (h:tv σ H fun v H1=>td σ H1 fun x H2=>ty σ H2 fun y H3=>zn0 v x y σ H3 D):znZ td ty tv D σ H:=h
def zn1 (x y:V) (H:Hp) (Q:VK):Prop:=∃a v,x=.ref a/\wT H a y (some v)/\Q v H
theorem znY.Qa (h:td σ H fun x H1=>ty σ H1 fun y H2=>zn1 x y H2 Q):znY td ty σ H Q:=h
end
section
variable {K:PySem.W.Frag} {H:Hp} {Q:VK}
end
section
variable {X:Cx}
end
section
variable {σ:St} {H:Hp} {Q:VK} {K:PySem.W.Frag}
end
section
variable {X:Cx} {e:Expr} {te:TE} {st:Expr} {ts:TO} {p2 pos:Pos}
end
section
variable {σ:St} {H:Hp} {Q:VK} {K:PySem.W.Frag}
end
section
variable {prog:Program} {w:World} {A:Around} {E:Value->Shared->Prop} {s:Shared}
theorem zig {d:Addr} {Q:Bool->Shared->Prop} (hT:s.TypeIs (.ref d) "dict") (h:Q false s):wpAny s!"q" A (Builtin.List.listLengthHint (.ref d)) Q E s:=by
 unfold Builtin.List.listLengthHint;refine wpAny_bind (wpAny_specialOf hT F.slot_dict_len.lookup ?_);generalize hid:("dict.__len__":String)=id0
 wp_delta
 rw [show splitId id0=some ("dict","__len__") from by subst hid;decide+kernel]
 subst hid;refine wpAny_bind (wpAny_isInstance (T:="dict") (b:=true) hT (by rw [isSubtype_type];kernel_rfl) ?_)
 refine wpAny_ite_split (fun hab=>absurd hab s!"c") (fun _=>?_)
 refine wpAny_ite_split (fun _=>?_) (fun hab=>absurd s!"b" hab)
 refine wpAny_bind (wpAny_typeOf hT ?_);exact wpAny_pure h
theorem zfr {K:Type} [DecidableEq K] {knd:KeyKind prog w K} {R:Result->Shared->Prop} {d:Addr} {kvs:List (K×Value)} {ep:Nat} (hh:A.handled=none) (hs:(d==sysModules)=false) (hm:s.heap.DictAt knd d kvs ep)
 (hlen:kvs.length<=sizeLine) (S:Addr) (res:Value) (c₀:Nat) (hS:s.heap.get? S=some { cls:=.type "list",data:=.seq #[] c₀ })
 (hR:∀h' tk acc' c',(∀b o,b≠S->s.heap.get? b=some o->h'.get? b=some o)->h'.get? S=some { cls:=.type "list",dict:=none,data:=.seq acc' c',slots:=#[] }->
  ItemsOf (fun i v=>∃k x,kvs[i]? =some (k,x)/\knd.is k v=true) acc' kvs.length->R (.ok (.ret res)) { s with heap:=h',toks:=tk }):
 wpAny s!"q" A.in1 (Builtin.List.listExtendWith (.ref S) (.ref d) res)
  (fun fin s'=>match fin with | .done f=>R (.ok f) s' | .again c'=>c'.quiet=true/\codeAny s!"q" A c' R s') (fun e s'=>R (.error e) s') s:=by
 have hT:s.TypeIs (.ref d) "dict":=hm.dictOf.typeIs;have hSd:S≠d:=fun e=>by
  obtain ⟨o,h1,h2⟩:=hT;rw [<-e,hS] at h1;cases h1;exact absurd h2 (by show ¬Value.type "list"=Value.type "dict";decide)
 have hSlt:S<s.heap.objs.size:=Heap.lt_size hS;have hSI:S≠s.heap.objs.size:=Nat.ne_of_lt hSlt;have hdlt:d<s.heap.objs.size:=by
  obtain ⟨o,h1,_⟩:=hT;exact Heap.lt_size h1
 have hdI:d≠s.heap.objs.size:=Nat.ne_of_lt hdlt;have hSf:S∉[s.heap.objs.size,d]:=fun hm=>by
  rcases List.mem_cons.mp hm with e | e
  ·exact hSI e
  ·exact hSd (List.mem_singleton.mp e)
 have W:=(Walks.dictKeys (prog:=prog) (w:=w) (knd:=knd) (A:=A.in1) hh s.heap.objs.size d hdI kvs ep).toS;have key:∀(h:Heap) (c₁ tk:Nat),h.IsKeyIter s.heap.objs.size d 0 kvs.length ep/\h.DictAt knd d kvs ep->(∀b o,b≠S->s.heap.get? b=some o->h.get? b=some o)->
  h.get? S=some { cls:=.type "list",data:=.seq #[] c₁ }->codeAny s!"q" A (.builtin "list.extend.loop" ⟨[.ref S,.ref s.heap.objs.size,res],[]⟩) R { s with heap:=h,toks:=tk }:=by
  intro h c₁ tk hit hk hS₁;refine codeAny_extend_loopS W hlen S hSf res kvs.length 0 _ #[] c₁ rfl (Nat.zero_le _) hit hS₁ (ItemsOf.nil _) fun s' acc' c' hm hS' hacc=>?_
  rw [Moved.eq_with hm];refine hR s'.heap s'.toks acc' c' (fun b o hb e=>hm.heap b o (fun hmem=>?_) (hk b o hb e)) hS' hacc
  rcases List.mem_cons.mp hmem with e' | hmem
  ·exact hb e'
  ·exact absurd s!"C{e}" (by rw [List.mem_singleton.mp hmem];exact Nat.lt_irrefl _)
 unfold Builtin.List.listExtendWith;refine wpAny_bind (wpAny_typeOf hT ?_);have h1:Builtin.List.listSameRef (.ref S) (.ref d)=false:=by simp [Builtin.List.listSameRef,hSd]
 have h2:(Value.type "dict"==Value.type "list")=false:=by decide
 have h3:(Value.type "dict"==Value.type "tuple")=false:=by decide
 simp only [h1,h2,h3,Bool.or_false,Bool.false_eq_true,if_false];refine wpAny_bind (wpAny_pyIter_dict hs hm ?_);have hT1:Shared.TypeIs { s with heap:=s.heap.push { cls:=.type "dict_keyiterator",data:=.fields #[.ref d,.int 0 0,.int kvs.length 0,.int ep 0] } } (.ref d) "dict":=by
  obtain ⟨o,a,b⟩:=hT;exact ⟨o,Heap.get?_push_of_some _ a,b⟩
 refine wpAny_bind s!"/{zig hT1 ?_}";have hS₁:=Heap.get?_push_of_some { cls:=.type "dict_keyiterator",data:=.fields #[.ref d,.int 0 0,.int kvs.length 0,.int ep 0] } hS;refine wpAny_ite_split (fun _=>?_) (fun hab=>absurd s!"b" hab)
 refine wpAny_bind (wpAny_rule ?_);refine wpAny_bind ?_;show wpAny _ _ (updateSeq S (·.push .none) >>=fun _=>updateSeq S (·.pop)) _ _ _
 refine wpAny_bind (wpAny_updateSeq hS₁ rfl ?_);have hS₂:=Heap.get?_update_self (Obj.mapSeq (·.push Value.none)) hS₁ rfl
 refine wpAny_updateSeq (hz:=by seq_fits) hS₂ rfl ?_
 have hS₃:=Heap.get?_update_self (Obj.mapSeq (·.pop)) hS₂ rfl
 have oth:∀b o,b≠S->(s.heap.push { cls:=.type "dict_keyiterator",data:=.fields #[.ref d,.int 0 0,.int kvs.length 0,.int ep 0] }).get? b=some o->(((s.heap.push { cls:=.type "dict_keyiterator",data:=.fields #[.ref d,.int 0 0,.int kvs.length 0,.int ep 0] }).update S (Obj.mapSeq (·.push Value.none))).update S (Obj.mapSeq (·.pop))).get? b=some o:=
  fun b o hb e=>s!"ae{Ne.symm hb}".trans (s!"ae{Ne.symm hb}".trans e)
 refine wpAny_pure ⟨plainId_quiet F.plain_extend_loop _,key _ _ _ ⟨?_,?_⟩ (fun b o hb e=>?_) hS₃⟩
 ·exact ⟨_,oth _ _ (Ne.symm hSI) (Heap.get?_push_size _ rfl),rfl,rfl⟩
 ·exact hm.at' fun o e=>oth _ _ (Ne.symm hSd) s!";"
 ·exact oth b o hb s!";"
theorem zer {K:Type} [DecidableEq K] {knd:KeyKind prog w K} {d:Addr} {kvs:List (K×Value)} {ep:Nat} {Q:List Value->Shared->Prop} (hh:A.handled=none) (hs:(d==sysModules)=false) (hm:s.heap.DictAt knd d kvs ep) (hlen:kvs.length<=sizeLine)
 (h:∀h' tk (vs:List Value),s.heap.objs.size<h'.objs.size->(∀b o,s.heap.get? b=some o->h'.get? b=some o)->vs.length=kvs.length->(∀(i:Nat) v,vs[i]? =some v->∃k x,kvs[i]? =some (k,x)/\knd.is k v=true)->Q vs { s with heap:=h',toks:=tk }):
 wpAny s!"q" A (collect (.ref d)) Q E s:=by
 refine wpAny_bind (wpAny_runValue (codeAny_builtinAt F.entry_proto_collect (wpAt_of_wpAny ?_)));refine wpAny_bind (wpAny_newList ?_);refine wpAny_pure ⟨Code.quiet_builtin _ s!"b",?_⟩
 refine codeAny_builtinAt F.entry_list_iadd (wpAt_of_wpAny ?_);rw [zgj];refine wpAny_bind (wpAny_pure (a:=(Value.ref s.heap.objs.size,[Value.ref d])) ?_);refine zfr (A:=A) (R:=fun r s'=>match r with | .ok (.ret v)=>wpAny s!"q" A (match v with | .ref a=>(do let o <-load a;match o.data with | .seq xs _=>pure xs.toList | _=>unsupported "internal:collect") | _=>unsupported "internal:collect") Q E s' | .ok _=>False | .error e=>E e s') (s:={ s with heap:=s.heap.push { cls:=.type "list",data:=.seq #[] } }) hh hs (hm.push _) hlen s.heap.objs.size s!"aD" 0 (Heap.get?_push_size _ rfl) fun h' tk acc c' hk hS' hacc=>?_
 refine wpAny_bind (wpAny_load hS' ?_);refine wpAny_pure (h h' tk acc.toList s!"C{hS'}" (fun b o e=>hk b o s!"U{s!"C{e}"}" s!";") (by rw [Array.length_toList];exact hacc.1) fun i v hv=>hacc.2 i v (by simpa using hv))
end
section
variable {K:PySem.W.Frag} {H:Hp} {Q:VK}
end
section
variable {prog:Program} {w:World} {A:Around} {E:Value->Shared->Prop} {s:Shared} {it l a:Addr} {oe:Obj}
theorem zcZ:entryFor table "proto.unchain"=some Builtin.«proto.unchain»:=entryFor_of_fast s!"D"
def zbi (A:Around) (a:Addr) (oe:Obj) (h:Heap):Prop:=A.handled=some s!"g"/\h.get? a=some oe/\∃vs,oe.data=.fields vs/\vs[2]? =some .none
theorem zes {v:Value} {Q:Value->Shared->Prop} {tg:Bool} (hb:zbi A a oe s.heap) (k:Q .none s):wpAny s!"q" A (runValue (.builtin "proto.unchain" ⟨[v,.ref a,.ref a,.bool tg],[]⟩)) Q E s:=by
 obtain ⟨_,ha,vs,hd,v2⟩:=hb;refine wpAny_runValue (codeAny_builtinAt zcZ (wpAt_of_wpAny ?_));refine wpAny_bind (wpAny_field ha hd v2 ?_);rw [if_pos (by rfl)]
 exact wpAny_pure k
theorem zc0 {α:Type} {Q:α->Shared->Prop} {e:Addr} {o:Obj} {ws:Array Value} (hb:zbi A a oe s.heap) (hne:e≠a) (he:s.heap.get? e=some o) (hw:o.data=.fields ws) (hz:2<ws.size) (k:E s!"Q" { s with heap:=s.heap.update e (Obj.mapFields (·.setIfInBounds 2 s!"g")) }):
 wpAny s!"q" A (raiseNew s!"Q":Sem α) Q E s:=by
 unfold raiseNew;refine wpAny_bind (wpAny_handled ?_);rw [hb.1];show wpAny _ _ (if (Value.ref a !=Value.ref e)=true then _ else _) _ _ _
 rw [if_pos (by simp;exact fun z=>hne z.symm)]
 refine wpAny_bind s!"/{zes hb ?_}";refine wpAny_bind ?_;unfold updateField;refine wpAny_bind (wpAny_load he ?_);rw [hw];show wpAny _ _ (if 2<ws.size then _ else _) _ _ _
 rw [if_pos hz];refine wpAny_update he ?_;exact wpAny_throw k
theorem zbi.ext {h h':Heap} (x:zbi A a oe h) (k:h'.get? a=some oe):zbi A a oe h':=⟨x.1,k,x.2.2⟩
end
section
variable {X:Cx} {a:Addr} {oe:Obj} {pins:List (Addr×Obj)} {σ:St} {H:Hp} {s:Shared}
end
section
variable {X:Cx}
end
def zj4 (K:PySem.W.Frag):V->List V->Hp->VK->Prop:=fun x vs H Q=>∃(sep:Str) (l:Addr) (ws:List Str),x=.str sep/\vs=[.ref l]/\SqL K H l (ws.map V.str)/\JoinOk sep ws=true/\Q (.str (Txt.join sep ws)) H
theorem zhf:∀{ws:List Str} {us:List Value},zo (ws.map V.str) us->∃l:List (Str×Tok),us=strValues l/\l.map (·.1)=ws
 | [],us,r=>by
  cases r;exact ⟨[],rfl,rfl⟩
 | x::xs,us,r=>by
  cases r with
  | cons r1 r2=>
   obtain ⟨t,rfl⟩:=r1;obtain ⟨l,rfl,e⟩:=zhf r2;exact ⟨(x,t)::l,rfl,by rw [List.map_cons,e]⟩
section
variable {X:Cx}
theorem zb8:MtR X "str.join" (zj4 X.K):=by
 intro pins s σ H x vs v us Q I rx rv h;obtain ⟨sep,l,ws,rfl,rfl,hq,hok,q⟩:=h;obtain ⟨t,rfl⟩:=rx;obtain ⟨u,rfl,ru⟩:=rv.one;cases ru;obtain ⟨its,r,p,hz⟩:=I.list hq;obtain ⟨l',rfl,e⟩:=zhf r;exact SC.join p.isList e hok fun t' k=>⟨.str _,H,I.tok k,⟨_,rfl⟩,q⟩
end
section
variable {σ:St} {H:Hp} {Q:VK} {K:PySem.W.Frag}
theorem zaD {sep:Str} {l:Addr} (ws:List Str) (h1:SqL K H l (ws.map V.str)) (h2:JoinOk sep ws=true) (h:Q (.str (Txt.join sep ws)) H):zj4 K (.str sep) [.ref l] H Q:=⟨sep,l,ws,rfl,rfl,h1,h2,h⟩
theorem zgk {te:TE} {a:Addr} {xs:List V} (ys:List V) (h1:SqT K H a xs) (hlen:ys.length=xs.length) (hz:xs.length<=1000) (he:∀(i:Nat) x y H' (Q':VK),xs[i]? =some x->ys[i]? =some y->Same H H'->(∀H2,Same H' H2->Q' y H2)->te [some x] H' Q') (h:∀D H',Same H H'->H D=none->H' D=some s!"6"->Q s!"y" H'):zjH K te s!"g" H Q:=by
 refine ⟨a,rfl,⟨xs,h1⟩,fun D hD=>⟨fun i m zs H'=>m=xs.length-i/\i<=xs.length/\zs=ys.take i/\Same H H'/\H' D=some (.lst zs),⟨xs.length,by simp,Nat.zero_le _,by simp,Same.new hD _,zi⟩,?_⟩⟩
 rintro i m zs H' ⟨rfl,hi,rfl,hs,eD⟩;refine ⟨eD,?_⟩;have q:=hs.tup h1
 by_cases hlt:i<xs.length
 ·refine .inr ⟨⟨xs,xs[i],q,by simp [hlt]⟩,?_,fun x H2 y=>?_⟩
  ·rw [List.length_take];exact zz s!"e"
  ·obtain ⟨e,y⟩:=y;subst e;have hx:=y xs q;obtain ⟨z,hz'⟩:∃z,ys[i]? =some z:=⟨_,List.getElem?_eq_getElem s!"e"⟩
   refine he i x z _ _ hx hz' hs fun H2 s2=>⟨s2.obj eD,xs.length-(i+1),by omega,rfl,hlt,?_,(hs.trans s2).upd hD,zi⟩
   rw [List.take_add_one,hz'];rfl
 ·have e:i=xs.length:=by omega
  subst e;refine .inl ⟨⟨xs,q,Nat.le_refl _⟩,h D H' hs hD ?_⟩;rw [<-hlen,List.take_length] at eD;exact eD
end
def zj5:R2:=fun x y H Q=>∃i j,x=.str i/\y=.str j/\i.length+j.length<=sizeLine/\Q (.str (i++j)) H
section
variable {X:Cx}
theorem zet:OpR X s!"aE" zj5:=zf4
end
section
variable {H:Hp} {Q:VK}
theorem zhg {i j:Str} (hz:i.length+j.length<=sizeLine) (h:Q (.str (i++j)) H):zj5 (.str i) (.str j) H Q:=⟨i,j,rfl,rfl,hz,h⟩
end
end L2
namespace L2
open PySem PySem.Spec PyProof.Rows PySem.W
abbrev bmV:List Value:=[.type "ValueError",.type "Exception",.type "BaseException",.type "object"]
section
variable {prog:Program} {w:World} {A:Around} {E:Value->Shared->Prop} {hp:Heap} {gn:Array GenState} {dr:Drawn} {tk:Nat} {oS:OsState}
variable {nm qn:Str} {C N:Addr} {bs tl bmB:List Value} {hd0:Bool} {sn:List Str} {sb:List Value} {ab:Bool} {col:Option Bool} {dd:Option Addr} {k0 k1 k2 k3 k5:Option Value} {B nI iI:String}
theorem zc1 (F:ExcBaseFacts B nI iI bmB) (T:OwnTail hp bmB tl) {mN:Str->Option Value} {us:List Value} {fI:Addr} {oI:Obj} {Q:PySem.Fin->Shared->Prop}
 (cC:hp.get? C=some (excClassObj nm qn C N bs tl hd0 sn sb ab col dd k0 k1 k2 k3 k5 nI)) (cN:hp.Ns N mN) (cI:mN "__init__"=some (.ref fI)) (oF:hp.get? fI=some oI) (tF:oI.cls=.type "function")
 (go:∀h1 e,Heap.MadeExcOf hp h1 e s!"k" us->wpAny s!"q" A (call (.ref fI) (.ref e::us)) (fun r s1=>r=.none/\Q (.done (.ret s!"Q")) s1) E ⟨h1,gn,dr,tk,oS⟩) (hz:us.length<=sizeLine):
 wpAny s!"q" A (Builtin.«type.__call__» ⟨.ref C::us,[]⟩) Q E ⟨hp,gn,dr,tk,oS⟩:=by
 repeat (first | (with_reducible refine wpAny_loadPart_at cC ?_) | (with_reducible refine wpAny_madeBy_exc cC ?_) | walk_at "wp")
 refine codeAny_call_builtin_code (Code.quiet_builtin _ F.quiet) (wpAny_check_new_subT F T cC (codeAny_exc_new_subT F T cC ?_ hz));show wpAny _ _ _ _ _ _;let ot:Obj:={ cls:=.type "tuple",data:=.seq us.toArray }
 let ox:Obj:={ cls:=.ref C,data:=.fields #[.ref hp.objs.size,.none,.none,.none,.bool false,.none] }
 have up:∀b o,hp.get? b=some o->((hp.push ot).push ox).get? b=some o:=fun b o q=>Heap.get?_push_of_some _ s!"8{q}"
 have c1:=up _ _ cC;have n1:=cN.keeps up;have T1:=T.keeps up;have g1:((hp.push ot).push ox).get? (hp.objs.size+1)=some ox:=by heap_get
 have m1:(Value.ref C::tl).contains s!"k"=true:=by simp
 unfold isInstance
 repeat (first | (with_reducible refine wpAny_loadPart_at g1 ?_) | (with_reducible refine wpAny_isSubtype_exc c1 ?_;rw [m1]) | walk_at "wp")
 show wpAny _ _ (typeLookup s!"k" _) _ _ _;refine wpAny_typeLookup_tail c1 n1 T1 F.mroIs F.init.lookup ?_;rw [cI];refine wpAny_holding s!"p{?_}";unfold bindSpecial;refine wpAny_bind (wpAny_typeOf (T:="function") ⟨_,up _ _ oF,tF⟩ ?_);rw [if_pos s!"c"]
 refine wpAny_pure s!"p{(wpAny_mono (go _ (hp.objs.size+1) ⟨up,Heap.get?_none_of_le (Nat.le_succ _),hp.objs.size,g1,Heap.get?_none_of_le (Nat.le_refl _),?_⟩) (fun r s1 hr=>?_) fun _ _ z=>z)}"
 ·exact Heap.get?_push_of_some _ (Heap.get?_push_at rfl rfl)
 ·obtain ⟨rfl,q⟩:=hr
  repeat walk_at "wp"
  exact q
theorem zj6 (F:ExcBaseFacts B nI iI bmB) (T:OwnTail hp bmB tl) {mN:Str->Option Value} {us:List Value} {fI:Addr} {oI:Obj} {Q:Value->Shared->Prop}
 (cC:hp.get? C=some (excClassObj nm qn C N bs tl hd0 sn sb ab col dd k0 k1 k2 k3 k5 nI)) (cN:hp.Ns N mN) (cI:mN "__init__"=some (.ref fI)) (oF:hp.get? fI=some oI) (tF:oI.cls=.type "function")
 (go:∀h1 e,Heap.MadeExcOf hp h1 e s!"k" us->wpAny s!"q" (A.under (.builtin "type.__call__" ⟨.ref C::us,[]⟩)) (call (.ref fI) (.ref e::us)) (fun r s1=>r=.none/\Q s!"Q" s1) E ⟨h1,gn,dr,tk,oS⟩) (hz:us.length<=sizeLine):
 wpAny s!"q" A (call s!"k" us) Q E ⟨hp,gn,dr,tk,oS⟩:=by
 have y1:=tc_lookup;have y2:=tc_bind s!"k";have y3:(⟨hp,gn,dr,tk,oS⟩:Shared).TypeIs s!"k" "type":=⟨_,cC,rfl⟩;refine wpAny_call (codeAny_of_tree ?_);show wpAny _ _ (callAny s!"k" _) _ _ _
 repeat (any_goals (first | assumption | (with_reducible refine wpAny_loadPart_at cC ?_) | wp_step))
 exact ⟨rfl,codeAny_call_builtin_at (Code.quiet_builtin _ s!"b") entry_typeCall (wpAny_check_type_call_sub cC (zc1 F T cC cN cI oF tF go hz))⟩
theorem zc2 {M:Model} {s:Shared} {env:Env} {x:Sem Value} {Q:Flow->Shared->Prop} (hb:tl.contains s!":"=true) (hh:A.handled=none)
 (go:wpAny M A x (fun v s1=>∃e t dx,v=.ref e/\s1.heap.get? C=some (excClassObj nm qn C N bs tl hd0 sn sb ab col dd k0 k1 k2 k3 k5 nI)/\
  s1.heap.get? e=some { cls:=.ref C,dict:=some dx,data:=.fields #[.ref t,.none,.none,.none,.bool false,.none] }/\E (.ref e) s1) E s):wpAny M A (raiseStmt env (some x) none) Q E s:=by
 have m1:(Value.ref C::tl).contains s!":"=true:=by rw [List.contains_cons,hb,Bool.or_true]
 unfold raiseStmt;refine wpAny_bind (wpAny_mono go (fun v s1 q=>?_) fun _ _ z=>z)
 obtain ⟨e,t,dx,rfl,cC,oE,q⟩:=q;obtain ⟨h1,g1,d1,t1,o1⟩:=s1
 repeat (first | (with_reducible refine wpAny_loadPart_at oE ?_) | (with_reducible refine wpAny_loadPart_at cC ?_) | (with_reducible refine wpAny_isSubtype_exc cC ?_;rw [m1]) | walk_at "wp")
 exact wpAny_raiseNew_none hh q
theorem zih (F:ExcBaseFacts B nI iI bmB) {s:Shared} {env:Env} {mN:Str->Option Value} {x:Str} {np cpos pos:Pos} {args:List Expr} {fI:Addr} {oI:Obj} {Q:Flow->Shared->Prop} (hb:tl.contains s!":"=true) (hh:A.handled=none)
 (hpl:(backTo cpos (starEach args env)).any (·.1)=false) (cI:mN "__init__"=some (.ref fI)) (tF:oI.cls=.type "function")
 (go:wpAny (model prog w) A (eval (.Name x np) env) (fun f s1=>f=.ref C/\wpAny (model prog w) A (evalArgs (.ref C) true (backTo cpos (starEach args env)) [])
  (fun a s2=>a.kw=[]/\a.pos.length<=sizeLine/\s2.heap.get? C=some (excClassObj nm qn C N bs tl hd0 sn sb ab col dd k0 k1 k2 k3 k5 nI)/\s2.heap.Ns N mN/\OwnTail s2.heap bmB tl/\s2.heap.get? fI=some oI/\
   ∀h1 e,Heap.MadeExcOf s2.heap h1 e (.ref C) a.pos->wpAny (model prog w) (A.under (.builtin "type.__call__" ⟨.ref C::a.pos,[]⟩)) (call (.ref fI) (.ref e::a.pos)) (fun r s3=>r=.none/\
    s3.heap.get? C=some (excClassObj nm qn C N bs tl hd0 sn sb ab col dd k0 k1 k2 k3 k5 nI)/\(∃t dx,s3.heap.get? e=some { cls:=.ref C,dict:=some dx,data:=.fields #[.ref t,.none,.none,.none,.bool false,.none] })/\E (.ref e) s3) E { s2 with heap:=h1 }) E s1) E s):
 wpAny s!"q" A (exec (.Raise (some (.Call (.Name x np) args [] cpos)) none pos) env) Q E s:=by
 rw [arm_exec_Raise];simp only [evalOpt,Option.map];refine wpAny_bind s!"at{(zc2 (C:=C) (nm:=nm) (qn:=qn) (N:=N) (bs:=bs) (tl:=tl) (hd0:=hd0) (sn:=sn) (sb:=sb) (ab:=ab) (col:=col) (dd:=dd) (k0:=k0) (k1:=k1) (k2:=k2) (k3:=k3) (k5:=k5) (nI:=nI) hb hh ?_)}";refine wpAny_bind (wpAny_mono (wpAny_Call_ofName (wpAny_mono go (fun f s1 q1=>?_) fun _ _ z=>z)) (fun v s3 q3=>wpAny_bind s!"at{s!"V{q3}"}") fun _ _ z=>z)
 obtain ⟨rfl,q1⟩:=q1;unfold callWith;refine wpAny_bind s!"/{(wpAny_mono q1 (fun a s2 q2=>wpAny_bind s!"at{?_}") fun _ _ z=>z)}"
 obtain ⟨ap,ak⟩:=a;obtain ⟨z0,z1,cC,cN,T,oF,q2⟩:=q2;obtain rfl:ak=[]:=z0;obtain ⟨h2,g2,d2,t2,o2⟩:=s2;simp only [hpl];refine wpAny_bind (wpAny_keeperOf_exc cC ?_);refine wpAny_bind (zj6 F T cC cN cI oF tF (fun h1 e hm=>?_) z1)
 refine wpAny_mono (q2 h1 e hm) (fun r s3 q3=>?_) fun _ _ z=>z
 obtain ⟨rfl,c3,⟨t3,d3,e3⟩,q3⟩:=q3;exact ⟨rfl,wpAny_bind s!"/{wpAny_point s!"V{⟨e,t3,d3,rfl,c3,e3,q3⟩}"}"⟩
end
end L2
namespace L2
open PySem PySem.Spec PyProof.Rows PySem.W Builtin Builtin.ObjectAttr
section
variable {prog:Program} {w:World} {A:Around} {E:Value->Shared->Prop} {hp:Heap} {gn:Array GenState} {dr:Drawn} {tk:Nat} {oS:OsState}
variable {nm qn:Str} {C N:Addr} {bs tl bmB:List Value} {hd0:Bool} {sn:List Str} {sb:List Value} {ab:Bool} {col:Option Bool} {dd:Option Addr} {k0 k1 k2 k3 k5:Option Value} {B nI iI:String}
theorem zj7 (F:ExcBaseFacts B nI iI bmB) (T:OwnTail hp bmB tl) {us:List Value} {e t:Addr} {Q:Value->Shared->Prop} (cC:hp.get? C=some (excClassObj nm qn C N bs tl hd0 sn sb ab col dd k0 k1 k2 k3 k5 nI))
 (oE:hp.get? e=some { cls:=.ref C,data:=.fields #[.ref t,.none,.none,.none,.bool false,.none] }) (hz:us.length<=sizeLine)
 (go:∀h1 t1,(∀b o,b≠e->hp.get? b=some o->h1.get? b=some o)->h1.get? e=some { cls:=.ref C,data:=.fields #[.ref t1,.none,.none,.none,.bool false,.none] }->Q .none ⟨h1,gn,dr,tk,oS⟩):
 wpAny s!"q" A (call s!"L{iI}" (.ref e::us)) Q E ⟨hp,gn,dr,tk,oS⟩:=by
 refine wpAny_call (codeAny_call_builtin F.init.plain F.initEntry (wpAny_check_init_subT F T cC oE rfl ?_))
 repeat walk_at "wp"
 refine go _ hp.objs.size (fun b o ne q=>?_) ?_
 ·rw [Heap.get?_update_other _ _ (Ne.symm ne)];exact Heap.get?_push_of_some _ q
 ·rw [Heap.get?_update_self _ s!"8{oE}" rfl];rfl
end
def zbI:List Value->Bool
 | .ref _::r=>zbI r
 | l=>l==bmV
theorem overV_cons {v:Value} {r:List Value} (h:zbI (v::r)=true):(∃c,v=.ref c/\zbI r=true)\/v::r=bmV:=by
 unfold zbI at h;split at h
 ·rename_i q;cases q;exact .inl ⟨_,rfl,h⟩
 ·exact .inr (beq_iff_eq.mp h)
theorem zaE (self:Value):∀{l:List Value},zbI l=true->refuseLoop self "__setattr__" l=pure ()
 | [],e=>by cases e
 | v::r,e=>by
  rcases overV_cons e with ⟨c,rfl,q⟩ | q
  ·rw [refuseLoop_ref];exact zaE self q
  ·rw [q];exact PySem.F.store_ValueError.passes self
theorem zdF:∀{l:List Value},zbI l=true->l.contains s!"aF"=true
 | [],e=>by cases e
 | v::r,e=>by
  rcases overV_cons e with ⟨c,rfl,q⟩ | q
  ·rw [List.contains_cons,zdF q,Bool.or_true]
  ·rw [q];decide
structure IniK (K:PySem.W.Frag) (C:Addr) (fld:Str):Prop where
 sa:findIn K s!"k" "__setattr__"=some s!"a3"
 nf:findIn K s!"k" fld=some none
 ov:(clsIn K C).any (fun cd=>zbI cd.mro && cd.hasDict)=true
section
variable {prog:Program} {w:World} {A:Around} {E:Value->Shared->Prop} {s:Shared} {K:PySem.W.Frag} {e C t:Addr} {fld:Str} {v:Value}
theorem zii {Q:Unit->Shared->Prop} (X:K.In s.heap) (Z:IniK K C fld) (oE:s.heap.get? e=some { cls:=.ref C,data:=.fields #[.ref t,.none,.none,.none,.bool false,.none] })
 (go:∀h1 d tk',s.heap.get? d=none->h1.Ns1 d (fun y=>if y=fld then some v else none)->h1.get? e=some { cls:=.ref C,dict:=some d,data:=.fields #[.ref t,.none,.none,.none,.bool false,.none] }->(∀b o,b≠e->s.heap.get? b=some o->h1.get? b=some o)->Q () { s with heap:=h1,toks:=tk' }):
 wpAny s!"q" A (setAttr s!"Q" fld v) Q E s:=by
 have I:InstAt s.heap e { cls:=.ref C,data:=.fields #[.ref t,.none,.none,.none,.bool false,.none] } C none:=⟨oE,rfl,rfl,trivial⟩;refine set_plain X I Z.sa ?_;have SF:=PySem.F.store_object;obtain ⟨cd,hc,hb⟩:=any_some Z.ov;obtain ⟨h1,h2⟩:=Bool.and_eq_true_iff.mp hb;have ne:cd.mro.isEmpty=false:=by
  cases q:cd.mro with
  | nil=>rw [q] at h1;cases h1
  | cons _ _=>rfl
 have sub:Looks s!"q" s.heap (isInstance s!"Q" s!"aF") true:=I.type.andThen (looks_mroIn X (by unfold mroIn;rw [hc,Option.bind_some,if_neg (by rw [ne];decide),zdF h1]))
 have hm:Looks s!"q" s.heap (mroOf s!"k") cd.mro:=(looks_clsIn X hc).andThen .now;refine codeAny_call_builtin SF.slot.plain SF.entry (@check_slot s!"q" _ _ { s with toks:=s.toks+1 } "object.__setattr__" "object" "__setattr__" s!"Q" [.str fld s.toks,v] [] _ SF.kind SF.split sub (SF.args s!"Q" (.str fld s.toks) v) ?_)
 rw [osa_eq,refuse_eq];refine wpAny_bind s!"p{I.type _ _ _ _ (fun _ _ q=>q) s!"p{hm _ _ _ _ (fun _ _ q=>q) ?_}"}"
 rw [zaE _ h1];refine wpAny_pure s!"p{I.type _ _ _ _ (fun _ _ q=>q) s!"p{looks_findIn X Z.nf _ _ _ _ (fun _ _ q=>q) s!"p{s!"&"}"}"}"
 show wpAny _ _ (storeInOwnDict s!"Q" s!"k" (.str fld s.toks) fld v _) _ _ _;unfold storeInOwnDict ownDictForStores instanceDict;refine wpAny_bind s!"&";refine wpAny_bind s!"p{wpAny_loadPart oE s!"p{looks_clsIn X hc _ _ _ _ (fun _ _ q=>q) ?_}"}"
 obtain ⟨hh,gg,dd,tt,os⟩:=s;dsimp only at oE go ⊢;rw [h2];have x1:(hh.push { cls:=.type "dict",data:=.dict #[] }).get? e=some { cls:=.ref C,data:=.fields #[.ref t,.none,.none,.none,.bool false,.none] }:=Heap.get?_push_of_some _ oE;have ne2:e≠hh.objs.size:=Nat.ne_of_lt s!"C{oE}";refine wpAny_bind (wpAny_alloc' s!"p{wpAny_update' x1 s!"&"}");have g1:((hh.push { cls:=.type "dict",data:=.dict #[] }).update e fun o=>{ o with dict:=some hh.objs.size }).get? hh.objs.size=some { cls:=.type "dict",data:=.dict #[] }:=
  (Heap.get?_update_ne _ _ _ _ ne2.symm).trans (Heap.get?_push_at rfl rfl)
 have n1:((hh.push { cls:=.type "dict",data:=.dict #[] }).update e fun o=>{ o with dict:=some hh.objs.size }).Ns hh.objs.size (fun _=>none):=⟨_,#[],_,g1,rfl,fun y hy=>absurd hy (by simp),fun _=>rfl⟩
 show wpAny _ _ (storeInDict hh.objs.size (.str fld tt) fld v) _ _ _;unfold storeInDict newKeyGuard;refine wpAny_bind s!"V{s!"p{(wpAny_nsSet1 (Heap.Ns1.of_empty n1) fun h3 n3 k3=>?_)}"}"
 obtain ⟨oD,esD,epD,hoD,hdD,hcD⟩:=n3.count (Within.cons fld v Within.nil);refine wpAny_bind (wpAny_lookBehind hoD (by rw [hdD];exact pastItsLine_dict (Nat.le_trans hcD (by rw [List.length_cons,List.length_nil,sizeLine_eq];omega))) ?_)
 refine wpAny_pure ?_;refine go h3 hh.objs.size _ (Heap.get?_none_of_le (Nat.le_refl _)) n3 ?_ fun b o nb q=>?_
 ·exact (k3.2 e ne2).trans (Heap.get?_update_self _ x1 rfl)
 ·exact (k3.2 b s!"U{s!"C{q}"}").trans ((Heap.get?_update_ne _ _ _ _ nb).trans s!"8{q}")
end
end L2
namespace L2
open PySem PySem.Spec PyProof.Rows PySem.W
def ExN (C e:Addr):HO:=.ext fun h=>∃t:Addr,h.get? e=some { cls:=.ref C,data:=.fields #[.ref t,.none,.none,.none,.bool false,.none] }
def ExD (C d e:Addr):HO:=.ext fun h=>∃t:Addr,h.get? e=some { cls:=.ref C,dict:=some d,data:=.fields #[.ref t,.none,.none,.none,.bool false,.none] }
theorem ExN.ok {P:Program} {w:World} {H:Hp} {h:Heap} {C e t:Addr} (q:h.get? e=some { cls:=.ref C,data:=.fields #[.ref t,.none,.none,.none,.bool false,.none] }):zy P w H h e (ExN C e):=
 ⟨⟨t,q⟩,⟨_,q⟩,fun _ _ ⟨t',q'⟩ k=>⟨t',k _ q'⟩⟩
theorem ExD.ok {P:Program} {w:World} {H:Hp} {h:Heap} {C d e t:Addr} (q:h.get? e=some { cls:=.ref C,dict:=some d,data:=.fields #[.ref t,.none,.none,.none,.bool false,.none] }):zy P w H h e (ExD C d e):=
 ⟨⟨t,q⟩,⟨_,q⟩,fun _ _ ⟨t',q'⟩ k=>⟨t',k _ q'⟩⟩
def rem (H:Hp) (a:Addr):Hp:=fun b=>if b=a then none else H b
theorem xZ {H:Hp} {a:Addr}:rem H a a=none:=by unfold rem;rw [if_pos rfl]
theorem zX {H:Hp} {a b:Addr} (h:b≠a):rem H a b=H b:=by unfold rem;rw [if_neg h]
section
variable {X:Cx} {pins:List (Addr×Obj)} {σ:St} {H:Hp} {s:Shared}
theorem Inv.drop {e:Addr} {φ:Heap->Prop} (I:Inv X pins σ H s) (he:H e=some (.ext φ)):Inv X pins σ (rem H e) s:=by
 have ne:∀{b:Addr} {u:HO},H b=some u->(∀ψ,u≠.ext ψ)->b≠e:=fun {b u} q n z=>by
  subst z;rw [he] at q;exact n _ s!"9{q}".symm
 have z:Inv X pins σ (rem H e) { s with heap:=s.heap,toks:=s.toks }:=by
  refine I.un (H':=rem H e) (h':=s.heap) (t':=s.toks) ⟨fun b o q _ _ _=>q,fun b o q _ _ _=>⟨o.slots,q⟩,fun b o _ n _=>?_,fun b o q _=>⟨o,q⟩,fun b xs q=>?_,fun b o u q=>?_,fun b ps q=>⟨#[],?_⟩⟩ fun b u q=>?_
  ·by_cases y:b=e
   ·rw [y];exact xZ
   ·rw [zX y];exact n
  ·rw [zX (ne q fun ψ y=>nomatch y)];exact q
  ·rw [zX (ne q fun ψ y=>nomatch y)];exact q
  ·rw [zX (ne q fun ψ y=>nomatch y),Array.append_empty];exact q
  ·have y:b≠e:=fun y=>by rw [y,xZ] at q;cases q
   rw [zX y] at q;exact (I.hok b u q).stay (fun _ _ _ q=>q) (fun c q=>by rw [zX (ne q fun ψ y=>nomatch y)];exact q) fun c xs q=>by rw [zX (ne q fun ψ y=>nomatch y)];exact q
 exact z
theorem Inv.laidN {h':Heap} {a:Addr} {o:HO} {t':Nat} (I:Inv X pins σ H s) (k:∀b u,s.heap.get? b=some u->h'.get? b=some u) (hn:s.heap.get? a=none) (new:zy X.prog X.w (upd H a o) h' a o):
 Inv X pins σ (upd H a o) { s with heap:=h',toks:=t' }:=by
 have ha:H a=none:=by
  cases q:H a with
  | none=>rfl
  | some u=>
   obtain ⟨ob,e1⟩:=(I.hok a u q).at
   rw [hn] at e1;cases e1
 have ne:∀{b:Addr} {u:HO},H b=some u->b≠a:=fun {b u} q z=>by rw [z,ha] at q;cases q
 refine I.un ⟨fun b o q _ _ _=>k b o q,fun b o q _ _ _=>⟨o.slots,k b o q⟩,fun b o q n _=>?_,fun b o q _=>⟨o,k b o q⟩,fun b xs q=>?_,fun b o u q=>?_,fun b ps q=>⟨#[],?_⟩⟩ fun b u q=>?_
 ·rw [zg (fun z=>by rw [z,hn] at q;cases q)];exact n
 ·rw [zg (ne q)];exact q
 ·rw [zg (ne q)];exact q
 ·rw [zg (ne q),Array.append_empty];exact q
 ·by_cases y:b=a
  ·subst y;rw [zi] at q;cases q;exact new
  ·rw [zg y] at q;exact (I.hok b u q).stay (fun c v _ q=>k c v q) (fun c q=>by rw [zg (ne q)];exact q) fun c xs q=>by rw [zg (ne q)];exact q
end
structure IniOwn (C f:Addr) (base:Heap):Prop where
 obj:∃(tl:List Value) (N:Addr) (nm qn:Str) (bs:List Value) (hd0:Bool) (sn:List Str) (sb:List Value) (ab:Bool) (col:Option Bool) (dd:Option Addr) (k0 k1 k2 k3 k5:Option Value) (mN:Str->Option Value),
  base.get? C=some (excClassObj nm qn C N bs tl hd0 sn sb ab col dd k0 k1 k2 k3 k5 "ValueError.__new__")/\base.Ns N mN/\mN "__init__"=some s!"I"/\OwnTail base bmV tl
def zj8 (K:PySem.W.Frag) (C f:Addr):Bool:=match K.lookup C with
 | some ⟨.type "type",_,.cls cd,sl⟩=>(match cd.mro,sl.toList with
  | .ref C1::bm,[_,_,_,_,some s!"L{n}",_]=>C1==C && n=="ValueError.__new__" && !cd.hasDel && tailIn K bmV bm && nsOkIn K cd.ns && nsIn K cd.ns "__init__"==some s!"_"
  | _,_=>false)
 | _=>false
theorem zij {K:PySem.W.Frag} {h:Heap} {N:Addr} {m:Str->Option Value} {x:Str} {v:Value} (X:K.In h) (G:h.Ns N m) (e:nsIn K N x=some (some v)):m x=some v:=by
 obtain ⟨o,es,ep,ho,hd,_,hf⟩:=G;unfold nsIn at e;split at e
 ·rename_i c d es' n' sl q;have z:=X _ _ q;rw [ho] at z;cases z;cases hd;split at e
  ·rename_i he;rw [<-hf];unfold nsFind findBy;rw [<-Array.find?_toList,he];cases e;rfl
  ·split at e <;> cases e
 ·cases e
theorem zfs {K:PySem.W.Frag} {h:Heap} {N:Addr} {x:Str} {v:Value} (X:K.In h) (e:nsOkIn K N=true) (q:nsIn K N x=some (some v)):h.nsMap N x=some v:=zij X (.of_isNs (isNs_of_in X e)) q
theorem zpg {K:PySem.W.Frag} {h:Heap} {C f:Addr} (X:K.In h) (q:zj8 K C f=true):IniOwn C f h:=by
 unfold zj8 at q;split at q
 ·rename_i dA cdA slA look;split at q
  ·rename_i C1 bm1 e0 e1 e2 e3 nA e5 hmro hsl;simp only [Bool.and_eq_true,beq_iff_eq,Bool.not_eq_true'] at q;obtain ⟨⟨⟨⟨⟨z1,z2⟩,hdel⟩,ht⟩,hok⟩,hni⟩:=q;subst z1 z2;obtain ⟨f1,f2,f3,f4,f5,f6,f7,f8,f9,f10,f11⟩:=cdA;dsimp only at hmro hdel hok hni;subst hmro hdel;have es:slA=#[e0,e1,e2,e3,some s!"L{"ValueError.__new__"}",e5]:=by
    obtain ⟨l⟩:=slA;simp only at hsl;rw [hsl]
   subst es;exact ⟨bm1,f4,f1,f5,f2,f6,f7,f8,f9,f10,dA,e0,e1,e2,e3,e5,_,X _ _ look,.of_isNs (isNs_of_in X hok),zfs X hok hni,tail_of_in X ht⟩
  ·cases q
 ·cases q
def zft (C:Addr) (fld:Str) (ok:V->Prop):Sp:=fun vs H Q _=>∃(e:Addr) (v:V),vs=[.ref e,v]/\ok v/\H e=some (ExN C e)/\∀d,H d=none->Q .non (upd (upd H e (ExD C d e)) d (.xd [(fld,v)]))
def zeu (C:Addr) (fld:Str) (ok:V->Prop) (W:Value->Option Addr->St->Hp->Prop) (t:TA):TS:=fun _ σ H=>t σ H fun vs H1=>∃v,vs=[v]/\ok v/\∀d,H1 d=none->W s!"k" (some d) σ (upd H1 d (.xd [(fld,v)]))
section
variable {X:Cx} {W:Value->Option Addr->St->Hp->Prop} {x:Str} {pos:Pos} {e:Expr} {es:List Expr} {t:TA}
theorem zik {k:Nat} {C f:Addr} {fd:FuncData} {ps:List Str} {fld:Str} {ok:V->Prop} {np cpos:Pos} {oc:Value} {od:Option Addr} {osl:Array (Option Value)} (O:IniOwn C f X.base) (hm:X.mg x=some s!"k")
 (F:FnOk X.prog X.w X.K X.mg X.base (CXE X.prog X.w) k f fd ps (zft C fld ok)) (lk:X.K.lookup f=some ⟨oc,od,.func fd,osl⟩) (hoc:oc=.type "function") (hb:xm X.K fd ps [])
 (hr:Room (k+1) X.A) (hc:X.calm=true) (hg:Gl X x) (hx:XMade X W) (ha:PA X (e::es) t)
 (hdb:(x==("__debug__":Str))=false:=by decide) (he:starEach (e::es) X.env=(false,eval e X.env)::starEach es X.env:=by rfl) (hpl:s!"au".any (·.1)=false:=by rfl):
 PS X (.Raise (some (.Call (.Name x np) (e::es) [] cpos)) none pos) (zeu C fld ok W t):=by
 intro pins s σ H D I h;obtain ⟨tl,N,nm,qn,bs,hd0,sn,sb,ab,col,dd,k0,k1,k2,k3,k5,mN,cC,cN,cI,T⟩:=O.obj;have FB:=PySem.F.excBase_ValueError;refine zih (nm:=nm) (qn:=qn) (C:=C) (N:=N) (bs:=bs) (tl:=tl) (hd0:=hd0) (sn:=sn) (sb:=sb) (ab:=ab) (col:=col) (dd:=dd) (k0:=k0) (k1:=k1) (k2:=k2) (k3:=k3) (k5:=k5) FB (mN:=mN) (oI:=⟨oc,od,.func fd,osl⟩)
  (T.hasType FB.hasBase) (I.ok.hd hc) (by rw [he];show (false || s!"au".any (·.1))=false;rw [hpl];rfl) cI hoc (xE I hg hm ⟨rfl,?_⟩ hdb)
 have h1:=ha cpos pins s σ H _ I h;rw [he] at h1 ⊢;refine Calls.evalArgs_plain (wpAny_mono h1 (fun us s2 ⟨vs,H2,I2,r,hW⟩=>?_) fun _ _ y=>y)
 obtain ⟨v,ev,okv,hW⟩:=hW;subst ev;obtain ⟨u,rfl,ru⟩:∃u,us=[u]/\zq v u:=by
  cases r with
  | cons r1 r2=>cases r2;exact ⟨_,rfl,r1⟩
 refine ⟨rfl,(show 1<=sizeLine by decide),I2.bk _ _ cC,cN.keeps I2.bk,T.keeps I2.bk,I2.kIn _ _ lk,fun hh ad hm=>?_⟩
 obtain ⟨t1,q1,_,_⟩:=hm.there;have nH:H2 ad=none:=by
  cases z:H2 ad with
  | none=>rfl
  | some u=>
   obtain ⟨ob,e1⟩:=(I2.hok ad u z).at
   rw [hm.new] at e1;cases e1
 have n0:X.s₀.heap.get? ad=none:=by
  cases z:X.s₀.heap.get? ad with
  | none=>rfl
  | some o=>
   obtain ⟨o',z'⟩:=I2.base.there ad o z (fun y=>by rw [hx.ex] at y;cases y)
   rw [hm.new] at z';cases z'
 have I3:Inv X pins σ (upd H2 ad s!"*") { s2 with heap:=hh,toks:=s2.toks }:=I2.laidN hm.keeps hm.new (ExN.ok q1)
 have hsp:zft C fld ok [.ref ad,v] (upd H2 ad s!"*") (fun v' H'=>v'=.non/\∃d,H2 d=none/\d≠ad/\H'=upd (upd (upd H2 ad s!"*") ad s!"ai") d (.xd [(fld,v)])) (fun _ _ _=>False):=
  ⟨ad,v,rfl,okv,zi,fun d hd=>by
   have ne:d≠ad:=fun y=>by rw [y,zi] at hd;cases hd
   rw [zg ne] at hd;exact ⟨rfl,d,hd,ne,rfl⟩⟩
 have hl:([Value.ref ad,u]++[]).length=ps.length:=(show 2=ps.length from F.len _ _ _ _ hsp)
 have bnd:=hb { s2 with heap:=hh,toks:=s2.toks } [.ref ad,u] I3.kIn hl
 rw [List.append_nil] at bnd;refine wpAny_call (codeAny_mono (F.run (X.A.under (.builtin "type.__call__" ⟨.ref C::[u],[]⟩)) X.stack { s2 with heap:=hh,toks:=s2.toks } _ ⟨[.ref ad,u],[]⟩ [.ref ad,u] [.ref ad,v] _ _ (hr.make C [u] []) (I3.env0.make C [u] []) bnd (.cons rfl (.cons ru .nil)) hsp) fun res s4 hq=>?_)
 cases res with
 | error ex=>
  obtain ⟨_,_,_,_,_,_,_,y,_⟩:=hq;exact y.elim
 | ok fl=>
  cases fl with
  | next=>exact False.elim hq
  | brk=>exact False.elim hq
  | cont=>exact False.elim hq
  | ret u'=>
   obtain ⟨v',H4,I4,r4,ev4,d,hd,nd,eH⟩:=I3.after hq;subst ev4;obtain rfl:u'=Value.none:=r4;subst eH;have a4:(upd (upd (upd H2 ad s!"*") ad s!"ai") d (.xd [(fld,v)])) ad=some s!"ai":=by
    rw [zg (Ne.symm nd),zi]
   obtain ⟨⟨t4,o4⟩,_⟩:=(show zy X.prog X.w _ s4.heap ad s!"ai" from I4.hok ad _ a4)
   have I5:=I4.drop a4;have eR:rem (upd (upd (upd H2 ad s!"*") ad s!"ai") d (.xd [(fld,v)])) ad=upd H2 d (.xd [(fld,v)]):=by
    funext b
    by_cases y:b=ad
    ·rw [y,xZ,zg (Ne.symm nd),nH]
    ·rw [zX y]
     by_cases z:b=d
     ·rw [z,zi,zi]
     ·rw [zg z,zg z,zg y,zg y]
   rw [eR] at I5;refine ⟨rfl,I5.bk _ _ cC,⟨t4,d,o4⟩,hx.made pins σ _ s4 ad t4 _ _ I5 n0 (by rw [zg (Ne.symm nd)];exact nH) o4 rfl rfl rfl _ (.inl ⟨rfl,rfl⟩) (hW d hd)⟩
def zn2 (C:Addr) (t:TA):TE:=fun σ H Q=>t σ H fun vs H1=>∃(ad:Addr) (v:V),vs=[.ref ad,v]/\H1 ad=some s!"*"/\Q .non H1
theorem zfu {C f Bc:Addr} {b:Str} {bp apos:Pos} (O:IniOwn C f X.base) (hg:Gl X b) (hmb:X.mg b=some (.ref Bc)) (hs:specialIn X.K (.ref Bc) "__getattribute__"=some (some s!"L{"type.__getattribute__"}")) (hrd:readsIn X.K Bc s!","=true)
 (hf:findCls X.K (.ref Bc) s!"," "__init__"=some (.val s!"L{"ValueError.__init__"}")) (ha:PA X (e::es) t) (hdb:(b==("__debug__":Str))=false:=by decide)
 (he:starEach (e::es) X.env=(false,eval e X.env)::starEach es X.env:=by rfl) (hpl:s!"aC".any (·.1)=false:=by rfl) {pl:Sem Bool}
 (ht:eval (.Call (.Attribute (.Name b bp) "__init__" apos) (e::es) [] pos) X.env=(do
  let ov <-eval (.Name b bp) X.env
  standAt apos.atName
  let (f,first) <-holding [ov] (getMethod ov "__init__" pl)
  callWith pos f first (backTo pos (starEach (e::es) X.env)) (backToKw pos (keywordEach [] X.env))):=by rfl):
 PE X (.Call (.Attribute (.Name b bp) "__init__" apos) (e::es) [] pos) (zn2 C t):=by
 intro pins s σ H Q I h;obtain ⟨tl,N,nm,qn,bs,hd0,sn,sb,ab,col,dd,k0,k1,k2,k3,k5,mN,cC,cN,cI,T⟩:=O.obj;refine PySem.W.methodCall_KW (pl:=pl) (xE I hg hmb (method_cls I.kIn hs (cls_value I.kIn hrd hf rfl ?_)) hdb) ht;have I1:=I.tok (s.toks+1);refine callWith_builtin1 (thn (ha pos pins _ σ H _ I1 h) fun us s2 ⟨vs,H2,I2,r,ad,v,ev,e1,q⟩=>?_) he hpl
 subst ev;obtain ⟨u1,u2,rfl,r1,r2⟩:=zg3 r;obtain rfl:u1=Value.ref ad:=r1;obtain ⟨⟨t1,o1⟩,_⟩:=(show zy X.prog X.w H2 s2.heap ad s!"*" from I2.hok ad _ e1)
 obtain ⟨h2,g2,d2,t2,os2⟩:=s2;refine zj7 PySem.F.excBase_ValueError (T.keeps I2.bk) (I2.bk _ _ cC) o1 (show 1<=sizeLine by decide) fun h3 t3 k3 o3=>?_
 have I3:=I2.write (h':=h3) (t':=t2) (x:=ad) (e:=ad) (o:=ExN C ad) (by rw [e1];trivial) (.inl rfl) k3 ⟨_,o3⟩ (ExN.ok o3)
 have eH:upd H2 ad s!"*"=H2:=by
  funext b
  by_cases y:b=ad
  ·rw [y,zi,e1]
  ·rw [zg y]
 rw [eH] at I3;exact ⟨.non,H2,I3,rfl,q⟩
def zn3 (C:Addr) (fld:Str) (ta tv:TE):TS:=fun D σ H=>tv σ H fun y H1=>ta σ H1 fun x H2=>∃ad,x=.ref ad/\H2 ad=some s!"*"/\∀d,H2 d=none->D.nx σ (upd (upd H2 ad s!"ai") d (.xd [(fld,y)]))
theorem zmK {C:Addr} {fld:Str} {o value:Expr} {ta tv:TE} {pos':Pos} (Z:IniK X.K C fld) (ho:PE X o ta) (hv:PE X value tv) (hs:swapsWith value (some (.Attribute o fld pos')) pos.line X.env=pure false:=by rfl):
 PS X (.Assign [.Attribute o fld pos'] value pos) (zn3 C fld ta tv):=by
 intro pins s σ H D I h;refine plainObj_wpAny_Assign_Attribute (thn (hv pins s σ H _ I h) fun u s1 ⟨y,H1,I1,ry,q⟩=>thn (ho pins s1 σ H1 _ I1 q) fun ov s2 ⟨x,H2,I2,rx,ad,ex,ea,q2⟩=>?_) hs
 subst ex;obtain rfl:ov=Value.ref ad:=rx;obtain ⟨⟨t1,o1⟩,_⟩:=(show zy X.prog X.w H2 s2.heap ad s!"*" from I2.hok ad _ ea)
 refine zii I2.kIn Z o1 fun h3 d tk3 nd n3 o3 k3=>?_
 have hd:H2 d=none:=by
  cases z:H2 d with
  | none=>rfl
  | some u=>
   obtain ⟨ob,e1⟩:=(I2.hok d u z).at
   rw [nd] at e1;cases e1
 have ne:d≠ad:=fun y=>by rw [y,o1] at nd;cases nd
 refine ⟨σ,_,?_,q2 d hd⟩;have nT:∀{b:Addr} {u:HO},H2 b=some u->(∀ψ,u≠.ext ψ)->(upd (upd H2 ad s!"ai") d (.xd [(fld,y)])) b=some u:=fun {b u} q n=>by
  have y1:b≠d:=fun z=>by rw [z,hd] at q;cases q
  have y2:b≠ad:=fun z=>by rw [z,ea] at q;exact n _ s!"9{q}".symm
  rw [zg y1,zg y2];exact q
 refine I2.un (h':=h3) (t':=tk3) ⟨fun b o q n _ _=>k3 b o (fun z=>by rw [z,ea] at n;cases n) q,fun b o q n _ _=>⟨o.slots,k3 b o (fun z=>by rw [z,ea] at n;cases n) q⟩,fun b o q n _=>?_,fun b o q _=>?_,
  fun b xs q=>nT q (fun ψ z=>nomatch z),fun b o u q=>nT q (fun ψ z=>nomatch z),fun b ps q=>⟨#[],by rw [Array.append_empty];exact nT q (fun ψ z=>nomatch z)⟩⟩ fun b u' q=>?_
 ·have y1:b≠d:=fun z=>by rw [z,nd] at q;cases q
  have y2:b≠ad:=fun z=>by rw [z,ea] at n;cases n
  rw [zg y1,zg y2];exact n
 ·by_cases z:b=ad
  ·exact ⟨_,by rw [z];exact o3⟩
  ·exact ⟨o,k3 b o z q⟩
 ·by_cases z:b=d
  ·subst z;rw [zi] at q;cases q;refine ⟨_,n3,fun f=>?_⟩
   by_cases y1:f=fld
   ·subst y1;rw [if_pos rfl,List.lookup_cons,beq_self_eq_true];exact ry
   ·rw [if_neg y1,List.lookup_cons,beq_eq_false_iff_ne.mpr y1];exact trivial
  ·rw [zg z] at q
   by_cases y1:b=ad
   ·subst y1;rw [zi] at q;cases q;exact ExD.ok o3
   ·rw [zg y1] at q;refine (I2.hok b u' q).stay (fun c v hc q'=>k3 c v (fun z'=>?_) q') (fun c q'=>nT q' (fun ψ z=>nomatch z)) fun c xs q'=>nT q' (fun ψ z=>nomatch z)
    rcases hc with hc | hc
    ·exact y1 (hc.symm.trans z')
    ·rw [z',ea] at hc;cases hc
def tXf (K:PySem.W.Frag) (a:Addr) (cls:Value) (dx:Option Addr) (fld:Str) (te:TE):TE:=fun σ H Q=>te σ H fun x H1=>∃C d fs v,x=.ref a/\cls=.ref C/\dx=some d/\H1 d=some (.xd fs)/\ExcK K C/\IniK K C fld/\fs.lookup fld=some v/\Q v H1
theorem zgl {prog:Program} {w:World} {A:Around} {E:Value->Shared->Prop} {s:Shared} {K:PySem.W.Frag} {x C d:Addr} {ox:Obj} {vs:Array Value} {mA:Str->Option Value} {fld:Str} {u:Value} {tk:Tok} {Q:PySem.Fin->Shared->Prop} (Z:IniK K C fld) (Y:K.In s.heap)
 (hx:s.heap.get? x=some ox) (hc:ox.cls=.ref C) (hd:ox.dict=some d) (hv:ox.data=.fields vs) (hn:s.heap.Ns1 d mA) (hu:mA fld=some u) (h:Q (.done (.ret u)) s):wpAny s!"q" A (Builtin.«object.__getattribute__» ⟨[.ref x,.str fld tk],[]⟩) Q E s:=by
 obtain ⟨hh,g,dr,t,os⟩:=s;obtain ⟨oc,od,odt,osl⟩:=ox;dsimp only at hc hd hv;subst hc hd hv;obtain ⟨cd,hcd,hb⟩:=any_some Z.ov;obtain ⟨_,h2⟩:=Bool.and_eq_true_iff.mp hb;have L0:Looks s!"q" hh (typeOf (.ref x)) s!"k":=(Looks.ld hx).andThen .now;have L1:=looks_findIn (M:=model prog w) Y Z.nf;obtain ⟨c0,d0,s0,look⟩:∃c0 d0 s0,K.lookup C=some ⟨c0,d0,.cls cd,s0⟩:=by
  unfold clsIn at hcd;split at hcd
  ·rename_i z;cases hcd;exact ⟨_,_,_,z⟩
  ·cases hcd
 have hC:=Y _ _ look;dsimp only at hC;unfold Builtin.«object.__getattribute__»
 repeat (first | (with_reducible refine L0.at ?_) | (with_reducible refine L1.at ?_) | (with_reducible refine wpAny_loadPart_at hx ?_) | (with_reducible refine wpAny_loadPart_at hC ?_) | (with_reducible refine wpAny_load hC ?_) | (with_reducible refine wpAny_nsGet hn.ns ?_;rw [hu]) | rw [h2] | walk_at "wp")
 exact h
theorem zj9 {prog:Program} {w:World} {A:Around} {E:Value->Shared->Prop} {s:Shared} {K:PySem.W.Frag} {x C d:Addr} {ox:Obj} {vs:Array Value} {mA:Str->Option Value} {fld:Str} {u:Value} {b:Bool} {Q:Value->Shared->Prop} (V:ExcK K C) (Z:IniK K C fld) (Y:K.In s.heap)
 (hx:s.heap.get? x=some ox) (hc:ox.cls=.ref C) (hd:ox.dict=some d) (hv:ox.data=.fields vs) (hn:s.heap.Ns1 d mA) (hu:mA fld=some u) (hh:handedOut u=pure u) (h:Q u { s with toks:=s.toks+1 }):wpAny s!"q" A (getAttr (.ref x) fld b) Q E s:=by
 have I:wX x C s.heap:=⟨ox,hx,hc⟩;obtain ⟨hp,g,dr,t,os⟩:=s;have L0:=I.ty s!"q";have L1:=looks_findIn (M:=model prog w) Y V.ga;have L2:=looks_findIn (M:=model prog w) Y V.hk;have b3:=PySem.F.excAttr_ValueError.ga.bind (.ref x);have z2:(Value.builtin "BaseException.__getattribute__"==Value.builtin "object.__getattribute__")=false:=by decide+kernel
 have z1:(onTheHeap (Value.ref C) && Value.builtin "BaseException.__getattribute__"==Value.builtin "object.__getattribute__")=false:=by rw [z2];rfl
 have z0:(b && onTheHeap (Value.builtin "BaseException.__getattribute__"))=false:=by cases b <;> rfl
 unfold getAttr getAttrBy
 repeat (any_goals (first | assumption | (with_reducible refine L0.at ?_) | (with_reducible refine L1.at ?_) | (with_reducible refine L2.at ?_) | wp_step))
 refine codeAny_call_builtin PySem.F.excAttr_ValueError.ga.plain PySem.F.entry_bexc_ga (zds (s:=⟨hp,g,dr,t+1,os⟩) V Y I (zgl (s:=⟨hp,g,dr,t+1,os⟩) Z Y hx hc hd hv hn hu ?_))
 repeat (any_goals (first | assumption | wp_step))
theorem pe_xfld {pins:List (Addr×Obj)} {a:Addr} {oe:Obj} {cls:Value} {dx:Option Addr} {fld:Str} {te:TE} {o:Expr} (hcls:oe.cls=cls) (hxo:XOb oe dx) (he:PE (X.inH pins a oe) o te)
 (hb:attributeBase o fld (X.inH pins a oe).env (eval o (X.inH pins a oe).env)=eval o (X.inH pins a oe).env:=by rfl):PE (X.inH pins a oe) (.Attribute o fld pos) (tXf X.K a cls dx fld te):=by
 subst hcls;intro pins' s σ H Q I h;refine zg4 hb (thn (he pins' s σ H _ I h) fun u s1 ⟨x,H1,I1,rx,C,d,fs,v,ex,ec,ed,e1,V,Z,l,q⟩=>?_)
 subst ex;obtain rfl:u=Value.ref a:=rx;obtain ⟨p1,_⟩:=I1.pin (a,oe) s!"ar{s!"${List.mem_singleton.mpr rfl}"}";obtain ⟨mA,n1,r1⟩:=(show zy X.prog X.w H1 s1.heap d (.xd fs) from I1.hok d _ e1)
 obtain ⟨u1,hu,ru⟩:=xk.some_of (v:=v) (o:=mA fld) (by rw [<-l];exact r1 fld)
 obtain ⟨vs,x2,⟨x1,_⟩ | ⟨x1,_⟩⟩:=hxo
 rotate_left
 ·exfalso;rw [ed] at x1;cases x1;obtain ⟨o7,_,_,e7,_⟩:=I1.ok.mod.glob;have:=(I1.bs _ _ e7).2;rw [e1] at this;cases this
 rw [ed] at x1;exact zj9 V Z I1.kIn p1 ec x1 x2 n1 hu (handedOut_of (zdi ru)) ⟨v,H1,I1.tok _,ru,q⟩
end
structure CI (K:PySem.W.Frag) (mg:Str->Option Value) (base:Heap) (x fld b:Str):Type where
 addr:Addr
 gl:mg x=some (.ref addr)
 f:Addr
 own:IniOwn addr f base
 exc:ExcK K addr
 ini:IniK K addr fld
 up:Addr
 ugl:mg b=some (.ref up)
 u1:specialIn K (.ref up) "__getattribute__"=some (some s!"L{"type.__getattribute__"}")
 u2:readsIn K up s!","=true
 u3:findCls K (.ref up) s!"," "__init__"=some (.val s!"L{"ValueError.__init__"}")
structure SrcI (K:PySem.W.Frag) (qual:Str) (st:Stmt) (f:Addr) (ps:List Str):Prop where
 ex:∃fd,Fun K "__init__" qual st f fd/\xm K fd ps []/\∃od osl,K.lookup f=some ⟨.type "function",od,.func fd,osl⟩
structure DefI (P:Program) (w:World) (K:PySem.W.Frag) (mg:Str->Option Value) (base:Heap) (CX:CXT) (k:Nat) (f:Addr) (ps:List Str) (sp:Sp):Prop where
 ex:∃fd,FnOk P w K mg base CX k f fd ps sp/\xm K fd ps []/\∃od osl,K.lookup f=some ⟨.type "function",od,.func fd,osl⟩
section
variable {P:Program} {w:World} {K:PySem.W.Frag} {mg:Str->Option Value} {base:Heap} {CX:CXT}
theorem zmL {qual:Str} {st:Stmt} {f:Addr} {od an:Option Addr} {osl:Array (Option Value)} {kV doc pm cdv ct:Value} {ps:List Str}
 (l:K.lookup f=some ⟨.type "function",od,.func (PySem.W.fnOf "__init__" qual (zD st) (zw st) (ze st) .none kV doc pm an cdv ct),osl⟩) (c:PySem.W.codeIn K cdv qual=true) (k:PySem.W.keepIn K s!"I"=true)
 (hb:∀(kV doc pm:Value) (an:Option Addr) (cdv ct:Value) (us:List Value),us.length=ps.length->bindArgs (PySem.W.fnOf "__init__" qual (zD st) (zw st) (ze st) .none kV doc pm an cdv ct) ⟨us,[]⟩=pure (ps.zip us)):SrcI K qual st f ps:=
 ⟨_,zbd l c k,(zbd (st:=st) l c k).binds hb,od,osl,l⟩
theorem SrcI.ok {qual:Str} {st:Stmt} {f:Addr} {N ps:List Str} {k:Nat} {sp:Sp} (F:SrcI K qual st f ps) (S:FnScope N ps (ze st)) (len:∀vs H Q E,sp vs H Q E->vs.length=ps.length)
 (hbody:∀(cdv:Value) (A:Around) (outer:List Env) (s:Shared) (H:Hp) (vs:List V) (Q:VK) (E:XK),Room k (A.deeper (envOfC qual (ze st) s.heap.objs.size f cdv))->sp vs H Q E->
  ∃t,PSs (xU CX P w K mg base N qual (ze st) f cdv A outer s H E).nox (zw st) t/\t { nx:=fun _ H1=>Q .non H1,rt:=Q } (yg N vs) H):DefI P w K mg base CX (k+1) f ps sp:=by
 obtain ⟨fd,Fn,b,od',osl',lk'⟩:=F.ex;obtain ⟨oc,od,kV,doc,pm,an,cdv,ct,osl,rfl,lk,hcd⟩:=Fn.ex;refine ⟨_,zfk lk hcd S len fun A outer s H vs Q E hr hsp=>?_,b,od',osl',lk'⟩
 obtain ⟨t,h,q⟩:=hbody cdv A outer s H vs Q E hr hsp;exact ⟨t,h.nox,q⟩
end
section
variable {X:Cx} {W:Value->Option Addr->St->Hp->Prop} {x:Str} {pos:Pos} {e:Expr} {es:List Expr} {t:TA}
theorem zil {k:Nat} {C f:Addr} {ps:List Str} {fld:Str} {ok:V->Prop} {np cpos:Pos} (D:DefI X.prog X.w X.K X.mg X.base (CXE X.prog X.w) k f ps (zft C fld ok)) (O:IniOwn C f X.base) (hm:X.mg x=some s!"k")
 (hr:Room (k+1) X.A) (hc:X.calm=true) (hg:Gl X x) (hx:XMade X W) (ha:PA X (e::es) t)
 (hdb:(x==("__debug__":Str))=false:=by decide) (he:starEach (e::es) X.env=(false,eval e X.env)::starEach es X.env:=by rfl) (hpl:s!"au".any (·.1)=false:=by rfl):
 PS X (.Raise (some (.Call (.Name x np) (e::es) [] cpos)) none pos) (zeu C fld ok W t):=by
 obtain ⟨fd,F,b,od,osl,lk⟩:=D.ex;exact zik O hm F lk rfl b hr hc hg hx ha hdb he hpl
end
def zhh (C:Addr) (fld:Str) (ok:V->Prop) (W:Value->Option Addr->St->Hp->Prop) (σ:St) (vs:List V) (H:Hp):Prop:=∃v,vs=[v]/\ok v/\∀d,H d=none->W s!"k" (some d) σ (upd H d (.xd [(fld,v)]))
theorem zeu.Qa {C:Addr} {fld:Str} {ok:V->Prop} {W:Value->Option Addr->St->Hp->Prop} {t:TA} {D:Ends} {σ:St} {H:Hp} (h:t σ H fun vs H1=>zhh C fld ok W σ vs H1):zeu C fld ok W t D σ H:=h
theorem zgm {C:Addr} {fld:Str} {ok:V->Prop} {W:Value->Option Addr->St->Hp->Prop} {σ:St} {v:V} {H:Hp} (ho:ok v) (h:∀d,H d=none->W s!"k" (some d) σ (upd H d (.xd [(fld,v)]))):zhh C fld ok W σ [v] H:=⟨v,rfl,ho,h⟩
def zn4 (C:Addr) (vs:List V) (H:Hp) (Q:VK):Prop:=∃(ad:Addr) (v:V),vs=[.ref ad,v]/\H ad=some s!"*"/\Q .non H
theorem zn2.Qa {C:Addr} {t:TA} {σ:St} {H:Hp} {Q:VK} (h:t σ H fun vs H1=>zn4 C vs H1 Q):zn2 C t σ H Q:=h
theorem zn4.Qc {C ad:Addr} {v:V} {H:Hp} {Q:VK} (e:H ad=some s!"*") (h:Q .non H):zn4 C [.ref ad,v] H Q:=⟨ad,v,rfl,e,h⟩
def zn5 (C:Addr) (fld:Str) (y x:V) (H:Hp) (R:Hp->Prop):Prop:=∃ad,x=.ref ad/\H ad=some s!"*"/\∀d,H d=none->R (upd (upd H ad s!"ai") d (.xd [(fld,y)]))
theorem zn3.Qa {C:Addr} {fld:Str} {ta tv:TE} {D:Ends} {σ:St} {H:Hp} (h:tv σ H fun y H1=>ta σ H1 fun x H2=>zn5 C fld y x H2 fun H3=>D.nx σ H3):zn3 C fld ta tv D σ H:=h
theorem zn5.Qu {C ad:Addr} {fld:Str} {y:V} {H:Hp} {R:Hp->Prop} (e:H ad=some s!"*") (h:∀d,H d=none->R (upd (upd H ad s!"ai") d (.xd [(fld,y)]))):zn5 C fld y (.ref ad) H R:=⟨ad,rfl,e,h⟩
def kXf (K:PySem.W.Frag) (a:Addr) (cls:Value) (dx:Option Addr) (fld:Str) (x:V) (H:Hp) (Q:VK):Prop:=∃C d fs v,x=.ref a/\cls=.ref C/\dx=some d/\H d=some (.xd fs)/\ExcK K C/\IniK K C fld/\fs.lookup fld=some v/\Q v H
theorem tXf.Qa {K:PySem.W.Frag} {a:Addr} {cls:Value} {dx:Option Addr} {fld:Str} {te:TE} {σ:St} {H:Hp} {Q:VK} (h:te σ H fun x H1=>kXf K a cls dx fld x H1 Q):tXf K a cls dx fld te σ H Q:=h
theorem zph {K:PySem.W.Frag} {a C d:Addr} {fld:Str} {fs:List (Str×V)} {v:V} {H:Hp} {Q:VK} (e:H d=some (.xd fs)) (V:ExcK K C) (Z:IniK K C fld) (l:fs.lookup fld=some v) (h:Q v H):kXf K a s!"k" (some d) fld s!"g" H Q:=⟨C,d,fs,v,rfl,rfl,rfl,e,V,Z,l,h⟩
section
variable {X:Cx}
end
theorem zpi {K:PySem.W.Frag} {C:Addr} (cl:(clsIn K C).isSome=true) (be:mroIn K C s!":"=some true) (me:mroIn K C s!"k"=some true) (ty:typeIn K s!"k"=some s!","):CatK K C:=
 ⟨be,by
  show (if ((clsIn K C).isSome && typeIn K s!"k"==some s!",")=true then subIn K s!"k" s!"k" else none)=some true
  rw [cl,ty];exact me⟩
end L2
namespace L2
open PySem PySem.Spec PyProof.Rows PySem.W Builtin Builtin.Str
section
variable {X:Cx}
theorem zdG:∀{l:List (Str×Tok)},zo ((l.map (·.1)).map V.str) (strValues l)
 | []=>.nil
 | (x,t)::l=>.cons ⟨t,rfl⟩ (zdG (l:=l))
def zkc:V->List V->Hp->VK->Prop:=fun x vs H Q=>∃(a b:Str),x=.str a/\vs=[.str b]/\(b.length==0)=false/\a.length<=sizeLine/\(Txt.split a b).length<=sizeLine/\∀D,H D=none->Q s!"y" (upd H D (.lst ((Txt.split a b).map V.str)))
theorem mt_split:MtR X "str.split" zkc:=by
 intro pins s σ H x vs v us Q I rx rv h;obtain ⟨a,b,rfl,rfl,hb,hz,hn,q⟩:=h;obtain ⟨t,rfl⟩:=rx;obtain ⟨u,rfl,ru⟩:=rv.one;obtain ⟨u',rfl⟩:=ru;have new:∀(l:List (Str×Tok)) (k:Nat),l.map (·.1)=Txt.split a b->EP X pins σ Q s!"aD" { s with heap:=s.heap.push { cls:=.type "list",data:=.seq (strValues l).toArray },toks:=k }:=fun l k e=>
  ⟨.ref s.heap.objs.size,_,I.laid (t':=k) (o:=.lst ((Txt.split a b).map V.str)) (fun b ob q=>Heap.get?_push_of_some _ q) (Nat.le_refl _) ⟨by rw [List.length_map];exact hn,strValues l,0,by rw [<-e];exact zdG,Heap.get?_push_size _ rfl⟩,rfl,q _ (I.hok.fresh (Nat.le_refl _))⟩
 cases h1:(decide (a.length<b.length) || decide (strKind a<strKind b))
 ·cases hf:(occurrences a b 0 a.length (a.length+1)).isEmpty
  ·have es:Txt.split a b=partsBetween a (occurrences a b 0 a.length (a.length+1)) b.length:=(if_neg (ne_true_of_eq_false h1)).trans (if_neg (ne_true_of_eq_false hf));refine call_meets F.slot_str_split (typeIs_str _ _ _) F.entry_str_split (F.args_str_split_2 _ _) (meets_str_split_sep a b t u' h1 hb hf hz (by rw [<-es];exact hn)) ?_
   show wants (EP X pins σ Q) X.xe _ { s with toks:=_,heap:=s.heap.push { cls:=.type "list",data:=.seq (strsFrom s.toks (partsBetween a (occurrences a b 0 a.length (a.length+1)) b.length)).toArray } }
   rw [strsFrom_eq];exact new _ _ ((numbered_texts _ _).trans es.symm)
  ·exact call_meets F.slot_str_split (typeIs_str _ _ _) F.entry_str_split (F.args_str_split_2 _ _) (meets_str_split_not_found a b t u' h1 hb hf) (new [(a,t)] s.toks ((if_neg (ne_true_of_eq_false h1)).trans (if_pos hf)).symm)
 ·exact call_meets F.slot_str_split (typeIs_str _ _ _) F.entry_str_split (F.args_str_split_2 _ _) (meets_str_split_cannot_occur a b t u' h1) (new [(a,t)] s.toks (if_pos h1).symm)
def zhi:V->List V->Hp->VK->Prop:=fun x vs H Q=>∃(a b:Str),x=.str a/\vs=[.str b]/\Q (.bl (Txt.startswith a b)) H
theorem mt_starts:MtR X "str.startswith" zhi:=by
 intro pins s σ H x vs v us Q I rx rv h;obtain ⟨a,b,rfl,rfl,q⟩:=h;obtain ⟨t,rfl⟩:=rx;obtain ⟨u,rfl,ru⟩:=rv.one;obtain ⟨u',rfl⟩:=ru;exact SC.startswith ⟨.bl _,H,I,rfl,q⟩
def zqX:V->Option Int->Option Int->Hp->VK->Prop:=fun x lo hi H Q=>∃a,x=.str a/\a.length<=sizeLine/\Q (.str (Txt.slice a lo hi)) H
theorem sl_str:SlR X zqX:=by
 intro pins s σ H x v vl vu lo hi sl Q I rx hs pl pu h;obtain ⟨a,rfl,hz,q⟩:=h;obtain ⟨t,rfl⟩:=rx;refine ⟨"str",_,F.slot_str_getitem.lookup,typeIs_str _ _ _,?_⟩;have go:∀(l u:Option (Int×Tok)),vl=partValue l->vu=partValue u->l.map (·.1)=lo->u.map (·.1)=hi->wpAny (model X.prog X.w) X.A (getItem (.str a t) (.ref sl)) (EP X pins σ Q) X.xe s:=fun l u e1 e2 e3 e4=>by
  subst e1 e2 e3 e4;refine wpAny_getItem_str_slice (l:=l) (u:=u) (st:=none) hs rfl (post_val_or_str ⟨Nat.le_trans (Txt.slice_le a _ _) hz,fun t' k=>?_⟩)
  exact ⟨.str _,H,I.tok k,⟨_,rfl⟩,q⟩
 cases pl with
 | none=>
  cases pu with
  | none=>exact go none none rfl rfl rfl rfl
  | int j tj=>exact go none (some (j,tj)) rfl rfl rfl rfl
 | int i ti=>
  cases pu with
  | none=>exact go (some (i,ti)) none rfl rfl rfl rfl
  | int j tj=>exact go (some (i,ti)) (some (j,tj)) rfl rfl rfl rfl
end
end L2
namespace L2
open PySem PySem.Spec PyProof.Rows PySem.W
def Ist (x:Str):It:=⟨fun i _=>i<x.cps.size,fun i H v H'=>H'=H/\∃c,x.cps[i]? =some c/\v=.str ⟨#[c]⟩,fun i _=>x.cps.size<=i⟩
theorem zkd {P:Program} {w:World} {K:PySem.W.Frag} {tg:Expr} (it:Addr) (x:Str) (t:Tok):Turn P w K tg (Ist x) [it] it (fun i h=>h.IsStrIter it "str_ascii_iterator" x t i) where
 mem:=by simp
 obj:=fun i h st b hb=>by
  have e:b=it:=by simpa using hb
  subst e;obtain ⟨o,e,c,d⟩:=st;exact ⟨o,e,fun v z=>by rw [d] at z;cases z⟩
 keep:=fun i h h' st k=>by
  obtain ⟨o,e,r⟩:=st;exact ⟨o,k it (by simp) o e,r⟩
 item:=by
  intro X hP hw hK hc i pins s σ H E I hf st hg;subst hP hw hK;obtain ⟨f0,f1,f2,f3,f4,f5⟩:=hf it (by simp)
  refine (Walks.strAscii (prog:=X.prog) (w:=X.w) (I.ok.hd hc) it x t).item i s _ _ hg st fun v h' tk hv st' kk=>?_
  obtain ⟨c,u,hcu,rfl⟩:=hv;have I1:Inv X pins σ H { s with heap:=h',toks:=tk }:=I.turned (fun b o hb e=>kk b o (by simpa using hb) e) f0 f1 f3 f4 f5
  obtain ⟨o,e,c1,d⟩:=id st';exact ⟨_,rfl,zgW (s:={ s with heap:=h',toks:=tk }) e c1 d s!"c" ⟨.str ⟨#[c]⟩,H,I1,⟨u,rfl⟩,⟨rfl,c,hcu,rfl⟩,st',fun b hb=>(hf b hb).1⟩⟩
 done:=by
  intro X hP hw hK hc i pins s σ H E I hf st hg;subst hP hw hK;obtain ⟨f0,f1,f2,f3,f4,f5⟩:=hf it (by simp)
  have hg:x.cps.size<=i:=hg;exact wpAny_pyNext_ascii_end (I.ok.hd hc) st (by simp [hg]) fun h' eb=>⟨rfl,I.turned (t':=s.toks) (fun b o hb e=>eb b o hb e) f0 f1 f3 f4 f5⟩
 self:=fun _ _ _ _ _ st h=>wpAny_pyIter_striter_ascii st h
def zqY (tl:TE):TI:=fun σ H R=>tl σ H fun x H1=>∃a,x=.str a/\a.cps.all (·<128)=true/\R (Ist a) H1
section
variable {X:Cx} {tg:Expr}
theorem pi_str {l:Expr} {tl:TE} (hl:PE X l tl):PI X tg l (zqY tl):=by
 intro pins s σ H R I h;refine thn (hl pins s σ H _ I h) fun v s1 ⟨x,H1,I1,r1,q1⟩=>?_
 obtain ⟨a,e,ha,q⟩:=q1;subst e;obtain ⟨t,rfl⟩:=r1;refine wpAny_pyIter_ascii ha ?_;refine ⟨s1.heap.objs.size,[s1.heap.objs.size],_,_,H1,rfl,I1.kept (t':=s1.toks) fun b o e=>Heap.get?_push_of_some _ e,zkd _ a t,⟨_,Heap.get?_push_size _ rfl,rfl,rfl⟩,fun b hb=>?_,q⟩
 have e:b=s1.heap.objs.size:=by simpa using hb
 subst e;exact I1.fpOk (Nat.le_refl _) (I1.hok.fresh (Nat.le_refl _))
end
section
variable {σ:St} {H:Hp} {Q:VK}
def zke (te:TE) (v:V) (H1:Hp) (Q:VK):Prop:=∃a,v=.str a/\a.cps.all (·<128)=true/\∀D,H1 D=none->∃W:Nat->Nat->List V->Hp->Prop,(∃m,W 0 m [] (upd H1 D (.lst [])))/\∀i m ys H,W i m ys H->H D=some s!"6"/\
 (((Ist a).stop i H/\Q s!"y" H)\/((Ist a).go i H/\ys.length<sizeLine/\∀x H',(Ist a).yld i H x H'->te [some x] H' fun y H2=>H2 D=some s!"6"/\∃m',m'<m/\W (i+1) m' (ys++[y]) (upd H2 D (.lst (ys++[y])))))
theorem zg9.Qa {tl te:TE} (h:tl σ H fun x H1=>zke te x H1 Q):zg9 (zqY tl) te σ H Q:=h
theorem zdH {te:TE} {a:Str} (g:Nat->V) (ha:a.cps.all (·<128)=true) (hz:a.cps.size<=1000) (he:∀(i c:Nat) H' (Q':VK),a.cps[i]? =some c->Same H H'->(∀H2,Same H' H2->Q' (g c) H2)->te [some (.str ⟨#[c]⟩)] H' Q')
 (h:∀D H',Same H H'->H D=none->H' D=some (.lst (a.cps.toList.map g))->Q s!"y" H'):zke te (.str a) H Q:=by
 refine ⟨a,rfl,ha,fun D hD=>⟨fun i m zs H'=>m=a.cps.size-i/\i<=a.cps.size/\zs=(a.cps.toList.take i).map g/\Same H H'/\H' D=some (.lst zs),⟨a.cps.size,by simp,Nat.zero_le _,by simp,Same.new hD _,zi⟩,?_⟩⟩
 rintro i m zs H' ⟨rfl,hi,rfl,hs,eD⟩;refine ⟨eD,?_⟩
 by_cases hlt:i<a.cps.size
 ·refine .inr ⟨hlt,?_,fun x H2 y=>?_⟩
  ·rw [List.length_map,List.length_take];exact zz s!"e"
  ·obtain ⟨e,c,hc,rfl⟩:=y;subst e;refine he i c _ _ hc hs fun H2 s2=>⟨s2.obj eD,a.cps.size-(i+1),by omega,rfl,hlt,?_,(hs.trans s2).upd hD,zi⟩
   have hc':a.cps.toList[i]? =some c:=by rw [Array.getElem?_toList];exact hc
   rw [List.take_add_one,hc',List.map_append];rfl
 ·have e:i=a.cps.size:=by omega
  subst e;refine .inl ⟨Nat.le_refl _,h D H' hs hD ?_⟩;rw [show a.cps.size=a.cps.toList.length from rfl,List.take_length] at eD
  exact eD
theorem zcv {a b:Str} (hb:(b.length==0)=false) (hz:a.length<=sizeLine) (ws:List Str) (hw:Txt.split a b=ws) (hn:ws.length<=sizeLine) (h:∀D H',Same H H'->H D=none->H' D=some (.lst (ws.map V.str))->Q s!"y" H'):zkc (.str a) [.str b] H Q:=by
 subst hw;exact ⟨a,b,rfl,rfl,hb,hz,hn,fun D hD=>h D _ (Same.new hD _) hD zi⟩
theorem zhi.Qa {a b:Str} (h:Q (.bl (Txt.startswith a b)) H):zhi (.str a) [.str b] H Q:=⟨a,b,rfl,rfl,h⟩
theorem zqX.Qs {a:Str} {lo hi:Option Int} (hz:a.length<=sizeLine) (h:Q (.str (Txt.slice a lo hi)) H):zqX (.str a) lo hi H Q:=⟨a,rfl,hz,h⟩
end
def zn6:List V->Hp->VK->Prop:=fun xs H Q=>∃(x:Str) (n:Int),xs=[.str x]/\PySem.intText? x=some n/\x.length<=640/\Q (.int n) H
section
variable {X:Cx} {pos:Pos}
theorem zdI:yi X (.type "int") zn6:=by
 intro pins s σ H xs us Q I r h;obtain ⟨x,n,rfl,hn,hl,q⟩:=h;obtain ⟨u,rfl,ru⟩:=zaA r;obtain ⟨t,rfl⟩:=ru;exact KIN.call_text hn hl ⟨.int n,H,I.tok _,⟨_,rfl⟩,q⟩
def zn7 (te:TE):TE:=fun σ H Q=>te σ H fun x H1=>∃y,x=.str y/\y.length<=sizeLine/\Q (.str y) H1
theorem pe_fmtS {e:Expr} {te:TE} (h:PE X e te):PE X (.FormattedValue e (-1) none pos) (zn7 te):=fun pins s σ H Q I q=>
 FormattedValue_plain (thn (h pins s σ H _ I q) fun u s1 ⟨x,H1,I1,r1,y,ex,hz,q1⟩=>by
  subst ex;obtain ⟨tk,rfl⟩:=r1;exact formatField_str (fun t' k=>⟨.str _,_,I1.tok _,⟨_,rfl⟩,q1⟩) hz)
end
section
variable {σ:St} {H:Hp} {Q:VK}
theorem zhj {x:Str} {n:Int} (h1:PySem.intText? x=some n) (h2:x.length<=640) (h:Q (.int n) H):zn6 [.str x] H Q:=⟨x,n,rfl,h1,h2,h⟩
def zn8 (x:V) (H:Hp) (Q:VK):Prop:=∃y,x=.str y/\y.length<=sizeLine/\Q (.str y) H
theorem zn7.Qa {te:TE} (h:te σ H fun x H1=>zn8 x H1 Q):zn7 te σ H Q:=h
theorem zn8.Qs {y:Str} (hz:y.length<=sizeLine) (h:Q (.str y) H):zn8 (.str y) H Q:=⟨y,rfl,hz,h⟩
end
def zT {α:Type}:List α->List α
 | []=>[]
 | [x]=>[x]
 | x::_::r=>x::zT r
theorem zdJ {α:Type} (l:List α):∀(m k:Nat),m=(l.length-k+1) / 2->s!"5{m}".filterMap (fun i=>l[k+2*i]?)=zT (l.drop k)
 | 0,k,h=>by
  rw [List.drop_eq_nil_of_le s!"e"]
  rfl
 | m+1,k,h=>by
  have hk:k<l.length:=by omega
  rw [List.range_succ_eq_map,List.filterMap_cons];have e0:l[k+2*0]? =some l[k]:=by rw [show k+2*0=k by omega];exact List.getElem?_eq_getElem hk
  rw [e0,List.filterMap_map];have ih:=zdJ l m (k+2) s!"e"
  have ef:(fun i=>l[k+2+2*i]?)=((fun i=>l[k+2*i]?)∘Nat.succ):=by
   funext i;show l[k+2+2*i]? =l[k+2*(i+1)]?;congr 1;omega
  rw [<-ef];dsimp only;rw [ih];rw [List.drop_eq_getElem_cons hk];cases hd:l.drop (k+1) with
  | nil=>
   rw [List.drop_eq_nil_of_le (by have:=congrArg List.length hd;rw [List.length_drop,List.length_nil] at this;omega)]
   rfl
  | cons y r=>
   have:l.drop (k+2)=r:=by
    rw [show k+2=(k+1)+1 by omega,<-List.drop_drop,hd]
    rfl
   rw [this];rfl
theorem zcw {α β:Type} (f:α->β):∀l:List α,zT (l.map f)=(zT l).map f
 | []=>rfl
 | [_]=>rfl
 | x::_::r=>by
  show f x::zT (r.map f)=f x::(zT r).map f;rw [zcw f r]
theorem zcx {α:Type}:∀l:List α,(zT l).length<=l.length
 | []=>Nat.le_refl _
 | [_]=>Nat.le_refl _
 | x::y::r=>by
  have:=zcx r;show (zT r).length+1<=r.length+1+1;omega
theorem zki (its:List Value) (k:Nat) (hk:k<=1):slicePick its.toArray (some (k:Int)) none (some 2)=(zT (its.drop k)).toArray:=by
 have e1:(sliceBounds (some (k:Int)) none (some 2) its.toArray.size).1=((min k its.length:Nat):Int):=by
  have z:¬((k:Int)<0):=by omega
  show (if (2:Int) > 0 then max 0 (min (if (k:Int)<0 then (k:Int)+(its.toArray.size:Int) else (k:Int)) (its.toArray.size:Int)) else max (-1) (min (if (k:Int)<0 then (k:Int)+(its.toArray.size:Int) else (k:Int)) ((its.toArray.size:Int)-1)))=_
  rw [if_pos s!"c",if_neg z,List.size_toArray]
  omega
 have e2:(sliceBounds (some (k:Int)) none (some 2) its.toArray.size).2.1=(its.length:Int):=by simp [sliceBounds]
 have e3:(sliceBounds (some (k:Int)) none (some 2) its.toArray.size).2.2=2:=rfl;unfold slicePick;rw [e1,e2,e3];congr 1;unfold sliceRange;have c:(if (2:Int) > 0 then (if ((min k its.length:Nat):Int)<its.length then ((its.length:Int)-(min k its.length:Nat)+2-1) / 2 else 0) else (if ((min k its.length:Nat):Int) > its.length then (((min k its.length:Nat):Int)-its.length-2-1) / (-2) else 0)).toNat=(its.length-k+1) / 2:=by
  rw [if_pos s!"c"]
  split <;> omega
 simp only [c];rw [List.filterMap_map];rw [<-zdJ its _ k rfl];have fc:∀(l:List Nat) (f g:Nat->Option Value),(∀i∈l,f i=g i)->l.filterMap f=l.filterMap g:=fun l f g h=>by
  induction l with
  | nil=>rfl
  | cons x r ih=>rw [List.filterMap_cons,List.filterMap_cons,h x (List.mem_cons_self),ih fun i hi=>h i s!"3{hi}"]
 refine fc _ _ _ fun i hi=>?_
 have:=List.mem_range.mp hi;show its.toArray[(((min k its.length:Nat):Int)+2*(i:Int)).toNat]? =its[k+2*i]?;rw [List.getElem?_toArray,show (((min k its.length:Nat):Int)+2*(i:Int)).toNat=k+2*i by omega]
section
variable {X:Cx} {e:Expr} {te:TE} {lo st:Expr} {tl ts:TO} {p2 pos:Pos}
def zpj (K:PySem.W.Frag) (x:V) (k j:Option Int) (H:Hp) (Q:VK):Prop:=j=some 2/\∃(n:Nat) (a:Addr) (xs:List V),k=some (n:Int)/\n<=1/\x=.ref a/\SqL K H a xs/\∀p,H p=none->Q (.ref p) (upd H p (.lst (zT (xs.drop n))))
def zkj (K:PySem.W.Frag) (te:TE) (tl ts:TO):TE:=fun σ H Q=>te σ H fun x H1=>tl σ H1 fun k H2=>ts σ H2 fun j H3=>zpj K x k j H3 Q
theorem zdK:∀{xs:List V} {us:List Value},zo xs us->zo (zT xs) (zT us)
 | [],_,.nil=>.nil
 | [_],_,.cons r .nil=>.cons r .nil
 | _::_::_,_,.cons r (.cons _ r2)=>.cons r (zdK r2)
theorem zbJ (he:PE X e te) (hlo:PO X (some lo) tl) (hst:PO X (some st) ts):PE X (.Subscript e (.Slice (some lo) none (some st) p2) pos) (zkj X.K te tl ts):=by
 intro pins s σ H Q I h;refine Subscript_ (thn (he pins s σ H _ I h) fun v s1 ⟨x,H1,I1,r1,q1⟩=>?_)
 refine wpAny_Slice ?_;refine thn (hlo pins s1 σ H1 _ I1 q1) fun vl s2 ⟨k,H2,I2,pl,q2⟩=>?_
 rw [evalPart_none];refine wpAny_pure ?_;refine thn (hst pins s2 σ H2 _ I2 q2) fun vs s3 ⟨j,H3,I3,ps,q3⟩=>?_
 obtain ⟨rfl,n,a,xs,rfl,hn,rfl,hx,q⟩:=q3;have I4:Inv X pins σ H3 { s3 with heap:=s3.heap.push { cls:=.type "slice",data:=.fields #[vl,.none,vs] } }:=I3.kept (t':=s3.toks) fun b ob q=>Heap.get?_push_of_some _ q
 cases r1;obtain ⟨its,r,ht,hz⟩:=I4.list hx;have hlen:=r.length;show wpAny (model X.prog X.w) X.A (subscriptTail e (.Slice (some lo) none (some st) p2) s!"g" (.ref s3.heap.objs.size)) (EP X pins σ Q) X.xe { s3 with heap:=s3.heap.push { cls:=.type "slice",data:=.fields #[vl,.none,vs] } }
 refine tail_any (ops:=[.ref a,.ref s3.heap.objs.size]) (T:="list") ht.isList.typeIs slot_list_getitem.lookup ?_ (by with_unfolding_all rfl)
 refine wpAny_getItem_list_slice ht.isList (Heap.IsSliceOf.new ..) pl .none ps (by simp) ?_ (by rw [List.size_toArray] <;> omega)
 rw [zki its n hn];refine ⟨.ref _,_,I4.laid (t':=s3.toks) (o:=.lst (zT (xs.drop n))) (fun b ob q=>Heap.get?_push_of_some _ q) (Nat.le_refl _) ?_,rfl,q _ (I4.hok.fresh (Nat.le_refl _))⟩
 exact ⟨Nat.le_trans (zcx _) (by rw [List.length_drop];omega),_,0,zdK (r.drop n),Heap.get?_push_size _ rfl⟩
end
section
variable {σ:St} {H:Hp} {Q:VK} {K:PySem.W.Frag}
theorem zkj.Qa {te:TE} {tl ts:TO} (h:te σ H fun x H1=>tl σ H1 fun k H2=>ts σ H2 fun j H3=>zpj K x k j H3 Q):zkj K te tl ts σ H Q:=h
theorem zhk {a:Addr} {xs:List V} {k:Int} (n:Nat) (hk:k=(n:Int)) (hn:n<=1) (h1:SqL K H a xs) (h:∀p H',Same H H'->H p=none->H' p=some (.lst (zT (xs.drop n)))->Q (.ref p) H'):zpj K s!"g" (some k) (some 2) H Q:=by
 subst hk;exact ⟨rfl,n,a,xs,rfl,hn,rfl,h1,fun p hp=>h p _ s!"aH" hp zi⟩
end
def zn9:List V->Hp->VK->Prop:=fun xs H Q=>∃i:Int,xs=[.int i]/\i.natAbs.log2<1920/\Q s!"aO" H
def inS (i j:Str):Bool:=!(Builtin.Str.occurrences j i 0 j.length 1).isEmpty
def zqZ:V->V->Hp->VK->Prop:=fun x y H Q=>∃i j,x=.str i/\y=.str j/\Q (.bl (inS i j)) H
section
variable {X:Cx}
theorem yh:yi X (.type "str") zn9:=zeg
theorem zkl:OpR X s!"O{.In}" zqZ:=zhQ
end
section
variable {H:Hp} {Q:VK}
theorem zn9.Qt {i:Int} (h1:i.natAbs.log2<1920) (h:Q s!"aO" H):zn9 [.int i] H Q:=⟨i,rfl,h1,h⟩
theorem zqZ.Qa {i j:Str} (h:Q (.bl (inS i j)) H):zqZ (.str i) (.str j) H Q:=⟨i,j,rfl,rfl,h⟩
theorem znW.Qs {z:Str} (hz:z.length<=sizeLine) (h:Q (.int z.length) H):znW [.str z] H Q:=⟨z,rfl,hz,h⟩
theorem _root_.And.Qa {K:PySem.W.Frag} {x:Str} {B:Prop} (h:B):tyV K "str" (.str x) H/\B:=⟨rfl,h⟩
theorem zmQ {c:Nat} (h:c<128):inS ⟨#[c]⟩ "0123456789"=(decide (48<=c) && decide (c<=57)):=by
 have key:s!"5{128}".all (fun c=>inS ⟨#[c]⟩ "0123456789"==(decide (48<=c) && decide (c<=57)))=true:=by decide+kernel
 have:=List.all_eq_true.mp key c (List.mem_range.mpr h);simpa using this
end
theorem yS {t:Str} {c:Nat}:Txt.startswith t ⟨#[c]⟩=true↔∃cs,t.cps.toList=c::cs:=by
 obtain ⟨⟨l⟩⟩:=t;unfold Txt.startswith Builtin.Str.subAt;cases l with
 | nil=>
  constructor
  ·intro h;have h1:=(Bool.and_eq_true_iff.mp h).1;have h1:0+1<=0:=of_decide_eq_true h1;omega
  ·rintro ⟨cs,h⟩;cases h
 | cons d r=>
  have e:(⟨d::r⟩:Array Nat).extract 0 (0+(⟨#[c]⟩:Str).length)=#[d]:=by
   show (⟨d::r⟩:Array Nat).extract 0 1=#[d];simp
  constructor
  ·intro h;have h2:=(Bool.and_eq_true_iff.mp h).2;dsimp only at h2;rw [e] at h2;have h3:(#[d]:Array Nat)=#[c]:=beq_iff_eq.mp h2;have:d=c:=by simpa using h3
   exact ⟨r,by rw [this]⟩
  ·rintro ⟨cs,h⟩;have:d=c:=s!"aR".1;refine Bool.and_eq_true_iff.mpr ⟨decide_eq_true (show 0+1<=r.length+1 by omega),?_⟩
   dsimp only;rw [e,this];exact beq_self_eq_true _
theorem zbj {t:Str} {c:Nat} {cs:List Nat} (h:t.cps.toList=c::cs):(Txt.slice t (some 1) none).cps.toList=cs:=by
 have e:Txt.slice t (some 1) none=StrLaws.sliceText t (some 1) none:=rfl;rw [e,StrLaws.sliceText_from ⟨by decide,by rw [h];simp only [List.length_cons];omega⟩]
 show (t.cps.toList.drop 1).take _=cs;rw [h];simp only [List.length_cons];rw [show ((((cs.length+1:Nat):Int)-1).toNat)=cs.length by omega]
 exact List.take_length
def jl (c:Nat):List (List Nat)->List Nat
 | []=>[]
 | [w]=>w
 | w::v::r=>w++c::jl c (v::r)
theorem zpm {c:Nat}:∀{as bs:List (List Nat)},as≠[]->bs≠[]->(∀w∈as,c∉w)->(∀w∈bs,c∉w)->jl c as=jl c bs->as=bs:=by
 have key:∀(w v x y:List Nat),c∉w->c∉v->w++c::x=v++c::y->w=v/\x=y:=by
  intro w
  induction w with
  | nil=>
   intro v x y _ hv h;cases v with
   | nil=>exact ⟨rfl,s!"aR".2⟩
   | cons d v=>exact absurd (by rw [s!"aR".1];exact List.mem_cons_self) hv
  | cons a w ih=>
   intro v x y hw hv h;cases v with
   | nil=>exact absurd (by rw [<-s!"aR".1];exact List.mem_cons_self) hw
   | cons d v=>
    obtain ⟨e1,e2⟩:=List.cons.inj h;obtain ⟨e3,e4⟩:=ih v x y (fun z=>hw s!"3{z}") (fun z=>hv s!"3{z}") e2
    exact ⟨by rw [e1,e3],e4⟩
 intro as
 induction as with
 | nil=>intro bs h;exact absurd rfl h
 | cons a as ih=>
  intro bs _ hb fa fb h;cases bs with
  | nil=>exact absurd rfl hb
  | cons b bs=>
   cases as with
   | nil=>
    cases bs with
    | nil=>rw [show a=b from h]
    | cons b' bs=>
     have h:a=b++c::jl c (b'::bs):=h;exact absurd (by rw [h];exact List.mem_append_right _ List.mem_cons_self) (fa a List.mem_cons_self)
   | cons a' as=>
    cases bs with
    | nil=>
     have h:a++c::jl c (a'::as)=b:=h;exact absurd (by rw [<-h];exact List.mem_append_right _ List.mem_cons_self) (fb b List.mem_cons_self)
    | cons b' bs=>
     obtain ⟨e1,e2⟩:=key a b _ _ (fa a List.mem_cons_self) (fb b List.mem_cons_self) (show a++c::jl c (a'::as)=b++c::jl c (b'::bs) from h)
     rw [e1,ih (by simp) (by simp) (fun w hw=>fa w s!"3{hw}") (fun w hw=>fb w s!"3{hw}") e2]
theorem zaF (c:Nat):∀ws:List Str,(Str.join ⟨#[c]⟩ ws).cps.toList=jl c (ws.map fun w=>w.cps.toList)
 | []=>rfl
 | [_]=>rfl
 | w::v::r=>by
  show ((w++⟨#[c]⟩++Str.join ⟨#[c]⟩ (v::r)):Str).cps.toList=w.cps.toList++c::jl c ((v::r).map fun w=>w.cps.toList)
  rw [<-zaF c (v::r),Str.cps_append,Str.cps_append,Array.toList_append,Array.toList_append];simp
theorem xp (x:Str) (c:Nat):Txt.split x ⟨#[c]⟩≠[]:=fun h=>by
 unfold Txt.split at h;split at h
 ·cases h
 ·rename_i h1;split at h
  ·cases h
  ·rename_i h2;have:=StrLaws.join_split x ⟨#[c]⟩;unfold Txt.split at this;rw [if_neg h1,if_neg h2,h] at this;rw [<-this] at h1;exact h1 (Bool.or_eq_true_iff.mpr (.inl (decide_eq_true (show 0<1 by decide))))
theorem zcy {c:Nat} {ws:List Str} (ne:ws≠[]) (hf:∀w∈ws,c∉w.cps.toList):Txt.split (Txt.join ⟨#[c]⟩ ws) ⟨#[c]⟩=ws:=by
 have e1:Txt.join ⟨#[c]⟩ ws=Str.join ⟨#[c]⟩ ws:=StrLaws.glued_eq_join _ _;have e2:=StrLaws.join_split (Txt.join ⟨#[c]⟩ ws) ⟨#[c]⟩;have e3:=congrArg (fun x:Str=>x.cps.toList) (e2.trans e1)
 have e3:(Str.join ⟨#[c]⟩ (Txt.split (Txt.join ⟨#[c]⟩ ws) ⟨#[c]⟩)).cps.toList=(Str.join ⟨#[c]⟩ ws).cps.toList:=e3;rw [zaF,zaF] at e3;have e4:=zpm (c:=c) (fun z=>xp _ c (List.map_eq_nil_iff.mp z)) (fun z=>ne (List.map_eq_nil_iff.mp z)) (fun w hw=>by
  obtain ⟨x,hx,rfl⟩:=List.mem_map.mp hw;exact StrLaws.split_free _ c x hx) (fun w hw=>by
  obtain ⟨x,hx,rfl⟩:=List.mem_map.mp hw;exact hf x hx) e3
 exact (List.map_inj_right (f:=fun w:Str=>w.cps.toList) (fun a b h=>Str.ext' (Array.toList_inj.mp h))).mp e4
end L2
namespace L2
open PySem PySem.Spec PyProof.Rows PySem.W PySem.NumText
def zF (t:Str):Str:=if Txt.startswith t "-"=true then Txt.slice t (some 1) none else t
def zah (t:Str):Bool:=t.cps.toList.all fun c=>decide (48<=c) && decide (c<=57)
def zj (t:Str):Bool:=!decide (zF t="") && decide ((zF t).length<=60) && zah (zF t) && (decide (t="0") || !Txt.startswith (zF t) "0")
def Asc (t:Str):Prop:=t.cps.all (·<128)=true
theorem Asc.at {t:Str} (h:Asc t) {i c:Nat} (hc:t.cps[i]? =some c):c<128:=by
 have:=Array.all_eq_true_iff_forall_mem.mp h c (Array.mem_of_getElem? hc);simpa using this
theorem Asc.slice {t:Str} (h:Asc t) (l u:Option Int):Asc (Txt.slice t l u):=by
 unfold Txt.slice;split
 ·exact h
 ·refine Array.all_eq_true_iff_forall_mem.mpr fun c hc=>?_
  obtain ⟨i,_,hi⟩:=List.mem_filterMap.mp (List.mem_toArray.mp hc);simpa using h.at hi
theorem zkn {t:Str} (h:Asc t):Asc (zF t):=by
 unfold zF;split
 ·exact h.slice _ _
 ·exact h
theorem zko (t:Str):(zF t).length<=t.length:=by
 unfold zF;split
 ·exact Txt.slice_le _ _ _
 ·exact Nat.le_refl _
def dg (m:Nat):List Nat:=(Nat.toDigits 10 m).map Char.toNat
def zio (n:Int):List Nat:=if n<0 then 45::dg n.natAbs else dg n.natAbs
theorem zb9 (n:Int):s!"+".cps.toList=zio n:=by
 unfold zio;split
 ·rename_i h;rw [signs_ofString,Int.toString_eq_repr,Int.repr_eq_if,if_neg s!"e"]
  rw [show (-n).toNat=n.natAbs by omega,String.toList_append,List.map_append,Nat.toList_repr]
  rfl
 ·rename_i h;obtain ⟨m,rfl⟩:=Int.eq_ofNat_of_zero_le (show 0<=n by omega)
  exact KIN.signs_num m
theorem yP (m:Nat):AllDigits (dg m):=by
 intro c hc;obtain ⟨ch,hch,e⟩:=List.mem_map.mp hc;have r:=digit_range (Nat.isDigit_of_mem_toDigits s!"c" s!"c" hch)
 rw [<-e];exact r
theorem zhl (m:Nat):dg m≠[]:=by
 intro e;have h:=toDigits_len_ge 10 m;rw [List.map_eq_nil_iff.mp e] at h;exact absurd h s!"c"
theorem zkp (m:Nat):digitsVal (dg m)=m:=KIN.val_back m
theorem zkq {m k:Nat} (hk:0<k) (h:m<10^k):(dg m).length<=k:=by
 unfold dg;rw [List.length_map,<-Nat.toList_repr,String.length_toList];exact (Nat.length_repr_le_iff hk).mpr h
theorem zmR {m:Nat} (hm:m≠0):∀{c:Nat} {cs:List Nat},dg m=c::cs->c≠48:=by
 induction m using Nat.strongRecOn with
 | _ m ih=>
  intro c cs h
  by_cases h10:m<10
  ·unfold dg at h;rw [Nat.toDigits_of_lt_base h10] at h;have e:(Nat.digitChar m).toNat=c:=s!"aR".1;rw [<-e];have key:∀d:Nat,d<10->d≠0->(Nat.digitChar d).toNat≠48:=by decide
   exact key m h10 hm
  ·have hl:m%10<10:=Nat.mod_lt m s!"c"
   have t:Nat.toDigits 10 (m / 10)++Nat.toDigits 10 (m%10)=Nat.toDigits 10 (10*(m / 10)+m%10):=Nat.toDigits_append_toDigits s!"c" s!"e" hl
   rw [Nat.div_add_mod] at t;have e:dg m=dg (m / 10)++(Nat.toDigits 10 (m%10)).map Char.toNat:=by
    unfold dg;rw [<-t,List.map_append]
   cases hd:dg (m / 10) with
   | nil=>exact absurd hd (zhl _)
   | cons a as=>
    rw [e,hd] at h;have:a=c:=s!"aR".1;rw [<-this];exact ih (m / 10) s!"e" s!"e" hd
theorem zdL {n:Int} {c:Nat} (h:c∈s!"+".cps.toList):c=45\/(48<=c/\c<=57):=by
 rw [zb9] at h;unfold zio at h;split at h
 ·rcases List.mem_cons.mp h with z | z
  ·exact .inl z
  ·exact .inr (yP _ c z)
 ·exact .inr (yP _ c h)
theorem zmS (n:Int):Asc s!"+":=by
 refine Array.all_eq_true_iff_forall_mem.mpr fun c hc=>?_
 have:=zdL (n:=n) (Array.mem_toList_iff.mpr hc);simp only [decide_eq_true_eq];omega
theorem yO (t:Str):t.length=t.cps.toList.length:=rfl
theorem zai {n:Int} {k:Nat} (hk:0<k) (h:n.natAbs<10^k):s!"+".length<=k+1:=by
 rw [yO,zb9];have:=zkq hk h;unfold zio;split
 ·simp only [List.length_cons];omega
 ·omega
def zB (t:Str):Int:=(PySem.intText? t).getD 0
theorem x5:s!"B{"-"}"=⟨#[45]⟩:=by decide+kernel
theorem zmT:s!"B{"0"}"=⟨#[48]⟩:=by decide+kernel
theorem zkr (n:Int):(zF s!"+").cps.toList=dg n.natAbs:=by
 have e:=zb9 n;unfold zio at e;unfold zF;rw [x5]
 by_cases h:n<0
 ·rw [if_pos h] at e;rw [if_pos (yS.mpr ⟨_,e⟩)];exact zbj e
 ·rw [if_neg h] at e;rw [if_neg (fun z=>?_)]
  ·exact e
  ·obtain ⟨cs,hc⟩:=yS.mp z;rw [e] at hc;have:=yP n.natAbs 45 (by rw [hc];exact List.mem_cons_self)
   omega
theorem ziq {n:Int} (h:n.natAbs<10^60):zj s!"+"=true:=by
 have e:=zkr n;have ne:=zhl n.natAbs;unfold zj;have h1:¬zF s!"+"=Str.ofString "":=fun z=>by
  rw [z] at e;exact ne e.symm
 have h2:(zF s!"+").length<=60:=by
  rw [yO,e];exact zkq s!"c" h
 have h3:zah (zF s!"+")=true:=by
  unfold zah;rw [e];exact List.all_eq_true.mpr fun c hc=>by
   have:=yP _ c hc;simp only [Bool.and_eq_true,decide_eq_true_eq];exact this
 have h4:(decide (s!"+"=Str.ofString "0") || !Txt.startswith (zF s!"+") s!"B{"0"}")=true:=by
  by_cases z:n=0
  ·subst z;rw [decide_eq_true s!"b"]
   rfl
  ·have:¬Txt.startswith (zF s!"+") s!"B{"0"}"=true:=fun y=>by
    rw [zmT] at y;obtain ⟨cs,hc⟩:=yS.mp y;rw [e] at hc;exact zmR s!"e" hc rfl
   rw [Bool.eq_false_iff.mpr this,Bool.not_false,Bool.or_true]
 rw [decide_eq_false h1,decide_eq_true h2,h3,h4];rfl
theorem zks {n:Int} (h:n.natAbs<10^600):PySem.intText? s!"+"=some n:=by
 have e:=zb9 n;have hl:=zai (k:=600) s!"c" h
 unfold zio at e
 by_cases z:n<0
 ·rw [if_pos z] at e;have:=intText_neg e (yP _) (zhl _) s!".{hl}"
  rw [zkp] at this;rw [this];congr 1;omega
 ·rw [if_neg z] at e;have:=intText_digits (by rw [e];exact yP _) (by rw [e];exact zhl _) s!".{hl}"
  rw [e,zkp] at this;rw [this];congr 1;omega
theorem zbK {t:Str} (h:zj t=true):PySem.intText? t=some (zB t)/\t.length<=61:=by
 unfold zj at h;simp only [Bool.and_eq_true,Bool.not_eq_true',decide_eq_false_iff_not,decide_eq_true_eq] at h;obtain ⟨⟨⟨h1,h2⟩,h3⟩,_⟩:=h;have ad:AllDigits (zF t).cps.toList:=fun c hc=>by
  have:=List.all_eq_true.mp h3 c hc;simpa using this
 have ne:(zF t).cps.toList≠[]:=fun z=>h1 (Str.ext' (Array.toList_inj.mp (by rw [z];rfl)))
 by_cases z:Txt.startswith t s!"B{"-"}"=true
 ·rw [x5] at z;obtain ⟨cs,hc⟩:=yS.mp z;have e:zF t=Txt.slice t (some 1) none:=by
   unfold zF;rw [x5,if_pos z]
  have ec:=zbj hc;rw [<-e] at ec;rw [ec] at ad ne;have lt:t.length<=61:=by
   rw [yO] at h2 ⊢;rw [ec] at h2;rw [hc];simp only [List.length_cons];omega
  have:=intText_neg hc ad ne s!".{lt}"
  unfold zB;rw [this];exact ⟨rfl,lt⟩
 ·have e:zF t=t:=by
   unfold zF;rw [if_neg z]
  rw [e] at ad ne h2;have:=intText_digits ad ne s!".{h2}"
  unfold zB;rw [this];exact ⟨rfl,by omega⟩
theorem zir {n:Int} (h:n.natAbs<10^600):zB s!"+"=n:=by
 unfold zB;rw [zks h];rfl
theorem zq0 {t:Str} {k:Nat} (h:t.length<=k) (hk:k<=16000000):t.length<=sizeLine:=Nat.le_trans h s!".{hk}"
theorem zmU {a b:Str} {i j:Nat} (ha:a.length<=i) (hb:b.length<=j):(a++b).length<=i+j:=by
 rw [Str.length_append];omega
theorem zj5.Qr {i j:Str} {H:Hp} {Q:VK} (hz:(i++j).length<=sizeLine) (h:Q (.str (i++j)) H):zj5 (.str i) (.str j) H Q:=zhg (by rw [<-Str.length_append];exact hz) h
end L2
namespace L2
open PySem PySem.Spec PyProof.Rows
section
variable {σ:St} {H:Hp} {Q:VK} {K:PySem.W.Frag}
end
end L2
namespace L2
open PySem PyProof.Rows
def isI (p:Keyed):Prop:=∃n t,p.1=Value.int n t
section
variable {prog:Program} {w:World} {A:Around} {E:Value->Shared->Prop} {s:Shared}
end
section
variable {R:Keyed->Keyed->Prop} {T o ra rb xs:List Keyed}
end
section
variable {prog:Program} {w:World} {A:Around} {E:Value->Shared->Prop} {s:Shared}
end
section
variable {prog:Program} {w:World} {A:Around} {E:Value->Shared->Prop} {s:Shared}
section
variable {a b out:Array Keyed} {T xs ys:List Keyed} {ia ib:Nat} {p:Keyed}
end
end
section
variable {prog:Program} {w:World} {A:Around} {E:Value->Shared->Prop} {s:Shared}
section
variable {a b out:Array Keyed} {T xs ys:List Keyed} {na nb:Nat} {p:Keyed}
end
end
section
variable {a₀ b0:Array Keyed} {lo:Nat} {pd:Array (Nat×Nat×Nat)} {st:SortSt}
end
section
variable {prog:Program} {w:World} {A:Around} {E:Value->Shared->Prop} {s:Shared} {a₀ b0:Array Keyed} {lo:Nat} {pd:Array (Nat×Nat×Nat)}
end
section
variable {prog:Program} {w:World} {A:Around} {E:Value->Shared->Prop} {s:Shared} {a₀ b0:Array Keyed} {lo:Nat} {pd:Array (Nat×Nat×Nat)}
end
section
variable {prog:Program} {w:World} {A:Around} {E:Value->Shared->Prop} {s:Shared} {a₀:Array Keyed}
end
section
variable {prog:Program} {w:World} {A:Around} {E:Value->Shared->Prop} {s:Shared}
end
end L2
namespace L2
open PySem PySem.Spec PyProof.Rows
section
variable {K:PySem.W.Frag} {H:Hp} {Q:VK}
end
section
variable {X:Cx}
end
section
variable {σ:St} {H:Hp} {Q:VK} {K:PySem.W.Frag}
end
end L2
namespace L2
open PySem PySem.Spec PyProof.Rows PySem.W Builtin Builtin.Str
section
variable {X:Cx}
end
section
variable {σ:St} {H:Hp} {Q:VK} {K:PySem.W.Frag} {D:Ends}
theorem zkt {z:Str} {i:Int} (c:Nat) (hz:z.length<=sizeLine) (hc:atI z.cps.toList i=some c) (h:Q (.str ⟨#[c]⟩) H):zqc (.str z) s!"M" H Q:=⟨z,i,c,rfl,rfl,hz,hc,h⟩
end
theorem zku {c:Nat}:∀{ws:List (List Nat)} {w:List Nat} {x:Nat},w∈ws->x∈w->x∈jl c ws
 | [w],_,_,h,hx=>by
  rw [List.mem_singleton] at h;subst h;exact hx
 | w::v::r,u,x,h,hx=>by
  show x∈w++c::jl c (v::r);rcases List.mem_cons.mp h with z | z
  ·subst z;exact List.mem_append_left _ hx
  ·exact List.mem_append_right _ s!"3{zku z hx}"
theorem zev {c:Nat}:∀{ws:List (List Nat)},ws≠[]->(ws.map List.length).sum+ws.length=(jl c ws).length+1
 | [],h=>absurd rfl h
 | [w],_=>by simp [jl]
 | w::v::r,_=>by
  have:=zev (c:=c) (ws:=v::r) (by simp)
  show w.length+((v::r).map List.length).sum+((v::r).length+1)=(w++c::jl c (v::r)).length+1;simp only [List.length_append,List.length_cons] at this ⊢;omega
theorem zhm:∀{ws:List (List Nat)} {w:List Nat},w∈ws->w.length<=(ws.map List.length).sum
 | v::r,w,h=>by
  show _<=v.length+(r.map List.length).sum;rcases List.mem_cons.mp h with z | z
  ·subst z;omega
  ·have:=zhm z;omega
theorem wK (t:Str) (c:Nat):jl c ((Txt.split t ⟨#[c]⟩).map fun w=>w.cps.toList)=t.cps.toList:=by
 rw [<-zaF,StrLaws.join_split]
theorem zdM (t:Str) (c:Nat):(Txt.split t ⟨#[c]⟩).length<=t.length+1:=by
 have h:=zev (c:=c) (ws:=(Txt.split t ⟨#[c]⟩).map fun w=>w.cps.toList) (fun z=>xp t c (List.map_eq_nil_iff.mp z))
 rw [wK,List.length_map] at h;rw [yO];omega
theorem x8 {t w:Str} {c:Nat} (h:w∈Txt.split t ⟨#[c]⟩):w.length<=t.length/\∀x∈w.cps.toList,x∈t.cps.toList:=by
 have hm:w.cps.toList∈(Txt.split t ⟨#[c]⟩).map fun w=>w.cps.toList:=List.mem_map.mpr ⟨w,h,rfl⟩
 have hl:=zev (c:=c) (ws:=(Txt.split t ⟨#[c]⟩).map fun w=>w.cps.toList) (fun z=>xp t c (List.map_eq_nil_iff.mp z))
 have hs:=zhm hm;have ne:1<=(Txt.split t ⟨#[c]⟩).length:=by
  cases hz:Txt.split t ⟨#[c]⟩ with
  | nil=>exact absurd hz (xp t c)
  | cons _ _=>simp
 rw [wK,List.length_map] at hl;refine ⟨by rw [yO,yO];omega,fun x hx=>?_⟩
 rw [<-wK t c];exact zku hm hx
theorem Asc.iff {t:Str}:Asc t↔∀x∈t.cps.toList,x<128:=by
 unfold Asc;rw [Array.all_eq_true_iff_forall_mem];constructor
 ·intro h x hx;simpa using h x (Array.mem_toList_iff.mp hx)
 ·intro h x hx;simpa using h x (Array.mem_toList_iff.mpr hx)
theorem Asc.split {t w:Str} {c:Nat} (a:Asc t) (h:w∈Txt.split t ⟨#[c]⟩):Asc w:=Asc.iff.mpr fun x hx=>Asc.iff.mp a x ((x8 h).2 x hx)
theorem zis {t:Str} (h:zj t=true):zB t=if Txt.startswith t "-"=true then -((PySem.NumText.digitsVal (zF t).cps.toList:Nat):Int) else ((PySem.NumText.digitsVal (zF t).cps.toList:Nat):Int):=by
 unfold zj at h;simp only [Bool.and_eq_true,Bool.not_eq_true',decide_eq_false_iff_not,decide_eq_true_eq] at h;obtain ⟨⟨⟨h1,h2⟩,h3⟩,_⟩:=h;have ad:NumText.AllDigits (zF t).cps.toList:=fun c hc=>by
  have:=List.all_eq_true.mp h3 c hc;simpa using this
 have ne:(zF t).cps.toList≠[]:=fun z=>h1 (Str.ext' (Array.toList_inj.mp (by rw [z];rfl)))
 by_cases z:Txt.startswith t s!"B{"-"}"=true
 ·rw [if_pos z];rw [x5] at z;obtain ⟨cs,hc⟩:=yS.mp z;have e:zF t=Txt.slice t (some 1) none:=by
   unfold zF;rw [x5,if_pos z]
  have ec:=zbj hc;rw [<-e] at ec;rw [ec] at ad ne ⊢;have lt:t.length<=61:=by
   rw [yO] at h2 ⊢;rw [ec] at h2;rw [hc];simp only [List.length_cons];omega
  have:=intText_neg hc ad ne s!".{lt}"
  unfold zB;rw [this];rfl
 ·rw [if_neg z];have e:zF t=t:=by
   unfold zF;rw [if_neg z]
  rw [e] at ad ne h2 ⊢;have:=intText_digits ad ne s!".{h2}"
  unfold zB;rw [this];rfl
theorem zdN:∀(l:List Nat) (n k:Nat),(∀c∈l,48<=c/\c<=57)->n<10^k->l.foldl (fun acc c=>acc*10+(c-48)) n<10^(k+l.length)
 | [],n,k,_,h=>h
 | c::l,n,k,hd,h=>by
  rw [List.foldl_cons,List.length_cons,show k+(l.length+1)=(k+1)+l.length by omega]
  have:=hd c List.mem_cons_self;refine zdN l _ _ (fun x hx=>hd x s!"3{hx}") ?_
  rw [Nat.pow_succ];omega
theorem zfv {t:Str} (h:zj t=true):(zB t).natAbs<10^60:=by
 have e:=zis h;unfold zj at h;simp only [Bool.and_eq_true,Bool.not_eq_true',decide_eq_false_iff_not,decide_eq_true_eq] at h;obtain ⟨⟨⟨h1,h2⟩,h3⟩,_⟩:=h;have ad:∀c∈(zF t).cps.toList,48<=c/\c<=57:=fun c hc=>by
  have:=List.all_eq_true.mp h3 c hc;simpa using this
 have k:=zdN _ 0 0 ad s!"c"
 have k2:10^(0+(zF t).cps.toList.length)<=10^60:=Nat.pow_le_pow_right s!"c" (by rw [yO] at h2;omega)
 have k3:NumText.digitsVal (zF t).cps.toList<10^60:=Nat.lt_of_lt_of_le k k2;rw [e];split <;> omega
section
variable {X:Cx} {e a b o:Expr} {es:List Expr} {t:TA} {te ta tb to:TE} {pos apos cpos:Pos}
end
section
variable {σ:St} {H:Hp} {Q:VK}
end
end L2
namespace L2
open PySem PySem.Spec PyProof.Rows
section
variable {σ:St} {H:Hp} {Q:VK} {K:PySem.W.Frag}
theorem zew {te:TE} {vs:St} {lo:Int} {n:Nat} (row:Int->List V) (hz:n<=1000) (he:∀(i:Nat) (k:Int) H' (Q':VK),i<n->k=lo+i->Same H H'->(∀t H2,Same H' H2->H2 t=some (.tup (row k))->Q' s!"E" H2)->te (some (.int k)::vs) H' Q')
 (h:∀D H' (as:List Addr),Same H H'->H D=none->H' D=some (.lst s!"av")->as.length=n->(∀(j:Nat) (x:Addr),as[j]? =some x->H' x=some (.tup (row (lo+(j:Nat)))))->Q s!"y" H'):zag te vs (Itr lo n) H Q:=by
 intro D hD;refine ⟨fun i m zs H'=>m=n-i/\i<=n/\Same H H'/\∃as:List Addr,zs=as.map V.ref/\as.length=i/\H' D=some (.lst zs)/\∀(j:Nat) (x:Addr),as[j]? =some x->H' x=some (.tup (row (lo+(j:Nat)))),⟨n,by simp,Nat.zero_le _,Same.new hD _,[],rfl,rfl,zi,fun j x z=>by simp at z⟩,?_⟩
 rintro i m zs H' ⟨rfl,hi,hs,as,rfl,hl,eD,hT⟩;refine ⟨eD,?_⟩
 by_cases hlt:i<n
 ·refine .inr ⟨hlt,?_,fun x H2 y=>?_⟩
  ·rw [List.length_map,hl];exact zz s!"e"
  ·obtain ⟨rfl,rfl⟩:=y;refine he i _ _ _ hlt rfl hs fun t H2 s2 e2=>⟨s2.obj eD,n-(i+1),by omega,rfl,hlt,(hs.trans s2).upd hD,as++[t],by simp,by simp [hl],zi,fun j x hx=>?_⟩
   have key:H2 x=some (.tup (row (lo+(j:Nat)))):=by
    rcases Nat.lt_or_ge j as.length with z | z
    ·rw [List.getElem?_append_left z] at hx;exact s2.obj (hT j x hx)
    ·rw [List.getElem?_append_right z] at hx;have z0:j-as.length=0:=by
      rcases Nat.eq_zero_or_pos (j-as.length) with z1 | z1
      ·exact z1
      ·rw [List.getElem?_eq_none (by simp;omega)] at hx
       cases hx
     rw [z0] at hx;cases hx;rw [show j=i by omega]
     exact e2
   have ne:x≠D:=fun z=>by
    rw [z,s2.obj eD] at key;cases key
   rw [zg ne];exact key
 ·have e:i=n:=by omega
  subst e;exact .inl ⟨Nat.le_refl _,h D H' as hs hD eD hl hT⟩
end
theorem x9 {α:Type}:∀(l:List α) (i:Nat),(zT l)[i]? =l[2*i]?
 | [],i=>by simp [zT]
 | [x],0=>rfl
 | [x],i+1=>by
  show ([x]:List α)[i+1]? =([x]:List α)[2*(i+1)]?;rw [List.getElem?_eq_none (by simp),List.getElem?_eq_none (by simp;omega)]
 | x::y::r,0=>rfl
 | x::y::r,i+1=>by
  show (zT r)[i]? =(x::y::r)[2*(i+1)]?;rw [x9 r i,show 2*(i+1)=(2*i+1)+1 by omega,List.getElem?_cons_succ,List.getElem?_cons_succ]
theorem zU {α:Type}:∀(l:List α),(zT l).length=(l.length+1) / 2
 | []=>by simp [zT]
 | [_]=>by simp [zT]
 | x::y::r=>by
  show (zT r).length+1=(r.length+1+1+1) / 2;rw [zU r];omega
end L2
namespace L2
open PySem PySem.Spec PyProof.Rows PySem.W
def zK (n:Int):Str:=Str.ofString (toString n)
def wa (n:Int):Prop:=n.natAbs<10^570
theorem wa.log {n:Int} (h:wa n):n.natAbs.log2<1920:=Nat.lt_trans (Bd.log2 (n:=1900) (by show Int.natAbs _<_;exact Nat.lt_trans h s!"c") s!"c") s!"c"
theorem wa.len {n:Int} (h:wa n):(zK n).length<=571:=zai s!"c" h
def zaj (a b c d:Int):Str:=Txt.join " " [zK a,zK b,zK c,zK d]
theorem zit (ws:List Str) (sep:Str):∀n:Nat,ws.foldl (fun x w=>x+w.length+sep.length) n=n+(ws.map fun w=>w.length+sep.length).sum:=by
 induction ws with
 | nil=>intro n;simp
 | cons w ws ih=>
  intro n;rw [List.foldl_cons,ih,List.map_cons,List.sum_cons];omega
theorem zca {sep:Str} {ws:List Str} {k:Nat} (h1:sep.length<=10) (h2:ws.length<=1000) (h3:∀w∈ws,w.length<=k) (hk:k<=10000):JoinOk sep ws=true:=by
 have key:(ws.map fun w=>w.length+sep.length).sum<=ws.length*10010:=by
  clear h2
  induction ws with
  | nil=>simp
  | cons w ws ih=>
   rw [List.map_cons,List.sum_cons,List.length_cons];have a:=h3 w List.mem_cons_self;have b:=ih fun x hx=>h3 x s!"3{hx}"
   omega
 unfold JoinOk;rw [<-Array.foldl_toList,List.toList_toArray,zit];unfold Builtin.Str.tooLong;rw [Bool.not_eq_true',decide_eq_false_iff_not];have:sizeLine=16777216:=rfl;omega
def zae (p:Bool×Int):Str:=ltr p.1++" "++zK p.2
def zhn (ws:List (Bool×Int)):Str:=if ws=[] then "none" else Txt.join " " (ws.map zae)
theorem zaG:s!"B{" "}"=⟨#[32]⟩:=by decide+kernel
theorem zfw {n:Int} {c:Nat} (h:c=32\/c=47):c∉(zK n).cps.toList:=fun z=>by
 have:=zdL z;omega
def flat (ws:List (Bool×Int)):List Str:=ws.flatMap fun p=>[ltr p.1,zK p.2]
theorem zcz:∀ws:List (Bool×Int),(flat ws).length=2*ws.length
 | []=>rfl
 | p::ws=>by
  show (flat ws).length+1+1=2*(ws.length+1);rw [zcz ws];omega
theorem zbk:∀ws:List (Bool×Int),Str.join " " (ws.map zae)=Str.join " " (flat ws)
 | []=>rfl
 | [p]=>rfl
 | p::r::ws=>by
  show zae p++" "++Str.join " " ((r::ws).map zae)=ltr p.1++" "++(zK p.2++" "++Str.join " " (flat (r::ws)));rw [zbk (r::ws)];unfold zae;simp only [Str.append_assoc]
theorem zkv (b:Bool):32∉(ltr b).cps.toList:=by cases b <;> decide+kernel
theorem zcA {ws:List (Bool×Int)} (hw:ws≠[]):Txt.split (zhn ws) " "=flat ws:=by
 rw [show zhn ws=Txt.join " " (ws.map zae) from if_neg hw]
 have e:Txt.join " " (ws.map zae)=Txt.join " " (flat ws):=by
  show Builtin.Str.glued _ _=Builtin.Str.glued _ _;rw [StrLaws.glued_eq_join,StrLaws.glued_eq_join,zbk]
 rw [e,zaG];refine zcy (fun z=>hw (List.length_eq_zero_iff.mp (by have:=zcz ws;rw [z] at this;simp at this;omega))) fun w h=>?_
 obtain ⟨p,_,hp⟩:=List.mem_flatMap.mp h;simp only [List.mem_cons,List.not_mem_nil,or_false] at hp;rcases hp with rfl | rfl
 ·exact zkv _
 ·exact zfw (.inl rfl)
theorem zaH {t:Str} (h:t.cps.all (·<128)=true):Asc t:=h
theorem Asc.app {a b:Str} (ha:Asc a) (hb:Asc b):Asc (a++b):=by
 rw [Asc.iff] at ha hb ⊢;intro x hx;rw [Str.cps_append,Array.toList_append] at hx;rcases List.mem_append.mp hx with h | h
 ·exact ha x h
 ·exact hb x h
theorem Asc.joinS {sep:Str} (hs:Asc sep):∀{ws:List Str},(∀w∈ws,Asc w)->Asc (Str.join sep ws)
 | [],_=>zaH (t:=Str.empty) s!"b"
 | [w],h=>h w List.mem_cons_self
 | w::v::r,h=>((h w List.mem_cons_self).app hs).app (Asc.joinS hs (ws:=v::r) fun x hx=>h x s!"3{hx}")
theorem Asc.join {sep:Str} {ws:List Str} (hs:Asc sep) (h:∀w∈ws,Asc w):Asc (Txt.join sep ws):=by
 rw [show Txt.join sep ws=Str.join sep ws from StrLaws.glued_eq_join _ _]
 exact Asc.joinS hs h
theorem zfx {sep:Str} {ws:List Str} {k n m:Nat} (hs:sep.length<=m) (hn:ws.length<=n) (h:∀w∈ws,w.length<=k):(Txt.join sep ws).length<=n*(k+m):=by
 rw [show Txt.join sep ws=Str.join sep ws from StrLaws.glued_eq_join _ _]
 refine Nat.le_trans (StrLaws.join_length_le _ _) ?_;have key:(ws.map fun x=>x.length).sum<=ws.length*k:=by
  clear hn
  induction ws with
  | nil=>simp
  | cons w ws ih=>
   rw [List.map_cons,List.sum_cons,List.length_cons,Nat.add_mul];have a:=h w List.mem_cons_self;have b:=ih fun x hx=>h x s!"3{hx}"
   omega
 have k2:ws.length*sep.length<=ws.length*m:=Nat.mul_le_mul_left _ hs;have k3:ws.length*(k+m)<=n*(k+m):=Nat.mul_le_mul_right _ hn;rw [Nat.mul_add] at k3;omega
theorem zkw (ws:List Str):(ws.map fun x=>x.length).sum=((ws.map fun w=>w.cps.toList).map List.length).sum:=by
 induction ws with
 | nil=>rfl
 | cons w ws ih=>
  rw [List.map_cons,List.sum_cons,ih,List.map_cons,List.map_cons,List.sum_cons];rfl
theorem ziu (t:Str) (c:Nat):((Txt.split t ⟨#[c]⟩).map fun x=>x.length).sum+(Txt.split t ⟨#[c]⟩).length=t.length+1:=by
 have h:=zev (c:=c) (ws:=(Txt.split t ⟨#[c]⟩).map fun w=>w.cps.toList) (fun z=>xp t c (List.map_eq_nil_iff.mp z))
 rw [wK,List.length_map] at h;rw [zkw,yO];exact h
theorem zkx:Asc s!"B{" "}":=zaH s!"b"
end L2
namespace L2
open PySem PySem.Spec PyProof.Rows
section
variable {X:Cx}
end
section
variable {H:Hp} {Q:VK} {K:PySem.W.Frag}
theorem zfy (t:Str):∀ts:List Str,inV s!"F" (ts.map V.str)=decide (t∈ts)
 | []=>by simp [inV]
 | u::ts=>by
  have ih:=zfy t ts
  by_cases h:t=u
  ·subst h;simp [inV,eqV]
  ·simp only [inV,List.map_cons,List.any_cons] at ih ⊢;rw [ih];simp [eqV,h,Ne.symm h]
theorem zdO:∀ts:List Str,(ts.map V.str).all ya=true
 | []=>rfl
 | _::ts=>zdO ts
theorem zL {p:Addr} {t:Str} (ts:List Str) (h1:SqT K H p (ts.map V.str)) (h:Q (.bl (decide (t∈ts))) H):rIn K false s!"F" (.ref p) H Q:=⟨p,_,rfl,.inr h1,rfl,zdO ts,by rw [zfy];exact h⟩
end
section
variable {X:Cx} {k:Nat} {ps:List Str} {sp:Sp} {W:Value->Option Addr->St->Hp->Prop} {x:Str} {p pos:Pos}
end
end L2
namespace L2
open PySem PySem.Spec PyProof.Rows PySem.W
section
variable {M:Model} {A:Around} {E:Value->Shared->Prop} {s:Shared} {B:Heap} {outer:List Env} {env:Env} {e L:Addr} {c a0:Value} {dx:Option Addr} {Q:Unit->Shared->Prop}
theorem zR.leavesHeld (hf:env.frame=some L) (x:zR B (env::outer) e c a0 dx (rawInt L) s.heap) (k:∀h',zR B outer e c a0 dx .none h'->s.heap.UpToSlots h'->Q () { s with heap:=h' }):wpAny M A (leaving env s!"Q") Q E s:=by
 obtain ⟨_,_,T,oe,vs,oT,ts,⟨y1,y2,_,_,_,y6,_⟩,_,_,t3,t4,t5⟩:=id x;unfold leaving noteFrame;simp only [hf];refine wpAny_bind s!"p{wpAny_field y1 y2 y6 ?_}";rw [if_pos (by simp)]
 refine wpAny_bind (wpAny_field t3 t4 t5 ?_);rw [if_pos (by simp)]
 exact wpAny_pure (x.lands fun h2 x2 u2=>k h2 x2.tail u2)
theorem zR.back (hf:env.frame=some L) (x:zR B (env::outer) e c a0 dx (rawInt L) s.heap) (k:∀h',zR B (env::outer) e c a0 dx (rawInt L) h'->s.heap.UpToSlots h'->E s!"Q" { s with heap:=h' }):cameBackBy M A env E s!"Q" s:=by
 obtain ⟨_,_,T,oe,vs,oT,ts,⟨y1,y2,_,_,_,y6,_⟩,_⟩:=id x;unfold cameBackBy;refine wpAny_bind (wpAny_field y1 y2 y6 ?_);rw [if_neg (by simp)]
 refine x.mark (rawInt L) fun T oe vs oT ts y1 y2 y3 t1 t2 t3 ⟨x1,x2⟩=>?_
 unfold setFlight;refine wpAny_bind (wpAny_field y1 y2 y3 ?_);rw [if_pos (by simp),hf]
 exact wpAny_setField t1 t2 (Array.getElem?_eq_some_iff.mp t3).1 (k _ x1 x2)
end
structure XBack (X:Cx) (W:Value->Option Addr->St->Hp->Prop):Prop where
 ex:X.ex=[]
 stk:X.stack=X.env::X.outer
 frm:X.env.frame=some X.env.locals
 back:∀(pins:List (Addr×Obj)) (σ:St) (H:Hp) (s:Shared) (e t:Addr) (B:Heap) (dx:Option Addr) (cls:Value),Inv X pins σ H s->zR B X.stack e cls s!"E" dx (rawInt X.env.locals) s.heap->Kept B X.fs X.H₀ X.s₀.heap H s.heap->H e=none->W cls dx σ H->X.xe s!"Q" s
theorem zky {P:Program} {w:World} {K:PySem.W.Frag} {mg:Str->Option Value} {base:Heap} {N:List Str} {qual:Str} {scope:Scope} {f:Addr} {cd:Value} {A:Around} {outer:List Env} {s₀:Shared} {H₀:Hp} {E:XK}:
 XBack s!"bn" (fun cls dx _ H=>E cls dx H):=by
 refine ⟨rfl,rfl,rfl,fun pins σ H s e t B dx cls I fl kp nH hE=>?_⟩
 refine zR.leavesHeld rfl fl fun h2 fl2 up=>?_
 obtain ⟨u2,ok2⟩:=I.flown rfl kp fl2.stays up;exact ⟨e,t,_,_,H,_,rfl,hE,I.os,I.bare,u2,ok2,fl2,kp.fly I.hok fl2.stays,nH⟩
def zq1 (K:PySem.W.Frag) (C C2:Addr) (W:Value->Option Addr->St->Hp->Prop):TH:=fun cls dx _ _ σ H=>dx=none/\kitOne K cls s!"k"=some true/\W (.ref C2) s!"a5" σ H
section
variable {X:Cx} {W:Value->Option Addr->St->Hp->Prop}
theorem zex {A:Around} {E:Value->Shared->Prop} {prog:Program} {w:World} {s:Shared} {env:Env} {nm q:Str} {C N:Addr} {bs tl bmB:List Value} {hdct:Bool} {sn:List Str} {sub:List Value} {ab:Bool} {col:Option Bool} {dd:Option Addr} {k0 k1 k2 k3 k5:Option Value} {newId:String}
 {xs cs:Sem Value} {a:Addr} {oa:Obj} {Q:Flow->Shared->Prop} (hb:tl.contains s!":"=true)
 (hc:∀s1 (R:Value->Shared->Prop),R .none s1->wpAny s!"q" A cs R E s1)
 (go:wpAny (model prog w) A xs (fun v s1=>∃e t,v=.ref e/\e≠a/\zbi A a oa s1.heap/\s1.heap.get? C=some (excClassObj nm q C N bs tl hdct sn sub ab col dd k0 k1 k2 k3 k5 newId)/\
  s1.heap.get? e=some { cls:=.ref C,data:=.fields #[.ref t,.none,.none,.none,.bool false,.none] }/\
  ∀h',(∀b o,b≠e->s1.heap.get? b=some o->h'.get? b=some o)->h'.get? e=some { cls:=.ref C,data:=.fields #[.ref t,.none,.ref a,.none,.bool true,.none] }->E (.ref e) { s1 with heap:=h' }) E s):
 wpAny s!"q" A (raiseStmt env (some xs) (some cs)) Q E s:=by
 have m1:(Value.ref C::tl).contains s!":"=true:=by rw [List.contains_cons,hb,Bool.or_true]
 unfold raiseStmt;refine wpAny_bind (wpAny_mono go (fun v s1 q=>?_) fun _ _ z=>z)
 obtain ⟨e,t,rfl,ne,held,cC,oE,qe⟩:=q;refine wpAny_bind s!"/{hc s1 _ s!"p{s!"&"}"}";obtain ⟨h1,g1,d1,t1,o1⟩:=s1
 repeat (first | (with_reducible refine wpAny_loadPart_at oE ?_) | (with_reducible refine wpAny_loadPart_at cC ?_) | (with_reducible refine wpAny_isSubtype_exc cC ?_;rw [m1]) | walk_at "wp")
 have neC:C≠e:=fun z=>by
  rw [z,oE] at cC;exact absurd (congrArg Obj.data s!"9{cC}") (by intro z;cases z)
 have c2:((h1.update e (Obj.mapFields fun x=>x.setIfInBounds 3 Value.none)).update e (Obj.mapFields fun x=>x.setIfInBounds 4 (Value.bool true))).get? C=some (excClassObj nm q C N bs tl hdct sn sub ab col dd k0 k1 k2 k3 k5 newId):=s!"ae{Ne.symm neC}".trans (s!"ae{Ne.symm neC}".trans cC)
 have e1:=Heap.get?_update_self (Obj.mapFields fun x=>x.setIfInBounds 3 Value.none) oE rfl
 have e2:((h1.update e (Obj.mapFields fun x=>x.setIfInBounds 3 Value.none)).update e (Obj.mapFields fun x=>x.setIfInBounds 4 (Value.bool true))).get? e=some { cls:=.ref C,data:=.fields #[.ref t,.none,.none,.none,.bool true,.none] }:=Heap.get?_update_self (Obj.mapFields fun x=>x.setIfInBounds 4 (Value.bool true)) e1 rfl
 have oth:∀b o,b≠e->h1.get? b=some o->((h1.update e (Obj.mapFields fun x=>x.setIfInBounds 3 Value.none)).update e (Obj.mapFields fun x=>x.setIfInBounds 4 (Value.bool true))).get? b=some o:=fun b o n q=>s!"ae{Ne.symm n}".trans (s!"ae{Ne.symm n}".trans q)
 repeat (first | (with_reducible refine wpAny_loadPart_at c2 ?_) | walk_at "wp")
 refine zc0 (held.ext (oth a oa (Ne.symm ne) held.2.1)) ne e2 rfl (by show 2<6;decide) ?_
 exact qe _ (fun b o n q=>s!"ae{Ne.symm n}".trans (oth b o n q)) (Heap.get?_update_self _ e2 rfl)
theorem zgn {x y msg:Str} {np np2 cpos pos rpos p1 p2:Pos} {j1 j2:Nat} {C C2:Addr} {bmB:List Value} {Bn newId initId:String} (hg:Gl X x) (hm:X.mg x=some s!"k") (hb:CatK X.K C) (O:OwnCls y C2 bmB newId X.mg X.base) (FB:ExcBaseFacts Bn newId initId bmB) (hg2:Gl X y) (hx:XBack X W)
 (hd:(x==("__debug__":Str))=false:=by decide) (hd2:(y==("__debug__":Str))=false:=by decide) (hs:starEach [.Constant (.str msg) j1 p1] X.env=[(false,eval (.Constant (.str msg) j1 p1) X.env)]:=by rfl):
 PH X [.ExceptHandler (some (.Name x np)) none [.Raise (some (.Call (.Name y np2) [.Constant (.str msg) j1 p1] [] cpos)) (some (.Constant .none j2 p2)) rpos] pos] (zq1 X.K C C2 W):=by
 intro pins σ H s a cls dx D air h;obtain ⟨rfl,hb1,hW⟩:=h;have I:=air.inv;obtain ⟨H0,s0,B,t,I0,os,bare,un,hok,fl,kp,ha⟩:=id air;obtain ⟨oe,_,he,_,hc,_⟩:=fl.obj;refine wpAny_handleBy_cons (codeAny_handlers_test (Calls.Name_function_global I.ok.kind hg (Calls.loadGlobal_global (by rw [I.ok.glob];exact I.mod.glob.keeps I.bk) hm ?_) hd)) (by intro q;cases q)
 refine xW I.kIn he (by rw [hc];exact hb.of hb1) hb.be ?_
 refine codeAny_handlers_suite ?_;refine fl.lands fun h6 fl6 up6=>?_
 have air6:=Air.moved I0 os bare un hok kp ha fl6 up6;have I6:=air6.inv;obtain ⟨o6,v6,e6,d6,c6,x6⟩:=fl6.obj;have x62:v6[2]? =some .none:=by
  rcases x6 with z | z
  ·exact z.2
  ·cases z.1
 obtain ⟨tl,nsA,nmA,qA,bsA,hdA,snA,subA,abA,colA,ddA,k0,k1,k2,k3,k5,mN,hC,hN,hni,T⟩:=O.obj;refine wpAny_execs_cons ?_;rw [arm_exec_Raise];simp only [evalOpt,Option.map];refine wpAny_bind s!"at{?_}";refine zex (a:=a) (oa:=o6) (bmB:=bmB) (C:=C2) (nm:=nmA) (q:=qA) (N:=nsA) (bs:=bsA) (tl:=tl) (hdct:=hdA) (sn:=snA) (sub:=subA) (ab:=abA) (col:=colA) (dd:=ddA) (k0:=k0) (k1:=k1) (k2:=k2) (k3:=k3) (k5:=k5) (newId:=newId) (T.hasType FB.hasBase) (fun s1 R r=>wpAny_bind (wpAny_Constant_none s!"p{s!"at{s!"V{r}"}"}")) ?_
 refine wpAny_bind (wpAny_mono (wpAny_Call_ofName (Calls.Name_function_global I6.ok.kind hg2 (Calls.loadGlobal_global (by rw [I6.ok.glob];exact I6.mod.glob.keeps I6.bk) O.bound ?_) hd2)) (fun v s3 q3=>wpAny_bind s!"at{s!"V{q3}"}") fun _ _ z=>z)
 unfold callWith;rw [hs];refine wpAny_bind s!"/{Calls.evalArgs_plain (Calls.spliced_cons (Calls.Constant_str (k:=j1) (pos:=p1) (Calls.spliced_nil s!"p{s!"at{?_}"}")))}";refine wpAny_bind (wpAny_keeperOf_exc (I6.bk _ _ hC) ?_);refine wpAny_bind (wpAny_call_exc_subT FB (T.keeps I6.bk) (I6.bk _ _ hC) (hN.keeps I6.bk) hni (fun h7 e hm=>?_) (by show 1<=sizeLine;decide))
 refine wpAny_bind s!"/{wpAny_point s!"&"}";obtain ⟨t7,q7,_,_⟩:=hm.there;have new6:∀b o,h6.get? b=some o->b≠e:=fun b o q z=>by
  rw [z,hm.new] at q;cases q
 refine ⟨e,t7,rfl,fun z=>new6 a o6 e6 z.symm,⟨rfl,hm.keeps _ _ e6,v6,d6,x62⟩,hm.keeps _ _ (I6.bk _ _ hC),q7,fun h8 k8 e8=>?_⟩
 have up8:∀b o,h6.get? b=some o->h8.get? b=some o:=fun b o q=>k8 b o (new6 b o q) (hm.keeps b o q)
 have I8:Inv X pins σ H { s with heap:=h8,toks:=s.toks+1 }:=I6.kept (h':=h8) (t':=s.toks+1) up8
 have nH:H e=none:=by
  cases z:H e with
  | none=>rfl
  | some u=>
   obtain ⟨ob,e1⟩:=(I6.hok e u z).at
   exact absurd rfl (new6 e ob e1)
 have n0:X.s₀.heap.get? e=none:=by
  cases z:X.s₀.heap.get? e with
  | none=>rfl
  | some o=>
   obtain ⟨o',z'⟩:=I6.base.there e o z (fun y=>by rw [hx.ex] at y;cases y)
   exact absurd rfl (new6 e o' z')
 have fstk:X.stack=X.env::X.outer:=hx.stk;have kpB:=I8.keptHideE hx.ex n0 nH;have kp6:Kept (hideAll h8 (e::frs X.stack)) (frs X.stack) H h6 H h8:=by
  refine ⟨fun b o q n f=>hideAll_get _ (up8 b o q) (fun z=>?_),fun b o q f=>⟨o,hideAll_get _ (up8 b o q) (fun z=>?_)⟩,fun b o n q=>hideAll_get _ q (fun z=>?_)⟩
  ·rcases List.mem_cons.mp z with y | y
   ·exact new6 b o q y
   ·exact f y
  ·rcases List.mem_cons.mp z with y | y
   ·exact new6 b o q y
   ·exact f y
  ·rcases List.mem_cons.mp z with y | y
   ·rw [y] at n;exact n nH
   ·exact I8.trkOff n y
 show wpAny _ _ (noteFrame s!"Q" X.env) _ _ _;unfold noteFrame;simp only [hx.frm];refine wpAny_bind (wpAny_field e8 rfl (x:=Value.none) rfl ?_);rw [if_neg s!"c"]
 refine zaf (B:=hideAll h8 (e::frs X.stack)) (outer:=X.outer) (env:=X.env) (L:=X.env.locals) (dx:=some mainGlobals) (a0:=.ref t7) (by show X.A.frames=_;rw [I8.ok.frames,fstk]) (by rw [<-fstk];exact funFrames_hide I8.stack fun env he b hb=>List.mem_cons_of_mem _ (List.mem_filterMap.mpr ⟨env,he,hb⟩)) hx.frm e8 rfl (by show 1<6;decide) (fun b o q=>of_hideAll _ q) (hideAll_none _ (List.mem_cons_self ..)) rfl (.inr ⟨rfl,rfl⟩) fun h9 fl9 up9=>?_
 refine zR.back (outer:=X.outer) hx.frm fl9 fun h10 fl10 up10=>?_
 rw [<-fstk] at fl10;have un8:Un (frs X.stack) [] H H h6 h8:=Un.kept up8;have un10:Un (frs X.stack) [] H H h6 h10:=un8.flown I6.frm kp6 fl10.stays (up9.trans up10);have hok10:HOk X.prog X.w H h10:=I8.hok.flown kp6 fl10.stays;have I10:Inv X pins σ H { s with heap:=h10,toks:=s.toks+1 }:=I6.call' (ch:=[]) rfl un10 hok10 I6.bare (fun b z=>nomatch z)
 exact hx.back pins σ H _ e t7 _ s!"a5" (.ref C2) I10 fl10 (kpB.fly I8.hok fl10.stays) nH hW
end
section
variable {σ:St} {H:Hp} {K:PySem.W.Frag}
theorem zq2 {C C2:Addr} {W:Value->Option Addr->St->Hp->Prop} {cls:Value} {a:Addr} {D:Ends} (h1:kitOne K cls s!"k"=some true) (h2:W (.ref C2) s!"a5" σ H):zq1 K C C2 W cls none a D σ H:=⟨rfl,h1,h2⟩
end
end L2
namespace L2
open PySem PySem.Spec PyProof.Rows
structure SrcM (K:PySem.W.Frag) (nm qual:Str) (st:Stmt) (f:Addr) (ps:List Str):Prop where
 ex:∃fd,Fun K nm qual st f fd/\xm K fd ps []
structure DefM (P:Program) (w:World) (K:PySem.W.Frag) (mg:Str->Option Value) (base:Heap) (CX:CXT) (k:Nat) (f:Addr) (ps:List Str) (sp:Sp):Prop where
 ex:∃fd,FnOk P w K mg base CX k f fd ps sp/\xm K fd ps []
section
variable {P:Program} {w:World} {K:PySem.W.Frag} {mg:Str->Option Value} {base:Heap} {CX:CXT}
theorem zmW {nm qual:Str} {st:Stmt} {f:Addr} {oc:Value} {od an:Option Addr} {osl:Array (Option Value)} {kV doc pm cdv ct:Value} {ps:List Str}
 (l:K.lookup f=some ⟨oc,od,.func (PySem.W.fnOf nm qual (zD st) (zw st) (ze st) .none kV doc pm an cdv ct),osl⟩) (c:PySem.W.codeIn K cdv qual=true) (k:PySem.W.keepIn K s!"I"=true)
 (hb:∀(kV doc pm:Value) (an:Option Addr) (cdv ct:Value) (us:List Value),us.length=ps.length->bindArgs (PySem.W.fnOf nm qual (zD st) (zw st) (ze st) .none kV doc pm an cdv ct) ⟨us,[]⟩=pure (ps.zip us)):SrcM K nm qual st f ps:=
 ⟨_,zbd l c k,(zbd (st:=st) l c k).binds hb⟩
theorem SrcM.ok {nm qual:Str} {st:Stmt} {f:Addr} {N ps:List Str} {k:Nat} {sp:Sp} (F:SrcM K nm qual st f ps) (S:FnScope N ps (ze st)) (len:∀vs H Q E,sp vs H Q E->vs.length=ps.length)
 (hbody:∀(f:Addr) (cdv:Value) (A:Around) (outer:List Env) (s:Shared) (H:Hp) (vs:List V) (Q:VK) (E:XK),Room k (A.deeper (envOfC qual (ze st) s.heap.objs.size f cdv))->sp vs H Q E->
  ∃t,PSs (xU CX P w K mg base N qual (ze st) f cdv A outer s H E).nox (zw st) t/\t { nx:=fun _ H'=>Q .non H',rt:=Q } (yg N vs) H):DefM P w K mg base CX (k+1) f ps sp:=by
 obtain ⟨fd,Fn,b⟩:=F.ex;obtain ⟨oc,od,kV,doc,pm,an,cdv,ct,osl,rfl,lk,hcd⟩:=Fn.ex;refine ⟨_,zfk lk hcd S len fun A outer s H vs Q E hr hsp=>?_,b⟩
 obtain ⟨t,h,q⟩:=hbody f cdv A outer s H vs Q E hr hsp;exact ⟨t,h.nox,q⟩
theorem SrcM.okX {nm qual:Str} {st:Stmt} {f:Addr} {N ps:List Str} {k:Nat} {sp:Sp} (F:SrcM K nm qual st f ps) (S:FnScope N ps (ze st)) (len:∀vs H Q E,sp vs H Q E->vs.length=ps.length)
 (hbody:∀(f:Addr) (cdv:Value) (A:Around) (outer:List Env) (s:Shared) (H:Hp) (vs:List V) (Q:VK) (E:XK),Room k (A.deeper (envOfC qual (ze st) s.heap.objs.size f cdv))->sp vs H Q E->
  ∃t,PSs (xU CX P w K mg base N qual (ze st) f cdv A outer s H E) (zw st) t/\t { nx:=fun _ H'=>Q .non H',rt:=Q } (yg N vs) H):DefM P w K mg base CX (k+1) f ps sp:=by
 obtain ⟨fd,Fn,b⟩:=F.ex;obtain ⟨oc,od,kV,doc,pm,an,cdv,ct,osl,rfl,lk,hcd⟩:=Fn.ex;exact ⟨_,zfk lk hcd S len fun A outer s H vs Q E hr hsp=>hbody f cdv A outer s H vs Q E hr hsp,b⟩
end
def zgo (C:Addr) (m:Str) (sp:Sp) (W:Value->Option Addr->St->Hp->Prop) (ta:TE) (t:TA):TE:=fun σ H Q=>ta σ H fun x H1=>∃a dx fs,x=.ref a/\H1 a=some (.ins C dx fs)/\fs.lookup m=none/\
 t σ H1 fun vs H2=>sp (.ref a::vs) H2 Q (fun cls dx H3=>W cls dx σ H3)
section
variable {X:Cx} {k:Nat} {f C:Addr} {ps:List Str} {sp:Sp} {W:Value->Option Addr->St->Hp->Prop} {x m:Str} {p pos apos:Pos} {e o:Expr} {es:List Expr} {ta:TE} {t:TA}
theorem zho {pins:List (Addr×Obj)} {σ:St} {H:Hp} {s:Shared} {Q:VK} {us:List Value} {vs:List V} (D:DefM X.prog X.w X.K X.mg X.base (CXE X.prog X.w) k f ps sp) (hr:Room k X.A) (hx:XPass X W)
 (I:Inv X pins σ H s) (r:zo vs us) (h:sp vs H Q (fun cls dx H3=>W cls dx σ H3)):wpAny (model X.prog X.w) X.A (call s!"I" us) (EP X pins σ Q) X.xe s:=by
 obtain ⟨fd,F,b⟩:=D.ex;have hl:(us++[]).length=ps.length:=by rw [List.append_nil,<-r.length];exact F.len _ _ _ _ h
 have bnd:=b s us I.kIn hl;rw [List.append_nil] at bnd;refine wpAny_call (codeAny_mono (F.run X.A X.stack s H ⟨us,[]⟩ us vs Q _ hr I.env0 bnd r h) fun res s2 hq=>?_)
 cases res with
 | error ex=>exact hx.call pins σ H s ex s2 I hq
 | ok fl=>
  cases fl with
  | ret u=>exact I.after hq
  | next=>exact False.elim hq
  | brk=>exact False.elim hq
  | cont=>exact False.elim hq
theorem pe_methS {pl:Sem Bool} (D:DefM X.prog X.w X.K X.mg X.base (CXE X.prog X.w) k f ps sp) (c:Cls X.K C) (hm:Meth X.K C m f) (hr:Room k X.A) (hx:XPass X W) (he:PE X o ta) (ha:PA X (e::es) t)
 (hst:starEach (e::es) X.env=(false,eval e X.env)::starEach es X.env:=by rfl) (hpl:s!"aC".any (·.1)=false:=by rfl)
 (ht:eval (.Call (.Attribute o m apos) (e::es) [] pos) X.env=(do
  let ov <-eval o X.env
  standAt apos.atName
  let (f,first) <-holding [ov] (getMethod ov m pl)
  callWith pos f first (backTo pos (starEach (e::es) X.env)) (backToKw pos (keywordEach [] X.env))):=by rfl):
 PE X (.Call s!"aN{m}" (e::es) [] pos) (zgo C m sp W ta t):=by
 intro pins s σ H Q I h;refine PySem.W.methodCall_KW (pl:=pl) (thn (he pins s σ H _ I h) fun u s1 ⟨x,H1,I1,rx,a,dx,fs,ex,ea,l,q⟩=>?_) ht
 subst ex;obtain rfl:u=Value.ref a:=rx;refine zcj I1 ea c hm l ?_;refine PySem.W.callWith_K (first:=[.ref a]) (h₀:=X.base) I.ok.mod.kin hm.kp (thn (ha pos pins s1 σ H1 _ I1 q) fun us s2 ⟨vs,H2,I2,r,q2⟩=>⟨I2.kIn,?_⟩) hst hpl
 exact zho (us:=.ref a::us) (vs:=.ref a::vs) D hr hx I2 (.cons rfl r) q2
theorem zbl {pl:Sem Bool} (D:DefM X.prog X.w X.K X.mg X.base (CXE X.prog X.w) k f ps sp) (c:Cls X.K C) (hm:Meth X.K C m f) (hr:Room k X.A) (hx:XPass X W) (he:PE X o ta)
 (ht:eval (.Call (.Attribute o m apos) [] [] pos) X.env=(do
  let ov <-eval o X.env
  standAt apos.atName
  let (f,first) <-holding [ov] (getMethod ov m pl)
  callWith pos f first (backTo pos (starEach [] X.env)) (backToKw pos (keywordEach [] X.env))):=by rfl):
 PE X (.Call s!"aN{m}" [] [] pos) (zgo C m sp W ta zly):=by
 intro pins s σ H Q I h;refine PySem.W.methodCall_KW (pl:=pl) (thn (he pins s σ H _ I h) fun u s1 ⟨x,H1,I1,rx,a,dx,fs,ex,ea,l,q⟩=>?_) ht
 subst ex;obtain rfl:u=Value.ref a:=rx;refine zcj I1 ea c hm l ?_;exact PySem.W.callWith_K0 (first:=[.ref a]) I1.kIn hm.kp (zho (us:=[.ref a]) (vs:=[.ref a]) D hr hx I1 (.cons rfl .nil) q)
def zkz (C:Addr) (sp:Sp):TE:=fun _ H Q=>∀x dx,H x=none->H dx=none->dx≠x->sp [.ref x] (upd (upd H dx (.own x)) x (.ins C dx [])) (fun v H2=>v=.non/\Q (.ref x) H2) (fun _ _ _=>False)
theorem zkA (D:DefM X.prog X.w X.K X.mg X.base (CXE X.prog X.w) k f ps sp) (M:Mk X.K C f) (hr:Room (k+1) X.A) (hg:Gl X x) (hm:X.mg x=some s!"k") (hdb:(x==("__debug__":Str))=false:=by decide):
 PE X (.Call (.Name x p) [] [] pos) (zkz C sp):=by
 obtain ⟨fd,F,b⟩:=D.ex;intro pins s σ H Q I h;exact zi8 (E:=fun _ _ _=>False) (dvs:=[]) (ds:=[]) M F hr hg hm b .nil (fun pins σ H s e s' I c=>by
  obtain ⟨_,_,_,_,_,_,_,z,_⟩:=c;exact z.elim) hdb pins s σ H Q I fun y dx h1 h2 h3=>h y dx h1 h2 h3
end
section
variable {σ:St} {H:Hp} {Q:VK} {K:PySem.W.Frag}
def zkB (C:Addr) (m:Str) (sp:Sp) (W:Value->Option Addr->St->Hp->Prop) (t:TA) (σ:St) (x:V) (H1:Hp) (Q:VK):Prop:=∃a dx fs,x=.ref a/\H1 a=some (.ins C dx fs)/\fs.lookup m=none/\
 t σ H1 fun vs H2=>sp (.ref a::vs) H2 Q (fun cls dx H3=>W cls dx σ H3)
theorem zgo.Qa {C:Addr} {m:Str} {sp:Sp} {W:Value->Option Addr->St->Hp->Prop} {ta:TE} {t:TA} (h:ta σ H fun x H1=>zkB C m sp W t σ x H1 Q):zgo C m sp W ta t σ H Q:=h
theorem zkB.Qq {C:Addr} {m:Str} {sp:Sp} {W:Value->Option Addr->St->Hp->Prop} {t:TA} {a dx:Addr} {fs:List (Str×V)} (h1:H a=some (.ins C dx fs)) (h2:fs.lookup m=none) (h:t σ H fun vs H2=>sp (.ref a::vs) H2 Q (fun cls dx H3=>W cls dx σ H3)):zkB C m sp W t σ s!"g" H Q:=⟨a,dx,fs,rfl,h1,h2,h⟩
def zq3 (K:PySem.W.Frag) (f:Str) (x:V) (H1:Hp) (Q:VK):Prop:=∃a C dx fs v,x=.ref a/\H1 a=some (.ins C dx fs)/\Cls K C/\yo K C f/\fs.lookup f=some v/\Q v H1
theorem zp4.Qa {ta:TE} {f:Str} (h:ta σ H fun x H1=>zq3 K f x H1 Q):zp4 K ta f σ H Q:=h
theorem zq3.Qp {f:Str} {a C dx:Addr} {fs:List (Str×V)} {v:V} (h1:H a=some (.ins C dx fs)) (c:Cls K C) (n:yo K C f) (h2:fs.lookup f=some v) (h:Q v H):zq3 K f s!"g" H Q:=⟨a,C,dx,fs,v,rfl,h1,c,n,h2,h⟩
def zoa (K:PySem.W.Frag) (f:Str) (D:Ends) (σ:St) (y x:V) (H2:Hp):Prop:=∃a C dx fs,x=.ref a/\H2 a=some (.ins C dx fs)/\Cls K C/\yo K C f/\fs.length<1000/\D.nx σ (upd H2 a s!"ba")
theorem zp5.Qa {ta tv:TE} {f:Str} {D:Ends} (h:tv σ H fun y H1=>ta σ H1 fun x H2=>zoa K f D σ y x H2):zp5 K ta tv f D σ H:=h
theorem zaI {f:Str} {D:Ends} {y:V} {a C dx:Addr} {fs:List (Str×V)} (h1:H a=some (.ins C dx fs)) (c:Cls K C) (n:yo K C f) (h2:fs.length<1000) (h:D.nx σ (upd H a s!"ba")):zoa K f D σ y s!"g" H:=⟨a,C,dx,fs,rfl,h1,c,n,h2,h⟩
end
section
variable {prog:Program} {w:World} {A:Around} {E:Value->Shared->Prop} {s:Shared}
theorem zey {K:Type} [DecidableEq K] {knd:KeyKind prog w K} {d:Addr} {kvs:List (K×Value)} {ep:Nat} {ss:List Str} {Q:Value->Shared->Prop} (hh:A.handled=none) (hs:(d==sysModules)=false) (hm:s.heap.DictAt knd d kvs ep) (h64:kvs.length<64)
 (hI:∀vs:List Value,vs.length=kvs.length->(∀(i:Nat) v,vs[i]? =some v->∃k x,kvs[i]? =some (k,x)/\knd.is k v=true)->StrsAre vs ss)
 (h:∀(a:Addr) (h':Heap) tk (out:Array Value) (ss':List Str) e,s.heap.objs.size<=a->(∀b o,s.heap.get? b=some o->h'.get? b=some o)->h'.get? a=some (seqObj "list" out e)->StrsAre out.toList ss'->ss'.Perm ss->sortedS ss'=true->Q s!"g" { s with heap:=h',toks:=tk }):
 wpAny s!"q" A (call s!"L{"sorted"}" [.ref d]) Q E s:=by
 refine Calls.call_function_entry kind_sorted plain_sorted entry_sorted (args_sorted1 _) ?_;unfold Builtin.«sorted»;refine wpAny_bind (m:=checkCount "sorted" 1 1 _) s!"&";refine wpAny_bind (zer hh hs hm (by rw [sizeLine_eq];omega) fun h1 tk vs hz ho lv hv=>?_)
 refine wpAny_bind (wpAny_newList ?_);have hoL:(h1.push (seqObj "list" vs.toArray 0)).get? h1.objs.size=some (seqObj "list" vs.toArray 0):=Heap.get?_push_size _ rfl;have hS:=hI vs lv hv;refine wpAny_bind s!"/{(wpAny_call_entry (s:={ s with heap:=h1.push (seqObj "list" vs.toArray 0),toks:=tk }) slot_list_sort ⟨_,hoL,rfl⟩ entry_list_sort (list_sort_treeK strKind_oneLt hoL hS.keysOf (fun v1 v2 r e=>PyProof.Rows.keyKind_strs (by rw [<-e];exact hS)) s!"e" fun st' p1 p2=>?_) (args_list_sort _))}"
 obtain ⟨ss',q1,q2,q3⟩:=sorted_out_str hS p1 p2;refine ⟨_,rfl,?_⟩;obtain ⟨e,he⟩:=sortedHeap_at (out:=(arrOf st').map (·.2)) hoL
 refine wpAny_pure ⟨_,rfl,h h1.objs.size _ tk _ ss' e (Nat.le_of_lt hz) (fun b o hb=>?_) he q1 q2 q3⟩
 have hlt:b<h1.objs.size:=Heap.lt_size (ho b o hb);rw [sortedHeap_old s!"U{hlt}" (by rw [size_push'];exact Nat.lt_succ_of_lt hlt)]
 exact Heap.get?_push_of_some _ (ho b o hb)
end
theorem zgp:∀{ss:List Str} {its:List Value},StrsAre its ss->zo (ss.map V.str) its:=by
 intro ss its h
 induction h with
 | nil=>exact .nil
 | cons _ _ _ ih=>exact .cons ⟨_,rfl⟩ ih
def zfz:List V->Hp->VK->Prop:=fun xs H Q=>∃(a:Addr) (kvs:List (Key×V)) (ns:List Str),xs=[.ref a]/\H a=some (.dK kvs)/\kvs.map Prod.fst=ns.map Sum.inr/\ns.length<64/\∀(p:Addr) (ms:List Str),H p=none->ms.Perm ns->sortedS ms=true->Q (.ref p) (upd H p (.lst (ms.map V.str)))
theorem zaJ {P:Program} {w:World}:∀{ns:List Str} {vs:List (Key×Value)} {us:List Value},vs.map Prod.fst=ns.map Sum.inr->us.length=vs.length->(∀(i:Nat) v,us[i]? =some v->∃k x,vs[i]? =some (k,x)/\(zC P w).is k v=true)->StrsAre us ns
 | [],[],[],_,_,_=>.nil
 | [],_::_,_,e,_,_=>by simp at e
 | _::_,[],_,e,_,_=>by simp at e
 | _,_::_,[],_,l,_=>by simp at l
 | [],[],_::_,_,l,_=>by simp at l
 | n::ns,(k,x)::vs,u::us,e,l,h=>by
  rw [List.map_cons,List.map_cons] at e;injection e with e1 e2
  obtain ⟨k',x',h1,h2⟩:=h 0 u rfl;cases h1;rcases keyIs_shape h2 with ⟨i,t,ek,rfl⟩ | ⟨y,t,ek,rfl⟩
  ·have e1:k=Sum.inr n:=e1;rw [ek] at e1;cases e1
  ·have e1:k=Sum.inr n:=e1;rw [ek] at e1;cases e1;exact .cons _ _ (zaJ e2 (by simpa using l) fun j v hv=>h (j+1) v hv)
theorem zez {X:Cx} (hc:X.calm=true):yi X s!"L{"sorted"}" zfz:=by
 intro pins s σ H xs us Q I r h;obtain ⟨a,kvs,ns,e,hd,hk,h64,q⟩:=h;subst e;obtain ⟨u,rfl,ru⟩:=zaA r;obtain rfl:u=Value.ref a:=ru;obtain ⟨hz,hsm,vs,kv,hdo⟩:=zjU I.hok hd;obtain ⟨ep,hat⟩:=hdo.dictAt;have hl:kvs.length=ns.length:=by have:=congrArg List.length hk;simpa using this
 have lv:=kv.length;have hkv:vs.map Prod.fst=ns.map Sum.inr:=by rw [<-hk];exact kv.keys.symm
 refine zey (ss:=ns) (show X.A.handled=none from I.ok.hd hc) hsm hat s!"e" (fun us lu hu=>zaJ hkv lu hu) fun a' h' tk out ms e hle ho he a1 a2 a3=>?_
 have hm:=a2.length_eq;refine ⟨.ref a',_,I.laid (a:=a') (o:=.lst (ms.map V.str)) (t':=tk) ho hle (show zy X.prog X.w _ _ _ (.lst (ms.map V.str)) from ⟨by rw [List.length_map,sizeLine_eq];omega,out.toList,e,zgp a1,he⟩),rfl,q _ _ (I.hok.fresh hle) a2 a3⟩
section
variable {K:PySem.W.Frag} {H:Hp} {Q:VK}
theorem zgq {a:Addr} {kvs:List (Key×V)} (ns:List Str) (h1:H a=some (.dK kvs)) (hk:kvs.map Prod.fst=ns.map Sum.inr) (h2:ns.length<64) (h:∀p H' (ms:List Str),Same H H'->H p=none->ms.Perm ns->sortedS ms=true->H' p=some (.lst (ms.map V.str))->Q (.ref p) H'):zfz [.ref a] H Q:=⟨a,kvs,ns,rfl,h1,hk,h2,fun p ms hp a b=>h p _ ms s!"aH" hp a b zi⟩
end
abbrev zm2 (h:Heap) (t u:Addr):Heap:=(zt1 h t).push { cls:=.type "list_iterator",data:=.fields #[.ref u,.int 0 0] }
abbrev zm3 (h:Heap) (t u:Addr):Heap:=(zm2 h t u).push { cls:=.type "tuple",data:=.seq #[.ref h.objs.size,.ref (zt1 h t).objs.size] }
abbrev zm4 (h:Heap) (t u:Addr):Heap:=(zm3 h t u).push { cls:=.type "tuple",data:=.seq #[.none,.none] }
abbrev zm5 (h:Heap) (t u:Addr):Heap:=(zm4 h t u).push { cls:=.type "zip",data:=.fields #[.none,.bool false,.bool false,.ref (zm2 h t u).objs.size,.ref (zm3 h t u).objs.size] }
theorem zeA (t u:Addr) (xs ys:Array Value):Meets (Builtin.«zip.__new__» ⟨[.type "zip",.ref t,.ref u],[]⟩) fun _ R s=>
 IsTup s.heap t xs/\s.heap.IsList u ys/\R (.ok (.ret (.ref (zm4 s.heap t u).objs.size))) { s with heap:=zm5 s.heap t u }:=
 .of_wp fun prog w A R s h=>by
  obtain ⟨hp,g,d,tk,os⟩:=s;obtain ⟨h1,h2,h⟩:=h;have hsub:=sub_zip;have a1:IsTup (Shared.heap ⟨hp,g,d,tk,os⟩) t xs:=h1;have a2:Heap.IsList (Shared.heap ⟨hp.push { cls:=.type "tuple_iterator",data:=.fields #[.ref t,.int 0 0] },g,d,tk,os⟩) u ys:=by
   obtain ⟨o,e,c⟩:=h2;exact ⟨o,Heap.get?_push_of_some _ e,c⟩
  repeat (first|with_reducible refine iter_tuple a1 ?_|with_reducible refine wpAny_pyIter_list a2 ?_|walk_at "wp")
  exact ⟨_,rfl,h⟩
section
variable {prog:Program} {w:World} {A:Around} {E:Value->Shared->Prop} {s:Shared}
theorem zfA {t u:Addr} {xs ys:Array Value} {Q:Value->Shared->Prop} (h1:IsTup s.heap t xs) (h2:s.heap.IsList u ys)
 (h:∀h',IsZip h' (s.heap.objs.size+4) (s.heap.objs.size+2) (s.heap.objs.size+3) .none->IsPair h' (s.heap.objs.size+2) (.ref s.heap.objs.size) (.ref (s.heap.objs.size+1))->IsPair h' (s.heap.objs.size+3) .none .none->
  zcq h' s.heap.objs.size t 0->h'.IsListIter (s.heap.objs.size+1) u 0->(∀c o,s.heap.get? c=some o->h'.get? c=some o)->Q (.ref (s.heap.objs.size+4)) { s with heap:=h' }):
 wpAny s!"q" A (call (.type "zip") [.ref t,.ref u]) Q E s:=by
 refine callType_new F.called_zip s!"c" (F.typeCall_zip_2 _ _) (F.newCall_zip_2 _ _) (fun obj=>F.args_object_init_3 obj _ _) F.entry_zip_new (zeA t u xs ys) ⟨h1,h2,?_⟩
 have s1:(zt1 s.heap t).objs.size=s.heap.objs.size+1:=Heap.size_push ..;have s2:(zm2 s.heap t u).objs.size=s.heap.objs.size+2:=(Heap.size_push ..).trans (congrArg (·+1) s1)
 have s3:(zm3 s.heap t u).objs.size=s.heap.objs.size+3:=(Heap.size_push ..).trans (congrArg (·+1) s2)
 have s4:(zm4 s.heap t u).objs.size=s.heap.objs.size+4:=(Heap.size_push ..).trans (congrArg (·+1) s3)
 have e5:(zm5 s.heap t u).get? (zm4 s.heap t u).objs.size=some { cls:=.type "zip",data:=.fields #[.none,.bool false,.bool false,.ref (zm2 s.heap t u).objs.size,.ref (zm3 s.heap t u).objs.size] }:=Heap.get?_push_size _ rfl;have e4:(zm5 s.heap t u).get? (zm3 s.heap t u).objs.size=some { cls:=.type "tuple",data:=.seq #[.none,.none] }:=Heap.get?_push_of_some _ (Heap.get?_push_size _ rfl);have e3:(zm5 s.heap t u).get? (zm2 s.heap t u).objs.size=some { cls:=.type "tuple",data:=.seq #[.ref s.heap.objs.size,.ref (zt1 s.heap t).objs.size] }:=Heap.get?_push_of_some _ s!"8{Heap.get?_push_size _ rfl}";have e2:(zm5 s.heap t u).get? (zt1 s.heap t).objs.size=some { cls:=.type "list_iterator",data:=.fields #[.ref u,.int 0 0] }:=Heap.get?_push_of_some _ s!"8{s!"8{Heap.get?_push_size _ rfl}"}";have e1:(zm5 s.heap t u).get? s.heap.objs.size=some { cls:=.type "tuple_iterator",data:=.fields #[.ref t,.int 0 0] }:=Heap.get?_push_of_some _ s!"8{s!"8{s!"8{Heap.get?_push_size _ rfl}"}"}";rw [s2,s3,s4] at e5;rw [s3] at e4;rw [s1,s2] at e3;rw [s1] at e2;rw [s4];exact ⟨⟨_,e5,rfl⟩,h _ e5 e3 e4 e1 ⟨_,e2,rfl,rfl⟩ fun c o x=>Heap.get?_push_of_some _ s!"8{s!"8{s!"8{s!"8{x}"}"}"}"⟩
end
def zfB (K:PySem.W.Frag) (a b:Addr):It:=⟨fun i H=>∃xs ys x y,SqT K H a xs/\SqL K H b ys/\xs[i]? =some x/\ys[i]? =some y,
 fun i H v H'=>∃T,v=.ref T/\H T=none/\∀xs ys x y,SqT K H a xs->SqL K H b ys->xs[i]? =some x->ys[i]? =some y->H'=upd H T (.tup [x,y]),
 fun i H=>∃xs ys,SqT K H a xs/\SqL K H b ys/\(i=xs.length\/(i<xs.length/\i=ys.length))⟩
theorem ziw {P:Program} {w:World} {K:PySem.W.Frag} {elts:List Expr} {kt:Nat} {tp:Pos} {z TI TO i1 i2 l1 l2:Addr} (D:ZDiff z TI TO i1 i2 [i1,l1] [i2,l2]) (n1:l1≠i1) (n2:l2≠i2):
 Turn P w K (.Tuple elts kt tp) (zfB K l1 l2) [z,TI,TO,i1,i2] z (fun i h=>IsZip h z TI TO .none/\IsPair h TI (.ref i1) (.ref i2)/\(∃a b,IsPair h TO a b)/\zcq h i1 l1 i/\h.IsListIter i2 l2 i) where
 mem:=by simp
 obj:=fun i h st b hb=>by
  obtain ⟨hz,hTI,⟨a,c,hTO⟩,h1,h2⟩:=st;have hb':b=z\/b=TI\/b=TO\/b=i1\/b=i2:=by simpa using hb
  rcases hb' with rfl | rfl | rfl | rfl | rfl
  ·exact ⟨_,hz,fun v y=>by have y':Data.fields _=Data.cell v:=y;cases y'⟩
  ·exact ⟨_,hTI,fun v y=>by have y':Data.seq _ _=Data.cell v:=y;cases y'⟩
  ·exact ⟨_,hTO,fun v y=>by have y':Data.seq _ _=Data.cell v:=y;cases y'⟩
  ·exact ⟨_,h1,fun v y=>by have y':Data.fields _=Data.cell v:=y;cases y'⟩
  ·obtain ⟨o2,q1,q2,q3⟩:=h2;exact ⟨o2,q1,fun v y=>by rw [q3] at y;cases y⟩
 keep:=fun i h h' st k=>by
  obtain ⟨hz,hTI,⟨a,c,hTO⟩,h1,h2⟩:=st;exact ⟨k z (by simp) _ hz,k TI (by simp) _ hTI,⟨a,c,k TO (by simp) _ hTO⟩,k i1 (by simp) _ h1,let ⟨o2,q1,q2⟩:=h2;⟨o2,k i2 (by simp) _ q1,q2⟩⟩
 item:=by
  intro X hP hw hK hc i pins s σ H E I hf st hg;subst hP hw hK;obtain ⟨xs,ys,x,y,q1,q2,hx,hy⟩:=hg;obtain ⟨us,r1,p1,_⟩:=I.tuple q1;obtain ⟨vs,r2,p2',_⟩:=I.list q2;have p2:=p2'.isList;obtain ⟨u,hu,ru⟩:=r1.get hx;obtain ⟨v,hv,rv⟩:=r2.get hy;obtain ⟨hz,hTI,⟨a,c,hTO⟩,h1,h2⟩:=st;have g1:i<us.toArray.size:=by have:=s!"Z{hu}".1;simpa using this
  have g2:i<vs.toArray.size:=by have:=s!"Z{hv}".1;simpa using this
  refine zh8 (zdx (A:=X.A.in1) (I.ok.hd hc) i1 l1 n1 us.toArray) (Draws.list (A:=X.A.in1) (I.ok.hd hc) i2 l2 n2 vs.toArray) D hz hTI hTO ⟨h1,p1⟩ ⟨h2,p2⟩ g1 g2 fun x' y' h' tk e1 e2 a1 a2 a3 a4 a5 a6=>?_
  have ex:x'=u:=Option.some.inj (e1.symm.trans (by simpa using hu))
  have ey:y'=v:=Option.some.inj (e2.symm.trans (by simpa using hv))
  subst ex ey;refine ⟨_,rfl,wpAny_letOwnedTupleGo_zip (s:={ s with heap:=h',toks:=tk }) a1 fun h2' b1 b2=>?_⟩
  have nT:H s.heap.objs.size=none:=I.hok.fresh (Nat.le_refl _);have lt:∀b∈[z,TI,TO,i1,i2],b<s.heap.objs.size:=fun b hb=>by
   have hb':b=z\/b=TI\/b=TO\/b=i1\/b=i2:=by simpa using hb
   rcases hb' with rfl | rfl | rfl | rfl | rfl
   ·exact Heap.lt_size hz
   ·exact Heap.lt_size hTI
   ·exact Heap.lt_size hTO
   ·exact Heap.lt_size h1
   ·obtain ⟨o2,q1,_⟩:=id h2;exact Heap.lt_size q1
  have I1:Inv X pins σ (upd H s.heap.objs.size (.tup [x,y])) { s with heap:=s.heap.push { cls:=.type "tuple",data:=.seq #[x',y'] },toks:=tk }:=
   I.laid (t':=tk) (fun b o e=>Heap.get?_push_of_some _ e) (Nat.le_refl _) ⟨by show 2<=sizeLine;decide,[x',y'],.cons ru (.cons rv .nil),⟨_,Heap.get?_push_size _ rfl,rfl,_,rfl⟩⟩
  have f1:∀b∈[z,TI,TO,i1,i2],wS X pins (upd H s.heap.objs.size (.tup [x,y])) b:=fun b hb=>by
   obtain ⟨f0,r⟩:=hf b hb;exact ⟨by rw [zg s!"U{lt b hb}"];exact f0,r⟩
  have I2:Inv X pins σ (upd H s.heap.objs.size (.tup [x,y])) { s with heap:=h2',toks:=tk }:=by
   refine Inv.turnedL (s:={ s with heap:=s.heap.push { cls:=.type "tuple",data:=.seq #[x',y'] },toks:=tk }) (h':=h2') (t':=tk) (ch:=[z,TI,TO,i1,i2]) I1 (fun b o hb e=>?_) f1
   have hb':b≠z/\b≠TI/\b≠TO/\b≠i1/\b≠i2:=by simpa using hb
   obtain ⟨m1,m2,m3,m4,m5⟩:=hb';rw [b2.2 b m1]
   by_cases hN:b=s.heap.objs.size
   ·subst hN;have e':(s.heap.push { cls:=.type "tuple",data:=.seq #[x',y'] }).get? s.heap.objs.size=some _:=Heap.get?_push_size _ rfl;have e'':(s.heap.push { cls:=.type "tuple",data:=.seq #[x',y'] }).get? s.heap.objs.size=some o:=e;rw [e'] at e'';cases e'';exact a5
   ·refine a6 b o m1 m3 m4 m5 ?_;have e'':(s.heap.push { cls:=.type "tuple",data:=.seq #[x',y'] }).get? b=some o:=e;exact (Heap.get?_push_ne _ _ _ hN).symm.trans e''
  refine ⟨.ref s.heap.objs.size,_,I2,rfl,⟨s.heap.objs.size,rfl,nT,fun xs' ys' x' y' w1 w2 w3 w4=>?_⟩,⟨b1,?_,⟨x',y',?_⟩,(b2.2 _ D.z1.symm).trans a3.1,let ⟨o2,q1,q2⟩:=a4.1;⟨o2,(b2.2 _ D.z2.symm).trans q1,q2⟩⟩,fun b hb=>(f1 b hb).1⟩
  ·rw [I.tuple_inj w1 q1,hx] at w3;rw [I.list_inj w2 q2,hy] at w4;cases w3;cases w4;rfl
  ·exact (b2.2 _ D.zTI.symm).trans (a6 TI _ D.zTI.symm D.oI.symm D.I1 D.I2 hTI)
  ·exact (b2.2 _ D.zTO.symm).trans a2
 done:=by
  intro X hP hw hK hc i pins s σ H E I hf st hg;subst hP hw hK;obtain ⟨xs,ys,q1,q2,hend⟩:=hg;obtain ⟨us,r1,p1,_⟩:=I.tuple q1;obtain ⟨vs,r2,p2',_⟩:=I.list q2;have p2:=p2'.isList;obtain ⟨hz,hTI,⟨a,c,hTO⟩,h1,h2⟩:=st;have w1:=r1.length;have w2:=r2.length;refine zh9 (zdx (A:=X.A.in1) (I.ok.hd hc) i1 l1 n1 us.toArray) (Draws.list (A:=X.A.in1) (I.ok.hd hc) i2 l2 n2 vs.toArray) D hz hTI hTO ⟨h1,p1⟩ ⟨h2,p2⟩ (by rw [List.size_toArray,List.size_toArray];omega) fun h' tk kk=>⟨rfl,I.turnedL (t':=tk) (ch:=[z,TI,TO,i1,i2]) (fun b o hb e=>?_) hf⟩
  have hb':b≠z/\b≠TI/\b≠TO/\b≠i1/\b≠i2:=by simpa using hb
  exact kk b o hb'.1 hb'.2.2.1 hb'.2.2.2.1 hb'.2.2.2.2 e
 self:=fun _ _ _ _ _ st h=>wpAny_pyIter_zip st.1 h
section
variable {X:Cx}
def zkD (K:PySem.W.Frag) (ta:TA):TI:=fun σ H R=>ta σ H fun vs H1=>∃a b,vs=[.ref a,.ref b]/\(∃xs,SqT K H1 a xs)/\(∃ys,SqL K H1 b ys)/\R (zfB K a b) H1
theorem zhp {a b:Expr} {ta:TA} {p pos:Pos} {elts:List Expr} {kt:Nat} {tp:Pos} (hg:Gl X "zip") (hm:X.mg "zip"=none) (ha:PA X [a,b] ta) (hs:starEach [a,b] X.env=[(false,eval a X.env),(false,eval b X.env)]:=by rfl) (hs2:starEach [b] X.env=[(false,eval b X.env)]:=by rfl):
 PI X (.Tuple elts kt tp) (.Call (.Name "zip" p) [a,b] [] pos) (zkD X.K ta):=by
 intro pins s σ H R I h;refine Call_ (zba I hg hm boot_zip (PyProof.Rows.callWith_type1 (thn (ha pos pins s σ H _ I h) fun us s1 ⟨vs,H1,I1,r1,q1⟩=>?_) (by rw [hs,hs2]) (by rw [hs2];rfl)))
 obtain ⟨l1,l2,e,⟨xs,hx⟩,⟨ys,hy⟩,q⟩:=q1;subst e;obtain ⟨u,v,rfl,ru,rv⟩:=zg3 r1;obtain rfl:u=Value.ref l1:=ru;obtain rfl:v=Value.ref l2:=rv;obtain ⟨us,r1,p1,_⟩:=I1.tuple hx;obtain ⟨vs,r2,p2',_⟩:=I1.list hy;have p2:=p2'.isList;have lt1:l1<s1.heap.objs.size:=by obtain ⟨o,e,_⟩:=p1;exact Heap.lt_size e
 have lt2:l2<s1.heap.objs.size:=by obtain ⟨o,e,_⟩:=p2;exact Heap.lt_size e
 refine zfA p1 p2 fun h' hz hTI hTO hi1 hi2 hk=>?_
 refine wpAny_pyIter_zip (s:={ s1 with heap:=h' }) hz ?_
 have I2:Inv X pins σ H1 { s1 with heap:=h' }:=I1.kept (t':=s1.toks) hk
 have D:ZDiff (s1.heap.objs.size+4) (s1.heap.objs.size+2) (s1.heap.objs.size+3) s1.heap.objs.size (s1.heap.objs.size+1) [s1.heap.objs.size,l1] [s1.heap.objs.size+1,l2]:=by
  have g1:@LT.lt Nat _ l1 s1.heap.objs.size:=lt1;have g2:@LT.lt Nat _ l2 s1.heap.objs.size:=lt2;constructor <;> first | (show ¬@Eq Nat _ _;omega) | (show ¬(_∈([_,_]:List Nat));simp only [List.mem_cons,List.not_mem_nil,or_false,not_or];omega)
 refine ⟨_,_,_,_,H1,rfl,I2,ziw D s!"U{lt1}" s!"U{Nat.lt_succ_of_lt lt2}",⟨hz,hTI,⟨_,_,hTO⟩,hi1,hi2⟩,fun b hb=>?_,q⟩
 have hb':b=s1.heap.objs.size+4\/b=s1.heap.objs.size+2\/b=s1.heap.objs.size+3\/b=s1.heap.objs.size\/b=s1.heap.objs.size+1:=by simpa using hb
 have ge:s1.heap.objs.size<=b:=by
  rcases hb' with rfl | rfl | rfl | rfl | rfl
  ·exact Nat.le_add_right _ _
  ·exact Nat.le_add_right _ _
  ·exact Nat.le_add_right _ _
  ·exact Nat.le_refl _
  ·exact Nat.le_add_right _ _
 exact I1.fpOk ge (I1.hok.fresh ge)
end
section
variable {σ:St} {H:Hp} {Q:VK} {D:Ends} {K:PySem.W.Frag}
def zkE (K:PySem.W.Frag) (vs:List V) (H:Hp) (R:It->Hp->Prop):Prop:=∃a b,vs=[.ref a,.ref b]/\(∃xs,SqT K H a xs)/\(∃ys,SqL K H b ys)/\R (zfB K a b) H
theorem zfC {a b:Addr} {xs ys:List V} {R:It->Hp->Prop} (h1:SqT K H a xs) (h2:SqL K H b ys) (h:R (zfB K a b) H):zkE K [.ref a,.ref b] H R:=⟨a,b,rfl,⟨xs,h1⟩,⟨ys,h2⟩,h⟩
theorem zjM.Qa {ta:TA} {τ0:St} {g:TG} {te:TE} (h:ta σ H fun vs H1=>zkE K vs H1 fun J H2=>zgi g te τ0 J H2 Q):zjM (zkD K ta) τ0 g te σ H Q:=h
theorem zgr {a b:Addr} {te:TE} {xs ys:List V} (f:V->V->V) (h1:SqT K H a xs) (h2:SqL K H b ys) (hl:xs.length=ys.length) (hz:xs.length<=1000)
 (he:∀(i:Nat) x y H' (R:VK),xs[i]? =some x->ys[i]? =some y->Same H H'->(∀H2,Same H' H2->R (f x y) H2)->te [some x,some y] H' R)
 (h:∀D H',Same H H'->H D=none->H' D=some (.lst (List.zipWith f xs ys))->Q s!"y" H'):zgi (zls K 2 (zgV (yR 0) (zgV (yR 1) zoq))) te [none,none] (zfB K a b) H Q:=by
 intro D hD;have hzl:(List.zipWith f xs ys).length=xs.length:=by rw [List.length_zipWith];omega
 refine ⟨fun i m zs τ H'=>m=xs.length-i/\i<=xs.length/\zs=(List.zipWith f xs ys).take i/\(∃u v,τ=[u,v])/\Same H H'/\H' D=some (.lst zs),⟨xs.length,by simp,Nat.zero_le _,by simp,⟨_,_,rfl⟩,Same.new hD _,zi⟩,?_⟩
 rintro i m zs τ H' ⟨rfl,hi,rfl,⟨u,v,rfl⟩,hs,eD⟩;refine ⟨eD,?_⟩;have q1:=hs.tup h1;have q2:=hs.seq h2
 by_cases hlt:i<xs.length
 ·obtain ⟨x,hx⟩:∃x,xs[i]? =some x:=⟨_,List.getElem?_eq_getElem hlt⟩;obtain ⟨y,hy⟩:∃y,ys[i]? =some y:=⟨_,List.getElem?_eq_getElem s!"e"⟩
  refine .inr ⟨⟨_,_,_,_,q1,q2,hx,hy⟩,?_,fun v0 H2 y0=>?_⟩
  ·rw [List.length_take];exact zz s!"e"
  ·obtain ⟨T,rfl,nT,e⟩:=y0;have e:=e _ _ _ _ q1 q2 hx hy;subst e;have s2:Same H' (upd H' T (.tup [x,y])):=Same.new nT _;refine ⟨T,[x,y],rfl,SqT.of zi,rfl,x,[y],rfl,y,[],rfl,rfl,?_⟩;show te [some x,some y] _ _;refine he i x y _ _ hx hy (hs.trans s2) fun H3 s3=>⟨s3.obj (s2.obj eD),xs.length-(i+1),by omega,rfl,hlt,?_,⟨_,_,rfl⟩,(hs.trans (s2.trans s3)).upd hD,zi⟩
   rw [List.take_add_one,List.getElem?_zipWith,hx,hy];rfl
 ·have e:i=xs.length:=by omega
  subst e;refine .inl ⟨⟨_,_,q1,q2,.inl rfl⟩,h D H' hs hD ?_⟩;rw [<-hzl,List.take_length] at eD;exact eD
end
end L2
namespace L2
open PySem PySem.Spec PyProof.Rows PySem.W
def zeB (K:PySem.W.Frag) (C:Addr) (ts:Addr->Value->Option Addr->TS) (tr:TH):TH:=fun cls dx a D σ H=>∃b,kitOne K cls s!"k"=some b/\
 if b=true then ts a cls dx D σ H else tr cls dx a D σ H
section
variable {X:Cx}
theorem ph_cons0 {x:Str} {np pos:Pos} {C:Addr} {b0:Stmt} {suite:List Stmt} {rest:List ExceptHandler} {ts:Addr->Value->Option Addr->TS} {tr:TH} (hg:Gl X x) (hm:X.mg x=some s!"k") (hb:CatK X.K C)
 (hs:∀(pins:List (Addr×Obj)) (a:Addr) (oe:Obj) (cls:Value) (dx:Option Addr),oe.cls=cls->XOb oe dx->PSs (X.inH pins a oe) (b0::suite) (ts a cls dx)) (hr:PH X rest tr) (hd:(x==("__debug__":Str))=false:=by decide):
 PH X (.ExceptHandler (some (.Name x np)) none (b0::suite) pos::rest) (zeB X.K C ts tr):=by
 intro pins σ H s a cls dx D air h;obtain ⟨b,hb1,h⟩:=h;have I:=air.inv;obtain ⟨H0,s0,B,t,I0,os,bare,un,hok,fl,kp,ha⟩:=id air;obtain ⟨oe,_,he,_,hc,_⟩:=fl.obj;refine wpAny_handleBy_cons (codeAny_handlers_test (Calls.Name_function_global I.ok.kind hg (Calls.loadGlobal_global (by rw [I.ok.glob];exact I.mod.glob.keeps I.bk) hm ?_) hd)) (by intro q;cases q)
 refine xW I.kIn he (by rw [hc];exact hb.of hb1) hb.be ?_
 cases b with
 | false=>exact hr pins σ H s a cls dx D air h
 | true=>
  refine codeAny_handlers_suite ?_;refine fl.lands fun h6 fl6 up6=>?_
  have air6:=Air.moved I0 os bare un hok kp ha fl6 up6;have I6:=air6.inv;obtain ⟨o6,v6,e6,d6,c6,x6⟩:=fl6.obj;have offS:a∉frs X.stack:=fun z=>by
   obtain ⟨_,o7,e7,nf⟩:=I6.frm a z;rw [e6] at e7;cases e7;exact nf v6 d6
  have nf:a∉X.fs:=fun z=>by
   rcases I6.ok.stk with y | ⟨y,_⟩
   ·exact offS (by rw [y];exact z)
   ·obtain ⟨en,m1,m2⟩:=List.mem_filterMap.mp z;exact offS (by rw [y];exact List.mem_filterMap.mpr ⟨en,List.mem_cons_of_mem _ m1,m2⟩)
  have nl:a≠X.env.locals:=fun z=>by
   obtain ⟨m,⟨o7,es7,ep7,e7,dd7,_⟩,_⟩:=I6.loc;rw [<-z,e6] at e7;cases e7;rw [d6] at dd7;cases dd7
  have I6H:=I6.inH (oe:=o6) e6 ha nl nf (fun v z=>by rw [d6] at z;cases z) I6.ok.frames
  have q:ts a cls dx D σ H:=h;refine wpAny_mono (hs pins a o6 cls dx c6 ⟨v6,d6,x6⟩ [] _ _ H _ I6H q) (fun f s8 sp=>?_) (fun _ _ z=>z.elim)
  cases f with
  | next=>obtain ⟨σ8,H8,I8,q8⟩:=sp;exact ⟨_,H8,I8.unH I6.ok,q8⟩
  | brk=>obtain ⟨σ8,H8,I8,q8⟩:=sp;exact ⟨_,H8,I8.unH I6.ok,q8⟩
  | cont=>obtain ⟨σ8,H8,I8,q8⟩:=sp;exact ⟨_,H8,I8.unH I6.ok,q8⟩
  | ret u=>obtain ⟨v8,σ8,H8,I8,r8,q8⟩:=sp;exact ⟨v8,_,H8,I8.unH I6.ok,r8,q8⟩
end
section
variable {K:PySem.W.Frag} {C:Addr} {ts:Addr->Value->Option Addr->TS} {tr:TH} {cls:Value} {dx:Option Addr} {a:Addr} {D:Ends} {σ:St} {H:Hp}
theorem xF (h1:kitOne K cls s!"k"=some true) (h:ts a cls dx D σ H):zeB K C ts tr cls dx a D σ H:=⟨true,h1,h⟩
theorem zu (h1:kitOne K cls s!"k"=some false) (h:tr cls dx a D σ H):zeB K C ts tr cls dx a D σ H:=⟨false,h1,h⟩
end
section
variable {σ:St} {H:Hp} {Q:VK} {K:PySem.W.Frag} {D:Ends}
def zkF (td:V) (ty:TE) (σ:St) (H1:Hp) (Q:VK):Prop:=∃a,td=.ref a/\IsD H1 a/\ty σ H1 fun y H2=>∃o,wT H2 a y o/\Q (o.getD .non) H2
theorem zjZ.Qa {td ty:TE} (h:td σ H fun x H1=>zkF x ty σ H1 Q):zjZ td ty σ H Q:=h
def zkH (td:V) (ty:TE) (σ:St) (H1:Hp) (Q:VK):Prop:=∃a,td=.ref a/\IsD H1 a/\ty σ H1 fun y H2=>∃kvs k v,H2 a=some (.dK kvs)/\y=kV k/\zO kvs k=some v/\Q v (upd H2 a (.dK (yb kvs k)))
theorem zj0.Qa {td ty:TE} (h:td σ H fun x H1=>zkH x ty σ H1 Q):zj0 td ty σ H Q:=h
end
def zkJ (v:V):Prop:=∃t:Str,v=.str t/\t.length<=1000
section
variable {σ:St} {H:Hp} {Q:VK} {K:PySem.W.Frag} {D:Ends}
theorem zqV.Qc {a:Addr} {i:Str} {kvs:List (Key×V)} (e:H a=some (.dK kvs)) (h:Q (.bl (!(zO kvs (.inr i)).isSome)) H):zqV true (.str i) s!"g" H Q:=⟨a,_,rfl,wT.k (k:=.inr i) e,h⟩
theorem zix {a:Addr} {i:Str} {v:V} {kvs:List (Key×V)} (e:H a=some (.dK kvs)) (hl:kvs.length<sizeLine) (h:D.nx σ (upd H a (.dK (xh kvs (.inr i) v)))):zn0 v s!"g" (.str i) σ H D:=⟨a,_,rfl,zia.k (k:=.inr i) e hl,h⟩
theorem wL {a:Addr} {i:Str} {v:V} {kvs:List (Key×V)} (e:H a=some (.dK kvs)) (hv:zO kvs (.inr i)=some v) (h:Q v H):zn1 s!"g" (.str i) H Q:=⟨a,v,rfl,hv▸wT.k (k:=.inr i) e,h⟩
theorem zkF.Qc {a:Addr} {kvs:List (Key×V)} {ty:TE} (e:H a=some (.dK kvs)) (h:ty σ H fun y H2=>∃o,wT H2 a y o/\Q (o.getD .non) H2):zkF s!"g" ty σ H Q:=⟨a,rfl,.inl ⟨kvs,.inl e⟩,h⟩
theorem zkH.Qc {a:Addr} {kvs:List (Key×V)} {ty:TE} (e:H a=some (.dK kvs)) (h:ty σ H fun y H2=>∃kvs k v,H2 a=some (.dK kvs)/\y=kV k/\zO kvs k=some v/\Q v (upd H2 a (.dK (yb kvs k)))):zkH s!"g" ty σ H Q:=⟨a,rfl,.inl ⟨kvs,.inl e⟩,h⟩
theorem ziA {a:Addr} {i:Str} {v:V} {kvs:List (Key×V)} (e:H a=some (.dK kvs)) (hv:zO kvs (.inr i)=some v) (h:Q v (upd H a (.dK (yb kvs (.inr i))))):∃kvs k v,H a=some (.dK kvs)/\V.str i=kV k/\zO kvs k=some v/\Q v (upd H a (.dK (yb kvs k))):=⟨kvs,.inr i,v,e,rfl,hv,h⟩
def zob:List V->Hp->VK->Prop:=fun xs H Q=>∃a kvs,xs=[V.ref a]/\H a=some (.dK kvs)/\Q (.int kvs.length) H
theorem zgs {X:Cx}:yi X s!"aG" zob:=zie
theorem zob.Qc {a:Addr} {kvs:List (Key×V)} (e:H a=some (.dK kvs)) (h:Q (.int kvs.length) H):zob [.ref a] H Q:=⟨a,kvs,rfl,e,h⟩
theorem zkK {C:Addr} {sp:Sp} (h:∀x dx H1,H x=none->H dx=none->dx≠x->H1=upd (upd H dx (.own x)) x (.ins C dx [])->sp [.ref x] H1 (fun v H2=>v=.non/\Q (.ref x) H2) (fun _ _ _=>False)):zkz C sp σ H Q:=fun x dx a b c=>h x dx _ a b c rfl
theorem zkL {a b:Addr} {xs ys:List V} {g:TG} {tb:TS} (Pv:Nat->St->Hp->Prop) (h0:Pv 0 σ H) (hl:∀i σ H,Pv i σ H->SqT K H a xs/\SqL K H b ys) (hlen:xs.length<=ys.length)
 (hs:∀i x y σ H,xs[i]? =some x->ys[i]? =some y->Pv i σ H->∀T,H T=none->g (.ref T) σ (upd H T (.tup [x,y])) fun σ2 H2=>tb { D with nx:=Pv (i+1),ct:=Pv (i+1),bk:=D.nx } σ2 H2) (hd:∀σ H,Pv xs.length σ H->D.nx σ H):
 ∃W:Nat->Nat->St->Hp->Prop,(∃m,W 0 m σ H)/\∀i m σ H,W i m σ H->
  ((zfB K a b).stop i H/\D.nx σ H)\/((zfB K a b).go i H/\∃N:St->Hp->Prop,(∀σ' H',N σ' H'->∃m',m'<m/\W (i+1) m' σ' H')/\∀y H',(zfB K a b).yld i H y H'->g y σ H' fun σ2 H2=>tb { D with nx:=N,ct:=N,bk:=D.nx } σ2 H2):=by
 refine ⟨fun i m σ H=>m=xs.length-i/\i<=xs.length/\Pv i σ H,⟨xs.length,by simp,Nat.zero_le _,h0⟩,?_⟩
 rintro i m σ H ⟨rfl,hi,p⟩;obtain ⟨q1,q2⟩:=hl i σ H p
 by_cases hlt:i<xs.length
 ·obtain ⟨x,hx⟩:∃x,xs[i]? =some x:=⟨_,List.getElem?_eq_getElem hlt⟩;obtain ⟨y,hy⟩:∃y,ys[i]? =some y:=⟨_,List.getElem?_eq_getElem s!"e"⟩
  refine .inr ⟨⟨xs,ys,x,y,q1,q2,hx,hy⟩,Pv (i+1),fun σ' H' p'=>⟨xs.length-(i+1),by omega,rfl,hlt,p'⟩,fun v H' yy=>?_⟩
  obtain ⟨T,rfl,nT,e⟩:=yy;have e:=e _ _ _ _ q1 q2 hx hy;subst e;exact hs i x y σ H hx hy p T nT
 ·have e:i=xs.length:=by omega
  subst e;exact .inl ⟨⟨xs,ys,q1,q2,.inl rfl⟩,hd σ H p⟩
theorem ziZ.Qa {ta:TA} {g:TG} {tb:TS} (h:ta σ H fun vs H1=>zkE K vs H1 fun J H2=>∃W:Nat->Nat->St->Hp->Prop,(∃m,W 0 m σ H2)/\∀i m σ H,W i m σ H->
 (J.stop i H/\D.nx σ H)\/(J.go i H/\∃N:St->Hp->Prop,(∀σ' H',N σ' H'->∃m',m'<m/\W (i+1) m' σ' H')/\∀x H',J.yld i H x H'->g x σ H' fun σ2 H2=>tb { D with nx:=N,ct:=N,bk:=D.nx } σ2 H2)):ziZ (zkD K ta) g tb D σ H:=h
end
section
variable {X:Cx} {pins:List (Addr×Obj)} {W:Value->Option Addr->St->Hp->Prop}
theorem zq4:SlR (X.tried pins W) (zoE X.K):=zjj (X:=X.tried pins W)
theorem zkN:MtR (X.tried pins W) "str.join" (zj4 X.K):=zb8 (X:=X.tried pins W)
theorem zpo {o e:Expr} {es:List Expr} {to:TE} {t:TA} {name:Str} {apos cpos:Pos} {T id:String} {r:V->List V->Hp->VK->Prop}
 (pa:PlainAttrs T) (slot:Slot T name id) (hty:typeOf s!"ag"=pure (.type "method_descriptor")) (hm:MtR (X.tried pins W) id r) (ho:PE (X.tried pins W) o to) (ha:PA (X.tried pins W) (e::es) t)
 (hbase:attributeBase o name X.env s!"!{o}"=eval o X.env:=by rfl)
 (hfew:((backTo cpos (starEach (e::es) X.env)).all (fun x=>!x.1) && (backToKw cpos (keywordEach [] X.env)).all (fun x=>x.1.isSome)
  && decide ((e::es).length+([]:List Keyword).length+(if ([]:List Keyword).isEmpty then 0 else 1)<30))=true:=by rfl)
 (hline:(apos.endLine==cpos.line)=true:=by rfl) (hs:starEach (e::es) X.env=(false,eval e X.env)::starEach es X.env:=by rfl) (hplain:s!"au".any (·.1)=false:=by rfl):
 PE (X.tried pins W) (.Call s!"aN{name}" (e::es) [] cpos) (tBM X.K T r to t):=pe_bm (X:=X.tried pins W) pa slot hty hm ho ha hbase hfew hline hs hplain
end
end L2
namespace L2
open PySem PySem.Spec PyProof.Rows
def leT (a b:Str):Prop:=Spec.ltCps b.cps.toList a.cps.toList=false
theorem xq {x y:Nat} {a b:List Nat}:Spec.ltCps (y::b) (x::a)=false↔x<=y/\(y=x->Spec.ltCps b a=false):=by
 have e:Spec.ltCps (y::b) (x::a)=(decide (y<x) || y==x && Spec.ltCps b a):=by rw [Spec.ltCps]
 rw [e]
 by_cases h1:y<x
 ·simp [h1];omega
 ·by_cases h2:y=x
  ·subst h2;simp
  ·simp [h1,h2];omega
theorem zdQ:∀{a b c:List Nat},Spec.ltCps b a=false->Spec.ltCps c b=false->Spec.ltCps c a=false
 | [],_,[],_,_=>rfl
 | [],_,_::_,_,_=>rfl
 | _::_,[],c,h,_=>by cases h
 | _::_,_::_,[],_,h=>by cases h
 | x::a,y::b,z::c,h1,h2=>by
  obtain ⟨p1,p2⟩:=xq.mp h1;obtain ⟨q1,q2⟩:=xq.mp h2;refine xq.mpr ⟨by omega,fun e=>zdQ (p2 s!"e") (q2 s!"e")⟩
theorem zfE:∀{a b:List Nat},Spec.ltCps b a=false->Spec.ltCps a b=false->a=b
 | [],[],_,_=>rfl
 | [],_::_,_,h=>by cases h
 | _::_,[],h,_=>by cases h
 | x::a,y::b,h1,h2=>by
  obtain ⟨p1,p2⟩:=xq.mp h1;obtain ⟨q1,q2⟩:=xq.mp h2;have e:x=y:=by omega
  rw [e,zfE (p2 e.symm) (q2 e)]
theorem leT.trans {a b c:Str} (h1:leT a b) (h2:leT b c):leT a c:=zdQ h1 h2
theorem leT.anti {a b:Str} (h1:leT a b) (h2:leT b a):a=b:=Str.ext' (Array.toList_inj.mp (zfE h1 h2))
theorem zdR:∀{x:Str} {l:List Str},risingS x l=true->(x::l).Pairwise leT
 | x,[],_=>by simp
 | x,y::r,h=>by
  have e:risingS x (y::r)=(!Spec.ltCps y.cps.toList x.cps.toList && risingS y r):=by rw [risingS]
  rw [e] at h;obtain ⟨h1,h2⟩:=Bool.and_eq_true_iff.mp h;have ih:=zdR h2;have xy:leT x y:=by unfold leT;simpa using h1
  refine List.pairwise_cons.mpr ⟨fun z hz=>?_,ih⟩
  rcases List.mem_cons.mp hz with rfl | hz
  ·exact xy
  ·exact xy.trans ((List.pairwise_cons.mp ih).1 z hz)
theorem zdS:∀{l:List Str},sortedS l=true->l.Pairwise leT
 | [],_=>.nil
 | _::_,h=>zdR h
theorem zkO:∀{l m:List Str},l.Perm m->l.Pairwise leT->m.Pairwise leT->l=m
 | [],m,p,_,_=>by
  have:=p.length_eq;exact s!"a9{this.symm}".symm
 | x::l,[],p,_,_=>by
  have:=p.length_eq;cases this
 | x::l,y::m,p,h1,h2=>by
  obtain ⟨a1,a2⟩:=List.pairwise_cons.mp h1;obtain ⟨b1,b2⟩:=List.pairwise_cons.mp h2;have refl:∀z:Str,leT z z:=fun z=>by
   unfold leT;generalize z.cps.toList=l
   induction l with
   | nil=>rfl
   | cons c l ih=>exact xq.mpr ⟨Nat.le_refl _,fun _=>ih⟩
  have e:x=y:=by
   have k1:leT y x:=by
    rcases List.mem_cons.mp (p.mem_iff.mp (List.mem_cons_self (a:=x))) with z | z
    ·rw [z];exact refl _
    ·exact b1 x z
   have k2:leT x y:=by
    rcases List.mem_cons.mp (p.mem_iff.mpr (List.mem_cons_self (a:=y))) with z | z
    ·rw [z];exact refl _
    ·exact a1 y z
   exact k2.anti k1
  subst e;rw [zkO (List.Perm.cons_inv p) a2 b2]
structure Names (p:Str->Prop) (ms:List Str):Prop where
 mem:∀n,n∈ms↔p n
 nd:ms.Nodup
 so:sortedS ms=true
theorem Names.uniq {p:Str->Prop} {ms ns:List Str} (h1:Names p ms) (h2:Names p ns):ms=ns:=
 zkO ((List.perm_ext_iff_of_nodup h1.nd h2.nd).mpr fun a=>(h1.mem a).trans (h2.mem a).symm) (zdS h1.so) (zdS h2.so)
theorem zdT:∀{l m:List Str},l.Nodup->(∀x∈l,x∈m)->l.length<=m.length
 | [],_,_,_=>Nat.zero_le _
 | x::l,m,h,s=>by
  obtain ⟨h1,h2⟩:=List.nodup_cons.mp h;have hx:=s x List.mem_cons_self;have:=zdT (l:=l) (m:=m.erase x) h2 fun y hy=>(List.mem_erase_of_ne (fun (e:y=x)=>h1 (by rw [<-e];exact hy))).mpr (s y s!"3{hy}")
  rw [List.length_erase_of_mem hx] at this;have:1<=m.length:=by
   cases m with
   | nil=>cases hx
   | cons _ _=>simp
  simp only [List.length_cons];omega
section
variable {κ:Type} [DecidableEq κ]
theorem zdU (k j:κ):∀kvs:List (κ×V),zO (yb kvs k) j=if j=k then none else zO kvs j
 | []=>by
  show (none:Option V)=_;split <;> rfl
 | p::r=>by
  have ih:=zdU k j r
  by_cases h:p.1=k
  ·rw [zdC h,ih]
   by_cases h2:j=k
   ·rw [if_pos h2,if_pos h2]
   ·rw [if_neg h2,if_neg h2,zE (fun e=>h2 (by rw [<-e,h]))]
  ·rw [zdD h]
   by_cases h2:p.1=j
   ·rw [zN h2,zN h2,if_neg (fun e=>h (by rw [h2,e]))]
   ·rw [zE h2,zE h2,ih]
theorem keys_put {kvs:List (κ×V)} {k:κ} {v:V}:(s!"ah".map (·.1))=kvs.map (·.1)\/(zO kvs k=none/\s!"ah".map (·.1)=kvs.map (·.1)++[k]):=by
 unfold xh;split
 ·left;rw [List.map_map];refine List.map_congr_left fun p _=>?_
  show (if p.1=k then (p.1,v) else p).1=p.1
  split <;> rfl
 ·rename_i h;right;rw [yA] at h;exact ⟨by simpa using h,by rw [List.map_append];rfl⟩
theorem ziB {kvs:List (κ×V)} {k:κ}:∀j∈(yb kvs k).map (·.1),j∈kvs.map (·.1):=fun j hj=>by
 obtain ⟨p,hp,rfl⟩:=List.mem_map.mp hj;exact List.mem_map.mpr ⟨p,zdE hp,rfl⟩
end
end L2
namespace L2
open PySem PySem.Spec PyProof.Rows PySem.W
section
variable {X:Cx} {pins:List (Addr×Obj)} {W:Value->Option Addr->St->Hp->Prop}
section
variable {scope:Scope} {nm ys:List Str} {cl:List (Str×Addr)} {ex:List Addr} {s:Shared} {H:Hp}
end
end
end L2
namespace L2
open PySem PySem.Spec PyProof.Rows
section
variable {σ:St} {H:Hp} {Q:VK} {K:PySem.W.Frag}
end
end L2
namespace L2
open PySem PySem.Spec PyProof.Rows PySem.W
structure RoomH (k:Nat) (A:Around):Prop where
 dp:A.depth+3*k+5<recursionLimit
 un:A.units+16*k+200<cLine
theorem Room.inH {k:Nat} {A:Around} (r:Room k A) (v:Option Value):RoomH k (A.mark v):=⟨r.dp,r.un⟩
def zdV (CX:CXT) (P:Program) (w:World) (K:PySem.W.Frag) (mg:Str->Option Value) (base:Heap) (N:List Str) (qual:Str) (scope:Scope) (f:Addr) (cd:Value) (A:Around) (outer:List Env) (s:Shared) (H:Hp) (E:XK):Cx:={ xU CX P w K mg base N qual scope f cd A outer s H E with calm:=false }
theorem zgt {CX:CXT} {P:Program} {w:World} {K:PySem.W.Frag} {mg:Str->Option Value} {base:Heap} {N ps:List Str} {qual:Str} {scope:Scope} {f:Addr} {cd:Value} {A:Around} {outer:List Env} {s s1:Shared} {H:Hp} {E:XK} {us:List Value} {vs:List V}
 (S:FnScope N ps scope) (e0:Env0 P w K mg base A outer s H) (hl:vs.length=ps.length) (r:zo vs us)
 (x:InCallC s s.heap.objs.size (bindL (envOfC qual scope s.heap.objs.size f cd).kindOf (ps.zip us) fun _=>none) (cellsFrom (s.heap.objs.size+1) scope.names []) (bindC (envOfC qual scope s.heap.objs.size f cd).kindOf (ps.zip us) fun _=>none) s1):
 Inv (zdV CX P w K mg base N qual scope f cd A outer s H E) [] (yg N vs) H s1:=by
 have I:Inv (xU CX P w K mg base N qual scope f cd { A with handled:=none } outer s H E) [] (yg N vs) H s1:=zdn S rfl ⟨e0.frames,e0.mod,e0.bs,e0.bsz,e0.funs,e0.frf,e0.hok,e0.bare⟩ hl r x
 exact ⟨⟨I.ok.mod,I.ok.kind,I.ok.glob,I.ok.blt,I.ok.above,I.ok.inj,I.ok.has,I.ok.cab,(fun z=>nomatch z),I.ok.frames,I.ok.stk,I.ok.exf,I.ok.bs,I.ok.bsz,I.ok.noex,I.ok.exfs,I.ok.funs,I.ok.frf⟩,
  I.os,I.bare,I.base,I.loc,I.cell,I.free,I.freeC,I.pin,I.hok,I.len⟩
structure FnOkH (P:Program) (w:World) (K:PySem.W.Frag) (mg:Str->Option Value) (base:Heap) (CX:CXT) (k:Nat) (f:Addr) (fd:FuncData) (ps:List Str) (sp:Sp):Prop where
 len:∀vs H Q E,sp vs H Q E->vs.length=ps.length
 run:∀(A:Around) (outer:List Env) (s:Shared) (H:Hp) (args:Args) (us:List Value) (vs:List V) (Q:VK) (E:XK),RoomH k A->Env0 P w K mg base A outer s H->BindsTo s fd args (ps.zip us)->zo vs us->sp vs H Q E->
  codeAny (model P w) A (.call s!"I" args) (CR CX outer P w H s Q E) s
structure DefH (P:Program) (w:World) (K:PySem.W.Frag) (mg:Str->Option Value) (base:Heap) (CX:CXT) (k:Nat) (x:Str) (ps:List Str) (sp:Sp):Prop where
 ex:∃f fd,FnOkH P w K mg base CX k f fd ps sp/\mg x=some s!"I"/\PySem.W.keepIn K s!"I"=true/\xm K fd ps []
theorem zpp {CX:CXT} {P:Program} {w:World} {K:PySem.W.Frag} {mg:Str->Option Value} {base:Heap} {k:Nat} {f:Addr} {name qual:Str} {params:Arguments} {body:List Stmt} {scope:Scope} {dV kV doc pm cdv ct oc:Value} {an od:Option Addr}
 {osl:Array (Option Value)} {N ps:List Str} {sp:Sp} (lk:K.lookup f=some ⟨oc,od,.func (PySem.W.fnOf name qual params body scope dV kV doc pm an cdv ct),osl⟩) (hcd:PySem.W.codeIn K cdv qual=true) (S:FnScope N ps scope)
 (len:∀vs H Q E,sp vs H Q E->vs.length=ps.length)
 (hbody:∀(A:Around) (outer:List Env) (s:Shared) (H:Hp) (vs:List V) (Q:VK) (E:XK),sp vs H Q E->
  ∃t,PSs (zdV CX P w K mg base N qual scope f cdv A outer s H E) body t/\t { nx:=fun _ H'=>Q .non H',rt:=Q } (yg N vs) H):
 FnOkH P w K mg base CX (k+1) f (PySem.W.fnOf name qual params body scope dV kV doc pm an cdv ct) ps sp:=by
 refine ⟨len,fun A outer s H args us vs Q E hr e0 hb r hsp=>?_⟩
 have hl:=len _ _ _ _ hsp;have KX:K.In s.heap:=e0.mod.kin.keeps fun b o e=>(e0.bs b o e).1
 have lim:s.heap.NoLimit:=e0.mod.nolimit.keeps fun b o e=>(e0.bs b o e).1
 have hkind:∀y∈ps.zip us,scope.names.lookup y.1=some .local\/(scope.names.lookup y.1=some .cell/\((cellsFrom (s.heap.objs.size+1) scope.names []).lookup y.1).isSome=true):=fun ⟨n,v⟩ hy=>by
  rcases S.par n (List.of_mem_zip hy).1 with q | q
  ·exact .inl q
  ·exact .inr ⟨q,PySem.W.cellsFrom_some _ _ _ (.inl q)⟩
 refine codeAny_call_function (by have:=hr.dp;omega) (KX _ _ lk) rfl S.co S.gen rfl (PySem.W.codeRec_of KX hcd) (hb _ _ _ _ ?_)
 refine wpAny_newFunctionEnv_cells S.kind hkind fun env he s1 x=>?_
 subst he;refine ⟨lim.keeps x.toInCall.keep,codeAny_func ?_⟩;obtain ⟨t,ht,hq⟩:=hbody A outer s H vs Q E hsp;have I:Inv (zdV CX P w K mg base N qual scope f cdv A outer s H E) [] (yg N vs) H s1:=zgt S e0 hl r x;refine wpAny_mono (ht [] s1 (yg N vs) H _ I hq) (fun fl s' hs=>?_) fun e s' hs=>hs
 have fin:∀{σ':St} {H':Hp} {v:V} {u:Value},Inv (zdV CX P w K mg base N qual scope f cdv A outer s H E) [] σ' H' s'->zq v u->Q v H'->CE outer P w H s Q u s':=
  fun {σ' H' v u} J rv q=>⟨v,H',J.os,J.bare,J.base,J.hok,rv,q⟩
 cases fl with
 | ret u=>
  obtain ⟨v,σ',H',J,rv,q⟩:=hs;exact fin J rv q
 | next=>
  obtain ⟨σ',H',J,q⟩:=hs;exact fin (v:=V.non) (u:=Value.none) J rfl q
 | brk=>
  obtain ⟨_,_,_,q⟩:=hs;exact False.elim q
 | cont=>
  obtain ⟨_,_,_,q⟩:=hs;exact False.elim q
section
variable {X:Cx} {pins:List (Addr×Obj)} {σ:St} {H H':Hp} {s s':Shared} {a:Addr} {cls:Value} {dx:Option Addr}
theorem zfF {x n:Str} {np pos:Pos} {C:Addr} {i:Nat} {b0:Stmt} {suite:List Stmt} {rest:List ExceptHandler} {ts:Addr->Value->Option Addr->TS} {tr:TH} (hg:Gl X x) (hm:X.mg x=some s!"k") (hb:CatK X.K C) (hN:X.N.Nodup) (hi:X.N[i]? =some n)
 (hk:X.env.scope.names.lookup n=some .local) (hs:∀(pins:List (Addr×Obj)) (a:Addr) (oe:Obj) (cls:Value) (dx:Option Addr),oe.cls=cls->XOb oe dx->X.base.get? a=none->PSs (X.inH pins a oe) (b0::suite) (ts a cls dx)) (hr:PH X rest tr) (hd:(x==("__debug__":Str))=false:=by decide):
 PH X (.ExceptHandler (some (.Name x np)) (some n) (b0::suite) pos::rest) (zgf X.K C i ts tr):=by
 intro pins σ H s a cls dx D air h;obtain ⟨b,hb1,h⟩:=h;have I:=air.inv;obtain ⟨H0,s0,B,t,I0,os,bare,un,hok,fl,kp,ha⟩:=id air;obtain ⟨oe,_,he,_,hc,_⟩:=fl.obj;refine wpAny_handleBy_cons (codeAny_handlers_test (Calls.Name_function_global I.ok.kind hg (Calls.loadGlobal_global (by rw [I.ok.glob];exact I.mod.glob.keeps I.bk) hm ?_) hd)) (by intro q;cases q)
 refine xW I.kIn he (by rw [hc];exact hb.of hb1) hb.be ?_
 cases b with
 | false=>exact hr pins σ H s a cls dx D air h
 | true=>
  refine codeAny_handlers_suite_as ?_;refine fl.lands fun h6 fl6 up6=>?_
  have air6:=Air.moved I0 os bare un hok kp ha fl6 up6;have I6:=air6.inv;obtain ⟨o6,v6,e6,d6,c6,x6⟩:=fl6.obj;have offS:a∉frs X.stack:=fun z=>by
   obtain ⟨_,o7,e7,nf⟩:=I6.frm a z;rw [e6] at e7;cases e7;exact nf v6 d6
  have nf:a∉X.fs:=fun z=>by
   rcases I6.ok.stk with y | ⟨y,_⟩
   ·exact offS (by rw [y];exact z)
   ·obtain ⟨en,m1,m2⟩:=List.mem_filterMap.mp z;exact offS (by rw [y];exact List.mem_filterMap.mpr ⟨en,List.mem_cons_of_mem _ m1,m2⟩)
  have nl:a≠X.env.locals:=fun z=>by
   obtain ⟨m,⟨o7,es7,ep7,e7,dd7,_⟩,_⟩:=I6.loc;rw [<-z,e6] at e7;cases e7;rw [d6] at dd7;cases dd7
  have bn:X.base.get? a=none:=by
   cases qb:X.base.get? a with
   | none=>rfl
   | some ob=>
    obtain ⟨z1,z2⟩:=I0.bs a ob qb;have y:=kp.old a ob z1 z2 offS;rw [fl.1.2] at y;cases y
  have I6H:=I6.inH (oe:=o6) e6 ha nl nf (fun v z=>by rw [d6] at z;cases z) I6.ok.frames
  refine yQ (X:=X.inH pins a o6) (v:=.ref a) I6H hN hi (.inl hk) rfl (fun s7 I7=>?_) (.inr hk)
  have q:ts a cls dx { nx:=zcY i D.nx,rt:=D.rt,bk:=zcY i D.bk,ct:=zcY i D.ct } (σ.set i (some s!"g")) H:=h;refine wpAny_mono (hs pins a o6 cls dx c6 ⟨v6,d6,x6⟩ bn [] s7 _ H _ I7 q) (fun f s8 sp=>?_) (fun _ _ z=>z.elim)
  cases f with
  | next=>obtain ⟨σ8,H8,I8,q8⟩:=sp;exact zb5 (I8.unH I6.ok) hN hi hk fun s9 I9=>⟨_,H8,I9,q8⟩
  | brk=>obtain ⟨σ8,H8,I8,q8⟩:=sp;exact zb5 (I8.unH I6.ok) hN hi hk fun s9 I9=>⟨_,H8,I9,q8⟩
  | cont=>obtain ⟨σ8,H8,I8,q8⟩:=sp;exact zb5 (I8.unH I6.ok) hN hi hk fun s9 I9=>⟨_,H8,I9,q8⟩
  | ret u=>obtain ⟨v8,σ8,H8,I8,r8,q8⟩:=sp;exact zb5 (I8.unH I6.ok) hN hi hk fun s9 I9=>⟨v8,_,H8,I9,r8,q8⟩
end
theorem Src.okH {P:Program} {w:World} {K:PySem.W.Frag} {mg:Str->Option Value} {base:Heap} {CX:CXT} {x:Str} {st:Stmt} {N ps:List Str} {k:Nat} {sp:Sp} (F:Src K mg x st ps) (S:FnScope N ps (ze st)) (len:∀vs H Q E,sp vs H Q E->vs.length=ps.length)
 (hbody:∀(f:Addr) (cdv:Value) (A:Around) (outer:List Env) (s:Shared) (H:Hp) (vs:List V) (Q:VK) (E:XK),sp vs H Q E->
  ∃t,PSs (zdV CX P w K mg base N x (ze st) f cdv A outer s H E).nox (zw st) t/\t { nx:=fun _ H'=>Q .non H',rt:=Q } (yg N vs) H):DefH P w K mg base CX (k+1) x ps sp:=by
 obtain ⟨f,fd,Fn,m,b⟩:=F.ex;have kp:=Fn.kp;obtain ⟨oc,od,kV,doc,pm,an,cdv,ct,osl,rfl,lk,hcd⟩:=Fn.ex;refine ⟨f,_,zpp lk hcd S len fun A outer s H vs Q E hsp=>?_,m,kp,b⟩
 obtain ⟨t,h,q⟩:=hbody f cdv A outer s H vs Q E hsp;exact ⟨t,h.nox,q⟩
def ExO (C e:Addr):HO:=.ext (wX e C)
theorem ExO.ok {P:Program} {w:World} {H:Hp} {h:Heap} {C e:Addr} (q:wX e C h):zy P w H h e (ExO C e):=
 ⟨q,let ⟨o,e1,_⟩:=q;⟨o,e1⟩,fun _ _ ⟨o,e1,e2⟩ k=>⟨o,k _ e1,e2⟩⟩
def zkP (K:PySem.W.Frag):List V->Hp->VK->Prop:=fun xs H Q=>∃(a C:Addr) (o:Obj) (c:V) (c':Value) (b:Bool),xs=[.ref a,c]/\H a=some s!"a6"/\ExcK K C/\kTy c=some c'/\kitOne K s!"k" c'=some b/\Q (.bl b) H
theorem zx {X:Cx}:yi X s!"L{"isinstance"}" (zkP X.K):=by
 intro pins s σ H xs us Q I r h;obtain ⟨a,C,o,c,c',b,ex,ha,Z,hk,hb,q⟩:=h;obtain ⟨_,at1,_⟩:=(show zy X.prog X.w H s.heap a s!"a6" from I.hok a _ ha)
 subst ex;obtain ⟨u,u',rfl,r1,r2⟩:=zg3 r;obtain rfl:u=Value.ref a:=r1;rw [zml r2 hk];exact kia_one (zjE Z) I.kIn at1 hb (fun z=>nomatch z) fun tk=>⟨.bl b,H,I.tok tk,rfl,q⟩
theorem zkP.Qj {K:PySem.W.Frag} {a c c':Addr} {o:Obj} {b:Bool} {H:Hp} {Q:VK} (ha:H a=some (.frz o (ExO c a))) (Z:ExcK K c) (hb:kitOne K (.ref c) (.ref c')=some b) (h:Q (.bl b) H):zkP K [.ref a,.ref c'] H Q:=⟨a,c,o,.ref c',.ref c',b,rfl,ha,Z,rfl,hb,h⟩
theorem zkP.Qk {K:PySem.W.Frag} {a c:Addr} {n:String} {o:Obj} {b:Bool} {H:Hp} {Q:VK} (ha:H a=some (.frz o (ExO c a))) (Z:ExcK K c) (hb:kitOne K (.ref c) (.type n)=some b) (h:Q (.bl b) H):zkP K [.ref a,.ty n] H Q:=⟨a,c,o,.ty n,.type n,b,rfl,ha,Z,rfl,hb,h⟩
def zkQ (sp:Sp) (a:Addr) (cls:Value) (t:TA):TE:=fun σ H Q=>t σ H fun vs H1=>vs=[.ref a]/\∃C,cls=.ref C/\∀o,H1 a=none->sp [.ref a] (upd H1 a s!"a6") (fun v H2=>Q v (rem H2 a)) (fun _ _ _=>False)
section
variable {X:Cx} {k:Nat} {ps:List Str} {sp:Sp} {x:Str} {p pos:Pos} {e:Expr} {es:List Expr} {t:TA} {pinz:List (Addr×Obj)} {a:Addr} {oe:Obj} {cls:Value} {dx:Option Addr}
theorem zhq (D:DefH X.prog X.w X.K X.mg X.base (CXE X.prog X.w) k x ps sp) (hr:RoomH k (X.inH pinz a oe).A) (hg:Gl (X.inH pinz a oe) x) (hcls:oe.cls=cls) (hxo:XOb oe dx) (hbn:X.base.get? a=none)
 (ha:PA (X.inH pinz a oe) (e::es) t) (hdb:(x==("__debug__":Str))=false:=by decide) (he:starEach (e::es) X.env=(false,eval e X.env)::starEach es X.env:=by rfl) (hpl:s!"aC".any (·.1)=false:=by rfl):
 PE (X.inH pinz a oe) (.Call (.Name x p) (e::es) [] pos) (zkQ sp a cls t):=by
 subst hcls;obtain ⟨f,fd,F,m,kp,b⟩:=D.ex;intro pins s σ H Q I h;refine wpAny_Call_Name_kw (xE I hg m ?_ hdb);refine PySem.W.callWith_K (h₀:=X.base) I.ok.mod.kin kp (thn (ha pos pins s σ H _ I h) fun us s1 ⟨vs,H1,I1,r,q⟩=>⟨I1.kIn,?_⟩) he hpl
 obtain ⟨rfl,C,hC,q⟩:=q;obtain ⟨e1,n1,_⟩:=I1.pin (a,oe) s!"ar{s!"${List.mem_singleton.mpr rfl}"}";have e1:s1.heap.get? a=some oe:=e1;have n1:H1 a=none:=n1;have q:=q oe n1;obtain ⟨v6,d6,_⟩:=hxo;have offS:a∉frs X.stack:=fun z=>by
  obtain ⟨_,o7,e7,nf⟩:=I1.frm a z;rw [e1] at e7;cases e7;exact nf v6 d6
 have hl:(us++[]).length=ps.length:=by rw [List.append_nil,<-r.length];exact F.len _ _ _ _ q
 have bnd:=b s1 us I1.kIn hl;rw [List.append_nil] at bnd;have ne:∀{b:Addr} {u:HO},H1 b=some u->b≠a:=fun {b u} z y=>by rw [y,n1] at z;cases z
 have hk1:HOk X.prog X.w (upd H1 a (.frz oe (ExO C a))) s1.heap:=fun b u z=>by
  by_cases y:b=a
  ·subst y;rw [zi] at z;cases z;exact ⟨e1,ExO.ok ⟨oe,e1,hC⟩⟩
  ·rw [zg y] at z;exact (I1.hok b u z).stay (fun c v _ q=>q) (fun c q=>by rw [zg (ne q)];exact q) fun c xs q=>by rw [zg (ne q)];exact q
 have E0:=I1.env0;have frs1:∀b,b∈frs X.stack->upd H1 a (.frz oe (ExO C a)) b=none:=fun b hb=>by
  rw [zg (fun y=>offS (by rw [<-y];exact hb))]
  exact I1.stkFree b hb
 refine wpAny_call (codeAny_mono (F.run (X.inH pinz a oe).A X.stack s1 (upd H1 a (.frz oe (ExO C a))) ⟨us,[]⟩ us [.ref a] _ _ hr ⟨E0.frames,E0.mod,fun b o z=>⟨(E0.bs b o z).1,?_⟩,E0.bsz,E0.funs,frs1,hk1,E0.bare⟩ bnd r q) fun res s2 hq=>?_)
 ·rw [zg (fun y=>?_)]
  ·exact (E0.bs b o z).2
  ·subst y;rw [hbn] at z;cases z
 cases res with
 | error ex=>
  obtain ⟨_,_,_,_,_,_,_,z,_⟩:=hq;exact z.elim
 | ok fl=>
  cases fl with
  | ret u=>
   obtain ⟨v,H',os,bare,un,hok,r',q'⟩:=hq;have eF:=un.frzs a oe (ExO C a) zi;have ea:s2.heap.get? a=some oe:=(hok a _ eF).1;have nq:∀{b:Addr} {u:HO},H' b=some u->(∀o ψ,u≠.frz o (.ext ψ))->b≠a:=fun {b u} z n y=>by
    subst y;rw [eF] at z;exact n _ _ s!"9{z}".symm
   refine ⟨v,rem H' a,I1.call' (ch:=[]) os ⟨fun b o z n f _=>?_,fun b o z n f _=>?_,fun b o z n _=>?_,un.there,fun b xs z=>?_,fun b o u z=>?_,fun b ps z=>?_⟩ (fun b u z=>?_) bare (fun b z=>nomatch z),r',q'⟩
   ·by_cases y:b=a
    ·subst y;rw [e1] at z;cases z;exact ea
    ·exact un.keep b o z (by rw [zg y];exact n) f (fun z=>nomatch z)
   ·exact un.slot b o z (by rw [zg (fun y=>offS (by rw [<-y];exact f))];exact n) f (fun z=>nomatch z)
   ·by_cases y:b=a
    ·rw [y];exact xZ
    ·rw [zX y];exact un.free b o z (by rw [zg y];exact n) (fun z=>nomatch z)
   ·rw [zX (ne z)];exact un.tups b xs (by rw [zg (ne z)];exact z)
   ·rw [zX (ne z)];exact un.frzs b o u (by rw [zg (ne z)];exact z)
   ·rw [zX (ne z)];exact un.tbls b ps (by rw [zg (ne z)];exact z)
   ·have y:b≠a:=fun y=>by rw [y,xZ] at z;cases z
    rw [zX y] at z;exact (hok b u z).stay (fun _ _ _ q=>q) (fun c q=>by rw [zX (nq q fun o ψ y=>nomatch y)];exact q) fun c xs q=>by rw [zX (nq q fun o ψ y=>nomatch y)];exact q
  | next=>exact False.elim hq
  | brk=>exact False.elim hq
  | cont=>exact False.elim hq
end
def zq5 (sp:Sp) (a:Addr) (cls:Value) (vs:List V) (H1:Hp) (Q:VK):Prop:=vs=[.ref a]/\∃C,cls=.ref C/\∀o,H1 a=none->sp [.ref a] (upd H1 a s!"a6") (fun v H2=>Q v (rem H2 a)) (fun _ _ _=>False)
theorem zkQ.Qa {sp:Sp} {a:Addr} {cls:Value} {t:TA} {σ:St} {H:Hp} {Q:VK} (h:t σ H fun vs H1=>zq5 sp a cls vs H1 Q):zkQ sp a cls t σ H Q:=h
theorem zfG {K:PySem.W.Frag} {H:Hp} {Q:VK} {te:TE} {vs:St} {a:Addr} {xs:List V} (P:V->Addr->Hp->Prop) (mono:∀x t H1 H2,(∀q ys,H1 q=some (.tup ys)->H2 q=some (.tup ys))->P x t H1->P x t H2) (h1:SqL K H a xs) (hz:xs.length<=1000)
 (he:∀(x:V) H' (Q':VK),x∈xs->Same H H'->(∀t H2,Same H' H2->P x t H2->Q' s!"E" H2)->te (some x::vs) H' Q')
 (h:∀D H' (as:List Addr),Same H H'->H D=none->H' D=some (.lst s!"av")->as.length=xs.length->(∀(j:Nat) (t:Addr) (x:V),as[j]? =some t->xs[j]? =some x->P x t H')->Q s!"y" H'):zag te vs (Itl K a) H Q:=by
 intro D hD;refine ⟨fun i m zs H'=>m=xs.length-i/\i<=xs.length/\Same H H'/\H' D=some (.lst zs)/\∃as:List Addr,zs=as.map V.ref/\as.length=i/\∀(j:Nat) (t:Addr) (x:V),as[j]? =some t->xs[j]? =some x->P x t H',⟨xs.length,by simp,Nat.zero_le _,Same.new hD _,zi,[],rfl,rfl,fun j x p hx=>by simp at hx⟩,?_⟩
 rintro i m zs H' ⟨rfl,hi,hs,eD,as,rfl,la,hT⟩;refine ⟨eD,?_⟩;have q:=hs.seq h1
 by_cases hlt:i<xs.length
 ·obtain ⟨n,hn⟩:∃n,xs[i]? =some n:=⟨_,List.getElem?_eq_getElem hlt⟩;refine .inr ⟨⟨_,_,q,hn⟩,?_,fun x H2 y=>?_⟩
  ·rw [List.length_map,la];exact zz s!"e"
  ·obtain ⟨e,y⟩:=y;subst e;have e2:=y _ q;rw [hn] at e2;cases e2;refine he _ _ _ s!"4{hn}" hs fun t H3 s3 e3=>⟨s3.obj eD,xs.length-(i+1),by omega,rfl,hlt,(hs.trans s3).upd hD,by rw [show as.map V.ref++[V.ref t]=(as++[t]).map V.ref by rw [List.map_append];rfl];exact zi,as++[t],by rw [List.map_append];rfl,by rw [List.length_append,la];rfl,fun j t' x hx hp=>?_⟩
   refine mono _ _ H3 _ (fun q ys z=>by rw [zg (fun y=>by rw [y,s3.obj eD] at z;cases z)];exact z) ?_
   rcases Nat.lt_or_ge j as.length with z | z
   ·rw [List.getElem?_append_left z] at hx;exact mono _ _ _ _ (fun q ys z=>s3.obj z) (hT j t' x hx hp)
   ·rw [List.getElem?_append_right z] at hx;have z0:j-as.length=0:=by
     rcases Nat.eq_zero_or_pos (j-as.length) with z1 | z1
     ·exact z1
     ·rw [List.getElem?_eq_none (by simp;omega)] at hx
      cases hx
    rw [z0] at hx;have ej:j=i:=by omega
    rw [ej,hn] at hp;cases hx;cases hp;exact e3
 ·have e:i=xs.length:=by omega
  subst e;exact .inl ⟨⟨_,q,Nat.le_refl _⟩,h D H' as hs hD eD la hT⟩
end L2
namespace L2
open PySem PySem.Spec PyProof.Rows Builtin.Str
theorem zfH (t:Str) (n:Nat):(Txt.slice t none (some (n:Int))).cps.toList=t.cps.toList.take n:=by
 by_cases h:n<=t.cps.toList.length
 ·have e:Txt.slice t none (some (n:Int))=StrLaws.sliceText t none (some (n:Int)):=rfl;rw [e,StrLaws.sliceText_to ⟨by omega,by omega⟩]
  simp
 ·have k:strSliceIndices none (some (n:Int)) 1 t.length=strSliceIndices none (some (t.length:Int)) 1 t.length:=by
   have hl:t.length<n:=by
    have:t.length=t.cps.toList.length:=rfl;omega
   show sliceRange 0 (max 0 (min (n:Int) (t.length:Int))) 1=sliceRange 0 (max 0 (min (t.length:Int) (t.length:Int))) 1;rw [show min (n:Int) (t.length:Int)=min (t.length:Int) (t.length:Int) by omega]
  have e:Txt.slice t none (some (n:Int))=StrLaws.sliceText t none (some (t.length:Int)):=by
   show Txt.slice t none (some (n:Int))=Txt.slice t none (some (t.length:Int));unfold Txt.slice;rw [k]
  have l2:t.length=t.cps.toList.length:=rfl;rw [e,StrLaws.sliceText_to ⟨by omega,by omega⟩,l2]
  show List.take _ (List.drop 0 _)=_;rw [List.drop_zero,Int.sub_zero,Int.toNat_natCast];exact (List.take_of_length_le (Nat.le_refl _)).trans (List.take_of_length_le s!"e").symm
end L2
namespace L2
open PySem PySem.Spec PyProof.Rows
def zP:Sp:=fun _ _ _ _=>False
theorem Src.void {P:Program} {w:World} {K:PySem.W.Frag} {mg:Str->Option Value} {base:Heap} {CX:CXT} {x:Str} {st:Stmt} {N ps:List Str} {k:Nat} (F:Src K mg x st ps) (S:FnScope N ps (ze st)):Def P w K mg base CX (k+1) x ps zP:=
 F.ok S (fun _ _ _ _ h=>h.elim) fun _ _ _ _ _ _ _ _ _ _ h=>h.elim
end L2
set_option exponentiation.threshold 2000
namespace Mth
theorem zkS (a b:Int):Int.gcd b (a%b)=Int.gcd a b:=by
 rw [Int.emod_def,Int.sub_eq_add_neg,<-Int.mul_neg,Int.gcd_add_mul_left_right,Int.gcd_comm]
set_option exponentiation.threshold 4000
def yT (t:Int×Int×Int×Int) (p:Bool×Int):Int×Int×Int×Int:=
 if p.1 then (t.1,t.2.1+p.2*t.1,t.2.2.1,t.2.2.2+p.2*t.2.2.1) else (t.1+p.2*t.2.1,t.2.1,t.2.2.1+p.2*t.2.2.2,t.2.2.2)
def fw (ws:List (Bool×Int)):Int×Int×Int×Int:=ws.foldl yT (1,0,0,1)
theorem zm1 (ws:List (Bool×Int)) (p:Bool×Int):fw (ws++[p])=yT (fw ws) p:=by
 unfold fw;rw [List.foldl_append];rfl
theorem zm6 {ws:List (Bool×Int)} {i:Nat} {p:Bool×Int} (h:ws[i]? =some p):fw (ws.take (i+1))=yT (fw (ws.take i)) p:=by
 rw [List.take_add_one,h];exact zm1 _ _
def Alt (ws:List (Bool×Int)):Prop:=∀(i:Nat) p q,ws[i]? =some p->ws[i+1]? =some q->p.1≠q.1
section
variable {a0 b0 c0 d0 a b c d:Int} {ws:List (Bool×Int)}
end
def Le4 (t u:Int×Int×Int×Int):Prop:=t.1<=u.1/\t.2.1<=u.2.1/\t.2.2.1<=u.2.2.1/\t.2.2.2<=u.2.2.2
theorem zkT {t:Int×Int×Int×Int} {p:Bool×Int} (h1:1<=t.1) (h2:0<=t.2.1) (h3:0<=t.2.2.1) (h4:1<=t.2.2.2) (hp:1<=p.2):Le4 t (yT t p):=by
 obtain ⟨a,b,c,d⟩:=t;obtain ⟨l,n⟩:=p;change 1<=a at h1;change 0<=b at h2;change 0<=c at h3;change 1<=d at h4;change 1<=n at hp;have m1:=Int.mul_nonneg (show 0<=n by omega) (show 0<=a by omega)
 have m2:=Int.mul_nonneg (show 0<=n by omega) h2
 have m3:=Int.mul_nonneg (show 0<=n by omega) h3
 have m4:=Int.mul_nonneg (show 0<=n by omega) (show 0<=d by omega)
 cases l with
 | true=>
  show a<=a/\b<=b+n*a/\c<=c/\d<=d+n*c;omega
 | false=>
  show a<=a+n*b/\b<=b/\c<=c+n*d/\d<=d;omega
theorem zeC:∀(ws:List (Bool×Int)) (t:Int×Int×Int×Int),1<=t.1->0<=t.2.1->0<=t.2.2.1->1<=t.2.2.2->(∀p∈ws,1<=p.2)->Le4 t (ws.foldl yT t)
 | [],t,_,_,_,_,_=>⟨Int.le_refl _,Int.le_refl _,Int.le_refl _,Int.le_refl _⟩
 | p::r,t,h1,h2,h3,h4,hp=>by
  obtain ⟨a1,a2,a3,a4⟩:=zkT h1 h2 h3 h4 (hp p (List.mem_cons_self ..));obtain ⟨b1,b2,b3,b4⟩:=zeC r (yT t p) s!"e" s!"e" s!"e" s!"e" fun q hq=>hp q s!"3{hq}"
  show Le4 t (r.foldl yT (yT t p));exact ⟨by omega,by omega,by omega,by omega⟩
theorem zkU {ws:List (Bool×Int)} (h:∀p∈ws,1<=p.2):1<=(fw ws).1/\0<=(fw ws).2.1/\0<=(fw ws).2.2.1/\1<=(fw ws).2.2.2:=by
 obtain ⟨a1,a2,a3,a4⟩:=zeC ws (1,0,0,1) s!"c" s!"c" s!"c" s!"c" h
 exact ⟨a1,a2,a3,a4⟩
theorem zoc {ws:List (Bool×Int)} (h:∀p∈ws,1<=p.2) (i:Nat):Le4 (fw (ws.take i)) (fw ws):=by
 obtain ⟨a1,a2,a3,a4⟩:=zkU (ws:=ws.take i) fun p hp=>h p s!"aZ{hp}"
 have:=zeC (ws.drop i) (fw (ws.take i)) a1 a2 a3 a4 fun p hp=>h p (List.mem_of_mem_drop hp)
 unfold fw at this ⊢;rw [<-List.foldl_append,List.take_append_drop] at this;exact this
theorem zfI:∀(ws:List (Bool×Int)) (t:Int×Int×Int×Int),t.1*t.2.2.2-t.2.1*t.2.2.1=1->(ws.foldl yT t).1*(ws.foldl yT t).2.2.2-(ws.foldl yT t).2.1*(ws.foldl yT t).2.2.1=1
 | [],_,h=>h
 | p::r,t,h=>by
  refine zfI r (yT t p) ?_;unfold yT;cases p.1 with
  | true=>
   show t.1*(t.2.2.2+p.2*t.2.2.1)-(t.2.1+p.2*t.1)*t.2.2.1=1;grind
  | false=>
   show (t.1+p.2*t.2.1)*t.2.2.2-t.2.1*(t.2.2.1+p.2*t.2.2.2)=1;grind
theorem zpr (ws:List (Bool×Int)):(fw ws).1*(fw ws).2.2.2-(fw ws).2.1*(fw ws).2.2.1=1:=zfI ws _ s!"c"
section
variable {a0 b0 c0 d0 a b c d:Int} {ws:List (Bool×Int)}
end
end Mth
local macro_rules|`(tactic|walk_at "lo")=>`(tactic|first|exact .inl rfl|exact .inr rfl|assumption)
local macro_rules|`(tactic|walk_at "mulok")=>`(tactic|first
  | exact PySem.IntMulOk.of_right (PySem.intBits_le_64 (by omega) (by omega))
  | exact PySem.IntMulOk.of_left (PySem.intBits_le_64 (by omega) (by omega))
  | exact L2.Bd.mulOk (m := 2000) (n := 2000) (by show Int.natAbs _ < _; omega) (by show Int.natAbs _ < _; omega) (by decide) (by decide))
local macro_rules|`(tactic|walk_at "bd")=>`(tactic|(show Int.natAbs _ < _;omega))
local macro_rules|`(tactic|walk_at "hp")=>`(tactic|first
  | assumption
  | exact L2.SqL.of (by assumption)
  | exact L2.SqT.of (by assumption)
  | exact L2.zi
  | (refine' L2.Same.seq (by assumption) ?z; (case z => walk_at "hp"))
  | (refine' L2.Same.tup (by assumption) ?z; (case z => walk_at "hp"))
  | (refine' L2.Same.obj (by assumption) ?z; (case z => walk_at "hp")))
local macro_rules|`(tactic|walk_at "lenle")=>`(tactic|first|((with_reducible refine' L2.zmU ?p ?q);(case p=>walk_at "lenle");(case q=>walk_at "lenle"))|with_reducible assumption|exact (show _ ≤ 40 from by decide +kernel)|assumption)
local macro_rules|`(tactic|walk_at "strsz")=>`(tactic|first|decide +kernel|(refine' L2.zq0 ?a ?b;(case a=>walk_at "lenle");(case b=>decide)))
local macro_rules|`(tactic|walk_at "tsz")=>`(tactic|first|assumption|decide +kernel|(exact Nat.le_trans (by assumption) (by decide))|(exact Nat.le_of_lt (L2.zz (by omega))))
local macro_rules|`(tactic|walk_at "fmtsz")=>`(tactic|first|assumption|decide +kernel)
local macro_rules|`(tactic|walk_at "sm")=>`(tactic|first
  | exact L2.Same.refl _
  | assumption
  | (refine' L2.Same.trans ?z (by assumption); (case z => walk_at "sm")))
local macro_rules|`(tactic|walk_at "sz")=>`(tactic|first|decide|(simp only [List.length_cons, List.length_nil];decide)|(simp;decide))
local macro_rules|`(tactic|walk_at "ds")=>`(tactic|try dsimp only [L2.xU, L2.Cx.inH, L2.Cx.tried])
set_option hygiene false in
def rD:Lean.MacroM (Lean.TSyntax `tactic):=`(tactic| first
  | with_reducible refine .Qa ?_
  | ((with_reducible refine' .Qb ?a ?b ?c ?_); (case a => walk_at "hp"); (case b => walk_at "hp"); (case c => walk_at "sz"); intro _ _ _ _ _)
  | ((with_reducible refine' .Qc ?c ?_); (case c => walk_at "hp"))
  | ((with_reducible refine' .Qd ?c ?_); (case c => walk_at "hp"))
  | with_reducible refine .Qe ?_
  | with_reducible refine .Qf ?_
  | with_reducible refine .Qg ?_
  | with_reducible refine .Qh ?_
  | with_reducible refine .Qi ?_
  | ((with_reducible refine' .Qj ?a ?c ?d ?_); (case a => walk_at "hp"); (case c => assumption); (case d => assumption))
  | ((with_reducible refine' .Qk ?a ?c ?d ?_); (case a => walk_at "hp"); (case c => assumption); (case d => assumption))
  | ((with_reducible refine .Ql ?c ?_); (case c => assumption))
  | ((with_reducible refine .Qm ?c ?_); (case c => assumption))
  | ((with_reducible refine' .Qn ?c ?d ?_); (case c => walk_at "hp"); (case d => rfl))
  | ((with_reducible refine' .Qo ?c ?d ?_); (case c => walk_at "hp"); (case d => rfl))
  | ((with_reducible refine' .Qp ?a ?b ?c ?d ?_); (case a => walk_at "hp"); (case b => assumption); (case c => assumption); (case d => rfl))
  | ((with_reducible refine' .Qq ?a ?b ?_); (case a => walk_at "hp"); (case b => rfl))
  | ((with_reducible refine .Qr ?c ?_); (case c => walk_at "strsz"))
  | ((with_reducible refine .Qs ?c ?_); (case c => walk_at "tsz"))
  | ((with_reducible refine .Qt ?c ?_); (case c => walk_at "fmtsz"))
  | ((with_reducible refine' .Qu ?c ?_); (case c => walk_at "hp"); intro _ _)
  | ((with_reducible refine .Qv ?_); intro _ _ _ _ _)
  | ((with_reducible refine .Qw ?c ?_); (case c => walk_at "mulok"))
  | ((with_reducible refine .Qx ?c ?_); (case c => omega))
  | ((with_reducible refine .Qy ?c ?d ?_); (case c => omega); (case d => walk_at "bd"))
  | ((with_reducible refine .Qz ?_); intro _ _)
  | ((with_reducible refine .Q0 ?_); intro _ _ _ _ _ _)
  | ((with_reducible refine .Q2 ?c ?_); (case c => walk_at "sz"); intro _ _ _ _ _)
  | ((with_reducible refine' .Q3 ?c ?_); (case c => walk_at "hp"); intro _ _ _ _ _)
  | ((with_reducible refine' .Q4 ?c ?_); (case c => rfl))
  | (with_reducible refine .Q5 ?_)
  | ((with_reducible refine .Q6 ?c ?d ?_); (case c => omega); (case d => omega))
  | ((with_reducible refine .Q7 ?c ?d ?e ?f ?_); (case c => omega); (case d => omega); (case e => omega); (case f => omega))
  | ((with_reducible refine' .Q8 ?c ?d ?_); (case c => first | exact .int _ | exact .bl _ | exact .non | exact .str _ | exact .tup (by walk_at "hp") | exact .lst (by walk_at "hp") | constructor); (case d => rfl))
  | walk_at "rdcall"
  | ((fail_if_success (fail_if_success (with_reducible refine .Q9 ?_))); walk_at "en"))
local macro_rules|`(tactic|walk_at "rd1")=>do return (<-rD).raw
local macro_rules|`(tactic|walk_at "rdcall")=>`(tactic|fail "no call")
local macro_rules|`(tactic|walk_at "rd")=>do `(tactic|repeat $(<-rD):tactic)
local macro_rules|`(tactic|walk_at "en")=>`(tactic|first
  | with_reducible refine L2.zp5.Qa ?_
  | with_reducible refine L2.ziZ.Qa ?_
  | with_reducible refine L2.zeu.Qa ?_
  | with_reducible refine L2.zn3.Qa ?_
  | with_reducible refine L2.znZ.Qa ?_
  | with_reducible refine L2.zjz.Qa ?_
  | with_reducible refine L2.zpT.Qa ?_
  | with_reducible refine L2.zlt.Qa ?_
  | with_reducible refine L2.zpU.Qa ?_
  | with_reducible refine L2.znB.Qa ?_
  | with_reducible refine L2.zpV.Qa ?_
  | with_reducible refine L2.znA.Qa ?_
  | with_reducible refine L2.ziZ.Qe ?_
  | with_reducible refine L2.ziZ.Qf ?_
  | with_reducible refine L2.ziZ.Qg ?_
  | with_reducible refine L2.zcY.Qa ?_
  | ((with_reducible refine' L2.zpW.Q4 ?c ?_); (case c => rfl))
  | ((with_reducible refine L2.zgf.Ql ?c ?_); (case c => assumption))
  | ((with_reducible refine L2.zgf.Qm ?c ?_); (case c => assumption))
  | with_reducible refine L2.Ends.nx.Q9 ?_)
local macro_rules|`(tactic|walk_at "ite")=>`(tactic|first
  | (with_reducible refine L2.zoQ (fun _ => ?_) (fun _ => ?_))
  | (with_reducible refine L2.zlM (fun _ => ?_) (fun _ => ?_))
  | (with_reducible refine L2.zjq (fun _ => ?_) (fun _ => ?_))
  | (with_reducible refine L2.zlP (fun _ => ?_) (fun _ => ?_)))
local macro_rules|`(tactic|walk_at "rdi")=>`(tactic|repeat' (first|walk_at "rd1"|(walk_at "ite" <;> (try (exfalso;omega)))))
namespace My
open PySem L2
abbrev zak:Stmt:=top 18
theorem zbL:FnScope ["thing"] ["thing"] (ze zak):=s!"o"
abbrev zY:Stmt:=top 19
theorem yB:FnScope ["thing"] ["thing"] (ze zY):=s!"o"
abbrev wc:Stmt:=top 20
theorem zaK:FnScope ["least","number"] ["least","number"] (ze wc):=s!"o"
abbrev zal:Stmt:=top 21
theorem zbM:FnScope ["m"] ["m"] (ze zal):=s!"o"
abbrev zbm:Stmt:=top 22
theorem zcB:FnScope ["most","number"] ["most","number"] (ze zbm):=s!"o"
abbrev zcC:Stmt:=top 24
theorem zdW:FnScope ["a","b","high","low","rest"] ["a","b"] (ze zcC):=s!"o"
abbrev xG:Stmt:=top 25
theorem wZ:FnScope ["a","m"] ["a","m"] (ze xG):=s!"o"
abbrev xH:Stmt:=top 27
theorem zc3:FnScope ["a","m","sign"] ["a","m","sign"] (ze xH):=s!"o"
abbrev we:Stmt:=top 28
theorem zaL:FnScope ["a","m","row","rows"] ["a","m"] (ze we):=s!"o"
abbrev wf:Stmt:=top 29
theorem zaM:FnScope ["a","m","last"] ["a","m"] (ze wf):=s!"o"
abbrev yU:Stmt:=top 30
theorem xO:FnScope ["a","m"] ["a","m"] (ze yU):=s!"o"
abbrev zam:Stmt:=top 32
theorem zbN:FnScope ["n","m","a","b","rows","going","more","slope","end"] ["n","m","a","b"] (ze zam):=s!"o"
abbrev wj:Stmt:=top 33
theorem zaN:FnScope ["n","m","a","b"] ["n","m","a","b"] (ze wj):=s!"o"
abbrev yV:Stmt:=top 34
theorem xP:FnScope ["a","m"] ["a","m"] (ze yV):=s!"o"
abbrev zcD:Stmt:=top 42
theorem ziC:FnScope ["a","m","part"] ["a","m"] (ze zcD):=s!"o"
abbrev wk:Stmt:=top 43
theorem zeD:FnScope ["a","m"] ["a","m"] (ze wk):=s!"o"
abbrev zan:Stmt:=top 45
theorem zbO:FnScope ["table"] ["table"] (ze zan):=s!"o"
abbrev xI:Stmt:=top 46
theorem w5:FnScope ["table"] ["table"] (ze xI):=s!"o"
abbrev yW:Stmt:=top 47
theorem xQ:FnScope ["row","table"] ["row","table"] (ze yW):=s!"o"
abbrev zao:Stmt:=top 48
theorem zbP:FnScope ["one","other"] ["one","other"] (ze zao):=s!"o"
abbrev zbn:Stmt:=top 49
theorem zcE:FnScope ["table"] ["table"] (ze zbn):=s!"o"
abbrev wl:Stmt:=top 51
theorem zaO:FnScope ["table","c","d"] ["table"] (ze wl):=s!"o"
abbrev wm:Stmt:=top 52
theorem zeE:FnScope ["table","number"] ["table"] (ze wm):=s!"o"
abbrev zcF:Stmt:=top 55
theorem zdX:FnScope ["thing"] ["thing"] (ze zcF):=s!"o"
abbrev zbo:Stmt:=top 56
theorem zcG:FnScope ["word"] ["word"] (ze zbo):=s!"o"
abbrev wn:Stmt:=top 57
theorem zaP:FnScope ["word"] ["word"] (ze wn):=s!"o"
abbrev zap:Stmt:=top 58
theorem zbQ:FnScope ["word","a","b","c","d","run"] ["word"] (ze zap):=s!"o"
abbrev yX:Stmt:=top 59
theorem zbW:FnScope ["row","other"] ["row","other"] (ze yX):=s!"o"
abbrev wo:Stmt:=top 60
theorem zeF:FnScope ["row","other","often"] ["row","other","often"] (ze wo):=s!"o"
abbrev zbp:Stmt:=top 61
theorem zcH:FnScope ["table","upper","lower","word","often"] ["table"] (ze zbp):=s!"o"
abbrev wp:Stmt:=top 66
theorem zaQ:FnScope ["text","figures"] ["text"] (ze wp):=s!"o"
abbrev yq:Stmt:=top 67
theorem zaR:FnScope ["x","top","bottom"] ["x"] (ze yq):=s!"o"
abbrev xi:Stmt:=top 68
theorem wq:FnScope ["table"] ["table"] (ze xi):=s!"o"
abbrev xJ:Stmt:=top 70
theorem zc4:FnScope ["word"] ["word"] (ze xJ):=s!"o"
abbrev wr:Stmt:=top 71
theorem zaS:FnScope ["holds"] ["holds"] (ze wr):=s!"o"
abbrev yY:Stmt:=top 72
theorem xR:FnScope ["pieces"] ["pieces"] (ze yY):=s!"o"
abbrev xK:Stmt:=top 73
theorem w6:FnScope ["text","numbers","table"] ["text"] (ze xK):=s!"o"
abbrev wt:Stmt:=top 74
theorem zaT:FnScope ["text","pieces","letters","numbers","word"] ["text"] (ze wt):=s!"o"
abbrev zbq:Stmt:=top 81
theorem zcI:FnScope ["piece"] ["piece"] (ze zbq):=s!"o"
abbrev xL:Stmt:=top 82
theorem w9:FnScope ["kind","piece"] ["kind","piece"] (ze xL):=s!"o"
abbrev zaq:Stmt:=top 83
theorem zbR:FnScope ["pieces","form"] ["pieces","form"] (ze zaq):=s!"o"
abbrev xj:Stmt:=top 84
theorem wu:FnScope ["pieces"] ["pieces"] (ze xj):=s!"o"
abbrev zbr:Stmt:=top 85
theorem zcJ:FnScope ["pieces","form"] ["pieces"] (ze zbr):=s!"o"
abbrev zZ:Stmt:=top 86
theorem yC:FnScope ["table","number"] ["table"] (ze zZ):=s!"o"
abbrev yE:Stmt:=top 87
theorem xr:FnScope ["ask","table"] ["ask","table"] (ze yE):=s!"o"
abbrev yk:Stmt:=top 88
theorem yZ:FnScope ["ask","numbers","p","m"] ["ask","numbers"] (ze yk):=s!"o"
abbrev yF:Stmt:=yw (top 89) 0
theorem xt:FnScope ["self"] ["self"] (ze yF):=s!"o"
abbrev yl:Stmt:=yw (top 89) 2
theorem y8:FnScope ["self","form","pieces","kind","piece"] ["self","form","pieces"] (ze yl):=s!"o"
abbrev yr:Stmt:=yw (top 89) 3
theorem xf:FnScope ["self","pieces","table"] ["self","pieces"] (ze yr):=s!"o"
abbrev wv:Stmt:=yw (top 89) 7
theorem zaU:FnScope ["self","name","table"] ["self","name","table"] (ze wv):=s!"o"
abbrev y9:Stmt:=yw (top 89) 4
theorem xS:FnScope ["self","name","table"] ["self","name","table"] (ze y9):=s!"o"
abbrev ww:Stmt:=yw (top 89) 5
theorem zaV:FnScope ["self","deed"] ["self"] (ze ww):=s!"o"
abbrev wx:Stmt:=yw (top 89) 6
theorem zaW:FnScope ["self","deed"] ["self"] (ze wx):=s!"o"
abbrev ye:Stmt:=yw (top 89) 8
theorem yH:FnScope ["self"] ["self"] (ze ye):=s!"o"
abbrev wy:Stmt:=yw (top 89) 1
theorem zaX:FnScope ["self","line","pieces","form","first","table"] ["self","line"] (ze wy):=s!"o"
abbrev wz:Stmt:=top 91
theorem zaY:FnScope ["_law_script","_law_k"] ["_law_script","_law_k"] (ze wz):=s!"o"
abbrev xM:Stmt:=top 92
theorem zaa:FnScope ["_law_cell_here","_law_k","_law_prime","_law_far"] ["_law_cell_here","_law_k","_law_prime"] (ze xM):=s!"o"
abbrev xN:Stmt:=top 93
theorem zab:FnScope ["_law_cell_here","_law_widths","_law_prime","_law_left","_law_found","_law_k"] ["_law_cell_here","_law_widths","_law_prime"] (ze xN):=s!"o"
abbrev wA:Stmt:=top 94
theorem zaZ:FnScope ["_law_e","_law_sorts"] ["_law_e"] (ze wA):=s!"o"
abbrev wB:Stmt:=top 95
theorem za0:FnScope ["_law_desk","_law_line","_law_word","_law_found","_law_e"] ["_law_desk","_law_line"] (ze wB):=s!"o"
abbrev zar:Stmt:=top 96
theorem zbS:FnScope ["_law_desk","_law_rows","_law_line","_law_due"] ["_law_desk","_law_rows"] (ze zar):=s!"o"
abbrev yG:Stmt:=top 97
theorem xu:FnScope ["_law_one","_law_two","_law_rows","_law_great"] ["_law_one","_law_two"] (ze yG):=s!"o"
abbrev yf:Stmt:=top 98
theorem yI:FnScope ["_law_cell_here","_law_draws_here","_law_letters","_law_one"] ["_law_cell_here"] (ze yf):=s!"o"
abbrev zdY:Stmt:=top 99
theorem zkV:FnScope ["_law_script","_law_desk","_law_one","_law_two","_law_far","_law_rows","_law_k"] ["_law_script"] (ze zdY):=s!"o"
abbrev xw:Stmt:=yw (top 15) 0
theorem zdZ:FnScope ["self","name"] ["self","name"] (ze xw):=s!"o"
structure Blt (mg:Str->Option Value):Prop where
 ValueError:mg "ValueError"=none
 abs:mg "abs"=none
 all:mg "all"=none
 bool:mg "bool"=none
 int:mg "int"=none
 isinstance:mg "isinstance"=none
 len:mg "len"=none
 list:mg "list"=none
 min:mg "min"=none
 range:mg "range"=none
 sorted:mg "sorted"=none
 str:mg "str"=none
 sum:mg "sum"=none
 tuple:mg "tuple"=none
 zip:mg "zip"=none
structure OCDesk (K:PySem.W.Frag) (mg:Str->Option Value):Type where
 addr:Addr
 gl:mg "Desk"=some (.ref addr)
 cl:L2.Cls K addr
 n_tables:yo K addr "tables"
 n_done:yo K addr "done"
 n_taken_back:yo K addr "taken_back"
 f___init__:Addr
 m___init__:Meth K addr "__init__" f___init__
 f_need_known:Addr
 m_need_known:Meth K addr "need_known" f_need_known
 f_new_table:Addr
 m_new_table:Meth K addr "new_table" f_new_table
 f_keep:Addr
 m_keep:Meth K addr "keep" f_keep
 f_do_deed:Addr
 m_do_deed:Meth K addr "do_deed" f_do_deed
 f_undo:Addr
 m_undo:Meth K addr "undo" f_undo
 f_redo:Addr
 m_redo:Meth K addr "redo" f_redo
 f_shown_names:Addr
 m_shown_names:Meth K addr "shown_names" f_shown_names
 f_tell:Addr
 m_tell:Meth K addr "tell" f_tell
 mkk:Mk K addr f___init__
structure Cls (K:PySem.W.Frag) (mg:Str->Option Value) (base:Heap):Type where
 SawError:CG mg "SawError"
 NoCount:CK K mg base "NoCount"
 NotOdd:CK K mg base "NotOdd"
 TooMany:CK K mg base "TooMany"
 NotApart:CK K mg base "NotApart"
 NoShuffle:CG mg "NoShuffle"
 NoPaper:CG mg "NoPaper"
 NoPrime:CG mg "NoPrime"
 NoFraction:CG mg "NoFraction"
 NoTable:CK K mg base "NoTable"
 NoWord:CK K mg base "NoWord"
 NoRow:CG mg "NoRow"
 NoText:CK K mg base "NoText"
 NoLine:CK K mg base "NoLine"
 NoName:CI K mg base "NoName" "name" "SawError"
 NoDeed:CK K mg base "NoDeed"
 Desk:OCDesk K mg
abbrev K1 (K:PySem.W.Frag) (a b:Addr) (t:Bool):Prop:=PySem.W.kitOne K s!"g" (.ref b)=some t
structure Rel (K:PySem.W.Frag) (mg:Str->Option Value) (base:Heap) (C:Cls K mg base):Prop where
 r_NoText_NoText:K1 K C.NoText.addr C.NoText.addr true
 r1:K1 K C.NoName.addr C.NoName.addr true
 r2:K1 K C.NoLine.addr C.NoName.addr false
 r3:K1 K C.NoLine.addr C.NoLine.addr true
 r4:K1 K C.NoTable.addr C.NoName.addr false
 r5:K1 K C.NoTable.addr C.NoLine.addr false
 r6:K1 K C.NoTable.addr C.NoTable.addr true
 r7:K1 K C.NoWord.addr C.NoName.addr false
 r8:K1 K C.NoWord.addr C.NoLine.addr false
 r9:K1 K C.NoWord.addr C.NoTable.addr false
 r10:K1 K C.NoWord.addr C.NoWord.addr true
 r11:K1 K C.TooMany.addr C.NoName.addr false
 r12:K1 K C.TooMany.addr C.NoLine.addr false
 r13:K1 K C.TooMany.addr C.NoTable.addr false
 r14:K1 K C.TooMany.addr C.NoWord.addr false
 r15:K1 K C.TooMany.addr C.TooMany.addr true
 r16:K1 K C.NoDeed.addr C.NoName.addr false
 r17:K1 K C.NoDeed.addr C.NoLine.addr false
 r18:K1 K C.NoDeed.addr C.NoTable.addr false
 r19:K1 K C.NoDeed.addr C.NoWord.addr false
 r20:K1 K C.NoDeed.addr C.TooMany.addr false
 r21:K1 K C.NoDeed.addr C.NoDeed.addr true
 r22:K1 K C.NotOdd.addr C.NoName.addr false
 r23:K1 K C.NotOdd.addr C.NoLine.addr false
 r24:K1 K C.NotOdd.addr C.NoTable.addr false
 r25:K1 K C.NotOdd.addr C.NoWord.addr false
 r26:K1 K C.NotOdd.addr C.TooMany.addr false
 r27:K1 K C.NotOdd.addr C.NoDeed.addr false
 r28:K1 K C.NotOdd.addr C.NotOdd.addr true
 r29:K1 K C.NotApart.addr C.NoName.addr false
 r30:K1 K C.NotApart.addr C.NoLine.addr false
 r31:K1 K C.NotApart.addr C.NoTable.addr false
 r32:K1 K C.NotApart.addr C.NoWord.addr false
 r33:K1 K C.NotApart.addr C.TooMany.addr false
 r34:K1 K C.NotApart.addr C.NoDeed.addr false
 r35:K1 K C.NotApart.addr C.NotOdd.addr false
 r36:K1 K C.NotApart.addr C.NotApart.addr true
 r37:K1 K C.NoCount.addr C.NoName.addr false
 r38:K1 K C.NoCount.addr C.NoLine.addr false
 r39:K1 K C.NoCount.addr C.NoTable.addr false
 r40:K1 K C.NoCount.addr C.NoWord.addr false
 r41:K1 K C.NoCount.addr C.TooMany.addr false
 r42:K1 K C.NoCount.addr C.NoDeed.addr false
 r43:K1 K C.NoCount.addr C.NotOdd.addr false
 r44:K1 K C.NoCount.addr C.NotApart.addr false
 r45:K1 K C.NoCount.addr C.NoCount.addr true
 r46:K1 K C.NoName.addr C.NoCount.addr false
 r47:K1 K C.NoName.addr C.NoDeed.addr false
 r48:K1 K C.NoName.addr C.NoLine.addr false
 r49:K1 K C.NoName.addr C.NotApart.addr false
 r50:K1 K C.NoName.addr C.NoTable.addr false
 r51:K1 K C.NoName.addr C.NotOdd.addr false
 r52:K1 K C.NoName.addr C.NoWord.addr false
 r53:K1 K C.NoName.addr C.TooMany.addr false
 r54:K1 K C.NoName.addr C.NoFraction.addr false
 r55:K1 K C.NoName.addr C.NoPaper.addr false
 r56:K1 K C.NoName.addr C.NoPrime.addr false
 r57:K1 K C.NoName.addr C.NoRow.addr false
 r58:K1 K C.NoName.addr C.NoShuffle.addr false
 r59:K1 K C.NoName.addr C.NoText.addr false
 r60:PySem.W.kitOne K (.ref C.NoName.addr) (.type "ValueError")=some true
 r61:K1 K C.NoDeed.addr C.NoCount.addr false
 r62:K1 K C.NoDeed.addr C.NotApart.addr false
 r63:K1 K C.NoDeed.addr C.NotOdd.addr false
 r64:K1 K C.NoDeed.addr C.NoFraction.addr false
 r65:K1 K C.NoDeed.addr C.NoPaper.addr false
 r66:K1 K C.NoDeed.addr C.NoPrime.addr false
 r67:K1 K C.NoDeed.addr C.NoRow.addr false
 r68:K1 K C.NoDeed.addr C.NoShuffle.addr false
 r69:K1 K C.NoDeed.addr C.NoText.addr false
 r70:PySem.W.kitOne K (.ref C.NoDeed.addr) (.type "ValueError")=some true
 cat_NoName:CatK K C.NoName.addr
structure TabK (K:PySem.W.Frag) (T r s:Addr) (a b c d:Int):Prop where
 t:∀H,SqT K H T [.ref r,.ref s]
 r:∀H,SqT K H r [.int a,.int b]
 s:∀H,SqT K H s [.int c,.int d]
inductive FormK (K:PySem.W.Frag):List Addr->List (List Str)->Prop where
 | nil:FormK K [] []
 | cons {a:Addr} {f:List Str} {as:List Addr} {fs:List (List Str)} (h:∀H,SqT K H a (f.map V.str)) (r:FormK K as fs):FormK K (a::as) (f::fs)
structure Cst (K:PySem.W.Frag) (mg:Str->Option Value):Prop where
 MOST_FIGURES:∃t,mg "MOST_FIGURES"=some (.int 60 t)
 MOST_LETTERS:∃t,mg "MOST_LETTERS"=some (.int 8 t)
 OWN_TABLE:∃T r s,mg "OWN_TABLE"=some (.ref T)/\TabK K T r s (1) (0) (0) (1)
 FIGURES:∃t,mg "FIGURES"=some (.str "0123456789" t)
 EMPTY_WORD:∃t,mg "EMPTY_WORD"=some (.str "none" t)
 LETTERS:∃t,mg "LETTERS"=some (.str "abcdefghijklmnopqrstuvwxyz" t)
 NO_NAMES:∃t,mg "NO_NAMES"=some (.str "none" t)
 WORD_FORM:∃T,mg "WORD_FORM"=some (.ref T)/\∀H,SqT K H T ((["word","NAME"]:List Str).map V.str)
 FORMS:∃(T:Addr) (as:List Addr),mg "FORMS"=some (.ref T)/\(∀H,SqT K H T s!"av")/\FormK K as [["table","NAME","NUMBER","NUMBER","NUMBER","NUMBER"],["let","NAME","together","KNOWN","KNOWN"],["let","NAME","back","KNOWN"],["drop","KNOWN"],["undo"],["redo"],["names"],["show","KNOWN"],["number","KNOWN"],["steady","KNOWN"],["spell","KNOWN"],["sign","NUMBER","NUMBER"],["teeth","NUMBER","NUMBER"],["twelve","NUMBER","NUMBER"],["points","NUMBER","NUMBER"],["shuffle","NUMBER","NUMBER"],["parts","NUMBER","NUMBER","NUMBER","NUMBER"]]
def zhr (K:PySem.W.Frag):Sp:=fun vs H Q _=>∃(a:Addr) (ns:List Int),vs=[.ref a]/\SqL K H a (ns.map V.int)/\ns.length<=63/\∀H',Q s!"#" H'
section
variable {P:Program} {w:World} {K:PySem.W.Frag} {mg:Str->Option Value} {base:Heap}
structure Hide (p:Prop):Prop where
 out:p
def zkW:Sp:=fun vs H Q _=>∃a b:Int,vs=[.int a,.int b]/\Q (.int (Int.gcd a b)) H
theorem zm7 {a b:Int} {H:Hp} {Q:VK} {E:XK} (h:Q (.int (Int.gcd a b)) H):zkW [.int a,.int b] H Q E:=⟨a,b,rfl,h⟩
local macro_rules|`(tactic|walk_at "rdcall")=>`(tactic|(with_reducible refine zm7 ?_))
theorem ziD {C:Cls K mg base} (F:SrcI K "NoName.__init__" xw C.NoName.f ["self","name"]):DefI P w K mg base (CXE P w) 1 C.NoName.f ["self","name"] (zft C.NoName.addr "name" zkJ):=by
 refine F.ok (CX:=CXE P w) (k:=0) zdZ s!"s" (fun cdv A outer s H vs Q E hr h=>?_)
 ·obtain ⟨_,_,rfl,_⟩:=h;rfl
 have nd:=zdZ.nd;obtain ⟨e,v,rfl,⟨i,rfl,il⟩,eE,hQ⟩:=h;refine ⟨_,s!"d{s!"z{@zfu _ _ _ _ _ _ _ _ _ _ _ C.NoName.own rfl C.NoName.ugl C.NoName.u1 C.NoName.u2 C.NoName.u3 s!"a{pv 0}{s!"a{s!"X{s!"r{@pe_fmtS _ _ _ _ (pv 1)}{s!"r{pe_str}{PJ.nil}"}"}"}{pa_nil}"}" s!"c" (by rfl) (by rfl) _ (by rfl)}"}{s!"f{@zmK _ _ _ _ _ _ _ _ _ C.NoName.ini (pv 0) (pv 1) (by rfl)}"}",?_⟩
 walk_at "ds";refine zh [some s!"Q",some (.str i)] rfl ?_;walk_at "rd";exact hQ _ (by assumption)
def isI:V->Bool
 | .int _=>true
 | _=>false
def Kn (H:Hp) (v:V):Prop:=(∃i,v=.int i)\/(∃b,v=.bl b)\/(∃s,v=.str s)\/v=.non\/(∃p xs,v=.ref p/\H p=some s!"P")\/(∃p xs,v=.ref p/\H p=some (.tup xs))
def zm8:Sp:=fun vs H Q _=>∃v:V,vs=[v]/\Kn H v/\Q (.bl (isI v)) H
theorem zgu {v:V} {H:Hp} {Q:VK} {E:XK} (k:Kn H v) (h:Q (.bl (isI v)) H):zm8 [v] H Q E:=⟨v,rfl,k,h⟩
theorem zfJ (F:Src K mg "is_whole" zak ["thing"]) (B:Blt mg) (C:Cls K mg base) (R:Rel K mg base C) (Kc:Cst K mg):Def P w K mg base (CXE P w) 1 "is_whole" ["thing"] zm8:=by
 refine F.ok (CX:=CXE P w) (k:=0) zbL s!"s" s!"u"
 ·obtain ⟨_,rfl,_⟩:=h;rfl
 have nd:=zbL.nd;obtain ⟨v,rfl,k,q⟩:=h;refine ⟨_,s!"f{s!"t{s!"aq{s!"A{yj}{B.isinstance}{PyProof.Rows.boot_isinstance}{s!"a{pv 0}{s!"a{s!"ad{.ty "int"}{B.int}{PyProof.Rows.boot_int}"}{pa_nil}"}"}"}{s!"aM{@pe_not _ _ _ _ s!"A{yj}{B.isinstance}{PyProof.Rows.boot_isinstance}{s!"a{pv 0}{s!"a{s!"ad{.ty "bool"}{B.bool}{PyProof.Rows.boot_bool}"}{pa_nil}"}"}"}"}"}"}",?_⟩
 walk_at "ds";refine zh [some v] rfl ?_;rcases k with ⟨i,rfl⟩ | ⟨b,rfl⟩ | ⟨s,rfl⟩ | rfl | ⟨p,xs,rfl,hp⟩ | ⟨p,xs,rfl,hp⟩
 ·walk_at "rd";exact q
 ·walk_at "rd";walk_at "ite"
  ·walk_at "rd";exact q
  ·rename_i c;exact absurd c s!"c"
 ·walk_at "rd";exact q
 ·walk_at "rd";exact q
 ·walk_at "rd";exact q
 ·walk_at "rd";exact q
def zps:Sp:=fun vs H Q _=>∃(r:Addr) (a b:Int),vs=[.ref r]/\H r=some (.tup [.int a,.int b])/\Q s!"#" H
theorem zkX {r:Addr} {a b:Int} {H:Hp} {Q:VK} {E:XK} (e:H r=some (.tup [.int a,.int b])) (h:Q s!"#" H):zps [.ref r] H Q E:=⟨r,a,b,rfl,e,h⟩
theorem wC (F:Src K mg "is_pair_of_wholes" zY ["thing"]) (B:Blt mg) (C:Cls K mg base) (R:Rel K mg base C) (Kc:Cst K mg) (D_is_whole:s!"m{1}{"is_whole"}{["thing"]}{zm8}"):Def P w K mg base (CXE P w) 2 "is_pair_of_wholes" ["thing"] zps:=by
 refine F.ok (CX:=CXE P w) (k:=1) yB s!"s" s!"u"
 ·obtain ⟨_,_,_,rfl,_⟩:=h;rfl
 have nd:=yB.nd;obtain ⟨r,a,b,rfl,e,q⟩:=h;refine ⟨_,s!"f{s!"t{s!"aq{s!"A{yj}{B.isinstance}{PyProof.Rows.boot_isinstance}{s!"a{pv 0}{s!"a{s!"ad{.ty "tuple"}{B.tuple}{PyProof.Rows.boot_tuple}"}{pa_nil}"}"}"}{s!"aq{s!"`{op_eqA hr.units0}{s!"aw"}{pe_int}"}{s!"aq{s!"bp"}{s!"aM{s!"bp"}"}"}"}"}"}",?_⟩
 walk_at "ds";refine zh [some (.ref r)] rfl ?_;walk_at "rd";walk_at "ite"
 ·walk_at "rd";refine zgu (.inl ⟨_,rfl⟩) ?_;rw [show isI (V.int a)=true from rfl]
  walk_at "rd";refine zgu (.inl ⟨_,rfl⟩) ?_;exact q
 ·rename_i c;exact absurd rfl c
def zcK (c:Addr):Sp:=fun vs H Q E=>∃l n:Int,vs=[.int l,.int n]/\(l=0\/l=1)/\(n<l->E (.ref c) none H)/\(l<=n->Q .non H)
theorem zcL {c:Addr} {l n:Int} {H:Hp} {Q:VK} {E:XK} (hl:l=0\/l=1) (h1:n<l->E (.ref c) none H) (h2:l<=n->Q .non H):zcK c [.int l,.int n] H Q E:=⟨l,n,rfl,hl,h1,h2⟩
theorem zeG (F:Src K mg "need_from" wc ["least","number"]) (B:Blt mg) (C:Cls K mg base) (R:Rel K mg base C) (Kc:Cst K mg):Def P w K mg base (CXE P w) 1 "need_from" ["least","number"] (zcK C.NoCount.addr):=by
 refine F.okX (CX:=CXE P w) (k:=0) zaK s!"s" s!"u"
 ·obtain ⟨_,_,rfl,_⟩:=h;rfl
 have nd:=zaK.nd;obtain ⟨l,n,rfl,hl,h1,h2⟩:=h;refine ⟨_,s!"f{s!"w{s!"K{zgc}{pv 1}{pv 0}"}{s!"f{@ps_raise _ _ _ _ _ _ _ _ _ _ _ _ _ _ (C.NoCount).own PySem.F.excBase_ValueError rfl rfl xmade_cx s!"a{s!"X{s!"r{pe_str}{s!"r{@pe_fmtI _ _ _ _ (pv 0)}{s!"r{pe_str}{PJ.nil}"}"}"}"}{pa_nil}" s!"c" (by rfl) (by rfl)}"}"}",?_⟩
 walk_at "ds";refine zh [some (.int l),some (.int n)] rfl ?_;walk_at "rd";walk_at "ite"
 ·rename_i c;rcases hl with rfl | rfl
  ·walk_at "rd";exact h1 c
  ·walk_at "rd";exact h1 c
 ·walk_at "rd";exact h2 s!"e"
def zhs (cN cO:Addr):Sp:=fun vs H Q E=>∃m:Int,vs=[.int m]/\(m<1->E (.ref cN) none H)/\(1<=m->m%2=0->E (.ref cO) none H)/\(1<=m->m%2=1->Q .non H)
theorem zht {cN cO:Addr} {m:Int} {H:Hp} {Q:VK} {E:XK} (h1:m<1->E (.ref cN) none H) (h2:1<=m->m%2=0->E (.ref cO) none H) (h3:1<=m->m%2=1->Q .non H):zhs cN cO [.int m] H Q E:=⟨m,rfl,h1,h2,h3⟩
theorem zfK (F:Src K mg "need_odd" zal ["m"]) (B:Blt mg) (C:Cls K mg base) (R:Rel K mg base C) (Kc:Cst K mg) (D_need_from:s!"m{1}{"need_from"}{["least","number"]}{zcK C.NoCount.addr}"):Def P w K mg base (CXE P w) 2 "need_odd" ["m"] (zhs C.NoCount.addr C.NotOdd.addr):=by
 refine F.okX (CX:=CXE P w) (k:=1) zbM s!"s" s!"u"
 ·obtain ⟨_,rfl,_⟩:=h;rfl
 have nd:=zbM.nd;obtain ⟨m,rfl,h1,h2,h3⟩:=h;refine ⟨_,s!"d{s!"z{s!"l{D_need_from}{xpass_cx}{s!"a{pe_int}{s!"W"}"}"}"}{s!"f{s!"w{s!"bF"}{s!"f{s!"ao{(C.NotOdd).own}"}"}"}"}",?_⟩
 walk_at "ds";refine zh [some (.int m)] rfl ?_;walk_at "rd";refine zcL s!"e" h1 fun hm=>?_
 walk_at "rd";walk_at "ite"
 ·rename_i c;walk_at "rd";exact h2 hm c
 ·walk_at "rd";exact h3 hm s!"e"
def zpt (cT:Addr):Sp:=fun vs H Q E=>∃l n:Int,vs=[.int l,.int n]/\(l=200\/l=60\/l=999999\/l=10^60-1)/\(l<n->E (.ref cT) none H)/\(n<=l->Q .non H)
theorem zm9 {cT:Addr} {l n:Int} {H:Hp} {Q:VK} {E:XK} (hl:l=200\/l=60\/l=999999\/l=10^60-1) (h1:l<n->E (.ref cT) none H) (h2:n<=l->Q .non H):zpt cT [.int l,.int n] H Q E:=⟨l,n,rfl,hl,h1,h2⟩
theorem zgv (F:Src K mg "need_to" zbm ["most","number"]) (B:Blt mg) (C:Cls K mg base) (R:Rel K mg base C) (Kc:Cst K mg):Def P w K mg base (CXE P w) 1 "need_to" ["most","number"] (zpt C.TooMany.addr):=by
 refine F.okX (CX:=CXE P w) (k:=0) zcB s!"s" s!"u"
 ·obtain ⟨_,_,rfl,_⟩:=h;rfl
 have nd:=zcB.nd;obtain ⟨l,n,rfl,hl,h1,h2⟩:=h;refine ⟨_,s!"f{s!"w{s!"K{op_gtI}{pv 1}{pv 0}"}{s!"f{@ps_raise _ _ _ _ _ _ _ _ _ _ _ _ _ _ (C.TooMany).own PySem.F.excBase_ValueError rfl rfl xmade_cx s!"a{s!"X{s!"r{pe_str}{s!"r{@pe_fmtI _ _ _ _ (pv 0)}{s!"r{pe_str}{PJ.nil}"}"}"}"}{pa_nil}" s!"c" (by rfl) (by rfl)}"}"}",?_⟩
 walk_at "ds";refine zh [some (.int l),some (.int n)] rfl ?_;walk_at "rd";walk_at "ite"
 ·rename_i c;rcases hl with rfl | rfl | rfl | rfl <;> (walk_at "rd";exact h1 c)
 ·rename_i c;walk_at "rd";exact h2 s!"e"
theorem ziE (F:Src K mg "shared" zcC ["a","b"]) (B:Blt mg) (C:Cls K mg base) (R:Rel K mg base C) (Kc:Cst K mg):Def P w K mg base (CXE P w) 1 "shared" ["a","b"] zkW:=by
 refine F.ok (CX:=CXE P w) (k:=0) zdW s!"s" s!"u"
 ·obtain ⟨_,_,rfl,_⟩:=h;rfl
 have nd:=zdW.nd;obtain ⟨a,b,rfl,q⟩:=h;refine ⟨_,s!"d{s!"i{2}{s!"A{wI}{B.abs}{PyProof.Rows.boot_abs}{s!"W"}"}"}{s!"d{s!"i{3}{s!"A{wI}{B.abs}{PyProof.Rows.boot_abs}{s!"Y"}"}"}{s!"d{@zaz _ _ _ _ _ _ PassesOwn.never s!"K{s!"aS"}{pv 3}{pe_int}" s!"d{s!"i{4}{s!"j{op_modA}{pv 2}{pv 3}"}"}{s!"d{s!"i{2}{pv 3}"}{s!"f{s!"i{3}{pv 4}"}"}"}"}{s!"bq"}"}"}",?_⟩
 walk_at "ds";refine zh [some (.int a),some (.int b),none,none,none] rfl ?_;walk_at "rd";rename_i x0 e0 y0 e1;refine zjv (fun m σ H'=>H'=H/\∃(x y:Int) (z:Option V),m=y.natAbs/\σ=[some (.int a),some (.int b),some (.int x),some (.int y),z]/\0<=x/\0<=y/\Int.gcd x y=Int.gcd a b) _ ⟨rfl,x0,y0,_,rfl,rfl,by omega,by omega,by rw [e0,e1];simp [Int.gcd]⟩ ?_
 rintro m σ H' ⟨rfl,x,y,z,rfl,rfl,hx,hy,hg⟩;walk_at "rd";walk_at "ite"
 ·rename_i c;walk_at "rd";have h1:=Int.emod_nonneg x c;have h2:=Int.emod_lt_of_pos x (show 0<y by omega)
  exact ⟨_,by omega,rfl,_,_,_,rfl,rfl,hy,h1,(Mth.zkS x y).trans hg⟩
 ·rename_i c;subst c;walk_at "rd";have e:x=(Int.gcd a b:Int):=by
   rw [<-hg,Int.gcd_zero_right];omega
  rw [e];exact q
def zpu (cA:Addr):Sp:=fun vs H Q E=>∃a m:Int,vs=[.int a,.int m]/\(Int.gcd a m≠1->E (.ref cA) none H)/\(Int.gcd a m=1->Q .non H)
theorem zpv {cA:Addr} {a m:Int} {H:Hp} {Q:VK} {E:XK} (h1:Int.gcd a m≠1->E (.ref cA) none H) (h2:Int.gcd a m=1->Q .non H):zpu cA [.int a,.int m] H Q E:=⟨a,m,rfl,h1,h2⟩
theorem zc5 (F:Src K mg "need_apart" xG ["a","m"]) (B:Blt mg) (C:Cls K mg base) (R:Rel K mg base C) (Kc:Cst K mg) (D_shared:s!"m{1}{"shared"}{["a","b"]}{zkW}"):Def P w K mg base (CXE P w) 2 "need_apart" ["a","m"] (zpu C.NotApart.addr):=by
 refine F.okX (CX:=CXE P w) (k:=1) wZ s!"s" s!"u"
 ·obtain ⟨_,_,rfl,_⟩:=h;rfl
 have nd:=wZ.nd;obtain ⟨a,m,rfl,h1,h2⟩:=h;refine ⟨_,s!"f{s!"w{s!"K{s!"aS"}{s!"l{D_shared}{xpass_cx}{s!"aT"}"}{pe_int}"}{s!"f{s!"ao{(C.NotApart).own}"}"}"}",?_⟩
 walk_at "ds";refine zh [some (.int a),some (.int m)] rfl ?_;walk_at "rd";walk_at "ite"
 ·rename_i c;walk_at "rd";exact h1 s!"e"
 ·rename_i c;walk_at "rd";exact h2 s!"e"
theorem zc6 (F:Src K mg "row_behind" xH ["a","m","sign"]) (_:Blt mg) (C:Cls K mg base) (_:Rel K mg base C) (_:Cst K mg):Def P w K mg base (CXE P w) 1 "row_behind" ["a","m","sign"] zP:=F.void zc3
def zq6 (cN cO:Addr):Sp:=fun vs H _ E=>∃a m:Int,vs=[.int a,.int m]/\1<=m/\m%2=0/\E (.ref cO) none H
theorem zeH (F:Src K mg "sign_rows" we ["a","m"]) (B:Blt mg) (C:Cls K mg base) (R:Rel K mg base C) (Kc:Cst K mg) (D_need_odd:s!"m{2}{"need_odd"}{["m"]}{zhs C.NoCount.addr C.NotOdd.addr}") (D_row_behind:s!"m{1}{"row_behind"}{["a","m","sign"]}{zP}"):Def P w K mg base (CXE P w) 3 "sign_rows" ["a","m"] (zq6 C.NoCount.addr C.NotOdd.addr):=by
 refine F.okX (CX:=CXE P w) (k:=2) zaL s!"s" s!"u"
 ·obtain ⟨_,_,rfl,_⟩:=h;rfl
 have nd:=zaL.nd;obtain ⟨a,m,rfl,h1,h2,h3⟩:=h;refine ⟨_,s!"d{s!"z{s!"l{D_need_odd}{xpass_cx}{s!"Y"}"}"}{s!"d{s!"i{2}{s!"h{s!"a{pv 0}{s!"a{pv 1}{s!"aI"}"}"}"}"}{s!"d{s!"i{3}{s!"x{s!"|"}"}"}{s!"d{@zaz _ _ _ _ _ _ PassesOwn.leaving s!"K{s!"aS"}{s!"<"}{pe_int}" s!"d{s!"i{2}{s!"l{D_row_behind}{xpass_cx}{s!"a{s!"<"}{s!"a{s!"<"}{s!"a{s!"<"}{pa_nil}"}"}"}"}"}{s!"f{s!"z{s!"an{pv 3}{s!"|"}"}"}"}"}{s!"f{s!"t{pv 3}"}"}"}"}"}",?_⟩
 walk_at "ds";refine zh [some (.int a),some (.int m),none,none] rfl ?_;walk_at "rd";exact zht (fun c=>by exfalso;omega) (fun _ _=>h3) fun _ _=>by exfalso;omega
def zpw (cN cO:Addr):Sp:=fun vs H _ E=>∃a m:Int,vs=[.int a,.int m]/\1<=m/\m%2=0/\E (.ref cO) none H
theorem zeI (F:Src K mg "exchanged" wf ["a","m"]) (B:Blt mg) (C:Cls K mg base) (R:Rel K mg base C) (Kc:Cst K mg) (D_sign_rows:s!"m{3}{"sign_rows"}{["a","m"]}{zq6 C.NoCount.addr C.NotOdd.addr}"):Def P w K mg base (CXE P w) 4 "exchanged" ["a","m"] (zpw C.NoCount.addr C.NotOdd.addr):=by
 refine F.okX (CX:=CXE P w) (k:=3) zaM s!"s" s!"u"
 ·obtain ⟨_,_,rfl,_⟩:=h;rfl
 have nd:=zaM.nd;obtain ⟨a,m,rfl,h1,h2,h3⟩:=h;refine ⟨_,s!"d{s!"i{2}{s!"?{ix_A}{s!"l{D_sign_rows}{xpass_cx}{s!"aT"}"}{@zgZ _ _ _ _ _ _ zef pe_int}"}"}{s!"f{s!"t{@xl _ _ _ _ _ _ _ _ s!"K{op_eqA hr.units0}{s!"<"}{pe_int}" s!"<" pe_int}"}"}",?_⟩
 walk_at "ds";refine zh [some (.int a),some (.int m),none] rfl ?_;walk_at "rd";exact ⟨a,m,rfl,h1,h2,h3⟩
def zq7 (cN cA:Addr):Sp:=fun vs H _ E=>∃a m:Int,vs=[.int a,.int m]/\1<=m/\Int.gcd a m≠1/\E (.ref cA) none H
theorem zbX (F:Src K mg "shuffle_sign" yU ["a","m"]) (B:Blt mg) (C:Cls K mg base) (R:Rel K mg base C) (Kc:Cst K mg) (D_need_from:s!"m{1}{"need_from"}{["least","number"]}{zcK C.NoCount.addr}") (D_need_apart:s!"m{2}{"need_apart"}{["a","m"]}{zpu C.NotApart.addr}") (D_exchanged:s!"m{4}{"exchanged"}{["a","m"]}{zpw C.NoCount.addr C.NotOdd.addr}"):Def P w K mg base (CXE P w) 5 "shuffle_sign" ["a","m"] (zq7 C.NoCount.addr C.NotApart.addr):=by
 refine F.okX (CX:=CXE P w) (k:=4) xO s!"s" s!"u"
 ·obtain ⟨_,_,rfl,_⟩:=h;rfl
 have nd:=xO.nd;obtain ⟨a,m,rfl,h1,h2,h3⟩:=h;refine ⟨_,s!"d{s!"z{s!"l{D_need_from}{xpass_cx}{s!"a{pe_int}{s!"Y"}"}"}"}{s!"d{s!"z{s!"l{D_need_apart}{xpass_cx}{s!"aT"}"}"}{s!"d{s!"w{s!"bG"}{s!"f{s!"t{s!"l{D_exchanged}{xpass_cx}{s!"aT"}"}"}"}"}{s!"d{s!"w{s!"bG"}{s!"f{s!"t{pe_int}"}"}"}{s!"f{s!"t{@xl _ _ _ _ _ _ _ _ s!"bF" pe_int (@zgZ _ _ _ _ _ _ zef pe_int)}"}"}"}"}"}",?_⟩
 walk_at "ds";refine zh [some (.int a),some (.int m)] rfl ?_;walk_at "rd";refine zcL s!"e" (fun c=>by exfalso;omega) fun _=>?_
 walk_at "rd";exact zpv (fun _=>h3) fun c=>absurd c h2
def zd0 (cN:Addr):Sp:=fun vs H _ E=>∃n m a b:Int,vs=[.int n,.int m,.int a,.int b]/\n<0/\E (.ref cN) none H
theorem zfL (F:Src K mg "sum_rows" zam ["n","m","a","b"]) (B:Blt mg) (C:Cls K mg base) (R:Rel K mg base C) (Kc:Cst K mg) (D_need_from:s!"m{1}{"need_from"}{["least","number"]}{zcK C.NoCount.addr}"):Def P w K mg base (CXE P w) 2 "sum_rows" ["n","m","a","b"] (zd0 C.NoCount.addr):=by
 refine F.okX (CX:=CXE P w) (k:=1) zbN s!"s" s!"u"
 ·obtain ⟨_,_,_,_,rfl,_⟩:=h;rfl
 have nd:=zbN.nd;obtain ⟨n,m,a,b,rfl,h1,h2⟩:=h;refine ⟨_,s!"d{s!"z{s!"l{D_need_from}{xpass_cx}{s!"a{pe_int}{s!"W"}"}"}"}{s!"d{s!"z{s!"l{D_need_from}{xpass_cx}{s!"a{pe_int}{s!"Y"}"}"}"}{s!"d{s!"i{4}{s!"x{pa_nil}"}"}{s!"d{s!"i{5}{pe_bl}"}{s!"d{@zaz _ _ _ _ _ _ PassesOwn.leaving s!"2{pv 5}" s!"d{s!"i{6}{s!"j{op_addA}{s!"j{op_mulA}{s!"j{op_divA}{s!"j{op_mulA}{pv 0}{s!"j{op_subI}{pv 0}{pe_int}"}"}{pe_int}"}{s!"j{op_divA}{pv 2}{pv 1}"}"}{s!"j{op_mulA}{pv 0}{s!"j{op_divA}{pv 3}{pv 1}"}"}"}"}{s!"d{s!"z{s!"an{pv 4}{s!"a{s!"h{s!"a{pv 0}{s!"a{pv 1}{s!"a{pv 2}{s!"a{pv 3}{s!"a{pv 6}{pa_nil}"}"}"}"}"}"}{pa_nil}"}"}"}{s!"d{s!"i{7}{s!"j{op_modA}{pv 2}{pv 1}"}"}{s!"d{s!"i{8}{s!"j{op_addA}{s!"j{op_mulA}{pv 7}{pv 0}"}{s!"j{op_modA}{pv 3}{pv 1}"}"}"}{s!"d{s!"i{5}{s!"`{op_geI}{pv 8}{pv 1}"}"}{s!"d{s!"i{0}{s!"j{op_divA}{pv 8}{pv 1}"}"}{s!"d{s!"i{3}{s!"j{op_modA}{pv 8}{pv 1}"}"}{s!"d{s!"i{2}{pv 1}"}{s!"f{s!"i{1}{pv 7}"}"}"}"}"}"}"}"}"}"}{s!"br"}"}"}"}"}",?_⟩
 walk_at "ds";refine zh [some (.int n),some (.int m),some (.int a),some (.int b),none,none,none,none,none] rfl ?_;walk_at "rd";exact zcL s!"e" (fun _=>h2) fun c=>by exfalso;omega
def zgw (cN:Addr):Sp:=fun vs H _ E=>∃n m a b:Int,vs=[.int n,.int m,.int a,.int b]/\n<0/\E (.ref cN) none H
theorem zeJ (F:Src K mg "whole_sum" wj ["n","m","a","b"]) (B:Blt mg) (C:Cls K mg base) (R:Rel K mg base C) (Kc:Cst K mg) (D_sum_rows:s!"m{2}{"sum_rows"}{["n","m","a","b"]}{zd0 C.NoCount.addr}"):Def P w K mg base (CXE P w) 3 "whole_sum" ["n","m","a","b"] (zgw C.NoCount.addr):=by
 refine F.okX (CX:=CXE P w) (k:=2) zaN s!"s" s!"u"
 ·obtain ⟨_,_,_,_,rfl,_⟩:=h;rfl
 have nd:=zaN.nd;obtain ⟨n,m,a,b,rfl,h1,h2⟩:=h;refine ⟨_,s!"f{s!"t{s!"A{zhY rfl}{B.sum}{PyProof.Rows.boot_sum}{s!"a{s!"ay{@PI.or _ _ _ _ _ s!"as{s!"bH"}" (@pi_tup _ _ _ _ s!"bH")}{fun pins ex s H=>s!"?{zqM}{pv 0}{pe_int}"}"}{pa_nil}"}"}"}",?_⟩
 walk_at "ds";refine zh [some (.int n),some (.int m),some (.int a),some (.int b)] rfl ?_;walk_at "rd";refine xX ?_;walk_at "rd";exact ⟨n,m,a,b,rfl,h1,h2⟩
def zod (cN cO:Addr):Sp:=fun vs H _ E=>∃a m:Int,vs=[.int a,.int m]/\m<1/\E (.ref cN) none H
theorem zbY (F:Src K mg "points_under" yV ["a","m"]) (B:Blt mg) (C:Cls K mg base) (R:Rel K mg base C) (Kc:Cst K mg) (D_need_odd:s!"m{2}{"need_odd"}{["m"]}{zhs C.NoCount.addr C.NotOdd.addr}") (D_whole_sum:s!"m{3}{"whole_sum"}{["n","m","a","b"]}{zgw C.NoCount.addr}"):Def P w K mg base (CXE P w) 4 "points_under" ["a","m"] (zod C.NoCount.addr C.NotOdd.addr):=by
 refine F.okX (CX:=CXE P w) (k:=3) xP s!"s" s!"u"
 ·obtain ⟨_,_,rfl,_⟩:=h;rfl
 have nd:=xP.nd;obtain ⟨a,m,rfl,h1,h2⟩:=h;refine ⟨_,s!"d{s!"z{s!"l{D_need_odd}{xpass_cx}{s!"Y"}"}"}{s!"f{s!"t{s!"l{D_whole_sum}{xpass_cx}{s!"a{s!"j{op_divA}{s!"j{op_addA}{pv 1}{pe_int}"}{pe_int}"}{s!"a{pv 1}{s!"a{pv 0}{s!"aI"}"}"}"}"}"}"}",?_⟩
 walk_at "ds";refine zh [some (.int a),some (.int m)] rfl ?_;walk_at "rd";exact zht (fun _=>h2) (fun c=>by exfalso;omega) fun c=>by exfalso;omega
theorem ziF (F:Src K mg "twelve" zcD ["a","m"]) (_:Blt mg) (C:Cls K mg base) (_:Rel K mg base C) (_:Cst K mg):Def P w K mg base (CXE P w) 1 "twelve" ["a","m"] zP:=F.void ziC
theorem zeK (F:Src K mg "tooth_sum" wk ["a","m"]) (_:Blt mg) (C:Cls K mg base) (_:Rel K mg base C) (_:Cst K mg):Def P w K mg base (CXE P w) 1 "tooth_sum" ["a","m"] zP:=F.void zeD
def zkY:Sp:=fun vs H Q _=>∃(t:Addr) (a b c d:Int),vs=[.ref t]/\Tab H t a b c d/\a.natAbs<10^190/\b.natAbs<10^190/\c.natAbs<10^190/\d.natAbs<10^190/\Q (.bl (decide (a*d-b*c=1))) H
theorem zna {t:Addr} {a b c d:Int} {H:Hp} {Q:VK} {E:XK} (T:Tab H t a b c d) (b1:a.natAbs<10^190) (b2:b.natAbs<10^190) (b3:c.natAbs<10^190) (b4:d.natAbs<10^190) (h:Q (.bl (decide (a*d-b*c=1))) H):zkY [.ref t] H Q E:=⟨t,a,b,c,d,rfl,T,b1,b2,b3,b4,h⟩
theorem zfM (F:Src K mg "is_table" zan ["table"]) (B:Blt mg) (C:Cls K mg base) (R:Rel K mg base C) (Kc:Cst K mg) (D_is_pair_of_wholes:s!"m{2}{"is_pair_of_wholes"}{["thing"]}{zps}"):Def P w K mg base (CXE P w) 3 "is_table" ["table"] zkY:=by
 refine F.ok (CX:=CXE P w) (k:=2) zbO s!"s" s!"u"
 ·obtain ⟨_,_,_,_,_,rfl,_⟩:=h;rfl
 have nd:=zbO.nd;obtain ⟨t,a,b,c,d,rfl,⟨r,s,e1,e2,e3⟩,b1,b2,b3,b4,q⟩:=h;refine ⟨_,s!"d{s!"w{@PW.pt _ _ _ (@pw_or _ _ _ _ _ _ _ s!"@{s!"2{s!"A{yj}{B.isinstance}{PyProof.Rows.boot_isinstance}{s!"a{pv 0}{s!"a{s!"ad{.ty "tuple"}{B.tuple}{PyProof.Rows.boot_tuple}"}{pa_nil}"}"}"}"}" (@pw_or1 _ _ _ _ s!"K{s!"aS"}{s!"aw"}{pe_int}"))}{s!"ab"}"}{s!"d{s!"w{@PW.pt _ _ _ (@pw_or _ _ _ _ _ _ _ s!"@{s!"2{s!"l{D_is_pair_of_wholes}{xpass_nox}{s!"a{s!"N{pv 0}"}{pa_nil}"}"}"}" (@pw_or1 _ _ _ _ s!"@{s!"2{s!"l{D_is_pair_of_wholes}{xpass_nox}{s!"a{s!"N{pv 0}"}{pa_nil}"}"}"}"))}{s!"ab"}"}{s!"f{s!"t{s!"`{op_eqA hr.units0}{s!"j{op_subI}{s!"j{op_mulA}{s!"="}{s!"="}"}{s!"j{op_mulA}{s!"="}{s!"="}"}"}{pe_int}"}"}"}"}",?_⟩
 walk_at "ds";refine zh [some s!"E"] rfl ?_;walk_at "rd";walk_at "ite"
 ·rename_i c;exact absurd rfl c
 walk_at "rd";refine zkX e2 ?_;walk_at "rd";refine zkX e3 ?_;walk_at "rd";exact q
def za1 (cX:Addr):Sp:=fun vs H Q E=>∃(t:Addr) (a b c d:Int),vs=[.ref t]/\Tab H t a b c d/\a.natAbs<10^190/\b.natAbs<10^190/\c.natAbs<10^190/\d.natAbs<10^190/\(a*d-b*c=1->Q .non H)/\(a*d-b*c≠1->E (.ref cX) none H)
theorem znb {cX t:Addr} {a b c d:Int} {H:Hp} {Q:VK} {E:XK} (T:Tab H t a b c d) (b1:a.natAbs<10^190) (b2:b.natAbs<10^190) (b3:c.natAbs<10^190) (b4:d.natAbs<10^190) (h1:a*d-b*c=1->Q .non H) (h2:a*d-b*c≠1->E (.ref cX) none H):za1 cX [.ref t] H Q E:=⟨t,a,b,c,d,rfl,T,b1,b2,b3,b4,h1,h2⟩
theorem zbs {cX t:Addr} {a b c d:Int} {H:Hp} {Q:VK} {E:XK} (T:Tab H t a b c d) (e:a*d-b*c=1) (b1:a.natAbs<10^190) (b2:b.natAbs<10^190) (b3:c.natAbs<10^190) (b4:d.natAbs<10^190) (h:Q .non H):za1 cX [.ref t] H Q E:=⟨t,a,b,c,d,rfl,T,b1,b2,b3,b4,fun _=>h,fun z=>absurd e z⟩
theorem zc7 (F:Src K mg "need_table" xI ["table"]) (B:Blt mg) (C:Cls K mg base) (R:Rel K mg base C) (Kc:Cst K mg) (D_is_table:s!"m{3}{"is_table"}{["table"]}{zkY}"):Def P w K mg base (CXE P w) 4 "need_table" ["table"] (za1 C.NoTable.addr):=by
 refine F.okX (CX:=CXE P w) (k:=3) w5 s!"s" s!"u"
 ·obtain ⟨_,_,_,_,_,rfl,_⟩:=h;rfl
 have nd:=w5.nd;obtain ⟨t,a,b,c,d,rfl,T,b1,b2,b3,b4,q1,q2⟩:=h;refine ⟨_,s!"f{s!"w{s!"@{s!"2{s!"l{D_is_table}{xpass_cx}{s!"W"}"}"}"}{s!"f{s!"ao{(C.NoTable).own}"}"}"}",?_⟩
 walk_at "ds";refine zh [some s!"E"] rfl ?_;walk_at "rd";refine zna T b1 b2 b3 b4 ?_
 by_cases z:a*d-b*c=1
 ·rw [decide_eq_true z];walk_at "rd";exact q1 z
 ·rw [decide_eq_false z];walk_at "rd";exact q2 z
def zpx:Sp:=fun vs H Q _=>∃(u t:Addr) (x y a b c d:Int),vs=[.ref u,.ref t]/\H u=some (.tup [.int x,.int y])/\Tab H t a b c d/\x.natAbs<10^190/\y.natAbs<10^190/\a.natAbs<10^190/\b.natAbs<10^190/\c.natAbs<10^190/\d.natAbs<10^190/\∀r H',Same H H'->H' r=some (.tup [.int (x*a+y*c),.int (x*b+y*d)])->Q (.ref r) H'
theorem zkZ {u t:Addr} {x y a b c d:Int} {H:Hp} {Q:VK} {E:XK} (e:H u=some (.tup [.int x,.int y])) (T:Tab H t a b c d) (b1:x.natAbs<10^190) (b2:y.natAbs<10^190) (b3:a.natAbs<10^190) (b4:b.natAbs<10^190) (b5:c.natAbs<10^190) (b6:d.natAbs<10^190) (h:∀r H',Same H H'->H' r=some (.tup [.int (x*a+y*c),.int (x*b+y*d)])->Q (.ref r) H'):zpx [.ref u,.ref t] H Q E:=⟨u,t,x,y,a,b,c,d,rfl,e,T,b1,b2,b3,b4,b5,b6,h⟩
theorem zbZ (F:Src K mg "row_together" yW ["row","table"]) (B:Blt mg) (C:Cls K mg base) (R:Rel K mg base C) (Kc:Cst K mg):Def P w K mg base (CXE P w) 1 "row_together" ["row","table"] zpx:=by
 refine F.ok (CX:=CXE P w) (k:=0) xQ s!"s" s!"u"
 ·obtain ⟨_,_,_,_,_,_,_,_,rfl,_⟩:=h;rfl
 have nd:=xQ.nd;obtain ⟨u,t,x,y,a,b,c,d,rfl,e,⟨r,s,e1,e2,e3⟩,b1,b2,b3,b4,b5,b6,q⟩:=h;refine ⟨_,s!"f{s!"t{s!"h{s!"a{s!"j{op_addA}{s!"j{op_mulA}{s!"N{pv 0}"}{s!"N{s!"J"}"}"}{s!"j{op_mulA}{s!"N{pv 0}"}{s!"N{s!"J"}"}"}"}{s!"a{s!"j{op_addA}{s!"j{op_mulA}{s!"N{pv 0}"}{s!"N{s!"J"}"}"}{s!"j{op_mulA}{s!"N{pv 0}"}{s!"N{s!"J"}"}"}"}{pa_nil}"}"}"}"}",?_⟩
 walk_at "ds";refine zh [some (.ref u),some s!"E"] rfl ?_;walk_at "rd";rename_i p H1 s1 n1 f1;exact q p H1 s1 f1
def zpy:Sp:=fun vs H Q _=>∃(t u:Addr) (a b c d e f g h:Int),vs=[.ref t,.ref u]/\Tab H t a b c d/\Tab H u e f g h/\a*d-b*c=1/\e*h-f*g=1/\(a.natAbs<10^190/\b.natAbs<10^190/\c.natAbs<10^190/\d.natAbs<10^190)/\(e.natAbs<10^190/\f.natAbs<10^190/\g.natAbs<10^190/\h.natAbs<10^190)/\∀r H',Same H H'->Tab H' r (a*e+b*g) (a*f+b*h) (c*e+d*g) (c*f+d*h)->Q (.ref r) H'
theorem zpz {t u:Addr} {a b c d e f g h:Int} {H:Hp} {Q:VK} {E:XK} (T:Tab H t a b c d) (U:Tab H u e f g h) (d1:a*d-b*c=1) (d2:e*h-f*g=1) (b1:a.natAbs<10^190/\b.natAbs<10^190/\c.natAbs<10^190/\d.natAbs<10^190) (b2:e.natAbs<10^190/\f.natAbs<10^190/\g.natAbs<10^190/\h.natAbs<10^190) (q:∀r H',Same H H'->Tab H' r (a*e+b*g) (a*f+b*h) (c*e+d*g) (c*f+d*h)->Q (.ref r) H'):zpy [.ref t,.ref u] H Q E:=⟨t,u,a,b,c,d,e,f,g,h,rfl,T,U,d1,d2,b1,b2,q⟩
theorem zfN (F:Src K mg "together" zao ["one","other"]) (B:Blt mg) (C:Cls K mg base) (R:Rel K mg base C) (Kc:Cst K mg) (D_need_table:s!"m{4}{"need_table"}{["table"]}{za1 C.NoTable.addr}") (D_row_together:s!"m{1}{"row_together"}{["row","table"]}{zpx}"):Def P w K mg base (CXE P w) 5 "together" ["one","other"] zpy:=by
 refine F.ok (CX:=CXE P w) (k:=4) zbP s!"s" s!"u"
 ·obtain ⟨_,_,_,_,_,_,_,_,_,_,rfl,_⟩:=h;rfl
 have nd:=zbP.nd;obtain ⟨t,u,a,b,c,d,e,f,g,h,rfl,T,U,d1,d2,⟨b1,b2,b3,b4⟩,⟨b5,b6,b7,b8⟩,q⟩:=h;refine ⟨_,s!"d{s!"z{s!"l{D_need_table}{xpass_nox}{s!"W"}"}"}{s!"d{s!"z{s!"l{D_need_table}{xpass_nox}{s!"Y"}"}"}{s!"f{s!"t{s!"h{s!"a{s!"bI"}{s!"a{s!"bI"}{pa_nil}"}"}"}"}"}"}",?_⟩
 walk_at "ds";refine zh [some s!"E",some (.ref u)] rfl ?_;walk_at "rd";refine zbs T d1 b1 b2 b3 b4 ?_;walk_at "rd";refine zbs U d2 b5 b6 b7 b8 ?_;obtain ⟨r,s,e1,e2,e3⟩:=T.ex;walk_at "rd";refine zkZ e2 U b1 b2 b5 b6 b7 b8 fun r1 H1 s1 f1=>?_
 walk_at "rd";refine zkZ (s1.obj e3) (U.same s1) b3 b4 b5 b6 b7 b8 fun r2 H2 s2 f2=>?_
 walk_at "rd";rename_i p H3 s3 n3 f3;exact q p H3 (by walk_at "sm") ⟨r1,r2,f3,s3.obj (s2.obj f1),s3.obj f2⟩
def zpA:Sp:=fun vs H Q _=>∃(t:Addr) (a b c d:Int),vs=[.ref t]/\Tab H t a b c d/\a*d-b*c=1/\a.natAbs<10^190/\b.natAbs<10^190/\c.natAbs<10^190/\d.natAbs<10^190/\∀r H',Same H H'->Tab H' r d (-b) (-c) a->Q (.ref r) H'
theorem zpB {t:Addr} {a b c d:Int} {H:Hp} {Q:VK} {E:XK} (T:Tab H t a b c d) (e:a*d-b*c=1) (b1:a.natAbs<10^190) (b2:b.natAbs<10^190) (b3:c.natAbs<10^190) (b4:d.natAbs<10^190) (h:∀r H',Same H H'->Tab H' r d (-b) (-c) a->Q (.ref r) H'):zpA [.ref t] H Q E:=⟨t,a,b,c,d,rfl,T,e,b1,b2,b3,b4,h⟩
theorem zgx (F:Src K mg "back_of" zbn ["table"]) (B:Blt mg) (C:Cls K mg base) (R:Rel K mg base C) (Kc:Cst K mg) (D_need_table:s!"m{4}{"need_table"}{["table"]}{za1 C.NoTable.addr}"):Def P w K mg base (CXE P w) 5 "back_of" ["table"] zpA:=by
 refine F.ok (CX:=CXE P w) (k:=4) zcE s!"s" s!"u"
 ·obtain ⟨_,_,_,_,_,rfl,_⟩:=h;rfl
 have nd:=zcE.nd;obtain ⟨t,a,b,c,d,rfl,T,det,b1,b2,b3,b4,q⟩:=h;refine ⟨_,s!"d{s!"z{s!"l{D_need_table}{xpass_nox}{s!"W"}"}"}{s!"f{s!"t{s!"h{s!"a{s!"h{s!"a{s!"="}{s!"a{@zgZ _ _ _ _ _ _ zef s!"="}{pa_nil}"}"}"}{s!"a{s!"h{s!"a{@zgZ _ _ _ _ _ _ zef s!"="}{s!"a{s!"="}{pa_nil}"}"}"}{pa_nil}"}"}"}"}"}",?_⟩
 walk_at "ds";refine zh [some s!"E"] rfl ?_;walk_at "rd";refine zbs T det b1 b2 b3 b4 ?_;obtain ⟨r,s,e1,e2,e3⟩:=T.ex;walk_at "rd";rename_i p1 H1 s1 n1 f1 p2 H2 s2 n2 f2 p3 H3 s3 n3 f3;exact q p3 H3 (by walk_at "sm") ⟨p1,p2,f3,s3.obj (s2.obj f1),s3.obj f2⟩
def zoe:Sp:=fun vs H Q _=>∃(t:Addr) (a b d:Int),vs=[.ref t]/\Tab H t a b 0 d/\a*d-b*0=1/\a.natAbs<10^180/\b.natAbs<10^180/\d.natAbs<10^180/\Q (.int (b*d)) H
theorem zeL (F:Src K mg "number_of" wl ["table"]) (B:Blt mg) (C:Cls K mg base) (R:Rel K mg base C) (Kc:Cst K mg) (D_need_table:s!"m{4}{"need_table"}{["table"]}{za1 C.NoTable.addr}") (D_twelve:s!"m{1}{"twelve"}{["a","m"]}{zP}"):Def P w K mg base (CXE P w) 5 "number_of" ["table"] zoe:=by
 refine F.ok (CX:=CXE P w) (k:=4) zaO s!"s" s!"u"
 ·obtain ⟨_,_,_,_,rfl,_⟩:=h;rfl
 have nd:=zaO.nd;obtain ⟨t,a,b,d,rfl,T,det,b1,b2,b4,q⟩:=h;refine ⟨_,s!"d{s!"z{s!"l{D_need_table}{xpass_nox}{s!"W"}"}"}{s!"d{s!"i{1}{s!"="}"}{s!"d{s!"i{2}{s!"="}"}{s!"d{s!"w{s!"K{op_eqA hr.units0}{pv 1}{pe_int}"}{s!"f{s!"t{s!"j{op_mulA}{s!"="}{pv 2}"}"}"}"}{s!"f{s!"t{s!"j{op_divA}{s!"j{op_subI}{s!"j{op_addA}{s!"="}{pv 2}"}{s!"l{D_twelve}{xpass_nox}{s!"a{pv 2}{s!"a{s!"A{wI}{B.abs}{PyProof.Rows.boot_abs}{s!"Y"}"}{pa_nil}"}"}"}"}{pv 1}"}"}"}"}"}"}",?_⟩
 walk_at "ds";refine zh [some s!"E",none,none] rfl ?_;walk_at "rd";refine zbs T det s!"e" s!"e" s!"e" s!"e" ?_
 obtain ⟨r,s,e1,e2,e3⟩:=T.ex;walk_at "rd";walk_at "ite"
 rotate_left
 ·exact absurd rfl (by assumption)
 walk_at "rd";exact q
theorem zeM (F:Src K mg "steady_of" wm ["table"]) (_:Blt mg) (C:Cls K mg base) (_:Rel K mg base C) (_:Cst K mg):Def P w K mg base (CXE P w) 1 "steady_of" ["table"] zP:=F.void zeE
def zhu (H:Hp) (v:V) (b:Bool) (n:Int):Prop:=∃p,v=.ref p/\H p=some (.tup [.str (ltr b),.int n])/\1<=n
def wD (H:Hp) (v:V):Prop:=∃b n,zhu H v b n
def KR (H:Hp) (v:V):Prop:=(ya v=true)\/(∃p xs,v=.ref p/\H p=some s!"P")\/(∃p xs,v=.ref p/\H p=some (.tup xs)/\(xs.length=2->∀x∈xs,ya x=true))
theorem znc {v:V} (h:ya v=true) (H:Hp):Kn H v:=by
 cases v with
 | int i=>exact .inl ⟨i,rfl⟩
 | bl b=>exact .inr (.inl ⟨b,rfl⟩)
 | str s=>exact .inr (.inr (.inl ⟨s,rfl⟩))
 | non=>exact .inr (.inr (.inr (.inl rfl)))
 | _=>cases h
theorem KR.same {H H':Hp} {v:V} (k:KR H v) (s:Same H H'):KR H' v:=by
 rcases k with k | ⟨p,xs,e,h⟩ | ⟨p,xs,e,h,k⟩
 ·exact .inl k
 ·exact .inr (.inl ⟨p,xs,e,s.obj h⟩)
 ·exact .inr (.inr ⟨p,xs,e,s.obj h,k⟩)
theorem zhu.same {H H':Hp} {v:V} {b:Bool} {n:Int} (r:zhu H v b n) (s:Same H H'):zhu H' v b n:=by
 obtain ⟨p,e,h,k⟩:=r;exact ⟨p,e,s.obj h,k⟩
theorem wD.back {H H':Hp} {v:V} (k:KR H v) (s:Same H H') (r:wD H' v):wD H v:=by
 obtain ⟨b,n,p,rfl,h,n1⟩:=r;rcases k with k | ⟨q,xs,e,h'⟩ | ⟨q,xs,e,h',_⟩
 ·cases k
 ·cases e;rw [s.obj h'] at h;cases h
 ·cases e;have:=s.obj h';rw [this] at h;cases h;exact ⟨b,n,p,rfl,h',n1⟩
def zk0:Sp:=fun vs H Q _=>∃v:V,vs=[v]/\KR H v/\(wD H v->∀H',Same H H'->Q s!"#" H')/\(¬wD H v->∀H',Same H H'->Q (.bl false) H')
theorem znd {v:V} {H:Hp} {Q:VK} {E:XK} (k:KR H v) (h1:wD H v->∀H',Same H H'->Q s!"#" H') (h2:¬wD H v->∀H',Same H H'->Q (.bl false) H'):zk0 [v] H Q E:=⟨v,rfl,k,h1,h2⟩
theorem wE {H:Hp} {p:Addr} {o:HO} (h:H p=some o) (n:∀b k,1<=k->o≠.tup [.str (ltr b),.int k]):¬wD H (.ref p):=by
 rintro ⟨b,k,q,e,h',k1⟩;cases e;rw [h] at h';exact n b k k1 s!"9{h'}"
theorem zne {x y x' y':V} (h:HO.tup [x,y]=HO.tup [x',y']):x=x'/\y=y':=by
 injection h with h
 injection h with h1 h2
 injection h2 with h2 _
 exact ⟨h1,h2⟩
theorem zof {x:V} (f:ya x=true):inV x [.str "u",.str "v"]=true↔∃b,x=.str (ltr b):=by
 constructor
 ·intro h;cases x with
  | str s=>
   have:s="u"\/s="v":=by
    by_cases h1:s="u"
    ·exact .inl h1
    ·by_cases h2:s="v"
     ·exact .inr h2
     ·exfalso;simp [inV,eqV,Ne.symm h1,Ne.symm h2,h1,h2] at h
   rcases this with rfl | rfl
   ·exact ⟨true,rfl⟩
   ·exact ⟨false,rfl⟩
  | _=>simp [inV,eqV] at h
 ·rintro ⟨b,rfl⟩;cases b <;> rfl
theorem ziG (F:Src K mg "is_run" zcF ["thing"]) (B:Blt mg) (C:Cls K mg base) (R:Rel K mg base C) (Kc:Cst K mg) (D_is_whole:s!"m{1}{"is_whole"}{["thing"]}{zm8}"):Def P w K mg base (CXE P w) 2 "is_run" ["thing"] zk0:=by
 refine F.ok (CX:=CXE P w) (k:=1) zdX s!"s" s!"u"
 ·obtain ⟨_,rfl,_⟩:=h;rfl
 have nd:=zdX.nd;obtain ⟨v,rfl,k,q1,q2⟩:=h;refine ⟨_,s!"d{s!"w{@PW.pt _ _ _ (@pw_or _ _ _ _ _ _ _ s!"@{s!"2{s!"A{yj}{B.isinstance}{PyProof.Rows.boot_isinstance}{s!"a{pv 0}{s!"a{s!"ad{.ty "tuple"}{B.tuple}{PyProof.Rows.boot_tuple}"}{pa_nil}"}"}"}"}" (@pw_or1 _ _ _ _ s!"K{s!"aS"}{s!"aw"}{pe_int}"))}{s!"ab"}"}{s!"f{s!"t{s!"aq{@pe_cmpR _ _ _ _ _ _ _ _ op_in_seq s!"N{pv 0}" s!"h{s!"a{pe_str}{s!"R"}"}" rfl}{s!"aq{s!"bp"}{s!"aM{s!"`{op_geI}{s!"N{pv 0}"}{pe_int}"}"}"}"}"}"}",?_⟩
 walk_at "ds";refine zh [some v] rfl ?_;rcases k with k | ⟨p,xs,rfl,e⟩ | ⟨p,xs,rfl,e,k⟩
 ·have q:=q2 (by rintro ⟨b,n,p,rfl,_⟩;cases k) _ (Same.refl _)
  cases v with
  | int i=>walk_at "rd";exact q
  | bl b=>walk_at "rd";exact q
  | str s=>walk_at "rd";exact q
  | non=>walk_at "rd";exact q
  | _=>cases k
 ·have q:=q2 (wE e fun b k _ z=>by cases z) _ (Same.refl _)
  walk_at "rd";exact q
 ·walk_at "rd";walk_at "ite"
  ·rename_i c;walk_at "rd";exact q2 (wE e fun b k _ z=>by cases z;exact c rfl) _ (Same.refl _)
  ·rename_i c
   match xs,c,e,k with
   | [x,y],_,e,k=>
   have fx:=k rfl x (by simp)
   have fy:=k rfl y (by simp)
   walk_at "rd";rename_i t H1 s1 n1 e1;have e':=s1.obj e;refine ⟨t,_,rfl,.inr (SqT.of e1),fx,rfl,?_⟩;show kB (.bl (inV x [.str "u",.str "v"])) H1 _;cases hin:inV x [.str "u",.str "v"] with
   | false=>
    walk_at "rd";exact q2 (wE e fun b k _ z=>by cases z;rw [(zof rfl).mpr ⟨b,rfl⟩] at hin;cases hin) _ s1
   | true=>
    obtain ⟨b,rfl⟩:=(zof fx).mp hin;walk_at "rd";refine zgu (znc fy _) ?_
    by_cases hI:∃i,y=.int i
    ·obtain ⟨i,rfl⟩:=hI;rw [show isI (V.int i)=true from rfl]
     walk_at "rd"
     by_cases hi:1<=i
     ·rw [decide_eq_true (show i>=1 from hi)]
      exact q1 ⟨b,i,p,rfl,e,hi⟩ _ s1
     ·rw [decide_eq_false (show ¬i>=1 from hi)]
      exact q2 (wE e fun b k k1 z=>by have:=(zne z).2;cases this;exact hi k1) _ s1
    ·have e0:isI y=false:=by cases y <;> first | rfl | exact absurd ⟨_,rfl⟩ hI
     rw [e0];walk_at "rd";exact q2 (wE e fun b k k1 z=>hI ⟨_,(zne z).2⟩) _ s1
def KW (H:Hp) (v:V):Prop:=(ya v=true)\/(∃p xs,v=.ref p/\H p=some (.tup xs))\/(∃p xs,v=.ref p/\H p=some s!"P"/\xs.length<=900/\∀x∈xs,KR H x)
def xa (H:Hp) (v:V) (ws:List (Bool×Int)):Prop:=∃D,v=.ref D/\WordL H D ws/\Mth.Alt ws/\(∀p∈ws,1<=p.2)/\ws.length<=900
def zac (H:Hp) (v:V):Prop:=∃ws,xa H v ws
theorem xa.same {H H':Hp} {v:V} {ws:List (Bool×Int)} (g:xa H v ws) (s:Same H H'):xa H' v ws:=by
 obtain ⟨D,e,W,k⟩:=g;exact ⟨D,e,W.same s,k⟩
theorem zd1 {H:Hp}:∀{xs:List V},(∀x∈xs,wD H x)->∃(as:List Addr) (ws:List (Bool×Int)),xs=as.map V.ref/\as.length=ws.length/\(∀(i:Nat) (x:Addr) (p:Bool×Int),as[i]? =some x->ws[i]? =some p->H x=some (.tup [.str (ltr p.1),.int p.2]))/\∀p∈ws,1<=p.2
 | [],_=>⟨[],[],rfl,rfl,fun i x p h=>by simp at h,fun p h=>by simp at h⟩
 | x::r,h=>by
  obtain ⟨b,n,p,rfl,e,n1⟩:=h x (List.mem_cons_self ..);obtain ⟨as,ws,rfl,l,T,P⟩:=zd1 (xs:=r) fun y hy=>h y s!"3{hy}"
  refine ⟨p::as,(b,n)::ws,rfl,by simp [l],fun i x q hx hq=>?_,fun q hq=>?_⟩
  ·cases i with
   | zero=>cases hx;cases hq;exact e
   | succ j=>exact T j x q hx hq
  ·rcases List.mem_cons.mp hq with rfl | hq
   ·exact n1
   ·exact P q hq
theorem WordL.runs {H:Hp} {D:Addr} {ws:List (Bool×Int)} {xs:List V} (W:WordL H D ws) (P:∀p∈ws,1<=p.2) (e:H D=some s!"P"):∀x∈xs,wD H x:=by
 obtain ⟨as,eD,la,T⟩:=W.ex;rw [e] at eD;cases eD;intro x hx;obtain ⟨u,hu,rfl⟩:=List.mem_map.mp hx;obtain ⟨i,hi⟩:=List.getElem?_of_mem hu;obtain ⟨p,hp⟩:∃p,ws[i]? =some p:=⟨_,List.getElem?_eq_getElem (by have:=s!"Z{hi}".1;omega)⟩
 exact ⟨p.1,p.2,u,rfl,T i u p hi hp,P p s!"4{hp}"⟩
theorem WordL.uniq {H:Hp} {D:Addr} {ws us:List (Bool×Int)} (W:WordL H D ws) (U:WordL H D us):ws=us:=by
 obtain ⟨as,eD,la,T⟩:=W.ex;obtain ⟨bs,eB,lb,S⟩:=U.ex;rw [eD] at eB;have hab:as=bs:=by
  have h:=HO.lst.inj s!"9{eB}";exact (List.map_inj_right (f:=V.ref) (fun a b h=>by cases h;rfl)).mp h
 subst hab;apply List.ext_getElem?;intro i
 by_cases hi:i<as.length
 ·obtain ⟨x,hx⟩:∃x,as[i]? =some x:=⟨_,List.getElem?_eq_getElem hi⟩;obtain ⟨p,hp⟩:∃p,ws[i]? =some p:=⟨_,List.getElem?_eq_getElem s!"e"⟩
  obtain ⟨q,hq⟩:∃q,us[i]? =some q:=⟨_,List.getElem?_eq_getElem s!"e"⟩
  have e1:=T i x p hx hp;rw [S i x q hx hq] at e1;have h2:=zne s!"9{e1}";rw [hp,hq];obtain ⟨b,n⟩:=p;obtain ⟨c,m⟩:=q;have en:m=n:=by have:=h2.2;cases this;rfl
  have eb:c=b:=by
   have h3:ltr c=ltr b:=V.str.inj h2.1;cases c <;> cases b <;> first | rfl | exact absurd h3 s!"c"
  rw [en,eb]
 ·rw [List.getElem?_eq_none s!"e",List.getElem?_eq_none s!"e"]
theorem zk1 {K:PySem.W.Frag} {H:Hp} {Q:VK} {a:Addr} {xs:List V} {i:Int} {v:V} (h1:SqL K H a xs) (h0:0<=i) (hv:xs[i.toNat]? =some v) (h:Q v H):zgd K s!"g" s!"M" H Q:=by
 refine zgd.Qn (v:=v) h1 ?_ h;have e:=wH (xs:=xs) (j:=i.toNat) (v:=v) hv;rw [show ((i.toNat:Nat):Int)=i by omega] at e
 exact e
def zeN (ws:List (Bool×Int)) (k:Nat):Bool:=!decide (ltr ((ws.getD (k-1) (true,0)).1)=ltr ((ws.getD k (true,0)).1))
theorem zhv (ws:List (Bool×Int)):(s!"5{(ws.length-1)}".all fun i=>zeN ws (1+i))=true↔Mth.Alt ws:=by
 rw [List.all_eq_true];constructor
 ·intro h i p q hp hq;have hl:=s!"Z{hq}".1;have:=h i (List.mem_range.mpr s!"e")
  unfold zeN at this;rw [show 1+i-1=i by omega,show 1+i=i+1 by omega,List.getD_eq_getElem?_getD,List.getD_eq_getElem?_getD,hp,hq] at this
  intro e;rw [show ((some p).getD (true,0)).1=p.1 from rfl,show ((some q).getD (true,0)).1=q.1 from rfl,e,decide_eq_true rfl] at this
  cases this
 ·intro h i hi;have hl:=List.mem_range.mp hi;obtain ⟨p,hp⟩:∃p,ws[i]? =some p:=⟨_,List.getElem?_eq_getElem s!"e"⟩
  obtain ⟨q,hq⟩:∃q,ws[i+1]? =some q:=⟨_,List.getElem?_eq_getElem s!"e"⟩
  unfold zeN;rw [show 1+i-1=i by omega,show 1+i=i+1 by omega,List.getD_eq_getElem?_getD,List.getD_eq_getElem?_getD,hp,hq]
  show (!decide (ltr p.1=ltr q.1))=true;rw [decide_eq_false fun e=>h i p q hp hq (by cases hb:p.1 <;> cases hc:q.1 <;> rw [hb,hc] at e <;> first | rfl | exact absurd e s!"c")]
  rfl
def znf:Sp:=fun vs H Q _=>∃v:V,vs=[v]/\KW H v/\(zac H v->∀H',Same H H'->Q s!"#" H')/\(¬zac H v->∀H',Same H H'->Q (.bl false) H')
theorem zk2 {v:V} {H:Hp} {Q:VK} {E:XK} (k:KW H v) (h1:zac H v->∀H',Same H H'->Q s!"#" H') (h2:¬zac H v->∀H',Same H H'->Q (.bl false) H'):znf [v] H Q E:=⟨v,rfl,k,h1,h2⟩
open Classical in
theorem zgy (F:Src K mg "is_word" zbo ["word"]) (B:Blt mg) (C:Cls K mg base) (R:Rel K mg base C) (Kc:Cst K mg) (D_is_run:s!"m{2}{"is_run"}{["thing"]}{zk0}"):Def P w K mg base (CXE P w) 3 "is_word" ["word"] znf:=by
 refine F.ok (CX:=CXE P w) (k:=2) zcG s!"s" s!"u"
 ·obtain ⟨_,rfl,_⟩:=h;rfl
 have nd:=zcG.nd;obtain ⟨v,rfl,k,q1,q2⟩:=h;refine ⟨_,s!"d{s!"w{@PW.pt _ _ _ (@pw_or _ _ _ _ _ _ _ s!"@{s!"2{s!"A{yj}{B.isinstance}{PyProof.Rows.boot_isinstance}{s!"a{pv 0}{s!"a{s!"ad{.ty "list"}{B.list}{PyProof.Rows.boot_list}"}{pa_nil}"}"}"}"}" (@pw_or1 _ _ _ _ s!"@{s!"2{s!"A{call_allB rfl}{B.all}{PyProof.Rows.boot_all}{s!"a{s!"ay{@PI.or _ _ _ _ _ s!"as{pv 0}" (@pi_tup _ _ _ _ (pv 0))}{fun pins ex s H=>s!"l{D_is_run}{zcn}{s!"W"}"}"}{pa_nil}"}"}"}"))}{s!"ab"}"}{s!"f{s!"t{s!"A{call_allB rfl}{B.all}{PyProof.Rows.boot_all}{s!"a{@pe_compF _ _ _ _ _ _ _ _ _ [0] ["word"] rfl (@pi_range2 _ _ _ _ _ _ _ rfl B.range s!"a{pe_int}{s!"a{s!"aw"}{pa_nil}"}" (by rfl) (by rfl)) (fun pins cl ex s H=>s!"`{znE}{s!"?{zbg}{s!"?{zbg}{pv 1}{s!"j{op_subI}{pv 0}{pe_int}"}"}{pe_int}"}{s!"?{zbg}{s!"?{zbg}{pv 1}{pv 0}"}{pe_int}"}") rfl rfl rfl s!"b" s!"b" rfl s!"b" rfl s!"b" (by intro _;rfl)}{pa_nil}"}"}"}"}",?_⟩
 walk_at "ds";refine zh [some v] rfl ?_;rcases k with k | ⟨p,xs,rfl,e⟩ | ⟨p,xs,rfl,e,l,k⟩
 ·have q:=q2 (by rintro ⟨ws,D,rfl,_⟩;cases k) _ (Same.refl _)
  cases v with
  | int i=>walk_at "rd";exact q
  | bl b=>walk_at "rd";exact q
  | str s=>walk_at "rd";exact q
  | non=>walk_at "rd";exact q
  | _=>cases k
 ·have q:=q2 (by rintro ⟨ws,D,hD,W,_⟩;cases hD;obtain ⟨as,eD,_⟩:=W.ex;rw [e] at eD;cases eD) _ (Same.refl _)
  walk_at "rd";exact q
 ·walk_at "rd";refine xX ?_;walk_at "rd";refine wJ (xs.map fun x=>V.bl (decide (wD H x))) (SqL.of e) (List.length_map _) s!"e" (fun i x y H' Q' hx hy s' hQ=>?_) fun D H1 s1 n1 e1=>?_
  ·rw [List.getElem?_map,hx] at hy;cases hy;have kx:=(k x s!"4{hx}").same s';change ∀H2,Same H' H2->Q' (.bl (decide (wD H x))) H2 at hQ;walk_at "rd";refine znd kx (fun r H2 s2=>?_) (fun r H2 s2=>?_)
   ·rw [decide_eq_true (r.back (k x s!"4{hx}") s')] at hQ;exact hQ _ s2
   ·rw [decide_eq_false (p:=wD H x) (fun z=>r (by obtain ⟨b,n,z⟩:=z;exact ⟨b,n,z.same s'⟩))] at hQ
    exact hQ _ s2
  walk_at "rd";refine ⟨D,xs.map fun x=>decide (wD H x),rfl,SqL.of (by rw [e1,List.map_map];rfl),?_⟩
  by_cases all:∀x∈xs,wD H x
  ·rw [show (xs.map fun x=>decide (wD H x)).all id=true by rw [List.all_map];exact List.all_eq_true.mpr fun x hx=>decide_eq_true (all x hx)]
   obtain ⟨as,ws,rfl,la,T,P⟩:=zd1 all;have W:WordL H p ws:=⟨as,e,la,T⟩;rw [List.length_map] at l;have e':=s1.obj e;have hlm:s!"av".length=as.length:=List.length_map _;walk_at "rd";refine zhZ [some (.ref p)] rfl ?_;walk_at "rd";rw [hlm];refine zh0 (fun k=>.bl (zeN ws k.toNat)) s!"e" (fun i k H' Q' hi hk s' hQ=>?_) fun D2 H2 s2 n2 e2=>?_
   ·obtain ⟨x,hx⟩:∃x,as[i]? =some x:=⟨_,List.getElem?_eq_getElem s!"e"⟩
    obtain ⟨y,hy⟩:∃y,as[i+1]? =some y:=⟨_,List.getElem?_eq_getElem s!"e"⟩
    obtain ⟨a,ha⟩:∃a,ws[i]? =some a:=⟨_,List.getElem?_eq_getElem s!"e"⟩
    obtain ⟨b,hb⟩:∃b,ws[i+1]? =some b:=⟨_,List.getElem?_eq_getElem s!"e"⟩
    have ep:=s'.obj e';have ex:=s'.obj (s1.obj (T i x a hx ha));have ey:=s'.obj (s1.obj (T (i+1) y b hy hb));have ek:zeN ws k.toNat=!decide (ltr a.1=ltr b.1):=by
     unfold zeN;rw [show k.toNat-1=i by omega,show k.toNat=i+1 by omega,List.getD_eq_getElem?_getD,List.getD_eq_getElem?_getD,ha,hb]
     rfl
    rw [ek] at hQ;walk_at "rd";refine zk1 (v:=.ref x) (SqL.of ep) s!"e" (by rw [List.getElem?_map,show (k-1).toNat=i by omega,hx];rfl) ?_
    walk_at "rd";refine zk1 (v:=.ref y) (SqL.of ep) s!"e" (by rw [List.getElem?_map,show k.toNat=i+1 by omega,hy];rfl) ?_
    walk_at "rd";exact hQ _ (Same.refl _)
   ·walk_at "rd";refine ⟨D2,s!"5{(ws.length-1)}".map fun i=>zeN ws (1+i),rfl,SqL.of (by rw [e2,List.map_map,show ((as.length:Int)-1).toNat=ws.length-1 by omega];exact congrArg (fun l=>some (HO.lst l)) (List.map_congr_left fun i _=>by show V.bl _=V.bl _;rw [show (1+(i:Int)).toNat=1+i by omega])),?_⟩
    rw [show (s!"5{(ws.length-1)}".map fun i=>zeN ws (1+i)).all id=s!"5{(ws.length-1)}".all fun i=>zeN ws (1+i) by rw [List.all_map];rfl]
    by_cases al:Mth.Alt ws
    ·rw [(zhv ws).mpr al];exact q1 ⟨ws,p,rfl,W,al,P,by omega⟩ _ (s1.trans s2)
    ·rw [Bool.eq_false_iff.mpr fun z=>al ((zhv ws).mp z)]
     refine q2 ?_ _ (s1.trans s2);rintro ⟨us,D',hD',U,au,_⟩;cases hD';rw [<-WordL.uniq W U] at au;exact al au
  ·rw [show (xs.map fun x=>decide (wD H x)).all id=false by
    rw [List.all_map];exact Bool.eq_false_iff.mpr fun z=>all fun x hx=>of_decide_eq_true (List.all_eq_true.mp z x hx)]
   walk_at "rd";refine q2 ?_ _ s1;rintro ⟨ws,D',hD',W,_,P,_⟩;cases hD';exact all (WordL.runs W P e)
def zpC (c:Addr):Sp:=fun vs H Q E=>∃v:V,vs=[v]/\KW H v/\(zac H v->∀H',Same H H'->Q .non H')/\(¬zac H v->∀H',Same H H'->E (.ref c) none H')
theorem zpD {c:Addr} {v:V} {H:Hp} {Q:VK} {E:XK} (k:KW H v) (h1:zac H v->∀H',Same H H'->Q .non H') (h2:¬zac H v->∀H',Same H H'->E (.ref c) none H'):zpC c [v] H Q E:=⟨v,rfl,k,h1,h2⟩
theorem zeO (F:Src K mg "need_word" wn ["word"]) (B:Blt mg) (C:Cls K mg base) (R:Rel K mg base C) (Kc:Cst K mg) (D_is_word:s!"m{3}{"is_word"}{["word"]}{znf}"):Def P w K mg base (CXE P w) 4 "need_word" ["word"] (zpC C.NoWord.addr):=by
 refine F.okX (CX:=CXE P w) (k:=3) zaP s!"s" s!"u"
 ·obtain ⟨_,rfl,_⟩:=h;rfl
 have nd:=zaP.nd;obtain ⟨v,rfl,k,q1,q2⟩:=h;refine ⟨_,s!"f{s!"w{s!"@{s!"2{s!"l{D_is_word}{xpass_cx}{s!"W"}"}"}"}{s!"f{s!"ao{(C.NoWord).own}"}"}"}",?_⟩
 walk_at "ds";refine zh [some v] rfl ?_;walk_at "rd";refine zk2 k (fun b H1 s1=>?_) (fun b H1 s1=>?_)
 ·walk_at "rd";exact q1 b _ s1
 ·walk_at "rd";exact q2 b _ s1
def Big (ws:List (Bool×Int)):Prop:=(Mth.fw ws).1<10^140/\(Mth.fw ws).2.1<10^140/\(Mth.fw ws).2.2.1<10^140/\(Mth.fw ws).2.2.2<10^140
def zk3 (c:Addr):Sp:=fun vs H Q E=>∃v:V,vs=[v]/\KW H v/\(∀ws,xa H v ws->Big ws/\∀r H',Same H H'->Tab H' r (Mth.fw ws).1 (Mth.fw ws).2.1 (Mth.fw ws).2.2.1 (Mth.fw ws).2.2.2->Q (.ref r) H')/\(¬zac H v->∀H',Same H H'->E (.ref c) none H')
theorem zng {c:Addr} {v:V} {H:Hp} {Q:VK} {E:XK} (k:KW H v) (h1:∀ws,xa H v ws->Big ws/\∀r H',Same H H'->Tab H' r (Mth.fw ws).1 (Mth.fw ws).2.1 (Mth.fw ws).2.2.1 (Mth.fw ws).2.2.2->Q (.ref r) H') (h2:¬zac H v->∀H',Same H H'->E (.ref c) none H'):zk3 c [v] H Q E:=⟨v,rfl,k,h1,h2⟩
theorem zfO (F:Src K mg "table_of" zap ["word"]) (B:Blt mg) (C:Cls K mg base) (R:Rel K mg base C) (Kc:Cst K mg) (D_need_word:s!"m{4}{"need_word"}{["word"]}{zpC C.NoWord.addr}"):Def P w K mg base (CXE P w) 5 "table_of" ["word"] (zk3 C.NoWord.addr):=by
 refine F.okX (CX:=CXE P w) (k:=4) zbQ s!"s" s!"u"
 ·obtain ⟨_,rfl,_⟩:=h;rfl
 have nd:=zbQ.nd;obtain ⟨v,rfl,k,q1,q2⟩:=h;refine ⟨_,s!"d{s!"z{s!"l{D_need_word}{xpass_cx}{s!"W"}"}"}{s!"d{s!"i{1}{pe_int}"}{s!"d{s!"i{2}{pe_int}"}{s!"d{s!"i{3}{pe_int}"}{s!"d{s!"i{4}{pe_int}"}{s!"d{@ps_for _ _ _ _ _ _ _ _ PassesOwn.leaving rfl s!"as{pv 0}" s!"-{5}{nd}" s!"f{@ps_if _ _ _ _ _ _ _ _ s!"K{op_eqA hr.units0}{s!"N{pv 5}"}{pe_str}" s!"d{s!"bj{2}{s!"j{op_mulA}{s!"N{pv 5}"}{pv 1}"}"}{s!"f{s!"bj{4}{s!"j{op_mulA}{s!"N{pv 5}"}{pv 3}"}"}"}" s!"d{s!"bj{1}{s!"j{op_mulA}{s!"N{pv 5}"}{pv 2}"}"}{s!"f{s!"bj{3}{s!"j{op_mulA}{s!"N{pv 5}"}{pv 4}"}"}"}"}" (by intro _;rfl)}{s!"f{s!"t{s!"h{s!"a{s!"h{s!"a7"}"}{s!"a{s!"h{s!"a{pv 3}{s!"aj"}"}"}{pa_nil}"}"}"}"}"}"}"}"}"}"}",?_⟩
 walk_at "ds";refine zh [some v,none,none,none,none,none] rfl ?_;walk_at "rd";refine zpD k (fun b H1 s1=>?_) fun b H1 s1=>q2 b _ s1
 obtain ⟨ws,g⟩:=b;obtain ⟨⟨B1,B2,B3,B4⟩,q⟩:=q1 ws g;obtain ⟨D,rfl,W,al,hw,hN⟩:=g.same s1;obtain ⟨as,eD,la,T⟩:=W.ex;walk_at "rd";refine zfi (xs:=as.map V.ref) (fun i σ H'=>Same H1 H'/\i<=ws.length/\∃(z:Option V) (a b c d:Int),σ=[some s!"y",some (.int a),some (.int b),some (.int c),some (.int d),z]/\Mth.fw (ws.take i)=(a,b,c,d)) ⟨Same.refl _,Nat.zero_le _,_,1,0,0,1,rfl,rfl⟩ (fun i σ H' _ h=>SqL.of (h.1.obj eD)) ?_ ?_
 ·rintro i v σ Ha hv ⟨sa,hi',z,a,b,c,d,rfl,wi⟩;rw [List.getElem?_map] at hv;cases hx:as[i]? with
  | none=>rw [hx] at hv;cases hv
  | some u=>
   rw [hx] at hv;cases hv;have hil:i<ws.length:=by have:=s!"Z{hx}".1;omega
   obtain ⟨p,hp⟩:∃p,ws[i]? =some p:=⟨_,List.getElem?_eq_getElem hil⟩;have eu:=sa.obj (T i u p hx hp);have p1:=hw p s!"4{hp}";have nx:=Mth.zm6 hp;rw [wi] at nx;obtain ⟨w1,w2,w3,w4⟩:=Mth.zkU (ws:=ws.take i) fun p hp=>hw p s!"aZ{hp}"
   obtain ⟨l1,l2,l3,l4⟩:=Mth.zoc hw i;obtain ⟨m1,m2,m3,m4⟩:=Mth.zoc hw (i+1);rw [wi] at w1 w2 w3 w4 l1 l2 l3 l4;change 1<=a at w1;change 0<=b at w2;change 0<=c at w3;change 1<=d at w4;change a<=_ at l1;change b<=_ at l2;change c<=_ at l3;change d<=_ at l4;rw [nx] at m1 m2 m3 m4;obtain ⟨pb,pn⟩:=p;change 1<=pn at p1;have g1:pn*1<=pn*a:=Int.mul_le_mul_of_nonneg_left w1 s!"e"
   have g4:pn*1<=pn*d:=Int.mul_le_mul_of_nonneg_left w4 s!"e"
   cases pb with
   | true=>
    change Ha u=some (.tup [.str "u",.int pn]) at eu;change b+pn*a<=_ at m2;clear m1 m3 m4;have bn:pn<10^140:=by omega
    walk_at "rd";walk_at "ite"
    rotate_left
    ·rename_i k;exact absurd rfl k
    walk_at "rd";exact ⟨sa,by omega,_,a,b+pn*a,c,d+pn*c,rfl,nx⟩
   | false=>
    change Ha u=some (.tup [.str "v",.int pn]) at eu;change c+pn*d<=_ at m3;clear m1 m2 m4;have bn:pn<10^140:=by omega
    walk_at "rd";walk_at "ite"
    ·rename_i k;exact absurd k s!"c"
    walk_at "rd";exact ⟨sa,by omega,_,a+pn*b,b,c+pn*d,d,rfl,nx⟩
 ·rintro σ Ha ⟨sa,_,z,a,b,c,d,rfl,wi⟩;rw [List.length_map,la,List.take_length] at wi;walk_at "rd";rename_i p1 H1' s1' n1 f1 p2 H2 s2 n2 f2 p3 H3 s3 n3 f3;rw [wi] at q;exact q p3 H3 ((((s1.trans sa).trans s1').trans s2).trans s3) ⟨p1,p2,f3,s3.obj (s2.obj f1),s3.obj f2⟩
theorem zb0 (F:Src K mg "times_within" yX ["row","other"]) (_:Blt mg) (C:Cls K mg base) (_:Rel K mg base C) (_:Cst K mg):Def P w K mg base (CXE P w) 1 "times_within" ["row","other"] zP:=F.void zbW
theorem zeP (F:Src K mg "taken_off" wo ["row","other","often"]) (_:Blt mg) (C:Cls K mg base) (_:Rel K mg base C) (_:Cst K mg):Def P w K mg base (CXE P w) 1 "taken_off" ["row","other","often"] zP:=F.void zeF
def zq8 (cW:Addr):Sp:=fun vs H _ E=>∃(t:Addr) (a b c d:Int),vs=[.ref t]/\Tab H t a b c d/\a*d-b*c=1/\a.natAbs<10^180/\b.natAbs<10^180/\c.natAbs<10^180/\d.natAbs<10^180/\(a<0\/b<0\/c<0\/d<0)/\E (.ref cW) none H
theorem zgz (F:Src K mg "word_of" zbp ["table"]) (B:Blt mg) (C:Cls K mg base) (R:Rel K mg base C) (Kc:Cst K mg) (D_need_table:s!"m{4}{"need_table"}{["table"]}{za1 C.NoTable.addr}") (D_times_within:s!"m{1}{"times_within"}{["row","other"]}{zP}") (D_taken_off:s!"m{1}{"taken_off"}{["row","other","often"]}{zP}"):Def P w K mg base (CXE P w) 5 "word_of" ["table"] (zq8 C.NoWord.addr):=by
 refine F.okX (CX:=CXE P w) (k:=4) zcH s!"s" s!"u"
 ·obtain ⟨_,_,_,_,_,rfl,_⟩:=h;rfl
 have nd:=zcH.nd;obtain ⟨t,a,b,c,d,rfl,T,det,n1,n2,n3,n4,ng,qe⟩:=h;obtain ⟨tOWN_TABLE,r0,s0,mOWN_TABLE,kT⟩:=Kc.OWN_TABLE;refine ⟨_,s!"d{s!"z{s!"l{D_need_table}{xpass_cx}{s!"W"}"}"}{s!"d{s!"i{1}{s!"N{pv 0}"}"}{s!"d{s!"i{2}{s!"N{pv 0}"}"}{s!"d{s!"w{s!"K{zgc}{s!"A{zh6 rfl}{B.min}{PyProof.Rows.boot_min}{s!"a{s!"J"}{s!"a{s!"J"}{s!"a{s!"<"}{s!"a{s!"<"}{pa_nil}"}"}"}"}"}{pe_int}"}{s!"f{s!"ao{(C.NoWord).own}"}"}"}{s!"d{s!"i{3}{s!"x{pa_nil}"}"}{s!"d{@zaz _ _ _ _ _ _ PassesOwn.leaving s!"K{zjQ hr.units3}{s!"h{s!"a7"}"}{s!"T{.ref tOWN_TABLE}{mOWN_TABLE}{rfl}"}" s!"d{s!"i{4}{s!"l{D_times_within}{xpass_cx}{s!"a{pv 2}{s!"Y"}"}"}"}{s!"f{@ps_if _ _ _ _ _ _ _ _ s!"K{op_gtI}{pv 4}{pe_int}" s!"d{s!"i{1}{s!"l{D_taken_off}{xpass_cx}{s!"a{pv 2}{s!"a{pv 1}{s!"aj"}"}"}"}"}{s!"f{s!"z{s!"an{pv 3}{s!"a{s!"h{s!"a{pe_str}{s!"aj"}"}"}{pa_nil}"}"}"}"}" s!"d{s!"i{4}{s!"l{D_times_within}{xpass_cx}{s!"a7"}"}"}{s!"d{s!"i{2}{s!"l{D_taken_off}{xpass_cx}{s!"a{pv 1}{s!"a{pv 2}{s!"aj"}"}"}"}"}{s!"f{s!"z{s!"an{pv 3}{s!"a{s!"h{s!"a{pe_str}{s!"aj"}"}"}{pa_nil}"}"}"}"}"}"}"}"}{s!"f{s!"t{pv 3}"}"}"}"}"}"}"}",?_⟩
 walk_at "ds";refine zh [some s!"E",none,none,none,none] rfl ?_;walk_at "rd";refine zbs T det s!"e" s!"e" s!"e" s!"e" ?_
 obtain ⟨r,s,e1,e2,e3⟩:=T.ex;walk_at "rd";rename_i M hM m1 m2 m3 m4;walk_at "ite"
 ·walk_at "rd";exact qe
 exfalso;omega
def zcb:Sp:=fun vs H Q _=>∃t:Str,vs=[.str t]/\Asc t/\t.length<=10000/\∀H',Same H H'->Q (.bl (zj t)) H'
theorem zd2 {t:Str} {H:Hp} {Q:VK} {E:XK} (h1:Asc t) (h2:t.length<=10000) (h:∀H',Same H H'->Q (.bl (zj t)) H'):zcb [.str t] H Q E:=⟨t,rfl,h1,h2,h⟩
theorem zeQ (F:Src K mg "is_number" wp ["text"]) (B:Blt mg) (C:Cls K mg base) (R:Rel K mg base C) (Kc:Cst K mg):Def P w K mg base (CXE P w) 1 "is_number" ["text"] zcb:=by
 refine F.ok (CX:=CXE P w) (k:=0) zaQ s!"s" s!"u"
 ·obtain ⟨_,rfl,_⟩:=h;rfl
 have nd:=zaQ.nd;obtain ⟨t,rfl,ta,tl,q⟩:=h;have tz:t.length<=sizeLine:=Nat.le_trans tl s!"c"
 have fa:=zkn ta;have fl:=zko t;have fz:(zF t).length<=sizeLine:=Nat.le_trans fl tz;refine ⟨_,s!"d{s!"i{1}{@xl _ _ _ _ _ _ _ _ s!"2{s!"aX{PySem.F.slot_str_startswith}{PySem.F.type_str_startswith}{mt_starts}{pv 0}{s!"R"}"}" s!"aY{sl_str}{pv 0}{@po_some _ _ _ pe_int}{po_none}" (pv 0)}"}{s!"d{s!"w{@PW.pt _ _ _ (@pw_or _ _ _ _ _ _ _ s!"K{op_eqA hr.units0}{pv 1}{pe_str}" (@pw_or _ _ _ _ _ _ _ s!"K{op_gtI}{s!"A{call_lenS}{B.len}{PySem.boot_len}{s!"Y"}"}{s!"T{.int 60}{Kc.MOST_FIGURES.choose_spec}{⟨_,rfl⟩}"}" (@pw_or1 _ _ _ _ s!"@{s!"2{s!"A{call_allB rfl}{B.all}{PyProof.Rows.boot_all}{s!"a{s!"ay{@pi_str _ _ _ _ (pv 1)}{fun pins ex s H=>(@pe_cmpR _ _ _ _ _ _ _ _ zkl (pv 0) s!"T{.str "0123456789"}{Kc.FIGURES.choose_spec}{⟨_,rfl⟩}" rfl)}"}{pa_nil}"}"}"}")))}{s!"ab"}"}{s!"f{s!"t{@pe_or _ _ _ _ _ _ _ s!"`{op_eqA hr.units0}{pv 0}{pe_str}" s!"aM{@pe_not _ _ _ _ s!"aX{PySem.F.slot_str_startswith}{PySem.F.type_str_startswith}{mt_starts}{pv 1}{s!"R"}"}"}"}"}"}",?_⟩
 walk_at "ds";refine zh [some s!"F",none] rfl ?_;walk_at "rd";refine (fun (hX:Hide (?hXX:Prop))=>?hXa) ⟨?hXb⟩
 case hXa=>
  walk_at "ite"
  ·rename_i c;have e:Txt.slice t (some 1) none=zF t:=(if_pos c).symm;walk_at "rd";rw [e];exact hX.out
  ·rename_i c;have e:t=zF t:=(if_neg (by rw [c];decide)).symm
   walk_at "rd";have z:=hX.out;rw [<-e] at z;exact z
 walk_at "ite"
 ·rename_i c;walk_at "rd";have z:=q _ (Same.refl _);rw [show zj t=false by unfold zj;rw [decide_eq_true c];rfl] at z
  exact z
 rename_i c1;walk_at "rd";walk_at "ite"
 ·rename_i c;walk_at "rd";have z:=q _ (Same.refl _);rw [show zj t=false by unfold zj;rw [decide_eq_false (show ¬(zF t).length<=60 by omega),Bool.and_false];rfl] at z
  exact z
 rename_i c2;have l60:(zF t).length<=60:=by omega
 walk_at "rd";refine zdH (fun c=>.bl (decide (48<=c) && decide (c<=57))) fa (by show (zF t).length<=1000;omega) (fun i c H' Q' hc s' hQ=>?_) fun D H2 s2 n2 e2=>?_
 ·walk_at "rd";rw [zmQ (fa.at hc)];exact hQ _ (Same.refl _)
 walk_at "rd";refine ⟨D,(zF t).cps.toList.map (fun c=>decide (48<=c) && decide (c<=57)),rfl,SqL.of (by rw [List.map_map];exact e2),?_⟩
 have ea:((zF t).cps.toList.map (fun c=>decide (48<=c) && decide (c<=57))).all id=zah (zF t):=by
  unfold zah;rw [List.all_map];rfl
 rw [ea];have z:=q _ s2;have ez:zj t=(zah (zF t) && (decide (t="0") || !Txt.startswith (zF t) "0")):=by
  unfold zj;rw [decide_eq_false c1,decide_eq_true l60];rfl
 rw [ez] at z;cases hf:zah (zF t)
 ·rw [hf] at z;walk_at "rd";exact z
 ·rw [hf] at z;walk_at "rd";walk_at "ite"
  ·rename_i c;rw [decide_eq_true c] at z;exact z
  ·rename_i c;rw [decide_eq_false c] at z;walk_at "rd";exact z
theorem za2 (F:Src K mg "shown_fraction" yq ["x"]) (_:Blt mg) (C:Cls K mg base) (_:Rel K mg base C) (_:Cst K mg):Def P w K mg base (CXE P w) 1 "shown_fraction" ["x"] zP:=F.void zaR
def zhw:Sp:=fun vs H Q _=>∃(t:Addr) (a b c d:Int),vs=[.ref t]/\Tab H t a b c d/\a*d-b*c=1/\a.natAbs<10^190/\b.natAbs<10^190/\c.natAbs<10^190/\d.natAbs<10^190/\∀H',Same H H'->Q (.str (zaj a b c d)) H'
theorem zhx {t:Addr} {a b c d:Int} {H:Hp} {Q:VK} {E:XK} (T:Tab H t a b c d) (e:a*d-b*c=1) (b1:a.natAbs<10^190) (b2:b.natAbs<10^190) (b3:c.natAbs<10^190) (b4:d.natAbs<10^190) (h:∀H',Same H H'->Q (.str (zaj a b c d)) H'):zhw [.ref t] H Q E:=⟨t,a,b,c,d,rfl,T,e,b1,b2,b3,b4,h⟩
theorem zcM (F:Src K mg "shown_table" xi ["table"]) (B:Blt mg) (C:Cls K mg base) (R:Rel K mg base C) (Kc:Cst K mg) (D_need_table:s!"m{4}{"need_table"}{["table"]}{za1 C.NoTable.addr}"):Def P w K mg base (CXE P w) 5 "shown_table" ["table"] zhw:=by
 refine F.okX (CX:=CXE P w) (k:=4) wq s!"s" s!"u"
 ·obtain ⟨_,_,_,_,_,rfl,_⟩:=h;rfl
 have nd:=wq.nd;obtain ⟨t,a,b,c,d,rfl,T,det,b1,b2,b3,b4,q⟩:=h;refine ⟨_,s!"d{s!"z{s!"l{D_need_table}{xpass_cx}{s!"W"}"}"}{s!"f{s!"t{s!"aX{PySem.F.slot_str_join}{PySem.F.type_str_join}{zb8}{pe_str}{s!"a{s!"ay{@PI.or _ _ _ _ _ s!"as{s!"j{zeo}{s!"N{pv 0}"}{s!"N{pv 0}"}"}" (@pi_tup _ _ _ _ s!"j{zeo}{s!"N{pv 0}"}{s!"N{pv 0}"}")}{fun pins ex s H=>s!"az{s!"W"}"}"}{pa_nil}"}"}"}"}",?_⟩
 walk_at "ds";refine zh [some s!"E"] rfl ?_;walk_at "rd";refine zbs T det b1 b2 b3 b4 ?_;obtain ⟨r,s',e1,e2,e3⟩:=T;have sm:∀n∈[a,b,c,d],wa n:=fun n hn=>by
  have k:(10:Nat)^190<10^570:=by decide
  simp only [List.mem_cons,List.not_mem_nil,or_false] at hn;unfold wa;rcases hn with rfl | rfl | rfl | rfl <;> omega
 walk_at "rd";refine zjI ?_;walk_at "rd";refine zhc e2 e3 (show 2+2<=1000 by decide) fun u H1 s1 eu=>?_
 walk_at "rd";refine zgk ([a,b,c,d].map fun n=>V.str (zK n)) (SqT.of (xs:=[a,b,c,d].map V.int) eu) rfl (by show 4<=1000;decide) (fun i x y H' Q' hx hy s2 hQ=>?_) fun D H2 s2 n2 e2=>?_
 ·rw [List.getElem?_map] at hx hy;cases hw:[a,b,c,d][i]? with
  | none=>rw [hw] at hx;cases hx
  | some n=>
  rw [hw] at hx hy;cases hx;cases hy;have ln:=(sm n s!"4{hw}").log;walk_at "rd";exact hQ _ (Same.refl _)
 walk_at "rd";refine zaD [zK a,zK b,zK c,zK d] (SqL.of e2) (zca (k:=571) s!"c" (by show 4<=1000;decide) (fun w hw=>?_) s!"c") ?_
 ·obtain ⟨n,hn,rfl⟩:=List.mem_map.mp (show w∈[a,b,c,d].map zK from hw)
  exact (sm n hn).len
 exact q _ (s1.trans s2)
theorem zc8 (F:Src K mg "shown_word" xJ ["word"]) (_:Blt mg) (C:Cls K mg base) (_:Rel K mg base C) (_:Cst K mg):Def P w K mg base (CXE P w) 1 "shown_word" ["word"] zP:=F.void zc4
def za3 (cX:Addr):Sp:=fun vs H Q E=>∃b:Bool,vs=[.bl b]/\(b=false->E (.ref cX) none H)/\(b=true->Q .non H)
theorem yt {cX:Addr} {b:Bool} {H:Hp} {Q:VK} {E:XK} (h0:b=false->E (.ref cX) none H) (h1:b=true->Q .non H):za3 cX [.bl b] H Q E:=⟨b,rfl,h0,h1⟩
theorem zeR (F:Src K mg "need_text" wr ["holds"]) (B:Blt mg) (C:Cls K mg base) (R:Rel K mg base C) (Kc:Cst K mg):Def P w K mg base (CXE P w) 1 "need_text" ["holds"] (za3 C.NoText.addr):=by
 refine F.okX (CX:=CXE P w) (k:=0) zaS s!"s" s!"u"
 ·obtain ⟨_,rfl,_⟩:=h;rfl
 have nd:=zaS.nd;obtain ⟨b,rfl,q0,q1⟩:=h;refine ⟨_,s!"f{s!"w{s!"@{s!"2{pv 0}"}"}{s!"f{s!"ao{(C.NoText).own}"}"}"}",?_⟩
 walk_at "ds";refine zh [some (.bl b)] rfl ?_;cases b
 ·walk_at "rd";exact q0 rfl
 ·walk_at "rd";exact q1 rfl
def xx (ws:List Str):Prop:=ws.length<=1000/\∀w∈ws,Asc w/\w.length<=10000
def zcc (K:PySem.W.Frag) (cX:Addr):Sp:=fun vs H Q E=>∃(l:Addr) (ws:List Str),vs=[.ref l]/\SqL K H l (ws.map V.str)/\xx ws/\(ws.all zj=false->∀H',Same H H'->E (.ref cX) none H')/\(ws.all zj=true->∀D H',Same H H'->H D=none->H' D=some (.lst ((ws.map zB).map V.int))->Q s!"y" H')
theorem zd3 {K:PySem.W.Frag} {cX:Addr} {l:Addr} {ws:List Str} {H:Hp} {Q:VK} {E:XK} (h1:SqL K H l (ws.map V.str)) (h2:xx ws) (h3:ws.all zj=false->∀H',Same H H'->E (.ref cX) none H') (h4:ws.all zj=true->∀D H',Same H H'->H D=none->H' D=some (.lst ((ws.map zB).map V.int))->Q s!"y" H'):zcc K cX [.ref l] H Q E:=⟨l,ws,rfl,h1,h2,h3,h4⟩
def Tx (t:Str):Prop:=Asc t/\t.length<=900
theorem Tx.sz {t:Str} (h:Tx t):t.length<=sizeLine:=Nat.le_trans h.2 s!"c"
theorem Tx.ok {t:Str} (h:Tx t) (c:Nat):xx (Txt.split t ⟨#[c]⟩):=⟨Nat.le_trans (zdM t c) (by have:=h.2;omega),fun w hw=>⟨h.1.split hw,Nat.le_trans (x8 hw).1 (by have:=h.2;omega)⟩⟩
theorem zhy {ws:List Str} {ns:List Int} (al:ws.all zj=true) (e:ws.map zB=ns):∀n∈ns,n.natAbs<10^60:=fun n hn=>by
 subst e;obtain ⟨w,hw,rfl⟩:=List.mem_map.mp hn;exact zfv (List.all_eq_true.mp al w hw)
theorem zb1 (F:Src K mg "read_numbers" yY ["pieces"]) (B:Blt mg) (C:Cls K mg base) (R:Rel K mg base C) (Kc:Cst K mg) (D_is_number:s!"m{1}{"is_number"}{["text"]}{zcb}") (D_need_text:s!"m{1}{"need_text"}{["holds"]}{za3 C.NoText.addr}"):Def P w K mg base (CXE P w) 2 "read_numbers" ["pieces"] (zcc K C.NoText.addr):=by
 refine F.okX (CX:=CXE P w) (k:=1) xR s!"s" s!"u"
 ·obtain ⟨_,_,rfl,_⟩:=h;rfl
 have nd:=xR.nd;obtain ⟨l,ws,rfl,hl,⟨w1,w2⟩,q0,q1⟩:=h;refine ⟨_,s!"d{s!"z{s!"l{D_need_text}{xpass_cx}{s!"a{s!"A{call_allB rfl}{B.all}{PyProof.Rows.boot_all}{s!"a{s!"ay{@PI.or _ _ _ _ _ s!"as{pv 0}" (@pi_tup _ _ _ _ (pv 0))}{fun pins ex s H=>s!"l{D_is_number}{zcn}{s!"W"}"}"}{pa_nil}"}"}{pa_nil}"}"}"}{s!"f{s!"t{s!"ay{@PI.or _ _ _ _ _ s!"as{pv 0}" (@pi_tup _ _ _ _ (pv 0))}{fun pins ex s H=>(@pe_callTy _ _ _ _ _ _ _ _ _ zdI rfl B.int PyProof.Rows.boot_int s!"W" s!"c" s!"c" (by rfl) (by rfl))}"}"}"}",?_⟩
 walk_at "ds";refine zh [some s!"H"] rfl ?_;walk_at "rd";refine xX ?_;walk_at "rd";refine wJ (ws.map fun w=>V.bl (zj w)) hl (by rw [List.length_map,List.length_map]) (by rw [List.length_map];exact w1) (fun i x y H' Q' hx hy s' hQ=>?_) fun D H1 s1 n1 e1=>?_
 ·rw [List.getElem?_map] at hx hy;cases hw:ws[i]? with
  | none=>rw [hw] at hx;cases hx
  | some w=>
  rw [hw] at hx hy;cases hx;cases hy;obtain ⟨a1,a2⟩:=w2 w s!"4{hw}";walk_at "rd";exact zd2 a1 a2 fun H2 s2=>hQ _ s2
 walk_at "rd";refine ⟨D,ws.map zj,rfl,SqL.of (by rw [List.map_map];exact e1),?_⟩
 rw [show (ws.map zj).all id=ws.all zj by rw [List.all_map];rfl]
 walk_at "rd";refine yt (fun z=>q0 z _ s1) fun z=>?_
 walk_at "rd";refine xX ?_;walk_at "rd";refine wJ ((ws.map zB).map V.int) (s1.seq hl) (by rw [List.length_map,List.length_map,List.length_map]) (by rw [List.length_map];exact w1) (fun i x y H' Q' hx hy s' hQ=>?_) fun D2 H2 s2 n2 e2=>?_
 ·rw [List.getElem?_map] at hx hy;rw [List.getElem?_map] at hy;cases hw:ws[i]? with
  | none=>rw [hw] at hx;cases hx
  | some w=>
  rw [hw] at hx hy;cases hx;cases hy;obtain ⟨a1,a2⟩:=zbK (List.all_eq_true.mp z w s!"4{hw}");walk_at "rd";refine zhj a1 s!".{a2}" ?_
  exact hQ _ (Same.refl _)
 exact q1 z D2 H2 (s1.trans s2) (s1.none n2) e2
def zas (t:Str) (a b c d:Int):Prop:=(Txt.split t " ").all zj=true/\(Txt.split t " ").map zB=[a,b,c,d]
def zk4 (cX cT:Addr):Sp:=fun vs H Q E=>∃t:Str,vs=[.str t]/\Tx t/\(∀a b c d,zas t a b c d->a*d-b*c=1->∀D H',Same H H'->Tab H' D a b c d->Q s!"y" H')/\(∀a b c d,zas t a b c d->a*d-b*c≠1->∀H',Same H H'->E (.ref cT) none H')/\((∀a b c d,¬zas t a b c d)->∀H',Same H H'->E (.ref cX) none H')
theorem znh {cX cT:Addr} {t:Str} {H:Hp} {Q:VK} {E:XK} (h:Tx t) (h1:∀a b c d,zas t a b c d->a*d-b*c=1->∀D H',Same H H'->Tab H' D a b c d->Q s!"y" H') (h2:∀a b c d,zas t a b c d->a*d-b*c≠1->∀H',Same H H'->E (.ref cT) none H') (h3:(∀a b c d,¬zas t a b c d)->∀H',Same H H'->E (.ref cX) none H'):zk4 cX cT [.str t] H Q E:=⟨t,rfl,h,h1,h2,h3⟩
theorem zas.lt {t:Str} {a b c d:Int} (h:zas t a b c d):a.natAbs<10^60/\b.natAbs<10^60/\c.natAbs<10^60/\d.natAbs<10^60:=by
 have k:=zhy h.1 h.2;exact ⟨k a (by simp),k b (by simp),k c (by simp),k d (by simp)⟩
theorem zcd {n:Int} (h:n.natAbs<10^60):n.natAbs<10^190:=Nat.lt_trans h s!"c"
theorem zc9 (F:Src K mg "read_table" xK ["text"]) (B:Blt mg) (C:Cls K mg base) (R:Rel K mg base C) (Kc:Cst K mg) (D_need_text:s!"m{1}{"need_text"}{["holds"]}{za3 C.NoText.addr}") (D_read_numbers:s!"m{2}{"read_numbers"}{["pieces"]}{zcc K C.NoText.addr}") (D_need_table:s!"m{4}{"need_table"}{["table"]}{za1 C.NoTable.addr}"):Def P w K mg base (CXE P w) 5 "read_table" ["text"] (zk4 C.NoText.addr C.NoTable.addr):=by
 refine F.okX (CX:=CXE P w) (k:=4) w6 s!"s" s!"u"
 ·obtain ⟨_,rfl,_⟩:=h;rfl
 have nd:=w6.nd;obtain ⟨t,rfl,tx,q1,q2,q0⟩:=h;have tz:=tx.sz;have ok:=tx.ok 32;rw [<-zaG] at ok;refine ⟨_,s!"d{s!"z{s!"l{D_need_text}{xpass_cx}{s!"a{s!"A{yj}{B.isinstance}{PyProof.Rows.boot_isinstance}{s!"a{pv 0}{s!"a{s!"ad{.ty "str"}{B.str}{PyProof.Rows.boot_str}"}{pa_nil}"}"}"}{pa_nil}"}"}"}{s!"d{s!"i{1}{s!"l{D_read_numbers}{xpass_cx}{s!"a{s!"bJ"}{pa_nil}"}"}"}{s!"d{s!"z{s!"l{D_need_text}{xpass_cx}{s!"a{s!"`{op_eqA hr.units0}{s!"bs"}{pe_int}"}{pa_nil}"}"}"}{s!"d{s!"i{2}{s!"h{s!"a{s!"h{s!"a{s!"J"}{s!"a{s!"J"}{pa_nil}"}"}"}{s!"a{s!"h{s!"a{s!"J"}{s!"a{s!"J"}{pa_nil}"}"}"}{pa_nil}"}"}"}"}{s!"d{s!"z{s!"l{D_need_table}{xpass_cx}{s!"|"}"}"}{s!"bq"}"}"}"}"}",?_⟩
 walk_at "ds";refine zh [some s!"F",none,none] rfl ?_;walk_at "rd";refine yt (fun z=>by cases z) fun _=>?_
 walk_at "rd";refine zcv s!"b" tz _ rfl s!".{ok.1}" fun D H1 s1 n1 e1=>?_
 walk_at "rd";refine zd3 s!">" ok (fun z H2 s2=>q0 (fun a b c d f=>by rw [f.1] at z;cases z) H2 (s1.trans s2)) fun al D2 H2 s2 n2 e2=>?_
 have s12:=s1.trans s2;generalize hns:(Txt.split t " ").map zB=ns at*;have hl:(ns.map V.int).length=ns.length:=List.length_map _;walk_at "rd";refine yt (fun z=>q0 (fun a b c d f=>?_) _ s12) fun z=>?_
 ·have f:=f.2;rw [hns] at f;rw [f] at z;cases z
 obtain ⟨a,b,c,d,rfl⟩:∃a b c d,ns=[a,b,c,d]:=by
  have z:=of_decide_eq_true z
  match ns,(show ns.length=4 by omega) with
  | [a,b,c,d],_=>exact ⟨a,b,c,d,rfl⟩
 have F:zas t a b c d:=⟨al,hns⟩;obtain ⟨k1,k2,k3,k4⟩:=F.lt;walk_at "rd";rename_i p1 H3 s3 n3 e3 p2 H4 s4 n4 e4 p3 H5 s5 n5 e5;have T:Tab H5 p3 a b c d:=⟨p1,p2,e5,(s4.trans s5).obj e3,s5.obj e4⟩;have s15:=s12.trans (s3.trans (s4.trans s5));refine znb T (zcd k1) (zcd k2) (zcd k3) (zcd k4) (fun det=>?_) fun det=>q2 a b c d F det H5 s15
 walk_at "rd";exact q1 a b c d F det p3 H5 s15 T
def ziH (ps:List Str) (ws:List (Bool×Int)):Prop:=ps.length=2*ws.length/\∀(i:Nat) (p:Bool×Int),ws[i]? =some p->ps[2*i]? =some (ltr p.1)/\∃n,ps[2*i+1]? =some n/\zj n=true/\zB n=p.2/\1<=p.2
def RW (t:Str) (ws:List (Bool×Int)):Prop:=(t=Str.ofString "none"/\ws=[])\/(t≠Str.ofString "none"/\ziH (Txt.split t " ") ws/\Mth.Alt ws)
theorem ziH.small {ps:List Str} {ws:List (Bool×Int)} (h:ziH ps ws):∀p∈ws,1<=p.2/\p.2.natAbs<10^60:=fun p hp=>by
 obtain ⟨i,hi⟩:=List.getElem?_of_mem hp;obtain ⟨_,n,_,h1,h2,h3⟩:=h.2 i p hi;exact ⟨h3,by rw [<-h2];exact zfv h1⟩
def zk5 (cX:Addr):Sp:=fun vs H Q E=>∃t:Str,vs=[.str t]/\Tx t/\(∀ws,RW t ws->ws.length<=460->∀D H',Same H H'->H D=none->xa H' s!"y" ws->Q s!"y" H')/\((∀ws,¬RW t ws)->∀H',Same H H'->E (.ref cX) none H')
theorem zni {cX:Addr} {t:Str} {H:Hp} {Q:VK} {E:XK} (h:Tx t) (h1:∀ws,RW t ws->ws.length<=460->∀D H',Same H H'->H D=none->xa H' s!"y" ws->Q s!"y" H') (h2:(∀ws,¬RW t ws)->∀H',Same H H'->E (.ref cX) none H'):zk5 cX [.str t] H Q E:=⟨t,rfl,h,h1,h2⟩
theorem ziH.nums {ps:List Str} {ws:List (Bool×Int)} (h:ziH ps ws):s!"ax".all zj=true:=by
 rw [List.all_eq_true];intro w hw;obtain ⟨i,hi⟩:=List.getElem?_of_mem hw;rw [x9,List.getElem?_drop] at hi;have hl:=s!"Z{hi}".1;have h0:=h.1;obtain ⟨p,hp⟩:∃p,ws[i]? =some p:=⟨_,List.getElem?_eq_getElem s!"e"⟩
 obtain ⟨_,n,h1,h2,_⟩:=h.2 i p hp;rw [show 1+2*i=2*i+1 by omega,h1] at hi
 cases hi;exact h2
theorem zeS (F:Src K mg "read_word" wt ["text"]) (B:Blt mg) (C:Cls K mg base) (R:Rel K mg base C) (Kc:Cst K mg) (D_need_text:s!"m{1}{"need_text"}{["holds"]}{za3 C.NoText.addr}") (D_read_numbers:s!"m{2}{"read_numbers"}{["pieces"]}{zcc K C.NoText.addr}") (D_is_word:s!"m{3}{"is_word"}{["word"]}{znf}"):Def P w K mg base (CXE P w) 4 "read_word" ["text"] (zk5 C.NoText.addr):=by
 refine F.okX (CX:=CXE P w) (k:=3) zaT s!"s" s!"u"
 ·obtain ⟨_,rfl,_⟩:=h;rfl
 have nd:=zaT.nd;obtain ⟨t,rfl,tx,q1,q0⟩:=h;have tz:=tx.sz;have ok:=tx.ok 32;have pl:=zdM t 32;rw [<-zaG] at ok pl;have tl:=tx.2;refine ⟨_,s!"d{s!"z{s!"l{D_need_text}{xpass_cx}{s!"a{s!"A{yj}{B.isinstance}{PyProof.Rows.boot_isinstance}{s!"a{pv 0}{s!"a{s!"ad{.ty "str"}{B.str}{PyProof.Rows.boot_str}"}{pa_nil}"}"}"}{pa_nil}"}"}"}{s!"d{s!"w{s!"K{op_eqA hr.units0}{pv 0}{s!"T{.str "none"}{Kc.EMPTY_WORD.choose_spec}{⟨_,rfl⟩}"}"}{s!"f{s!"t{s!"x{pa_nil}"}"}"}"}{s!"d{s!"i{1}{s!"bJ"}"}{s!"d{@ps_set _ _ 2 _ _ _ _ nd rfl (Or.inr rfl) s!"bK" (by rfl) (by walk_at "lo")}{s!"d{@ps_set _ _ 3 _ _ _ _ nd rfl (Or.inr rfl) s!"l{D_read_numbers}{xpass_cx}{s!"a{s!"bK"}{pa_nil}"}" (by rfl) (by walk_at "lo")}{s!"d{s!"z{s!"l{D_need_text}{xpass_cx}{s!"a{s!"`{op_eqA hr.units0}{s!"bL"}{s!"A{call_lenA}{B.len}{PySem.boot_len}{s!"a{pv 3}{pa_nil}"}"}"}{pa_nil}"}"}"}{s!"d{@zmt _ 4 _ _ _ _ _ _ _ _ _ _ _ [2,3] ["letters","numbers"] rfl s!"bC{s!"a{s!"bL"}{pa_nil}"}" (fun pins cl ex s H=>s!"h{s!"a{s!"?{zbg}{pv 1}{pv 0}"}{s!"a{s!"?{zbg}{pv 2}{pv 0}"}{pa_nil}"}"}") rfl rfl rfl s!"b" s!"b" rfl s!"b" rfl s!"b" nd rfl (Or.inl rfl) (by rfl) (by walk_at "lo") (by intro _;rfl)}{s!"d{s!"z{s!"l{D_need_text}{xpass_cx}{s!"a{s!"l{D_is_word}{xpass_cx}{s!"aj"}"}{pa_nil}"}"}"}{s!"br"}"}"}"}"}"}"}"}",?_⟩
 walk_at "ds";refine zh [some s!"F",none,none,none,none] rfl ?_;walk_at "rd";refine yt (fun z=>by cases z) fun _=>?_
 walk_at "rd";walk_at "ite"
 ·rename_i c;walk_at "rd";rename_i L H1 s1 n1 e1;exact q1 [] (.inl ⟨c,rfl⟩) s!"c" L H1 s1 n1 ⟨L,rfl,WordL.nil e1,fun i x y h=>by simp at h,fun p hp=>(List.not_mem_nil hp).elim,by decide⟩
 rename_i cn;walk_at "rd";refine zcv s!"b" tz _ rfl s!".{ok.1}" fun D H1 s1 n1 e1=>?_
 generalize hps:Txt.split t " "=ps at*;walk_at "rd";refine zhk 0 rfl s!"c" s!">" fun D2 H2 s2 n2 e2=>?_
 have e2:H2 D2=some (.lst ((zT ps).map V.str)):=by
  rw [List.drop_zero,zcw] at e2;exact e2
 walk_at "rd";refine zhk 1 rfl s!"c" (SqL.of (s2.obj e1)) fun D3 H3 s3 n3 e3=>?_
 have e3:H3 D3=some (.lst (s!"ax".map V.str)):=by
  rw [<-List.map_drop,zcw] at e3;exact e3
 have s13:=s1.trans (s2.trans s3);have ok3:xx s!"ax":=by
  refine ⟨Nat.le_trans (zcx _) (by rw [List.length_drop];have:=ok.1;omega),fun w hw=>?_⟩
  obtain ⟨i,hi⟩:=List.getElem?_of_mem hw;rw [x9,List.getElem?_drop] at hi;exact ok.2 w s!"4{hi}"
 walk_at "rd";refine zd3 (SqL.of e3) ok3 (fun z H4 s4=>q0 (fun ws r=>?_) H4 (s13.trans s4)) fun al D4 H4 s4 n4 e4=>?_
 ·rcases r with ⟨r,_⟩ | ⟨_,r,_⟩
  ·exact cn r
  ·rw [hps] at r;rw [r.nums] at z;cases z
 have s14:=s13.trans s4;have e2:=(s3.trans s4).obj e2;have l2:((zT ps).map V.str).length=(ps.length+1) / 2:=by rw [List.length_map,zU]
 have l4:((s!"ax".map zB).map V.int).length=ps.length / 2:=by
  rw [List.length_map,List.length_map,zU,List.length_drop];have:1<=ps.length:=by
   cases hz:ps with
   | nil=>
    rw [hz,zaG] at hps;exact absurd hps (xp t 32)
   | cons _ _=>simp
  omega
 walk_at "rd";refine yt (fun z=>q0 (fun ws r=>?_) H4 s14) fun z=>?_
 ·rw [l2,l4] at z;rcases r with ⟨r,_⟩ | ⟨_,r,_⟩
  ·exact cn r
  ·rw [hps] at r;have:=r.1;exact of_decide_eq_false z s!"e"
 rw [l2,l4] at z;have z:=of_decide_eq_true z;obtain ⟨m,hm⟩:∃m,ps.length=2*m:=⟨ps.length / 2,by omega⟩
 walk_at "rd";refine zjL [some (.ref D2),some (.ref D4)] rfl ?_;walk_at "rd";refine zew (fun k=>[.str (((zT ps)[k.toNat]?).getD ""),.int (zB ((s!"ax"[k.toNat]?).getD ""))]) (by rw [l2];omega) (fun i k H' Q' hi hk s' hQ=>?_) fun D5 H5 as s5 n5 e5 la T=>?_
 ·rw [l2] at hi;have hk':k=(i:Int):=by omega
  subst hk';obtain ⟨u,hu⟩:∃u,(zT ps)[i]? =some u:=⟨_,List.getElem?_eq_getElem (by rw [zU];omega)⟩
  obtain ⟨v,hv⟩:∃v,s!"ax"[i]? =some v:=⟨_,List.getElem?_eq_getElem (by rw [zU,List.length_drop];omega)⟩
  have x2:=s'.obj e2;have x4:=s'.obj e4;have a2:atI ((zT ps).map V.str) (i:Int)=some (.str u):=wH (by rw [List.getElem?_map,hu];rfl)
  have a4:atI ((s!"ax".map zB).map V.int) (i:Int)=some (.int (zB v)):=wH (by rw [List.getElem?_map,List.getElem?_map,hv];rfl)
  walk_at "rd";refine zgd.Qn (SqL.of x2) a2 ?_;walk_at "rd";refine zgd.Qn (SqL.of x4) a4 ?_;walk_at "rd";rename_i t6 H6 s6 n6 e6;refine hQ t6 H6 s6 ?_;rw [show ((i:Int)).toNat=i from rfl,hu,hv]
  exact e6
 have la:as.length=m:=by rw [la,l2];omega
 have at_:∀(j:Nat) (x:Addr),as[j]? =some x->∃u v,ps[2*j]? =some u/\ps[2*j+1]? =some v/\zj v=true/\H5 x=some (.tup [.str u,.int (zB v)]):=fun j x hx=>by
  have hj:=s!"Z{hx}".1;obtain ⟨u,hu⟩:∃u,(zT ps)[j]? =some u:=⟨_,List.getElem?_eq_getElem (by rw [zU];omega)⟩
  obtain ⟨v,hv⟩:∃v,s!"ax"[j]? =some v:=⟨_,List.getElem?_eq_getElem (by rw [zU,List.length_drop];omega)⟩
  have tx:=T j x hx;rw [show (0+(j:Int)).toNat=j by omega,hu,hv] at tx
  have nv:=List.all_eq_true.mp al v s!"4{hv}";rw [x9] at hu;rw [x9,List.getElem?_drop,show 1+2*j=2*j+1 by omega] at hv
  exact ⟨u,v,hu,hv,nv,tx⟩
 have kw:KW H5 (.ref D5):=.inr (.inr ⟨D5,_,rfl,e5,by rw [List.length_map];omega,fun x hx=>by
  obtain ⟨y,hy,rfl⟩:=List.mem_map.mp hx;obtain ⟨j,hj⟩:=List.getElem?_of_mem hy;obtain ⟨u,v,_,_,_,ey⟩:=at_ j y hj;exact .inr (.inr ⟨y,_,rfl,ey,fun _ z hz=>by
   simp only [List.mem_cons,List.not_mem_nil,or_false] at hz;rcases hz with rfl | rfl <;> rfl⟩)⟩)
 have s15:=s14.trans s5;walk_at "rd";refine zk2 kw (fun wb H6 s6=>?_) (fun wb H6 s6=>?_)
 ·walk_at "rd";refine yt (fun z=>by cases z) fun _=>?_
  walk_at "rd";obtain ⟨ws,g⟩:=wb;obtain ⟨D',eD,⟨bs,eb,lb,U⟩,alt,pos,lw⟩:=id g;cases eD;rw [e5] at eb;have hab:as=bs:=(List.map_inj_right (f:=V.ref) (fun a b h=>by cases h;rfl)).mp (HO.lst.inj s!"9{eb}")
  subst hab;refine q1 ws (.inr ⟨cn,?_,alt⟩) s!"e" D5 H6 (s15.trans s6) (s14.none n5) (g.same s6)
  rw [hps];refine ⟨by omega,fun i p hp=>?_⟩
  have hi:=s!"Z{hp}".1;obtain ⟨x,hx⟩:∃x,as[i]? =some x:=⟨_,List.getElem?_eq_getElem s!"e"⟩
  obtain ⟨u,v,hu,hv,nv,ex⟩:=at_ i x hx;have ex2:=U i x p hx hp;rw [ex] at ex2;obtain ⟨k1,k2⟩:=zne s!"9{ex2}";rw [hu,V.str.inj k1];exact ⟨rfl,v,hv,nv,V.int.inj k2,pos p s!"4{hp}"⟩
 ·walk_at "rd";refine yt (fun _=>q0 (fun ws r=>wb ⟨ws,?_⟩) H6 (s15.trans s6)) fun z=>by cases z
  rcases r with ⟨r,_⟩ | ⟨_,r,alt⟩
  ·exact absurd r cn
  rw [hps] at r;have r1:=r.1;refine ⟨D5,rfl,⟨as,e5,by omega,fun i x p hx hp=>?_⟩,alt,fun p hp=>(r.small p hp).1,by omega⟩
  obtain ⟨u,v,hu,hv,nv,ex⟩:=at_ i x hx;obtain ⟨h1,n,h2,h3,h4,h5⟩:=r.2 i p hp;rw [hu] at h1;rw [hv] at h2;cases h1;cases h2;rw [ex,h4]
def zn (t:Str):Bool:=decide (1<=t.length) && decide (t.length<=8) && t.cps.toList.all (fun c=>decide (97<=c) && decide (c<=122))
theorem znj {c:Nat} (h:c<128):inS ⟨#[c]⟩ "abcdefghijklmnopqrstuvwxyz"=(decide (97<=c) && decide (c<=122)):=by
 have key:s!"5{128}".all (fun c=>inS ⟨#[c]⟩ "abcdefghijklmnopqrstuvwxyz"==(decide (97<=c) && decide (c<=122)))=true:=by decide+kernel
 have:=List.all_eq_true.mp key c (List.mem_range.mpr h);simpa using this
def zcN:Sp:=fun vs H Q _=>∃t:Str,vs=[.str t]/\Asc t/\t.length<=10000/\∀H',Same H H'->Q (.bl (zn t)) H'
theorem zgA {t:Str} {H:Hp} {Q:VK} {E:XK} (h1:Asc t) (h2:t.length<=10000) (h:∀H',Same H H'->Q (.bl (zn t)) H'):zcN [.str t] H Q E:=⟨t,rfl,h1,h2,h⟩
theorem zgB (F:Src K mg "is_name" zbq ["piece"]) (B:Blt mg) (C:Cls K mg base) (R:Rel K mg base C) (Kc:Cst K mg):Def P w K mg base (CXE P w) 1 "is_name" ["piece"] zcN:=by
 refine F.ok (CX:=CXE P w) (k:=0) zcI s!"s" s!"u"
 ·obtain ⟨_,rfl,_⟩:=h;rfl
 have nd:=zcI.nd;obtain ⟨t,rfl,ta,tl,q⟩:=h;have tz:t.length<=sizeLine:=Nat.le_trans tl s!"c"
 have ta':t.cps.all (·<128)=true:=ta
 refine ⟨_,s!"f{s!"t{s!"aq{@zi2 _ _ _ _ _ _ _ _ _ _ _ _ zji zji pe_int s!"A{call_lenS}{B.len}{PySem.boot_len}{s!"W"}" s!"T{.int 8}{Kc.MOST_LETTERS.choose_spec}{⟨_,rfl⟩}" (by with_unfolding_all rfl)}{s!"aM{s!"A{call_allB rfl}{B.all}{PyProof.Rows.boot_all}{s!"a{s!"ay{@pi_str _ _ _ _ (pv 0)}{fun pins ex s H=>(@pe_cmpR _ _ _ _ _ _ _ _ zkl (pv 0) s!"T{.str "abcdefghijklmnopqrstuvwxyz"}{Kc.LETTERS.choose_spec}{⟨_,rfl⟩}" rfl)}"}{pa_nil}"}"}"}"}"}",?_⟩
 walk_at "ds";refine zh [some s!"F"] rfl ?_;walk_at "rd";walk_at "ite"
 rotate_left
 ·rename_i c1;walk_at "rd";have z:=q _ (Same.refl _);rw [show zn t=false by unfold zn;rw [decide_eq_false (show ¬1<=t.length by omega)];rfl] at z
  exact z
 rename_i c1;walk_at "rd";walk_at "ite"
 rotate_left
 ·rename_i c2;walk_at "rd";have z:=q _ (Same.refl _);rw [show zn t=false by unfold zn;rw [decide_eq_false (show ¬t.length<=8 by omega),Bool.and_false];rfl] at z
  exact z
 rename_i c2;walk_at "rd";refine zdH (fun c=>.bl (decide (97<=c) && decide (c<=122))) ta (by show t.length<=1000;omega) (fun i c H' Q' hc s' hQ=>?_) fun D H2 s2 n2 e2=>?_
 ·walk_at "rd";rw [znj (Asc.at ta hc)];exact hQ _ (Same.refl _)
 walk_at "rd";refine ⟨D,t.cps.toList.map (fun c=>decide (97<=c) && decide (c<=122)),rfl,SqL.of (by rw [List.map_map];exact e2),?_⟩
 have z:=q _ s2;rw [show zn t=(t.cps.toList.map (fun c=>decide (97<=c) && decide (c<=122))).all id by
  unfold zn;rw [decide_eq_true (show 1<=t.length by omega),decide_eq_true (show t.length<=8 by omega),List.all_map]
  rfl] at z
 exact z
def fit (k p:Str):Bool:=if k="NUMBER" then zj p else if k="NAME"\/k="KNOWN" then zn p else decide (p=k)
def zk6:Sp:=fun vs H Q _=>∃k p:Str,vs=[.str k,.str p]/\Asc p/\p.length<=10000/\∀H',Same H H'->Q (.bl (fit k p)) H'
theorem znk {k p:Str} {H:Hp} {Q:VK} {E:XK} (h1:Asc p) (h2:p.length<=10000) (h:∀H',Same H H'->Q (.bl (fit k p)) H'):zk6 [.str k,.str p] H Q E:=⟨k,p,rfl,h1,h2,h⟩
theorem zda (F:Src K mg "piece_fits" xL ["kind","piece"]) (B:Blt mg) (C:Cls K mg base) (R:Rel K mg base C) (Kc:Cst K mg) (D_is_number:s!"m{1}{"is_number"}{["text"]}{zcb}") (D_is_name:s!"m{1}{"is_name"}{["piece"]}{zcN}"):Def P w K mg base (CXE P w) 2 "piece_fits" ["kind","piece"] zk6:=by
 refine F.ok (CX:=CXE P w) (k:=1) w9 s!"s" s!"u"
 ·obtain ⟨_,_,rfl,_⟩:=h;rfl
 have nd:=w9.nd;obtain ⟨k,p,rfl,pa,pl,q⟩:=h;refine ⟨_,s!"d{s!"w{s!"ak"}{s!"f{s!"t{s!"l{D_is_number}{xpass_nox}{s!"Y"}"}"}"}"}{s!"d{s!"w{s!"bk{pv 0}{s!"h{s!"a{pe_str}{s!"R"}"}"}"}{s!"f{s!"t{s!"l{D_is_name}{xpass_nox}{s!"Y"}"}"}"}"}{s!"f{s!"t{s!"`{op_eqA hr.units0}{pv 1}{pv 0}"}"}"}"}",?_⟩
 walk_at "ds";refine zh [some (.str k),some (.str p)] rfl ?_;walk_at "rd";walk_at "ite"
 ·rename_i c;walk_at "rd";refine zd2 pa pl fun H1 s1=>?_
  have:=q H1 s1;rw [show fit k p=zj p from if_pos c] at this
  exact this
 rename_i c;walk_at "rd";rename_i T H1 s1 nT eT;refine zL ["NAME","KNOWN"] (SqT.of eT) ?_
 by_cases c2:k="NAME"\/k="KNOWN"
 ·rw [decide_eq_true (show k∈([Str.ofString "NAME",Str.ofString "KNOWN"]:List Str) by simp [c2])]
  walk_at "rd";refine zgA pa pl fun H2 s2=>?_
  have:=q H2 (s1.trans s2);rw [show fit k p=zn p by unfold fit;rw [if_neg c,if_pos c2]] at this
  exact this
 ·rw [decide_eq_false (show ¬k∈([Str.ofString "NAME",Str.ofString "KNOWN"]:List Str) by simpa using c2)]
  walk_at "rd";have:=q H1 s1;rw [show fit k p=decide (p=k) by unfold fit;rw [if_neg c,if_neg c2]] at this
  exact this
def xb (fs ps:List Str):Bool:=decide (ps.length=fs.length) && (List.zipWith fit fs ps).all id
def zk7 (K:PySem.W.Frag):Sp:=fun vs H Q _=>∃(l a:Addr) (ps fs:List Str),vs=[.ref l,.ref a]/\SqL K H l (ps.map V.str)/\SqT K H a s!"aK"/\xx ps/\∀H',Same H H'->Q (.bl (xb fs ps)) H'
theorem zhz {K:PySem.W.Frag} {l a:Addr} {ps fs:List Str} {H:Hp} {Q:VK} {E:XK} (h1:SqL K H l (ps.map V.str)) (h2:SqT K H a s!"aK") (h3:xx ps) (h:∀H',Same H H'->Q (.bl (xb fs ps)) H'):zk7 K [.ref l,.ref a] H Q E:=⟨l,a,ps,fs,rfl,h1,h2,h3,h⟩
theorem zfP (F:Src K mg "has_form" zaq ["pieces","form"]) (B:Blt mg) (C:Cls K mg base) (R:Rel K mg base C) (Kc:Cst K mg) (D_piece_fits:s!"m{2}{"piece_fits"}{["kind","piece"]}{zk6}"):Def P w K mg base (CXE P w) 3 "has_form" ["pieces","form"] (zk7 K):=by
 refine F.ok (CX:=CXE P w) (k:=2) zbR s!"s" s!"u"
 ·obtain ⟨_,_,_,_,rfl,_⟩:=h;rfl
 have nd:=zbR.nd;obtain ⟨l,a,ps,fs,rfl,hl,ha,ok,q⟩:=h;refine ⟨_,s!"f{s!"t{s!"aq{s!"`{op_eqA hr.units0}{s!"aw"}{s!"bs"}"}{s!"aM{s!"A{call_allB rfl}{B.all}{PyProof.Rows.boot_all}{s!"a{@zjN _ _ _ _ _ _ _ _ _ _ _ ["kind","piece"] rfl (@zhp _ _ _ _ _ _ _ _ _ rfl B.zip s!"a{pv 1}{s!"W"}" (by rfl) (by rfl)) (fun pins ex s H=>(@zmu _ _ _ _ _ _ _ _ _ _ 2 _ rfl s!"aB{s!"-{0}{(show (["kind","piece"]:List Str).Nodup from by decide+kernel)}"}{s!"aB{s!"-{1}{(show (["kind","piece"]:List Str).Nodup from by decide+kernel)}"}{zb3}"}" rfl rfl)) (fun pins ex s H=>s!"l{D_piece_fits}{zcn}{s!"aT"}") s!"b" s!"b" rfl s!"b" (by intro _;rfl)}{pa_nil}"}"}"}"}"}",?_⟩
 walk_at "ds";refine zh [some s!"H",some s!"g"] rfl ?_;have l1:(ps.map V.str).length=ps.length:=List.length_map _;have l2:s!"aK".length=fs.length:=List.length_map _;walk_at "rd";walk_at "ite"
 rotate_left
 ·rename_i c;walk_at "rd";have z:=q _ (Same.refl _);rw [show xb fs ps=false by unfold xb;rw [decide_eq_false s!"e"];rfl] at z
  exact z
 rename_i c;have ok1:=ok.1;walk_at "rd";try refine zjM.Qa ?_
 walk_at "rd";refine zfC ha hl ?_;refine zgr (fun x y=>match x,y with | .str k,.str p=>.bl (fit k p) | _,_=>.non) ha hl s!"e" s!"e" (fun i x y H' R hx hy s' hR=>?_) fun D H2 s2 n2 e2=>?_
 ·rw [List.getElem?_map] at hx hy;obtain ⟨k,hk,rfl⟩:=Option.map_eq_some_iff.mp hx;obtain ⟨p,hp,rfl⟩:=Option.map_eq_some_iff.mp hy;obtain ⟨a1,a2⟩:=ok.2 p s!"4{hp}";walk_at "rd";exact znk a1 a2 hR
 walk_at "rd";have ez:List.zipWith (fun x y=>match x,y with | V.str k,V.str p=>V.bl (fit k p) | _,_=>V.non) s!"aK" (ps.map V.str)=(List.zipWith fit fs ps).map V.bl:=by
  rw [List.map_zipWith,List.zipWith_map]
 refine ⟨D,List.zipWith fit fs ps,rfl,SqL.of (by rw [<-ez];exact e2),?_⟩
 have z:=q _ s2;rw [show xb fs ps=(List.zipWith fit fs ps).all id by unfold xb;rw [decide_eq_true s!"e"];rfl] at z
 exact z
theorem zk8 (xs:List V) (i:Nat):zaC xs none (some (i:Int))=xs.take i:=by
 have e:HT.sIx xs.length xs.length (some (i:Int))=min i xs.length:=by unfold HT.sIx;simp only [];rw [if_neg s!"e"];omega
 unfold zaC;rw [e];simp only [HT.sIx,List.drop_zero,Nat.sub_zero];rw [<-List.take_eq_take_min]
theorem zfQ (xs:List V) (i:Nat):zaC xs (some (i:Int)) none=xs.drop i:=by
 have e:HT.sIx xs.length 0 (some (i:Int))=min i xs.length:=by unfold HT.sIx;simp only [];rw [if_neg s!"e"];omega
 unfold zaC;rw [e];simp only [HT.sIx];rw [List.take_of_length_le (by rw [List.length_drop];omega)]
 rcases Nat.le_total i xs.length with h | h
 ·rw [Nat.min_eq_left h]
 ·rw [Nat.min_eq_right h,List.drop_of_length_le (Nat.le_refl _),List.drop_of_length_le h]
theorem zd4 (ps:List Str):zaC (ps.map V.str) (some 2) none=(ps.drop 2).map V.str:=by
 have e:=zfQ (ps.map V.str) 2;rw [<-List.map_drop] at e;exact e
def wU (ps:List Str):Str:=Txt.join " " (ps.drop 2)
def zhA (K:PySem.W.Frag) (cL:Addr):Sp:=fun vs H Q E=>∃(l:Addr) (ps:List Str),vs=[.ref l]/\SqL K H l (ps.map V.str)/\xx ps/\Tx (wU ps)/\(∀ws,RW (wU ps) ws->ws.length<=460->∀D H',Same H H'->H D=none->xa H' s!"y" ws->Q s!"y" H')/\((∀ws,¬RW (wU ps) ws)->∀H',Same H H'->E (.ref cL) s!"a5" H')
theorem zhB {K:PySem.W.Frag} {cL l:Addr} {ps:List Str} {H:Hp} {Q:VK} {E:XK} (h1:SqL K H l (ps.map V.str)) (h2:xx ps) (h3:Tx (wU ps)) (h4:∀ws,RW (wU ps) ws->ws.length<=460->∀D H',Same H H'->H D=none->xa H' s!"y" ws->Q s!"y" H') (h5:(∀ws,¬RW (wU ps) ws)->∀H',Same H H'->E (.ref cL) s!"a5" H'):zhA K cL [.ref l] H Q E:=⟨l,ps,rfl,h1,h2,h3,h4,h5⟩
theorem zcO (F:Src K mg "word_behind" xj ["pieces"]) (B:Blt mg) (C:Cls K mg base) (R:Rel K mg base C) (Kc:Cst K mg) (D_read_word:s!"m{4}{"read_word"}{["text"]}{zk5 C.NoText.addr}"):Def P w K mg base (CXE P w) 5 "word_behind" ["pieces"] (zhA K C.NoLine.addr):=by
 refine F.okX (CX:=CXE P w) (k:=4) wu s!"s" s!"u"
 ·obtain ⟨_,_,rfl,_⟩:=h;rfl
 have nd:=wu.nd;obtain ⟨l,ps,rfl,hl,ok,tx,q1,q0⟩:=h;have ok1:=ok.1;refine ⟨_,s!"f{@zjF _ _ _ _ _ _ _ rfl rfl (fun pins W=>s!"f{s!"t{s!"l{D_read_word}{zdt}{s!"a{@zpo _ _ _ _ _ _ _ _ _ _ _ _ _ _ PySem.F.plainAttrs_str PySem.F.slot_str_join PySem.F.type_str_join zkN pe_str s!"a{s!"aY{zq4}{pv 0}{@po_some _ _ _ pe_int}{po_none}"}{pa_nil}" (by rfl) (by rfl) (by rfl) (by rfl) (by rfl)}{pa_nil}"}"}"}") (@zgn _ _ _ _ _ _ _ _ _ _ _ _ _ _ _ _ _ _ _ _ rfl C.NoText.gl C.NoText.cat (C.NoLine).own PySem.F.excBase_ValueError rfl zky s!"c" s!"c" (by rfl))}",?_⟩
 walk_at "ds";refine zh [some s!"H"] rfl ?_;walk_at "rd";refine zjG (fun cls dx σ' H'=>Same H H'/\σ'=[some s!"H"]/\cls=.ref C.NoText.addr/\dx=none/\∀ws,¬RW (wU ps) ws) ?_ ?_
 ·walk_at "rd";rename_i D1 H1 s1 n1 e1;rw [zd4] at e1;refine zaD (ps.drop 2) s!">" (zca (k:=10000) s!"b" (by rw [List.length_drop];omega) (fun w hw=>(ok.2 w (List.mem_of_mem_drop hw)).2) (Nat.le_refl _)) ?_
  walk_at "rd";refine zni tx (fun ws r lw D H2 s2 n2 g=>?_) (fun n H2 s2=>⟨s1.trans s2,rfl,rfl,rfl,n⟩)
  walk_at "rd";exact q1 ws r lw D H2 (s1.trans s2) (s1.none n2) g
 ·rintro cls dx ad σ' H' ⟨s',rfl,rfl,rfl,n⟩;exact zq2 R.r_NoText_NoText (q0 n H' s')
def zeT:List (List Str):=[[Str.ofString "table",Str.ofString "NAME",Str.ofString "NUMBER",Str.ofString "NUMBER",Str.ofString "NUMBER",Str.ofString "NUMBER"],[Str.ofString "let",Str.ofString "NAME",Str.ofString "together",Str.ofString "KNOWN",Str.ofString "KNOWN"],[Str.ofString "let",Str.ofString "NAME",Str.ofString "back",Str.ofString "KNOWN"],[Str.ofString "drop",Str.ofString "KNOWN"],[Str.ofString "undo"],[Str.ofString "redo"],[Str.ofString "names"],[Str.ofString "show",Str.ofString "KNOWN"],[Str.ofString "number",Str.ofString "KNOWN"],[Str.ofString "steady",Str.ofString "KNOWN"],[Str.ofString "spell",Str.ofString "KNOWN"],[Str.ofString "sign",Str.ofString "NUMBER",Str.ofString "NUMBER"],[Str.ofString "teeth",Str.ofString "NUMBER",Str.ofString "NUMBER"],[Str.ofString "twelve",Str.ofString "NUMBER",Str.ofString "NUMBER"],[Str.ofString "points",Str.ofString "NUMBER",Str.ofString "NUMBER"],[Str.ofString "shuffle",Str.ofString "NUMBER",Str.ofString "NUMBER"],[Str.ofString "parts",Str.ofString "NUMBER",Str.ofString "NUMBER",Str.ofString "NUMBER",Str.ofString "NUMBER"]]
def za4:List Str:=[Str.ofString "word",Str.ofString "NAME"]
def zm (ps:List Str) (f:List Str):Prop:=(xb za4 s!"~"=true/\f=za4/\∃ws,RW (wU ps) ws)\/(xb za4 s!"~"=false/\zeT.find? (fun f=>xb f ps)=some f)
theorem ziI (ps:List Str):zaC (ps.map V.str) none (some 2)=s!"~".map V.str:=by
 have e:=zk8 (ps.map V.str) 2;rw [<-List.map_take] at e;exact e
theorem FormK.get {K:PySem.W.Frag} {as:List Addr} {fs:List (List Str)} (h:FormK K as fs):as.length=fs.length/\∀(i:Nat) (a:Addr),as[i]? =some a->∃f,fs[i]? =some f/\∀H,SqT K H a (f.map V.str):=by
 induction h with
 | nil=>exact ⟨rfl,fun i a h=>by simp at h⟩
 | cons h r ih=>
  refine ⟨by simp [ih.1],fun i a hi=>?_⟩
  cases i with
  | zero=>
   cases hi;exact ⟨_,rfl,h⟩
  | succ j=>exact ih.2 j a hi
theorem zhC {α:Type} {p:α->Bool}:∀{l:List α} {i:Nat} {f:α},(∀j,j<i->∀g,l[j]? =some g->p g=false)->l[i]? =some f->p f=true->l.find? p=some f
 | [],i,f,_,h,_=>by simp at h
 | x::l,0,f,_,h,hp=>by
  cases h;rw [List.find?_cons,hp]
 | x::l,i+1,f,hb,h,hp=>by
  rw [List.find?_cons,hb 0 s!"e" x rfl]
  exact zhC (fun j hj g hg=>hb (j+1) s!"e" g hg) h hp
def zgC (K:PySem.W.Frag) (cL:Addr):Sp:=fun vs H Q E=>∃(l:Addr) (ps:List Str),vs=[.ref l]/\SqL K H l (ps.map V.str)/\xx ps/\Tx (wU ps)/\(∀f,zm ps f->∀a H',Same H H'->(∀H,SqT K H a (f.map V.str))->Q s!"g" H')/\((∀f,¬zm ps f)->∀dx H',(dx=none\/dx=some mainGlobals)->Same H H'->E (.ref cL) dx H')
theorem zfR {K:PySem.W.Frag} {cL l:Addr} {ps:List Str} {H:Hp} {Q:VK} {E:XK} (h1:SqL K H l (ps.map V.str)) (h2:xx ps) (h3:Tx (wU ps)) (h4:∀f,zm ps f->∀a H',Same H H'->(∀H,SqT K H a (f.map V.str))->Q s!"g" H') (h5:(∀f,¬zm ps f)->∀dx H',(dx=none\/dx=some mainGlobals)->Same H H'->E (.ref cL) dx H'):zgC K cL [.ref l] H Q E:=⟨l,ps,rfl,h1,h2,h3,h4,h5⟩
theorem zgD (F:Src K mg "form_of" zbr ["pieces"]) (B:Blt mg) (C:Cls K mg base) (R:Rel K mg base C) (Kc:Cst K mg) (D_has_form:s!"m{3}{"has_form"}{["pieces","form"]}{zk7 K}") (D_word_behind:s!"m{5}{"word_behind"}{["pieces"]}{zhA K C.NoLine.addr}"):Def P w K mg base (CXE P w) 6 "form_of" ["pieces"] (zgC K C.NoLine.addr):=by
 refine F.okX (CX:=CXE P w) (k:=5) zcJ s!"s" s!"u"
 ·obtain ⟨_,_,rfl,_⟩:=h;rfl
 have nd:=zcJ.nd;obtain ⟨l,ps,rfl,hl,ok,tx,q1,q0⟩:=h;obtain ⟨tWORD_FORM,mWORD_FORM,kW⟩:=Kc.WORD_FORM;obtain ⟨tFORMS,asF,mFORMS,kF,kFs⟩:=Kc.FORMS;obtain ⟨lF,gF⟩:=kFs.get;have ok1:=ok.1;have okT:xx s!"~":=⟨by rw [List.length_take];omega,fun w hw=>ok.2 w s!"aZ{hw}"⟩
 refine ⟨_,s!"d{s!"w{s!"2{s!"l{D_has_form}{xpass_cx}{s!"a{s!"aY{zjj}{pv 0}{po_none}{@po_some _ _ _ pe_int}"}{s!"a{s!"bM"}{pa_nil}"}"}"}"}{s!"d{s!"z{s!"l{D_word_behind}{xpass_cx}{s!"W"}"}"}{s!"f{s!"t{s!"bM"}"}"}"}"}{s!"d{@ps_for _ _ _ _ _ _ _ _ PassesOwn.leaving rfl (@pi_tup _ _ _ _ s!"T{.ref tFORMS}{mFORMS}{rfl}") s!"-{1}{nd}" s!"f{s!"w{s!"2{s!"l{D_has_form}{xpass_cx}{s!"aT"}"}"}{s!"f{s!"t{pv 1}"}"}"}" (by intro _;rfl)}{s!"f{s!"ao{(C.NoLine).own}"}"}"}",?_⟩
 walk_at "ds";refine zh [some s!"H",none] rfl ?_;walk_at "rd";rename_i D1 H1 s1 n1 e1;rw [ziI] at e1;refine zhz s!">" (kW _) okT fun H2 s2=>?_
 have s12:=s1.trans s2;cases hf:xb za4 s!"~"
 ·rw [show xb [Str.ofString "word",Str.ofString "NAME"] s!"~"=false from hf]
  walk_at "rd";refine zqO.Qc (kF _) ?_;refine zgY (xs:=asF.map V.ref) (fun i σ H'=>Same H2 H'/\(∃z:Option V,σ=[some s!"H",z])/\∀j,j<i->∀f,zeT[j]? =some f->xb f ps=false) ⟨Same.refl _,⟨_,rfl⟩,fun j hj=>by omega⟩ (fun i σ H' _ _=>kF H') ?_ ?_
  ·rintro i x σ H3 hx ⟨s3,⟨z,rfl⟩,hb⟩;rw [List.getElem?_map] at hx;obtain ⟨a,ha,rfl⟩:=Option.map_eq_some_iff.mp hx;obtain ⟨f,hfi,kf⟩:=gF i a ha;have hfi:zeT[i]? =some f:=hfi;walk_at "rd";refine zhz ((s12.trans s3).seq hl) (kf _) ok fun H4 s4=>?_
   cases hff:xb f ps
   ·walk_at "rd";refine ⟨s3.trans s4,⟨_,rfl⟩,fun j hj g hg=>?_⟩
    rcases Nat.lt_or_ge j i with z | z
    ·exact hb j z g hg
    ·rw [show j=i by omega,hfi] at hg
     cases hg;exact hff
   ·walk_at "rd";exact q1 f (.inr ⟨hf,zhC hb hfi hff⟩) a H4 (s12.trans (s3.trans s4)) kf
  ·rintro σ H3 ⟨s3,⟨z,rfl⟩,hb⟩;walk_at "rd";refine q0 (fun f hF=>?_) none H3 (.inl rfl) (s12.trans s3)
   rcases hF with ⟨h,_⟩ | ⟨_,h⟩
   ·rw [hf] at h;cases h
   ·have hm:=List.mem_of_find?_eq_some h;have hp:xb f ps=true:=List.find?_some (p:=fun f=>xb f ps) h
    obtain ⟨j,hj⟩:=List.getElem?_of_mem hm;have hjl:=s!"Z{hj}".1;rw [hb j (by rw [List.length_map,lF];exact hjl) f hj] at hp
    cases hp
 ·rw [show xb [Str.ofString "word",Str.ofString "NAME"] s!"~"=true from hf]
  walk_at "rd";refine zhB (s12.seq hl) ok tx (fun ws r _ D H3 s3 _ _=>?_) (fun n H3 s3=>q0 (fun f hF=>?_) _ H3 (.inr rfl) (s12.trans s3))
  ·walk_at "rd";exact q1 za4 (.inl ⟨hf,rfl,ws,r⟩) _ H3 (s12.trans s3) kW
  ·rcases hF with ⟨_,_,ws,r⟩ | ⟨h,_⟩
   ·exact n ws r
   ·rw [hf] at h;cases h
abbrev Tb:=Int×Int×Int×Int
def wF (H:Hp) (t:Addr) (x:Tb):Prop:=Tab H t x.1 x.2.1 x.2.2.1 x.2.2.2
def yJ (x:Tb):Prop:=x.1.natAbs<10^60/\x.2.1.natAbs<10^60/\x.2.2.1.natAbs<10^60/\x.2.2.2.natAbs<10^60
def yn (x:Tb):Prop:=x.1*x.2.2.2-x.2.1*x.2.2.1=1/\yJ x
def zeU (cT:Addr):Sp:=fun vs H Q E=>∃(t:Addr) (x:Tb),vs=[.ref t]/\wF H t x/\(yJ x->∀H',Same H H'->Q .non H')/\(¬yJ x->∀H',Same H H'->E (.ref cT) none H')
theorem ziJ {cT t:Addr} {x:Tb} {H:Hp} {Q:VK} {E:XK} (h:wF H t x) (h1:yJ x->∀H',Same H H'->Q .non H') (h2:¬yJ x->∀H',Same H H'->E (.ref cT) none H'):zeU cT [.ref t] H Q E:=⟨t,x,rfl,h,h1,h2⟩
theorem zbt {x:Tb}:yJ x↔∀n∈[x.1,x.2.1,x.2.2.1,x.2.2.2],n.natAbs<10^60:=by
 simp only [List.mem_cons,List.not_mem_nil,or_false,forall_eq_or_imp,forall_eq];exact Iff.rfl
theorem wG (F:Src K mg "need_short_places" zZ ["table"]) (B:Blt mg) (C:Cls K mg base) (R:Rel K mg base C) (Kc:Cst K mg) (D_need_to:s!"m{1}{"need_to"}{["most","number"]}{zpt C.TooMany.addr}"):Def P w K mg base (CXE P w) 2 "need_short_places" ["table"] (zeU C.TooMany.addr):=by
 refine F.okX (CX:=CXE P w) (k:=1) yC s!"s" s!"u"
 ·obtain ⟨_,_,rfl,_⟩:=h;rfl
 have nd:=yC.nd;obtain ⟨t,⟨a,b,c,d⟩,rfl,⟨r,s',e1,e2,e3⟩,q1,q0⟩:=h;dsimp only at e2 e3;refine ⟨_,s!"f{@ps_for _ _ _ _ _ _ _ _ PassesOwn.leaving rfl (@pi_tup _ _ _ _ s!"j{zeo}{s!"N{pv 0}"}{s!"N{pv 0}"}") s!"-{1}{nd}" s!"f{s!"z{s!"l{D_need_to}{xpass_cx}{s!"a{s!"aU"}{s!"a{s!"A{wI}{B.abs}{PyProof.Rows.boot_abs}{s!"Y"}"}{pa_nil}"}"}"}"}" (by intro _;rfl)}",?_⟩
 walk_at "ds";refine zh [some s!"E",none] rfl ?_;walk_at "rd";refine zhc e2 e3 (show 2+2<=1000 by decide) fun u H1 s1 eu=>?_
 walk_at "rd";refine zgY (xs:=[a,b,c,d].map V.int) (fun i σ H'=>H'=H1/\(∃z:Option V,σ=[some s!"E",z])/\∀j,j<i->∀n,[a,b,c,d][j]? =some n->n.natAbs<10^60) ⟨rfl,⟨_,rfl⟩,fun j hj=>by omega⟩ (fun i σ H' _ h=>by rw [h.1];exact SqT.of eu) ?_ ?_
 ·rintro i x σ H3 hx ⟨rfl,⟨z,rfl⟩,hb⟩;rw [List.getElem?_map] at hx;obtain ⟨n,hn,rfl⟩:=Option.map_eq_some_iff.mp hx;walk_at "rd";rename_i j hj;refine zm9 (.inr (.inr (.inr rfl))) (fun h=>q0 (fun S=>?_) _ s1) (fun h=>?_)
  ·have:=zbt.mp S n s!"4{hn}";omega
  walk_at "rd";refine ⟨rfl,⟨_,rfl⟩,fun k hk m hm=>?_⟩
  rcases Nat.lt_or_ge k i with z | z
  ·exact hb k z m hm
  ·rw [show k=i by omega,hn] at hm
   cases hm;omega
 ·rintro σ H3 ⟨rfl,⟨z,rfl⟩,hb⟩;walk_at "rd";refine q1 (zbt.mpr fun n hn=>?_) _ s1
  obtain ⟨j,hj⟩:=List.getElem?_of_mem hn;exact hb j (by have:=s!"Z{hj}".1;exact this) n hj
def zeV (cW:Addr) (ask:Str) (x:Tb) (H:Hp) (Q:VK) (E:XK):Prop:=
 (ask=Str.ofString "show"/\∀H',Same H H'->Q (.str (zaj x.1 x.2.1 x.2.2.1 x.2.2.2)) H')\/
 (ask=Str.ofString "number"/\x.2.2.1=0/\∀H',Same H H'->Q (.str (zK (x.2.1*x.2.2.2))) H')\/
 (ask=Str.ofString "spell"/\(x.1<0\/x.2.1<0\/x.2.2.1<0\/x.2.2.2<0)/\∀H',Same H H'->E (.ref cW) none H')
theorem zeV.same {cW:Addr} {ask:Str} {x:Tb} {H H1:Hp} {Q:VK} {E:XK} (h:zeV cW ask x H Q E) (s:Same H H1):zeV cW ask x H1 Q E:=by
 rcases h with ⟨e,q⟩ | ⟨e,z,q⟩ | ⟨e,z,q⟩
 ·exact .inl ⟨e,fun H' s'=>q H' (s.trans s')⟩
 ·exact .inr (.inl ⟨e,z,fun H' s'=>q H' (s.trans s')⟩)
 ·exact .inr (.inr ⟨e,z,fun H' s'=>q H' (s.trans s')⟩)
theorem zeV.mono {cW:Addr} {ask:Str} {x:Tb} {H:Hp} {Q Q':VK} {E E':XK} (hq:∀v H',Q v H'->Q' v H') (he:∀c d H',E c d H'->E' c d H') (h:zeV cW ask x H Q E):zeV cW ask x H Q' E':=by
 rcases h with ⟨e,q⟩ | ⟨e,z,q⟩ | ⟨e,z,q⟩
 ·exact .inl ⟨e,fun H' s'=>hq _ _ (q H' s')⟩
 ·exact .inr (.inl ⟨e,z,fun H' s'=>hq _ _ (q H' s')⟩)
 ·exact .inr (.inr ⟨e,z,fun H' s'=>he _ _ _ (q H' s')⟩)
def zbT:List Str:=[Str.ofString "show",Str.ofString "number",Str.ofString "steady",Str.ofString "spell"]
def zeW (cW:Addr):Sp:=fun vs H Q E=>∃(ask:Str) (t:Addr) (x:Tb),vs=[.str ask,.ref t]/\ask∈zbT/\wF H t x/\yn x/\zeV cW ask x H Q E
theorem ziK {cW t:Addr} {ask:Str} {x:Tb} {H:Hp} {Q:VK} {E:XK} (h1:ask∈zbT) (h2:wF H t x) (h3:yn x) (h:zeV cW ask x H Q E):zeW cW [.str ask,.ref t] H Q E:=⟨ask,t,x,rfl,h1,h2,h3,h⟩
theorem zcP {n:Int} (h:n.natAbs<10^60):n.natAbs<10^180:=Nat.lt_trans h s!"c"
theorem yK {n:Int} (h:n.natAbs<10^60):n.natAbs<10^190:=Nat.lt_trans h s!"c"
theorem upS {n:Int} {k:Nat} (h:n.natAbs<10^k) (hk:k<=570):wa n:=Nat.lt_of_lt_of_le h (Nat.pow_le_pow_right s!"c" hk)
theorem zbu (F:Src K mg "told_of_table" yE ["ask","table"]) (B:Blt mg) (C:Cls K mg base) (R:Rel K mg base C) (Kc:Cst K mg) (D_shown_table:s!"m{5}{"shown_table"}{["table"]}{zhw}") (D_number_of:s!"m{5}{"number_of"}{["table"]}{zoe}") (D_steady_of:s!"m{1}{"steady_of"}{["table"]}{zP}") (D_shown_word:s!"m{1}{"shown_word"}{["word"]}{zP}") (D_word_of:s!"m{5}{"word_of"}{["table"]}{zq8 C.NoWord.addr}"):Def P w K mg base (CXE P w) 6 "told_of_table" ["ask","table"] (zeW C.NoWord.addr):=by
 refine F.okX (CX:=CXE P w) (k:=5) xr s!"s" s!"u"
 ·obtain ⟨_,_,_,rfl,_⟩:=h;rfl
 have nd:=xr.nd;obtain ⟨ask,t,⟨a,b,c,d⟩,rfl,ha,T,⟨det,b1,b2,b3,b4⟩,q⟩:=h;dsimp only at det b1 b2 b3 b4 q;have T:Tab H t a b c d:=T;refine ⟨_,s!"d{s!"w{s!"ak"}{s!"f{s!"t{s!"l{D_shown_table}{xpass_cx}{s!"Y"}"}"}"}"}{s!"d{s!"w{s!"ak"}{s!"f{s!"t{s!"az{s!"a{s!"l{D_number_of}{xpass_cx}{s!"Y"}"}{pa_nil}"}"}"}"}"}{s!"d{s!"w{s!"ak"}{s!"f{s!"t{s!"az{s!"a{s!"l{D_steady_of}{xpass_cx}{s!"Y"}"}{pa_nil}"}"}"}"}"}{s!"f{s!"t{s!"l{D_shown_word}{xpass_cx}{s!"a{s!"l{D_word_of}{xpass_cx}{s!"Y"}"}{pa_nil}"}"}"}"}"}"}",?_⟩
 walk_at "ds";refine zh [some (.str ask),some s!"E"] rfl ?_;rcases q with ⟨rfl,q⟩ | ⟨rfl,c0,q⟩ | ⟨rfl,ng,q⟩
 ·walk_at "rd";walk_at "ite"
  rotate_left
  ·exact absurd rfl (by assumption)
  walk_at "rd";exact zhx T det (yK b1) (yK b2) (yK b3) (yK b4) fun H1 s1=>q H1 s1
 ·walk_at "rd";walk_at "ite"
  ·rename_i e;exact absurd e s!"b"
  walk_at "rd";walk_at "ite"
  rotate_left
  ·exact absurd rfl (by assumption)
  walk_at "rd";obtain rfl:c=0:=c0;refine ⟨t,a,b,d,rfl,T,det,zcP b1,zcP b2,zcP b4,?_⟩;have lg:=(upS (n:=b*d) (k:=120) (by rw [Int.natAbs_mul];exact Nat.lt_of_lt_of_le (Nat.mul_lt_mul'' b2 b4) s!"c") s!"c").log
  walk_at "rd";exact q _ (Same.refl _)
 ·walk_at "rd";walk_at "ite"
  ·rename_i e;exact absurd e s!"b"
  walk_at "rd";walk_at "ite"
  ·rename_i e;exact absurd e s!"b"
  walk_at "rd";walk_at "ite"
  ·rename_i e;exact absurd e s!"b"
  walk_at "rd";exact ⟨t,a,b,c,d,rfl,T,det,zcP b1,zcP b2,zcP b3,zcP b4,ng,q H (Same.refl _)⟩
def zdb (cN cO cA:Addr) (ask:Str) (ns:List Int) (H:Hp) (_:VK) (E:XK):Prop:=
 (ask=Str.ofString "parts"/\∃n m a b,ns=[n,m,a,b]/\n<0/\∀H',Same H H'->E (.ref cN) none H')\/
 (ask=Str.ofString "sign"/\∃p m,ns=[p,m]/\1<=m/\m%2=0/\∀H',Same H H'->E (.ref cO) none H')\/
 (ask=Str.ofString "points"/\∃p m,ns=[p,m]/\m<1/\∀H',Same H H'->E (.ref cN) none H')\/
 (ask=Str.ofString "shuffle"/\∃p m,ns=[p,m]/\1<=m/\Int.gcd p m≠1/\∀H',Same H H'->E (.ref cA) none H')
theorem zdb.same {cN cO cA:Addr} {ask:Str} {ns:List Int} {H H1:Hp} {Q:VK} {E:XK} (h:zdb cN cO cA ask ns H Q E) (s:Same H H1):zdb cN cO cA ask ns H1 Q E:=by
 rcases h with ⟨e,n,m,a,b,z,y,q⟩ | ⟨e,p,m,z,y1,y2,q⟩ | ⟨e,p,m,z,y,q⟩ | ⟨e,p,m,z,y1,y2,q⟩
 ·exact .inl ⟨e,n,m,a,b,z,y,fun H' s'=>q H' (s.trans s')⟩
 ·exact .inr (.inl ⟨e,p,m,z,y1,y2,fun H' s'=>q H' (s.trans s')⟩)
 ·exact .inr (.inr (.inl ⟨e,p,m,z,y,fun H' s'=>q H' (s.trans s')⟩))
 ·exact .inr (.inr (.inr ⟨e,p,m,z,y1,y2,fun H' s'=>q H' (s.trans s')⟩))
theorem zdb.mono {cN cO cA:Addr} {ask:Str} {ns:List Int} {H:Hp} {Q Q':VK} {E E':XK} (_:∀v H',Q v H'->Q' v H') (he:∀c d H',E c d H'->E' c d H') (h:zdb cN cO cA ask ns H Q E):zdb cN cO cA ask ns H Q' E':=by
 rcases h with ⟨e,n,m,a,b,z,y,q⟩ | ⟨e,p,m,z,y1,y2,q⟩ | ⟨e,p,m,z,y,q⟩ | ⟨e,p,m,z,y1,y2,q⟩
 ·exact .inl ⟨e,n,m,a,b,z,y,fun H' s'=>he _ _ _ (q H' s')⟩
 ·exact .inr (.inl ⟨e,p,m,z,y1,y2,fun H' s'=>he _ _ _ (q H' s')⟩)
 ·exact .inr (.inr (.inl ⟨e,p,m,z,y,fun H' s'=>he _ _ _ (q H' s')⟩))
 ·exact .inr (.inr (.inr ⟨e,p,m,z,y1,y2,fun H' s'=>he _ _ _ (q H' s')⟩))
def zeX (K:PySem.W.Frag) (cN cO cA:Addr):Sp:=fun vs H Q E=>∃(ask:Str) (l:Addr) (ns:List Int),vs=[.str ask,.ref l]/\SqL K H l (ns.map V.int)/\(∀n∈ns,n.natAbs<10^60)/\((ask=Str.ofString "parts"/\ns.length=4)\/(ask∈[Str.ofString "sign",Str.ofString "teeth",Str.ofString "twelve",Str.ofString "points",Str.ofString "shuffle"]/\ns.length=2))/\zdb cN cO cA ask ns H Q E
theorem ziL {K:PySem.W.Frag} {cN cO cA l:Addr} {ask:Str} {ns:List Int} {H:Hp} {Q:VK} {E:XK} (h1:SqL K H l (ns.map V.int)) (h2:∀n∈ns,n.natAbs<10^60) (h3:(ask=Str.ofString "parts"/\ns.length=4)\/(ask∈[Str.ofString "sign",Str.ofString "teeth",Str.ofString "twelve",Str.ofString "points",Str.ofString "shuffle"]/\ns.length=2)) (h:zdb cN cO cA ask ns H Q E):zeX K cN cO cA [.str ask,.ref l] H Q E:=⟨ask,l,ns,rfl,h1,h2,h3,h⟩
theorem zat (F:Src K mg "told_of_numbers" yk ["ask","numbers"]) (B:Blt mg) (C:Cls K mg base) (R:Rel K mg base C) (Kc:Cst K mg) (D_whole_sum:s!"m{3}{"whole_sum"}{["n","m","a","b"]}{zgw C.NoCount.addr}") (D_exchanged:s!"m{4}{"exchanged"}{["a","m"]}{zpw C.NoCount.addr C.NotOdd.addr}") (D_tooth_sum:s!"m{1}{"tooth_sum"}{["a","m"]}{zP}") (D_shown_fraction:s!"m{1}{"shown_fraction"}{["x"]}{zP}") (D_twelve:s!"m{1}{"twelve"}{["a","m"]}{zP}") (D_points_under:s!"m{4}{"points_under"}{["a","m"]}{zod C.NoCount.addr C.NotOdd.addr}") (D_shuffle_sign:s!"m{5}{"shuffle_sign"}{["a","m"]}{zq7 C.NoCount.addr C.NotApart.addr}"):Def P w K mg base (CXE P w) 6 "told_of_numbers" ["ask","numbers"] (zeX K C.NoCount.addr C.NotOdd.addr C.NotApart.addr):=by
 refine F.okX (CX:=CXE P w) (k:=5) yZ s!"s" s!"u"
 ·obtain ⟨_,_,_,rfl,_⟩:=h;rfl
 have nd:=yZ.nd;obtain ⟨ask,l,ns,rfl,hl,_,_,q⟩:=h;refine ⟨_,s!"d{s!"w{s!"ak"}{s!"f{s!"t{s!"az{s!"a{s!"l{D_whole_sum}{xpass_cx}{s!"a{s!"J"}{s!"a{s!"J"}{s!"a{s!"J"}{s!"a{s!"J"}{pa_nil}"}"}"}"}"}{pa_nil}"}"}"}"}"}{s!"d{s!"i{2}{s!"J"}"}{s!"d{s!"i{3}{s!"J"}"}{s!"d{s!"w{s!"ak"}{s!"f{s!"t{s!"az{s!"a{s!"l{D_exchanged}{xpass_cx}{s!"aJ"}"}{pa_nil}"}"}"}"}"}{s!"d{s!"w{s!"ak"}{s!"f{s!"t{s!"l{D_shown_fraction}{xpass_cx}{s!"a{s!"l{D_tooth_sum}{xpass_cx}{s!"aJ"}"}{pa_nil}"}"}"}"}"}{s!"d{s!"w{s!"ak"}{s!"f{s!"t{s!"az{s!"a{s!"l{D_twelve}{xpass_cx}{s!"aJ"}"}{pa_nil}"}"}"}"}"}{s!"d{s!"w{s!"ak"}{s!"f{s!"t{s!"az{s!"a{s!"l{D_points_under}{xpass_cx}{s!"aJ"}"}{pa_nil}"}"}"}"}"}{s!"f{s!"t{s!"az{s!"a{s!"l{D_shuffle_sign}{xpass_cx}{s!"aJ"}"}{pa_nil}"}"}"}"}"}"}"}"}"}"}",?_⟩
 walk_at "ds";refine zh [some (.str ask),some s!"H",none,none] rfl ?_;rcases q with ⟨rfl,n,m,a,b,rfl,z,q⟩ | ⟨rfl,p,m,rfl,z1,z2,q⟩ | ⟨rfl,p,m,rfl,z,q⟩ | ⟨rfl,p,m,rfl,z1,z2,q⟩
 ·walk_at "rd";walk_at "ite"
  rotate_left
  ·exact absurd rfl (by assumption)
  walk_at "rd";exact ⟨n,m,a,b,rfl,z,q H (Same.refl _)⟩
 ·walk_at "rd";walk_at "ite"
  ·rename_i e;exact absurd e s!"b"
  walk_at "rd";walk_at "ite"
  rotate_left
  ·exact absurd rfl (by assumption)
  walk_at "rd";exact ⟨p,m,rfl,z1,z2,q H (Same.refl _)⟩
 ·walk_at "rd";walk_at "ite"
  ·rename_i e;exact absurd e s!"b"
  walk_at "rd";walk_at "ite"
  ·rename_i e;exact absurd e s!"b"
  walk_at "rd";walk_at "ite"
  ·rename_i e;exact absurd e s!"b"
  walk_at "rd";walk_at "ite"
  ·rename_i e;exact absurd e s!"b"
  walk_at "rd";walk_at "ite"
  rotate_left
  ·exact absurd rfl (by assumption)
  walk_at "rd";exact ⟨p,m,rfl,z,q H (Same.refl _)⟩
 ·walk_at "rd";walk_at "ite"
  ·rename_i e;exact absurd e s!"b"
  walk_at "rd";walk_at "ite"
  ·rename_i e;exact absurd e s!"b"
  walk_at "rd";walk_at "ite"
  ·rename_i e;exact absurd e s!"b"
  walk_at "rd";walk_at "ite"
  ·rename_i e;exact absurd e s!"b"
  walk_at "rd";walk_at "ite"
  ·rename_i e;exact absurd e s!"b"
  walk_at "rd";exact ⟨p,m,rfl,z1,z2,q H (Same.refl _)⟩
abbrev ym:=Str×Option Tb×Option Tb
structure DSt where
 f:Str->Option Tb
 dn:List ym
 bk:List ym
def zr (f:Str->Option Tb) (n:Str) (o:Option Tb):Str->Option Tb:=fun m=>if m=n then o else f m
def za5 (H:Hp) (v:V):Option Tb->Prop
 | none=>v=.non
 | some x=>∃t,v=.ref t/\wF H t x
structure KvOk (H:Hp) (kvs:List (Key×V)) (f:Str->Option Tb):Prop where
 nd:(kvs.map (·.1)).Nodup
 txt:∀k∈kvs.map (·.1),∃n,k=Sum.inr n
 vals:∀n x,f n=some x->∃t,zO kvs (.inr n)=some s!"E"/\wF H t x
 no:∀n,f n=none->zO kvs (.inr n)=none
def zM (H:Hp) (ds:List Addr) (dn:List ym):Prop:=ds.length=dn.length/\∀(i:Nat) (x:Addr) (d:ym),ds[i]? =some x->dn[i]? =some d->∃v w,H x=some (.tup [.str d.1,v,w])/\za5 H v d.2.1/\za5 H w d.2.2
def zgE:(Str->Option Tb)->List ym->Prop
 | f,[]=>f=fun _=>none
 | f,(n,a,b)::r=>f n=b/\zgE (zr f n a) r
def Fut:(Str->Option Tb)->List ym->Prop
 | _,[]=>True
 | f,(n,a,b)::r=>f n=a/\Fut (zr f n b) r
structure Fine (st:DSt):Prop where
 tabs:∀n x,st.f n=some x->yn x
 dds:∀d∈st.dn++st.bk,(∀x,d.2.1=some x->yn x)/\(∀x,d.2.2=some x->yn x)/\¬(d.2.1=none/\d.2.2=none)/\d.1.length<=8
 hist:zgE st.f st.dn.reverse
 fut:Fut st.f st.bk.reverse
 few:st.dn.length+st.bk.length<=60
structure DeskAt (CD:Addr) (H:Hp) (a T L B:Addr) (st:DSt):Prop where
 ins:∃dx,H a=some (.ins CD dx [("tables",.ref T),("done",.ref L),("taken_back",.ref B)])
 dict:∃kvs,H T=some (.dK kvs)/\KvOk H kvs st.f
 done:∃ds,H L=some (.lst (ds.map V.ref))/\zM H ds st.dn
 back:∃ds,H B=some (.lst (ds.map V.ref))/\zM H ds st.bk
 ne:L≠B
theorem KvOk.move {H H':Hp} {kvs:List (Key×V)} {f:Str->Option Tb} (k:KvOk H kvs f) (m:∀t x,wF H t x->wF H' t x):KvOk H' kvs f:=⟨k.nd,k.txt,fun n x h=>by
 obtain ⟨t,e,T⟩:=k.vals n x h;exact ⟨t,e,m t x T⟩,k.no⟩
theorem KvOk.names {H:Hp} {kvs:List (Key×V)} {f:Str->Option Tb} (k:KvOk H kvs f):∃ns:List Str,kvs.map Prod.fst=ns.map Sum.inr/\ns.Nodup/\∀n,n∈ns↔f n≠none:=by
 have key:∀l:List Key,(∀x∈l,∃n,x=Sum.inr n)->∃ns:List Str,l=ns.map Sum.inr:=fun l=>by
  induction l with
  | nil=>exact fun _=>⟨[],rfl⟩
  | cons x l ih=>
   intro h;obtain ⟨n,rfl⟩:=h x List.mem_cons_self;obtain ⟨ns,e⟩:=ih fun y hy=>h y s!"3{hy}"
   exact ⟨n::ns,by rw [e];rfl⟩
 obtain ⟨ns,e⟩:=key _ k.txt;have nd:=k.nd;have e':kvs.map Prod.fst=ns.map Sum.inr:=e;rw [e] at nd;refine ⟨ns,e',(List.pairwise_map.mp nd).imp (fun h e=>h (congrArg _ e)),fun n=>⟨fun h z=>?_,fun h=>?_⟩⟩
 ·have:=zfq (k.no n z);exact this (by rw [e];exact List.mem_map.mpr ⟨n,h,rfl⟩)
 ·cases hf:f n with
  | none=>exact absurd hf h
  | some x=>
   obtain ⟨t,hv,_⟩:=k.vals n x hf;have:=zmG hv;rw [e] at this;obtain ⟨m,hm,em⟩:=List.mem_map.mp this;cases em;exact hm
theorem KvOk.put {H:Hp} {kvs:List (Key×V)} {f:Str->Option Tb} {n:Str} {t:Addr} {x:Tb} (k:KvOk H kvs f) (T:wF H t x):KvOk H (xh kvs (.inr n) s!"E") (zr f n (some x)):=by
 have hv:=fun j=>zjS kvs (Sum.inr n) j s!"E"
 refine ⟨?_,fun j hj=>?_,fun m y h=>?_,fun m h=>?_⟩
 ·rcases keys_put (kvs:=kvs) (k:=Sum.inr n) (v:=.ref t) with e | ⟨e0,e⟩
  ·rw [e];exact k.nd
  ·exact zmH _ k.nd e0
 ·rcases keys_put (kvs:=kvs) (k:=Sum.inr n) (v:=.ref t) with e | ⟨e0,e⟩
  ·rw [e] at hj;exact k.txt j hj
  ·rw [e] at hj;rcases List.mem_append.mp hj with z | z
   ·exact k.txt j z
   ·exact ⟨n,List.mem_singleton.mp z⟩
 ·unfold zr at h;rw [hv]
  by_cases e:m=n
  ·rw [if_pos e] at h;cases h;rw [if_pos (by rw [e])]
   exact ⟨t,rfl,T⟩
  ·rw [if_neg e] at h;rw [if_neg (fun z=>e (Sum.inr.inj z))]
   exact k.vals m y h
 ·unfold zr at h;rw [hv]
  by_cases e:m=n
  ·rw [if_pos e] at h;cases h
  ·rw [if_neg e] at h;rw [if_neg (fun z=>e (Sum.inr.inj z))]
   exact k.no m h
theorem KvOk.drop {H:Hp} {kvs:List (Key×V)} {f:Str->Option Tb} {n:Str} (k:KvOk H kvs f):KvOk H (yb kvs (.inr n)) (zr f n none):=by
 have hv:=fun j=>zdU (Sum.inr n) j kvs
 refine ⟨zcu k.nd,fun j hj=>k.txt j (ziB j hj),fun m y h=>?_,fun m h=>?_⟩
 ·unfold zr at h;rw [hv]
  by_cases e:m=n
  ·rw [if_pos e] at h;cases h
  ·rw [if_neg e] at h;rw [if_neg (fun z=>e (Sum.inr.inj z))]
   exact k.vals m y h
 ·unfold zr at h;rw [hv]
  by_cases e:m=n
  ·rw [if_pos (by rw [e])]
  ·rw [if_neg e] at h;rw [if_neg (fun z=>e (Sum.inr.inj z))]
   exact k.no m h
theorem wF.move {H H':Hp} {t:Addr} {x:Tb} (h:wF H t x) (m:∀q xs,H q=some (.tup xs)->H' q=some (.tup xs)):wF H' t x:=by
 obtain ⟨r,s,e1,e2,e3⟩:=h.ex;exact ⟨r,s,m _ _ e1,m _ _ e2,m _ _ e3⟩
theorem za5.move {H H':Hp} {v:V} {o:Option Tb} (h:za5 H v o) (m:∀q xs,H q=some (.tup xs)->H' q=some (.tup xs)):za5 H' v o:=by
 cases o with
 | none=>exact h
 | some x=>
  obtain ⟨t,e,T⟩:=h;exact ⟨t,e,T.move m⟩
theorem zM.move {H H':Hp} {ds:List Addr} {dn:List ym} (h:zM H ds dn) (m:∀q xs,H q=some (.tup xs)->H' q=some (.tup xs)):zM H' ds dn:=⟨h.1,fun i x d hx hd=>by
 obtain ⟨v,w,e,a,b⟩:=h.2 i x d hx hd;exact ⟨v,w,m _ _ e,a.move m,b.move m⟩⟩
def zk9 (CD:Addr):Sp:=fun vs H Q _=>∃(x dx:Addr),vs=[.ref x]/\H x=some (.ins CD dx [])/\H dx=some (.own x)/\∀T L B H',(∀q o,H q=some o->q≠x->H' q=some o)->H T=none->H L=none->H B=none->DeskAt CD H' x T L B ⟨fun _=>none,[],[]⟩->Q .non H'
theorem zbv (C:Cls K mg base) (F:SrcM K "__init__" "Desk.__init__" yF C.Desk.f___init__ ["self"]) (B:Blt mg) (R:Rel K mg base C) (Kc:Cst K mg):DefM P w K mg base (CXE P w) 1 C.Desk.f___init__ ["self"] (zk9 C.Desk.addr):=by
 refine F.ok (CX:=CXE P w) (k:=0) xt s!"s" s!"u"
 ·obtain ⟨_,_,rfl,_⟩:=h;rfl
 have nd:=xt.nd;obtain ⟨x,dx,rfl,ex,ed,q⟩:=h;refine ⟨_,s!"d{@zeh _ _ _ _ _ _ _ _ (pv 0) zjX rfl}{s!"d{@zeh _ _ _ _ _ _ _ _ (pv 0) s!"x{pa_nil}" rfl}{s!"f{@zeh _ _ _ _ _ _ _ _ (pv 0) s!"x{pa_nil}" rfl}"}"}",?_⟩;walk_at "ds";refine zh [some (.ref x)] rfl ?_;walk_at "rd";rename_i T H1 s1 nT eT;have nx:∀q,H q=none->q≠x:=fun q z e=>by rw [e,ex] at z;cases z
 refine zaI (s1.obj ex) C.Desk.cl C.Desk.n_tables s!"c" ?_
 generalize hA:upd H1 x (.ins C.Desk.addr dx (yL "tables" (.ref T) []))=HA;have xA:HA x=some (.ins C.Desk.addr dx [("tables",.ref T)]):=by rw [<-hA];exact zi
 have kA:∀q o,q≠x->H1 q=some o->HA q=some o:=fun q o n e=>by rw [<-hA,zg n];exact e
 have TA:=kA T _ (nx T nT) eT;walk_at "rd";rename_i L H2 s2 nL eL;refine zaI (s2.obj xA) C.Desk.cl C.Desk.n_done (by show 1<1000;decide) ?_
 generalize hB:upd H2 x (.ins C.Desk.addr dx (yL "done" (.ref L) [("tables",.ref T)]))=HB;have xB:HB x=some (.ins C.Desk.addr dx [("tables",.ref T),("done",.ref L)]):=by rw [<-hB];exact zi
 have kB:∀q o,q≠x->H2 q=some o->HB q=some o:=fun q o n e=>by rw [<-hB,zg n];exact e
 have nLx:L≠x:=fun e=>by rw [e,xA] at nL;cases nL
 have LB:=kB L _ nLx eL;have TB:=kB T _ (nx T nT) (s2.obj TA);walk_at "rd";rename_i B H3 s3 nB eB;refine zaI (s3.obj xB) C.Desk.cl C.Desk.n_taken_back (by show 2<1000;decide) ?_
 generalize hC:upd H3 x (.ins C.Desk.addr dx (yL "taken_back" (.ref B) [("tables",.ref T),("done",.ref L)]))=HC;have xC:HC x=some (.ins C.Desk.addr dx [("tables",.ref T),("done",.ref L),("taken_back",.ref B)]):=by rw [<-hC];exact zi
 have kC:∀q o,q≠x->H3 q=some o->HC q=some o:=fun q o n e=>by rw [<-hC,zg n];exact e
 have nBx:B≠x:=fun e=>by rw [e,xB] at nB;cases nB
 have all:∀q o,H q=some o->q≠x->HC q=some o:=fun q o e n=>kC q o n (s3.obj (kB q o n (s2.obj (kA q o n (s1.obj e)))))
 have nO:∀q,HA q=none->H q=none:=fun q z=>by
  cases e:H q with
  | none=>rfl
  | some o=>
   by_cases n:q=x
   ·rw [n,xA] at z;cases z
   ·rw [kA q o n (s1.obj e)] at z;cases z
 have nO2:∀q,HB q=none->H q=none:=fun q z=>by
  cases e:H q with
  | none=>rfl
  | some o=>
   by_cases n:q=x
   ·rw [n,xB] at z;cases z
   ·rw [kB q o n (s2.obj (kA q o n (s1.obj e)))] at z;cases z
 refine q T L B HC all nT (nO L nL) (nO2 B nB) ⟨⟨dx,xC⟩,⟨[],kC T _ (nx T nT) (s3.obj TB),List.nodup_nil,fun k hk=>(List.not_mem_nil hk).elim,fun n x h=>(by cases h),fun n _=>rfl⟩,⟨[],kC L _ nLx (s3.obj LB),rfl,fun i x d h=>by simp at h⟩,⟨[],kC B _ nBx eB,rfl,fun i x d h=>by simp at h⟩,fun e=>?_⟩
 rw [<-e,LB] at nB;cases nB
def yx (f:Str->Option Tb) (fs ps:List Str) (n:Str):Prop:=∃i:Nat,fs[i]? =some s!"a8"/\ps[i]? =some n/\f n=none/\∀j:Nat,j<i->∀m:Str,fs[j]? =some s!"a8"->ps[j]? =some m->f m≠none
def xT (f:Str->Option Tb) (fs ps:List Str):Prop:=∀(j:Nat) (m:Str),fs[j]? =some s!"a8"->ps[j]? =some m->f m≠none
def zeY (K:PySem.W.Frag) (CD cN:Addr):Sp:=fun vs H Q E=>∃(a T L B fa l:Addr) (st:DSt) (fs ps:List Str),vs=[.ref a,.ref fa,.ref l]/\DeskAt CD H a T L B st/\(∀H,SqT K H fa s!"aK")/\SqL K H l (ps.map V.str)/\fs.length<=ps.length/\(∀p∈ps,p.length<=1000)/\(xT st.f fs ps->∀H',Same H H'->Q .non H')/\∀n,yx st.f fs ps n->∀d H1,Same H H1->H1 d=none->E (.ref cN) (some d) (upd H1 d (.xd [("name",.str n)]))
theorem ziM {K:PySem.W.Frag} {CD cN a T L B fa l:Addr} {st:DSt} {fs ps:List Str} {H:Hp} {Q:VK} {E:XK} (D:DeskAt CD H a T L B st) (h1:∀H,SqT K H fa s!"aK") (h2:SqL K H l (ps.map V.str)) (h3:fs.length<=ps.length) (h4:∀p∈ps,p.length<=1000) (h5:xT st.f fs ps->∀H',Same H H'->Q .non H') (h6:∀n,yx st.f fs ps n->∀d H1,Same H H1->H1 d=none->E (.ref cN) (some d) (upd H1 d (.xd [("name",.str n)]))):zeY K CD cN [.ref a,.ref fa,.ref l] H Q E:=⟨a,T,L,B,fa,l,st,fs,ps,rfl,D,h1,h2,h3,h4,h5,h6⟩
theorem zau (C:Cls K mg base) (F:SrcM K "need_known" "Desk.need_known" yl C.Desk.f_need_known ["self","form","pieces"]) (B:Blt mg) (R:Rel K mg base C) (Kc:Cst K mg) (D_NoName:(DefI P w K mg base (CXE P w) 1 C.NoName.f ["self","name"] (zft C.NoName.addr "name" zkJ))):DefM P w K mg base (CXE P w) 3 C.Desk.f_need_known ["self","form","pieces"] (zeY K C.Desk.addr C.NoName.addr):=by
 refine F.okX (CX:=CXE P w) (k:=2) y8 s!"s" s!"u"
 ·obtain ⟨_,_,_,_,_,_,_,_,_,rfl,_⟩:=h;rfl
 have nd:=y8.nd;obtain ⟨a,T,L,Bk,fa,l,st,fs,ps,rfl,D,hfa,hl,hlen,hp,q1,q0⟩:=h;obtain ⟨dx,ei⟩:=D.ins;obtain ⟨kvs,ek,kv⟩:=D.dict;have dc:=C.Desk.cl;have dt:=C.Desk.n_tables;have l1:s!"aK".length=fs.length:=List.length_map _;have l2:(ps.map V.str).length=ps.length:=List.length_map _;refine ⟨_,s!"f{@ps_for _ _ _ _ _ _ _ _ PassesOwn.leaving rfl (@zhp _ _ _ _ _ _ _ _ _ rfl B.zip s!"a7" (by rfl) (by rfl)) (@zf1 _ _ _ _ _ _ rfl s!"aB{s!"-{3}{nd}"}{s!"aB{s!"-{4}{nd}"}{zb3}"}" (by rfl) (by rfl)) s!"f{s!"w{@PW.pt _ _ _ (@zop _ _ _ _ _ _ _ s!"K{op_eqA hr.units0}{pv 3}{pe_str}" (@zlr _ _ _ _ (@zoo _ _ _ _ _ _ (@zid _ _ _ _ _ hr.units2 (pv 4) (@zS _ _ _ _ _ (pv 0) rfl)) (by first | exact zfg _ s!"c" s!"c" | rfl))))}{s!"f{@zil _ _ _ _ _ _ _ _ _ _ _ _ _ _ _ D_NoName C.NoName.own C.NoName.gl (hr.mono s!"c") rfl rfl xmade_cx s!"aj" s!"c" (by rfl) (by rfl)}"}"}" (by intro _;rfl)}",?_⟩
 walk_at "ds";refine zh [some s!"g",some s!"1",some s!"H",none,none] rfl ?_;walk_at "rd";refine zfC (hfa _) hl ?_;refine zkL (xs:=fs.map V.str) (ys:=ps.map V.str) (fun i σ H'=>Same H H'/\(∃z1 z2:Option V,σ=[some s!"g",some s!"1",some s!"H",z1,z2])/\∀j,j<i->∀m,fs[j]? =some s!"a8"->ps[j]? =some m->st.f m≠none) ⟨Same.refl _,⟨_,_,rfl⟩,fun j hj=>by omega⟩ (fun i σ H' h=>⟨hfa _,h.1.seq hl⟩) s!"e" ?_ ?_
 ·rintro i x y σ H1 hx hy ⟨s1,⟨z1,z2,rfl⟩,hb⟩ t nt;rw [List.getElem?_map] at hx hy;obtain ⟨k,hk,rfl⟩:=Option.map_eq_some_iff.mp hx;obtain ⟨p,hpp,rfl⟩:=Option.map_eq_some_iff.mp hy;have s2:Same H (upd H1 t (.tup [.str k,.str p])):=s1.trans (Same.new nt _);have e2:upd H1 t (.tup [.str k,.str p]) t=some (.tup [.str k,.str p]):=zi;generalize upd H1 t (.tup [.str k,.str p])=H2 at*;have ei2:=s2.obj ei;have ek2:=s2.obj ek;walk_at "rd";have fin:∀P:Prop,(k=Str.ofString "KNOWN"->st.f p≠none)->(∀j,j<i+1->∀m,fs[j]? =some s!"a8"->ps[j]? =some m->st.f m≠none):=fun P h j hj m h1 h2=>by
   rcases Nat.lt_or_ge j i with z | z
   ·exact hb j z m h1 h2
   ·have e:j=i:=by omega
    rw [e,hk] at h1;rw [e,hpp] at h2;cases h2;exact h s!"7"
  walk_at "ite"
  ·rename_i c;walk_at "rd";cases hv:st.f p with
   | none=>
    rw [show (zO kvs (Sum.inr p)).isSome=false by rw [kv.no p hv];rfl]
    walk_at "rd";exact zgm (show zkJ (.str p) from ⟨p,rfl,hp p s!"4{hpp}"⟩) fun d hd=>q0 p ⟨i,by rw [hk,c],hpp,hv,hb⟩ d H2 s2 hd
   | some x=>
    obtain ⟨tt,hvv,_⟩:=kv.vals p x hv;rw [show (zO kvs (Sum.inr p)).isSome=true by rw [hvv];rfl]
    walk_at "rd";exact ⟨s2,⟨_,_,rfl⟩,fin True fun _=>by rw [hv];simp⟩
  ·rename_i c;walk_at "rd";exact ⟨s2,⟨_,_,rfl⟩,fin True fun z=>absurd z c⟩
 ·rintro σ H1 ⟨s1,⟨z1,z2,rfl⟩,hb⟩;walk_at "rd";refine q1 (fun j m h1 h2=>hb j ?_ m h1 h2) H1 s1
  have:=s!"Z{h1}".1;omega
theorem xa.kw {H:Hp} {v:V} {ws:List (Bool×Int)} (g:xa H v ws):KW H v:=by
 obtain ⟨D,rfl,⟨as,e,l,T⟩,_,_,hl⟩:=g;refine .inr (.inr ⟨D,_,rfl,e,by rw [List.length_map,l];exact hl,fun x hx=>?_⟩)
 obtain ⟨u,hu,rfl⟩:=List.mem_map.mp hx;obtain ⟨i,hi⟩:=List.getElem?_of_mem hu;obtain ⟨p,hp⟩:∃p,ws[i]? =some p:=⟨_,List.getElem?_eq_getElem (by have:=s!"Z{hi}".1;omega)⟩
 refine .inr (.inr ⟨u,_,rfl,T i u p hi hp,fun _ y hy=>?_⟩)
 simp only [List.mem_cons,List.not_mem_nil,or_false] at hy;rcases hy with rfl | rfl <;> rfl
def zav (y z:Tb):Tb:=(y.1*z.1+y.2.1*z.2.2.1,y.1*z.2.1+y.2.1*z.2.2.2,y.2.2.1*z.1+y.2.2.2*z.2.2.1,y.2.2.1*z.2.1+y.2.2.2*z.2.2.2)
def za6 (y:Tb):Tb:=(y.2.2.2,-y.2.1,-y.2.2.1,y.1)
def zcQ (x:Tb):Int:=x.1*x.2.2.2-x.2.1*x.2.2.1
def ziN (f:Str->Option Tb) (ps:List Str) (x:Tb):Prop:=
 (ps[0]? =some s!"ac"/\zas (wU ps) x.1 x.2.1 x.2.2.1 x.2.2.2)\/
 (ps[0]? =some s!"B{"word"}"/\∃ws,RW (wU ps) ws/\Big ws/\x=Mth.fw ws)\/
 (ps[0]? =some s!"B{"let"}"/\ps[2]? =some s!"B{"together"}"/\∃n m y z,ps[3]? =some n/\ps[4]? =some m/\f n=some y/\f m=some z/\x=zav y z)\/
 (ps[0]? =some s!"B{"let"}"/\ps[2]? =some s!"B{"back"}"/\∃n y,ps[3]? =some n/\f n=some y/\x=za6 y)
theorem RW.uniq {t:Str} {ws us:List (Bool×Int)} (h1:RW t ws) (h2:RW t us):ws=us:=by
 rcases h1 with ⟨e,rfl⟩ | ⟨n1,r1,_⟩
 ·rcases h2 with ⟨_,rfl⟩ | ⟨n2,_⟩
  ·rfl
  ·exact absurd e n2
 ·rcases h2 with ⟨e,_⟩ | ⟨_,r2,_⟩
  ·exact absurd e n1
  ·have l1:=r1.1;have l2:=r2.1;apply List.ext_getElem?;intro i
   by_cases hi:i<ws.length
   ·obtain ⟨p,hp⟩:∃p,ws[i]? =some p:=⟨_,List.getElem?_eq_getElem hi⟩;obtain ⟨q,hq⟩:∃q,us[i]? =some q:=⟨_,List.getElem?_eq_getElem s!"e"⟩
    obtain ⟨a1,n,a2,_,a3,_⟩:=r1.2 i p hp;obtain ⟨b1,m,b2,_,b3,_⟩:=r2.2 i q hq;rw [a1] at b1;rw [a2] at b2;cases b2;rw [hp,hq];obtain ⟨x,y⟩:=p;obtain ⟨x',y'⟩:=q;have ex:ltr x=ltr x':=Option.some.inj b1;have e:x=x':=by cases x <;> cases x' <;> first | rfl | exact absurd ex s!"c"
    have e2:y=y':=a3.symm.trans b3;rw [e,e2]
   ·rw [List.getElem?_eq_none s!"e",List.getElem?_eq_none s!"e"]
theorem zas.uniq {t:Str} {a b c d a' b' c' d':Int} (h1:zas t a b c d) (h2:zas t a' b' c' d'):a=a'/\b=b'/\c=c'/\d=d':=by
 have e:=h1.2;rw [h2.2] at e;cases e;exact ⟨rfl,rfl,rfl,rfl⟩
theorem xa.uniq {H:Hp} {v:V} {ws us:List (Bool×Int)} (h1:xa H v ws) (h2:xa H v us):ws=us:=by
 obtain ⟨D,rfl,W,_⟩:=h1;obtain ⟨D',e,U,_⟩:=h2;cases e;exact WordL.uniq W U
def zla (K:PySem.W.Frag) (CD cT cM:Addr):Sp:=fun vs H Q E=>∃(a T L B l:Addr) (st:DSt) (ps:List Str) (x:Tb),vs=[.ref a,.ref l]/\DeskAt CD H a T L B st/\SqL K H l (ps.map V.str)/\xx ps/\Tx (wU ps)/\(∀n y,st.f n=some y->yn y)/\ziN st.f ps x/\(ps[0]? =some s!"ac"->zcQ x≠1->∀H',Same H H'->E (.ref cT) none H')/\(ps[0]?≠some s!"ac"->¬yJ x->∀H',Same H H'->E (.ref cM) none H')/\(yn x->∀t H',Same H H'->wF H' t x->Q s!"E" H')
theorem znl {K:PySem.W.Frag} {CD cT cM a T L B l:Addr} {st:DSt} {ps:List Str} {x:Tb} {H:Hp} {Q:VK} {E:XK} (D:DeskAt CD H a T L B st) (h1:SqL K H l (ps.map V.str)) (h2:xx ps) (h3:Tx (wU ps)) (h4:∀n y,st.f n=some y->yn y) (h5:ziN st.f ps x) (h6:ps[0]? =some s!"ac"->zcQ x≠1->∀H',Same H H'->E (.ref cT) none H') (h7:ps[0]?≠some s!"ac"->¬yJ x->∀H',Same H H'->E (.ref cM) none H') (h8:yn x->∀t H',Same H H'->wF H' t x->Q s!"E" H'):zla K CD cT cM [.ref a,.ref l] H Q E:=⟨a,T,L,B,l,st,ps,x,rfl,D,h1,h2,h3,h4,h5,h6,h7,h8⟩
theorem ziO {H H':Hp} {t:Addr} {x:Tb} (h:wF H t x) (s:Same H H'):wF H' t x:=h.move fun q xs e=>s.obj e
theorem znm {y z:Tb} (hy:zcQ y=1) (hz:zcQ z=1):zcQ (zav y z)=1:=by
 obtain ⟨a,b,c,d⟩:=y;obtain ⟨e,f,g,h⟩:=z;unfold zcQ at*;unfold zav;dsimp only at*;grind
theorem za7 (C:Cls K mg base) (F:SrcM K "new_table" "Desk.new_table" yr C.Desk.f_new_table ["self","pieces"]) (B:Blt mg) (R:Rel K mg base C) (Kc:Cst K mg) (D_read_table:s!"m{5}{"read_table"}{["text"]}{zk4 C.NoText.addr C.NoTable.addr}") (D_table_of:s!"m{5}{"table_of"}{["word"]}{zk3 C.NoWord.addr}") (D_word_behind:s!"m{5}{"word_behind"}{["pieces"]}{zhA K C.NoLine.addr}") (D_together:s!"m{5}{"together"}{["one","other"]}{zpy}") (D_back_of:s!"m{5}{"back_of"}{["table"]}{zpA}") (D_need_short_places:s!"m{2}{"need_short_places"}{["table"]}{zeU C.TooMany.addr}"):DefM P w K mg base (CXE P w) 6 C.Desk.f_new_table ["self","pieces"] (zla K C.Desk.addr C.NoTable.addr C.TooMany.addr):=by
 refine F.okX (CX:=CXE P w) (k:=5) xf s!"s" s!"u"
 ·obtain ⟨_,_,_,_,_,_,_,_,rfl,_⟩:=h;rfl
 have nd:=xf.nd;obtain ⟨a,T,L,Bk,l,st,ps,x,rfl,D,hl,ok,tx,gd,md,qT,qM,q⟩:=h;obtain ⟨dx,ei⟩:=D.ins;obtain ⟨kvs,ek,kv⟩:=D.dict;have dc:=C.Desk.cl;have dt:=C.Desk.n_tables;have ok1:=ok.1;have lm:(ps.map V.str).length=ps.length:=List.length_map _;have at0:∀{i:Nat} {w:Str},ps[i]? =some w->atI (ps.map V.str) (i:Int)=some (.str w):=fun h=>wH (by rw [List.getElem?_map,h];rfl)
 refine ⟨_,s!"d{s!"w{s!"K{op_eqA hr.units0}{s!"J"}{pe_str}"}{s!"f{s!"t{s!"l{D_read_table}{xpass_cx}{s!"a{s!"aX{PySem.F.slot_str_join}{PySem.F.type_str_join}{zb8}{pe_str}{s!"a{s!"aY{zjj}{pv 1}{@po_some _ _ _ pe_int}{po_none}"}{pa_nil}"}"}{pa_nil}"}"}"}"}"}{@xn _ _ _ _ _ s!"bP{s!"f{s!"i{2}{s!"l{D_table_of}{xpass_cx}{s!"a{s!"l{D_word_behind}{xpass_cx}{s!"Y"}"}{pa_nil}"}"}"}"}{s!"f{s!"bP{s!"f{s!"i{2}{s!"l{D_together}{xpass_cx}{s!"a{@zb7 _ _ _ _ _ _ hr.units2 (@zS _ _ _ _ _ (pv 0) rfl) s!"J" (fun _ _=>rfl)}{s!"a{@zb7 _ _ _ _ _ _ hr.units2 (@zS _ _ _ _ _ (pv 0) rfl) s!"J" (fun _ _=>rfl)}{pa_nil}"}"}"}"}"}{s!"f{s!"i{2}{s!"l{D_back_of}{xpass_cx}{s!"a{@zb7 _ _ _ _ _ _ hr.units2 (@zS _ _ _ _ _ (pv 0) rfl) s!"J" (fun _ _=>rfl)}{pa_nil}"}"}"}"}"}"}" s!"d{s!"z{s!"l{D_need_short_places}{xpass_cx}{s!"|"}"}"}{s!"bq"}"}",?_⟩
 walk_at "ds";refine zh [some s!"g",some s!"H",none] rfl ?_;walk_at "rd";rcases md with ⟨h0,F⟩ | md
 ·refine zgd.Qn hl (at0 (i:=0) h0) ?_;walk_at "rd";walk_at "ite"
  rotate_left
  ·rename_i c;exact absurd rfl c
  walk_at "rd";rename_i D1 H1 s1 n1 e1;rw [zd4] at e1;refine zaD (ps.drop 2) s!">" (zca (k:=10000) s!"b" (by rw [List.length_drop];omega) (fun w hw=>(ok.2 w (List.mem_of_mem_drop hw)).2) (Nat.le_refl _)) ?_
  walk_at "rd";refine znh tx (fun a' b' c' d' F' det D2 H2 s2 T2=>?_) (fun a' b' c' d' F' det H2 s2=>?_) (fun n=>absurd F (n _ _ _ _))
  ·obtain ⟨rfl,rfl,rfl,rfl⟩:=F.uniq F';exact q ⟨det,F.lt⟩ D2 H2 (s1.trans s2) T2
  ·obtain ⟨rfl,rfl,rfl,rfl⟩:=F.uniq F';exact qT h0 det H2 (s1.trans s2)
 have n0:ps[0]?≠some s!"ac":=by
  rcases md with ⟨h,_⟩ | ⟨h,_⟩ | ⟨h,_⟩ <;> (rw [h];decide+kernel)
 obtain ⟨w0,h0⟩:∃w,ps[0]? =some w:=by
  rcases md with ⟨h,_⟩ | ⟨h,_⟩ | ⟨h,_⟩ <;> exact ⟨_,h⟩
 have nw:¬w0=Str.ofString "table":=fun z=>n0 (by rw [h0,z])
 refine zgd.Qn hl (at0 (i:=0) h0) ?_;walk_at "rd";walk_at "ite"
 ·rename_i c;exact absurd c nw
 walk_at "rd";refine zA (fun σ H'=>Same H H'/\zcQ x=1/\∃t,σ=[some s!"g",some s!"H",some s!"E"]/\wF H' t x) ?_ ?_
 ·walk_at "rd";refine zgd.Qn hl (at0 (i:=0) h0) ?_;walk_at "rd";rcases md with ⟨h,ws,r,big,rfl⟩ | ⟨h,h2,n,m,y,z,h3,h4,hy,hz,rfl⟩ | ⟨h,h2,n,y,h3,hy,rfl⟩
  ·rw [h0] at h;cases h;walk_at "ite"
   rotate_left
   ·rename_i c;exact absurd rfl c
   walk_at "rd";refine zhB hl ok tx (fun ws' r' lw D1 H1 s1 n1 g=>?_) (fun n=>absurd r (n ws))
   obtain rfl:=r.uniq r';walk_at "rd";refine zng g.kw (fun us g'=>?_) (fun z=>absurd ⟨ws,g⟩ z)
   obtain rfl:=g.uniq g';refine ⟨big,fun t H2 s2 T2=>?_⟩
   walk_at "rd";exact ⟨s1.trans s2,Mth.zpr ws,t,rfl,T2⟩
  ·rw [h0] at h;cases h;walk_at "ite"
   ·rename_i c;exact absurd c s!"b"
   walk_at "rd";refine zgd.Qn hl (at0 (i:=2) h2) ?_;walk_at "rd";walk_at "ite"
   rotate_left
   ·rename_i c;exact absurd rfl c
   obtain ⟨t1,v1,X1⟩:=kv.vals n y hy;obtain ⟨t2,v2,X2⟩:=kv.vals m z hz;walk_at "rd";refine zgd.Qn hl (at0 (i:=3) h3) ?_;refine wL ek v1 ?_;walk_at "rd";refine zgd.Qn hl (at0 (i:=4) h4) ?_;refine wL ek v2 ?_;walk_at "rd";obtain ⟨d1,b1,b2,b3,b4⟩:=gd n y hy;obtain ⟨d2,b5,b6,b7,b8⟩:=gd m z hz;refine zpz X1 X2 d1 d2 ⟨yK b1,yK b2,yK b3,yK b4⟩ ⟨yK b5,yK b6,yK b7,yK b8⟩ fun t H2 s2 T2=>?_
   walk_at "rd";exact ⟨s2,znm d1 d2,t,rfl,T2⟩
  ·rw [h0] at h;cases h;walk_at "ite"
   ·rename_i c;exact absurd c s!"b"
   walk_at "rd";refine zgd.Qn hl (at0 (i:=2) h2) ?_;walk_at "rd";walk_at "ite"
   ·rename_i c;exact absurd c s!"b"
   obtain ⟨t1,v1,X1⟩:=kv.vals n y hy;walk_at "rd";refine zgd.Qn hl (at0 (i:=3) h3) ?_;refine wL ek v1 ?_;walk_at "rd";obtain ⟨d1,b1,b2,b3,b4⟩:=gd n y hy;refine zpB X1 d1 (yK b1) (yK b2) (yK b3) (yK b4) fun t H2 s2 T2=>?_
   walk_at "rd";refine ⟨s2,?_,t,rfl,T2⟩;unfold zcQ za6;dsimp only;rw [<-d1];grind
 rintro σ H1 ⟨s1,det,t,rfl,X⟩;walk_at "rd";refine ziJ X (fun sh H2 s2=>?_) (fun ns H2 s2=>qM n0 ns H2 (s1.trans s2))
 walk_at "rd";exact q ⟨det,sh⟩ t H2 (s1.trans s2) (ziO X s2)
def Few (f:Str->Option Tb):Prop:=∀ns:List Str,ns.Nodup->(∀n∈ns,f n≠none)->ns.length<=62
def zcR (CD:Addr):Sp:=fun vs H Q _=>∃(a T L B:Addr) (st:DSt) (n:Str) (v:V) (o:Option Tb),vs=[.ref a,.str n,v]/\DeskAt CD H a T L B st/\za5 H v o/\(o=none->st.f n≠none)/\Few st.f/\∀H',(∀q o,q≠T->H q=some o->H' q=some o)->DeskAt CD H' a T L B ⟨zr st.f n o,st.dn,st.bk⟩->Q .non H'
theorem zcS {CD a T L B:Addr} {st:DSt} {n:Str} {v:V} {H:Hp} {Q:VK} {E:XK} (o:Option Tb) (D:DeskAt CD H a T L B st) (h1:za5 H v o) (h2:o=none->st.f n≠none) (h3:Few st.f) (h:∀H',(∀q o,q≠T->H q=some o->H' q=some o)->DeskAt CD H' a T L B ⟨zr st.f n o,st.dn,st.bk⟩->Q .non H'):zcR CD [.ref a,.str n,v] H Q E:=⟨a,T,L,B,st,n,v,o,rfl,D,h1,h2,h3,h⟩
theorem DeskAt.put {CD a T L B:Addr} {st:DSt} {H:Hp} {kvs:List (Key×V)} {f:Str->Option Tb} (D:DeskAt CD H a T L B st) (k:KvOk H kvs f):DeskAt CD (upd H T (.dK kvs)) a T L B ⟨f,st.dn,st.bk⟩:=by
 obtain ⟨⟨dx,i⟩,⟨kv0,e0,_⟩,⟨ds,e1,d1⟩,⟨bs,e2,d2⟩,ne⟩:=D;have m:∀q xs,H q=some (.tup xs)->upd H T (.dK kvs) q=some (.tup xs):=fun q xs h=>by
  rw [zg (fun z=>by rw [z,e0] at h;cases h)]
  exact h
 refine ⟨⟨dx,by rw [zg (fun z=>by rw [z,e0] at i;cases i)];exact i⟩,⟨kvs,zi,k.move fun t x h=>h.move m⟩,⟨ds,by rw [zg (fun z=>by rw [z,e0] at e1;cases e1)];exact e1,d1.move m⟩,⟨bs,by rw [zg (fun z=>by rw [z,e0] at e2;cases e2)];exact e2,d2.move m⟩,ne⟩
theorem zeZ (C:Cls K mg base) (F:SrcM K "keep" "Desk.keep" wv C.Desk.f_keep ["self","name","table"]) (B:Blt mg) (R:Rel K mg base C) (Kc:Cst K mg):DefM P w K mg base (CXE P w) 1 C.Desk.f_keep ["self","name","table"] (zcR C.Desk.addr):=by
 refine F.ok (CX:=CXE P w) (k:=0) zaU s!"s" s!"u"
 ·obtain ⟨_,_,_,_,_,_,_,_,rfl,_⟩:=h;rfl
 have nd:=zaU.nd;obtain ⟨a,T,L,Bk,st,n,v,o,rfl,D,hv,ho,few,q⟩:=h;obtain ⟨dx,ei⟩:=D.ins;obtain ⟨kvs,ek,kv⟩:=D.dict;have dc:=C.Desk.cl;have dt:=C.Desk.n_tables;have kl:kvs.length<sizeLine:=by
  obtain ⟨ns,e,nd,mem⟩:=kv.names;have h1:=few ns nd fun n hn=>(mem n).mp hn
  have h2:=congrArg List.length e;rw [List.length_map,List.length_map] at h2;exact zz s!"e"
 refine ⟨_,s!"f{@ps_if _ _ _ _ _ _ _ _ s!"K{zmv}{pv 2}{pe_non}" s!"f{s!"z{@zj2 _ _ _ _ _ _ _ (@zS _ _ _ _ _ (pv 0) rfl) (pv 1) ⟨rfl,rfl,rfl,rfl⟩}"}" s!"f{@zmF _ _ _ _ _ _ _ _ _ hr.units2 (@zS _ _ _ _ _ (pv 0) rfl) (pv 1) (pv 2) rfl}"}",?_⟩
 walk_at "ds";refine zh [some s!"g",some (.str n),some v] rfl ?_;cases o with
 | none=>
  obtain rfl:v=.non:=hv;walk_at "rd";obtain ⟨x,hx⟩:∃x,st.f n=some x:=Option.ne_none_iff_exists'.mp (ho rfl);obtain ⟨t,hv,_⟩:=kv.vals n x hx;refine ziA ek hv ?_;walk_at "rd";exact q _ (fun q o n e=>by rw [zg n];exact e) (D.put kv.drop)
 | some x=>
  obtain ⟨t,rfl,TX⟩:=hv;walk_at "rd";refine zix ek kl ?_;walk_at "rd";exact q _ (fun q o n e=>by rw [zg n];exact e) (D.put (kv.put TX))
theorem DeskAt.same {CD a T L B:Addr} {st:DSt} {H H':Hp} (D:DeskAt CD H a T L B st) (s:Same H H'):DeskAt CD H' a T L B st:=by
 obtain ⟨⟨dx,i⟩,⟨kvs,e0,k⟩,⟨ds,e1,d1⟩,⟨bs,e2,d2⟩,ne⟩:=D;have m:∀q xs,H q=some (.tup xs)->H' q=some (.tup xs):=fun q xs h=>s.obj h
 exact ⟨⟨dx,s.obj i⟩,⟨kvs,s.obj e0,k.move fun t x h=>h.move m⟩,⟨ds,s.obj e1,d1.move m⟩,⟨bs,s.obj e2,d2.move m⟩,ne⟩
theorem DeskAt.setL {CD a T L B:Addr} {st:DSt} {H:Hp} (D:DeskAt CD H a T L B st) {ds:List Addr} {dn:List ym} (h:zM H ds dn):DeskAt CD (upd H L (.lst (ds.map V.ref))) a T L B ⟨st.f,dn,st.bk⟩:=by
 obtain ⟨⟨dx,i⟩,⟨kvs,e0,k⟩,⟨ds0,e1,d1⟩,⟨bs,e2,d2⟩,ne⟩:=D;have m:∀q xs,H q=some (.tup xs)->upd H L (.lst (ds.map V.ref)) q=some (.tup xs):=fun q xs h=>by
  rw [zg (fun z=>by rw [z,e1] at h;cases h)]
  exact h
 exact ⟨⟨dx,by rw [zg (fun z=>by rw [z,e1] at i;cases i)];exact i⟩,⟨kvs,by rw [zg (fun z=>by rw [z,e1] at e0;cases e0)];exact e0,k.move fun t x h=>h.move m⟩,⟨ds,zi,h.move m⟩,⟨bs,by rw [zg (fun z=>ne z.symm)];exact e2,d2.move m⟩,ne⟩
theorem DeskAt.setB {CD a T L B:Addr} {st:DSt} {H:Hp} (D:DeskAt CD H a T L B st) {bs:List Addr} {bk:List ym} (h:zM H bs bk):DeskAt CD (upd H B (.lst (bs.map V.ref))) a T L B ⟨st.f,st.dn,bk⟩:=by
 obtain ⟨⟨dx,i⟩,⟨kvs,e0,k⟩,⟨ds,e1,d1⟩,⟨bs0,e2,d2⟩,ne⟩:=D;have m:∀q xs,H q=some (.tup xs)->upd H B (.lst (bs.map V.ref)) q=some (.tup xs):=fun q xs h=>by
  rw [zg (fun z=>by rw [z,e2] at h;cases h)]
  exact h
 exact ⟨⟨dx,by rw [zg (fun z=>by rw [z,e2] at i;cases i)];exact i⟩,⟨kvs,by rw [zg (fun z=>by rw [z,e2] at e0;cases e0)];exact e0,k.move fun t x h=>h.move m⟩,⟨ds,by rw [zg ne];exact e1,d1.move m⟩,⟨bs,zi,h.move m⟩,ne⟩
theorem zM.snoc {H:Hp} {ds:List Addr} {dn:List ym} {t:Addr} {d:ym} {v w:V} (h:zM H ds dn) (e:H t=some (.tup [.str d.1,v,w])) (h1:za5 H v d.2.1) (h2:za5 H w d.2.2):zM H (ds++[t]) (dn++[d]):=by
 refine ⟨by simp [h.1],fun i x d' hx hd=>?_⟩
 rcases Nat.lt_or_ge i ds.length with z | z
 ·rw [List.getElem?_append_left z] at hx;rw [List.getElem?_append_left (by rw [<-h.1];exact z)] at hd
  exact h.2 i x d' hx hd
 ·have hi:=s!"Z{hx}".1;rw [List.length_append] at hi;simp only [List.length_cons,List.length_nil] at hi;rw [List.getElem?_append_right z,show i-ds.length=0 by omega] at hx
  rw [List.getElem?_append_right (by rw [<-h.1];exact z),show i-dn.length=0 by rw [<-h.1];omega] at hd
  cases hx;cases hd;exact ⟨v,w,e,h1,h2⟩
def zV (a T L B:Addr) (H H':Hp):Prop:=∀q o,H q=some o->q≠a->q≠T->q≠L->q≠B->H' q=some o
def zgF (CD:Addr):Sp:=fun vs H Q _=>∃(a T L B:Addr) (st:DSt) (n:Str) (v:V) (o:Option Tb),vs=[.ref a,.str n,v]/\DeskAt CD H a T L B st/\za5 H v o/\(o=none->st.f n≠none)/\Few st.f/\st.dn.length<=900/\∀B' H',zV a T L B H H'->H B'=none->DeskAt CD H' a T L B' ⟨zr st.f n o,st.dn++[(n,st.f n,o)],[]⟩->(∀q xs,H q=some (.tup xs)->H' q=some (.tup xs))->Q .non H'
theorem zfS {CD a T L B:Addr} {st:DSt} {n:Str} {v:V} {H:Hp} {Q:VK} {E:XK} (o:Option Tb) (D:DeskAt CD H a T L B st) (h1:za5 H v o) (h2:o=none->st.f n≠none) (h3:Few st.f) (h4:st.dn.length<=900) (h:∀B' H',zV a T L B H H'->H B'=none->DeskAt CD H' a T L B' ⟨zr st.f n o,st.dn++[(n,st.f n,o)],[]⟩->(∀q xs,H q=some (.tup xs)->H' q=some (.tup xs))->Q .non H'):zgF CD [.ref a,.str n,v] H Q E:=⟨a,T,L,B,st,n,v,o,rfl,D,h1,h2,h3,h4,h⟩
theorem zb2 (C:Cls K mg base) (F:SrcM K "do_deed" "Desk.do_deed" y9 C.Desk.f_do_deed ["self","name","table"]) (B:Blt mg) (R:Rel K mg base C) (Kc:Cst K mg) (D_Desk_keep:s!"aa{1}{C.Desk.f_keep}{["self","name","table"]}{zcR C.Desk.addr}"):DefM P w K mg base (CXE P w) 2 C.Desk.f_do_deed ["self","name","table"] (zgF C.Desk.addr):=by
 refine F.ok (CX:=CXE P w) (k:=1) xS s!"s" s!"u"
 ·obtain ⟨_,_,_,_,_,_,_,_,rfl,_⟩:=h;rfl
 have nd:=xS.nd;obtain ⟨a,T,L,Bk,st,n,v,o,rfl,D,hv,ho,few,dl,q⟩:=h;obtain ⟨dx,ei⟩:=D.ins;obtain ⟨kvs,ek,kv⟩:=D.dict;obtain ⟨ds,eL,dL⟩:=D.done;obtain ⟨bs,eB,dB⟩:=D.back;have dc:=C.Desk.cl;have dt:=C.Desk.n_tables;have dd:=C.Desk.n_done;have db:=C.Desk.n_taken_back;refine ⟨_,s!"d{s!"z{s!"an{@zS _ _ _ _ _ (pv 0) rfl}{s!"a{s!"h{s!"a{pv 1}{s!"a{@zj1 _ _ _ _ _ _ _ hr.units2 (@zS _ _ _ _ _ (pv 0) rfl) (pv 1) ⟨rfl,rfl,rfl,rfl⟩}{s!"|"}"}"}"}{pa_nil}"}"}"}{s!"d{@zeh _ _ _ _ _ _ _ _ (pv 0) s!"x{pa_nil}" rfl}{s!"f{s!"z{s!"aA{D_Desk_keep}{C.Desk.m_keep}{xpass_nox}{s!"a7"}"}"}"}"}",?_⟩
 walk_at "ds";refine zh [some s!"g",some (.str n),some v] rfl ?_;walk_at "rd";refine ⟨_,wT.k (k:=Sum.inr n) ek,?_⟩;walk_at "rd";rename_i t H1 s1 nt et;have hw:za5 H ((zO kvs (.inr n)).getD .non) (st.f n):=by
  cases hf:st.f n with
  | none=>
   rw [kv.no n hf];rfl
  | some x=>
   obtain ⟨tt,e,TX⟩:=kv.vals n x hf;rw [e];exact ⟨tt,rfl,TX⟩
 have m1:∀q xs,H q=some (.tup xs)->H1 q=some (.tup xs):=fun q xs h=>s1.obj h
 have D1:=D.same s1;refine xo (xs:=ds.map V.ref) (s1.obj eL) (by rw [List.length_map,dL.1];exact zz s!"e") ?_
 have d2:zM H1 (ds++[t]) (st.dn++[(n,st.f n,o)]):=(dL.move m1).snoc (d:=(n,st.f n,o)) et (hw.move m1) (hv.move m1);have D2:=D1.setL d2;have eL1:=s1.obj eL;have e2:(ds++[t]).map V.ref=ds.map V.ref++[.ref t]:=by rw [List.map_append];rfl
 rw [e2] at D2;have k2:∀q o,q≠L->H1 q=some o->upd H1 L (.lst (ds.map V.ref++[.ref t])) q=some o:=fun q o n e=>by rw [zg n];exact e
 generalize upd H1 L (.lst (ds.map V.ref++[.ref t]))=H2 at*;walk_at "rd";rename_i B' H3 s3 nB' eB';have D3:=D2.same s3;obtain ⟨dx3,ei3⟩:=D3.ins;refine zaI ei3 C.Desk.cl C.Desk.n_taken_back (by show 3<1000;decide) ?_
 obtain ⟨kvs3,ek3,kv3⟩:=D3.dict;obtain ⟨ds3,eL3,dL3⟩:=D3.done;have neB:B'≠a/\B'≠T/\B'≠L:=by
  obtain ⟨dx2,i2⟩:=D2.ins;obtain ⟨_,k2,_⟩:=D2.dict;obtain ⟨_,l2,_⟩:=D2.done;exact ⟨(fun e=>by rw [e,i2] at nB';cases nB'),(fun e=>by rw [e,k2] at nB';cases nB'),(fun e=>by rw [e,l2] at nB';cases nB')⟩
 have k4:∀q o,q≠a->H3 q=some o->upd H3 a (.ins C.Desk.addr dx3 (yL "taken_back" (.ref B') [("tables",.ref T),("done",.ref L),("taken_back",.ref Bk)])) q=some o:=fun q o n e=>by rw [zg n];exact e
 have a4:upd H3 a (.ins C.Desk.addr dx3 (yL "taken_back" (.ref B') [("tables",.ref T),("done",.ref L),("taken_back",.ref Bk)])) a=some (.ins C.Desk.addr dx3 [("tables",.ref T),("done",.ref L),("taken_back",.ref B')]):=zi;generalize upd H3 a (.ins C.Desk.addr dx3 (yL "taken_back" (.ref B') [("tables",.ref T),("done",.ref L),("taken_back",.ref Bk)]))=H4 at*;have m4:∀q xs,H3 q=some (.tup xs)->H4 q=some (.tup xs):=fun q xs h=>k4 q _ (fun z=>by rw [z,ei3] at h;cases h) h
 have D4:DeskAt C.Desk.addr H4 a T L B' ⟨st.f,st.dn++[(n,st.f n,o)],[]⟩:=⟨⟨dx3,a4⟩,⟨kvs3,k4 T _ (fun z=>by rw [z,ei3] at ek3;cases ek3) ek3,kv3.move fun t x h=>h.move m4⟩,⟨ds3,k4 L _ (fun z=>by rw [z,ei3] at eL3;cases eL3) eL3,dL3.move m4⟩,⟨[],k4 B' _ neB.1 eB',rfl,fun i x d h=>by simp at h⟩,Ne.symm neB.2.2⟩
 have mm:∀q xs,H q=some (.tup xs)->H4 q=some (.tup xs):=fun q xs h=>m4 q xs (s3.obj (k2 q _ (fun z=>by rw [z,eL] at h;cases h) (m1 q xs h)))
 walk_at "rd";refine zcS o D4 (hv.move mm) ho few fun H5 k5 D5=>?_
 walk_at "rd";refine q B' H5 (fun q o e n1 n2 n3 n4=>k5 q o n2 (k4 q o n1 (s3.obj (k2 q o n3 (s1.obj e))))) ?_ D5 (fun q xs h=>?_)
 ·cases z:H B' with
  | none=>rfl
  | some o'=>
   have:=k2 B' o' neB.2.2 (s1.obj z);rw [nB'] at this;cases this
 ·have h4:=mm q xs h;obtain ⟨kv4,e4,_⟩:=D4.dict;exact k5 q _ (fun z=>by rw [z,e4] at h4;cases h4) h4
theorem zM.split {H:Hp} {ds:List Addr} {dn0:List ym} {d:ym} (h:zM H ds (dn0++[d])):∃ds0 t v w,ds=ds0++[t]/\zM H ds0 dn0/\H t=some (.tup [.str d.1,v,w])/\za5 H v d.2.1/\za5 H w d.2.2:=by
 have hl:=h.1;rw [List.length_append] at hl;simp only [List.length_cons,List.length_nil] at hl;have ne:ds≠[]:=fun z=>by rw [z] at hl;simp at hl
 obtain ⟨ds0,t,e⟩:∃ds0 t,ds=ds0++[t]:=⟨ds.dropLast,ds.getLast ne,(List.dropLast_concat_getLast ne).symm⟩;subst e;rw [List.length_append] at hl;simp only [List.length_cons,List.length_nil] at hl;have l0:ds0.length=dn0.length:=by omega
 obtain ⟨v,w,e,h1,h2⟩:=h.2 ds0.length t d (by rw [List.getElem?_append_right (Nat.le_refl _)];simp) (by rw [l0,List.getElem?_append_right (Nat.le_refl _)];simp)
 refine ⟨ds0,t,v,w,rfl,⟨l0,fun i x d' hx hd=>?_⟩,e,h1,h2⟩
 have hi:=s!"Z{hx}".1;exact h.2 i x d' (by rw [List.getElem?_append_left hi];exact hx) (by rw [List.getElem?_append_left s!"e"];exact hd)
theorem zhD {H:Hp} {Q:VK} {l:Addr} {xs:List V} {y:V} (e:H l=some (.lst (xs++[y]))) (h:Q y (upd H l s!"P")):zqf s!"H" [] H Q:=⟨l,xs++[y],y,rfl,rfl,e,by simp,by simpa using h⟩
def zgG (CD cD:Addr):Sp:=fun vs H Q E=>∃(a T L B:Addr) (st:DSt),vs=[.ref a]/\DeskAt CD H a T L B st/\Few st.f/\st.bk.length<=900/\(st.dn=[]->∀H',Same H H'->E (.ref cD) none H')/\∀dn0 d,st.dn=dn0++[d]->(d.2.1=none->st.f d.1≠none)/\∀H',zV a T L B H H'->DeskAt CD H' a T L B ⟨zr st.f d.1 d.2.1,dn0,st.bk++[d]⟩->(∀q xs,H q=some (.tup xs)->H' q=some (.tup xs))->Q .non H'
theorem zlb {CD cD a T L B:Addr} {st:DSt} {H:Hp} {Q:VK} {E:XK} (D:DeskAt CD H a T L B st) (h3:Few st.f) (h4:st.bk.length<=900) (h1:st.dn=[]->∀H',Same H H'->E (.ref cD) none H') (h2:∀dn0 d,st.dn=dn0++[d]->(d.2.1=none->st.f d.1≠none)/\∀H',zV a T L B H H'->DeskAt CD H' a T L B ⟨zr st.f d.1 d.2.1,dn0,st.bk++[d]⟩->(∀q xs,H q=some (.tup xs)->H' q=some (.tup xs))->Q .non H'):zgG CD cD [.ref a] H Q E:=⟨a,T,L,B,st,rfl,D,h3,h4,h1,h2⟩
theorem ze0 (C:Cls K mg base) (F:SrcM K "undo" "Desk.undo" ww C.Desk.f_undo ["self"]) (B:Blt mg) (R:Rel K mg base C) (Kc:Cst K mg) (D_Desk_keep:s!"aa{1}{C.Desk.f_keep}{["self","name","table"]}{zcR C.Desk.addr}"):DefM P w K mg base (CXE P w) 2 C.Desk.f_undo ["self"] (zgG C.Desk.addr C.NoDeed.addr):=by
 refine F.okX (CX:=CXE P w) (k:=1) zaV s!"s" s!"u"
 ·obtain ⟨_,_,_,_,_,rfl,_⟩:=h;rfl
 have nd:=zaV.nd;obtain ⟨a,T,L,Bk,st,rfl,D,few,bl,q0,q1⟩:=h;obtain ⟨dx,ei⟩:=D.ins;obtain ⟨ds,eL,dL⟩:=D.done;have dc:=C.Desk.cl;have dt:=C.Desk.n_tables;have dd:=C.Desk.n_done;have db:=C.Desk.n_taken_back;refine ⟨_,s!"d{s!"w{s!"K{zjP hr.units3}{@zS _ _ _ _ _ (pv 0) rfl}{s!"x{pa_nil}"}"}{s!"f{s!"ao{(C.NoDeed).own}"}"}"}{s!"d{s!"i{1}{@zjd _ _ _ _ _ _ _ _ _ PySem.F.plainAttrs_list PySem.F.slot_list_pop PySem.F.type_list_pop zjf (@zS _ _ _ _ _ (pv 0) rfl) (by rfl) (by rfl)}"}{s!"d{s!"z{s!"an{@zS _ _ _ _ _ (pv 0) rfl}{s!"Y"}"}"}{s!"f{s!"z{s!"aA{D_Desk_keep}{C.Desk.m_keep}{xpass_cx}{s!"a{s!"J"}{s!"a{s!"J"}{pa_nil}"}"}"}"}"}"}"}",?_⟩
 walk_at "ds";refine zh [some s!"g",none] rfl ?_;walk_at "rd";rename_i l1 H1 s1 n1 e1
 by_cases hd:st.dn=[]
 ·obtain rfl:ds=[]:=List.length_eq_zero_iff.mp (by rw [dL.1,hd];rfl)
  refine zep (b:=true) ((Cmp.lst (d:=3) (fun _=>true) (SqL.of (s1.obj eL)) s!">" rfl (fun i x y h=>by simp at h)).to (zmB fun _ _=>rfl)) ?_
  walk_at "rd";exact q0 hd H1 s1
 have nds:ds≠[]:=fun z=>hd s!"a9{by rw [<-dL.1,z];rfl}"
 refine zep (b:=false) (Cmp.lens (d:=3) (SqL.of (s1.obj eL)) s!">" (by rw [List.length_map];exact fun z=>nds s!"a9{z}")) ?_
 walk_at "rd";obtain ⟨dn0,d,ed⟩:∃dn0 d,st.dn=dn0++[d]:=⟨st.dn.dropLast,st.dn.getLast hd,(List.dropLast_concat_getLast hd).symm⟩;obtain ⟨qn,q⟩:=q1 dn0 d ed;have D1:=D.same s1;obtain ⟨ds1,eL1,dL1⟩:=D1.done;rw [ed] at dL1;obtain ⟨ds0,t,v,w,eds,dk0,et,hv,hw⟩:=dL1.split;rw [eds,List.map_append] at eL1;refine zhD (y:=.ref t) eL1 ?_;have D2:=D1.setL dk0;have k2:∀q o,q≠L->H1 q=some o->upd H1 L s!"aV" q=some o:=fun q o n e=>by rw [zg n];exact e
 have m2:∀q xs,H1 q=some (.tup xs)->upd H1 L s!"aV" q=some (.tup xs):=fun q xs h=>k2 q _ (fun z=>by rw [z,eL1] at h;cases h) h
 have et2:=m2 t _ et;have hv2:=hv.move m2;have hw2:=hw.move m2;generalize upd H1 L s!"aV"=H2 at*;obtain ⟨dx2,ei2⟩:=D2.ins;obtain ⟨bs,eB2,dB2⟩:=D2.back;walk_at "rd";refine xo (xs:=bs.map V.ref) eB2 (by rw [List.length_map,dB2.1];exact zz (by show st.bk.length<=1000;omega)) ?_
 have d3:zM H2 (bs++[t]) (st.bk++[d]):=dB2.snoc (d:=d) et2 hv2 hw2;have D3:=D2.setB d3;have e3:(bs++[t]).map V.ref=bs.map V.ref++[.ref t]:=by rw [List.map_append];rfl
 rw [e3] at D3;have k3:∀q o,q≠Bk->H2 q=some o->upd H2 Bk (.lst (bs.map V.ref++[.ref t])) q=some o:=fun q o n e=>by rw [zg n];exact e
 have m3:∀q xs,H2 q=some (.tup xs)->upd H2 Bk (.lst (bs.map V.ref++[.ref t])) q=some (.tup xs):=fun q xs h=>k3 q _ (fun z=>by rw [z,eB2] at h;cases h) h
 have et3:=m3 t _ et2;have hv3:=hv2.move m3;have hw3:=hw2.move m3;generalize upd H2 Bk (.lst (bs.map V.ref++[.ref t]))=H3 at*;obtain ⟨dx3,ei3⟩:=D3.ins;walk_at "rd";refine zcS d.2.1 D3 hv3 qn few fun H4 k4 D4=>?_
 walk_at "rd";refine q H4 (fun q o e n1 n2 n3 n4=>k4 q o n2 (k3 q o n4 (k2 q o n3 (s1.obj e)))) D4 (fun q xs h=>?_)
 have h3:=m3 q xs (m2 q xs (s1.obj h));obtain ⟨kv4,e4,_⟩:=D3.dict;exact k4 q _ (fun z=>by rw [z,e4] at h3;cases h3) h3
def zgH (CD cD:Addr):Sp:=fun vs H Q E=>∃(a T L B:Addr) (st:DSt),vs=[.ref a]/\DeskAt CD H a T L B st/\Few st.f/\st.dn.length<=900/\(st.bk=[]->∀H',Same H H'->E (.ref cD) none H')/\∀bk0 d,st.bk=bk0++[d]->(d.2.2=none->st.f d.1≠none)/\∀H',zV a T L B H H'->DeskAt CD H' a T L B ⟨zr st.f d.1 d.2.2,st.dn++[d],bk0⟩->(∀q xs,H q=some (.tup xs)->H' q=some (.tup xs))->Q .non H'
theorem zlc {CD cD a T L B:Addr} {st:DSt} {H:Hp} {Q:VK} {E:XK} (D:DeskAt CD H a T L B st) (h3:Few st.f) (h4:st.dn.length<=900) (h1:st.bk=[]->∀H',Same H H'->E (.ref cD) none H') (h2:∀bk0 d,st.bk=bk0++[d]->(d.2.2=none->st.f d.1≠none)/\∀H',zV a T L B H H'->DeskAt CD H' a T L B ⟨zr st.f d.1 d.2.2,st.dn++[d],bk0⟩->(∀q xs,H q=some (.tup xs)->H' q=some (.tup xs))->Q .non H'):zgH CD cD [.ref a] H Q E:=⟨a,T,L,B,st,rfl,D,h3,h4,h1,h2⟩
theorem ze1 (C:Cls K mg base) (F:SrcM K "redo" "Desk.redo" wx C.Desk.f_redo ["self"]) (B:Blt mg) (R:Rel K mg base C) (Kc:Cst K mg) (D_Desk_keep:s!"aa{1}{C.Desk.f_keep}{["self","name","table"]}{zcR C.Desk.addr}"):DefM P w K mg base (CXE P w) 2 C.Desk.f_redo ["self"] (zgH C.Desk.addr C.NoDeed.addr):=by
 refine F.okX (CX:=CXE P w) (k:=1) zaW s!"s" s!"u"
 ·obtain ⟨_,_,_,_,_,rfl,_⟩:=h;rfl
 have nd:=zaW.nd;obtain ⟨a,T,L,Bk,st,rfl,D,few,bl,q0,q1⟩:=h;obtain ⟨dx,ei⟩:=D.ins;obtain ⟨ds,eL,dL⟩:=D.back;have dc:=C.Desk.cl;have dt:=C.Desk.n_tables;have dd:=C.Desk.n_done;have db:=C.Desk.n_taken_back;refine ⟨_,s!"d{s!"w{s!"K{zjP hr.units3}{@zS _ _ _ _ _ (pv 0) rfl}{s!"x{pa_nil}"}"}{s!"f{s!"ao{(C.NoDeed).own}"}"}"}{s!"d{s!"i{1}{@zjd _ _ _ _ _ _ _ _ _ PySem.F.plainAttrs_list PySem.F.slot_list_pop PySem.F.type_list_pop zjf (@zS _ _ _ _ _ (pv 0) rfl) (by rfl) (by rfl)}"}{s!"d{s!"z{s!"an{@zS _ _ _ _ _ (pv 0) rfl}{s!"Y"}"}"}{s!"f{s!"z{s!"aA{D_Desk_keep}{C.Desk.m_keep}{xpass_cx}{s!"a{s!"J"}{s!"a{s!"J"}{pa_nil}"}"}"}"}"}"}"}",?_⟩
 walk_at "ds";refine zh [some s!"g",none] rfl ?_;walk_at "rd";rename_i l1 H1 s1 n1 e1
 by_cases hd:st.bk=[]
 ·obtain rfl:ds=[]:=List.length_eq_zero_iff.mp (by rw [dL.1,hd];rfl)
  refine zep (b:=true) ((Cmp.lst (d:=3) (fun _=>true) (SqL.of (s1.obj eL)) s!">" rfl (fun i x y h=>by simp at h)).to (zmB fun _ _=>rfl)) ?_
  walk_at "rd";exact q0 hd H1 s1
 have nds:ds≠[]:=fun z=>hd s!"a9{by rw [<-dL.1,z];rfl}"
 refine zep (b:=false) (Cmp.lens (d:=3) (SqL.of (s1.obj eL)) s!">" (by rw [List.length_map];exact fun z=>nds s!"a9{z}")) ?_
 walk_at "rd";obtain ⟨bk0,d,ed⟩:∃bk0 d,st.bk=bk0++[d]:=⟨st.bk.dropLast,st.bk.getLast hd,(List.dropLast_concat_getLast hd).symm⟩;obtain ⟨qn,q⟩:=q1 bk0 d ed;have D1:=D.same s1;obtain ⟨ds1,eL1,dL1⟩:=D1.back;rw [ed] at dL1;obtain ⟨ds0,t,v,w,eds,dk0,et,hv,hw⟩:=dL1.split;rw [eds,List.map_append] at eL1;refine zhD (y:=.ref t) eL1 ?_;have D2:=D1.setB dk0;have k2:∀q o,q≠Bk->H1 q=some o->upd H1 Bk s!"aV" q=some o:=fun q o n e=>by rw [zg n];exact e
 have m2:∀q xs,H1 q=some (.tup xs)->upd H1 Bk s!"aV" q=some (.tup xs):=fun q xs h=>k2 q _ (fun z=>by rw [z,eL1] at h;cases h) h
 have et2:=m2 t _ et;have hv2:=hv.move m2;have hw2:=hw.move m2;generalize upd H1 Bk s!"aV"=H2 at*;obtain ⟨dx2,ei2⟩:=D2.ins;obtain ⟨bs,eB2,dB2⟩:=D2.done;walk_at "rd";refine xo (xs:=bs.map V.ref) eB2 (by rw [List.length_map,dB2.1];exact zz (by show st.dn.length<=1000;omega)) ?_
 have d3:zM H2 (bs++[t]) (st.dn++[d]):=dB2.snoc (d:=d) et2 hv2 hw2;have D3:=D2.setL d3;have e3:(bs++[t]).map V.ref=bs.map V.ref++[.ref t]:=by rw [List.map_append];rfl
 rw [e3] at D3;have k3:∀q o,q≠L->H2 q=some o->upd H2 L (.lst (bs.map V.ref++[.ref t])) q=some o:=fun q o n e=>by rw [zg n];exact e
 have m3:∀q xs,H2 q=some (.tup xs)->upd H2 L (.lst (bs.map V.ref++[.ref t])) q=some (.tup xs):=fun q xs h=>k3 q _ (fun z=>by rw [z,eB2] at h;cases h) h
 have et3:=m3 t _ et2;have hv3:=hv2.move m3;have hw3:=hw2.move m3;generalize upd H2 L (.lst (bs.map V.ref++[.ref t]))=H3 at*;obtain ⟨dx3,ei3⟩:=D3.ins;walk_at "rd";refine zcS d.2.2 D3 hw3 qn few fun H4 k4 D4=>?_
 walk_at "rd";refine q H4 (fun q o e n1 n2 n3 n4=>k4 q o n2 (k3 q o n3 (k2 q o n4 (s1.obj e)))) D4 (fun q xs h=>?_)
 have h3:=m3 q xs (m2 q xs (s1.obj h));obtain ⟨kv4,e4,_⟩:=D3.dict;exact k4 q _ (fun z=>by rw [z,e4] at h3;cases h3) h3
def NmT (f:Str->Option Tb) (t:Str):Prop:=∃ms,Names (fun n=>f n≠none) ms/\t=if ms=[] then Str.ofString "none" else Txt.join " " ms
theorem NmT.uniq {f:Str->Option Tb} {t u:Str} (h1:NmT f t) (h2:NmT f u):t=u:=by
 obtain ⟨ms,n1,rfl⟩:=h1;obtain ⟨ns,n2,rfl⟩:=h2;rw [n1.uniq n2]
def ze2 (CD:Addr):Sp:=fun vs H Q _=>∃(a T L B:Addr) (st:DSt),vs=[.ref a]/\DeskAt CD H a T L B st/\Few st.f/\(∀n,st.f n≠none->n.length<=1000)/\∀t H',Same H H'->NmT st.f t->Q s!"F" H'
theorem wM {CD a T L B:Addr} {st:DSt} {H:Hp} {Q:VK} {E:XK} (D:DeskAt CD H a T L B st) (h3:Few st.f) (h4:∀n,st.f n≠none->n.length<=1000) (h:∀t H',Same H H'->NmT st.f t->Q s!"F" H'):ze2 CD [.ref a] H Q E:=⟨a,T,L,B,st,rfl,D,h3,h4,h⟩
theorem wV (C:Cls K mg base) (F:SrcM K "shown_names" "Desk.shown_names" ye C.Desk.f_shown_names ["self"]) (B:Blt mg) (R:Rel K mg base C) (Kc:Cst K mg):DefM P w K mg base (CXE P w) 1 C.Desk.f_shown_names ["self"] (ze2 C.Desk.addr):=by
 refine F.ok (CX:=CXE P w) (k:=0) yH s!"s" s!"u"
 ·obtain ⟨_,_,_,_,_,rfl,_⟩:=h;rfl
 have nd:=yH.nd;obtain ⟨a,T,L,Bk,st,rfl,D,few,len,q⟩:=h;obtain ⟨dx,ei⟩:=D.ins;obtain ⟨kvs,ek,kv⟩:=D.dict;have dc:=C.Desk.cl;have dt:=C.Desk.n_tables;obtain ⟨ns,e,nd,mem⟩:=kv.names;have h1:=few ns nd fun n hn=>(mem n).mp hn
 have h2:=congrArg List.length e;rw [List.length_map,List.length_map] at h2;refine ⟨_,s!"d{s!"w{s!"K{op_eqA hr.units0}{s!"A{zgs}{B.len}{PySem.boot_len}{s!"a{@zS _ _ _ _ _ (pv 0) rfl}{pa_nil}"}"}{pe_int}"}{s!"f{s!"t{s!"T{.str "none"}{Kc.NO_NAMES.choose_spec}{⟨_,rfl⟩}"}"}"}"}{s!"f{s!"t{s!"aX{PySem.F.slot_str_join}{PySem.F.type_str_join}{zb8}{pe_str}{s!"a{s!"A{zez rfl}{B.sorted}{PyProof.Rows.boot_sorted}{s!"a{@zS _ _ _ _ _ (pv 0) rfl}{pa_nil}"}"}{pa_nil}"}"}"}"}",?_⟩
 walk_at "ds";refine zh [some s!"g"] rfl ?_;walk_at "rd";walk_at "ite"
 ·rename_i c;obtain rfl:ns=[]:=List.length_eq_zero_iff.mp s!"e"
  walk_at "rd";exact q _ H (Same.refl _) ⟨[],⟨mem,nd,rfl⟩,rfl⟩
 rename_i c;walk_at "rd";refine zgq ns ek e s!"e" fun p H1 ms s1 n1 pm so e1=>?_
 have ml:=pm.length_eq;walk_at "rd";refine zaD ms s!">" (zca (k:=1000) s!"b" s!"e" (fun w hw=>len w ((mem w).mp (pm.mem_iff.mp hw))) s!"c") ?_
 refine q _ H1 s1 ⟨ms,⟨fun n=>(pm.mem_iff).trans (mem n),(pm.nodup_iff).mpr nd,so⟩,(if_neg fun z=>?_).symm⟩
 rw [z] at ml;simp at ml;omega
theorem zG {ps f:List Str} {b:Bool} (h0:xb za4 s!"~"=false) (h:zeT.find? (fun f=>xb f ps)=cond b (some f) none) (hb:b=true):zm ps f:=.inr ⟨h0,by rw [h,hb];rfl⟩
theorem zcT {p1:Str} {p2:Str} {p3:Str} {p4:Str} {p5:Str} (h1:zn p1=true) (h2:zj p2=true) (h3:zj p3=true) (h4:zj p4=true) (h5:zj p5=true):zm [Str.ofString "table",p1,p2,p3,p4,p5] [Str.ofString "table",Str.ofString "NAME",Str.ofString "NUMBER",Str.ofString "NUMBER",Str.ofString "NUMBER",Str.ofString "NUMBER"]:=zG (b:=(true && (zn p1 && (zj p2 && (zj p3 && (zj p4 && (zj p5 && true))))))) s!"D" s!"D" (by rw [h1,h2,h3,h4,h5];rfl)
theorem zQ {p1:Str} {p3:Str} {p4:Str} (h1:zn p1=true) (h3:zn p3=true) (h4:zn p4=true):zm [Str.ofString "let",p1,Str.ofString "together",p3,p4] [Str.ofString "let",Str.ofString "NAME",Str.ofString "together",Str.ofString "KNOWN",Str.ofString "KNOWN"]:=zG (b:=(true && (zn p1 && (true && (zn p3 && (zn p4 && true)))))) s!"D" s!"D" (by rw [h1,h3,h4];rfl)
theorem zad {p1:Str} {p3:Str} (h1:zn p1=true) (h3:zn p3=true):zm [Str.ofString "let",p1,Str.ofString "back",p3] [Str.ofString "let",Str.ofString "NAME",Str.ofString "back",Str.ofString "KNOWN"]:=zG (b:=(true && (zn p1 && (true && (zn p3 && true))))) s!"D" s!"D" (by rw [h1,h3];rfl)
theorem wN {p1:Str} (h1:zn p1=true):zm [Str.ofString "drop",p1] [Str.ofString "drop",Str.ofString "KNOWN"]:=zG (b:=(true && (zn p1 && true))) s!"D" s!"D" (by rw [h1];rfl)
theorem zbw:zm [Str.ofString "undo"] [Str.ofString "undo"]:=zG (b:=(true && true)) s!"D" s!"D" rfl
theorem zbx:zm [Str.ofString "redo"] [Str.ofString "redo"]:=zG (b:=(true && true)) s!"D" s!"D" rfl
theorem zaw:zm [Str.ofString "names"] [Str.ofString "names"]:=zG (b:=(true && true)) s!"D" s!"D" rfl
theorem ziP {p1:Str} (h1:zn p1=true):zm [Str.ofString "show",p1] [Str.ofString "show",Str.ofString "KNOWN"]:=zG (b:=(true && (zn p1 && true))) s!"D" s!"D" (by rw [h1];rfl)
theorem zfT {p1:Str} (h1:zn p1=true):zm [Str.ofString "number",p1] [Str.ofString "number",Str.ofString "KNOWN"]:=zG (b:=(true && (zn p1 && true))) s!"D" s!"D" (by rw [h1];rfl)
theorem zfU {p1:Str} (h1:zn p1=true):zm [Str.ofString "steady",p1] [Str.ofString "steady",Str.ofString "KNOWN"]:=zG (b:=(true && (zn p1 && true))) s!"D" s!"D" (by rw [h1];rfl)
theorem zgI {p1:Str} (h1:zn p1=true):zm [Str.ofString "spell",p1] [Str.ofString "spell",Str.ofString "KNOWN"]:=zG (b:=(true && (zn p1 && true))) s!"D" s!"D" (by rw [h1];rfl)
theorem ziQ {p1:Str} {p2:Str} (h1:zj p1=true) (h2:zj p2=true):zm [Str.ofString "sign",p1,p2] [Str.ofString "sign",Str.ofString "NUMBER",Str.ofString "NUMBER"]:=zG (b:=(true && (zj p1 && (zj p2 && true)))) s!"D" s!"D" (by rw [h1,h2];rfl)
theorem zgJ {p1:Str} {p2:Str} (h1:zj p1=true) (h2:zj p2=true):zm [Str.ofString "teeth",p1,p2] [Str.ofString "teeth",Str.ofString "NUMBER",Str.ofString "NUMBER"]:=zG (b:=(true && (zj p1 && (zj p2 && true)))) s!"D" s!"D" (by rw [h1,h2];rfl)
theorem zfV {p1:Str} {p2:Str} (h1:zj p1=true) (h2:zj p2=true):zm [Str.ofString "twelve",p1,p2] [Str.ofString "twelve",Str.ofString "NUMBER",Str.ofString "NUMBER"]:=zG (b:=(true && (zj p1 && (zj p2 && true)))) s!"D" s!"D" (by rw [h1,h2];rfl)
theorem zfW {p1:Str} {p2:Str} (h1:zj p1=true) (h2:zj p2=true):zm [Str.ofString "points",p1,p2] [Str.ofString "points",Str.ofString "NUMBER",Str.ofString "NUMBER"]:=zG (b:=(true && (zj p1 && (zj p2 && true)))) s!"D" s!"D" (by rw [h1,h2];rfl)
theorem ze3 {p1:Str} {p2:Str} (h1:zj p1=true) (h2:zj p2=true):zm [Str.ofString "shuffle",p1,p2] [Str.ofString "shuffle",Str.ofString "NUMBER",Str.ofString "NUMBER"]:=zG (b:=(true && (zj p1 && (zj p2 && true)))) s!"D" s!"D" (by rw [h1,h2];rfl)
theorem zgK {p1:Str} {p2:Str} {p3:Str} {p4:Str} (h1:zj p1=true) (h2:zj p2=true) (h3:zj p3=true) (h4:zj p4=true):zm [Str.ofString "parts",p1,p2,p3,p4] [Str.ofString "parts",Str.ofString "NUMBER",Str.ofString "NUMBER",Str.ofString "NUMBER",Str.ofString "NUMBER"]:=zG (b:=(true && (zj p1 && (zj p2 && (zj p3 && (zj p4 && true)))))) s!"D" s!"D" (by rw [h1,h2,h3,h4];rfl)
theorem zd5 {n:Str} {qs:List Str} {ws:List (Bool×Int)} (h1:zn n=true) (h2:RW (Txt.join " " qs) ws):zm (Str.ofString "word"::n::qs) za4:=by
 refine .inl ⟨?_,rfl,ws,h2⟩;have e:xb za4 ((Str.ofString "word"::n::qs).take 2)=(true && (zn n && true)):=by kernel_rfl
 rw [e,h1];rfl
theorem zm.uniq {ps f g:List Str} (h1:zm ps f) (h2:zm ps g):f=g:=by
 rcases h1 with ⟨a,rfl,_⟩ | ⟨a,b⟩ <;> rcases h2 with ⟨c,rfl,_⟩ | ⟨c,d⟩
 ·rfl
 ·rw [a] at c;cases c
 ·rw [a] at c;cases c
 ·rw [b] at d;exact Option.some.inj d
theorem zm.len {ps f:List Str} (h:zm ps f):f.length<=ps.length:=by
 rcases h with ⟨a,rfl,_⟩ | ⟨_,b⟩
 ·unfold xb at a;have:=of_decide_eq_true (Bool.and_eq_true_iff.mp a).1;rw [List.length_take] at this;have e:za4.length=2:=rfl;omega
 ·have hp:xb f ps=true:=List.find?_some (p:=fun f=>xb f ps) b
  unfold xb at hp;have:=of_decide_eq_true (Bool.and_eq_true_iff.mp hp).1;omega
theorem zgE.names:∀{dn:List ym} {f:Str->Option Tb},zgE f dn->∀n,f n≠none->n∈dn.map (·.1)
 | [],f,h,n,hn=>by
  have h:f=fun _=>none:=h
  rw [h] at hn;exact absurd rfl hn
 | (m,a,b)::r,f,h,n,hn=>by
  obtain ⟨h1,h2⟩:=h
  by_cases e:n=m
  ·rw [e];exact List.mem_cons_self
  ·refine List.mem_cons_of_mem _ (zgE.names h2 n ?_);unfold zr;rw [if_neg e];exact hn
theorem Fine.fewN {st:DSt} (F:Fine st):Few st.f:=fun ns nd h=>by
 have k:=zdT nd (m:=st.dn.reverse.map (·.1)) fun n hn=>F.hist.names n (h n hn)
 rw [List.length_map,List.length_reverse] at k;have:=F.few;omega
theorem Fine.nmlen {st:DSt} (F:Fine st):∀n,st.f n≠none->n.length<=8:=fun n hn=>by
 obtain ⟨d,hd,rfl⟩:=List.mem_map.mp (F.hist.names n hn);exact (F.dds d s!"ar{List.mem_reverse.mp hd}").2.2.2
theorem wO (f:Str->Option Tb) (n:Str) (o:Option Tb):zr (zr f n o) n (f n)=f:=by
 funext m;unfold zr
 by_cases e:m=n
 ·rw [if_pos e,e]
 ·rw [if_neg e,if_neg e]
theorem wP (f:Str->Option Tb) (n:Str) (o:Option Tb):zr f n o n=o:=by
 unfold zr;rw [if_pos rfl]
theorem Fine.deed {st:DSt} (F:Fine st) {n:Str} {o:Option Tb} (h1:∀x,o=some x->yn x) (h2:o=none->st.f n≠none) (h3:n.length<=8) (h4:st.dn.length+1<=60):Fine ⟨zr st.f n o,st.dn++[(n,st.f n,o)],[]⟩:=by
 refine ⟨fun m x h=>?_,fun d hd=>?_,?_,trivial,by rw [List.length_append];exact h4⟩
 ·unfold zr at h;dsimp only at h;split at h
  ·exact h1 x h
  ·exact F.tabs m x h
 ·rw [List.append_nil] at hd;rcases List.mem_append.mp hd with z | z
  ·exact F.dds d s!"ar{z}"
  ·rw [List.mem_singleton.mp z];exact ⟨fun x hx=>F.tabs n x hx,h1,fun z=>h2 z.2 z.1,h3⟩
 ·show zgE _ (st.dn++[(n,st.f n,o)]).reverse;rw [List.reverse_append];refine ⟨wP _ _ _,?_⟩;rw [wO];exact F.hist
theorem Fine.undo {st:DSt} (F:Fine st) {dn0:List ym} {d:ym} (e:st.dn=dn0++[d]):Fine ⟨zr st.f d.1 d.2.1,dn0,st.bk++[d]⟩:=by
 have fd:=F.dds d s!"ar{by rw [e];exact List.mem_append_right _ (List.mem_singleton.mpr rfl)}"
 have h:=F.hist;rw [e,List.reverse_append] at h;obtain ⟨h1,h2⟩:=h;refine ⟨fun m x h=>?_,fun c hc=>F.dds c ?_,h2,?_,?_⟩
 ·unfold zr at h;dsimp only at h;split at h
  ·exact fd.1 x h
  ·exact F.tabs m x h
 ·rw [e];simp only [List.mem_append,List.mem_singleton] at hc ⊢;rcases hc with z | z | z
  ·exact .inl (.inl z)
  ·exact .inr z
  ·exact .inl (.inr z)
 ·show Fut _ (st.bk++[d]).reverse;rw [List.reverse_append];refine ⟨wP _ _ _,?_⟩;have:zr (zr st.f d.1 d.2.1) d.1 d.2.2=st.f:=by
   rw [<-h1];exact wO st.f d.1 d.2.1
  rw [this];exact F.fut
 ·have:=F.few;rw [e,List.length_append] at this;show dn0.length+(st.bk++[d]).length<=60;rw [List.length_append];simp only [List.length_cons,List.length_nil] at this ⊢;omega
theorem Fine.redo {st:DSt} (F:Fine st) {bk0:List ym} {d:ym} (e:st.bk=bk0++[d]):Fine ⟨zr st.f d.1 d.2.2,st.dn++[d],bk0⟩:=by
 have fd:=F.dds d s!"${by rw [e];exact List.mem_append_right _ (List.mem_singleton.mpr rfl)}"
 have h:=F.fut;rw [e,List.reverse_append] at h;obtain ⟨h1,h2⟩:=h;refine ⟨fun m x h=>?_,fun c hc=>F.dds c ?_,?_,h2,?_⟩
 ·unfold zr at h;dsimp only at h;split at h
  ·exact fd.2.1 x h
  ·exact F.tabs m x h
 ·rw [e];simp only [List.mem_append,List.mem_singleton] at hc ⊢;rcases hc with (z | z) | z
  ·exact .inl z
  ·exact .inr (.inr z)
  ·exact .inr (.inl z)
 ·show zgE _ (st.dn++[d]).reverse;rw [List.reverse_append];refine ⟨wP _ _ _,?_⟩;have:zr (zr st.f d.1 d.2.2) d.1 d.2.1=st.f:=by
   rw [<-h1];exact wO st.f d.1 d.2.2
  rw [this];exact F.hist
 ·have:=F.few;rw [e,List.length_append] at this;show (st.dn++[d]).length+bk0.length<=60;rw [List.length_append];simp only [List.length_cons,List.length_nil] at this ⊢;omega
structure ErrC where
 ln:Addr
 nm:Addr
 tb:Addr
 mn:Addr
 dd:Addr
 wd:Addr
 ct:Addr
 od:Addr
 ap:Addr
def wQ:List Str:=[Str.ofString "sign",Str.ofString "teeth",Str.ofString "twelve",Str.ofString "points",Str.ofString "shuffle"]
inductive TellC (e:ErrC) (CD:Addr) (st:DSt) (ps:List Str) (a T L B:Addr) (H:Hp) (Q:VK) (E:XK):Prop where
 | line (h:∀f,¬zm ps f) (q:∀dx H',(dx=none\/dx=some mainGlobals)->Same H H'->E (.ref e.ln) dx H')
 | name {f:List Str} {n:Str} (hf:zm ps f) (h:yx st.f f ps n) (q:∀d H1,Same H H1->H1 d=none->E (.ref e.nm) (some d) (upd H1 d (.xd [("name",.str n)])))
 | new {f:List Str} {x:Tb} {n:Str} (hf:zm ps f) (hk:xT st.f f ps) (h1:ps[1]? =some n) (hm:ziN st.f ps x) (hb:∀k∈[x.1,x.2.1,x.2.2.1,x.2.2.2],k.natAbs<10^190) (qT:ps[0]? =some s!"ac"->zcQ x≠1->∀H',Same H H'->E (.ref e.tb) none H') (qM:ps[0]?≠some s!"ac"->¬yJ x->∀H',Same H H'->E (.ref e.mn) none H') (q:yn x->∀B' H',zV a T L B H H'->H B'=none->DeskAt CD H' a T L B' ⟨zr st.f n (some x),st.dn++[(n,st.f n,some x)],[]⟩->Q (.str (zaj x.1 x.2.1 x.2.2.1 x.2.2.2)) H')
 | drop {n:Str} (hp:ps=[Str.ofString "drop",n]) (hn:zn n=true) (hk:st.f n≠none) (q:∀B' H' t,zV a T L B H H'->H B'=none->DeskAt CD H' a T L B' ⟨zr st.f n none,st.dn++[(n,st.f n,none)],[]⟩->NmT (zr st.f n none) t->Q s!"F" H')
 | undo (hp:ps=[Str.ofString "undo"]) (q0:st.dn=[]->∀H',Same H H'->E (.ref e.dd) none H') (q:∀dn0 d,st.dn=dn0++[d]->∀H' t,zV a T L B H H'->DeskAt CD H' a T L B ⟨zr st.f d.1 d.2.1,dn0,st.bk++[d]⟩->NmT (zr st.f d.1 d.2.1) t->Q s!"F" H')
 | redo (hp:ps=[Str.ofString "redo"]) (q0:st.bk=[]->∀H',Same H H'->E (.ref e.dd) none H') (q:∀bk0 d,st.bk=bk0++[d]->∀H' t,zV a T L B H H'->DeskAt CD H' a T L B ⟨zr st.f d.1 d.2.2,st.dn++[d],bk0⟩->NmT (zr st.f d.1 d.2.2) t->Q s!"F" H')
 | names (hp:ps=[Str.ofString "names"]) (q:∀H' t,Same H H'->NmT st.f t->Q s!"F" H')
 | askT {ask n:Str} {x:Tb} (hp:ps=[ask,n]) (ha:ask∈zbT) (hn:zn n=true) (hx:st.f n=some x) (q:zeV e.wd ask x H Q E)
 | askN {ask:Str} {qs:List Str} (hp:ps=ask::qs) (ha:(ask=Str.ofString "parts"/\qs.length=4)\/(ask∈wQ/\qs.length=2)) (hn:qs.all zj=true) (q:zdb e.ct e.od e.ap ask (qs.map zB) H Q E)
theorem ze4 {f:Str->Option Tb} {w n:Str} (hn:f n≠none) (hw:¬w=Str.ofString "KNOWN"):xT f [w,Str.ofString "KNOWN"] [w,n]:=fun j m h1 h2=>by
 match j,h1,h2 with
 | 0,h1,_=>exact absurd s!"7" hw
 | 1,_,h2=>cases h2;exact hn
 | k+2,h1,_=>simp at h1
theorem yc {f:Str->Option Tb} {fs ps:List Str} (h:Str.ofString "KNOWN"∉fs):xT f fs ps:=fun j m h1 _=>absurd s!"4{h1}" h
theorem xz {ask n:Str} (ha:ask∈zbT) (hn:zn n=true):zm [ask,n] [ask,Str.ofString "KNOWN"]:=by
 unfold zbT at ha;simp only [List.mem_cons,List.not_mem_nil,or_false] at ha;rcases ha with rfl | rfl | rfl | rfl
 ·exact ziP hn
 ·exact zfT hn
 ·exact zfU hn
 ·exact zgI hn
theorem wR {ask:Str} {qs:List Str} (ha:(ask=Str.ofString "parts"/\qs.length=4)\/(ask∈wQ/\qs.length=2)) (hn:qs.all zj=true):∃f,zm (ask::qs) f/\Str.ofString "KNOWN"∉f:=by
 rcases ha with ⟨rfl,hl⟩ | ⟨ha,hl⟩
 ·match qs,hl with
  | [a,b,c,d],_=>
   simp only [List.all_cons,List.all_nil,Bool.and_true,Bool.and_eq_true] at hn;exact ⟨_,zgK hn.1 hn.2.1 hn.2.2.1 hn.2.2.2,by decide+kernel⟩
 ·match qs,hl with
  | [a,b],_=>
   simp only [List.all_cons,List.all_nil,Bool.and_true,Bool.and_eq_true] at hn;unfold wQ at ha;simp only [List.mem_cons,List.not_mem_nil,or_false] at ha;rcases ha with rfl | rfl | rfl | rfl | rfl
   ·exact ⟨_,ziQ hn.1 hn.2,by decide+kernel⟩
   ·exact ⟨_,zgJ hn.1 hn.2,by decide+kernel⟩
   ·exact ⟨_,zfV hn.1 hn.2,by decide+kernel⟩
   ·exact ⟨_,zfW hn.1 hn.2,by decide+kernel⟩
   ·exact ⟨_,ze3 hn.1 hn.2,by decide+kernel⟩
theorem za8 {ask:Str} (ha:ask∈zbT):¬ask=Str.ofString "KNOWN"/\ask∉[Str.ofString "table",Str.ofString "word",Str.ofString "let"]/\¬ask=Str.ofString "drop"/\¬ask=Str.ofString "undo"/\¬ask=Str.ofString "redo"/\ask∉[Str.ofString "drop",Str.ofString "undo",Str.ofString "redo",Str.ofString "names"]:=by
 unfold zbT at ha;simp only [List.mem_cons,List.not_mem_nil,or_false] at ha;rcases ha with rfl | rfl | rfl | rfl <;> decide+kernel
theorem zld {ask:Str} {k:Nat} (ha:(ask=Str.ofString "parts"/\k=4)\/(ask∈wQ/\k=2)):ask∉[Str.ofString "table",Str.ofString "word",Str.ofString "let"]/\¬ask=Str.ofString "drop"/\¬ask=Str.ofString "undo"/\¬ask=Str.ofString "redo"/\ask∉[Str.ofString "drop",Str.ofString "undo",Str.ofString "redo",Str.ofString "names"]:=by
 rcases ha with ⟨rfl,_⟩ | ⟨ha,_⟩
 ·decide+kernel
 ·unfold wQ at ha;simp only [List.mem_cons,List.not_mem_nil,or_false] at ha;rcases ha with rfl | rfl | rfl | rfl | rfl <;> decide+kernel
theorem yx.not {f:Str->Option Tb} {fs ps:List Str} {n:Str} (h:yx f fs ps n) (k:xT f fs ps):False:=by
 obtain ⟨i,h1,h2,h3,_⟩:=h;exact k i n h1 h2 h3
theorem yx.uniq {f:Str->Option Tb} {fs ps:List Str} {n m:Str} (h:yx f fs ps n) (k:yx f fs ps m):n=m:=by
 obtain ⟨i,h1,h2,h3,h4⟩:=h;obtain ⟨j,k1,k2,k3,k4⟩:=k;rcases Nat.lt_trichotomy i j with z | z | z
 ·exact absurd h3 (k4 i z n h1 h2)
 ·subst z;rw [h2] at k2;exact Option.some.inj k2
 ·exact absurd k3 (h4 j z m k1 k2)
theorem TellC.known {e:ErrC} {CD:Addr} {st:DSt} {ps:List Str} {a T L B:Addr} {H:Hp} {Q:VK} {E:XK} (c:TellC e CD st ps a T L B H Q E):(∀f,¬zm ps f)\/(∃f n,zm ps f/\yx st.f f ps n)\/∃f,zm ps f/\xT st.f f ps:=by
 cases c with
 | line h q=>exact .inl h
 | name hf h q=>exact .inr (.inl ⟨_,_,hf,h⟩)
 | new hf hk=>exact .inr (.inr ⟨_,hf,hk⟩)
 | drop hp hn hk q=>subst hp;exact .inr (.inr ⟨_,wN hn,ze4 hk s!"b"⟩)
 | undo hp q0 q=>subst hp;exact .inr (.inr ⟨_,zbw,yc s!"b"⟩)
 | redo hp q0 q=>subst hp;exact .inr (.inr ⟨_,zbx,yc s!"b"⟩)
 | names hp q=>subst hp;exact .inr (.inr ⟨_,zaw,yc s!"b"⟩)
 | askT hp ha hn hx q=>subst hp;exact .inr (.inr ⟨_,xz ha hn,ze4 (by rw [hx];simp) (za8 ha).1⟩)
 | askN hp ha hn q=>
  subst hp;obtain ⟨f,hf,nk⟩:=wR ha hn;exact .inr (.inr ⟨f,hf,yc nk⟩)
theorem TellC.mono {e:ErrC} {CD:Addr} {st:DSt} {ps:List Str} {a T L B:Addr} {H:Hp} {Q Q':VK} {E E':XK} (hq:∀v H',Q v H'->Q' v H') (he:∀c d H',E c d H'->E' c d H') (c:TellC e CD st ps a T L B H Q E):TellC e CD st ps a T L B H Q' E':=by
 cases c with
 | line h q=>exact .line h fun dx H' h1 h2=>he _ _ _ (q dx H' h1 h2)
 | name hf h q=>exact .name hf h fun d H1 h1 h2=>he _ _ _ (q d H1 h1 h2)
 | new hf hk h1 hm hb qT qM q=>exact .new hf hk h1 hm hb (fun z1 z2 H' s=>he _ _ _ (qT z1 z2 H' s)) (fun z1 z2 H' s=>he _ _ _ (qM z1 z2 H' s)) fun g B' H' r n d=>hq _ _ (q g B' H' r n d)
 | drop hp hn hk q=>exact .drop hp hn hk fun B' H' t r n d m=>hq _ _ (q B' H' t r n d m)
 | undo hp q0 q=>exact .undo hp (fun z H' s=>he _ _ _ (q0 z H' s)) fun dn0 d z H' t r k m=>hq _ _ (q dn0 d z H' t r k m)
 | redo hp q0 q=>exact .redo hp (fun z H' s=>he _ _ _ (q0 z H' s)) fun dn0 d z H' t r k m=>hq _ _ (q dn0 d z H' t r k m)
 | names hp q=>exact .names hp fun H' t s m=>hq _ _ (q H' t s m)
 | askT hp ha hn hx q=>exact .askT hp ha hn hx (q.mono hq he)
 | askN hp ha hn q=>exact .askN hp ha hn (q.mono hq he)
def Pc (w:Str):Prop:=Asc w/\w.length<=62/\32∉w.cps.toList
theorem zgL {w:Str} (h1:w.cps.all (·<128)=true) (h2:w.length<=62) (h3:32∉w.cps.toList):Pc w:=⟨zaH h1,h2,h3⟩
theorem zle {n:Int} (h:n.natAbs<10^60):Pc (zK n):=⟨zmS n,Nat.le_trans (zai s!"c" h) s!"c",zfw (.inl rfl)⟩
theorem zlf {n:Str} (h:zn n=true):Pc n:=by
 unfold zn at h;simp only [Bool.and_eq_true,decide_eq_true_eq,List.all_eq_true] at h;obtain ⟨⟨h1,h2⟩,h3⟩:=h;refine ⟨zaH ?_,by omega,fun z=>?_⟩
 ·rw [Array.all_eq_true_iff_forall_mem];intro c hc;have:=h3 c (Array.mem_toList_iff.mpr hc);simp only [decide_eq_true_eq];omega
 ·have:=h3 32 z;omega
theorem zcU {n:Str} (h:zn n=true):n.length<=8:=by
 unfold zn at h;simp only [Bool.and_eq_true,decide_eq_true_eq] at h;exact h.1.2
theorem zog {ws:List Str} (ne:ws≠[]) (hl:ws.length<=14) (h:∀w∈ws,Pc w):Tx (Txt.join " " ws)/\Txt.split (Txt.join " " ws) " "=ws:=by
 refine ⟨⟨Asc.join zkx fun w hw=>(h w hw).1,?_⟩,?_⟩
 ·exact Nat.le_trans (zfx (m:=1) (k:=62) (n:=14) s!"b" hl fun w hw=>(h w hw).2.1) s!"c"
 ·rw [zaG];exact zcy ne fun w hw=>(h w hw).2.2
theorem ze5 (ws:List Str):Txt.join " " ws=Str.join " " ws:=StrLaws.glued_eq_join _ _
def zgM (e:ErrC) (CD:Addr):Sp:=fun vs H Q E=>∃(a T L B:Addr) (st:DSt) (t:Str),vs=[.ref a,.str t]/\DeskAt CD H a T L B st/\Fine st/\Tx t/\TellC e CD st (Txt.split t " ") a T L B H Q E
theorem zlg {e:ErrC} {CD a T L B:Addr} {st:DSt} {t:Str} {H:Hp} {Q:VK} {E:XK} (D:DeskAt CD H a T L B st) (F:Fine st) (h:Tx t) (c:TellC e CD st (Txt.split t " ") a T L B H Q E):zgM e CD [.ref a,.str t] H Q E:=⟨a,T,L,B,st,t,rfl,D,F,h,c⟩
theorem zpE {t:Str} (h:Tx t):Tx (wU (Txt.split t " ")):=by
 have sm:=ziu t 32;rw [<-zaG] at sm;refine ⟨Asc.join zkx fun w hw=>?_,?_⟩
 ·have hw:=List.mem_of_mem_drop hw;rw [zaG] at hw;exact h.1.split hw
 ·unfold wU;rw [show Txt.join " " ((Txt.split t " ").drop 2)=Str.join " " ((Txt.split t " ").drop 2) from StrLaws.glued_eq_join _ _]
  have k:=StrLaws.join_length_le s!"B{" "}" ((Txt.split t " ").drop 2);rw [show s!"B{" "}".length=1 by decide+kernel,Nat.mul_one] at k
  generalize Txt.split t " "=ps at*;have e1:(ps.map fun x=>x.length).sum=(s!"~".map fun x=>x.length).sum+((ps.drop 2).map fun x=>x.length).sum:=by
   rw [<-List.sum_append_nat,<-List.map_append,List.take_append_drop]
  have e2:ps.length=s!"~".length+(ps.drop 2).length:=by rw [<-List.length_append,List.take_append_drop]
  have:=h.2;have e3:1<=s!"~".length\/ps=[]:=by
   cases ps with
   | nil=>exact .inr rfl
   | cons _ _=>left;simp
  rcases e3 with z | z
  ·omega
  ·rw [z] at k ⊢;simp at k ⊢;omega
theorem ze6 (C:Cls K mg base) (F:SrcM K "tell" "Desk.tell" wy C.Desk.f_tell ["self","line"]) (B:Blt mg) (R:Rel K mg base C) (Kc:Cst K mg) (D_form_of:s!"m{6}{"form_of"}{["pieces"]}{zgC K C.NoLine.addr}") (D_Desk_need_known:s!"aa{3}{C.Desk.f_need_known}{["self","form","pieces"]}{zeY K C.Desk.addr C.NoName.addr}") (D_Desk_new_table:s!"aa{6}{C.Desk.f_new_table}{["self","pieces"]}{zla K C.Desk.addr C.NoTable.addr C.TooMany.addr}") (D_Desk_do_deed:s!"aa{2}{C.Desk.f_do_deed}{["self","name","table"]}{zgF C.Desk.addr}") (D_shown_table:s!"m{5}{"shown_table"}{["table"]}{zhw}") (D_Desk_undo:s!"aa{2}{C.Desk.f_undo}{["self"]}{zgG C.Desk.addr C.NoDeed.addr}") (D_Desk_redo:s!"aa{2}{C.Desk.f_redo}{["self"]}{zgH C.Desk.addr C.NoDeed.addr}") (D_Desk_shown_names:s!"aa{1}{C.Desk.f_shown_names}{["self"]}{ze2 C.Desk.addr}") (D_told_of_table:s!"m{6}{"told_of_table"}{["ask","table"]}{zeW C.NoWord.addr}") (D_told_of_numbers:s!"m{6}{"told_of_numbers"}{["ask","numbers"]}{zeX K C.NoCount.addr C.NotOdd.addr C.NotApart.addr}"):DefM P w K mg base (CXE P w) 7 C.Desk.f_tell ["self","line"] (zgM ⟨C.NoLine.addr,C.NoName.addr,C.NoTable.addr,C.TooMany.addr,C.NoDeed.addr,C.NoWord.addr,C.NoCount.addr,C.NotOdd.addr,C.NotApart.addr⟩ C.Desk.addr):=by
 refine F.okX (CX:=CXE P w) (k:=6) zaX s!"s" s!"u"
 ·obtain ⟨_,_,_,_,_,_,rfl,_⟩:=h;rfl
 have nd:=zaX.nd;obtain ⟨a,T,L,Bk,st,t,rfl,D,F,tx,tc⟩:=h;have tz:=tx.sz;have ok:=tx.ok 32;rw [<-zaG] at ok;have bx:=zpE tx;have pl:∀p∈Txt.split t " ",p.length<=1000:=fun p hp=>by
  rw [zaG] at hp;have:=(x8 hp).1;have:=tx.2;omega
 obtain ⟨dx,ei⟩:=D.ins;have dc:=C.Desk.cl;have dt:=C.Desk.n_tables;refine ⟨_,s!"d{s!"i{2}{@xl _ _ _ _ _ _ _ _ s!"2{s!"A{yj}{B.isinstance}{PyProof.Rows.boot_isinstance}{s!"a{pv 1}{s!"a{s!"ad{.ty "str"}{B.str}{PyProof.Rows.boot_str}"}{pa_nil}"}"}"}" s!"aX{PySem.F.slot_str_split}{PySem.F.type_str_split}{mt_split}{pv 1}{s!"R"}" s!"x{pa_nil}"}"}{s!"d{s!"i{3}{s!"l{D_form_of}{xpass_cx}{s!"|"}"}"}{s!"d{s!"z{s!"aA{D_Desk_need_known}{C.Desk.m_need_known}{xpass_cx}{s!"a{pv 3}{s!"|"}"}"}"}{s!"d{s!"i{4}{s!"<"}"}{s!"d{s!"w{s!"bk{pv 4}{s!"h{s!"a{pe_str}{s!"a{pe_str}{s!"R"}"}"}"}"}{s!"d{s!"i{5}{s!"aA{D_Desk_new_table}{C.Desk.m_new_table}{xpass_cx}{s!"|"}"}"}{s!"d{s!"z{s!"aA{D_Desk_do_deed}{C.Desk.m_do_deed}{xpass_cx}{s!"a{s!"<"}{s!"bt"}"}"}"}{s!"f{s!"t{s!"l{D_shown_table}{xpass_cx}{s!"bt"}"}"}"}"}"}"}{@xn _ _ _ _ _ s!"w{s!"bu"}{s!"f{s!"z{s!"aA{D_Desk_do_deed}{C.Desk.m_do_deed}{xpass_cx}{s!"a{s!"<"}{s!"a{pe_non}{pa_nil}"}"}"}"}"}" (@xn _ _ _ _ _ s!"w{s!"bu"}{s!"f{s!"z{s!"bz{D_Desk_undo}{C.Desk.m_undo}"}"}"}" (@xn _ _ _ _ _ s!"w{s!"bu"}{s!"f{s!"z{s!"bz{D_Desk_redo}{C.Desk.m_redo}"}"}"}" s!"d{s!"w{s!"bk{pv 4}{s!"h{s!"a{pe_str}{s!"a{pe_str}{s!"a{pe_str}{s!"R"}"}"}"}"}"}{s!"f{s!"t{s!"bz{D_Desk_shown_names}{C.Desk.m_shown_names}"}"}"}"}{s!"d{s!"w{s!"bk{pe_str}{pv 3}"}{s!"f{s!"t{s!"l{D_told_of_table}{xpass_cx}{s!"a{pv 4}{s!"a{@zb7 _ _ _ _ _ _ hr.units2 (@zS _ _ _ _ _ (pv 0) rfl) s!"<" (fun _ _=>rfl)}{pa_nil}"}"}"}"}"}"}{s!"f{s!"t{s!"l{D_told_of_numbers}{xpass_cx}{s!"a{pv 4}{s!"a{s!"ay{@PI.or _ _ _ _ _ s!"as{s!"bN"}" (@pi_tup _ _ _ _ s!"bN")}{fun pins ex s H=>(@pe_callTy _ _ _ _ _ _ _ _ _ zdI rfl B.int PyProof.Rows.boot_int s!"W" s!"c" s!"c" (by rfl) (by rfl))}"}{pa_nil}"}"}"}"}"}"}"))}"}"}"}"}",?_⟩
 walk_at "ds";refine zh [some s!"g",some s!"F",none,none,none,none] rfl ?_;walk_at "rd";refine zcv s!"b" tz _ rfl s!".{ok.1}" fun l H1 s1 n1 e1=>?_
 generalize hps:Txt.split t " "=ps at*;have ok1:=ok.1;have at0:∀{i:Nat} {w:Str},ps[i]? =some w->atI (ps.map V.str) (i:Int)=some (.str w):=fun h=>wH (by rw [List.getElem?_map,h];rfl)
 have few:=F.fewN;have nml:∀n,st.f n≠none->n.length<=1000:=fun n hn=>Nat.le_trans (F.nmlen n hn) s!"c"
 have dl:=F.few;walk_at "rd";rcases tc.known with hL | hK
 ·cases tc with
  | line h q=>exact zfR s!">" ok bx (fun f hf=>absurd hf (h f)) (fun _ dx H2 hd s2=>q dx H2 hd (s1.trans s2))
  | name hf h q=>exact absurd hf (hL _)
  | new hf hk=>exact absurd hf (hL _)
  | drop hp hn hk q=>subst hp;exact absurd (wN hn) (hL _)
  | undo hp q0 q=>subst hp;exact absurd zbw (hL _)
  | redo hp q0 q=>subst hp;exact absurd zbx (hL _)
  | names hp q=>subst hp;exact absurd zaw (hL _)
  | askT hp ha hn hx q=>subst hp;exact absurd (xz ha hn) (hL _)
  | askN hp ha hn q=>
   subst hp;obtain ⟨f,hf,_⟩:=wR ha hn;exact absurd hf (hL _)
 obtain ⟨f,hf⟩:∃f,zm ps f:=by
  rcases hK with ⟨f,_,hf,_⟩ | ⟨f,hf,_⟩ <;> exact ⟨f,hf⟩
 refine zfR s!">" ok bx (fun g hg fa H2 s2 kf=>?_) (fun n=>absurd hf (n f))
 obtain rfl:=hf.uniq hg;have s12:=s1.trans s2;have ei2:=s12.obj ei;have e2:=s2.obj e1;have D2:=D.same s12;walk_at "rd";refine ziM D2 kf (SqL.of e2) hf.len pl (fun ak H3 s3=>?_) (fun n fu d H3 s3 hd=>?_)
 rotate_left
 ·rcases hK with ⟨g,m,hg',fm⟩ | ⟨g,hg',ak⟩
  ·cases tc with
   | name hf' h q=>
    obtain rfl:=hf.uniq hf';obtain rfl:=h.uniq fu;exact q d H3 (s12.trans s3) hd
   | line h q=>exact absurd hf (h _)
   | new hf' hk=>obtain rfl:=hf.uniq hf';exact (fu.not hk).elim
   | drop hp hn hk q=>subst hp;obtain rfl:=hf.uniq (wN hn);exact (fu.not (ze4 hk s!"b")).elim
   | undo hp q0 q=>subst hp;obtain rfl:=hf.uniq zbw;exact s!"bv".elim
   | redo hp q0 q=>subst hp;obtain rfl:=hf.uniq zbx;exact s!"bv".elim
   | names hp q=>subst hp;obtain rfl:=hf.uniq zaw;exact s!"bv".elim
   | askT hp ha hn hx q=>subst hp;obtain rfl:=hf.uniq (xz ha hn);exact (fu.not (ze4 (by rw [hx];simp) (za8 ha).1)).elim
   | askN hp ha hn q=>
    subst hp;obtain ⟨g,hg2,nk⟩:=wR ha hn;obtain rfl:=hf.uniq hg2;exact (fu.not (yc nk)).elim
  ·obtain rfl:=hf.uniq hg';exact (fu.not ak).elim
 have s13:=s12.trans s3;have D3:=D.same s13;have ei3:=s13.obj ei;have e3:=s3.obj e2;clear s2 s3 e2 ei2 D2;walk_at "rd";cases tc with
 | line h q=>exact absurd hf (h _)
 | name hf' h q=>obtain rfl:=hf.uniq hf';exact (h.not ak).elim
 | new hf' hk h1 hm hb qT qM q=>
  obtain ⟨w0,h0,hw⟩:∃w,ps[0]? =some w/\w∈[Str.ofString "table",Str.ofString "word",Str.ofString "let"]:=by
   rcases hm with ⟨h,_⟩ | ⟨h,_⟩ | ⟨h,_⟩ | ⟨h,_⟩ <;> exact ⟨_,h,by decide+kernel⟩
  refine zgd.Qn (SqL.of e3) (at0 (i:=0) h0) ?_;walk_at "rd";rename_i T4 H4 s4 n4 e4;refine zL [Str.ofString "table",Str.ofString "word",Str.ofString "let"] (SqT.of e4) ?_;rw [decide_eq_true hw];have ei4:=s4.obj ei3;have e34:=s4.obj e3;walk_at "rd";refine znl (D3.same s4) (SqL.of e34) ok bx F.tabs hm (fun z1 z2 H5 s5=>qT z1 z2 H5 (s13.trans (s4.trans s5))) (fun z1 z2 H5 s5=>qM z1 z2 H5 (s13.trans (s4.trans s5))) fun gd tb H5 s5 X5=>?_
  have s15:=s13.trans (s4.trans s5);have D5:=D.same s15;have ei5:=s15.obj ei;have e35:=(s4.trans s5).obj e3;walk_at "rd";refine zgd.Qn (SqL.of e35) (at0 (i:=1) h1) ?_;walk_at "rd";refine zfS (some _) D5 ⟨tb,rfl,X5⟩ (fun z=>by cases z) few s!"e" fun B' H6 r6 nB D6 m6=>?_
  walk_at "rd";have X6:=X5.move m6;refine zhx X6 gd.1 (hb _ (by simp)) (hb _ (by simp)) (hb _ (by simp)) (hb _ (by simp)) fun H7 s7=>?_
  refine q gd B' H7 (fun q o h1 h2 h3 h4 h5=>s7.obj (r6 q o (s15.obj h1) h2 h3 h4 h5)) ?_ (D6.same s7)
  cases z:H B' with
  | none=>rfl
  | some o=>rw [s15.obj z] at nB;cases nB
 | @drop n hp hn hk q=>
  subst hp;refine zgd.Qn (SqL.of e3) (at0 (i:=0) rfl) ?_;walk_at "rd";rename_i T4 H4 s4 n4 e4;refine zL [Str.ofString "table",Str.ofString "word",Str.ofString "let"] (SqT.of e4) ?_;rw [decide_eq_false s!"b"]
  walk_at "rd";have ei4:=s4.obj ei3;have e34:=s4.obj e3;have s14:=s13.trans s4;have D4:=D.same s14;refine zA (fun σ H'=>σ=[some s!"g",some s!"F",some s!"H",some s!"1",some (.str s!"B{"drop"}"),none]/\zV a T L Bk H H'/\∃B',H B'=none/\DeskAt C.Desk.addr H' a T L B' ⟨zr st.f n none,st.dn++[(n,st.f n,none)],[]⟩) ?_ ?_
  ·walk_at "rd";walk_at "ite"
   rotate_left
   ·rename_i c;exact absurd rfl c
   walk_at "rd";refine zfS none D4 rfl (fun _=>hk) few s!"e" fun B' H6 r6 nB D6 m6=>?_
   walk_at "rd";refine ⟨rfl,fun q o h1 h2 h3 h4 h5=>r6 q o (s14.obj h1) h2 h3 h4 h5,B',?_,D6⟩
   cases z:H B' with
   | none=>rfl
   | some o=>rw [s14.obj z] at nB;cases nB
  rintro _ H6 ⟨rfl,r6,B',nB,D6⟩;walk_at "rd";refine zA (fun σ H'=>σ=[some s!"g",some s!"F",some s!"H",some s!"1",some (.str s!"B{"drop"}"),none]/\H6=H') ?_ ?_
  ·walk_at "rd";walk_at "ite"
   ·rename_i c;exact absurd c s!"b"
   walk_at "rd";exact ⟨rfl,rfl⟩
  rintro _ _ ⟨rfl,rfl⟩;walk_at "rd";refine zA (fun σ H'=>σ=[some s!"g",some s!"F",some s!"H",some s!"1",some (.str s!"B{"drop"}"),none]/\H6=H') ?_ ?_
  ·walk_at "rd";walk_at "ite"
   ·rename_i c;exact absurd c s!"b"
   walk_at "rd";exact ⟨rfl,rfl⟩
  rintro _ _ ⟨rfl,rfl⟩;walk_at "rd";obtain ⟨dx6,ei6⟩:=D6.ins;rename_i T5 H5 s5 n5 e5;refine zL [Str.ofString "drop",Str.ofString "undo",Str.ofString "redo",Str.ofString "names"] (SqT.of e5) ?_;rw [decide_eq_true s!"b"]
  walk_at "rd";refine wM (D6.same s5) (fun ns nd h=>?_) (fun n hn=>?_) fun t7 H7 s7 nm=>?_
  ·refine few ns nd fun n hn=>?_
   have:=h n hn;unfold zr at this;dsimp only at this;split at this
   ·exact absurd rfl this
   ·exact this
  ·refine nml n ?_;unfold zr at hn;dsimp only at hn;split at hn
   ·exact absurd rfl hn
   ·exact hn
  ·exact q B' H7 t7 (fun q o h1 h2 h3 h4 h5=>s7.obj (s5.obj (r6 q o h1 h2 h3 h4 h5))) nB (D6.same (s5.trans s7)) nm
 | undo hp q0 q=>
  subst hp;refine zgd.Qn (SqL.of e3) (at0 (i:=0) rfl) ?_;walk_at "rd";rename_i T4 H4 s4 n4 e4;refine zL [Str.ofString "table",Str.ofString "word",Str.ofString "let"] (SqT.of e4) ?_;rw [decide_eq_false s!"b"]
  walk_at "rd";have s14:=s13.trans s4;have D4:=D.same s14;refine zA (fun σ H'=>σ=[some s!"g",some s!"F",some s!"H",some s!"1",some (.str s!"B{"undo"}"),none]/\H4=H') ?_ ?_
  ·walk_at "rd";walk_at "ite"
   ·rename_i c;exact absurd c s!"b"
   walk_at "rd";exact ⟨rfl,rfl⟩
  rintro _ _ ⟨rfl,rfl⟩;walk_at "rd";refine zA (fun σ H'=>σ=[some s!"g",some s!"F",some s!"H",some s!"1",some (.str s!"B{"undo"}"),none]/\zV a T L Bk H H'/\∃xs d,st.dn=xs++[d]/\DeskAt C.Desk.addr H' a T L Bk ⟨zr st.f d.1 d.2.1,xs,st.bk++[d]⟩) ?_ ?_
  ·walk_at "rd";walk_at "ite"
   rotate_left
   ·rename_i c;exact absurd rfl c
   walk_at "rd";refine zlb D4 few s!"e" (fun z H6 s6=>q0 z H6 (s14.trans s6)) fun xs d e=>⟨fun z=>?_,fun H6 r6 D6 _=>?_⟩
   ·have fd:=F.dds d (by rw [e];simp)
    have hh:=F.hist;rw [e,List.reverse_append] at hh;rw [hh.1];exact fun y=>fd.2.2.1 ⟨z,y⟩
   ·walk_at "rd";exact ⟨rfl,fun q o h1 h2 h3 h4 h5=>r6 q o (s14.obj h1) h2 h3 h4 h5,xs,d,e,D6⟩
  rintro _ H6 ⟨rfl,r6,xs,d,e,D6⟩;walk_at "rd";refine zA (fun σ H'=>σ=[some s!"g",some s!"F",some s!"H",some s!"1",some (.str s!"B{"undo"}"),none]/\H6=H') ?_ ?_
  ·walk_at "rd";walk_at "ite"
   ·rename_i c;exact absurd c s!"b"
   walk_at "rd";exact ⟨rfl,rfl⟩
  rintro _ _ ⟨rfl,rfl⟩;walk_at "rd";obtain ⟨dx6,ei6⟩:=D6.ins;rename_i T5 H5 s5 n5 e5;refine zL [Str.ofString "drop",Str.ofString "undo",Str.ofString "redo",Str.ofString "names"] (SqT.of e5) ?_;rw [decide_eq_true s!"b"]
  walk_at "rd";have F2:=F.undo e;refine wM (D6.same s5) F2.fewN (fun n hn=>Nat.le_trans (F2.nmlen n hn) s!"c") fun t7 H7 s7 nm=>?_
  exact q xs d e H7 t7 (fun q o h1 h2 h3 h4 h5=>s7.obj (s5.obj (r6 q o h1 h2 h3 h4 h5))) (D6.same (s5.trans s7)) nm
 | redo hp q0 q=>
  subst hp;refine zgd.Qn (SqL.of e3) (at0 (i:=0) rfl) ?_;walk_at "rd";rename_i T4 H4 s4 n4 e4;refine zL [Str.ofString "table",Str.ofString "word",Str.ofString "let"] (SqT.of e4) ?_;rw [decide_eq_false s!"b"]
  walk_at "rd";have s14:=s13.trans s4;have D4:=D.same s14;refine zA (fun σ H'=>σ=[some s!"g",some s!"F",some s!"H",some s!"1",some (.str s!"B{"redo"}"),none]/\H4=H') ?_ ?_
  ·walk_at "rd";walk_at "ite"
   ·rename_i c;exact absurd c s!"b"
   walk_at "rd";exact ⟨rfl,rfl⟩
  rintro _ _ ⟨rfl,rfl⟩;walk_at "rd";refine zA (fun σ H'=>σ=[some s!"g",some s!"F",some s!"H",some s!"1",some (.str s!"B{"redo"}"),none]/\H4=H') ?_ ?_
  ·walk_at "rd";walk_at "ite"
   ·rename_i c;exact absurd c s!"b"
   walk_at "rd";exact ⟨rfl,rfl⟩
  rintro _ _ ⟨rfl,rfl⟩;walk_at "rd";refine zA (fun σ H'=>σ=[some s!"g",some s!"F",some s!"H",some s!"1",some (.str s!"B{"redo"}"),none]/\zV a T L Bk H H'/\∃xs d,st.bk=xs++[d]/\DeskAt C.Desk.addr H' a T L Bk ⟨zr st.f d.1 d.2.2,st.dn++[d],xs⟩) ?_ ?_
  ·walk_at "rd";walk_at "ite"
   rotate_left
   ·rename_i c;exact absurd rfl c
   walk_at "rd";refine zlc D4 few s!"e" (fun z H6 s6=>q0 z H6 (s14.trans s6)) fun xs d e=>⟨fun z=>?_,fun H6 r6 D6 _=>?_⟩
   ·have fd:=F.dds d (by rw [e];simp)
    have hh:=F.fut;rw [e,List.reverse_append] at hh;rw [hh.1];exact fun y=>fd.2.2.1 ⟨y,z⟩
   ·walk_at "rd";exact ⟨rfl,fun q o h1 h2 h3 h4 h5=>r6 q o (s14.obj h1) h2 h3 h4 h5,xs,d,e,D6⟩
  rintro _ H6 ⟨rfl,r6,xs,d,e,D6⟩;walk_at "rd";obtain ⟨dx6,ei6⟩:=D6.ins;rename_i T5 H5 s5 n5 e5;refine zL [Str.ofString "drop",Str.ofString "undo",Str.ofString "redo",Str.ofString "names"] (SqT.of e5) ?_;rw [decide_eq_true s!"b"]
  walk_at "rd";have F2:=F.redo e;refine wM (D6.same s5) F2.fewN (fun n hn=>Nat.le_trans (F2.nmlen n hn) s!"c") fun t7 H7 s7 nm=>?_
  exact q xs d e H7 t7 (fun q o h1 h2 h3 h4 h5=>s7.obj (s5.obj (r6 q o h1 h2 h3 h4 h5))) (D6.same (s5.trans s7)) nm
 | names hp q=>
  subst hp;refine zgd.Qn (SqL.of e3) (at0 (i:=0) rfl) ?_;walk_at "rd";rename_i T4 H4 s4 n4 e4;refine zL [Str.ofString "table",Str.ofString "word",Str.ofString "let"] (SqT.of e4) ?_;rw [decide_eq_false s!"b"]
  walk_at "rd";have s14:=s13.trans s4;have D4:=D.same s14;have ei4:=s4.obj ei3;refine zA (fun σ H'=>σ=[some s!"g",some s!"F",some s!"H",some s!"1",some (.str s!"B{"names"}"),none]/\H4=H') ?_ ?_
  ·walk_at "rd";walk_at "ite"
   ·rename_i c;exact absurd c s!"b"
   walk_at "rd";exact ⟨rfl,rfl⟩
  rintro _ _ ⟨rfl,rfl⟩;walk_at "rd";refine zA (fun σ H'=>σ=[some s!"g",some s!"F",some s!"H",some s!"1",some (.str s!"B{"names"}"),none]/\H4=H') ?_ ?_
  ·walk_at "rd";walk_at "ite"
   ·rename_i c;exact absurd c s!"b"
   walk_at "rd";exact ⟨rfl,rfl⟩
  rintro _ _ ⟨rfl,rfl⟩;walk_at "rd";refine zA (fun σ H'=>σ=[some s!"g",some s!"F",some s!"H",some s!"1",some (.str s!"B{"names"}"),none]/\H4=H') ?_ ?_
  ·walk_at "rd";walk_at "ite"
   ·rename_i c;exact absurd c s!"b"
   walk_at "rd";exact ⟨rfl,rfl⟩
  rintro _ _ ⟨rfl,rfl⟩;walk_at "rd";rename_i T5 H5 s5 n5 e5;refine zL [Str.ofString "drop",Str.ofString "undo",Str.ofString "redo",Str.ofString "names"] (SqT.of e5) ?_;rw [decide_eq_true s!"b"]
  walk_at "rd";exact wM (D4.same s5) few nml fun t7 H7 s7 nm=>q H7 t7 (s14.trans (s5.trans s7)) nm
 | @askT ask n x hp ha hn hx q=>
  obtain ⟨a0,a1,a2,a3,a4,a5⟩:=za8 ha;subst hp;refine zgd.Qn (SqL.of e3) (at0 (i:=0) rfl) ?_;walk_at "rd";rename_i T4 H4 s4 n4 e4;refine zL [Str.ofString "table",Str.ofString "word",Str.ofString "let"] (SqT.of e4) ?_;rw [decide_eq_false (a1)];walk_at "rd";have s14:=s13.trans s4;have D4:=D.same s14;have ei4:=s4.obj ei3;have e34:=s4.obj e3;refine zA s!"aW" ?_ ?_
  ·walk_at "rd";walk_at "ite"
   ·rename_i c;exact absurd c (a2)
   walk_at "rd";exact ⟨rfl,rfl⟩
  rintro _ _ ⟨rfl,rfl⟩;walk_at "rd";refine zA s!"aW" ?_ ?_
  ·walk_at "rd";walk_at "ite"
   ·rename_i c;exact absurd c (a3)
   walk_at "rd";exact ⟨rfl,rfl⟩
  rintro _ _ ⟨rfl,rfl⟩;walk_at "rd";refine zA s!"aW" ?_ ?_
  ·walk_at "rd";walk_at "ite"
   ·rename_i c;exact absurd c (a4)
   walk_at "rd";exact ⟨rfl,rfl⟩
  rintro _ _ ⟨rfl,rfl⟩;walk_at "rd";rename_i T5 H5 s5 n5 e5;refine zL [Str.ofString "drop",Str.ofString "undo",Str.ofString "redo",Str.ofString "names"] (SqT.of e5) ?_;rw [decide_eq_false (a5)];walk_at "rd";have s15:=s14.trans s5;have D5:=D.same s15;have ei5:=s5.obj ei4;have e35:=s5.obj e34;obtain rfl:=hf.uniq (xz ha hn);refine zL _ (kf H5) ?_;rw [decide_eq_true (by simp)]
  obtain ⟨kvs,ek,kv⟩:=D5.dict;obtain ⟨tb,v1,X1⟩:=kv.vals n x hx;walk_at "rd";refine wL ek v1 ?_;walk_at "rd";exact ziK ha X1 (F.tabs n x hx) (q.same s15)
 | @askN ask qs hp ha hn q=>
  obtain ⟨a1,a2,a3,a4,a5⟩:=zld ha;subst hp;refine zgd.Qn (SqL.of e3) (at0 (i:=0) rfl) ?_;walk_at "rd";rename_i T4 H4 s4 n4 e4;refine zL [Str.ofString "table",Str.ofString "word",Str.ofString "let"] (SqT.of e4) ?_;rw [decide_eq_false (a1)];walk_at "rd";have s14:=s13.trans s4;have D4:=D.same s14;have ei4:=s4.obj ei3;have e34:=s4.obj e3;refine zA s!"aW" ?_ ?_
  ·walk_at "rd";walk_at "ite"
   ·rename_i c;exact absurd c (a2)
   walk_at "rd";exact ⟨rfl,rfl⟩
  rintro _ _ ⟨rfl,rfl⟩;walk_at "rd";refine zA s!"aW" ?_ ?_
  ·walk_at "rd";walk_at "ite"
   ·rename_i c;exact absurd c (a3)
   walk_at "rd";exact ⟨rfl,rfl⟩
  rintro _ _ ⟨rfl,rfl⟩;walk_at "rd";refine zA s!"aW" ?_ ?_
  ·walk_at "rd";walk_at "ite"
   ·rename_i c;exact absurd c (a4)
   walk_at "rd";exact ⟨rfl,rfl⟩
  rintro _ _ ⟨rfl,rfl⟩;walk_at "rd";rename_i T5 H5 s5 n5 e5;refine zL [Str.ofString "drop",Str.ofString "undo",Str.ofString "redo",Str.ofString "names"] (SqT.of e5) ?_;rw [decide_eq_false (a5)];walk_at "rd";have s15:=s14.trans s5;have e35:=s5.obj e34;obtain ⟨g,hg2,nk⟩:=wR ha hn;obtain rfl:=hf.uniq hg2;refine zL _ (kf H5) ?_;rw [decide_eq_false nk];walk_at "rd";have ql:qs.length<=4:=by rcases ha with ⟨_,h⟩ | ⟨_,h⟩ <;> omega
  refine xX ?_;walk_at "rd";rename_i D6 H6 s6 n6 e6;rw [show zaC (List.map V.str (ask::qs)) (some 1) none=qs.map V.str from zfQ (List.map V.str (ask::qs)) 1] at e6
  refine wJ ((qs.map zB).map V.int) (SqL.of e6) (by rw [List.length_map,List.length_map,List.length_map]) (by rw [List.length_map];omega) (fun i x y H' Q' hx hy s' hQ=>?_) fun D7 H7 s7 n7 e7=>?_
  ·rw [List.getElem?_map] at hx hy;rw [List.getElem?_map] at hy;cases hw:qs[i]? with
   | none=>rw [hw] at hx;cases hx
   | some w=>
   rw [hw] at hx hy;cases hx;cases hy;obtain ⟨b1,b2⟩:=zbK (List.all_eq_true.mp hn w s!"4{hw}");walk_at "rd";refine zhj b1 s!".{b2}" ?_
   exact hQ _ (Same.refl _)
  walk_at "rd";exact ziL (SqL.of e7) (zhy hn rfl) (by rw [List.length_map];exact ha) (q.same (s15.trans (s6.trans s7)))
def zgN (K:PySem.W.Frag):Sp:=fun vs H Q _=>∃(a:Addr) (ns:List Int) (k:Int),vs=[.ref a,.int k]/\SqL K H a (ns.map V.int)/\0<=k/\k<=1000/\∀v:Int,Q (.int v) H
theorem zlh {K:PySem.W.Frag} {k:Int} {a:Addr} {ns:List Int} {H:Hp} {Q:VK} {E:XK} (h1:SqL K H a (ns.map V.int)) (h0:0<=k) (h2:k<=1000) (h:∀v:Int,Q (.int v) H):zgN K [.ref a,.int k] H Q E:=⟨a,ns,k,rfl,h1,h0,h2,h⟩
local macro_rules|`(tactic|walk_at "rdcall")=>`(tactic|((with_reducible refine' zlh ?a ?b ?c ?_);(case a=>walk_at "hp");(case b=>omega);(case c=>omega);intro _))
theorem ze7 (F:Src K mg "_law_cell" wz ["_law_script","_law_k"]) (B:Blt mg) (C:Cls K mg base) (R:Rel K mg base C) (Kc:Cst K mg):Def P w K mg base (CXE P w) 1 "_law_cell" ["_law_script","_law_k"] (zgN K):=by
 refine F.ok (CX:=CXE P w) (k:=0) zaY s!"s" s!"u"
 ·obtain ⟨_,_,_,rfl,_⟩:=h;rfl
 have nd:=zaY.nd;obtain ⟨a,ns,k,rfl,hS,h0,h1,q⟩:=h;refine ⟨_,s!"d{s!"w{s!"K{op_eqA hr.units0}{s!"aw"}{pe_int}"}{s!"f{s!"t{s!"j{op_mulA}{pe_int}{s!"j{op_addA}{pv 1}{pe_int}"}"}"}"}"}{s!"d{s!"w{s!"K{zgc}{pv 1}{s!"aw"}"}{s!"f{s!"t{s!"?{ix_A}{pv 0}{pv 1}"}"}"}"}{s!"f{s!"t{s!"j{op_addA}{s!"?{ix_A}{pv 0}{s!"j{op_modA}{pv 1}{s!"aw"}"}"}{s!"bw"}"}"}"}"}",?_⟩
 walk_at "ds";refine zh [some s!"g",some (.int k)] rfl ?_;have hl:(ns.map V.int).length=ns.length:=List.length_map _;walk_at "rd";walk_at "ite"
 ·walk_at "rd";exact q _
 ·rename_i c0;walk_at "rd";walk_at "ite"
  ·rename_i c1;walk_at "rd";refine zcm hS s!"e" s!"e" fun v _ _=>?_
   walk_at "rd";exact q _
  ·rename_i c1;walk_at "rd";refine zcm hS (Int.emod_nonneg _ s!"e") (by have:=Int.emod_lt_of_pos k (show (0:Int)<((ns.map V.int).length:Int) by omega);omega) fun v _ _=>?_
   walk_at "rd";exact q _
def ze8:Sp:=fun vs H Q _=>∃c k p:Int,vs=[.int c,.int k,.int p]/\0<=k/\k<=1000/\0<p/\∀v:Int,0<=v->v<p->Q (.int v) H
theorem ziR {c k p:Int} {H:Hp} {Q:VK} {E:XK} (h0:0<=k) (h1:k<=1000) (hp:0<p) (h:∀v:Int,0<=v->v<p->Q (.int v) H):ze8 [.int c,.int k,.int p] H Q E:=⟨c,k,p,rfl,h0,h1,hp,h⟩
local macro_rules|`(tactic|walk_at "rdcall")=>`(tactic|((with_reducible refine ziR ?a ?b ?c ?_);(case a=>omega);(case b=>omega);(case c=>omega);intro _ _ _))
theorem zdc (F:Src K mg "_law_mixed" xM ["_law_cell_here","_law_k","_law_prime"]) (B:Blt mg) (C:Cls K mg base) (R:Rel K mg base C) (Kc:Cst K mg):Def P w K mg base (CXE P w) 1 "_law_mixed" ["_law_cell_here","_law_k","_law_prime"] ze8:=by
 refine F.ok (CX:=CXE P w) (k:=0) zaa s!"s" s!"u"
 ·obtain ⟨_,_,_,rfl,_⟩:=h;rfl
 have nd:=zaa.nd;obtain ⟨c,k,p,rfl,h0,h1,hp,q⟩:=h;refine ⟨_,s!"d{s!"i{3}{s!"j{op_modA}{s!"j{op_mulA}{s!"j{op_addA}{s!"j{op_addA}{s!"j{op_addA}{pv 0}{s!"j{op_mulA}{s!"bw"}{pv 1}"}"}{s!"bw"}"}{pe_int}"}{pe_int}"}{pe_int}"}"}{s!"d{s!"i{3}{s!"j{op_modA}{s!"j{op_mulA}{pv 3}{pv 3}"}{pe_int}"}"}{s!"f{s!"t{s!"j{op_modA}{s!"j{op_mulA}{pv 3}{pe_int}"}{pv 2}"}"}"}"}",?_⟩
 walk_at "ds";refine zh [some (.int c),some (.int k),some (.int p),none] rfl ?_;walk_at "rd";exact q _ (Int.emod_nonneg _ s!"e") (Int.emod_lt_of_pos _ hp)
def zli (fs ws:List Int):Prop:=fs.length=ws.length/\∀(i:Nat) (v w:Int),fs[i]? =some v->ws[i]? =some w->0<=v/\v<w
def zce (K:PySem.W.Frag):Sp:=fun vs H Q _=>∃(c:Int) (a:Addr) (ws:List Int) (p:Int),vs=[.int c,.ref a,.int p]/\SqL K H a (ws.map V.int)/\ws.length<=100/\(∀x∈ws,0<x/\x<2^60)/\0<p/\
 ∀(r:Addr) (H':Hp) (fs:List Int),Same H H'->H r=none->H' r=some (.lst (fs.map V.int))->zli fs ws->Q (.ref r) H'
theorem zd6 {K:PySem.W.Frag} {c p:Int} {a:Addr} {H:Hp} {Q:VK} {E:XK} (ws:List Int) (h1:SqL K H a (ws.map V.int)) (h2:ws.length<=100) (h3:∀x∈ws,0<x/\x<2^60) (hp:0<p)
 (h:∀(r:Addr) (H':Hp) (fs:List Int),Same H H'->H r=none->H' r=some (.lst (fs.map V.int))->zli fs ws->Q (.ref r) H'):zce K [.int c,.ref a,.int p] H Q E:=⟨c,a,ws,p,rfl,h1,h2,h3,hp,h⟩
theorem zdd (F:Src K mg "_law_draws" xN ["_law_cell_here","_law_widths","_law_prime"]) (B:Blt mg) (C:Cls K mg base) (R:Rel K mg base C) (Kc:Cst K mg) (D__law_mixed:s!"m{1}{"_law_mixed"}{["_law_cell_here","_law_k","_law_prime"]}{ze8}"):Def P w K mg base (CXE P w) 2 "_law_draws" ["_law_cell_here","_law_widths","_law_prime"] (zce K):=by
 refine F.ok (CX:=CXE P w) (k:=1) zab s!"s" s!"u"
 ·obtain ⟨_,_,_,_,rfl,_⟩:=h;rfl
 have nd:=zab.nd;obtain ⟨c,a,ws,p,rfl,hS,h100,hw,hp,q⟩:=h;have hl:(ws.map V.int).length=ws.length:=List.length_map _;refine ⟨_,s!"d{s!"i{3}{pe_int}"}{@xn _ _ _ _ _ s!"w{s!"K{op_geI}{pv 0}{s!"bh{18}"}"}{s!"f{s!"i{3}{s!"j{op_subI}{pv 0}{s!"bh{18}"}"}"}"}" s!"d{s!"i{4}{s!"x{pa_nil}"}"}{s!"d{@ps_for _ _ _ _ _ _ _ _ PassesOwn.never rfl s!"bC{s!"a{s!"bs"}{pa_nil}"}" s!"-{5}{nd}" s!"f{@ps_if _ _ _ _ _ _ _ _ s!"K{op_gtI}{pv 3}{pe_int}" s!"d{s!"z{s!"an{pv 4}{s!"a{s!"j{op_modA}{pv 3}{s!"bx"}"}{pa_nil}"}"}"}{s!"f{s!"i{3}{s!"j{op_divA}{pv 3}{s!"bx"}"}"}"}" s!"f{s!"z{s!"an{pv 4}{s!"a{s!"j{op_modA}{s!"l{D__law_mixed}{xpass_nox}{s!"a{pv 0}{s!"a{pv 5}{s!"|"}"}"}"}{s!"bx"}"}{pa_nil}"}"}"}"}" (by intro _;rfl)}{s!"br"}"}"}",?_⟩
 walk_at "ds";refine zh [some (.int c),some s!"g",some (.int p),none,none,none] rfl ?_;walk_at "rd";refine zA (fun σ H'=>H=H'/\∃x:Int,σ=[some (.int c),some s!"g",some (.int p),some (.int x),none,none]) ?_ ?_
 ·walk_at "rd";walk_at "ite"
  ·walk_at "rd";exact ⟨rfl,_,rfl⟩
  ·walk_at "rd";exact ⟨rfl,_,rfl⟩
 rintro σ _ ⟨rfl,x0,rfl⟩;walk_at "rd";rename_i r H1 s1 hn1 e1;refine zdh (n:=((ws.map V.int).length:Int).toNat) (fun i σ H2=>Same H H2/\i<=ws.length/\∃(x:Int) (fs:List Int) (z:Option V),σ=[some (.int c),some (.ref a),some (.int p),some (.int x),some (.ref r),z]/\
  H2 r=some (.lst (fs.map V.int))/\fs.length=i/\∀(i:Nat) (v w:Int),fs[i]? =some v->ws[i]? =some w->0<=v/\v<w) ⟨s1,Nat.zero_le _,x0,[],_,rfl,e1,rfl,fun i v w h=>by simp at h⟩ ?_ ?_
 ·rintro i σ H2 hi ⟨s2,hi',x,fs,z,rfl,e2,hfl,hfs⟩;have hi2:i<ws.length:=by omega
  obtain ⟨y,hy⟩:∃y,ws[i]? =some y:=⟨_,List.getElem?_eq_getElem hi2⟩;have hyp:=hw y s!"4{hy}";have hS2:SqL K H2 a (ws.map V.int):=s2.seq hS;have grow:∀v:Int,0<=v->v<y->(fs++[v]).length=i+1/\∀(i:Nat) (v' w:Int),(fs++[v])[i]? =some v'->ws[i]? =some w->0<=v'/\v'<w:=fun v h0 h1=>by
   refine ⟨by rw [List.length_append,hfl];rfl,fun j v' w hv hw'=>?_⟩
   rcases Nat.lt_trichotomy j i with hj | hj | hj
   ·rw [List.getElem?_append_left s!"e"] at hv
    exact hfs j v' w hv hw'
   ·subst hj;rw [List.getElem?_append_right s!"e",hfl,Nat.sub_self] at hv
    rw [hy] at hw';cases hv;cases hw';exact ⟨h0,h1⟩
   ·rw [List.getElem?_eq_none (by rw [List.length_append,hfl];simp;omega)] at hv
    cases hv
  have em:∀v:Int,(fs.map V.int)++[.int v]=(fs++[v]).map V.int:=fun v=>by rw [List.map_append];rfl
  have ei:(0:Int)+(i:Int)=(i:Int):=by omega
  have hz:(fs.map V.int).length<sizeLine:=by rw [List.length_map,hfl];exact zz s!"e"
  rw [ei];walk_at "rd";walk_at "ite"
  ·walk_at "rd";refine zcm hS2 s!"e" s!"e" fun v _ hv=>?_
   rw [Int.toNat_natCast,hy] at hv;cases hv;walk_at "rd";refine xo e2 hz ?_;walk_at "rd";refine zcm ((s2.upd hn1).seq hS) s!"e" s!"e" fun v _ hv=>?_
   rw [Int.toNat_natCast,hy] at hv;cases hv;walk_at "rd";exact ⟨s2.upd hn1,hi2,_,_,_,rfl,by rw [em];exact zi,grow _ (Int.emod_nonneg _ s!"e") (Int.emod_lt_of_pos _ s!"e")⟩
  ·walk_at "rd";refine zcm hS2 s!"e" s!"e" fun v _ hv=>?_
   rw [Int.toNat_natCast,hy] at hv;cases hv;walk_at "rd";refine xo e2 hz ?_;walk_at "rd";exact ⟨s2.upd hn1,hi2,_,_,_,rfl,by rw [em];exact zi,grow _ (Int.emod_nonneg _ s!"e") (Int.emod_lt_of_pos _ s!"e")⟩
 ·rintro σ H2 ⟨s2,hi',x,fs,z,rfl,e2,hfl,hfs⟩;walk_at "rd";exact q r H2 fs s2 hn1 e2 ⟨by omega,hfs⟩
def zgO (cN cD:Addr):Sp:=fun vs H Q _=>∃(a C:Addr) (o:Obj),vs=[.ref a]/\H a=some s!"a6"/\(C=cN\/C=cD)/\∀H',Same H H'->Q s!"#" H'
theorem zlj {H H2:Hp} {a:Addr} {u:HO} (n:H a=none) (s:Same (upd H a u) H2):Same H (rem H2 a):=fun b o q=>by
 have ne:b≠a:=fun z=>by rw [z,n] at q;cases q
 rw [zX ne];exact s b o (by rw [zg ne];exact q)
theorem zhE {K:PySem.W.Frag} {a cN cD C:Addr} {H:Hp} {Q:VK} (Z:ExcK K C) (hC:C=cN\/C=cD) (h:∀H',Same H H'->Q s!"#" H'):zq5 (zgO cN cD) a s!"k" [.ref a] H Q:=
 ⟨rfl,C,rfl,fun o n=>⟨a,C,o,rfl,zi,hC,fun H' s=>h _ (zlj n s)⟩⟩
theorem ze9 (F:Src K mg "_law_sole" wA ["_law_e"]) (B:Blt mg) (C:Cls K mg base) (R:Rel K mg base C) (Kc:Cst K mg):DefH P w K mg base (CXE P w) 1 "_law_sole" ["_law_e"] (zgO C.NoName.addr C.NoDeed.addr):=by
 refine F.okH (CX:=CXE P w) (k:=0) zaZ s!"s" (fun f cdv A outer s H vs Q E h=>?_)
 ·obtain ⟨_,_,_,rfl,_⟩:=h;rfl
 have nd:=zaZ.nd;obtain ⟨a,C0,o,rfl,ea,hC,q⟩:=h;refine ⟨_,s!"d{s!"i{1}{s!"x{s!"a{s!"A{zx}{B.isinstance}{PyProof.Rows.boot_isinstance}{s!"a{pv 0}{s!"a{s!"T{.ref C.NoCount.addr}{C.NoCount.gl}{rfl}"}{pa_nil}"}"}"}{s!"a{s!"A{zx}{B.isinstance}{PyProof.Rows.boot_isinstance}{s!"a{pv 0}{s!"a{s!"T{.ref C.NoDeed.addr}{C.NoDeed.gl}{rfl}"}{pa_nil}"}"}"}{s!"a{s!"A{zx}{B.isinstance}{PyProof.Rows.boot_isinstance}{s!"a{pv 0}{s!"a{s!"T{.ref C.NoLine.addr}{C.NoLine.gl}{rfl}"}{pa_nil}"}"}"}{s!"a{s!"A{zx}{B.isinstance}{PyProof.Rows.boot_isinstance}{s!"a{pv 0}{s!"a{s!"T{.ref C.NoName.addr}{C.NoName.gl}{rfl}"}{pa_nil}"}"}"}{pa_nil}"}"}"}"}"}"}{s!"d{s!"i{1}{s!"j{op_addA}{pv 1}{s!"x{s!"a{s!"A{zx}{B.isinstance}{PyProof.Rows.boot_isinstance}{s!"a{pv 0}{s!"a{s!"T{.ref C.NotApart.addr}{C.NotApart.gl}{rfl}"}{pa_nil}"}"}"}{s!"a{s!"A{zx}{B.isinstance}{PyProof.Rows.boot_isinstance}{s!"a{pv 0}{s!"a{s!"T{.ref C.NoTable.addr}{C.NoTable.gl}{rfl}"}{pa_nil}"}"}"}{s!"a{s!"A{zx}{B.isinstance}{PyProof.Rows.boot_isinstance}{s!"a{pv 0}{s!"a{s!"T{.ref C.NotOdd.addr}{C.NotOdd.gl}{rfl}"}{pa_nil}"}"}"}{s!"a{s!"A{zx}{B.isinstance}{PyProof.Rows.boot_isinstance}{s!"a{pv 0}{s!"a{s!"T{.ref C.NoWord.addr}{C.NoWord.gl}{rfl}"}{pa_nil}"}"}"}{pa_nil}"}"}"}"}"}"}"}{s!"d{s!"i{1}{s!"j{op_addA}{pv 1}{s!"x{s!"a{s!"A{zx}{B.isinstance}{PyProof.Rows.boot_isinstance}{s!"a{pv 0}{s!"a{s!"T{.ref C.TooMany.addr}{C.TooMany.gl}{rfl}"}{pa_nil}"}"}"}{s!"a{s!"A{zx}{B.isinstance}{PyProof.Rows.boot_isinstance}{s!"a{pv 0}{s!"a{s!"T{.ref C.NoFraction.addr}{C.NoFraction.gl}{rfl}"}{pa_nil}"}"}"}{s!"a{s!"A{zx}{B.isinstance}{PyProof.Rows.boot_isinstance}{s!"a{pv 0}{s!"a{s!"T{.ref C.NoPaper.addr}{C.NoPaper.gl}{rfl}"}{pa_nil}"}"}"}{s!"a{s!"A{zx}{B.isinstance}{PyProof.Rows.boot_isinstance}{s!"a{pv 0}{s!"a{s!"T{.ref C.NoPrime.addr}{C.NoPrime.gl}{rfl}"}{pa_nil}"}"}"}{pa_nil}"}"}"}"}"}"}"}{s!"d{s!"i{1}{s!"j{op_addA}{pv 1}{s!"x{s!"a{s!"A{zx}{B.isinstance}{PyProof.Rows.boot_isinstance}{s!"a{pv 0}{s!"a{s!"T{.ref C.NoRow.addr}{C.NoRow.gl}{rfl}"}{pa_nil}"}"}"}{s!"a{s!"A{zx}{B.isinstance}{PyProof.Rows.boot_isinstance}{s!"a{pv 0}{s!"a{s!"T{.ref C.NoShuffle.addr}{C.NoShuffle.gl}{rfl}"}{pa_nil}"}"}"}{s!"a{s!"A{zx}{B.isinstance}{PyProof.Rows.boot_isinstance}{s!"a{pv 0}{s!"a{s!"T{.ref C.NoText.addr}{C.NoText.gl}{rfl}"}{pa_nil}"}"}"}{pa_nil}"}"}"}"}"}"}{s!"f{s!"t{s!"aq{s!"`{znD}{@pe_bm _ _ _ _ _ _ _ _ _ _ _ _ PySem.F.plainAttrs_list PySem.F.slot_list_count PySem.F.type_list_count zh2 (pv 1) s!"a{pe_bl}{pa_nil}" (by rfl) (by rfl) (by rfl) (by rfl) (by rfl)}{pe_int}"}{s!"aM{s!"A{zx}{B.isinstance}{PyProof.Rows.boot_isinstance}{s!"a{pv 0}{s!"a{s!"ad{.ty "ValueError"}{B.ValueError}{PyProof.Rows.Boot.«ValueError»}"}{pa_nil}"}"}"}"}"}"}"}"}"}"}",?_⟩
 try dsimp only [zdV,xU,Cx.inH,Cx.tried]
 refine zh [some s!"g",none] rfl ?_;have Z1:=C.NoName.exc;have Z2:=C.NoDeed.exc;have n1:=R.r46;have n2:=R.r47;have n3:=R.r48;have n4:=R.r1;have n5:=R.r49;have n6:=R.r50;have n7:=R.r51;have n8:=R.r52;have n9:=R.r53;have n10:=R.r54;have n11:=R.r55;have n12:=R.r56;have n13:=R.r57;have n14:=R.r58;have n15:=R.r59;have n16:=R.r60;have d1:=R.r61;have d2:=R.r21;have d3:=R.r17;have d4:=R.r16;have d5:=R.r62;have d6:=R.r18;have d7:=R.r63;have d8:=R.r19;have d9:=R.r20;have d10:=R.r64;have d11:=R.r65;have d12:=R.r66;have d13:=R.r67;have d14:=R.r68;have d15:=R.r69;have d16:=R.r70;rcases hC with rfl | rfl
 ·walk_at "rd";refine zdv (k:=1) [false,false,false,true,false,false,false,false,false,false,false,false,false,false,false] (by walk_at "hp") rfl ?_
  walk_at "rdi";exact q _ (by walk_at "sm")
 ·walk_at "rd";refine zdv (k:=1) [false,true,false,false,false,false,false,false,false,false,false,false,false,false,false] (by walk_at "hp") rfl ?_
  walk_at "rdi";exact q _ (by walk_at "sm")
def RT (w:Str) (v:V) (Q:VK) (H:Hp):Prop:=∀r H1,Same H H1->H1 r=some (.tup [.str w,v])->Q (.ref r) H1
def zhF (Q:VK):VK:=fun v H=>RT "told" v Q H
def zlk (e:ErrC) (Q:VK):XK:=fun cls dx H=>(cls=.ref e.nm/\∃d n,dx=some d/\H d=some (.xd [("name",.str n)])/\RT "name" (.str n) Q H)\/(cls=.ref e.ln/\RT "line" .non Q H)\/(cls=.ref e.tb/\RT "table" .non Q H)\/(cls=.ref e.wd/\RT "word" .non Q H)\/(cls=.ref e.mn/\RT "many" .non Q H)\/(cls=.ref e.dd/\RT "deed" .non Q H)\/(cls=.ref e.od/\RT "odd" .non Q H)\/(cls=.ref e.ap/\RT "apart" .non Q H)\/(cls=.ref e.ct/\RT "count" .non Q H)
def znn (e:ErrC) (CD:Addr):Sp:=fun vs H Q _=>∃(a T L B:Addr) (st:DSt) (t:Str),vs=[.ref a,.str t]/\DeskAt CD H a T L B st/\Fine st/\Tx t/\TellC e CD st (Txt.split t " ") a T L B H (zhF Q) (zlk e Q)
theorem zll {e:ErrC} {CD a T L B:Addr} {st:DSt} {t:Str} {H:Hp} {Q:VK} {E:XK} (D:DeskAt CD H a T L B st) (F:Fine st) (h:Tx t) (c:TellC e CD st (Txt.split t " ") a T L B H (zhF Q) (zlk e Q)):znn e CD [.ref a,.str t] H Q E:=⟨a,T,L,B,st,t,rfl,D,F,h,c⟩
theorem zfa (F:Src K mg "_law_tell" wB ["_law_desk","_law_line"]) (B:Blt mg) (C:Cls K mg base) (R:Rel K mg base C) (Kc:Cst K mg) (D_Desk_tell:s!"aa{7}{C.Desk.f_tell}{["self","line"]}{zgM ⟨C.NoLine.addr,C.NoName.addr,C.NoTable.addr,C.TooMany.addr,C.NoDeed.addr,C.NoWord.addr,C.NoCount.addr,C.NotOdd.addr,C.NotApart.addr⟩ C.Desk.addr}") (D__law_sole:(DefH P w K mg base (CXE P w) 1 "_law_sole" ["_law_e"] (zgO C.NoName.addr C.NoDeed.addr))):Def P w K mg base (CXE P w) 8 "_law_tell" ["_law_desk","_law_line"] (znn ⟨C.NoLine.addr,C.NoName.addr,C.NoTable.addr,C.TooMany.addr,C.NoDeed.addr,C.NoWord.addr,C.NoCount.addr,C.NotOdd.addr,C.NotApart.addr⟩ C.Desk.addr):=by
 refine F.ok (CX:=CXE P w) (k:=7) za0 s!"s" s!"u"
 ·obtain ⟨_,_,_,_,_,_,rfl,_⟩:=h;rfl
 have nd:=za0.nd;obtain ⟨a,T,L,Bk,st,t,rfl,D,fn,tx,tc⟩:=h;obtain ⟨dx,ei⟩:=D.ins;have dc:=C.Desk.cl;refine ⟨_,s!"d{s!"i{2}{pe_str}"}{s!"d{s!"i{3}{pe_non}"}{s!"d{@zjF _ _ _ _ _ _ _ rfl rfl (fun pins W=>s!"f{s!"i{3}{s!"aA{D_Desk_tell}{C.Desk.m_tell}{zdt}{s!"Y"}"}"}") (@zfF _ _ _ _ _ _ 4 _ _ _ _ _ rfl C.NoName.gl R.cat_NoName nd rfl rfl (fun pins a oe cls dx hcls hxo hbn=>s!"d{s!"i{2}{@xl _ _ _ _ _ _ _ _ s!"2{@zhq _ _ _ _ _ _ _ _ _ _ _ _ _ _ _ D__law_sole ((hr.mono s!"c").inH _) rfl hcls hxo hbn s!"aj" s!"c" (by rfl) (by rfl)}" pe_str pe_str}"}{s!"f{s!"i{3}{@pe_xfld _ _ _ _ _ _ _ _ _ _ hcls hxo (pv 4) (by rfl)}"}"}") s!"aL{C.NoLine.gl}{C.NoLine.cat}{s!"aL{C.NoTable.gl}{C.NoTable.cat}{s!"aL{C.NoWord.gl}{C.NoWord.cat}{s!"aL{C.TooMany.gl}{C.TooMany.cat}{@zfF _ _ _ _ _ _ 4 _ _ _ _ _ rfl C.NoDeed.gl C.NoDeed.cat nd rfl rfl (fun pins a oe cls dx hcls hxo hbn=>s!"f{s!"i{2}{@xl _ _ _ _ _ _ _ _ s!"2{@zhq _ _ _ _ _ _ _ _ _ _ _ _ _ _ _ D__law_sole ((hr.mono s!"c").inH _) rfl hcls hxo hbn s!"aj" s!"c" (by rfl) (by rfl)}" pe_str pe_str}"}") s!"aL{C.NotOdd.gl}{C.NotOdd.cat}{s!"aL{C.NotApart.gl}{C.NotApart.cat}{s!"aL{C.NoCount.gl}{C.NoCount.cat}{zo6}"}"}" s!"c"}"}"}"}" s!"c")}{s!"f{s!"t{s!"h{s!"aJ"}"}"}"}"}"}",?_⟩
 walk_at "ds";refine zh [some s!"g",some s!"F",none,none,none] rfl ?_;walk_at "rd";refine zjG (fun cls dx σ' H'=>σ'=[some s!"g",some s!"F",some (.str "told"),some .non,none]/\zlk ⟨C.NoLine.addr,C.NoName.addr,C.NoTable.addr,C.TooMany.addr,C.NoDeed.addr,C.NoWord.addr,C.NoCount.addr,C.NotOdd.addr,C.NotApart.addr⟩ Q cls dx H') ?_ ?_
 ·walk_at "rd";refine zlg D fn tx (tc.mono (fun v H' q=>?_) fun c d H' q=>⟨rfl,q⟩)
  walk_at "rd";rename_i r H2 s2 n2 e2;exact q r H2 s2 e2
 ·rintro cls dx ad σ' H' ⟨rfl,⟨hcls,d,n,rfl,ed,q⟩ | ⟨hcls,q⟩ | ⟨hcls,q⟩ | ⟨hcls,q⟩ | ⟨hcls,q⟩ | ⟨hcls,q⟩ | ⟨hcls,q⟩ | ⟨hcls,q⟩ | ⟨hcls,q⟩⟩
  ·obtain rfl:=hcls;refine zgf.Ql R.r1 ?_;walk_at "rd";refine zhE C.NoName.exc (.inl rfl) fun H3 s3=>?_
   walk_at "rd";refine zph (fs:=[("name",.str n)]) (s3.obj ed) C.NoName.exc C.NoName.ini rfl ?_;walk_at "rd";rename_i r H2 s2 n2 e2;exact q r H2 (s3.trans s2) e2
  ·obtain rfl:=hcls;refine zgf.Qm R.r2 ?_;refine xF R.r3 ?_;walk_at "rd";rename_i r H2 s2 n2 e2;exact q r H2 s2 e2
  ·obtain rfl:=hcls;refine zgf.Qm R.r4 ?_;refine zu R.r5 ?_;refine xF R.r6 ?_;walk_at "rd";rename_i r H2 s2 n2 e2;exact q r H2 s2 e2
  ·obtain rfl:=hcls;refine zgf.Qm R.r7 ?_;refine zu R.r8 ?_;refine zu R.r9 ?_;refine xF R.r10 ?_;walk_at "rd";rename_i r H2 s2 n2 e2;exact q r H2 s2 e2
  ·obtain rfl:=hcls;refine zgf.Qm R.r11 ?_;refine zu R.r12 ?_;refine zu R.r13 ?_;refine zu R.r14 ?_;refine xF R.r15 ?_;walk_at "rd";rename_i r H2 s2 n2 e2;exact q r H2 s2 e2
  ·obtain rfl:=hcls;refine zgf.Qm R.r16 ?_;refine zu R.r17 ?_;refine zu R.r18 ?_;refine zu R.r19 ?_;refine zu R.r20 ?_;refine zgf.Ql R.r21 ?_;walk_at "rd";refine zhE C.NoDeed.exc (.inr rfl) fun H3 s3=>?_
   walk_at "rd";rename_i r H2 s2 n2 e2;exact q r H2 (s3.trans s2) e2
  ·obtain rfl:=hcls;refine zgf.Qm R.r22 ?_;refine zu R.r23 ?_;refine zu R.r24 ?_;refine zu R.r25 ?_;refine zu R.r26 ?_;refine zgf.Qm R.r27 ?_;refine xF R.r28 ?_;walk_at "rd";rename_i r H2 s2 n2 e2;exact q r H2 s2 e2
  ·obtain rfl:=hcls;refine zgf.Qm R.r29 ?_;refine zu R.r30 ?_;refine zu R.r31 ?_;refine zu R.r32 ?_;refine zu R.r33 ?_;refine zgf.Qm R.r34 ?_;refine zu R.r35 ?_;refine xF R.r36 ?_;walk_at "rd";rename_i r H2 s2 n2 e2;exact q r H2 s2 e2
  ·obtain rfl:=hcls;refine zgf.Qm R.r37 ?_;refine zu R.r38 ?_;refine zu R.r39 ?_;refine zu R.r40 ?_;refine zu R.r41 ?_;refine zgf.Qm R.r42 ?_;refine zu R.r43 ?_;refine zu R.r44 ?_;refine xF R.r45 ?_;walk_at "rd";rename_i r H2 s2 n2 e2;exact q r H2 s2 e2
theorem Cmp.pair {K:PySem.W.Frag} {H:Hp} {d:Nat} {a b:Addr} {x y:V} (h1:SqT K H a [x,y]) (h2:SqT K H b [x,y]) (f1:ya x=true) (f2:ya y=true):Cmp K H (d+1) s!"g" (.ref b) true:=by
 refine (Cmp.tup (fun _=>true) h1 h2 rfl fun i u v hu hv=>?_).to (by simp)
 rw [hu] at hv;cases hv;have fu:ya u=true:=by
  have:=List.mem_of_getElem? hu;simp only [List.mem_cons,List.not_mem_nil,or_false] at this;rcases this with rfl | rfl <;> assumption
 exact (Cmp.flat fu fu).to (eqV_refl fu)
theorem zV.tup {CD a T L B:Addr} {st:DSt} {H H':Hp} (r:zV a T L B H H') (D:DeskAt CD H a T L B st):∀q xs,H q=some (.tup xs)->H' q=some (.tup xs):=fun q xs h=>by
 obtain ⟨⟨dx,i⟩,⟨kvs,e0,k⟩,⟨ds,e1,d1⟩,⟨bs,e2,d2⟩,ne⟩:=D;exact r q _ h (fun z=>by rw [z,i] at h;cases h) (fun z=>by rw [z,e0] at h;cases h) (fun z=>by rw [z,e1] at h;cases h) (fun z=>by rw [z,e2] at h;cases h)
theorem zV.lst {CD a T L B:Addr} {st:DSt} {H H':Hp} (r:zV a T L B H H') (D:DeskAt CD H a T L B st) {q:Addr} {ys:List V} (h:H q=some s!"6") (n1:q≠L) (n2:q≠B):H' q=some s!"6":=by
 obtain ⟨⟨dx,i⟩,⟨kvs,e0,k⟩,_⟩:=D;exact r q _ h (fun z=>by rw [z,i] at h;cases h) (fun z=>by rw [z,e0] at h;cases h) n1 n2
theorem zgU {H:Hp} {p q:Addr} {o:HO} (h1:H q=some o) (h2:H p=none):q≠p:=fun z=>by
 rw [z,h2] at h1;cases h1
theorem zoh:Fine ⟨fun _=>none,[],[]⟩:=⟨fun n x h=>(by cases h),fun d hd=>(by cases hd),rfl,trivial,by decide⟩
theorem zno {CD:Addr} {H Hx H':Hp} {x dx:Addr} (nx:H x=none) (nd:H dx=none) (eH:Hx=upd (upd H dx (.own x)) x (.ins CD dx [])) (keep:∀q o,Hx q=some o->q≠x->H' q=some o):Same H H':=fun b o h=>by
 have n1:=zgU h nx;have n2:=zgU h nd;exact keep b o (by rw [eH,zg n1,zg n2];exact h) n1
inductive Step (st:DSt) (ps:List Str):Str->V->DSt->Prop where
 | line (h:∀f,¬zm ps f):Step st ps "line" .non st
 | name {f:List Str} {n:Str} (hf:zm ps f) (h:yx st.f f ps n):Step st ps "name" (.str n) st
 | table {f:List Str} {x:Tb} {n:Str} (hf:zm ps f) (hk:xT st.f f ps) (h1:ps[1]? =some n) (hm:ziN st.f ps x) (hb:∀k∈[x.1,x.2.1,x.2.2.1,x.2.2.2],k.natAbs<10^190) (h0:ps[0]? =some s!"ac") (hd:zcQ x≠1):Step st ps "table" .non st
 | many {f:List Str} {x:Tb} {n:Str} (hf:zm ps f) (hk:xT st.f f ps) (h1:ps[1]? =some n) (hm:ziN st.f ps x) (hb:∀k∈[x.1,x.2.1,x.2.2.1,x.2.2.2],k.natAbs<10^190) (h0:ps[0]?≠some s!"ac") (hs:¬yJ x):Step st ps "many" .non st
 | new {f:List Str} {x:Tb} {n:Str} (hf:zm ps f) (hk:xT st.f f ps) (h1:ps[1]? =some n) (hn:zn n=true) (hm:ziN st.f ps x) (hg:yn x):Step st ps "told" (.str (zaj x.1 x.2.1 x.2.2.1 x.2.2.2)) ⟨zr st.f n (some x),st.dn++[(n,st.f n,some x)],[]⟩
 | drop {n t:Str} (hp:ps=[Str.ofString "drop",n]) (hn:zn n=true) (hk:st.f n≠none) (ht:NmT (zr st.f n none) t):Step st ps "told" s!"F" ⟨zr st.f n none,st.dn++[(n,st.f n,none)],[]⟩
 | undo0 (hp:ps=[Str.ofString "undo"]) (h:st.dn=[]):Step st ps "deed" .non st
 | undo {dn0:List ym} {d:ym} {t:Str} (hp:ps=[Str.ofString "undo"]) (h:st.dn=dn0++[d]) (ht:NmT (zr st.f d.1 d.2.1) t):Step st ps "told" s!"F" ⟨zr st.f d.1 d.2.1,dn0,st.bk++[d]⟩
 | redo0 (hp:ps=[Str.ofString "redo"]) (h:st.bk=[]):Step st ps "deed" .non st
 | redo {bk0:List ym} {d:ym} {t:Str} (hp:ps=[Str.ofString "redo"]) (h:st.bk=bk0++[d]) (ht:NmT (zr st.f d.1 d.2.2) t):Step st ps "told" s!"F" ⟨zr st.f d.1 d.2.2,st.dn++[d],bk0⟩
 | names {t:Str} (hp:ps=[Str.ofString "names"]) (ht:NmT st.f t):Step st ps "told" s!"F" st
 | sho {n:Str} {x:Tb} (hp:ps=[Str.ofString "show",n]) (hn:zn n=true) (hx:st.f n=some x):Step st ps "told" (.str (zaj x.1 x.2.1 x.2.2.1 x.2.2.2)) st
 | number {n:Str} {x:Tb} (hp:ps=[Str.ofString "number",n]) (hn:zn n=true) (hx:st.f n=some x) (hc:x.2.2.1=0):Step st ps "told" (.str (zK (x.2.1*x.2.2.2))) st
 | noSpell {n:Str} {x:Tb} (hp:ps=[Str.ofString "spell",n]) (hn:zn n=true) (hx:st.f n=some x) (h:x.1<0\/x.2.1<0\/x.2.2.1<0\/x.2.2.2<0):Step st ps "word" .non st
 | num {ask:Str} {qs:List Str} {w:Str} {v:V} (hp:ps=ask::qs) (ha:(ask=Str.ofString "parts"/\qs.length=4)\/(ask∈wQ/\qs.length=2)) (hn:qs.all zj=true) (hv:v=.non\/∃t,v=.str t)
  (h:∀(e:ErrC) (H:Hp) (Q:VK),(∀H',Same H H'->RT w v Q H')->zdb e.ct e.od e.ap ask (qs.map zB) H (zhF Q) (zlk e Q)):Step st ps w v st
theorem zd7 {a T L B:Addr} {H H':Hp} (s:Same H H'):zV a T L B H H':=fun q o h _ _ _ _=>s q o h
theorem Step.flat {st st':DSt} {ps:List Str} {w:Str} {v:V} (s:Step st ps w v st'):v=.non\/∃t,v=.str t:=by
 cases s <;> first | exact .inl rfl | exact .inr ⟨_,rfl⟩ | assumption
theorem Step.fine {st st':DSt} {ps:List Str} {w:Str} {v:V} (s:Step st ps w v st') (F:Fine st) (b:st.dn.length+1<=60):Fine st':=by
 cases s with
 | new hf hk h1 hn hm hg=>exact F.deed (fun x h=>by cases h;exact hg) (fun z=>nomatch z) (zcU hn) b
 | drop hp hn hk ht=>exact F.deed (fun x h=>by cases h) (fun _=>hk) (zcU hn) b
 | undo hp h ht=>exact F.undo h
 | redo hp h ht=>exact F.redo h
 | _=>exact F
theorem Step.tell {e:ErrC} {CD a T L B:Addr} {st st':DSt} {ps:List Str} {w:Str} {v:V} {H:Hp} {Q:VK} (s:Step st ps w v st') (D:DeskAt CD H a T L B st) (q:∀B' H',zV a T L B H H'->(B'=B\/H B'=none)->DeskAt CD H' a T L B' st'->RT w v Q H'):
 TellC e CD st ps a T L B H (zhF Q) (zlk e Q):=by
 have qs:∀H',Same H H'->st'=st->RT w v Q H':=fun H' s e=>q B H' (zd7 s) (.inl rfl) (e▸D.same s)
 cases s with
 | line h=>exact .line h fun dx H' _ s=>.inr (.inl ⟨rfl,qs H' s rfl⟩)
 | name hf h=>exact .name hf h fun d H1 s n=>.inl ⟨rfl,d,_,rfl,zi,qs _ (s.upd (by
  cases z:H d with
  | none=>rfl
  | some o=>rw [s d o z] at n;cases n)) rfl⟩
 | table hf hk h1 hm hb h0 hd=>exact .new hf hk h1 hm hb (fun _ _ H' s=>.inr (.inr (.inl ⟨rfl,qs H' s rfl⟩))) (fun z=>absurd h0 z) fun g=>absurd g.1 hd
 | many hf hk h1 hm hb h0 hs=>exact .new hf hk h1 hm hb (fun z=>absurd z h0) (fun _ _ H' s=>.inr (.inr (.inr (.inr (.inl ⟨rfl,qs H' s rfl⟩))))) fun g=>absurd g.2 hs
 | @new f x n hf hk h1 hn hm hg=>
  refine .new hf hk h1 hm (fun k hk=>?_) (fun _ z=>absurd hg.1 z) (fun _ z=>absurd hg.2 z) fun _ B' H' r n D'=>q B' H' r (.inr n) D'
  exact Nat.lt_trans (zbt.mp hg.2 k hk) s!"c"
 | drop hp hn hk ht=>exact .drop hp hn hk fun B' H' t r n D' ht'=>by rw [ht'.uniq ht];exact q B' H' r (.inr n) D'
 | undo0 hp h=>exact .undo hp (fun _ H' s=>.inr (.inr (.inr (.inr (.inr (.inl ⟨rfl,qs H' s rfl⟩)))))) fun dn0 d z=>absurd (h.symm.trans z) (by simp)
 | @undo dn0 d t hp h ht=>
  refine .undo hp (fun z=>absurd (z.symm.trans h) (by simp)) fun dn1 d1 z H' t r D' ht'=>?_
  obtain ⟨rfl,z2⟩:=List.append_inj' (h.symm.trans z) rfl;cases z2;rw [ht'.uniq ht];exact q B H' r (.inl rfl) D'
 | redo0 hp h=>exact .redo hp (fun _ H' s=>.inr (.inr (.inr (.inr (.inr (.inl ⟨rfl,qs H' s rfl⟩)))))) fun dn0 d z=>absurd (h.symm.trans z) (by simp)
 | @redo bk0 d t hp h ht=>
  refine .redo hp (fun z=>absurd (z.symm.trans h) (by simp)) fun dn1 d1 z H' t r D' ht'=>?_
  obtain ⟨rfl,z2⟩:=List.append_inj' (h.symm.trans z) rfl;cases z2;rw [ht'.uniq ht];exact q B H' r (.inl rfl) D'
 | names hp ht=>exact .names hp fun H' t s ht'=>by rw [ht'.uniq ht];exact qs H' s rfl
 | sho hp hn hx=>exact .askT hp s!"c" hn hx (.inl ⟨rfl,fun H' s=>qs H' s rfl⟩)
 | number hp hn hx hc=>exact .askT hp s!"c" hn hx (.inr (.inl ⟨rfl,hc,fun H' s=>qs H' s rfl⟩))
 | noSpell hp hn hx h=>exact .askT hp s!"c" hn hx (.inr (.inr ⟨rfl,h,fun H' s=>.inr (.inr (.inr (.inl ⟨rfl,qs H' s rfl⟩)))⟩))
 | num hp ha hn hv h=>exact .askN hp ha hn (h e H Q fun H' s=>qs H' s rfl)
theorem zV.step {CD a T L B B1:Addr} {st:DSt} {H H1 H2:Hp} (r:zV a T L B H H1) (h:B1=B\/H B1=none) (r2:zV a T L B1 H1 H2):zV a T L B H H2:=fun q o e n1 n2 n3 n4=>by
 refine r2 q o (r q o e n1 n2 n3 n4) n1 n2 n3 fun z=>?_
 rcases h with y | y
 ·exact n4 (z.trans y)
 ·rw [z,y] at e;cases e
theorem zV.same {a T L B:Addr} {H H1 H2:Hp} (r:zV a T L B H H1) (s:Same H1 H2):zV a T L B H H2:=fun q o e n1 n2 n3 n4=>s q o (r q o e n1 n2 n3 n4)
theorem ziS {CD a T L B B1 B2:Addr} {st:DSt} {H H1:Hp} (r:zV a T L B H H1) (h:B1=B\/H B1=none) (D:DeskAt CD H1 a T L B1 st) (h2:B2=B1\/H1 B2=none):B2=B\/H B2=none:=by
 rcases h2 with y | y
 ·rw [y];exact h
 ·by_cases z:B2=B
  ·exact .inl z
  ·refine .inr ?_;cases e:H B2 with
   | none=>rfl
   | some o=>
    obtain ⟨dx,e1⟩:=D.ins;obtain ⟨kvs,e2,_⟩:=D.dict;obtain ⟨ds,e3,_⟩:=D.done;have z1:=r B2 o e (fun q=>by rw [q,e1] at y;cases y) (fun q=>by rw [q,e2] at y;cases y) (fun q=>by rw [q,e3] at y;cases y) z
    rw [z1] at y;cases y
inductive Run:DSt->List (Str×Str×V)->DSt->Prop where
 | nil {st:DSt}:Run st [] st
 | cons {st st1 st2:DSt} {t w:Str} {v:V} {rs:List (Str×Str×V)} (ht:Tx t) (s:Step st (Txt.split t " ") w v st1) (b:st.dn.length+1<=60) (r:Run st1 rs st2):Run st ((t,w,v)::rs) st2
theorem Run.app {st st1 st2:DSt} {rs qs:List (Str×Str×V)} (a:Run st rs st1) (b:Run st1 qs st2):Run st (rs++qs) st2:=by
 induction a with
 | nil=>exact b
 | cons ht s h _ ih=>exact .cons ht s h (ih b)
theorem Run.fine {st st1:DSt} {rs:List (Str×Str×V)} (a:Run st rs st1) (F:Fine st):Fine st1:=by
 induction a with
 | nil=>exact F
 | cons ht s h _ ih=>exact ih (s.fine F h)
def Row (H:Hp) (x:Addr) (r:Str×Str×V):Prop:=∃d,H x=some (.tup [.str r.1,.ref d])/\H d=some (.tup [.str r.2.1,r.2.2])
theorem Row.move {H H':Hp} {x:Addr} {r:Str×Str×V} (h:Row H x r) (m:∀q xs,H q=some (.tup xs)->H' q=some (.tup xs)):Row H' x r:=by
 obtain ⟨d,e1,e2⟩:=h;exact ⟨d,m _ _ e1,m _ _ e2⟩
def Rows (H:Hp) (l:Addr) (rs:List (Str×Str×V)):Prop:=∃xs:List Addr,H l=some (.lst (xs.map V.ref))/\xs.length=rs.length/\∀(i:Nat) (x:Addr) (r:Str×Str×V),xs[i]? =some x->rs[i]? =some r->Row H x r
def zlm (CD:Addr):Sp:=fun vs H Q _=>∃(a T L B l:Addr) (st st':DSt) (rs:List (Str×Str×V)),vs=[.ref a,.ref l]/\DeskAt CD H a T L B st/\Fine st/\Rows H l rs/\rs.length<=900/\l≠L/\l≠B/\Run st rs st'/\∀B' H',zV a T L B H H'->(B'=B\/H B'=none)->DeskAt CD H' a T L B' st'->Q s!"#" H'
theorem zfb {CD a T L B l:Addr} {st st':DSt} {rs:List (Str×Str×V)} {H:Hp} {Q:VK} {E:XK} (D:DeskAt CD H a T L B st) (F:Fine st) (R:Rows H l rs) (hl:rs.length<=900) (n1:l≠L) (n2:l≠B) (r:Run st rs st') (h:∀B' H',zV a T L B H H'->(B'=B\/H B'=none)->DeskAt CD H' a T L B' st'->Q s!"#" H'):zlm CD [.ref a,.ref l] H Q E:=⟨a,T,L,B,l,st,st',rs,rfl,D,F,R,hl,n1,n2,r,h⟩
theorem zfX (F:Src K mg "_law_all" zar ["_law_desk","_law_rows"]) (B:Blt mg) (C:Cls K mg base) (R:Rel K mg base C) (Kc:Cst K mg) (D__law_tell:s!"m{8}{"_law_tell"}{["_law_desk","_law_line"]}{znn ⟨C.NoLine.addr,C.NoName.addr,C.NoTable.addr,C.TooMany.addr,C.NoDeed.addr,C.NoWord.addr,C.NoCount.addr,C.NotOdd.addr,C.NotApart.addr⟩ C.Desk.addr}"):Def P w K mg base (CXE P w) 9 "_law_all" ["_law_desk","_law_rows"] (zlm C.Desk.addr):=by
 refine F.ok (CX:=CXE P w) (k:=8) zbS s!"s" s!"u"
 ·obtain ⟨_,_,_,_,_,_,_,_,rfl,_⟩:=h;rfl
 have nd:=zbS.nd;obtain ⟨a,T,L,Bk,l,st,st',rs,rfl,D,fn,⟨xs,el,lx,T0⟩,hl,n1,n2,rn,q⟩:=h;refine ⟨_,s!"d{@ps_for _ _ _ _ _ _ _ _ PassesOwn.never rfl s!"as{pv 1}" (@zf1 _ _ _ _ _ _ rfl s!"aB{s!"-{2}{nd}"}{s!"aB{s!"-{3}{nd}"}{zb3}"}" (by rfl) (by rfl)) s!"f{s!"w{s!"K{zjQ hr.units3}{s!"l{D__law_tell}{xpass_nox}{s!"a{pv 0}{s!"|"}"}"}{pv 3}"}{s!"ab"}"}" (by intro _;rfl)}{s!"ab"}",?_⟩
 walk_at "ds";refine zh [some s!"g",some s!"H",none,none] rfl ?_;walk_at "rd";refine zfi (xs:=xs.map V.ref) (fun i σ H'=>i<=rs.length/\∃(z1 z2:Option V) (B1:Addr) (s1:DSt),σ=[some s!"g",some s!"H",z1,z2]/\zV a T L Bk H H'/\(B1=Bk\/H B1=none)/\DeskAt C.Desk.addr H' a T L B1 s1/\Fine s1/\Run s1 (rs.drop i) st'/\H' l=some (.lst (xs.map V.ref))/\∀(i:Nat) (x:Addr) (r:Str×Str×V),xs[i]? =some x->rs[i]? =some r->Row H' x r) ⟨Nat.zero_le _,_,_,Bk,st,rfl,zd7 (Same.refl _),.inl rfl,D,fn,rn,el,T0⟩ (fun i σ H' _ h=>SqL.of h.2.choose_spec.choose_spec.choose_spec.choose_spec.2.2.2.2.2.2.1) ?_ ?_
 ·rintro i v σ Ha hv ⟨hi',z1,z2,B1,s1,rfl,rst,hb1,D1,F1,rn1,el1,T1⟩;rw [List.getElem?_map] at hv;cases hx:xs[i]? with
  | none=>rw [hx] at hv;cases hv
  | some u=>
  rw [hx] at hv;cases hv;have hil:i<rs.length:=by have:=s!"Z{hx}".1;omega
  obtain ⟨⟨t,w,v⟩,hp⟩:∃p,rs[i]? =some p:=⟨_,List.getElem?_eq_getElem hil⟩;obtain ⟨d,e1,e2⟩:=T1 i u _ hx hp;have hd:rs.drop i=(t,w,v)::rs.drop (i+1):=by
   rw [List.drop_eq_getElem_cons hil];rw [List.getElem?_eq_getElem hil] at hp;rw [Option.some.inj hp]
  rw [hd] at rn1;cases rn1 with
  | cons ht s b r=>
  rename_i s2;walk_at "rd";refine zll D1 F1 ht (s.tell D1 fun B2 H2 r2 hb2 D2 rr H3 s3 e3=>?_)
  have nB:l≠B1:=fun z=>by
   rcases hb1 with y | y
   ·exact n2 (z.trans y)
   ·rw [<-z,el] at y;cases y
  have el2:=zV.lst r2 D1 el1 n1 nB;have d2:=zV.tup r2 D1 _ _ e2;walk_at "rd";refine zpe (Cmp.pair (d:=3) (SqT.of e3) (SqT.of (s3.obj d2)) rfl (by rcases s.flat with rfl | ⟨_,rfl⟩ <;> rfl)) ?_
  walk_at "rdi";have r3:zV a T L Bk H H3:=(zV.step (CD:=C.Desk.addr) (st:=s1) rst hb1 r2).same s3;exact ⟨hil,_,_,B2,s2,rfl,r3,ziS rst hb1 D1 hb2,D2.same s3,s.fine F1 b,r,s3.obj el2,fun j x r hx hr=>(T1 j x r hx hr).move fun q ys e=>s3.obj (zV.tup r2 D1 _ _ e)⟩
 ·rintro σ H' ⟨hi',z1,z2,B1,s1,rfl,rst,hb1,D1,F1,rn1,el1,T1⟩;rw [List.drop_eq_nil_of_le (by simp [lx])] at rn1
  cases rn1;walk_at "rd";exact q B1 H' rst hb1 D1
inductive zk (H:Hp):List V->List (Str×Str×V)->Prop where
 | nil:zk H [] []
 | cons {x d:Addr} {t w:Str} {v:V} {vs:List V} {rs:List (Str×Str×V)} (a:H x=some (.tup [.str t,.ref d])) (b:H d=some (.tup [.str w,v])) (r:zk H vs rs):zk H (.ref x::vs) ((t,w,v)::rs)
theorem zk.app {H:Hp} {vs us:List V} {rs qs:List (Str×Str×V)} (a:zk H vs rs) (b:zk H us qs):zk H (vs++us) (rs++qs):=by
 induction a with
 | nil=>exact b
 | cons a1 b1 _ ih=>exact .cons a1 b1 ih
theorem zk.same {H H':Hp} {vs:List V} {rs:List (Str×Str×V)} (a:zk H vs rs) (s:Same H H'):zk H' vs rs:=by
 induction a with
 | nil=>exact .nil
 | cons a1 b1 _ ih=>exact .cons (s.obj a1) (s.obj b1) ih
theorem zk.rows {H:Hp} {l:Addr} {vs:List V} {rs:List (Str×Str×V)} (e:H l=some (.lst vs)) (a:zk H vs rs):Rows H l rs:=by
 have key:∃xs:List Addr,vs=xs.map V.ref/\xs.length=rs.length/\∀(i:Nat) (x:Addr) (r:Str×Str×V),xs[i]? =some x->rs[i]? =some r->Row H x r:=by
  clear e
  induction a with
  | nil=>exact ⟨[],rfl,rfl,fun i x r hx=>by simp at hx⟩
  | @cons x d t w v vs rs a1 b1 _ ih=>
   obtain ⟨xs,h1,h2,h3⟩:=ih;refine ⟨x::xs,by rw [h1];rfl,by simp [h2],fun i y r hx hr=>?_⟩
   match i with
   | 0=>cases hx;cases hr;exact ⟨d,a1,b1⟩
   | i+1=>exact h3 i y r hx hr
 obtain ⟨xs,rfl,h2,h3⟩:=key;exact ⟨xs,e,h2,h3⟩
theorem zk.of {H:Hp} {as:List Addr} {rs:List (Str×Str×V)} (hl:as.length=rs.length) (h:∀(i:Nat) (x:Addr) (r:Str×Str×V),as[i]? =some x->rs[i]? =some r->Row H x r):zk H s!"av" rs:=by
 induction as generalizing rs with
 | nil=>
  cases rs with
  | nil=>exact .nil
  | cons _ _=>cases hl
 | cons a as ih=>
  cases rs with
  | nil=>cases hl
  | cons r rs=>
   obtain ⟨d,e1,e2⟩:=h 0 a r rfl rfl;exact .cons e1 e2 (ih (Nat.succ.inj hl) fun i x r hx hr=>h (i+1) x r hx hr)
theorem zcV {CD a T L B l:Addr} {st:DSt} {H H1:Hp} (D:DeskAt CD H a T L B st) (s:Same H H1) (n:H1 l=none):l≠L/\l≠B:=by
 have D:=D.same s;refine ⟨fun z=>?_,fun z=>?_⟩
 ·obtain ⟨ds,e,_⟩:=D.done;rw [<-z,n] at e;cases e
 ·obtain ⟨ds,e,_⟩:=D.back;rw [<-z,n] at e;cases e
theorem zgP {H:Hp} {Q:VK} {a b:Addr} {rs qs:List (Str×Str×V)} (h1:Rows H a rs) (h2:Rows H b qs) (hz:rs.length+qs.length<=1000) (h:∀l H',Same H H'->H l=none->Rows H' l (rs++qs)->Q s!"H" H'):zfl s!"g" (.ref b) H Q:=by
 obtain ⟨xs,e1,l1,T1⟩:=h1;obtain ⟨ys,e2,l2,T2⟩:=h2;refine zfl.Qb e1 e2 (by rw [List.length_map,List.length_map];exact Nat.le_of_lt (zz s!"e")) fun l H' s n e=>?_
 exact h l H' s n (((zk.of l1 T1).app (zk.of l2 T2)).same s |>.rows e)
theorem Rows.same {H H':Hp} {l:Addr} {rs:List (Str×Str×V)} (h:Rows H l rs) (s:Same H H'):Rows H' l rs:=by
 obtain ⟨xs,e,hl,T⟩:=h;exact ⟨xs,s.obj e,hl,fun i x r hx hr=>(T i x r hx hr).move fun q ys e=>s.obj e⟩
abbrev Rw:=Str×Str×V
def rw3 (t w:Str) (v:V):Rw:=(t,w,v)
theorem none_of {H H1:Hp} {p:Addr} (s:Same H H1) (n:H1 p=none):H p=none:=by
 cases z:H p with
 | none=>rfl
 | some o=>rw [s _ _ z] at n;cases n
def zcf (one two:Str):List Rw:=
 [rw3 (Str.empty++Str.ofString "let c together "++one++Str.ofString " "++two) "name" (.str one),rw3 (Str.empty++Str.ofString "let c together a "++two) "name" (.str two)]++
 [rw3 (Str.empty++Str.ofString "let a together "++two++Str.ofString " a") "name" (.str two),rw3 (Str.empty++Str.ofString "let "++one++Str.ofString " back "++one) "name" (.str one)]++
 ([Str.ofString "drop",Str.ofString "show",Str.ofString "number",Str.ofString "steady",Str.ofString "spell"].map fun ask=>(Str.empty++ask++Str.ofString " "++one,Str.ofString "name",V.str one))++
 [rw3 ("table c 2 0 0 1") "table" (.non),rw3 ("table a 1 0 0 -1") "table" (.non)]++
 [rw3 ("table c 0 0 0 0") "table" (.non),rw3 ("spell b") "word" (.non)]++
 [rw3 ("sign 1 2") "odd" (.non)]++
 [rw3 ("points 3 0") "count" (.non),rw3 ("shuffle 6 9") "apart" (.non)]++
 [rw3 ("parts -1 3 1 1") "count" (.non)]++
 [rw3 (Str.empty++Str.ofString "word c u "++zK (10^60-1)++Str.ofString " v 1") "many" (.non),rw3 (Str.empty++Str.ofString "word c v "++zK (10^60-1)++Str.ofString " u 1") "many" (.non)]++
 [rw3 (Str.empty++Str.ofString "word c u "++zK (10^60-1)++Str.ofString " v 1 u 1") "many" (.non)]
def zpF:Sp:=fun vs H Q _=>∃(one two:Str),vs=[.str one,.str two]/\one.length<=8/\two.length<=8/\∀l H',Same H H'->H l=none->Rows H' l (zcf one two)->Q s!"H" H'
theorem zpG {one two:Str} {H:Hp} {Q:VK} {E:XK} (h1:one.length<=8) (h2:two.length<=8) (h:∀l H',Same H H'->H l=none->Rows H' l (zcf one two)->Q s!"H" H'):zpF [.str one,.str two] H Q E:=⟨one,two,rfl,h1,h2,h⟩
theorem zby (F:Src K mg "_law_refusals" yG ["_law_one","_law_two"]) (B:Blt mg) (C:Cls K mg base) (R:Rel K mg base C) (Kc:Cst K mg):Def P w K mg base (CXE P w) 1 "_law_refusals" ["_law_one","_law_two"] zpF:=by
 refine F.ok (CX:=CXE P w) (k:=0) xu s!"s" s!"u"
 ·obtain ⟨_,_,rfl,_⟩:=h;rfl
 have nd:=xu.nd;obtain ⟨one,two,rfl,l1,l2,q⟩:=h;refine ⟨_,s!"d{s!"i{2}{s!"x{s!"a{s!"h{s!"a{s!"X{s!"r{pe_str}{s!"r{@pe_fmtS _ _ _ _ (pv 0)}{s!"r{pe_str}{s!"r{@pe_fmtS _ _ _ _ (pv 1)}{PJ.nil}"}"}"}"}"}{s!"a{s!"h{s!"a{pe_str}{s!"W"}"}"}{pa_nil}"}"}"}{s!"a{s!"h{s!"a{s!"X{s!"r{pe_str}{s!"r{@pe_fmtS _ _ _ _ (pv 1)}{PJ.nil}"}"}"}{s!"by"}"}"}{pa_nil}"}"}"}"}{s!"d{s!"i{2}{s!"j{op_addA}{pv 2}{s!"x{s!"a{s!"h{s!"a{s!"X{s!"r{pe_str}{s!"r{@pe_fmtS _ _ _ _ (pv 1)}{s!"r{pe_str}{PJ.nil}"}"}"}"}{s!"by"}"}"}{s!"a{s!"h{s!"a{s!"X{s!"r{pe_str}{s!"r{@pe_fmtS _ _ _ _ (pv 0)}{s!"r{pe_str}{s!"r{@pe_fmtS _ _ _ _ (pv 0)}{PJ.nil}"}"}"}"}"}{s!"a{s!"h{s!"a{pe_str}{s!"W"}"}"}{pa_nil}"}"}"}{pa_nil}"}"}"}"}"}{s!"d{s!"i{2}{s!"j{op_addA}{pv 2}{@pe_compF _ _ _ _ _ _ _ _ _ [0] ["_law_one"] rfl (@PI.or _ _ _ _ _ s!"as{s!"x{s!"a{pe_str}{s!"a{pe_str}{s!"a{pe_str}{s!"a{pe_str}{s!"R"}"}"}"}"}"}" (@pi_tup _ _ _ _ s!"x{s!"a{pe_str}{s!"a{pe_str}{s!"a{pe_str}{s!"a{pe_str}{s!"R"}"}"}"}"}")) (fun pins cl ex s H=>s!"h{s!"a{s!"X{s!"r{@pe_fmtS _ _ _ _ (pv 0)}{s!"r{pe_str}{s!"r{@pe_fmtS _ _ _ _ (pv 1)}{PJ.nil}"}"}"}"}{s!"by"}"}") rfl rfl rfl s!"b" s!"b" rfl s!"b" rfl s!"b" (by intro _;rfl)}"}"}{s!"d{s!"i{2}{s!"j{op_addA}{pv 2}{s!"x{s!"a{s!"h{s!"a{pe_str}{s!"a{s!"h{s!"a{pe_str}{s!"a{pe_non}{pa_nil}"}"}"}{pa_nil}"}"}"}{s!"a{s!"h{s!"a{pe_str}{s!"a{s!"h{s!"a{pe_str}{s!"a{pe_non}{pa_nil}"}"}"}{pa_nil}"}"}"}{pa_nil}"}"}"}"}"}{s!"d{s!"i{2}{s!"j{op_addA}{pv 2}{s!"x{s!"a{s!"h{s!"a{pe_str}{s!"a{s!"h{s!"a{pe_str}{s!"a{pe_non}{pa_nil}"}"}"}{pa_nil}"}"}"}{s!"a{s!"h{s!"a{pe_str}{s!"a{s!"h{s!"a{pe_str}{s!"a{pe_non}{pa_nil}"}"}"}{pa_nil}"}"}"}{pa_nil}"}"}"}"}"}{s!"d{s!"i{2}{s!"j{op_addA}{pv 2}{s!"x{s!"a{s!"h{s!"a{pe_str}{s!"a{s!"h{s!"a{pe_str}{s!"a{pe_non}{pa_nil}"}"}"}{pa_nil}"}"}"}{pa_nil}"}"}"}"}{s!"d{s!"i{2}{s!"j{op_addA}{pv 2}{s!"x{s!"a{s!"h{s!"a{pe_str}{s!"a{s!"h{s!"a{pe_str}{s!"a{pe_non}{pa_nil}"}"}"}{pa_nil}"}"}"}{s!"a{s!"h{s!"a{pe_str}{s!"a{s!"h{s!"a{pe_str}{s!"a{pe_non}{pa_nil}"}"}"}{pa_nil}"}"}"}{pa_nil}"}"}"}"}"}{s!"d{s!"i{2}{s!"j{op_addA}{pv 2}{s!"x{s!"a{s!"h{s!"a{pe_str}{s!"a{s!"h{s!"a{pe_str}{s!"a{pe_non}{pa_nil}"}"}"}{pa_nil}"}"}"}{pa_nil}"}"}"}"}{s!"d{s!"i{3}{s!"aU"}"}{s!"d{s!"i{2}{s!"j{op_addA}{pv 2}{s!"x{s!"a{s!"h{s!"a{s!"X{s!"r{pe_str}{s!"r{@pe_fmtI _ _ _ _ (pv 3)}{s!"r{pe_str}{PJ.nil}"}"}"}"}{s!"a{s!"h{s!"a{pe_str}{s!"a{pe_non}{pa_nil}"}"}"}{pa_nil}"}"}"}{s!"a{s!"h{s!"a{s!"X{s!"r{pe_str}{s!"r{@pe_fmtI _ _ _ _ (pv 3)}{s!"r{pe_str}{PJ.nil}"}"}"}"}{s!"a{s!"h{s!"a{pe_str}{s!"a{pe_non}{pa_nil}"}"}"}{pa_nil}"}"}"}{pa_nil}"}"}"}"}"}{s!"f{s!"t{s!"j{op_addA}{pv 2}{s!"x{s!"a{s!"h{s!"a{s!"X{s!"r{pe_str}{s!"r{@pe_fmtI _ _ _ _ (pv 3)}{s!"r{pe_str}{PJ.nil}"}"}"}"}{s!"a{s!"h{s!"a{pe_str}{s!"a{pe_non}{pa_nil}"}"}"}{pa_nil}"}"}"}{pa_nil}"}"}"}"}"}"}"}"}"}"}"}"}"}"}",?_⟩
 walk_at "ds";refine zh [some (.str one),some (.str two),none,none] rfl ?_;walk_at "rd";rename_i d1 H1 s1 m1 e1 x1 H2 s2 m2 e2 d2 H3 s3 m3 e3 x2 H4 s4 m4 e4 l1 H5 s5 m5 e5 d3 H6 s6 m6 e6 x3 H7 s7 m7 e7 d4 H8 s8 m8 e8 x4 H9 s9 m9 e9 l2 H10 s10 m10 e10 l3 H11 s11 m11 e11;have R1:zk H11 ([V.ref x1,V.ref x2]++[V.ref x3,V.ref x4]) ([rw3 (Str.empty++Str.ofString "let c together "++one++Str.ofString " "++two) "name" (.str one),rw3 (Str.empty++Str.ofString "let c together a "++two) "name" (.str two)]++[rw3 (Str.empty++Str.ofString "let a together "++two++Str.ofString " a") "name" (.str two),rw3 (Str.empty++Str.ofString "let "++one++Str.ofString " back "++one) "name" (.str one)]):=
  .app (.cons (by walk_at "hp") (by walk_at "hp") (.cons (by walk_at "hp") (by walk_at "hp") .nil)) (.cons (by walk_at "hp") (by walk_at "hp") (.cons (by walk_at "hp") (by walk_at "hp") .nil))
 have sA:Same H H11:=by walk_at "sm"
 clear s1 s2 s3 s4 s5 s6 s7 s8 s9 s10 s11 m1 m2 m3 m4 m5 m6 m7 m8 m9 m10 m11 e1 e2 e3 e4 e5 e6 e7 e8 e9 e10;refine zh4 [some (.str one)] rfl ?_;walk_at "rd";rename_i l4 H12 s12 m12 e12;refine zfG (fun v t H'=>∃ask,v=.str ask/\Row H' t (Str.empty++ask++Str.ofString " "++one,Str.ofString "name",V.str one)) (fun v t Ha Hb m ⟨ask,e,r⟩=>⟨ask,e,r.move m⟩) (SqL.of e12) (by show 5<=1000;decide) (fun x H' Q' hx s' hQ=>?_) fun D13 H13 as s13 m13 e13 l13 T13=>?_
 ·obtain ⟨ask,rfl,la⟩:∃ask:Str,x=.str ask/\ask.length<=8:=by
   simp only [List.mem_cons,List.not_mem_nil,or_false] at hx;rcases hx with rfl | rfl | rfl | rfl | rfl <;> exact ⟨_,rfl,by decide+kernel⟩
  clear hx;walk_at "rd";rename_i d5 Ha sa ma ea t5 Hb sb mb eb;exact hQ _ _ (sa.trans sb) ⟨ask,rfl,d5,eb,sb.obj ea⟩
 have R2:zk H13 s!"av" ([Str.ofString "drop",Str.ofString "show",Str.ofString "number",Str.ofString "steady",Str.ofString "spell"].map fun ask=>(Str.empty++ask++Str.ofString " "++one,Str.ofString "name",V.str one)):=by
  refine .of (by rw [l13];rfl) fun i x r hx hr=>?_
  rw [List.getElem?_map] at hr;cases h0:[Str.ofString "drop",Str.ofString "show",Str.ofString "number",Str.ofString "steady",Str.ofString "spell"][i]? with
  | none=>rw [h0] at hr;cases hr
  | some ask0=>
   rw [h0] at hr;cases hr;obtain ⟨ask,e,rr⟩:=T13 i x (.str ask0) hx (show ([Str.ofString "drop",Str.ofString "show",Str.ofString "number",Str.ofString "steady",Str.ofString "spell"].map V.str)[i]? =_ by rw [List.getElem?_map,h0];rfl)
   cases e;exact rr
 have sB:Same H H13:=sA.trans (s12.trans s13);have R12:=(R1.same (s12.trans s13)).app R2;have e11:=(s12.trans s13).obj e11;obtain ⟨a1,a2,a3,a4,a5,rfl⟩:∃a1 a2 a3 a4 a5,as=[a1,a2,a3,a4,a5]:=by
  match as,l13 with
  | [a1,a2,a3,a4,a5],_=>exact ⟨a1,a2,a3,a4,a5,rfl⟩
 clear s12 s13 m12 m13 e12 l13 T13 R1 R2 sA;have lg:=(upS (n:=10^60-1) (k:=60) s!"c" s!"c").log
 have ln:(zK (10^60-1)).length<=571:=(upS (n:=10^60-1) (k:=60) s!"c" s!"c").len
 walk_at "rd";refine q _ _ (by walk_at "sm") ?_ (zk.rows (by assumption) ?_)
 ·refine' none_of ?s ?n
  case n=>assumption
  case s=>walk_at "sm"
 ·exact s!"bA{s!"bi{s!"bA{s!"bi{s!"bA{s!"bi{s!"bi{R12.same (by walk_at "sm")}"}"}"}"}"}"}"
structure OneTwo (one two:Str):Prop where
 n1:zn one=true
 n2:zn two=true
 l1:2<=one.length
 l2:2<=two.length
 q:∀c,one.cps.toList[2]? =some c->c=113
theorem zoi {t:Str} (h1:1<=t.length) (h2:t.length<=8) (h3:∀c∈t.cps.toList,97<=c/\c<=122):zn t=true:=by
 unfold zn;rw [decide_eq_true h1,decide_eq_true h2];simp only [Bool.true_and,List.all_eq_true,Bool.and_eq_true,decide_eq_true_eq];exact h3
theorem zln {i:Int} (h0:0<=i) (h1:i<26):∃c,atI s!"B{"abcdefghijklmnopqrstuvwxyz"}".cps.toList i=some c/\97<=c/\c<=122:=by
 have k:∀j:Fin 26,∃c,atI s!"B{"abcdefghijklmnopqrstuvwxyz"}".cps.toList ((j:Nat):Int)=some c/\97<=c/\c<=122:=by
  intro j;refine ⟨97+j,?_,by omega,by omega⟩
  revert j;decide+kernel
 have:=k ⟨i.toNat,by omega⟩
 rwa [show ((i.toNat:Nat):Int)=i by omega] at this
theorem znp {a b:Nat} {k j:Nat} (ha:97<=a/\a<=122) (hb:97<=b/\b<=122) (hk:k<7) (hj:j<4):
 OneTwo (Txt.slice (⟨#[a]⟩++⟨#[b]⟩++Str.ofString "qwertz") none (some ((2+k:Nat):Int))) (Str.ofString "z"++Txt.slice (Txt.slice (⟨#[a]⟩++⟨#[b]⟩++Str.ofString "qwertz") none (some ((2+k:Nat):Int))) none (some ((1+j:Nat):Int))):=by
 have e1:(⟨#[a]⟩++⟨#[b]⟩++Str.ofString "qwertz":Str).cps.toList=[a,b,113,119,101,114,116,122]:=by
  show ((#[a]++#[b])++s!"bf".cps).toList=_;rw [Array.toList_append,Array.toList_append,show s!"bf".cps.toList=[113,119,101,114,116,122] by decide+kernel]
  rfl
 have e2:=zfH (⟨#[a]⟩++⟨#[b]⟩++Str.ofString "qwertz":Str) (2+k);rw [e1] at e2;generalize Txt.slice (⟨#[a]⟩++⟨#[b]⟩++Str.ofString "qwertz":Str) none (some ((2+k:Nat):Int))=one at*;have e3:=zfH one (1+j);rw [e2] at e3;generalize Txt.slice one none (some ((1+j:Nat):Int))=cut at*;have e4:(Str.ofString "z"++cut).cps.toList=122::cut.cps.toList:=by
  show (s!"B{"z"}".cps++cut.cps).toList=_;rw [Array.toList_append,show s!"B{"z"}".cps.toList=[122] by decide+kernel]
  rfl
 have l1:one.length=2+k:=by
  show one.cps.toList.length=_;rw [e2,List.length_take];show min (2+k) 8=_;omega
 have l2:(Str.ofString "z"++cut).length=1+min (1+j) (2+k):=by
  show (Str.ofString "z"++cut).cps.toList.length=_;rw [e4,e3,List.length_cons,List.length_take,List.length_take];show min (1+j) (min (2+k) 8)+1=_;omega
 have al:∀c∈[a,b,113,119,101,114,116,122],97<=c/\c<=122:=by
  intro c hc;simp only [List.mem_cons,List.not_mem_nil,or_false] at hc;omega
 refine ⟨zoi s!"e" s!"e" fun c hc=>?_,zoi s!"e" s!"e" fun c hc=>?_,by omega,by omega,fun c hc=>?_⟩
 ·rw [e2] at hc;exact al c s!"aZ{hc}"
 ·rw [e4,e3,List.mem_cons] at hc;rcases hc with rfl | hc
  ·omega
  ·exact al c s!"aZ{s!"aZ{hc}"}"
 ·rw [e2,List.getElem?_take] at hc;split at hc
  ·cases hc;rfl
  ·cases hc
def zpH:Sp:=fun vs H Q _=>∃c:Int,vs=[.int c]/\∀r H' one two,Same H H'->H r=none->H' r=some (.lst [.str one,.str two])->OneTwo one two->Q (.ref r) H'
theorem zpI {c:Int} {H:Hp} {Q:VK} {E:XK} (h:∀r H' one two,Same H H'->H r=none->H' r=some (.lst [.str one,.str two])->OneTwo one two->Q (.ref r) H'):zpH [.int c] H Q E:=⟨c,rfl,h⟩
theorem wW (F:Src K mg "_law_names_drawn" yf ["_law_cell_here"]) (B:Blt mg) (C:Cls K mg base) (R:Rel K mg base C) (Kc:Cst K mg) (D__law_draws:s!"m{2}{"_law_draws"}{["_law_cell_here","_law_widths","_law_prime"]}{zce K}"):Def P w K mg base (CXE P w) 3 "_law_names_drawn" ["_law_cell_here"] zpH:=by
 refine F.ok (CX:=CXE P w) (k:=2) yI s!"s" s!"u"
 ·obtain ⟨_,rfl,_⟩:=h;rfl
 have nd:=yI.nd;obtain ⟨c,rfl,q⟩:=h;refine ⟨_,s!"d{s!"i{1}{s!"l{D__law_draws}{xpass_nox}{s!"a{pv 0}{s!"a{s!"x{s!"a{pe_int}{s!"a{pe_int}{s!"a{pe_int}{s!"aI"}"}"}"}"}{s!"aI"}"}"}"}"}{s!"d{s!"i{2}{pe_str}"}{s!"d{s!"i{3}{s!"j{zet}{s!"j{zet}{s!"?{zja}{pv 2}{s!"J"}"}{s!"?{zja}{pv 2}{s!"J"}"}"}{pe_str}"}"}{s!"d{s!"i{3}{s!"aY{sl_str}{pv 3}{po_none}{@po_some _ _ _ s!"j{op_addA}{pe_int}{s!"j{op_modA}{s!"J"}{pe_int}"}"}"}"}{s!"f{s!"t{s!"x{s!"a{pv 3}{s!"a{s!"j{zet}{pe_str}{s!"aY{sl_str}{pv 3}{po_none}{@po_some _ _ _ s!"j{op_addA}{pe_int}{s!"J"}"}"}"}{pa_nil}"}"}"}"}"}"}"}"}",?_⟩
 walk_at "ds";refine zh [some (.int c),none,none,none] rfl ?_;walk_at "rd";refine zd6 [8,26,26,4] (by walk_at "hp") s!"c" s!"c" s!"c" fun r H1 fs s1 n1 e1 dr=>?_
 rename_i r0 H0 s0 n0 e0
 replace s1:=s0.trans s1
 obtain ⟨d0,d1,d2,d3,rfl,b0,b1,b2,b3⟩:∃d0 d1 d2 d3:Int,fs=[d0,d1,d2,d3]/\(0<=d0/\d0<8)/\(0<=d1/\d1<26)/\(0<=d2/\d2<26)/\(0<=d3/\d3<4):=by
  obtain ⟨hl,hd⟩:=dr
  match fs,hl,hd with
  | [d0,d1,d2,d3],_,hd=>exact ⟨d0,d1,d2,d3,rfl,hd 0 _ _ rfl rfl,hd 1 _ _ rfl rfl,hd 2 _ _ rfl rfl,hd 3 _ _ rfl rfl⟩
 obtain ⟨a,ea,ha⟩:=zln b1.1 b1.2;obtain ⟨b,eb,hb⟩:=zln b2.1 b2.2;walk_at "rd";refine zkt a s!"c" ea ?_
 walk_at "rd";refine zkt b s!"c" eb ?_
 have za:({ cps:=#[a] }:Str).length<=1:=Nat.le_refl 1;have zb:({ cps:=#[b] }:Str).length<=1:=Nat.le_refl 1;have ez:=znp (a:=a) (b:=b) (k:=(d0%7).toNat) (j:=d3.toNat) ha hb s!"e" s!"e"
 rw [show ((2+(d0%7).toNat:Nat):Int)=2+d0%7 by omega,show ((1+d3.toNat:Nat):Int)=1+d3 by omega] at ez
 have zc:Hide ((({ cps:=#[a] }:Str)++({ cps:=#[b] }:Str)++Str.ofString "qwertz").length<=8):=⟨by
  show (#[a]++#[b]++s!"bf".cps).size<=8;rw [Array.size_append,Array.size_append,show s!"bf".cps.size=6 by decide+kernel]
  exact Nat.le_refl 8⟩
 clear ea eb ha hb;generalize ({ cps:=#[a] }:Str)=A1 at*;generalize ({ cps:=#[b] }:Str)=A2 at*;refine zhg ?_ ?_
 ·exact Nat.le_trans (Nat.add_le_add za zb) s!"c"
 walk_at "rd";refine zqX.Qs s!".{zc.out}" ?_
 generalize Txt.slice (A1++A2++Str.ofString "qwertz") none (some (2+d0%7))=one at*;have zd:=zcU ez.n1;walk_at "rd";have zf:(Txt.slice one none (some (1+d3))).length<=8:=Nat.le_trans (Txt.slice_le _ _ _) zd;generalize Txt.slice one none (some (1+d3))=cut at*;walk_at "rd";rename_i r2 H2 s2 n2 e2;exact q r2 H2 _ _ (s1.trans s2) (by
  cases z:H r2 with
  | none=>rfl
  | some o=>rw [s1 _ _ z] at n2;cases n2) e2 ez
theorem zd8:∀{ws:List (Bool×Int)},(∀p∈ws,1<=p.2/\p.2.natAbs<10^60)->ziH (flat ws) ws
 | [],_=>⟨rfl,fun i p hp=>by simp at hp⟩
 | q::ws,h=>by
  obtain ⟨l,k⟩:=zd8 (ws:=ws) fun p hp=>h p s!"3{hp}"
  refine ⟨by show (flat ws).length+1+1=2*(ws.length+1);omega,fun i p hp=>?_⟩
  match i,hp with
  | 0,hp=>
   cases hp;obtain ⟨h1,h2⟩:=h q (List.mem_cons_self ..);exact ⟨rfl,zK q.2,rfl,ziq h2,zir (Nat.lt_trans h2 s!"c"),h1⟩
  | i+1,hp=>
   have:=k i p hp
   rwa [show 2*(i+1)=2*i+1+1 by omega]
def qsW (ws:List (Bool×Int)):List Str:=if ws=[] then [Str.ofString "none"] else flat ws
theorem znq (ws:List (Bool×Int)):Txt.join " " (qsW ws)=zhn ws:=by
 unfold qsW;split
 ·rename_i e;subst e;decide+kernel
 ·rename_i e;rw [show zhn ws=Txt.join " " (ws.map zae) from if_neg e]
  show Builtin.Str.glued _ _=Builtin.Str.glued _ _;rw [StrLaws.glued_eq_join,StrLaws.glued_eq_join,zbk]
structure WG (ws:List (Bool×Int)):Prop where
 pos:∀p∈ws,1<=p.2/\p.2.natAbs<10^60
 alt:Mth.Alt ws
theorem WG.rw {ws:List (Bool×Int)} (h:WG ws):RW (Txt.join " " (qsW ws)) ws:=by
 rw [znq]
 by_cases e:ws=[]
 ·subst e;exact .inl ⟨rfl,rfl⟩
 ·refine .inr ⟨fun z=>?_,?_,h.alt⟩
  ·have k:=zcA e;rw [z] at k;have k2:(flat ws).length=1:=by
    rw [<-k];decide+kernel
   rw [zcz] at k2;omega
  ·rw [zcA e];exact zd8 h.pos
theorem zpJ (b:Bool):Pc (ltr b):=by cases b <;> exact zgL s!"b" s!"b" s!"b"
theorem WG.pcs {ws:List (Bool×Int)} (h:WG ws):∀w∈qsW ws,Pc w:=by
 unfold qsW;split
 ·intro w hw;rw [List.mem_singleton.mp hw];exact zgL s!"b" s!"b" s!"b"
 ·have k:∀{ws:List (Bool×Int)},(∀p∈ws,1<=p.2/\p.2.natAbs<10^60)->∀w∈flat ws,Pc w:=by
   intro ws
   induction ws with
   | nil=>intro _ w hw;cases hw
   | cons p r ih=>
    intro h w hw;have hw:w∈ltr p.1::zK p.2::flat r:=hw;rcases List.mem_cons.mp hw with rfl | hw
    ·exact zpJ _
    rcases List.mem_cons.mp hw with rfl | hw
    ·exact zle (h p (List.mem_cons_self ..)).2
    ·exact ih (fun p hp=>h p s!"3{hp}") w hw
  exact k h.pos
theorem xD {st:DSt} {n:Str} {ws:List (Bool×Int)} (hn:zn n=true) (h:WG ws) (b:Big ws) (g:yn (Mth.fw ws)):Step st (Str.ofString "word"::n::qsW ws) "told" (.str (zaj (Mth.fw ws).1 (Mth.fw ws).2.1 (Mth.fw ws).2.2.1 (Mth.fw ws).2.2.2)) ⟨zr st.f n (some (Mth.fw ws)),st.dn++[(n,st.f n,some (Mth.fw ws))],[]⟩:=
 .new (zd5 hn h.rw) (yc s!"c") rfl hn (.inr (.inl ⟨rfl,ws,h.rw,b,rfl⟩)) g
theorem zax {st:DSt} {n:Str} {ws:List (Bool×Int)} (hn:zn n=true) (h:WG ws) (b:Big ws) (hb:∀k∈[(Mth.fw ws).1,(Mth.fw ws).2.1,(Mth.fw ws).2.2.1,(Mth.fw ws).2.2.2],k.natAbs<10^190) (g:¬yJ (Mth.fw ws)):Step st (Str.ofString "word"::n::qsW ws) "many" .non st:=
 .many (zd5 hn h.rw) (yc s!"c") rfl (.inr (.inl ⟨rfl,ws,h.rw,b,rfl⟩)) hb (fun z=>absurd s!"9{z}" s!"c") g
theorem znr {f:Str->Option Tb} {n m:Str} (hm:f m≠none):xT f [Str.ofString "let",Str.ofString "NAME",Str.ofString "back",Str.ofString "KNOWN"] [Str.ofString "let",n,Str.ofString "back",m]:=fun j k h1 h2=>by
 match j,h1,h2 with
 | 0,h1,_=>exact absurd s!"7" s!"c"
 | 1,h1,_=>exact absurd s!"7" s!"c"
 | 2,h1,_=>exact absurd s!"7" s!"c"
 | 3,_,h2=>cases h2;exact hm
 | _+4,h1,_=>cases h1
theorem zhG {f:Str->Option Tb} {n m k:Str} (hm:f m≠none) (hk:f k≠none):xT f [Str.ofString "let",Str.ofString "NAME",Str.ofString "together",Str.ofString "KNOWN",Str.ofString "KNOWN"] [Str.ofString "let",n,Str.ofString "together",m,k]:=fun j k h1 h2=>by
 match j,h1,h2 with
 | 0,h1,_=>exact absurd s!"7" s!"c"
 | 1,h1,_=>exact absurd s!"7" s!"c"
 | 2,h1,_=>exact absurd s!"7" s!"c"
 | 3,_,h2=>cases h2;exact hm
 | 4,_,h2=>cases h2;exact hk
 | _+5,h1,_=>cases h1
theorem zd9 {st:DSt} {n m:Str} {y:Tb} (hn:zn n=true) (hm:zn m=true) (hy:st.f m=some y) (g:yn (za6 y)):Step st [Str.ofString "let",n,Str.ofString "back",m] "told" (.str (zaj (za6 y).1 (za6 y).2.1 (za6 y).2.2.1 (za6 y).2.2.2)) ⟨zr st.f n (some (za6 y)),st.dn++[(n,st.f n,some (za6 y))],[]⟩:=
 .new (zad hn hm) (znr (by rw [hy];exact fun z=>nomatch z)) rfl hn (.inr (.inr (.inr ⟨rfl,rfl,m,y,rfl,hy,rfl⟩))) g
theorem zfY {st:DSt} {n m k:Str} {y z:Tb} (hn:zn n=true) (hm:zn m=true) (hk:zn k=true) (hy:st.f m=some y) (hz:st.f k=some z) (g:yn (zav y z)):Step st [Str.ofString "let",n,Str.ofString "together",m,k] "told" (.str (zaj (zav y z).1 (zav y z).2.1 (zav y z).2.2.1 (zav y z).2.2.2)) ⟨zr st.f n (some (zav y z)),st.dn++[(n,st.f n,some (zav y z))],[]⟩:=
 .new (zQ hn hm hk) (zhG (by rw [hy];exact fun z=>nomatch z) (by rw [hz];exact fun z=>nomatch z)) rfl hn (.inr (.inr (.inl ⟨rfl,rfl,m,k,y,z,rfl,rfl,hy,hz,rfl⟩))) g
theorem mul_lt1 {a b c d:Int} (ha:a.natAbs<10^60) (hb:b.natAbs<10^60) (hc:c.natAbs<10^60) (hd:d.natAbs<10^60):(a*b+c*d).natAbs<10^190:=by
 have h1:(a*b).natAbs<=10^60*10^60:=by rw [Int.natAbs_mul];exact Nat.mul_le_mul (Nat.le_of_lt ha) (Nat.le_of_lt hb)
 have h2:(c*d).natAbs<=10^60*10^60:=by rw [Int.natAbs_mul];exact Nat.mul_le_mul (Nat.le_of_lt hc) (Nat.le_of_lt hd)
 have h3:=Int.natAbs_add_le (a*b) (c*d);exact Nat.lt_of_le_of_lt (Nat.le_trans h3 (Nat.add_le_add h1 h2)) s!"c"
theorem zpK {y z:Tb} (gy:yJ y) (gz:yJ z):∀k∈[(zav y z).1,(zav y z).2.1,(zav y z).2.2.1,(zav y z).2.2.2],k.natAbs<10^190:=by
 obtain ⟨a1,b1,c1,d1⟩:=gy;obtain ⟨a2,b2,c2,d2⟩:=gz;intro k hk;simp only [List.mem_cons,List.not_mem_nil,or_false] at hk;rcases hk with rfl | rfl | rfl | rfl <;> exact mul_lt1 (by assumption) (by assumption) (by assumption) (by assumption)
theorem za9 {st:DSt} {n m k:Str} {y z:Tb} (hn:zn n=true) (hm:zn m=true) (hk:zn k=true) (hy:st.f m=some y) (hz:st.f k=some z) (gy:yJ y) (gz:yJ z) (g:¬yJ (zav y z)):Step st [Str.ofString "let",n,Str.ofString "together",m,k] "many" .non st:=
 .many (zQ hn hm hk) (zhG (by rw [hy];exact fun z=>nomatch z) (by rw [hz];exact fun z=>nomatch z)) rfl (.inr (.inr (.inl ⟨rfl,rfl,m,k,y,z,rfl,rfl,hy,hz,rfl⟩))) (zpK gy gz) (fun z=>absurd s!"9{z}" s!"c") g
theorem zgQ {st:DSt} {n q1 q2 q3 q4:Str} {x:Tb} (hn:zn n=true) (h1:zj q1=true) (h2:zj q2=true) (h3:zj q3=true) (h4:zj q4=true) (hf:zas (Txt.join " " [q1,q2,q3,q4]) x.1 x.2.1 x.2.2.1 x.2.2.2) (g:yn x):Step st [Str.ofString "table",n,q1,q2,q3,q4] "told" (.str (zaj x.1 x.2.1 x.2.2.1 x.2.2.2)) ⟨zr st.f n (some x),st.dn++[(n,st.f n,some x)],[]⟩:=
 .new (zcT hn h1 h2 h3 h4) (yc s!"c") rfl hn (.inl ⟨rfl,hf⟩) g
theorem zbz {st:DSt} {n q1 q2 q3 q4:Str} {x:Tb} (hn:zn n=true) (h1:zj q1=true) (h2:zj q2=true) (h3:zj q3=true) (h4:zj q4=true) (hf:zas (Txt.join " " [q1,q2,q3,q4]) x.1 x.2.1 x.2.2.1 x.2.2.2) (hb:∀k∈[x.1,x.2.1,x.2.2.1,x.2.2.2],k.natAbs<10^190) (g:zcQ x≠1):Step st [Str.ofString "table",n,q1,q2,q3,q4] "table" .non st:=
 .table (zcT hn h1 h2 h3 h4) (yc s!"c") rfl (.inl ⟨rfl,hf⟩) hb rfl g
theorem zns {st:DSt} {n m:Str} (hn:zn n=true) (hm:zn m=true) (hy:st.f m=none):Step st [Str.ofString "let",n,Str.ofString "back",m] "name" (.str m) st:=
 .name (zad hn hm) ⟨3,rfl,rfl,hy,fun j hj k h1 h2=>by
  match j,h1 with
  | 0,h1=>exact absurd s!"7" s!"c"
  | 1,h1=>exact absurd s!"7" s!"c"
  | 2,h1=>exact absurd s!"7" s!"c"
  | _+3,_=>omega⟩
theorem zhH {st:DSt} {n m k:Str} (hn:zn n=true) (hm:zn m=true) (hk:zn k=true) (hy:st.f m=none):Step st [Str.ofString "let",n,Str.ofString "together",m,k] "name" (.str m) st:=
 .name (zQ hn hm hk) ⟨3,rfl,rfl,hy,fun j hj k h1 h2=>by
  match j,h1 with
  | 0,h1=>exact absurd s!"7" s!"c"
  | 1,h1=>exact absurd s!"7" s!"c"
  | 2,h1=>exact absurd s!"7" s!"c"
  | _+3,_=>omega⟩
theorem znt {st:DSt} {n m k:Str} (hn:zn n=true) (hm:zn m=true) (hk:zn k=true) (hx:st.f m≠none) (hy:st.f k=none):Step st [Str.ofString "let",n,Str.ofString "together",m,k] "name" (.str k) st:=
 .name (zQ hn hm hk) ⟨4,rfl,rfl,hy,fun j hj k h1 h2=>by
  match j,h1,h2 with
  | 0,h1,_=>exact absurd s!"7" s!"c"
  | 1,h1,_=>exact absurd s!"7" s!"c"
  | 2,h1,_=>exact absurd s!"7" s!"c"
  | 3,_,h2=>cases h2;exact hx
  | _+4,_,_=>omega⟩
theorem znu {st:DSt} {m:Str} (hm:zn m=true) (hy:st.f m=none):Step st [Str.ofString "drop",m] "name" (.str m) st:=
 .name (wN hm) ⟨1,rfl,rfl,hy,fun j hj k h1 h2=>by
  obtain rfl:j=0:=by omega
  exact absurd (Option.some.inj h1) (by decide)⟩
theorem zbA {st:DSt} {ask m:Str} (ha:ask∈zbT) (hm:zn m=true) (hy:st.f m=none):Step st [ask,m] "name" (.str m) st:=
 .name (xz ha hm) ⟨1,rfl,rfl,hy,fun j hj k h1 h2=>by
  obtain rfl:j=0:=by omega
  exact absurd (Option.some.inj h1) (za8 ha).1⟩
structure PcL (ws:List Str):Prop where
 ne:ws≠[]
 len:ws.length<=14
 pc:∀w∈ws,Pc w
theorem Pc.one {w:Str} (h:Pc w):PcL [w]:=⟨by simp,by simp,fun x hx=>by rw [List.mem_singleton.mp hx];exact h⟩
theorem PcL.cons {w:Str} {ws:List Str} (h:Pc w) (k:PcL ws) (l:ws.length<=13):PcL (w::ws):=⟨by simp,by simp;omega,fun x hx=>(List.mem_cons.mp hx).elim (fun e=>e▸h) (k.pc x)⟩
def pcB (w:Str):Bool:=w.cps.all (·<128) && decide (w.length<=62) && decide (32∉w.cps.toList)
theorem zpL {w:Str} (h:pcB w=true):Pc w:=by
 unfold pcB at h;rw [Bool.and_eq_true,Bool.and_eq_true,decide_eq_true_eq,decide_eq_true_eq] at h;exact zgL h.1.1 h.1.2 h.2
theorem zp {ws:List Str} (h:(decide (ws≠[]) && decide (ws.length<=14) && ws.all pcB)=true):PcL ws:=by
 rw [Bool.and_eq_true,Bool.and_eq_true,decide_eq_true_eq,decide_eq_true_eq,List.all_eq_true] at h;exact ⟨h.1.1,h.1.2,fun w hw=>zpL (h.2 w hw)⟩
theorem Run.ln {st st1 st2:DSt} {t w:Str} {v:V} {rs:List (Str×Str×V)} {ws:List Str} (e:t=Txt.join " " ws) (h:PcL ws) (s:Step st ws w v st1) (b:st.dn.length+1<=60) (r:Run st1 rs st2):Run st ((t,w,v)::rs) st2:=by
 obtain ⟨h1,h2⟩:=zog h.ne h.len h.pc;rw [<-e] at h1 h2;exact .cons h1 (h2.symm▸s) b r
def ofL (l:List (Str×Tb)):Str->Option Tb:=fun n=>l.lookup n
def put (l:List (Str×Tb)) (n:Str) (x:Tb):List (Str×Tb):=(n,x)::l.filter (fun p=>!(n==p.1))
theorem zH {n m:Str} {x:Tb} {l:List (Str×Tb)} (h:¬n=m):((m,x)::l).lookup n=l.lookup n:=by
 rw [List.lookup_cons,beq_false_of_ne h]
theorem zcg {n:Str} {x:Tb} {l:List (Str×Tb)}:((n,x)::l).lookup n=some x:=by
 rw [List.lookup_cons,beq_self_eq_true]
theorem xg {n m:Str} (h:¬n=m):∀l:List (Str×Tb),(l.filter (fun p=>!(m==p.1))).lookup n=l.lookup n
 | []=>rfl
 | (k,x)::l=>by
  rw [List.filter_cons];split
  ·by_cases e:n=k
   ·subst e;rw [zcg,zcg]
   ·rw [zH e,zH e];exact xg h l
  ·rename_i c;have e:m=k:=by simpa using c
   rw [xg h l,zH (fun z=>h (z.trans e.symm))]
theorem zbB (m:Str):∀l:List (Str×Tb),(l.filter (fun p=>!(m==p.1))).lookup m=none
 | []=>rfl
 | (k,x)::l=>by
  rw [List.filter_cons];split
  ·rename_i c;have e:¬m=k:=by simpa using c
   rw [zH e];exact zbB m l
  ·exact zbB m l
theorem zhI (l:List (Str×Tb)) (n:Str) (x:Tb):zr (ofL l) n (some x)=ofL (put l n x):=by
 funext m;unfold zr ofL put
 by_cases e:m=n
 ·rw [if_pos e,e,zcg]
 ·rw [if_neg e,zH e,xg e]
theorem znv (l:List (Str×Tb)) (n:Str):zr (ofL l) n none=ofL (l.filter (fun p=>!(n==p.1))):=by
 funext m;unfold zr ofL
 by_cases e:m=n
 ·rw [if_pos e,e,zbB]
 ·rw [if_neg e,xg e]
theorem zhJ {n:Str}:∀{l:List (Str×Tb)},ofL l n≠none↔n∈l.map (·.1)
 | []=>by simp [ofL]
 | (k,x)::l=>by
  unfold ofL
  by_cases e:n=k
  ·subst e;rw [zcg];simp
  ·rw [zH e];have:=zhJ (n:=n) (l:=l);unfold ofL at this;simp [this,e]
theorem nmL {l:List (Str×Tb)} {ks ms:List Str} {t:Str} (hk:l.map (·.1)=ks) (h:(decide (∀n∈ms,n∈ks) && decide (∀n∈ks,n∈ms) && decide ms.Nodup && PyProof.Rows.sortedS ms && decide (t=if ms=[] then Str.ofString "none" else Txt.join " " ms))=true):NmT (ofL l) t:=by
 simp only [Bool.and_eq_true,decide_eq_true_eq] at h;obtain ⟨⟨⟨⟨h1,h2⟩,h3⟩,h4⟩,h5⟩:=h;refine ⟨ms,⟨fun n=>?_,h3,h4⟩,h5⟩
 rw [zhJ,hk];exact ⟨h1 n,h2 n⟩
def sL (l:List (Str×Tb)) (dn bk:List ym):DSt:=⟨ofL l,dn,bk⟩
theorem sL.put {l l':List (Str×Tb)} {dn bk:List ym} {n:Str} {x:Tb} {o:Option Tb} (e:put l n x=l') (h:ofL l n=o):(⟨zr (sL l dn bk).f n (some x),(sL l dn bk).dn++[(n,(sL l dn bk).f n,some x)],[]⟩:DSt)=sL l' (dn++[(n,o,some x)]) []:=by
 unfold sL;dsimp only;rw [zhI,e,h]
theorem sL.new {l l':List (Str×Tb)} {dn bk:List ym} {n:Str} {x:Tb} {o:Option Tb} {ps:List Str} {t t':Str} (s:Step (sL l dn bk) ps "told" s!"F" ⟨zr (sL l dn bk).f n (some x),(sL l dn bk).dn++[(n,(sL l dn bk).f n,some x)],[]⟩) (e:My.put l n x=l') (h:ofL l n=o) (et:t=t'):Step (sL l dn bk) ps "told" (.str t') (sL l' (dn++[(n,o,some x)]) []):=by
 rw [sL.put e h,et] at s;exact s
def tbA:Tb:=(7,2,3,1)
def tbB:Tb:=(1,-2,-3,7)
def tbK:Tb:=(1,5,0,1)
def lAB:List (Str×Tb):=[(Str.ofString "b",tbB),(Str.ofString "a",tbA)]
def zde:List (Str×Tb):=[(Str.ofString "k",tbK),(Str.ofString "b",tbB),(Str.ofString "a",tbA)]
def d2:List ym:=[(Str.ofString "a",none,some tbA),(Str.ofString "b",none,some tbB)]
def dK:ym:=(Str.ofString "k",none,some tbK)
abbrev st2:DSt:=sL lAB d2 [dK]
theorem zW {x:Tb} (h:(decide (x.1*x.2.2.2-x.2.1*x.2.2.1=1) && decide (x.1.natAbs<10^60) && decide (x.2.1.natAbs<10^60) && decide (x.2.2.1.natAbs<10^60) && decide (x.2.2.2.natAbs<10^60))=true):yn x:=by
 simp only [Bool.and_eq_true,decide_eq_true_eq] at h;exact ⟨h.1.1.1.1,h.1.1.1.2,h.1.1.2,h.1.2,h.2⟩
theorem zq9 (p:Bool×Int):Mth.Alt [p]:=fun i a b ha hb=>by
 match i with
 | 0=>simp at hb
 | _+1=>simp at ha
theorem znw {p q:Bool×Int} (h:p.1≠q.1):Mth.Alt [p,q]:=fun i a b ha hb=>by
 match i with
 | 0=>
  cases ha;cases hb;exact h
 | 1=>simp at hb
 | _+2=>simp at ha
theorem zrl {p q r:Bool×Int} (h:p.1≠q.1) (k:q.1≠r.1):Mth.Alt [p,q,r]:=fun i a b ha hb=>by
 match i with
 | 0=>
  cases ha;cases hb;exact h
 | 1=>
  cases ha;cases hb;exact k
 | 2=>simp at hb
 | _+3=>simp at ha
theorem zay {ws:List (Bool×Int)} (h:(decide ((Mth.fw ws).1<10^140) && decide ((Mth.fw ws).2.1<10^140) && decide ((Mth.fw ws).2.2.1<10^140) && decide ((Mth.fw ws).2.2.2<10^140))=true):Big ws:=by
 simp only [Bool.and_eq_true,decide_eq_true_eq] at h;exact ⟨h.1.1.1,h.1.1.2,h.1.2,h.2⟩
theorem zrm:Run (sL [] [] []) ([rw3 "word a u 2 v 3" "told" (.str "7 2 3 1"),rw3 "let b back a" "told" (.str "1 -2 -3 7")]++[rw3 "word k u 5" "told" (.str "1 5 0 1"),rw3 "undo" "told" (.str "a b")]) st2:=by
 refine .ln (ws:=Str.ofString "word"::Str.ofString "a"::qsW [(true,2),(false,3)]) s!"b" (zp s!"b") (sL.new (l':=[(Str.ofString "a",tbA)]) (o:=none) (xD s!"b" ⟨by decide,znw s!"c"⟩ ?_ (zW s!"b")) rfl rfl s!"b") s!"c" ?_
 ·exact zay s!"b"
 refine .ln (ws:=[Str.ofString "let",Str.ofString "b",Str.ofString "back",Str.ofString "a"]) s!"b" (zp s!"b") (sL.new (l':=lAB) (o:=none) (zd9 (y:=tbA) s!"b" s!"b" (by rfl) (zW s!"b")) (by rfl) (by rfl) s!"b") s!"c" ?_
 refine .ln (ws:=Str.ofString "word"::Str.ofString "k"::qsW [(true,5)]) s!"b" (zp s!"b") (sL.new (l':=zde) (o:=none) (xD s!"b" ⟨by decide,zq9 _⟩ ?_ (zW s!"b")) (by rfl) (by rfl) s!"b") s!"c" ?_
 ·exact zay s!"b"
 refine .ln (ws:=[Str.ofString "undo"]) s!"b" (zp s!"b") ?_ s!"c" .nil
 have e:zr (sL zde (d2++[dK]) []).f dK.1 dK.2.1=ofL lAB:=by
  show zr (ofL zde) s!"B{"k"}" none=_;rw [znv];rfl
 have s:Step (sL zde (d2++[dK]) []) [Str.ofString "undo"] "told" (.str "a b") ⟨zr (sL zde (d2++[dK]) []).f dK.1 dK.2.1,d2,[]++[dK]⟩:=.undo rfl rfl (by rw [e];exact nmL (l:=lAB) (ms:=[Str.ofString "a",Str.ofString "b"]) rfl s!"b")
 rw [e] at s;exact s
theorem OneTwo.ne1 {one two:Str} (o:OneTwo one two) {m:Str} (h:m.length=1):¬one=m:=fun e=>by
 have:=o.l1;rw [e] at this;omega
theorem OneTwo.ne2 {one two:Str} (o:OneTwo one two) {m:Str} (h:m.length=1):¬two=m:=fun e=>by
 have:=o.l2;rw [e] at this;omega
theorem OneTwo.f1 {one two:Str} (o:OneTwo one two):st2.f one=none:=by
 show lAB.lookup one=none;unfold lAB;rw [zH (o.ne1 s!"b"),zH (o.ne1 s!"b")]
 rfl
theorem OneTwo.f2 {one two:Str} (o:OneTwo one two):st2.f two=none:=by
 show lAB.lookup two=none;unfold lAB;rw [zH (o.ne2 s!"b"),zH (o.ne2 s!"b")]
 rfl
theorem pcA (w:Str) (h:pcB w=true):Pc w:=zpL h
theorem zgR {st:DSt} {p m:Str} (h1:zj p=true) (h2:zj m=true) (hm:zB m<1):Step st [Str.ofString "points",p,m] "count" .non st:=
 .num rfl (.inr ⟨by decide,rfl⟩) (by simp [h1,h2]) (.inl rfl) fun e H Q q=>.inr (.inr (.inl ⟨rfl,_,_,rfl,hm,fun H' s=>.inr (.inr (.inr (.inr (.inr (.inr (.inr (.inr ⟨rfl,q H' s⟩)))))))⟩))
theorem zgS {st:DSt} {n m a b:Str} (h1:zj n=true) (h2:zj m=true) (h3:zj a=true) (h4:zj b=true) (hm:zB n<0):Step st [Str.ofString "parts",n,m,a,b] "count" .non st:=
 .num rfl (.inl ⟨rfl,rfl⟩) (by simp [h1,h2,h3,h4]) (.inl rfl) fun e H Q q=>.inl ⟨rfl,_,_,_,_,rfl,hm,fun H' s=>.inr (.inr (.inr (.inr (.inr (.inr (.inr (.inr ⟨rfl,q H' s⟩)))))))⟩
theorem znx {st:DSt} {p m:Str} (h1:zj p=true) (h2:zj m=true) (hm:1<=zB m) (hp:zB m%2=0):Step st [Str.ofString "sign",p,m] "odd" .non st:=
 .num rfl (.inr ⟨by decide,rfl⟩) (by simp [h1,h2]) (.inl rfl) fun e H Q q=>.inr (.inl ⟨rfl,_,_,rfl,hm,hp,fun H' s=>.inr (.inr (.inr (.inr (.inr (.inr (.inl ⟨rfl,q H' s⟩))))))⟩)
theorem ziT {st:DSt} {p m:Str} (h1:zj p=true) (h2:zj m=true) (hm:1<=zB m) (hp:Int.gcd (zB p) (zB m)≠1):Step st [Str.ofString "shuffle",p,m] "apart" .non st:=
 .num rfl (.inr ⟨by decide,rfl⟩) (by simp [h1,h2]) (.inl rfl) fun e H Q q=>.inr (.inr (.inr ⟨rfl,_,_,rfl,hm,hp,fun H' s=>.inr (.inr (.inr (.inr (.inr (.inr (.inr (.inl ⟨rfl,q H' s⟩)))))))⟩))
theorem j1 (a b:Str) (r:List Str):Txt.join " " (a::b::r)=a++Str.ofString " "++Txt.join " " (b::r):=by
 rw [ze5,ze5];rfl
theorem j0 (a:Str):Txt.join " " [a]=a:=by
 rw [ze5];rfl
theorem zrn {one two:Str} (o:OneTwo one two):Run st2 (zcf one two) st2:=by
 have n1:=o.n1;have n2:=o.n2;have f1:=o.f1;have f2:=o.f2;have p1:=zlf n1;have p2:=zlf n2;have na:zn s!"B{"a"}"=true:=by decide+kernel
 have nc:zn s!"B{"c"}"=true:=by decide+kernel
 have nb:zn s!"B{"b"}"=true:=by decide+kernel
 unfold zcf rw3;refine .ln (ws:=[Str.ofString "let",Str.ofString "c",Str.ofString "together",one,two]) ?_ s!"'{s!"'{s!"'{.cons p1 p2.one (by simp)}"}"}" (zhH nc n1 n2 f1) s!"c" ?_
 ·rw [j1,j1,j1,j1,j0,show Str.ofString "let c together "=Str.ofString "let"++Str.ofString " "++Str.ofString "c"++Str.ofString " "++Str.ofString "together"++Str.ofString " " by decide+kernel]
  simp only [Str.append_assoc,Str.empty_append]
 refine .ln (ws:=[Str.ofString "let",Str.ofString "c",Str.ofString "together",Str.ofString "a",two]) ?_ s!"'{s!"'{s!"'{s!"'{p2.one}"}"}"}" (znt nc na n2 s!"c" f2) s!"c" ?_
 ·rw [j1,j1,j1,j1,j0,show Str.ofString "let c together a "=Str.ofString "let"++Str.ofString " "++Str.ofString "c"++Str.ofString " "++Str.ofString "together"++Str.ofString " "++Str.ofString "a"++Str.ofString " " by decide+kernel]
  simp only [Str.append_assoc,Str.empty_append]
 refine .ln (ws:=[Str.ofString "let",Str.ofString "a",Str.ofString "together",two,Str.ofString "a"]) ?_ s!"'{s!"'{s!"'{.cons p2 (Pc.one (pcA _ s!"b")) (by simp)}"}"}" (zhH na n2 na f2) s!"c" ?_
 ·rw [j1,j1,j1,j1,j0,show Str.ofString "let a together "=Str.ofString "let"++Str.ofString " "++Str.ofString "a"++Str.ofString " "++Str.ofString "together"++Str.ofString " " by decide+kernel,show Str.ofString " a"=Str.ofString " "++Str.ofString "a" by decide+kernel]
  simp only [Str.append_assoc,Str.empty_append]
 refine .ln (ws:=[Str.ofString "let",one,Str.ofString "back",one]) ?_ s!"'{.cons p1 s!"al" (by simp)}" (zns n1 n1 f1) s!"c" ?_
 ·rw [j1,j1,j1,j0,show Str.ofString "let "=Str.ofString "let"++Str.ofString " " by decide+kernel,show Str.ofString " back "=Str.ofString " "++Str.ofString "back"++Str.ofString " " by decide+kernel]
  simp only [Str.append_assoc,Str.empty_append]
 have askl:∀w:Str,Str.empty++w++Str.ofString " "++one=Txt.join " " [w,one]:=fun w=>by
  rw [j1,j0];simp only [Str.append_assoc,Str.empty_append]
 refine .ln (ws:=[Str.ofString "drop",one]) (askl _) s!"al" (znu n1 f1) s!"c" ?_
 refine .ln (ws:=[Str.ofString "show",one]) (askl _) s!"al" s!"bg" s!"c" ?_
 refine .ln (ws:=[Str.ofString "number",one]) (askl _) s!"al" s!"bg" s!"c" ?_
 refine .ln (ws:=[Str.ofString "steady",one]) (askl _) s!"al" s!"bg" s!"c" ?_
 refine .ln (ws:=[Str.ofString "spell",one]) (askl _) s!"al" s!"bg" s!"c" ?_
 refine .ln (ws:=[Str.ofString "table",Str.ofString "c",Str.ofString "2",Str.ofString "0",Str.ofString "0",Str.ofString "1"]) s!"b" (zp s!"b") (zbz (x:=(2,0,0,1)) nc s!"b" s!"b" s!"b" s!"b" ?_ s!"b" s!"c") s!"c" ?_
 ·exact ⟨by decide+kernel,by decide+kernel⟩
 refine .ln (ws:=[Str.ofString "table",Str.ofString "a",Str.ofString "1",Str.ofString "0",Str.ofString "0",Str.ofString "-1"]) s!"b" (zp s!"b") (zbz (x:=(1,0,0,-1)) na s!"b" s!"b" s!"b" s!"b" ?_ s!"b" s!"c") s!"c" ?_
 ·exact ⟨by decide+kernel,by decide+kernel⟩
 refine .ln (ws:=[Str.ofString "table",Str.ofString "c",Str.ofString "0",Str.ofString "0",Str.ofString "0",Str.ofString "0"]) s!"b" (zp s!"b") (zbz (x:=(0,0,0,0)) nc s!"b" s!"b" s!"b" s!"b" ?_ s!"b" s!"c") s!"c" ?_
 ·exact ⟨by decide+kernel,by decide+kernel⟩
 refine .ln (ws:=[Str.ofString "spell",Str.ofString "b"]) s!"b" (zp s!"b") (.noSpell (x:=tbB) rfl nb (by rfl) s!"c") s!"c" ?_
 refine .ln (ws:=[Str.ofString "sign",Str.ofString "1",Str.ofString "2"]) s!"b" (zp s!"b") (znx s!"b" s!"b" s!"b" s!"b") s!"c" ?_
 refine .ln (ws:=[Str.ofString "points",Str.ofString "3",Str.ofString "0"]) s!"b" (zp s!"b") (zgR s!"b" s!"b" s!"b") s!"c" ?_
 refine .ln (ws:=[Str.ofString "shuffle",Str.ofString "6",Str.ofString "9"]) s!"b" (zp s!"b") (ziT s!"b" s!"b" s!"b" s!"b") s!"c" ?_
 refine .ln (ws:=[Str.ofString "parts",Str.ofString "-1",Str.ofString "3",Str.ofString "1",Str.ofString "1"]) s!"b" (zp s!"b") (zgS s!"b" s!"b" s!"b" s!"b" s!"b") s!"c" ?_
 refine .ln (ws:=Str.ofString "word"::Str.ofString "c"::qsW [(true,10^60-1),(false,1)]) s!"b" (zp s!"b") s!"bB{⟨by decide+kernel,znw s!"c"⟩}{fun z=>absurd z.1 s!"b"}" s!"c" ?_
 refine .ln (ws:=Str.ofString "word"::Str.ofString "c"::qsW [(false,10^60-1),(true,1)]) s!"b" (zp s!"b") s!"bB{⟨by decide+kernel,znw s!"c"⟩}{fun z=>absurd z.2.2.2 s!"b"}" s!"c" ?_
 refine .ln (ws:=Str.ofString "word"::Str.ofString "c"::qsW [(true,10^60-1),(false,1),(true,1)]) s!"b" (zp s!"b") s!"bB{⟨by decide+kernel,zrl s!"c" s!"c"⟩}{fun z=>absurd z.1 s!"b"}" s!"c" .nil
def tbI:Tb:=(1,0,0,1)
def tbL:Tb:=(1,1,0,1)
def tbT:Tb:=(1,10^60-1,0,1)
def tbC:Tb:=(1,1-10^60,0,1)
def tbF (far:Int):Tb:=(far+1,far,1,1)
def l4 (far:Int):List (Str×Tb):=(Str.ofString "big",tbF far)::zde
def l5 (far:Int):List (Str×Tb):=(Str.ofString "low",tbL)::l4 far
def l6 (far:Int):List (Str×Tb):=(Str.ofString "top",tbT)::l5 far
def l7 (far:Int):List (Str×Tb):=(Str.ofString "c",tbC)::l6 far
def l8 (far:Int):List (Str×Tb):=(Str.ofString "low",tbI)::(Str.ofString "c",tbC)::(Str.ofString "top",tbT)::l4 far
def l9 (far:Int):List (Str×Tb):=(Str.ofString "c",tbT)::(Str.ofString "low",tbI)::(Str.ofString "top",tbT)::l4 far
def zlo (one:Str) (far:Int):List Rw:=
 [rw3 "names" "told" (.str "a b"),rw3 "show a" "told" (.str "7 2 3 1"),rw3 "redo" "told" (.str "a b k")]++[rw3 "redo" "deed" .non]++
 [rw3 (Str.empty++Str.ofString "word big u "++zK far++Str.ofString " v 1") "told" (.str (Str.empty++zK (far+1)++Str.ofString " "++zK far++Str.ofString " 1 1"))]++
 [rw3 "word low u 1" "told" (.str "1 1 0 1")]++
 [rw3 (Str.empty++Str.ofString "table top 1 "++zK (10^60-1)++Str.ofString " 0 1") "told" (.str (Str.empty++Str.ofString "1 "++zK (10^60-1)++Str.ofString " 0 1"))]++
 [rw3 "let c together top low" "many" .non]++[rw3 "let c together low top" "many" .non]++
 [rw3 "let c back top" "told" (.str (Str.empty++Str.ofString "1 "++zK (1-10^60)++Str.ofString " 0 1"))]++
 [rw3 "let low together c top" "told" (.str "1 0 0 1")]++
 [rw3 "let c together top low" "told" (.str (Str.empty++Str.ofString "1 "++zK (10^60-1)++Str.ofString " 0 1"))]++
 [rw3 (Str.empty++Str.ofString "word "++one++Str.ofString " none") "told" (.str "1 0 0 1"),rw3 (Str.empty++Str.ofString "number "++one) "told" (.str "0")]++
 [rw3 (Str.empty++Str.ofString "drop "++one) "told" (.str "a b big c k low top"),rw3 (Str.empty++Str.ofString "number "++one) "name" (.str one)]
theorem OneTwo.ne3 {one two:Str} (o:OneTwo one two) {m:Str} {c:Nat} (h:m.cps.toList[2]? =some c) (hc:c≠113):¬one=m:=fun e=>by
 have:=o.q;rw [e] at this;exact hc (this c h)
theorem OneTwo.f9 {one two:Str} (o:OneTwo one two) (far:Int):ofL (l9 far) one=none:=by
 show (l9 far).lookup one=none;unfold l9 l4 zde;rw [zH (o.ne1 s!"b"),zH (o.ne3 (c:=119) s!"b" s!"c"),zH (o.ne3 (c:=112) s!"b" s!"c"),zH (o.ne3 (c:=103) s!"b" s!"c"),zH (o.ne1 s!"b"),zH (o.ne1 s!"b"),zH (o.ne1 s!"b")]
 rfl
theorem zgT (far:Int):Mth.fw [(true,far),(false,1)]=tbF far:=by
 unfold Mth.fw tbF;simp [Mth.yT];try omega
def dn9 (far:Int):List ym:=d2++[dK]++[(Str.ofString "big",none,some (tbF far))]++[(Str.ofString "low",none,some tbL)]++[(Str.ofString "top",none,some tbT)]++[(Str.ofString "c",none,some tbC)]++[(Str.ofString "low",some tbL,some tbI)]++[(Str.ofString "c",some tbC,some tbT)]
def st9 (far:Int):DSt:=sL (l9 far) (dn9 far) []
def zfc (one:Str) (far:Int):DSt:=⟨zr (st9 far).f one (some tbI),(st9 far).dn++[(one,(st9 far).f one,some tbI)],[]⟩
def ziU (one:Str) (far:Int):DSt:=⟨zr s!"am".f one none,s!"am".dn++[(one,s!"am".f one,none)],[]⟩
theorem zra (a b c d:Str):Txt.join " " [a,b,c,d]=a++Str.ofString " "++b++Str.ofString " "++c++Str.ofString " "++d:=by
 rw [j1,j1,j1,j0];simp only [Str.append_assoc]
theorem zpM (st:DSt) (n:Str) (hn:zn n=true):Step st [Str.ofString "table",n,Str.ofString "1",zK (10^60-1),Str.ofString "0",Str.ofString "1"] "told" (.str (zaj tbT.1 tbT.2.1 tbT.2.2.1 tbT.2.2.2)) ⟨zr st.f n (some tbT),st.dn++[(n,st.f n,some tbT)],[]⟩:=
 zgQ (x:=tbT) hn s!"b" s!"b" s!"b" s!"b" ⟨by decide+kernel,by decide+kernel⟩ (zW s!"b")
theorem zro {one two:Str} (o:OneTwo one two) {far:Int} (h0:0<far) (h1:far<=10^60-2):Run st2 (zlo one far) (ziU one far):=by
 have n1:=o.n1;have p1:=zlf n1;have na:zn s!"B{"a"}"=true:=by decide+kernel
 have nc:zn s!"B{"c"}"=true:=by decide+kernel
 have nt:zn s!"B{"top"}"=true:=by decide+kernel
 have nl:zn s!"B{"low"}"=true:=by decide+kernel
 have pF:=zle (n:=far) s!"e"
 unfold zlo rw3;refine .ln (ws:=[Str.ofString "names"]) s!"b" (zp s!"b") (.names rfl (nmL (l:=lAB) (ms:=[Str.ofString "a",Str.ofString "b"]) rfl s!"b")) (Nat.le_of_ble_eq_true rfl) ?_
 refine .ln (ws:=[Str.ofString "show",Str.ofString "a"]) s!"b" (zp s!"b") (show Step st2 [Str.ofString "show",Str.ofString "a"] "told" (.str "7 2 3 1") st2 from (show Str.ofString "7 2 3 1"=zaj tbA.1 tbA.2.1 tbA.2.2.1 tbA.2.2.2 by decide+kernel)▸.sho (x:=tbA) rfl na rfl) (Nat.le_of_ble_eq_true rfl) ?_
 have e:zr st2.f dK.1 dK.2.2=ofL zde:=by
  show zr (ofL lAB) s!"B{"k"}" (some tbK)=_;rw [zhI];rfl
 have s:Step st2 [Str.ofString "redo"] "told" (.str "a b k") ⟨zr st2.f dK.1 dK.2.2,d2++[dK],[]⟩:=.redo (bk0:=[]) rfl rfl (by rw [e];exact nmL (l:=zde) (ms:=[Str.ofString "a",Str.ofString "b",Str.ofString "k"]) rfl s!"b")
 rw [e] at s;refine .ln (ws:=[Str.ofString "redo"]) s!"b" (zp s!"b") s s!"c" ?_
 refine .ln (ws:=[Str.ofString "redo"]) s!"b" (zp s!"b") (.redo0 rfl rfl) (Nat.le_of_ble_eq_true rfl) ?_
 have gF:yn (tbF far):=⟨by show (far+1)*1-far*1=1;omega,by show (far+1).natAbs<_;omega,by show far.natAbs<_;omega,by show (1:Int).natAbs<_;decide,by show (1:Int).natAbs<_;decide⟩
 have wg:WG [(true,far),(false,1)]:=⟨fun p hp=>by
  simp only [List.mem_cons,List.not_mem_nil,or_false] at hp;rcases hp with rfl | rfl
  ·exact ⟨by show 1<=far;omega,by show far.natAbs<_;omega⟩
  ·decide,znw (by show true≠false;decide)⟩
 have bg:Big [(true,far),(false,1)]:=by
  unfold Big;rw [zgT];exact ⟨by show far+1<_;omega,by show far<_;omega,by show (1:Int)<_;decide,by show (1:Int)<_;decide⟩
 have sw:=xD (st:=sL zde (d2++[dK]) []) (n:=Str.ofString "big") s!"b" wg bg (by rw [zgT];exact gF)
 rw [zgT] at sw;refine .ln (ws:=Str.ofString "word"::Str.ofString "big"::qsW [(true,far),(false,1)]) ?_ ⟨by simp,?_,fun w hw=>?_⟩ (sL.new (l':=l4 far) (o:=none) sw rfl rfl ?_) (Nat.le_of_ble_eq_true rfl) ?_
 ·show _=Txt.join " " [Str.ofString "word",Str.ofString "big",Str.ofString "u",zK far,Str.ofString "v",zK 1];rw [j1,j1,j1,j1,j1,j0,show Str.ofString "word big u "=Str.ofString "word"++Str.ofString " "++Str.ofString "big"++Str.ofString " "++Str.ofString "u"++Str.ofString " " by decide+kernel,show Str.ofString " v 1"=Str.ofString " "++Str.ofString "v"++Str.ofString " "++zK 1 by decide+kernel]
  simp only [Str.append_assoc,Str.empty_append]
 ·show 6<=14;decide
 ·rcases List.mem_cons.mp hw with rfl | hw
  ·exact pcA _ s!"b"
  rcases List.mem_cons.mp hw with rfl | hw
  ·exact pcA _ s!"b"
  exact wg.pcs w hw
 ·show zaj (far+1) far 1 1=_;unfold zaj;rw [zra,show Str.ofString " 1 1"=Str.ofString " "++zK 1++Str.ofString " "++zK 1 by decide+kernel]
  simp only [Str.append_assoc,Str.empty_append]
 refine .ln (ws:=Str.ofString "word"::Str.ofString "low"::qsW [(true,1)]) s!"b" (zp s!"b") (sL.new (l':=l5 far) (o:=none) (xD nl ⟨by decide,zq9 _⟩ (zay s!"b") (zW s!"b")) rfl rfl s!"b") (Nat.le_of_ble_eq_true rfl) ?_
 refine .ln (ws:=[Str.ofString "table",Str.ofString "top",Str.ofString "1",zK (10^60-1),Str.ofString "0",Str.ofString "1"]) s!"b" (zp s!"b") (sL.new (l':=l6 far) (o:=none) (zpM _ _ nt) rfl rfl s!"b") (Nat.le_of_ble_eq_true rfl) ?_
 refine .ln (ws:=[Str.ofString "let",Str.ofString "c",Str.ofString "together",Str.ofString "top",Str.ofString "low"]) s!"b" (zp s!"b") (za9 (y:=tbT) (z:=tbL) nc nt nl rfl rfl (zW s!"b").2 (zW s!"b").2 (fun z=>absurd z.2.1 s!"b")) (Nat.le_of_ble_eq_true rfl) ?_
 refine .ln (ws:=[Str.ofString "let",Str.ofString "c",Str.ofString "together",Str.ofString "low",Str.ofString "top"]) s!"b" (zp s!"b") (za9 (y:=tbL) (z:=tbT) nc nl nt rfl rfl (zW s!"b").2 (zW s!"b").2 (fun z=>absurd z.2.1 s!"b")) (Nat.le_of_ble_eq_true rfl) ?_
 refine .ln (ws:=[Str.ofString "let",Str.ofString "c",Str.ofString "back",Str.ofString "top"]) s!"b" (zp s!"b") (sL.new (l':=l7 far) (o:=none) (zd9 (y:=tbT) nc nt rfl (zW s!"b")) rfl rfl s!"b") (Nat.le_of_ble_eq_true rfl) ?_
 refine .ln (ws:=[Str.ofString "let",Str.ofString "low",Str.ofString "together",Str.ofString "c",Str.ofString "top"]) s!"b" (zp s!"b") (sL.new (l':=l8 far) (o:=some tbL) (zfY (y:=tbC) (z:=tbT) nl nc nt rfl rfl (zW s!"b")) rfl rfl s!"b") (Nat.le_of_ble_eq_true rfl) ?_
 refine .ln (ws:=[Str.ofString "let",Str.ofString "c",Str.ofString "together",Str.ofString "top",Str.ofString "low"]) s!"b" (zp s!"b") (sL.new (l':=l9 far) (o:=some tbC) (zfY (y:=tbT) (z:=tbI) nc nt nl rfl rfl (zW s!"b")) rfl rfl s!"b") (Nat.le_of_ble_eq_true rfl) ?_
 show Run (st9 far) _ (ziU one far);refine .ln (ws:=Str.ofString "word"::one::qsW []) ?_ (.cons (pcA _ s!"b") (.cons p1 (Pc.one (pcA _ s!"b")) (Nat.le_of_ble_eq_true rfl)) (Nat.le_of_ble_eq_true rfl)) (show Step (st9 far) (Str.ofString "word"::one::qsW []) "told" (.str "1 0 0 1") s!"am" from (show Str.ofString "1 0 0 1"=zaj 1 0 0 1 by decide+kernel)▸xD n1 ⟨by decide,fun i a b ha hb=>by simp at ha⟩ (zay s!"b") (zW s!"b")) (Nat.le_of_ble_eq_true rfl) ?_
 ·show _=Txt.join " " [Str.ofString "word",one,Str.ofString "none"];rw [j1,j1,j0,show Str.ofString "word "=Str.ofString "word"++Str.ofString " " by decide+kernel,show Str.ofString " none"=Str.ofString " "++Str.ofString "none" by decide+kernel]
  simp only [Str.append_assoc,Str.empty_append]
 have ln:∀{w v:Str},v=w++Str.ofString " "->Str.empty++v++one=Txt.join " " [w,one]:=fun {w v} e=>by
  rw [j1,j0,e];simp only [Str.append_assoc,Str.empty_append]
 refine .ln (ws:=[Str.ofString "number",one]) (ln s!"b") s!"al" (show Step s!"am" [Str.ofString "number",one] "told" (.str "0") s!"am" from (show Str.ofString "0"=zK (tbI.2.1*tbI.2.2.2) by decide+kernel)▸.number (x:=tbI) rfl n1 (wP _ _ _) rfl) (Nat.le_of_ble_eq_true rfl) ?_
 have sb:=wO (ofL (l9 far)) one (some tbI);rw [o.f9] at sb;have eb:zr s!"am".f one none=ofL (l9 far):=sb;refine .ln (ws:=[Str.ofString "drop",one]) (ln s!"b") s!"al" (show Step s!"am" [Str.ofString "drop",one] "told" (.str "a b big c k low top") (ziU one far) from .drop rfl n1 (by rw [show s!"am".f one=some tbI from wP _ _ _];exact fun z=>nomatch z) (by rw [eb];exact nmL (l:=l9 far) (ks:=[Str.ofString "c",Str.ofString "low",Str.ofString "top",Str.ofString "big",Str.ofString "k",Str.ofString "b",Str.ofString "a"]) (ms:=[Str.ofString "a",Str.ofString "b",Str.ofString "big",Str.ofString "c",Str.ofString "k",Str.ofString "low",Str.ofString "top"]) rfl s!"b")) (Nat.le_of_ble_eq_true rfl) ?_
 exact .ln (ws:=[Str.ofString "number",one]) (ln s!"b") s!"al" (zbA s!"c" n1 (show (ziU one far).f one=none from wP _ _ _)) (Nat.le_of_ble_eq_true rfl) .nil
theorem zrp (one:Str) (far:Int):(ziU one far).dn.length=11:=rfl
theorem zpN (F:Src K mg "law" zdY ["_law_script"]) (B:Blt mg) (C:Cls K mg base) (R:Rel K mg base C) (Kc:Cst K mg) (D_Desk___init__:s!"aa{1}{C.Desk.f___init__}{["self"]}{zk9 C.Desk.addr}") (D__law_cell:s!"m{1}{"_law_cell"}{["_law_script","_law_k"]}{zgN K}") (D__law_draws:s!"m{2}{"_law_draws"}{["_law_cell_here","_law_widths","_law_prime"]}{zce K}") (D__law_names_drawn:s!"m{3}{"_law_names_drawn"}{["_law_cell_here"]}{zpH}") (D__law_refusals:s!"m{1}{"_law_refusals"}{["_law_one","_law_two"]}{zpF}") (D__law_all:s!"m{9}{"_law_all"}{["_law_desk","_law_rows"]}{zlm C.Desk.addr}") (D__law_tell:s!"m{8}{"_law_tell"}{["_law_desk","_law_line"]}{znn ⟨C.NoLine.addr,C.NoName.addr,C.NoTable.addr,C.TooMany.addr,C.NoDeed.addr,C.NoWord.addr,C.NoCount.addr,C.NotOdd.addr,C.NotApart.addr⟩ C.Desk.addr}"):Def P w K mg base (CXE P w) 10 "law" ["_law_script"] (zhr K):=by
 refine F.ok (CX:=CXE P w) (k:=9) zkV s!"s" s!"u"
 ·obtain ⟨_,_,rfl,_⟩:=h;rfl
 have nd:=zkV.nd;obtain ⟨a,ns,rfl,hS,h63,q⟩:=h;refine ⟨_,s!"d{s!"i{1}{@zkA _ _ _ _ _ _ _ _ _ D_Desk___init__ C.Desk.mkk (hr.mono s!"c") rfl C.Desk.gl s!"c"}"}{s!"d{@zor _ _ _ _ _ _ s!"l{D__law_names_drawn}{xpass_nox}{s!"a{s!"bO"}{pa_nil}"}" (@zpb _ _ _ _ _ _ rfl s!"aB{s!"-{2}{nd}"}{s!"aB{s!"-{3}{nd}"}{zb3}"}" (by rfl) (by rfl)) (by rfl) (by rfl) (by rfl)}{s!"d{s!"i{4}{s!"j{op_subI}{s!"aU"}{s!"N{s!"l{D__law_draws}{xpass_nox}{s!"a{s!"bO"}{s!"a{s!"x{s!"a{s!"bh{8}"}{s!"aI"}"}"}{s!"aI"}"}"}"}"}"}"}{s!"d{s!"i{5}{s!"x{s!"a{s!"h{s!"a{pe_str}{s!"a{s!"h{s!"a{pe_str}{s!"R"}"}"}{pa_nil}"}"}"}{s!"a{s!"h{s!"a{pe_str}{s!"a{s!"h{s!"a{pe_str}{s!"R"}"}"}{pa_nil}"}"}"}{pa_nil}"}"}"}"}{s!"d{s!"i{5}{s!"j{op_addA}{pv 5}{s!"x{s!"a{s!"h{s!"a{pe_str}{s!"a{s!"h{s!"a{pe_str}{s!"R"}"}"}{pa_nil}"}"}"}{s!"a{s!"h{s!"a{pe_str}{s!"a{s!"h{s!"a{pe_str}{s!"R"}"}"}{pa_nil}"}"}"}{pa_nil}"}"}"}"}"}{s!"d{s!"w{s!"@{s!"2{s!"l{D__law_all}{xpass_nox}{s!"a{pv 1}{s!"a{s!"j{op_addA}{pv 5}{s!"l{D__law_refusals}{xpass_nox}{s!"aJ"}"}"}{pa_nil}"}"}"}"}"}{s!"ab"}"}{s!"d{s!"i{5}{s!"x{s!"a{s!"h{s!"a{pe_str}{s!"a{s!"h{s!"a{pe_str}{s!"R"}"}"}{pa_nil}"}"}"}{s!"a{s!"h{s!"a{pe_str}{s!"a{s!"h{s!"a{pe_str}{s!"R"}"}"}{pa_nil}"}"}"}{s!"a{s!"h{s!"a{pe_str}{s!"a{s!"h{s!"a{pe_str}{s!"R"}"}"}{pa_nil}"}"}"}{pa_nil}"}"}"}"}"}{s!"d{s!"i{5}{s!"j{op_addA}{pv 5}{s!"x{s!"a{s!"h{s!"a{pe_str}{s!"a{s!"h{s!"a{pe_str}{s!"a{pe_non}{pa_nil}"}"}"}{pa_nil}"}"}"}{pa_nil}"}"}"}"}{s!"d{s!"i{5}{s!"j{op_addA}{pv 5}{s!"x{s!"a{s!"h{s!"a{s!"X{s!"r{pe_str}{s!"r{@pe_fmtI _ _ _ _ (pv 4)}{s!"r{pe_str}{PJ.nil}"}"}"}"}{s!"a{s!"h{s!"a{pe_str}{s!"a{s!"X{s!"r{@pe_fmtI _ _ _ _ s!"j{op_addA}{pv 4}{pe_int}"}{s!"r{pe_str}{s!"r{@pe_fmtI _ _ _ _ (pv 4)}{s!"r{pe_str}{PJ.nil}"}"}"}"}"}{pa_nil}"}"}"}{pa_nil}"}"}"}{pa_nil}"}"}"}"}{s!"d{s!"i{5}{s!"j{op_addA}{pv 5}{s!"x{s!"a{s!"h{s!"a{pe_str}{s!"a{s!"h{s!"a{pe_str}{s!"R"}"}"}{pa_nil}"}"}"}{pa_nil}"}"}"}"}{s!"d{s!"i{5}{s!"j{op_addA}{pv 5}{s!"x{s!"a{s!"h{s!"a{s!"X{s!"r{pe_str}{s!"r{@pe_fmtI _ _ _ _ s!"aU"}{s!"r{pe_str}{PJ.nil}"}"}"}"}{s!"a{s!"h{s!"a{pe_str}{s!"a{s!"X{s!"r{pe_str}{s!"r{@pe_fmtI _ _ _ _ s!"aU"}{s!"r{pe_str}{PJ.nil}"}"}"}"}{pa_nil}"}"}"}{pa_nil}"}"}"}{pa_nil}"}"}"}"}{s!"d{s!"i{5}{s!"j{op_addA}{pv 5}{s!"x{s!"a{s!"h{s!"a{pe_str}{s!"a{s!"h{s!"a{pe_str}{s!"a{pe_non}{pa_nil}"}"}"}{pa_nil}"}"}"}{pa_nil}"}"}"}"}{s!"d{s!"i{5}{s!"j{op_addA}{pv 5}{s!"x{s!"a{s!"h{s!"a{pe_str}{s!"a{s!"h{s!"a{pe_str}{s!"a{pe_non}{pa_nil}"}"}"}{pa_nil}"}"}"}{pa_nil}"}"}"}"}{s!"d{s!"i{5}{s!"j{op_addA}{pv 5}{s!"x{s!"a{s!"h{s!"a{pe_str}{s!"a{s!"h{s!"a{pe_str}{s!"a{s!"X{s!"r{pe_str}{s!"r{@pe_fmtI _ _ _ _ s!"j{op_subI}{pe_int}{s!"bh{60}"}"}{s!"r{pe_str}{PJ.nil}"}"}"}"}{pa_nil}"}"}"}{pa_nil}"}"}"}{pa_nil}"}"}"}"}{s!"d{s!"i{5}{s!"j{op_addA}{pv 5}{s!"x{s!"a{s!"h{s!"a{pe_str}{s!"a{s!"h{s!"a{pe_str}{s!"R"}"}"}{pa_nil}"}"}"}{pa_nil}"}"}"}"}{s!"d{s!"i{5}{s!"j{op_addA}{pv 5}{s!"x{s!"a{s!"h{s!"a{pe_str}{s!"a{s!"h{s!"a{pe_str}{s!"a{s!"X{s!"r{pe_str}{s!"r{@pe_fmtI _ _ _ _ s!"aU"}{s!"r{pe_str}{PJ.nil}"}"}"}"}{pa_nil}"}"}"}{pa_nil}"}"}"}{pa_nil}"}"}"}"}{s!"d{s!"i{5}{s!"j{op_addA}{pv 5}{s!"x{s!"a{s!"h{s!"a{s!"X{s!"r{pe_str}{s!"r{@pe_fmtS _ _ _ _ (pv 2)}{s!"r{pe_str}{PJ.nil}"}"}"}"}{s!"a{s!"h{s!"a{pe_str}{s!"R"}"}"}{pa_nil}"}"}"}{s!"a{s!"h{s!"a{s!"X{s!"r{pe_str}{s!"r{@pe_fmtS _ _ _ _ (pv 2)}{PJ.nil}"}"}"}{s!"a{s!"h{s!"a{pe_str}{s!"R"}"}"}{pa_nil}"}"}"}{pa_nil}"}"}"}"}"}{s!"d{s!"i{5}{s!"j{op_addA}{pv 5}{s!"x{s!"a{s!"h{s!"a{s!"X{s!"r{pe_str}{s!"r{@pe_fmtS _ _ _ _ (pv 2)}{PJ.nil}"}"}"}{s!"a{s!"h{s!"a{pe_str}{s!"R"}"}"}{pa_nil}"}"}"}{s!"a{s!"h{s!"a{s!"X{s!"r{pe_str}{s!"r{@pe_fmtS _ _ _ _ (pv 2)}{PJ.nil}"}"}"}{s!"a{s!"h{s!"a{pe_str}{s!"|"}"}"}{pa_nil}"}"}"}{pa_nil}"}"}"}"}"}{s!"d{s!"w{s!"@{s!"2{s!"l{D__law_all}{xpass_nox}{s!"a{pv 1}{s!"bt"}"}"}"}"}{s!"ab"}"}{s!"d{@ps_for _ _ _ _ _ _ _ _ PassesOwn.never rfl s!"bC{s!"aI"}" s!"-{6}{nd}" s!"f{s!"w{s!"K{s!"aS"}{s!"N{s!"l{D__law_tell}{xpass_nox}{s!"a{pv 1}{s!"R"}"}"}"}{pe_str}"}{s!"ab"}"}" (by intro _;rfl)}{s!"f{s!"t{s!"l{D__law_all}{xpass_nox}{s!"a{pv 1}{s!"a{s!"x{s!"a{s!"h{s!"a{pe_str}{s!"a{s!"h{s!"a{pe_str}{s!"a{pe_non}{pa_nil}"}"}"}{pa_nil}"}"}"}{s!"a{s!"h{s!"a{pe_str}{s!"a{s!"h{s!"a{pe_str}{s!"R"}"}"}{pa_nil}"}"}"}{s!"a{s!"h{s!"a{pe_str}{s!"a{s!"h{s!"a{pe_str}{s!"R"}"}"}{pa_nil}"}"}"}{pa_nil}"}"}"}"}{pa_nil}"}"}"}"}"}"}"}"}"}"}"}"}"}"}"}"}"}"}"}"}"}"}"}"}",?_⟩
 walk_at "ds";refine zh [some s!"g",none,none,none,none,none,none] rfl ?_;walk_at "rd";refine zkK fun x dx Hx nx nd' ne eH=>?_
 refine ⟨x,dx,rfl,by rw [eH];exact zi,by rw [eH,zg ne];exact zi,fun T L B H5 keep nT nL nB D=>⟨rfl,?_⟩⟩
 have s5:Same H H5:=zno nx nd' eH keep;have hS5:=s5.seq hS;have D5:DeskAt C.Desk.addr H5 x T L B (sL [] [] []):=D;clear D keep eH;walk_at "rd";refine zpI fun r6 H6 one two s6 n6 e6 o=>?_
 have lo:=zcU o.n1;have lt:=zcU o.n2;have hS6:=s6.seq hS5;have D6:=D5.same s6;clear D5 hS5 hS;walk_at "rd";refine zmy (SqL.of e6) rfl ?_;walk_at "rd";refine zd6 [10^8,2] (by walk_at "hp") s!"c" s!"c" s!"c" fun r7 H8 fs s8 n8 e8 dr=>?_
 rename_i w7 H7 s7 n7 e7;obtain ⟨d0,d1,rfl,b0⟩:∃d0 d1:Int,fs=[d0,d1]/\(0<=d0/\d0<10^8):=by
  obtain ⟨hl,hd⟩:=dr
  match fs,hl,hd with
  | [d0,d1],_,hd=>exact ⟨d0,d1,rfl,hd 0 _ _ rfl rfl⟩
 have D8:=D6.same (s7.trans s8);clear D6;have hfar:0<10^60-2-d0/\10^60-2-d0<=10^60-2:=by omega
 walk_at "rd";rename_i lR HR sR nR eR;have DR:=D8.same (H':=HR) (by walk_at "sm")
 have RR:Rows HR lR ([rw3 "word a u 2 v 3" "told" (.str "7 2 3 1"),rw3 "let b back a" "told" (.str "1 -2 -3 7")]++[rw3 "word k u 5" "told" (.str "1 5 0 1"),rw3 "undo" "told" (.str "a b")]):=zk.rows eR (zk.app (zk.cons (by walk_at "hp") (by walk_at "hp") (zk.cons (by walk_at "hp") (by walk_at "hp") zk.nil)) (zk.cons (by walk_at "hp") (by walk_at "hp") (zk.cons (by walk_at "hp") (by walk_at "hp") zk.nil)))
 clear D8 e8 dr s7 s8 n7 n8 e7 sR nR eR hS6;refine zpG lo lt fun lF HF sF nF RF=>?_
 refine zgP (RR.same sF) RF (Nat.le_of_ble_eq_true rfl) fun lG HG sG nG RG=>?_
 have DF:=DR.same sF;obtain ⟨nG1,nG2⟩:=zcV DF (Same.refl _) nG;have DG:=DF.same sG;have rn1:=zrm.app (zrn o);have fn1:=rn1.fine zoh;clear RR RF DR DF sF sG nG nF s5 s6 n6 e6;walk_at "rd";refine zfb DG zoh RG (Nat.le_of_ble_eq_true rfl) nG1 nG2 rn1 fun B1 H1 r1 hb1 D1=>?_
 clear RG DG nG1 nG2 rn1 r1 hb1;generalize hf:10^60-2-d0=far at*;have smF:wa far:=upS (k:=60) s!"e" s!"c"
 have smG:wa (far+1):=upS (k:=60) s!"e" s!"c"
 have sm1:wa (10^60-1):=upS (k:=60) s!"c" s!"c"
 have sm2:wa (1-10^60):=upS (k:=60) s!"c" s!"c"
 have lgF:=smF.log;have lgG:=smG.log;have lg1:=sm1.log;have lg2:=sm2.log;have lnF:(zK far).length<=571:=smF.len;have lnG:(zK (far+1)).length<=571:=smG.len;have ln1:(zK (10^60-1)).length<=571:=sm1.len;have ln2:(zK (1-10^60)).length<=571:=sm2.len;walk_at "rd";walk_at "rdi";rename_i lR HR sR nR eR;have DR:=D1.same (H':=HR) (by walk_at "sm")
 have RR:Rows HR lR (zlo one far):=zk.rows eR (zk.app (zk.app s!"ap{s!"ap{s!"ap{s!"ap{s!"ap{s!"ap{s!"ap{s!"ap{s!"ap{zk.cons (by walk_at "hp") (by walk_at "hp") (zk.cons (by walk_at "hp") (by walk_at "hp") (zk.cons (by walk_at "hp") (by walk_at "hp") zk.nil))}"}"}"}"}"}"}"}"}" (zk.cons (by walk_at "hp") (by walk_at "hp") (zk.cons (by walk_at "hp") (by walk_at "hp") zk.nil))) (zk.cons (by walk_at "hp") (by walk_at "hp") (zk.cons (by walk_at "hp") (by walk_at "hp") zk.nil)))
 obtain ⟨nR1,nR2⟩:=zcV D1 (by walk_at "sm") nR
 have rn3:=zro o hfar.1 hfar.2;have fn3:=rn3.fine fn1;have dl:=zrp one far;clear eR sR nR D1;refine zfb DR fn1 RR (Nat.le_of_ble_eq_true rfl) nR1 nR2 rn3 fun B2 H2 r2 hb2 D2=>?_
 clear DR RR nR1 nR2 rn3 r2 hb2 fn1;generalize ziU one far=st3 at*;walk_at "rd";walk_at "rdi";obtain ⟨tx,sp⟩:=zog (ws:=[Str.ofString "undo"]) (by simp) (by simp) (fun w hw=>by rw [List.mem_singleton.mp hw];exact zpL s!"b")
 rw [show Txt.join " " [Str.ofString "undo"]=Str.ofString "undo" by decide+kernel] at tx sp
 refine zdh (n:=11) (fun i σ H'=>i<=11/\∃(z5 z6:Option V) (B4:Addr) (st:DSt),σ=[some s!"g",some (.ref x),some (.str one),some (.str two),some (.int far),z5,z6]/\DeskAt C.Desk.addr H' x T L B4 st/\Fine st/\st.dn.length=11-i) ⟨Nat.zero_le _,_,_,B2,st3,rfl,D2,fn3,dl⟩ ?_ ?_
 ·rintro i σ H' hi ⟨_,z5,z6,B4,st,rfl,D4,F4,l4⟩;walk_at "rd";refine zll D4 F4 tx ?_;rw [sp];refine .undo rfl (fun z=>by rw [z] at l4;exact absurd l4 (by simp;omega)) fun dn0 d ed H5 t r5 D5 nm r H6 s6 e6=>?_
  walk_at "rd";walk_at "ite"
  ·exact absurd (Eq.refl s!"B{"told"}") (by assumption)
  walk_at "rd";refine ⟨by omega,_,_,B4,_,rfl,D5.same s6,F4.undo ed,?_⟩
  show dn0.length=_;rw [ed,List.length_append] at l4;simp only [List.length_cons,List.length_nil] at l4;omega
 ·rintro σ H' ⟨_,z5,z6,B4,st,rfl,D4,F4,l4⟩;have dn0:st.dn=[]:=List.length_eq_zero_iff.mp s!"e"
  have f0:st.f=ofL []:=by
   have:=F4.hist;rw [dn0] at this;exact this
  have na:zn s!"B{"a"}"=true:=by decide+kernel
  have rn:Run st ([rw3 "undo" "deed" .non,rw3 "names" "told" (.str "none"),rw3 "show a" "name" (.str "a")]) st:=by
   refine .ln (ws:=[Str.ofString "undo"]) s!"b" (zp s!"b") (.undo0 rfl dn0) (by rw [dn0];decide) ?_
   refine .ln (ws:=[Str.ofString "names"]) s!"b" (zp s!"b") (.names rfl (by rw [f0];exact nmL (l:=[]) (ms:=[]) rfl s!"b")) (by rw [dn0];decide) ?_
   exact .ln (ws:=[Str.ofString "show",Str.ofString "a"]) s!"b" (zp s!"b") (zbA s!"c" na (by rw [f0];rfl)) (by rw [dn0];decide) .nil
  walk_at "rd";rename_i lR HR sR nR eR;have DR:=D4.same (H':=HR) (by walk_at "sm")
  obtain ⟨nR1,nR2⟩:=zcV D4 (by walk_at "sm") nR
  refine zfb DR F4 (zk.rows eR (zk.cons (by walk_at "hp") (by walk_at "hp") (zk.cons (by walk_at "hp") (by walk_at "hp") (zk.cons (by walk_at "hp") (by walk_at "hp") zk.nil)))) (Nat.le_of_ble_eq_true rfl) nR1 nR2 rn fun B5 H5 r5 hb5 D5=>q _
end
theorem ar1 {p:List Value->Prop} (h:∀a0,p [a0]):∀us:List Value,us.length=1->p us
 | [a0],_=>h a0
theorem ar2 {p:List Value->Prop} (h:∀a0 a1,p [a0,a1]):∀us:List Value,us.length=2->p us
 | [a0,a1],_=>h a0 a1
theorem ar3 {p:List Value->Prop} (h:∀a0 a1 a2,p [a0,a1,a2]):∀us:List Value,us.length=3->p us
 | [a0,a1,a2],_=>h a0 a1 a2
theorem ar4 {p:List Value->Prop} (h:∀a0 a1 a2 a3,p [a0,a1,a2,a3]):∀us:List Value,us.length=4->p us
 | [a0,a1,a2,a3],_=>h a0 a1 a2 a3
theorem zrb {K:PySem.W.Frag} {a:Addr} {D:Option Addr} {its:Array Value} {n:Nat} {L:Array (Option Value)} {xs:List V} (l:K.lookup a=some ⟨.type "tuple",D,.seq its n,L⟩) (c:its.size<=sizeLine) (d:zo xs its.toList):∀H,SqT K H a xs:=fun _=>.inr ⟨_,_,_,l,rfl,rfl,c,d⟩
structure FnK (K:PySem.W.Frag) (x q:Str) (st:Stmt) (f:Addr):Type where
 oc:Value
 od:Option Addr
 an:Option Addr
 sl:Array (Option Value)
 kV:Value
 dc:Value
 pm:Value
 cd:Value
 ct:Value
 l:K.lookup f=some ⟨oc,od,.func (PySem.W.fnOf x q (zD st) (zw st) (ze st) .none kV dc pm an cd ct),sl⟩
 c:PySem.W.codeIn K cd q=true
 k:PySem.W.keepIn K s!"I"=true
structure Fx (K:PySem.W.Frag) (x:Str) (st:Stmt):Type where
 f:Addr
 a:PySem.W.nsIn K mainGlobals x=some s!"_"
 g:FnK K x x st f
theorem Fx.src {K:PySem.W.Frag} {h:Heap} {mg:Str->Option Value} {x:Str} {st:Stmt} {ps:List Str} (F:Fx K x st) (X:K.In h) (G:h.Ns mainGlobals mg) (hb:∀(kV doc pm:Value) (an:Option Addr) (cdv ct:Value) (us:List Value),us.length=ps.length->bindArgs (PySem.W.fnOf x x (zD st) (zw st) (ze st) .none kV doc pm an cdv ct) ⟨us,[]⟩=pure (ps.zip us)):Src K mg x st ps:=zoF X G F.a F.g.l F.g.c F.g.k hb
def Fx.of {K:PySem.W.Frag} {x:Str} {st:Stmt} {f:Addr} {oc kV dc pm cd ct:Value} {od an:Option Addr} {sl:Array (Option Value)} (a:PySem.W.nsIn K mainGlobals x=some s!"_") (l:K.lookup f=some ⟨oc,od,.func (PySem.W.fnOf x x (zD st) (zw st) (ze st) .none kV dc pm an cd ct),sl⟩) (c:PySem.W.codeIn K cd x=true) (k:PySem.W.keepIn K s!"I"=true):Fx K x st:=⟨f,a,⟨oc,od,an,sl,kV,dc,pm,cd,ct,l,c,k⟩⟩
structure Mx (K:PySem.W.Frag) (C:Addr) (x q:Str) (st:Stmt):Type where
 f:Addr
 a:PySem.W.findIn K s!"k" x=some s!"_"
 i:PySem.W.isFn K s!"I"=true
 g:FnK K x q st f
def Mx.of {K:PySem.W.Frag} {C:Addr} {x q:Str} {st:Stmt} {f:Addr} {oc kV dc pm cd ct:Value} {od an:Option Addr} {sl:Array (Option Value)} (a:PySem.W.findIn K s!"k" x=some s!"_") (i:PySem.W.isFn K s!"I"=true) (l:K.lookup f=some ⟨oc,od,.func (PySem.W.fnOf x q (zD st) (zw st) (ze st) .none kV dc pm an cd ct),sl⟩) (c:PySem.W.codeIn K cd q=true) (k:PySem.W.keepIn K s!"I"=true):Mx K C x q st:=⟨f,a,i,⟨oc,od,an,sl,kV,dc,pm,cd,ct,l,c,k⟩⟩
theorem Mx.src {K:PySem.W.Frag} {C:Addr} {x q:Str} {st:Stmt} {ps:List Str} (F:Mx K C x q st) (hb:∀(kV doc pm:Value) (an:Option Addr) (cdv ct:Value) (us:List Value),us.length=ps.length->bindArgs (PySem.W.fnOf x q (zD st) (zw st) (ze st) .none kV doc pm an cdv ct) ⟨us,[]⟩=pure (ps.zip us)):SrcM K x q st F.f ps:=zmW F.g.l F.g.c F.g.k hb
structure Lx (K:PySem.W.Frag) (x:Str):Type where
 {c:Addr}
 b:PySem.W.nsIn K mainGlobals x=some (some (.ref c))
structure Ex (K:PySem.W.Frag) (x:Str):Type where
 {c:Addr}
 b:PySem.W.nsIn K mainGlobals x=some (some (.ref c))
 e:PySem.W.excIn K c [.type "ValueError",.type "Exception",.type "BaseException",.type "object"] "ValueError.__new__"=true
 g:PySem.W.findIn K (.ref c) "__getattribute__"=some (some s!"L{"BaseException.__getattribute__"}")
 h:PySem.W.findIn K (.ref c) "__getattr__"=some none
 fx:PySem.W.findIn K (.ref c) "__class__"=some s!"a4"
 o:PySem.W.mroIn K c s!"aF"=some true
 v:PySem.W.mroIn K c s!":"=some true
 s:PySem.W.mroIn K c (.ref c)=some true
 t:PySem.W.typeIn K (.ref c)=some s!","
def Ex.ck {K:PySem.W.Frag} {h base:Heap} {mg:Str->Option Value} {x:Str} (E:Ex K x) (Y:K.In base) (X:K.In h) (G:h.Ns mainGlobals mg):CK K mg base x:=zqI Y (PySem.W.mg_of X G E.b) E.e E.g E.h E.fx E.o E.v E.s E.t
theorem all_mk {l:PySem.W.OpenLaw} {w:World} {K:PySem.W.Frag} {h:Heap} {mg:Str->Option Value} {fa:Addr} (X:K.In h) (G:h.Ns mainGlobals mg) (hfa:mg "law"=some s!"1") {tT0 tr0 ts0 Tu0 TF0 T0_0 T0_1 T0_2 T0_3 T0_4 T0_5 T0_6 T0_7 T0_8 T0_9 T0_10 T0_11 T0_12 T0_13 T0_14 T0_15 T0_16 C14 C16 fI14 U14:Addr} {tk0 tk1 tu0 tu1 tu2 tu3:Tok} {odI14 anI14:Option Addr} {slI14:Array (Option Value)} {kVI14 dcI14 pmI14 cdI14 ctI14:Value}
 (b16x:PySem.W.nsIn K mainGlobals "Desk"=some (some (.ref C16)))
 (y0T:PySem.W.nsIn K mainGlobals "OWN_TABLE"=some (some (.ref tT0)))
 (p0U:PySem.W.nsIn K mainGlobals "WORD_FORM"=some (some (.ref Tu0)))
 (pF0:PySem.W.nsIn K mainGlobals "FORMS"=some (some (.ref TF0)))
 (y0l:∀H,SqT K H tT0 [.ref tr0,.ref ts0])
 (qF0:∀H,SqT K H TF0 [.ref T0_0,.ref T0_1,.ref T0_2,.ref T0_3,.ref T0_4,.ref T0_5,.ref T0_6,.ref T0_7,.ref T0_8,.ref T0_9,.ref T0_10,.ref T0_11,.ref T0_12,.ref T0_13,.ref T0_14,.ref T0_15,.ref T0_16])
 (y0r:∀H,SqT K H tr0 [.int 1,.int 0])
 (y0s:∀H,SqT K H ts0 [.int 0,.int 1])
 (qu0:∀H,SqT K H Tu0 ((["word","NAME"]:List Str).map V.str))
 (q0_0:∀H,SqT K H T0_0 ((["table","NAME","NUMBER","NUMBER","NUMBER","NUMBER"]:List Str).map V.str))
 (q0_1:∀H,SqT K H T0_1 ((["let","NAME","together","KNOWN","KNOWN"]:List Str).map V.str))
 (q0_2:∀H,SqT K H T0_2 ((["let","NAME","back","KNOWN"]:List Str).map V.str))
 (q0_3:∀H,SqT K H T0_3 ((["drop","KNOWN"]:List Str).map V.str))
 (q0_4:∀H,SqT K H T0_4 ((["undo"]:List Str).map V.str))
 (q0_5:∀H,SqT K H T0_5 ((["redo"]:List Str).map V.str))
 (q0_6:∀H,SqT K H T0_6 ((["names"]:List Str).map V.str))
 (q0_7:∀H,SqT K H T0_7 ((["show","KNOWN"]:List Str).map V.str))
 (q0_8:∀H,SqT K H T0_8 ((["number","KNOWN"]:List Str).map V.str))
 (q0_9:∀H,SqT K H T0_9 ((["steady","KNOWN"]:List Str).map V.str))
 (q0_10:∀H,SqT K H T0_10 ((["spell","KNOWN"]:List Str).map V.str))
 (q0_11:∀H,SqT K H T0_11 ((["sign","NUMBER","NUMBER"]:List Str).map V.str))
 (q0_12:∀H,SqT K H T0_12 ((["teeth","NUMBER","NUMBER"]:List Str).map V.str))
 (q0_13:∀H,SqT K H T0_13 ((["twelve","NUMBER","NUMBER"]:List Str).map V.str))
 (q0_14:∀H,SqT K H T0_14 ((["points","NUMBER","NUMBER"]:List Str).map V.str))
 (q0_15:∀H,SqT K H T0_15 ((["shuffle","NUMBER","NUMBER"]:List Str).map V.str))
 (q0_16:∀H,SqT K H T0_16 ((["parts","NUMBER","NUMBER","NUMBER","NUMBER"]:List Str).map V.str))
 (F1:Fx K "is_whole" zak)
 (F2:Fx K "is_pair_of_wholes" zY)
 (F3:Fx K "need_from" wc)
 (F4:Fx K "need_odd" zal)
 (F5:Fx K "need_to" zbm)
 (F6:Fx K "shared" zcC)
 (F7:Fx K "need_apart" xG)
 (F8:Fx K "row_behind" xH)
 (F9:Fx K "sign_rows" we)
 (F10:Fx K "exchanged" wf)
 (F11:Fx K "shuffle_sign" yU)
 (F12:Fx K "sum_rows" zam)
 (F13:Fx K "whole_sum" wj)
 (F14:Fx K "points_under" yV)
 (F15:Fx K "twelve" zcD)
 (F16:Fx K "tooth_sum" wk)
 (F17:Fx K "is_table" zan)
 (F18:Fx K "need_table" xI)
 (F19:Fx K "row_together" yW)
 (F20:Fx K "together" zao)
 (F21:Fx K "back_of" zbn)
 (F22:Fx K "number_of" wl)
 (F23:Fx K "steady_of" wm)
 (F24:Fx K "is_run" zcF)
 (F25:Fx K "is_word" zbo)
 (F26:Fx K "need_word" wn)
 (F27:Fx K "table_of" zap)
 (F28:Fx K "times_within" yX)
 (F29:Fx K "taken_off" wo)
 (F30:Fx K "word_of" zbp)
 (F31:Fx K "is_number" wp)
 (F32:Fx K "shown_fraction" yq)
 (F33:Fx K "shown_table" xi)
 (F34:Fx K "shown_word" xJ)
 (F35:Fx K "need_text" wr)
 (F36:Fx K "read_numbers" yY)
 (F37:Fx K "read_table" xK)
 (F38:Fx K "read_word" wt)
 (F39:Fx K "is_name" zbq)
 (F40:Fx K "piece_fits" xL)
 (F41:Fx K "has_form" zaq)
 (F42:Fx K "word_behind" xj)
 (F43:Fx K "form_of" zbr)
 (F44:Fx K "need_short_places" zZ)
 (F45:Fx K "told_of_table" yE)
 (F46:Fx K "told_of_numbers" yk)
 (F47:Mx K C16 "__init__" "Desk.__init__" yF)
 (F48:Mx K C16 "need_known" "Desk.need_known" yl)
 (F49:Mx K C16 "new_table" "Desk.new_table" yr)
 (F50:Mx K C16 "keep" "Desk.keep" wv)
 (F51:Mx K C16 "do_deed" "Desk.do_deed" y9)
 (F52:Mx K C16 "undo" "Desk.undo" ww)
 (F53:Mx K C16 "redo" "Desk.redo" wx)
 (F54:Mx K C16 "shown_names" "Desk.shown_names" ye)
 (F55:Mx K C16 "tell" "Desk.tell" wy)
 (F56:Fx K "_law_cell" wz)
 (F57:Fx K "_law_mixed" xM)
 (F58:Fx K "_law_draws" xN)
 (F59:Fx K "_law_sole" wA)
 (F60:Fx K "_law_tell" wB)
 (F61:Fx K "_law_all" zar)
 (F62:Fx K "_law_refusals" yG)
 (F63:Fx K "_law_names_drawn" yf)
 (F64:Fx K "law" zdY)
 (z0:PySem.W.nsIn K mainGlobals "ValueError"=some none)
 (z1:PySem.W.nsIn K mainGlobals "abs"=some none)
 (z2:PySem.W.nsIn K mainGlobals "all"=some none)
 (z3:PySem.W.nsIn K mainGlobals "bool"=some none)
 (z4:PySem.W.nsIn K mainGlobals "int"=some none)
 (z5:PySem.W.nsIn K mainGlobals "isinstance"=some none)
 (z6:PySem.W.nsIn K mainGlobals "len"=some none)
 (z7:PySem.W.nsIn K mainGlobals "list"=some none)
 (z8:PySem.W.nsIn K mainGlobals "min"=some none)
 (z9:PySem.W.nsIn K mainGlobals "range"=some none)
 (z10:PySem.W.nsIn K mainGlobals "sorted"=some none)
 (z11:PySem.W.nsIn K mainGlobals "str"=some none)
 (z12:PySem.W.nsIn K mainGlobals "sum"=some none)
 (z13:PySem.W.nsIn K mainGlobals "tuple"=some none)
 (z14:PySem.W.nsIn K mainGlobals "zip"=some none)
 (y0:PySem.W.nsIn K mainGlobals "MOST_FIGURES"=some (some (.int 60 tk0)))
 (y1:PySem.W.nsIn K mainGlobals "MOST_LETTERS"=some (some (.int 8 tk1)))
 (u0T:PySem.W.nsIn K mainGlobals "FIGURES"=some (some (.str "0123456789" tu0)))
 (u1T:PySem.W.nsIn K mainGlobals "EMPTY_WORD"=some (some (.str "none" tu1)))
 (u2T:PySem.W.nsIn K mainGlobals "LETTERS"=some (some (.str "abcdefghijklmnopqrstuvwxyz" tu2)))
 (u3T:PySem.W.nsIn K mainGlobals "NO_NAMES"=some (some (.str "none" tu3)))
 (pg16:PySem.W.plainGet K C16 Str.empty=true)
 (hd16:PySem.W.hasDictIn K C16=true)
 (po16:PySem.W.plainOver K C16=true)
 (sa16:PySem.W.findIn K (.ref C16) "__setattr__"=some s!"a3")
 (mk16:PySem.W.makesIn K C16=true)
 (kc16:PySem.W.keepIn K (.ref C16)=true)
 (na16_0:PySem.W.findIn K (.ref C16) "tables"=some none)
 (na16_1:PySem.W.findIn K (.ref C16) "done"=some none)
 (na16_2:PySem.W.findIn K (.ref C16) "taken_back"=some none)
 (E0:Lx K "SawError")
 (E1:Ex K "NoCount")
 (E2:Ex K "NotOdd")
 (E3:Ex K "TooMany")
 (E4:Ex K "NotApart")
 (E5:Lx K "NoShuffle")
 (E6:Lx K "NoPaper")
 (E7:Lx K "NoPrime")
 (E8:Lx K "NoFraction")
 (E9:Ex K "NoTable")
 (E10:Ex K "NoWord")
 (E11:Lx K "NoRow")
 (E12:Ex K "NoText")
 (E13:Ex K "NoLine")
 (E15:Ex K "NoDeed")
 (b14x:PySem.W.nsIn K mainGlobals "NoName"=some (some (.ref C14)))
 (d14x:PySem.W.findIn K (.ref C14) "__init__"=some (some (.ref fI14)))
 (e14x:zj8 K C14 fI14=true)
 (g14x:PySem.W.findIn K (.ref C14) "__getattribute__"=some (some s!"L{"BaseException.__getattribute__"}"))
 (h14x:PySem.W.findIn K (.ref C14) "__getattr__"=some none)
 (fx14:PySem.W.findIn K (.ref C14) "__class__"=some s!"a4")
 (o14x:PySem.W.mroIn K C14 s!"aF"=some true)
 (v14x:PySem.W.mroIn K C14 s!":"=some true)
 (s14x:(PySem.W.clsIn K C14).isSome=true)
 (p14x:PySem.W.findIn K (.ref C14) "__setattr__"=some s!"a3")
 (q14x:PySem.W.findIn K (.ref C14) "name"=some none)
 (w14x:(PySem.W.clsIn K C14).any (fun cd=>zbI cd.mro && cd.hasDict)=true)
 (m14x:PySem.W.nsIn K mainGlobals "SawError"=some (some (.ref U14)))
 (n14x:PySem.W.specialIn K (.ref U14) "__getattribute__"=some (some s!"L{"type.__getattribute__"}"))
 (j14x:PySem.W.readsIn K U14 s!","=true)
 (k14x:PySem.W.findCls K (.ref U14) s!"," "__init__"=some (.val s!"L{"ValueError.__init__"}"))
 (lI14:K.lookup fI14=some ⟨.type "function",odI14,.func (PySem.W.fnOf "__init__" "NoName.__init__" (zD xw) (zw xw) (ze xw) .none kVI14 dcI14 pmI14 anI14 cdI14 ctI14),slI14⟩)
 (cI14:PySem.W.codeIn K cdI14 "NoName.__init__"=true)
 (kI14:PySem.W.keepIn K (.ref fI14)=true)
 (x14x:PySem.W.mroIn K C14 (.ref C14)=some true)
 (y14x:PySem.W.typeIn K (.ref C14)=some s!",")
 (r0:K1 K E12.c E12.c true)
 (r1:K1 K C14 C14 true)
 (r2:K1 K E13.c C14 false)
 (r3:K1 K E13.c E13.c true)
 (r4:K1 K E9.c C14 false)
 (r5:K1 K E9.c E13.c false)
 (r6:K1 K E9.c E9.c true)
 (r7:K1 K E10.c C14 false)
 (r8:K1 K E10.c E13.c false)
 (r9:K1 K E10.c E9.c false)
 (r10:K1 K E10.c E10.c true)
 (r11:K1 K E3.c C14 false)
 (r12:K1 K E3.c E13.c false)
 (r13:K1 K E3.c E9.c false)
 (r14:K1 K E3.c E10.c false)
 (r15:K1 K E3.c E3.c true)
 (r16:K1 K E15.c C14 false)
 (r17:K1 K E15.c E13.c false)
 (r18:K1 K E15.c E9.c false)
 (r19:K1 K E15.c E10.c false)
 (r20:K1 K E15.c E3.c false)
 (r21:K1 K E15.c E15.c true)
 (r22:K1 K E2.c C14 false)
 (r23:K1 K E2.c E13.c false)
 (r24:K1 K E2.c E9.c false)
 (r25:K1 K E2.c E10.c false)
 (r26:K1 K E2.c E3.c false)
 (r27:K1 K E2.c E15.c false)
 (r28:K1 K E2.c E2.c true)
 (r29:K1 K E4.c C14 false)
 (r30:K1 K E4.c E13.c false)
 (r31:K1 K E4.c E9.c false)
 (r32:K1 K E4.c E10.c false)
 (r33:K1 K E4.c E3.c false)
 (r34:K1 K E4.c E15.c false)
 (r35:K1 K E4.c E2.c false)
 (r36:K1 K E4.c E4.c true)
 (r37:K1 K E1.c C14 false)
 (r38:K1 K E1.c E13.c false)
 (r39:K1 K E1.c E9.c false)
 (r40:K1 K E1.c E10.c false)
 (r41:K1 K E1.c E3.c false)
 (r42:K1 K E1.c E15.c false)
 (r43:K1 K E1.c E2.c false)
 (r44:K1 K E1.c E4.c false)
 (r45:K1 K E1.c E1.c true)
 (r46:K1 K C14 E1.c false)
 (r47:K1 K C14 E15.c false)
 (r48:K1 K C14 E13.c false)
 (r49:K1 K C14 E4.c false)
 (r50:K1 K C14 E9.c false)
 (r51:K1 K C14 E2.c false)
 (r52:K1 K C14 E10.c false)
 (r53:K1 K C14 E3.c false)
 (r54:K1 K C14 E8.c false)
 (r55:K1 K C14 E6.c false)
 (r56:K1 K C14 E7.c false)
 (r57:K1 K C14 E11.c false)
 (r58:K1 K C14 E5.c false)
 (r59:K1 K C14 E12.c false)
 (r60:PySem.W.kitOne K (.ref C14) (.type "ValueError")=some true)
 (r61:K1 K E15.c E1.c false)
 (r62:K1 K E15.c E4.c false)
 (r63:K1 K E15.c E2.c false)
 (r64:K1 K E15.c E8.c false)
 (r65:K1 K E15.c E6.c false)
 (r66:K1 K E15.c E7.c false)
 (r67:K1 K E15.c E11.c false)
 (r68:K1 K E15.c E5.c false)
 (r69:K1 K E15.c E12.c false)
 (r70:PySem.W.kitOne K (.ref E15.c) (.type "ValueError")=some true):
  ∃fd:FuncData,(∀(s:Shared) (v:Value),BindsTo s fd ⟨[v],[]⟩ [("_law_script",v)])/\∀base:Heap,K.In base->base.Ns mainGlobals mg->FnOk l.prog w K mg base (CXE l.prog w) 10 fa fd ["_law_script"] (zhr K):=by
 have Kc:Cst K mg:=⟨⟨_,PySem.W.mg_of X G y0⟩,⟨_,PySem.W.mg_of X G y1⟩,⟨tT0,tr0,ts0,PySem.W.mg_of X G y0T,y0l,y0r,y0s⟩,⟨_,PySem.W.mg_of X G u0T⟩,⟨_,PySem.W.mg_of X G u1T⟩,⟨_,PySem.W.mg_of X G u2T⟩,⟨_,PySem.W.mg_of X G u3T⟩,⟨_,PySem.W.mg_of X G p0U,qu0⟩,⟨_,[T0_0,T0_1,T0_2,T0_3,T0_4,T0_5,T0_6,T0_7,T0_8,T0_9,T0_10,T0_11,T0_12,T0_13,T0_14,T0_15,T0_16],PySem.W.mg_of X G pF0,qF0,(.cons q0_0 (.cons q0_1 (.cons q0_2 (.cons q0_3 (.cons q0_4 (.cons q0_5 (.cons q0_6 (.cons q0_7 (.cons q0_8 (.cons q0_9 (.cons q0_10 (.cons q0_11 (.cons q0_12 (.cons q0_13 (.cons q0_14 (.cons q0_15 (.cons q0_16 .nil)))))))))))))))))⟩⟩;have B:Blt mg:=⟨PySem.W.mg_none_of X G z0,PySem.W.mg_none_of X G z1,PySem.W.mg_none_of X G z2,PySem.W.mg_none_of X G z3,PySem.W.mg_none_of X G z4,PySem.W.mg_none_of X G z5,PySem.W.mg_none_of X G z6,PySem.W.mg_none_of X G z7,PySem.W.mg_none_of X G z8,PySem.W.mg_none_of X G z9,PySem.W.mg_none_of X G z10,PySem.W.mg_none_of X G z11,PySem.W.mg_none_of X G z12,PySem.W.mg_none_of X G z13,PySem.W.mg_none_of X G z14⟩;have e:=hfa.symm.trans (PySem.W.mg_of X G F64.a);cases e;refine ⟨PySem.W.fnOf "law" "law" (zD zdY) (zw zdY) (ze zdY) .none F64.g.kV F64.g.dc F64.g.pm F64.g.an F64.g.cd F64.g.ct,fun s v=>.of_eq rfl,fun base hK hG=>?_⟩
 let C:Cls K mg base:=⟨⟨E0.c,PySem.W.mg_of X G E0.b⟩,E1.ck hK X G,E2.ck hK X G,E3.ck hK X G,E4.ck hK X G,⟨E5.c,PySem.W.mg_of X G E5.b⟩,⟨E6.c,PySem.W.mg_of X G E6.b⟩,⟨E7.c,PySem.W.mg_of X G E7.b⟩,⟨E8.c,PySem.W.mg_of X G E8.b⟩,E9.ck hK X G,E10.ck hK X G,⟨E11.c,PySem.W.mg_of X G E11.b⟩,E12.ck hK X G,E13.ck hK X G,⟨C14,PySem.W.mg_of X G b14x,fI14,zpg hK e14x,⟨s14x,g14x,h14x,fx14,o14x,v14x⟩,⟨p14x,q14x,w14x⟩,U14,PySem.W.mg_of X G m14x,n14x,j14x,k14x⟩,E15.ck hK X G,⟨C16,PySem.W.mg_of X G b16x,⟨pg16,hd16,po16,sa16⟩,na16_0,na16_1,na16_2,F47.f,⟨F47.a,F47.i,F47.g.k⟩,F48.f,⟨F48.a,F48.i,F48.g.k⟩,F49.f,⟨F49.a,F49.i,F49.g.k⟩,F50.f,⟨F50.a,F50.i,F50.g.k⟩,F51.f,⟨F51.a,F51.i,F51.g.k⟩,F52.f,⟨F52.a,F52.i,F52.g.k⟩,F53.f,⟨F53.a,F53.i,F53.g.k⟩,F54.f,⟨F54.a,F54.i,F54.g.k⟩,F55.f,⟨F55.a,F55.i,F55.g.k⟩,⟨mk16,F47.a,F47.i,kc16⟩⟩⟩
 have R:Rel K mg base C:=⟨r0,r1,r2,r3,r4,r5,r6,r7,r8,r9,r10,r11,r12,r13,r14,r15,r16,r17,r18,r19,r20,r21,r22,r23,r24,r25,r26,r27,r28,r29,r30,r31,r32,r33,r34,r35,r36,r37,r38,r39,r40,r41,r42,r43,r44,r45,r46,r47,r48,r49,r50,r51,r52,r53,r54,r55,r56,r57,r58,r59,r60,r61,r62,r63,r64,r65,r66,r67,r68,r69,r70,zpi s14x v14x x14x y14x⟩;have D_NoName:=ziD (P:=l.prog) (w:=w) (base:=base) (C:=C) (zmL (st:=xw) (ps:=["self","name"]) lI14 cI14 kI14 fun _ _ _ _ _ _=>ar2 fun _ _=>by kernel_rfl)
 have D_is_whole:=zfJ (P:=l.prog) (w:=w) (F1.src X G s!"G") B C R Kc
 have D_is_pair_of_wholes:=wC (F2.src X G s!"G") B C R Kc D_is_whole
 have D_need_from:=zeG (P:=l.prog) (w:=w) (F3.src X G s!"S") B C R Kc
 have D_need_odd:=zfK (F4.src X G s!"G") B C R Kc D_need_from
 have D_need_to:=zgv (P:=l.prog) (w:=w) (F5.src X G s!"S") B C R Kc
 have D_shared:=ziE (P:=l.prog) (w:=w) (F6.src X G s!"S") B C R Kc
 have D_need_apart:=zc5 (F7.src X G s!"S") B C R Kc D_shared
 have D_row_behind:=zc6 (P:=l.prog) (w:=w) (F8.src X G (fun _ _ _ _ _ _=>ar3 fun _ _ _=>by kernel_rfl)) B C R Kc
 have D_sign_rows:=zeH (F9.src X G s!"S") B C R Kc D_need_odd D_row_behind
 have D_exchanged:=zeI (F10.src X G s!"S") B C R Kc D_sign_rows
 have D_shuffle_sign:=zbX (F11.src X G s!"S") B C R Kc D_need_from D_need_apart D_exchanged
 have D_sum_rows:=zfL (F12.src X G (fun _ _ _ _ _ _=>ar4 fun _ _ _ _=>by kernel_rfl)) B C R Kc D_need_from
 have D_whole_sum:=zeJ (F13.src X G (fun _ _ _ _ _ _=>ar4 fun _ _ _ _=>by kernel_rfl)) B C R Kc D_sum_rows
 have D_points_under:=zbY (F14.src X G s!"S") B C R Kc D_need_odd D_whole_sum
 have D_twelve:=ziF (P:=l.prog) (w:=w) (F15.src X G s!"S") B C R Kc
 have D_tooth_sum:=zeK (P:=l.prog) (w:=w) (F16.src X G s!"S") B C R Kc
 have D_is_table:=zfM (F17.src X G s!"G") B C R Kc D_is_pair_of_wholes
 have D_need_table:=zc7 (F18.src X G s!"G") B C R Kc D_is_table
 have D_row_together:=zbZ (P:=l.prog) (w:=w) (F19.src X G s!"S") B C R Kc
 have D_together:=zfN (F20.src X G s!"S") B C R Kc D_need_table D_row_together
 have D_back_of:=zgx (F21.src X G s!"G") B C R Kc D_need_table
 have D_number_of:=zeL (F22.src X G s!"G") B C R Kc D_need_table D_twelve
 have D_steady_of:=zeM (P:=l.prog) (w:=w) (F23.src X G s!"G") B C R Kc
 have D_is_run:=ziG (F24.src X G s!"G") B C R Kc D_is_whole
 have D_is_word:=zgy (F25.src X G s!"G") B C R Kc D_is_run
 have D_need_word:=zeO (F26.src X G s!"G") B C R Kc D_is_word
 have D_table_of:=zfO (F27.src X G s!"G") B C R Kc D_need_word
 have D_times_within:=zb0 (P:=l.prog) (w:=w) (F28.src X G s!"S") B C R Kc
 have D_taken_off:=zeP (P:=l.prog) (w:=w) (F29.src X G (fun _ _ _ _ _ _=>ar3 fun _ _ _=>by kernel_rfl)) B C R Kc
 have D_word_of:=zgz (F30.src X G s!"G") B C R Kc D_need_table D_times_within D_taken_off
 have D_is_number:=zeQ (P:=l.prog) (w:=w) (F31.src X G s!"G") B C R Kc
 have D_shown_fraction:=za2 (P:=l.prog) (w:=w) (F32.src X G s!"G") B C R Kc
 have D_shown_table:=zcM (F33.src X G s!"G") B C R Kc D_need_table
 have D_shown_word:=zc8 (P:=l.prog) (w:=w) (F34.src X G s!"G") B C R Kc
 have D_need_text:=zeR (P:=l.prog) (w:=w) (F35.src X G s!"G") B C R Kc
 have D_read_numbers:=zb1 (F36.src X G s!"G") B C R Kc D_is_number D_need_text
 have D_read_table:=zc9 (F37.src X G s!"G") B C R Kc D_need_text D_read_numbers D_need_table
 have D_read_word:=zeS (F38.src X G s!"G") B C R Kc D_need_text D_read_numbers D_is_word
 have D_is_name:=zgB (P:=l.prog) (w:=w) (F39.src X G s!"G") B C R Kc
 have D_piece_fits:=zda (F40.src X G s!"S") B C R Kc D_is_number D_is_name
 have D_has_form:=zfP (F41.src X G s!"S") B C R Kc D_piece_fits
 have D_word_behind:=zcO (F42.src X G s!"G") B C R Kc D_read_word
 have D_form_of:=zgD (F43.src X G s!"G") B C R Kc D_has_form D_word_behind
 have D_need_short_places:=wG (F44.src X G s!"G") B C R Kc D_need_to
 have D_told_of_table:=zbu (F45.src X G s!"S") B C R Kc D_shown_table D_number_of D_steady_of D_shown_word D_word_of
 have D_told_of_numbers:=zat (F46.src X G s!"S") B C R Kc D_whole_sum D_exchanged D_tooth_sum D_shown_fraction D_twelve D_points_under D_shuffle_sign
 have D_Desk___init__:=zbv (P:=l.prog) (w:=w) C (F47.src s!"G") B R Kc
 have D_Desk_need_known:=zau C (F48.src (fun _ _ _ _ _ _=>ar3 fun _ _ _=>by kernel_rfl)) B R Kc D_NoName
 have D_Desk_new_table:=za7 C (F49.src s!"S") B R Kc D_read_table D_table_of D_word_behind D_together D_back_of D_need_short_places
 have D_Desk_keep:=zeZ (P:=l.prog) (w:=w) C (F50.src (fun _ _ _ _ _ _=>ar3 fun _ _ _=>by kernel_rfl)) B R Kc
 have D_Desk_do_deed:=zb2 C (F51.src (fun _ _ _ _ _ _=>ar3 fun _ _ _=>by kernel_rfl)) B R Kc D_Desk_keep
 have D_Desk_undo:=ze0 C (F52.src s!"G") B R Kc D_Desk_keep
 have D_Desk_redo:=ze1 C (F53.src s!"G") B R Kc D_Desk_keep
 have D_Desk_shown_names:=wV (P:=l.prog) (w:=w) C (F54.src s!"G") B R Kc
 have D_Desk_tell:=ze6 C (F55.src s!"S") B R Kc D_form_of D_Desk_need_known D_Desk_new_table D_Desk_do_deed D_shown_table D_Desk_undo D_Desk_redo D_Desk_shown_names D_told_of_table D_told_of_numbers
 have D__law_cell:=ze7 (P:=l.prog) (w:=w) (F56.src X G s!"S") B C R Kc
 have D__law_mixed:=zdc (P:=l.prog) (w:=w) (F57.src X G (fun _ _ _ _ _ _=>ar3 fun _ _ _=>by kernel_rfl)) B C R Kc
 have D__law_draws:=zdd (F58.src X G (fun _ _ _ _ _ _=>ar3 fun _ _ _=>by kernel_rfl)) B C R Kc D__law_mixed
 have D__law_sole:=ze9 (P:=l.prog) (w:=w) (F59.src X G s!"G") B C R Kc
 have D__law_tell:=zfa (F60.src X G s!"S") B C R Kc D_Desk_tell D__law_sole
 have D__law_all:=zfX (F61.src X G s!"S") B C R Kc D__law_tell
 have D__law_refusals:=zby (P:=l.prog) (w:=w) (F62.src X G s!"S") B C R Kc
 have D__law_names_drawn:=wW (F63.src X G s!"G") B C R Kc D__law_draws
 have D_law:=zpN (F64.src X G s!"G") B C R Kc D_Desk___init__ D__law_cell D__law_draws D__law_names_drawn D__law_refusals D__law_all D__law_tell
 exact D_law.fn (PySem.W.mg_of X G F64.a) F64.g.l
theorem walk {l:PySem.W.OpenLaw} {q:Program} {loose:List Str} {XP:(Str->Option Value)->Heap->Prop} {YP:World->Heap->Prop} {d:DefRec} {K:Params->PySem.W.Frag} (hn:l.most=some 63) (hdf:d.params.defaults=[])
 (hY:∀(w:World) (h:Heap),YP w h->(K w.params).In h)
 (F:∀(w:World) (mg:Str->Option Value) (fa:Addr) (h:Heap),(K w.params).In h->h.Ns mainGlobals mg->mg d.name=some (.ref fa)->
  ∃fd:FuncData,(∀(s:Shared) (u:Value),BindsTo s fd ⟨[u],[]⟩ [("_law_script",u)])/\∀base:Heap,(K w.params).In base->base.Ns mainGlobals mg->FnOk l.prog w (K w.params) mg base (CXE l.prog w) 10 fa fd ["_law_script"] (zhr (K w.params))):
 PySem.W.WalkO q loose XP YP l.row.toRowW d [] (fun f vs=>PySem.call f vs):=
 L2.zg8 (n:=63) (k:=10) (x:="_law_script") (CX:=fun w=>CXE l.prog w) (sp:=fun w=>zhr (K w.params)) hn s!"c" hdf ⟨rfl,by decide,by decide⟩ hY F (fun _ _ a ns hl _ hS=>⟨a,ns,rfl,hS,hl,fun _=>rfl⟩) fun _ _ _ _ _ z=>by
  obtain ⟨_,_,_,_,_,_,_,y,_⟩:=z;exact y.elim
end My
open L2
local macro_rules|`(tactic|walk_at "fx")=>`(tactic|(refine' My.Fx.of ?a ?l ?c ?k;(case a=>k_is);(case l=>k_is);(case c=>k_is);(case k=>k_is)))
local macro_rules|`(tactic|walk_at "mx")=>`(tactic|(refine' My.Mx.of ?a ?i ?l ?c ?k;(case a=>k_is);(case i=>k_is);(case l=>k_is);(case c=>k_is);(case k=>k_is)))
local macro_rules|`(tactic|walk_at "kr")=>`(tactic|((try dsimp only [My.K1]);kit_is))
local macro_rules|`(tactic|walk_at "lx")=>`(tactic|(refine' My.Lx.mk ?a;(case a=>k_is)))
local macro_rules|`(tactic|walk_at "ex")=>`(tactic|(refine' My.Ex.mk ?b ?e ?g ?h ?f ?o ?v ?s ?t;(case b=>k_is);(case e=>k_exc);(case g=>k_is);(case h=>k_is);(case f=>k_is);(case o=>k_is);(case v=>k_is);(case s=>k_is);(case t=>k_is)))
local macro_rules|`(tactic|walk_at "sq")=>`(tactic|(refine' My.zrb ?l ?c ?d;(case l=>k_is);(case c=>decide);(case d=>repeat first|exact .nil|refine .cons rfl ?_|refine .cons ⟨_, rfl⟩ ?_)))
open PySem PySem.W PyProof.Rows
set_option maxRecDepth 100000 in
set_option maxHeartbeats 0 in
theorem PySem.Challenge.cw_sawsign_k70_desk_refuses_holds : PySem.Challenge.rw_sawsign_k70_desk_refuses.Holds := by
 refine hd ?_
 k_fill
 refine My.walk (l:=PySem.Challenge.rw_sawsign_k70_desk_refuses) rfl rfl (fun w h Y=>PySem.W.kIn_of Y) ?F
 case F=>
  intro w mg fa h KX G hmg;exact My.all_mk KX G hmg (by k_is) (by k_is) (by k_is) (by k_is) (by walk_at "sq") (by walk_at "sq") (by walk_at "sq") (by walk_at "sq") (by walk_at "sq") (by walk_at "sq") (by walk_at "sq") (by walk_at "sq") (by walk_at "sq") (by walk_at "sq") (by walk_at "sq") (by walk_at "sq") (by walk_at "sq") (by walk_at "sq") (by walk_at "sq") (by walk_at "sq") (by walk_at "sq") (by walk_at "sq") (by walk_at "sq") (by walk_at "sq") (by walk_at "sq") (by walk_at "sq") s!"v" s!"v" s!"v" s!"v" s!"v" s!"v" s!"v" s!"v" s!"v" s!"v" s!"v" s!"v" s!"v" s!"v" s!"v" s!"v" s!"v" s!"v" s!"v" s!"v" s!"v" s!"v" s!"v" s!"v" s!"v" s!"v" s!"v" s!"v" s!"v" s!"v" s!"v" s!"v" s!"v" s!"v" s!"v" s!"v" s!"v" s!"v" s!"v" s!"v" s!"v" s!"v" s!"v" s!"v" s!"v" s!"v" (by walk_at "mx") (by walk_at "mx") (by walk_at "mx") (by walk_at "mx") (by walk_at "mx") (by walk_at "mx") (by walk_at "mx") (by walk_at "mx") (by walk_at "mx") s!"v" s!"v" s!"v" s!"v" s!"v" s!"v" s!"v" s!"v" s!"v" (by k_is) (by k_is) (by k_is) (by k_is) (by k_is) (by k_is) (by k_is) (by k_is) (by k_is) (by k_is) (by k_is) (by k_is) (by k_is) (by k_is) (by k_is) (by k_is) (by k_is) (by k_is) (by k_is) (by k_is) (by k_is) (by k_is) (by k_is) (by k_is) (by k_is) (by k_is) (by k_is) (by k_is) (by k_is) (by k_is) (by walk_at "lx") (by walk_at "ex") (by walk_at "ex") (by walk_at "ex") (by walk_at "ex") (by walk_at "lx") (by walk_at "lx") (by walk_at "lx") (by walk_at "lx") (by walk_at "ex") (by walk_at "ex") (by walk_at "lx") (by walk_at "ex") (by walk_at "ex") (by walk_at "ex") (by k_is) (by k_is) s!"D" (by k_is) (by k_is) (by k_is) (by k_is) (by k_is) s!"D" (by k_is) (by k_is) s!"D" (by k_is) (by k_is) (by k_is) (by k_is) (by k_is) (by k_is) (by k_is) (by k_is) (by k_is) s!"n" s!"n" s!"n" s!"n" s!"n" s!"n" s!"n" s!"n" s!"n" s!"n" s!"n" s!"n" s!"n" s!"n" s!"n" s!"n" s!"n" s!"n" s!"n" s!"n" s!"n" s!"n" s!"n" s!"n" s!"n" s!"n" s!"n" s!"n" s!"n" s!"n" s!"n" s!"n" s!"n" s!"n" s!"n" s!"n" s!"n" s!"n" s!"n" s!"n" s!"n" s!"n" s!"n" s!"n" s!"n" s!"n" s!"n" s!"n" s!"n" s!"n" s!"n" s!"n" s!"n" s!"n" s!"n" s!"n" s!"n" s!"n" s!"n" s!"n" s!"n" s!"n" s!"n" s!"n" s!"n" s!"n" s!"n" s!"n" s!"n" s!"n" s!"n"
