import PyProof.Rows.All
import KE.KTurns
import KE.KLcPair
import KE.KRevIter
import OpenK.KOwn
import KE.RegKIsAll
import KE.KItem
import KE.KxBytes
import PyProof.EqAt
import PyProof.EqKinds
import PyProof.TupleCall
import PyProof.NeKinds
import PyProof.SumAny
import PyProof.LongRange
import PyProof.ZipIter
import PyProof.Rows.Range3
import KE.KStateDown
import PyProof.DictWalks
import PyProof.ListRange
import PyProof.ListNew
import KE.KIntText
import KE.KDictOf
import KE.KDictList
import PySem.Challenge.RW_sawsign_k67_whole_desk
set_option compiler.extract_closed false
set_option hygiene false in
def sL(c:String):Lean.MacroM Lean.Term:=match c with
 |"0"=>`(by omega)
 |"1"=>`(by rfl)
 |"2"=>`(by decide)
 |"3"=>`(by simp)
 |"4"=>`(by decide+kernel)
 |"5"=>`(⟨rfl,rfl,rfl,by decide+kernel,rfl,by decide+kernel,by decide+kernel⟩)
 |"6"=>`(fun vs H Q E h=>?_)
 |"7"=>`(by walk_at "lo")
 |"8"=>`(fun f cdv A outer s H vs Q E hr h=>?_)
 |"9"=>`(by walk_at "fx")
 |"10"=>`(by k_is)
 |"11"=>`(by walk_at "kr")
 |"12"=>`(fun _ _ _ _ _ _=>ar1 fun _=>by kernel_rfl)
 |"13"=>`(by kernel_rfl)
 |"14"=>`(fun _ _ _ _ _ _=>ar2 fun _ _=>by kernel_rfl)
 |"15"=>`(by walk_at "sq")
 |"16"=>`(by intro _;rfl)
 |"17"=>`(fun _ _=>rfl)
 |"18"=>`((" "))
 |"19"=>`(fun _ _ _ _ _ _=>ar3 fun _ _ _=>by kernel_rfl)
 |"20"=>`(fun pins a oe cls dx hcls hxo=>(@pss_one _ _ _ (@ps_set _ _ 2 _ _ _ _ nd rfl (Or.inl rfl) pe_str (by rfl) (by walk_at "lo"))))
 |"21"=>`(by exact Or.inl rfl)
 |"22"=>`((s₁.heap.objs.size))
 |"23"=>`((s₁.heap))
 |"24"=>`((s₀))
 |"25"=>`((H₀))
 |"26"=>`(fun n s'=>∃(i:Nat) (z:Option V) (H':Hp) (zs:List V),Inv (X.blockF pins scope x ys cl fp s3 H3) [] (z::zP fr σ) H' s'/\tn i s'.heap/\(∀b∈fp,H' b=none)/\W i n zs H')
 |_=>Lean.Macro.throwUnsupported
def sT:List String:=r#"#0
@pa_cons _ _ _ _ _ $0 $1 #1
#2
@pss_cons _ _ _ _ _ $0 $1
@pss_one _ _ _ $0
pa_nil
@pe_op _ _ _ _ _ _ _ _ $0 $1 $2
.ref a
wl r
#3
@pe_defS _ _ _ _ _ _ _ _ _ _ _ $0 ( hr.mono #2 ) rfl $1 $2 #2 #1 #1
pe_int
Def P w K mg base ( CXE P w ) $0 $1 $2 $3
#4
.str $0
@ps_ret _ _ _ _ $0
.lst $0
some $0
.ref C
model X.prog X.w
.inr $0
CXE P w
#5
#6
pv 0
@ps_set _ _ $0 _ _ _ _ nd rfl ( Or.inl rfl ) $1 #1 #7
.tup $0
#8
@pgs_cons _ _ _ _ _ $0 $1 #1
@pe_tup _ _ _ _ _ $0
.ref $0
@ps_if _ _ _ _ _ _ _ _ $0 $1 pss_nil
.tup xs
wpAny_bind $0
#9
model prog w
.int $0
#10
.inl $0
.ref D
xpass_cx
pv 1
fw ws
Nat.le_refl _
#11
upd H $0 $1
.bl $0
.dK kvs
xpass_nox
pv 4
pe_str
.ref t
pv 3
@ps_expr _ _ _ _ $0 #1
op_mulA
@pt_cmpR _ _ _ _ _ _ _ _ $0 $1 $2 ( nomark _ )
.str t
.ref l
ze
Mth.fw ws
#12
.ref p
pv 2
.int i
.inl rfl
pgs_nil
@pe_callB _ _ _ _ _ _ _ _ _ $0 rfl $1 $2 $3 #2 #2 #1 #1
SqL.of $0
.lst xs
Same.refl _
Or.inl rfl
#13
some v
zF t
@pa_cons _ _ _ _ _ ( pv 0 ) pa_nil #1
.ref r
@pg_tup _ _ _ _ _ _ rfl $0 #1 #1
.ref f
ns.map V.int
zq I q #3
.ref fa
.ref e
@pa_cons _ _ _ _ _ ( pv 1 ) pa_nil #1
s1.trans s2
#14
#15
@pe_bm _ _ _ _ _ _ _ _ _ _ _ _ $0 $1 $2 $3 $4 $5 #1 #1 #1 #1 #1
wpAny_pure $0
rfl
.lst ys
I.ok.hd hc
@pe_lst _ _ _ _ $0
Nat.ne_of_lt $0
wl ws
@pt_val _ _ _ $0 #16
SqT.of $0
.ref x
.int j
.ref c
Option.some.inj h1
.lst zs
Heap.get?_push_of_some _ e
op_eqA hr.units0
pv 6
@pe_ix _ _ _ _ _ _ _ $0 $1 $2 #17
wpAny_holding $0
.ins C dx fs
.ref d
ps.map V.str
@pe_cmpR _ _ _ _ _ _ _ _ $0 $1 $2 ( nomark _ )
List.range $0
op_subI
wpAny_pure ?_
f3 b hb
@pa_cons _ _ _ _ _ ( pv 4 ) pa_nil #1
.int c
wE y z
Heap.get?_push_of_some _ $0
@ps_asg _ _ _ _ _ _ $0 $1 #1 #1 #1
PcL.cons $0 $1 #3
@pt_not _ _ _ _ $0
.ins $0 dx $1
boot_heap w.params
.str i
.type "type"
pv 5
@pe_ix _ _ _ _ _ _ _ ix_A ( pv 1 ) pe_int #17
@zU _ _ _ _ _ ( pv 0 ) rfl
@pss_consE _ _ _ _ _ $0 $1
frs X.stack
Itl K a
Itt K a
.int a
.type "BaseException"
Heap.get?_push_size _ rfl
s.heap.push _
X.blockF pins scope x ys cl fp s3 H3
@pg_name _ _ 4 _ nd rfl ( Or.inl rfl ) #7
Heap.lt_size $0
wpAny_field $0 $1 $2 $3
zX
PySem.F.plainAttrs_list
PySem.F.slot_list_append
PySem.F.type_list_append
zw
ix_A
PySem.F.plainAttrs_str
Nat.lt_irrefl _
Heap.lt_size e
some ( .ref f )
X.tried pins W
ws.map yE
@pa_cons _ _ _ _ _ ( pv 2 ) pa_nil #1
@pe_ix _ _ _ _ _ _ _ ix_A ( @pe_ix _ _ _ _ _ _ _ ix_A ( pv 0 ) pe_int #17 ) pe_int #17
@pa_cons _ _ _ _ _ pe_int pa_nil #1
Txt.split t #18
ps.take 2
.int p
pv 7
@pe_compZ2 _ _ _ _ _ _ _ _ _ rfl $0 $1 #4 #4 rfl #4 rfl #16
@pe_callTy _ _ _ _ _ _ _ _ _ $0 rfl $1 $2 $3 #2 #2 #1 #1
@ps_for _ _ _ _ _ _ _ _ $0 rfl $1 $2 $3 #16
DefM P w K mg base ( CXE P w ) $0 $1 $2 $3
compareOp $0
@PW.pt _ _ _ $0
Ne.symm $0
.BoolOp $0 $1 pos
yB
B.str
PyProof.Rows.boot_str
T0 p w os
.bl b
.bl true
I.tok _
ps.zip us
Option Value
.ref b
.int k
op_eqF hr.units3
SqL.of e3
SqL.of e1
SqT.of e4
#19
List.mem_of_getElem? $0
.builtin $0
@pi_tup _ _ _ _ $0
Nat.le_of_lt $0
Nat.le_trans $0 $1
s1.obj $0
Txt.join $0 $1
hz
yn
B.isinstance
PyProof.Rows.boot_isinstance
op_gtI
PassesOwn.never
SA p w os
yP i
g i j
.dT kvs
.builtin id
.ref sl
za st
Same.new hp _
X.inH pins a oe
ExN C ad
Str.ofString ( toString n )
s2.trans s3
relabel scope X.env
X.blockM pins scope nm ys cl fp s3 H3
List.mem_cons_of_mem _ hq
top 85
@pe_lst _ _ _ _ pa_nil
SqL.of e2
zdv ps
.str n
pv 8
.ref C9
Str.ofString $0
@yQ _ _ $0 _ _ rfl $1 $2 rfl #2 #2
@pe_glob _ _ $0 _ _ rfl $1 $2 #2
@pi_list _ _ _ _ $0
@pe_and _ _ _ _ _ _ _ $0 $1
@pw_or _ _ _ _ _ _ _ $0 $1
.type $0
List.replicate $0 $1
hb
s.heap.objs.size
PySem.F.slot_str_join
PySem.F.type_str_join
yT
zB
importedModules p.main.body
Nat.ne_of_lt ( Heap.lt_size e )
.ref it
List.mem_of_getElem? hp
backTo cpos ( starEach es X.env )
.str j
hs.trans s2
.int M
some 1
fpB fr'
zL t p
ws.foldl zL t
Mth.nums m ps
@pss_one _ _ _ ( @ps_ret _ _ _ _ pe_bl )
@pg_name _ _ 5 _ nd rfl ( Or.inl rfl ) #7
@pe_ix _ _ _ _ _ _ _ ix_A ( pv 2 ) pe_int #17
s3.trans ( s4.trans s5 )
zV ( ps.drop 1 )
Str.ofString "table"
Str.ofString "told"
yG rfl $0 $1 #20 $2
pe_methS $0 C.Desk.cl $1 ( hr.mono #2 ) $2 ( pv 0 ) $3
upS $0 #2
@PI.or _ _ _ _ _ $0 $1
Nat.lt_of_lt_of_le $0 $1
s2.obj $0
B.all
PyProof.Rows.boot_all
zA P w
upd H a o
.Name x pos
.bl false
binaryOp .Add
.type "object"
I.hok.fresh ( Nat.le_refl _ )
eqU x
.builtin "len"
.int v
rawInt L
CXE X.prog X.w
.int n
.int m
.ref u
X.blockM pins scope nm ys cl ex s H
xq kvs k v
some 2
flat ws
zgj K a b
.Name x px
nums m ps
call_allB rfl
s3.trans s4
s4.trans s5
.inr n
SqT.of e5
Str.ofString "names"
@ps_raise _ _ _ _ _ _ _ _ _ _ _ _ _ _ $0 PySem.F.excBase_ValueError rfl rfl xmade_cx ( @pa_cons _ _ _ _ _ pe_str pa_nil #1 ) #2 #1 #1
Option.some.inj $0
List.length_eq_zero_iff.mp $0
@ps_if _ _ _ _ _ _ _ _ $0 $1 $2
eval $0 X.env
wpAny_standAt $0
@pe_one _ _ _ _ _ $0
binaryOp $0
@pw_or1 _ _ _ _ $0
.cons $0 .nil
Obj.mapSeq $0
h1.objs.size
hxr
PassesOwn.leaving
zdt C.NoTable.addr
D_need_text
C.Desk.addr
.own x
List.getElem?_eq_some_iff.mp hi
backTo pos ( starEach es X.env )
some x
model P w
Itr lo n
.ref s.heap.objs.size
compareOp .Eq
.str ( toString i )
zaz xs lo hi
.bool true
List.getElem?_eq_getElem hi
.ref T
clsIn K C
.ref i1
.ref i2
List.getElem?_eq_some_iff.mp hj
zc4 ry
rel.val k
some d
List.cons.inj h
ltr b
Str.ofString #18
List.zipWith f xs ys
.inr i
@pe_callB _ _ _ _ _ _ _ _ _ call_lenA rfl B.len PySem.boot_len ( @pa_cons _ _ _ _ _ ( pv 0 ) pa_nil #1 ) #2 #2 #1 #1
.int b
s2.obj f1
@pa_cons _ _ _ _ _ ( pv 1 ) ( @pa_cons _ _ _ _ _ ( pv 2 ) pa_nil #1 ) #1
List.getElem?_eq_some_iff.mp hx
s12.trans s3
zV ps
ps.drop 2
mem n
.lst ( ds0.map V.ref )
Str.ofString "redo"
pc_B #4
.ref bl
.ref C11
List.getElem?_eq_some_iff.mp $0
@pg_name _ _ $0 _ $1 #1 #21 #7
@xw _ _ _ _ _ _ hr.units2 $0 $1 #17
@pe_slice _ _ _ _ _ _ _ _ _ _ $0 $1 $2 $3
wpAny_seqItems $0 rfl $1
.And
.Or
po_none
B.len
PySem.boot_len
zdy p w os n pos
Hd.T0 PySem.Challenge.pw_sawsign_k67_whole_desk w os
tupleKind ( zA P w )
.own a
yh q hn
.frz o u
Nat.lt_of_lt_of_le ( Heap.lt_size e ) I.ok.above
.str x
X.wish E
assignEach es X.env
eval o X.env
hf b hb
I1.hok.fresh ( Nat.le_refl _ )
T.obj _ _ st5
tOp r ta tb
.builtin "min"
some ( .builtin "object.__setattr__" )
s.heap.push PySem.W.emptyDict
some ( .builtin "object.__class__" )
upd H dx ( .own x )
List.mem_cons_of_mem _ hw
envOfC qual scope s.heap.objs.size f cd
.str y
ms.map V.int
X.blockF pins scope x ys cl ex s H
.lst ( as.map V.ref )
as.map V.ref
List.mem_of_getElem? hb
h1.trans z
yd kvs k
ws.map V.str
.ref fI
upd H2 ad ( ExN C ad )
List Nat
zF ( Str.ofString ( toString n ) )
zm5 s.heap t u
.lst ( ns.map V.str )
.Name tv py
op_neA hr.units0
@pa_cons _ _ _ _ _ ( pv 5 ) pa_nil #1
.ref cX
@pa_cons _ _ _ _ _ pe_str pa_nil #1
@pe_ix _ _ _ _ _ _ _ ix_A ( pv 5 ) pe_int #17
fs.map V.str
.inl z
Str.ofString "KNOWN"
s.trans s'
Str.ofString "undo"
fs.map V.int
@pg_name _ _ 6 _ nd rfl ( Or.inl rfl ) #7
@pt_cmpR _ _ _ _ _ _ _ _ xV ( pv 3 ) pe_int ( nomark _ )
@pa_cons _ _ _ _ _ ( pv 7 ) pa_nil #1
@pe_tup _ _ _ _ _ ( @pa_cons _ _ _ _ _ pe_str ( @pa_cons _ _ _ _ _ pe_non pa_nil #1 ) #1 )
Str.ofString "spell"
@zcS _ _ $0 _ _ _ _ _ _ nd rfl ( Or.inl rfl ) $1 zcT #7
Nat.le_trans $0 #2
@pi_range1 _ _ _ _ _ _ rfl B.range $0 #1
@PJ.cons _ _ _ _ _ $0 $1
.Attribute o $0 apos
s5.trans $0
D_need_table
zbR
B.min
PyProof.Rows.boot_min
zeX
ask
zax K
D__law_draws
zeL p w n pos T
zeM h H
I.ok.bs b o e
neC b o e hx
eval e X.env
wpAny_standAt ?_
compareOp .NotEq
wpAny_bind ?_
yR f v fs
List.nodup_cons.mp nd
start N vs
.type T
envOfC d.name d.scope #22 fa cd
zeM #23 H
K w.params
i.fdiv j
h1.push ob
some ( .builtin "BaseException.__getattribute__" )
I8.unH I6.ok
.ref addr
List.getElem?_eq_some_iff.mp hP
xs.take i
List.mem_cons_of_mem _ hy
.Tuple elts kt tp
Itz K a b
Itd hi n
wpAny_field hi rfl rfl ?_
.tup ys
he i x y hx hy
Option.some.inj hv
zC kvs k
atKey xs k
tupleKind_room_in1 hu
zbY I.hok eb
o.getD .non
Txt.join sep ws
List.mem_cons_of_mem _ hx
yp ws
ts.map V.str
some mainGlobals
Value.bool true
.lst ( ms.map V.str )
ns.map V.str
hcl _ _ e
.inl ( hyk _ ( hfree y hy e ) )
fpB fr5
step y H5 y5
.cons r8 .nil
T.self X.A 0 _ _ _ st4 loop
.Tuple elts x1 tp
List Str
.ref cT
@pss_one _ _ _ ( @ps_ret _ _ _ _ ( pv 2 ) )
@PI.or _ _ _ _ _ ( @pi_list _ _ _ _ ( pv 0 ) ) ( @pi_tup _ _ _ _ ( pv 0 ) )
@pe_ix _ _ _ _ _ _ _ xE ( pv 1 ) ( pv 0 ) #17
za4 H x
s35.obj eW
@po_some _ _ _ pe_int
@pe_callB _ _ _ _ _ _ _ _ _ call_lenA rfl B.len PySem.boot_len ( @pa_cons _ _ _ _ _ ( pv 1 ) pa_nil #1 ) #2 #2 #1 #1
@pa_cons _ _ _ _ _ ( pv 3 ) pa_nil #1
s2.obj e1
@pt_cmpR _ _ _ _ _ _ _ _ ( op_eqA hr.units0 ) ( pv 0 ) pe_str ( nomark _ )
@pg_name _ _ 1 _ nd rfl ( Or.inl rfl ) #7
.lst ( ds.map V.ref )
s1.obj e
SqL.of ( s1.obj eL )
@pa_cons _ _ _ _ _ pe_non pa_nil #1
hb _ #3
Int.emod_nonneg _ #0
ws.map V.int
@pe_powc _ _ 8 _ _ _ _ _ #2 #2
@pg_name _ _ 9 _ nd rfl ( Or.inl rfl ) #7
h.symm.trans z
yD #2
.str n1
.str n2
.str n3
zC kvs ( Sum.inr n )
ba.rest ap D rA
M.good _ _ hy
.compLoop $0 0 ( .ref it ) ( .ref D ) ( zd6 X.env scope cl s3.heap.objs.size )
List.mem_append_left _ $0
@pt_cmpR _ _ _ _ _ _ _ _ op_in_seq $0 $1 rfl
Same.new $0 _
PySem.mem_of_lookup $0
wpAny_newObj_type $0 htake
Int.dvd_mul_of_dvd_right $0
List.mem_append_right _ $0
Int.mul_nonneg #0 $0
s6.trans $0
Calls.evalArgs_plain $0
Array.toList_inj.mp $0
@ps_while _ _ _ _ _ _ $0 $1 $2
name
its.toArray
k.toNat
B.int
PyProof.Rows.boot_int
.ty "tuple"
B.tuple
PyProof.Rows.boot_tuple
D_number_of
zcP C.NoText.addr
.ty "str"
C.Desk.f_keep
zfy C.Desk.addr
D_Desk_keep
C.Desk.m_keep
D__law_shown
zbM i1
D__law_names
D__law_tell
cE p
yE p w os n
blockOf ( behindTheImports p ) ( env p ) ( cE p ) P0 BB
.int i t
PySem.W.instObj C dx
fs.lookup f
upd H x o
I.freeC x c e
I.base.keep b o e n hb hx
I.base.free b o e n hx
Ne.symm hj
SP X pins D
.Tuple es k pos
Itr 0 j.toNat
.Name "range" p
f ( .int i t ) ( .int j u )
compareOp .In
compareOp op
.builtin "max"
.type "str"
PySem.W.plainGet_of hg
PySem.W.instObj C s.heap.objs.size
.type "list"
.type "tuple"
.type "dict"
frs outer
PySem.F.args_tuple_add_2 _ _
wpAny_bind ( wpAny_pure ?_ )
items.toList.drop ( sIx items.size 0 lo )
Heap.get?_update_other _ _ ( Ne.symm hb )
upd H p ( .lst ( xs.set j v ) )
sliceBounds lo hi none n
.int z.length
.type "method_descriptor"
binaryOp .Mult
docDef d.name d.params d.body d.scope pm cd doc
fd_plain hd
if_neg hb
PySem.W.fnOf x qual ( zD st ) ( zt st ) ( za st ) .none kV doc pm an cdv ct
PySem.W.fnOf x x ( zD st ) ( zt st ) ( za st ) .none kV doc pm an cdv ct
Heap.get?_push_of_some _ q
wpAny_field y1 y2 y3 ?_
Array.getElem?_eq_some_iff.mp t3
leaving env ( .ref e )
I.hok b u q
zbb ( CXE P w ) P w K mg base N qual scope f cd A outer #24 #25 E
T.hasType FB.hasBase
some ( .ref a )
some ( .Name x np )
wpAny_pyIter_list pl.isList ?_
relabel scope env
ziB K 2 ( zcg ( zG 0 ) ( zcg ( zG 1 ) zjS ) )
xq kvs k y
.tup ( k.map kV )
zA X.prog X.w
upd H2 a ( .dK ( yd kvs k ) )
.int kvs.length
wpAt_of_wpAny ?_
excClassObj nm qn C N bs tl hd0 sn sb ab col dd k0 k1 k2 k3 k5 nI
Ne.symm nd
some ( .builtin "type.__getattribute__" )
.val ( .builtin "ValueError.__init__" )
Txt.split a b
typeIs_str _ _ _
F.args_str_split_2 _ _
Str.ofString "-"
Str.ofString "0"
Heap.get?_update_other _ _ ( Ne.symm n )
I6.bk _ _ hC
.builtin "sorted"
seqObj "list" vs.toArray 0
zm4 s.heap t u
zt1 s.heap t
zm2 s.heap t u
zm3 s.heap t u
#26
Int.le_refl _
fw ( ws.take i )
List.mem_of_mem_take hp
f.map V.str
@pe_defS _ _ _ _ _ _ _ _ _ _ _ D_is_whole ( hr.mono #2 ) rfl xpass_nox ( @pa_cons _ _ _ _ _ ( @pe_ix _ _ _ _ _ _ _ ix_A ( pv 0 ) pe_int #17 ) pa_nil #1 ) #2 #1 #1
@pa_cons _ _ _ _ _ ( pv 0 ) ( @pa_cons _ _ _ _ _ ( pv 1 ) pa_nil #1 ) #1
@ps_set _ _ 3 _ _ _ _ nd rfl ( Or.inl rfl ) pe_int #1 #7
@pe_callB _ _ _ _ _ _ _ _ _ call_lenA rfl B.len PySem.boot_len ( @pa_cons _ _ _ _ _ ( pv 2 ) pa_nil #1 ) #2 #2 #1 #1
@pss_one _ _ _ ( @ps_ret _ _ _ _ ( pv 3 ) )
@ps_expr _ _ _ _ ( @pe_defS _ _ _ _ _ _ _ _ _ _ _ D_need_table ( hr.mono #2 ) rfl xpass_nox ( @pa_cons _ _ _ _ _ ( pv 0 ) pa_nil #1 ) #2 #1 #1 ) #1
@pe_tup _ _ _ _ _ ( @pa_cons _ _ _ _ _ pe_str ( @pa_cons _ _ _ _ _ pe_str pa_nil #1 ) #1 )
@pi_list _ _ _ _ ( pv 0 )
@ps_set _ _ 3 _ _ _ _ nd rfl ( Or.inl rfl ) ( @pe_lst _ _ _ _ pa_nil ) #1 #7
.str ( yp ws )
SqL.of ( s2.obj e )
List.zipWith fit fs ps
@zeQ _ _ _ _ _ _ _ _ ( pv 0 ) ( @pe_lst _ _ _ _ pa_nil ) rfl
Str.ofString "word"
@pt_cmpR _ _ _ _ _ _ _ _ ( op_eqA hr.units0 ) ( @pe_ix _ _ _ _ _ _ _ ix_A ( pv 1 ) pe_int #17 ) pe_str ( nomark _ )
.lst ( bs.map V.ref )
bs.map V.ref
@pt_cmpR _ _ _ _ _ _ _ _ ( op_eqA hr.units0 ) ( pv 4 ) pe_str ( nomark _ )
fu.not ( yD #4 )
s14.obj h1
D6.same ( s5.trans s7 )
.str ( Str.ofString "undo" )
@pe_op _ _ _ _ _ _ _ _ op_mulA pe_int ( pv 1 )
@pe_ix _ _ _ _ _ _ _ ix_A ( pv 1 ) ( pv 5 ) #17
T i x p hx hp
Str.ofString "abcdefghijklmnopqrstuvwxyz"
@pe_ix _ _ _ _ _ _ _ ix_A ( pv 4 ) ( @pe_ix _ _ _ _ _ _ _ ix_A ( pv 3 ) pe_int #17 ) #17
some ( Mth.fw ws )
s5.trans ( s6.trans s7 )
M.good n2 y hy
Str.ofString "show"
Str.ofString "number"
Str.ofString "steady"
s3.obj e2
SqT.of ( s4.obj e3 )
l.sc o ho
SqT.of e6
s6.trans s79
List.mem_cons_of_mem _ $0
@ps_set _ _ $0 _ _ _ _ nd rfl ( Or.inr rfl ) $1 #1 #7
List.mem_of_mem_take $0
@ze2 _ _ _ _ _ _ _ _ _ _ _ _ 2 _ #1 $0 #1 #1
zb2 $0 C.Desk.cl $1 ( hr.mono #2 ) xpass_cx ( pv 0 )
ys.length
e _ _ h
xs.length
ks.map kV
ExD C d ad
Txt.startswith a b
Txt.slice a lo hi
zV ( xs.drop n )
inS i j
zhn C.NoCount.addr
D_need_from
D_is_pair_of_wholes
PyProof.Rows.boot_list
D_is_word
zq3 C.NoWord.addr
D_need_word
zkW hr.units3
D_times_within
D_taken_off
PySem.F.slot_str_startswith
PySem.F.type_str_startswith
mt_starts
call_lenS
Kc.EMPTY_WORD.choose_spec
D_is_number
zfv K C.NoText.addr
D_read_numbers
zmc K C.NoLine.addr
D_has_form
D_word_behind
zl8 C.NoWord.addr
D_shown_table
D_steady_of
D_word_of
Mth.zlZ det b1 b2 b3 b4
Mth.zpt det b1 b2 b3 b4
B.sorted
PyProof.Rows.boot_sorted
D_Desk_do_deed
C.Desk.m_do_deed
D__law_runs
PyProof.Rows.boot_max
s5.obj ( s4.obj e3 )
D__law_cell
D__law_moved
D__law_looks
piecesOf ( behindTheImports p ) ( env p ) ( cE p ) P0 BB
Hd.cE PySem.Challenge.pw_sawsign_k67_whole_desk
Option.some.inj h'
PySem.W.methodObj ( .ref f ) ( .ref y )
List.range h.objs.size
I.ok.noex b o e
List.mem_append.mp hp
List.mem_append_left _ z
storeName X.env x u
.UnaryOp .Not a pos
eval iter X.env
pyIter ( .ref s.heap.objs.size )
List.mem_append_left _ hp
.int ( g i j ) s.toks
Builtin.Str.occurrences j i 0 j.length 1
upd H a ( .ins C dx ( yR f y fs ) )
Nat.lt_succ_self _
.Attribute e f pos
upd H2 a ( .ins C dx ( yR f y fs ) )
.frz o ( .lst xs )
.builtin "object.__class__"
.builtin "isinstance"
call ( .ref C ) us
I.hok.fresh ( Nat.le_succ _ )
Nat.le_succ _
List.of_mem_zip hv
zbb CX P w K mg base N qual scope f cd A outer s H E
x.above y c ( PySem.mem_of_lookup h )
zbb CX P w K mg base N qual scope f cdv A outer s H E
wG I hg hm hv ?_ hn hdb
binaryOp .Add ( .ref t ) ( .ref b )
.Slice lo hi none p2
.ref s3.heap.objs.size
r.drop ( HT.sIx xs.length 0 lo )
tBM X.K T r to t
List.replicate k xs
List.replicate k its
ns.map WData.int
pre_splitW hpre
binaryOp .FloorDiv
c2.log2 #2
k.old b o e n f
typeOf ( .ref x )
.lst ( xs.map g )
Nat.ne_of_lt ( lt b hb )
Heap.get?_push_ne _ _ _ hN
I1.hok.fresh ge
items.toList.drop i
Builtin.SmallTypes.nextOf ( .ref it )
wpAny_callSpecial?_slot hi.ti.typeIs slot_tupleiter_next ( wpAny_call_entry slot_tupleiter_next hi.ti.typeIs entry_tupleiter_next ?_ ( args_tupleiter_next _ ) )
wpAny_seqItems e2 d2 ?_
wpAny_newTuple ?_
Array.getElem?_eq_getElem hi
List.range xs.length
Heap.push ( Heap.push s.heap _ ) _
.inr ( .inr rfl )
rawInt s.heap.objs.size
zg k1 Z.zTO.symm hO
yw D2 Z.fo2 ( yw D2 Z.f12 ( yw D2 Z.fz2 st2 k1 ) k2 ) k3
zg k3 Z.zTO ( zg k2 Z.z1 z1' )
rawInt g5.objs.size
pyNext ( .ref z )
F.args_zip_next_1 _
h1.symm.trans e
.dK ( xq kvs k v )
upd H a ( .dK ( yd kvs k ) )
PySem.F.args_dict_get_2 _ _
wpAny_typeOf hT ?_
wpAny_newList ?_
Heap.get?_push_at rfl rfl
.str fld s.toks
Option.some.inj q
ze6 C fld ok W t
PySem.W.fnOf "__init__" qual ( zD st ) ( zt st ) ( za st ) .none kV doc pm an cdv ct
if_neg ( ne_true_of_eq_false h1 )
.Slice ( some lo ) none ( some st ) p2
List.mem_range.mpr h
Bool.and_eq_true_iff.mp h
List.mem_cons_of_mem _ z
fa a List.mem_cons_self
fb b List.mem_cons_self
Array.mem_toList_iff.mpr hc
Nat.le_trans hl #2
Nat.le_trans lt #2
Nat.le_trans h2 #2
ws.map List.length
wpAny_field y1 y2 y6 ?_
Heap.get?_update_other _ _ ( Ne.symm neC )
PySem.W.fnOf nm qual ( zD st ) ( zt st ) ( za st ) .none kV doc pm an cdv ct
getMethod ov m pl
.Attribute o m apos
upd H p ( .lst ( ms.map V.str ) )
List.getElem?_eq_some_iff.mp hu
hs.trans ( Same.new nT _ )
.inl ( hyk y hy )
ws.take i
List.getElem?_eq_some_iff.mp hy
Prod.ext ?_ ( Prod.ext ?_ ?_ )
List.not_mem_nil hp
Nat.le_of_lt h3
.int ( Int.gcd a b )
zf7 C.NoName.addr "name" zlK
@zhW _ _ _ _ ( pv 1 )
@pa_cons _ _ _ _ _ ( @zar _ _ _ _ _ _ ( @PJ.cons _ _ _ _ _ pe_str ( @PJ.cons _ _ _ _ _ ( @zeY _ _ _ _ ( pv 0 ) ) ( @PJ.cons _ _ _ _ _ pe_str PJ.nil ) ) ) ) pa_nil #1
zsB C.TooMany.addr
@pe_callB _ _ _ _ _ _ _ _ _ xJ rfl B.abs PyProof.Rows.boot_abs ( @pa_cons _ _ _ _ _ ( pv 0 ) pa_nil #1 ) #2 #2 #1 #1
@ps_set _ _ 3 _ _ _ _ nd rfl ( Or.inl rfl ) ( pv 4 ) #1 #7
zic C.NoCount.addr
@pe_defS _ _ _ _ _ _ _ _ _ _ _ D_steps_of ( hr.mono #2 ) rfl xpass_nox ( @pa_cons _ _ _ _ _ ( pv 0 ) ( @pa_cons _ _ _ _ _ ( pv 1 ) pa_nil #1 ) #1 ) #2 #1 #1
@pa_cons _ _ _ _ _ pe_int ( @pa_cons _ _ _ _ _ ( @pe_un _ _ _ _ _ _ un_neg pe_int ) pa_nil #1 ) #1
@pe_op _ _ _ _ _ _ _ _ op_mulA ( pv 6 ) ( pv 3 )
Int.gcd_dvd_right a m
zsD C.NoCount.addr
@pe_op _ _ _ _ _ _ _ _ op_mulA ( @pe_ix _ _ _ _ _ _ _ ix_A ( @pe_ix _ _ _ _ _ _ _ ix_A ( pv 0 ) pe_int #17 ) pe_int #17 ) ( @pe_ix _ _ _ _ _ _ _ ix_A ( @pe_ix _ _ _ _ _ _ _ ix_A ( pv 0 ) pe_int #17 ) pe_int #17 )
@pe_op _ _ _ _ _ _ _ _ ze ( @pe_op _ _ _ _ _ _ _ _ op_mulA ( @pe_ix _ _ _ _ _ _ _ ix_A ( pv 0 ) pe_int #17 ) ( @pe_ix _ _ _ _ _ _ _ ix_A ( @pe_ix _ _ _ _ _ _ _ ix_A ( pv 1 ) pe_int #17 ) pe_int #17 ) ) ( @pe_op _ _ _ _ _ _ _ _ op_mulA ( @pe_ix _ _ _ _ _ _ _ ix_A ( pv 0 ) pe_int #17 ) ( @pe_ix _ _ _ _ _ _ _ ix_A ( @pe_ix _ _ _ _ _ _ _ ix_A ( pv 1 ) pe_int #17 ) pe_int #17 ) )
@pe_defS _ _ _ _ _ _ _ _ _ _ _ D_row_together ( hr.mono #2 ) rfl xpass_nox ( @pa_cons _ _ _ _ _ ( @pe_ix _ _ _ _ _ _ _ ix_A ( pv 0 ) pe_int #17 ) ( @pa_cons _ _ _ _ _ ( pv 1 ) pa_nil #1 ) #1 ) #2 #1 #1
.int ( Mth.sg n )
@pa_cons _ _ _ _ _ ( @pe_callB _ _ _ _ _ _ _ _ _ xJ rfl B.abs PyProof.Rows.boot_abs ( @pa_cons _ _ _ _ _ ( pv 1 ) pa_nil #1 ) #2 #2 #1 #1 ) pa_nil #1
@pa_cons _ _ _ _ _ pe_int ( @pa_cons _ _ _ _ _ ( @pe_callB _ _ _ _ _ _ _ _ _ call_lenA rfl B.len PySem.boot_len ( @pa_cons _ _ _ _ _ ( pv 0 ) pa_nil #1 ) #2 #2 #1 #1 ) pa_nil #1 ) #1
k x ( List.mem_of_getElem? hx )
zpx C.NoWord.addr
@ps_set _ _ 4 _ _ _ _ nd rfl ( Or.inl rfl ) pe_int #1 #7
@pe_ix _ _ _ _ _ _ _ xE ( pv 2 ) ( pv 0 ) #17
@pe_op _ _ _ _ _ _ _ _ op_subI ( @pe_ix _ _ _ _ _ _ _ ix_A ( pv 1 ) pe_int #17 ) ( @pe_op _ _ _ _ _ _ _ _ op_mulA ( pv 2 ) ( @pe_ix _ _ _ _ _ _ _ ix_A ( pv 0 ) pe_int #17 ) )
@ps_set _ _ 1 _ _ _ _ nd rfl ( Or.inl rfl ) ( @pe_ix _ _ _ _ _ _ _ ix_A ( pv 0 ) pe_int #17 ) #1 #7
@ps_set _ _ 2 _ _ _ _ nd rfl ( Or.inl rfl ) ( @pe_ix _ _ _ _ _ _ _ ix_A ( pv 0 ) pe_int #17 ) #1 #7
@pa_cons _ _ _ _ _ ( @pe_ix _ _ _ _ _ _ _ ix_A ( pv 2 ) pe_int #17 ) pa_nil #1
@pt_cmpR _ _ _ _ _ _ _ _ op_gtI ( pv 4 ) pe_int ( nomark _ )
.str ( zaU a b c d )
sm n ( List.mem_of_getElem? hw )
List.mem_of_getElem? hw
zpA C.NoText.addr C.NoTable.addr
@pe_bm _ _ _ _ _ _ _ _ _ _ _ _ PySem.F.plainAttrs_str PySem.F.slot_str_split PySem.F.type_str_split mt_split ( pv 0 ) ( @pa_cons _ _ _ _ _ pe_str pa_nil #1 ) #1 #1 #1 #1 #1
zpB C.NoText.addr
@zco _ _ _ _ _ _ _ _ _ ( pv 1 ) ( @po_some _ _ _ pe_int ) ( @po_some _ _ _ pe_int )
zmd K C.NoLine.addr
@pe_glob _ _ ( .ref tWORD_FORM ) _ _ rfl mWORD_FORM rfl #2
zih C.TooMany.addr
@pe_powc _ _ 60 _ _ _ _ _ #2 #2
zii C.NoWord.addr
Sum.inr n
zme C.Desk.addr
zij K C.Desk.addr C.NoName.addr
zC kvs ( Sum.inr p )
Str.ofString "let"
zpE K C.Desk.addr C.NoTable.addr C.TooMany.addr
@pa_cons _ _ _ _ _ ( @xw _ _ _ _ _ _ hr.units2 ( @zU _ _ _ _ _ ( pv 0 ) rfl ) ( @pe_ix _ _ _ _ _ _ _ ix_A ( pv 1 ) pe_int #17 ) #17 ) pa_nil #1
zmg C.Desk.addr
k2 q o n3 ( s1.obj e )
zmh C.Desk.addr C.NoDeed.addr
List.dropLast_concat_getLast hd
m2 q xs ( s1.obj h )
zmi C.Desk.addr C.NoDeed.addr
zim C.Desk.addr
@pa_cons _ _ _ _ _ ( @zU _ _ _ _ _ ( pv 0 ) rfl ) pa_nil #1
q dn0 d z H' t r k m
Txt.join #18 ws
@pa_cons _ _ _ _ _ pe_str ( @pa_cons _ _ _ _ _ pe_str ( @pa_cons _ _ _ _ _ pe_str pa_nil #1 ) #1 ) #1
@pa_cons _ _ _ _ _ pe_str ( @pa_cons _ _ _ _ _ pe_str ( @pa_cons _ _ _ _ _ pe_str ( @pa_cons _ _ _ _ _ pe_str pa_nil #1 ) #1 ) #1 ) #1
@pe_slice _ _ _ _ _ _ _ _ _ _ zeX ( pv 2 ) ( @po_some _ _ _ pe_int ) po_none
s13.trans ( s4.trans s5 )
@pt_cmpR _ _ _ _ _ _ _ _ ( op_eqA hr.units0 ) ( @pe_callB _ _ _ _ _ _ _ _ _ call_lenA rfl B.len PySem.boot_len ( @pa_cons _ _ _ _ _ ( pv 0 ) pa_nil #1 ) #2 #2 #1 #1 ) pe_int ( nomark _ )
@pt_cmpR _ _ _ _ _ _ _ _ zbR ( pv 0 ) ( @pe_powc _ _ 18 _ _ _ _ _ #2 #2 ) ( nomark _ )
@pe_op _ _ _ _ _ _ _ _ op_subI ( pv 0 ) ( @pe_powc _ _ 18 _ _ _ _ _ #2 #2 )
Int.emod_lt_of_pos _ #0
@pa_cons _ _ _ _ _ pe_int ( @pa_cons _ _ _ _ _ pe_int ( @pa_cons _ _ _ _ _ pe_int pa_nil #1 ) #1 ) #1
@pe_powc _ _ 4 _ _ _ _ _ #2 #2
@pg_name _ _ 7 _ nd rfl ( Or.inl rfl ) #7
@pe_ix _ _ _ _ _ _ _ zgV pe_str ( @pe_op _ _ _ _ _ _ _ _ zX ( @pe_op _ _ _ _ _ _ _ _ ze ( pv 4 ) ( @pe_ix _ _ _ _ _ _ _ ix_A ( pv 2 ) pe_int #17 ) ) pe_int ) #17
@pa_cons _ _ _ _ _ ( pv 9 ) pa_nil #1
@pa_cons _ _ _ _ _ ( @pe_tup _ _ _ _ _ ( @pa_cons _ _ _ _ _ pe_int ( @pa_cons _ _ _ _ _ pe_int pa_nil #1 ) #1 ) ) pa_nil #1
@pt_cmpR _ _ _ _ _ _ _ _ ( op_eqA hr.units0 ) ( pv 5 ) pe_str ( nomark _ )
@ps_set _ _ 2 _ _ _ _ nd rfl ( Or.inl rfl ) pe_str #1 #7
@pe_slice _ _ _ _ _ _ _ _ _ _ zeX ( pv 2 ) ( @po_some _ _ _ pe_int ) ( @po_some _ _ _ ( @pe_op _ _ _ _ _ _ _ _ ze pe_int ( @pe_ix _ _ _ _ _ _ _ ix_A ( pv 2 ) pe_int #17 ) ) )
hd 0 _ _ rfl rfl
List.mem_of_mem_take hi
List.mem_cons_of_mem _ hp
zdx hn h1 h2 h3 h4
Int.le_trans a b
@pe_op _ _ _ _ _ _ _ _ zB ( @pe_op _ _ _ _ _ _ _ _ zB pe_str ( pv 4 ) ) pe_str
@pe_op _ _ _ _ _ _ _ _ zB ( @pe_op _ _ _ _ _ _ _ _ zB ( @pe_op _ _ _ _ _ _ _ _ zB pe_str ( pv 4 ) ) pe_str ) ( pv 5 )
@pt_cmpR _ _ _ _ _ _ _ _ ( op_eqA hr.units0 ) ( pv 3 ) pe_int ( nomark _ )
@pt_cmpR _ _ _ _ _ _ _ _ ( op_eqA hr.units0 ) ( @pe_ix _ _ _ _ _ _ _ ix_A ( pv 8 ) pe_int #17 ) pe_int ( nomark _ )
@pa_cons _ _ _ _ _ ( @pe_tup _ _ _ _ _ ( @pa_cons _ _ _ _ _ ( @pe_tup _ _ _ _ _ ( @pa_cons _ _ _ _ _ ( pv 9 ) ( @pa_cons _ _ _ _ _ ( pv 10 ) pa_nil #1 ) #1 ) ) ( @pa_cons _ _ _ _ _ ( @pe_tup _ _ _ _ _ ( @pa_cons _ _ _ _ _ ( pv 11 ) ( @pa_cons _ _ _ _ _ ( pv 12 ) pa_nil #1 ) #1 ) ) pa_nil #1 ) #1 ) ) pa_nil #1
s2.trans ( s3.trans s4 )
s8.trans ( s9.trans ( s10.trans s11 ) )
@pe_op _ _ _ _ _ _ _ _ op_mulA ( @pe_ix _ _ _ _ _ _ _ ix_A ( @pe_ix _ _ _ _ _ _ _ ix_A ( pv 8 ) pe_int #17 ) pe_int #17 ) ( @pe_ix _ _ _ _ _ _ _ ix_A ( @pe_ix _ _ _ _ _ _ _ ix_A ( pv 8 ) pe_int #17 ) pe_int #17 )
@pe_op _ _ _ _ _ _ _ _ xu ( @pe_ix _ _ _ _ _ _ _ ix_A ( pv 8 ) pe_int #17 ) ( @pe_ix _ _ _ _ _ _ _ ix_A ( pv 8 ) pe_int #17 )
h2 #0 #0
upS b1 #2
upS b2 #2
upS b3 #2
upS b4 #2
s7.trans ( s8.trans s9 )
s8.trans s9
ziv C.Desk.addr
s11'.trans ( s12.trans s13 )
s12.trans ( s13.trans s15' )
ziw C.Desk.addr
@pe_defS _ _ _ _ _ _ _ _ _ _ _ D__law_tell ( hr.mono #2 ) rfl xpass_nox ( @pa_cons _ _ _ _ _ ( pv 0 ) ( @pa_cons _ _ _ _ _ ( pv 3 ) pa_nil #1 ) #1 ) #2 #1 #1
D2.same ( s3.trans ( s4.trans s5 ) )
List.mem_of_getElem? hf
e1.symm.trans z
s4.trans ( s5.trans s6 )
@pe_defS _ _ _ _ _ _ _ _ _ _ _ D__law_tell ( hr.mono #2 ) rfl xpass_nox ( @pa_cons _ _ _ _ _ ( pv 1 ) ( @pa_cons _ _ _ _ _ pe_str pa_nil #1 ) #1 ) #2 #1 #1
s6.trans ( s7.trans s89 )
List.mem_of_getElem? l.bo.cur
yg.tup r5 l4.D _ _ ee
PySem.W.fnOf x q ( zD st ) ( zt st ) ( za st ) .none kV dc pm an cd ct
PySem.W.clsIn K C9
PySem.W.mg_of X G F68.a
Array.getElem?_eq_some_iff.mp $0
s12.trans $0
@zba _ _ _ _ _ _ _ _ $0 pe_int ( @pe_un _ _ _ _ _ _ un_neg pe_int )
Bool.and_eq_true_iff.mp $0"#.splitOn "\n"
def sA(t:Nat->Lean.Term)(w:String):Lean.MacroM Lean.Term:=do
 let r:=(w.drop 1).toString
 match w.front with
 |'@'=>`(@$(Lean.mkIdent r.toName))
 |'$'=>return t r.toNat!
 |'#'=>sL r
 |'.'=>`(.$(Lean.mkIdent r.toName))
 |'"'=>return Lean.Syntax.mkStrLit (r.dropEnd 1).toString
 |'?'=>`(?_)
 |c=>if w=="_" then `(_) else if c.isDigit then return Lean.Syntax.mkNumLit w else return Lean.mkIdent w.toName
def sO(c:Char):Nat:=("abcdefghijklmnopqrstuvwxyz0123456789!#$%&*+,-./:;<=>?@^_|~'`()[]ABCDEFGHIJKLMNOPQRSTUVWXYZ".toList.findIdx (·==c))
def sJ:List Lean.Term->Lean.Term
 |[f]=>f
 |f::l=>Lean.Syntax.mkApp f l.toArray
 |[]=>⟨.missing⟩
def sP(t:Nat->Lean.Term):Nat->List String->Lean.MacroM (List Lean.Term×List String)
 |0,r=>return ([],r)
 |_,[]=>return ([],[])
 |n+1,w::r=>do
  if w==")" then return ([],r)
  let (a,r)<-if w=="(" then do
    let (l,r)<-sP t n r
    pure (sJ l,r)
   else do
    let a<-sA t w
    pure (a,r)
  let (l,r)<-sP t n r
  return (a::l,r)
def sK:Nat->Nat->List (Nat⊕Lean.Term)->Lean.MacroM (List Lean.Term×List (Nat⊕Lean.Term))
 |n+1,k+1,.inr t::r=>do
  let (l,r)<-sK n k r
  return (t::l,r)
 |n+1,k+1,.inl c::r=>do
  let b:=((sT.getD c "").splitOn " ")
  let (t,r)<-sK n (b.filter (·.startsWith "$")).length r
  let (a,_)<-sP (fun i=>t.getD i ⟨.missing⟩) 999 b
  let (l,r)<-sK n k r
  return (sJ a::l,r)
 |_,_,r=>return ([],r)
def sC:List Char->List Nat
 |a::b::r=>if a.isUpper then (64+90*(a.toNat-65)+sO b)::sC r else sO a::sC (b::r)
 |[a]=>[sO a]
 |[]=>[]
local macro_rules|`(s! $x)=>do
 let (l,_)<-sK 999 1 (x.raw.getArgs.toList.flatMap fun a=>match a.isInterpolatedStrLit? with|some c=>(sC c.toList).map .inl|_=>[.inr ⟨a⟩])
 return l.getD 0 ⟨.missing⟩
local macro_rules|`(tactic|omega)=>`(tactic|lia)
set_option internal.cmdlineSnapshots true
set_option Elab.async false
set_option linter.all false
set_option maxRecDepth 100000
local macro_rules|`(tactic|walk_at "wp")=>`(tactic|first|with_reducible refine PySem.wpAny_pure ?_|with_reducible refine PySem.wpAny_bind ?_|with_reducible refine PySem.wpAny_attempt ?_|((with_reducible refine' PySem.wpAny_mkStr' ?_ ?zb);case zb=>size_fits)|((with_reducible apply PySem.wpAny_ite_false);focus(rfl;done))|((with_reducible apply PySem.wpAny_ite_true);focus(rfl;done))|wp_delta|wp_step)
namespace Hd
open PySem PySem.W PyProof.Rows
noncomputable def s0 (w:World) (os:OsState):Shared:=⟨boot_heap w.params,#[],boot_drawn,boot_toks,os⟩
abbrev ann:Option Value:=some s!"4{6}"
abbrev P0:Pos:=⟨0,0,0,0⟩
abbrev BB:List Frame:=[topFrame P0]
def env (p:Program):Env:={ scope:=p.main.scope,locals:=mainNs,globals:=mainNs,cells:=[],code:=.ref 13,frame:=some 14 }
def cE (p:Program):Code:=.body (behindTheImports p) (env p)
noncomputable def zjO (p:Program) (w:World) (os:OsState):=topGo treeTable p w 11 ann 12 (s0 w os) (topStub p)
noncomputable def SA (p:Program) (w:World) (os:OsState):Shared:=((zjO p w os).map Prod.fst).getD (s0 w os)
noncomputable def T0 (p:Program) (w:World) (os:OsState):SharedT:=⟨(s!"B+".heap.objs.toList.foldl (fun (x:BT×Nat) o=>(x.1.ins x.2 o,x.2+1)) (BT.nil,0)).1,s!"B+".heap.objs.size,s!"B+".heap.life,s!"B+".gens,s!"B+".drawn,s!"B+".toks,os⟩
noncomputable def yE (p:Program) (w:World) (os:OsState) (n:Nat):=segRunT treeTable p w 11 ann 1 n s!"Bq" s!"Hj"
noncomputable def S3 (p:Program) (w:World) (os:OsState) (n:Nat):SharedT:=(s!"Fv".map fun x=>x.2.1).getD s!"Bq"
noncomputable def zdy (p:Program) (w:World) (os:OsState) (n:Nat) (pos:Pos):Option Shared:=s!"Fv".bind fun x=>topRun treeTable p w 11 ann 2 x.2.1.abs ⟨doneF .next,cE p,pos,BB⟩
theorem zrb:∀w:World,(s!"A'".isNs mainGlobals && (#[]:Array GenState).size==0,s!"A'".objs.size,s!"A'".nsMap mainGlobals "__annotations__")=(true,11,ann):=fun w=>by kernel_rfl
variable {p q:Program} {loose:List Str} {Xt:Shared->Bool} {N:Nat} {pos:Pos}
theorem zix {α:Type} {Yf:Shared->α} {Ya:World->α} {n:Nat}
 (e:opening p=plainProg p.main.scope.names) (hN:Nat.ble 600 N=true) (f:∀s,fenceModules? p s=some s) (le:Nat.ble (12+(1+(n+2))) N=true)
 (h1:∀w os,zjO p w os=some (SA p w os,⟨denote treeTable s!"Fu",cE p,P0,BB⟩))
 (h2:∀w os,segRun treeTable p w 11 ann 1 1 s!"B+" s!"Fw"=some (.next,s!"Bq".abs,cE p,P0))
 (h3:∀w os,(yE p w os n,s!"Du".map fun s=>(staticsOk s!"BO" s!"A'" s.heap && namesBound p s.heap && gensDone s && laidKept s!"A'" s.heap,openSeen q loose s!"BO" Xt true s,Yf s))=(some (.next,S3 p w os n,cE p,pos),some (true,openGood q loose,Ya w))):
 LeftO p q loose Xt Yf Ya N:=fun w=>by
 obtain ⟨⟨h,gs,d,k,os⟩,e0,e'⟩:=Option.map_eq_some_iff.mp (boot_open e hN f w);obtain ⟨rfl,rfl,rfl,rfl⟩:h=boot_heap w.params/\gs=Array.mk []/\d=boot_drawn/\k=boot_toks:=by simpa using e'
 obtain ⟨z1,z2,z3⟩:_/\_/\_:=by simpa only [Prod.mk.injEq] using zrb w
 have p3:=congrArg Prod.fst (h3 w os);have l3:=congrArg Prod.snd (h3 w os);dsimp only at p3 l3;obtain ⟨s,hs,hl⟩:=Option.map_eq_some_iff.mp l3;obtain ⟨l1,l2,l4⟩:_/\_/\_:=by simpa only [Prod.mk.injEq] using hl
 unfold zdy at hs;rw [p3] at hs;have run0:=go_top (h1 w os) (piece_block (h2 w os) (r:=s) (N:=n+2) (by
  have:=piece_app (env:=env p) (rest:=[]) (segRun_of p3) (piece_nil hs)
  rwa [List.append_nil] at this))
 have r:=topRun_mono (N-(12+(1+(n+2)))) _ _ _ _ run0;rw [show 12+(1+(n+2))+(N-(12+(1+(n+2))))=N by have:=Nat.le_of_ble_eq_true le;omega] at r
 have t:topFrom treeTable p w N ⟨boot_heap w.params,Array.mk [],boot_drawn,boot_toks,os⟩=some s:=by
  unfold topFrom;dsimp only;rw [z1,z2,z3];have r':topRun treeTable p w 11 ann N ⟨boot_heap w.params,Array.mk [],boot_drawn,boot_toks,os⟩ (topStub p)=some s:=r;rw [r'];show (match staticsOk s!"BO" s!"A'" s.heap && namesBound p s.heap && gensDone s && laidKept s!"A'" s.heap with | true=>some s | false=>none)=_
  rw [l1]
 unfold openEnds;rw [e0];show (topFrom treeTable p w N ⟨boot_heap w.params,Array.mk [],boot_drawn,boot_toks,os⟩).map _=_;rw [t];show some (_,_)=_;rw [l2,l4]
theorem zgI {α:Type} {Yf:Shared->α} {Ya:World->α} {n:Nat}
 (e:opening p=plainProg p.main.scope.names) (hN:Nat.ble 600 N=true) (f:∀s,fenceModules? p s=some s) (le:Nat.ble (12+(1+(n+2))) N=true)
 (h1:∀w os,zjO p w os=some (SA p w os,⟨denote treeTable s!"Fu",cE p,P0,BB⟩))
 (h2:∀w os,segRun treeTable p w 11 ann 1 1 s!"B+" s!"Fw"=some (.next,s!"Bq".abs,cE p,P0))
 (h3:∀w os,yE p w os n=some (.next,S3 p w os n,cE p,pos))
 (h4:∀w os,s!"Du".map (fun s=>staticsOk s!"BO" s!"A'" s.heap && namesBound p s.heap && gensDone s && laidKept s!"A'" s.heap)=some true)
 (h5:∀w os,s!"Du".map (openSeen q loose s!"BO" Xt true)=some (openGood q loose))
 (h6:∀w os,s!"Du".map Yf=some (Ya w)):
 LeftO p q loose Xt Yf Ya N:=zix e hN f le h1 h2 (fun w os=>by
  have a:=h4 w os;have b:=h5 w os;have c:=h6 w os;rw [h3 w os];cases hf:zdy p w os n pos with
  | none=>rw [hf] at a;cases a
  | some s=>
   rw [hf] at a b c;have a':=Option.some.inj a;dsimp only at a';have b':=Option.some.inj b;have c':=Option.some.inj c;show (_,some (_,_,_))=_;rw [a',b',c'])
noncomputable def zrc (p:Program) (w:World) (n:Nat) (T:SharedT):=segRunT treeTable p w 11 ann 1 n T s!"Hj"
noncomputable def zeL (p:Program) (w:World) (n:Nat) (pos:Pos) (T:SharedT):Option Shared:=(zrc p w n T).bind fun x=>topRun treeTable p w 11 ann 2 x.2.1.abs ⟨doneF .next,cE p,pos,BB⟩
noncomputable def lk1 (p q:Program) (n:Nat) (pos:Pos) (w:World) (b:Heap) (T:SharedT):=((zrc p w n T).map fun x=>(x.1,x.2.2),(zeL p w n pos T).map fun s=>((staticsOk (importedModules p.main.body) b s.heap && namesBound p s.heap && gensDone s && laidKept b s.heap,plainSeenE q (looseW q []) s),pinSeenD q (drecsOf q) s,plainSeenD q [] s,clsSeenW q [] s))
noncomputable def lk3 (p q:Program) (n:Nat) (pos:Pos) (w:World) (T:SharedT):=(zeL p w n pos T).map fun s=>(tabsOk q s,wideSeen q s)
noncomputable def lk4 (p q:Program) (rc:WRecords) (n:Nat) (pos:Pos) (w:World) (T:SharedT):=(zeL p w n pos T).map fun s=>((s.heap.bltView,s.heap.keysOk (looseW q []) ((recsOf q).map (·.name)) ((litsOf q).map (·.1)) ((clssOf q (looseW q [])).map (·.name)) && s.heap.accountedOkI s!"BO" && s.heap.isNs mainGlobals && s.heap.isNs builtinsNs && tablesOk q s.heap && (xlAt q [] s && recOk rc s) && (s.gens.size==0)),seen ((recsOf q).map (·.name)) (ownsOf q) [] { s with gens:=#[] })
theorem zgJ {rc:WRecords} {α:Type} {Yf:Shared->α} {Ya:World->α} {n:Nat} {pos:Pos} {L1 L3 L4 FN} (e1:lk1=L1) (e3:lk3=L3) (e4:lk4=L4) (eF:zeL=FN)
 (e:opening p=plainProg p.main.scope.names) (hN:Nat.ble 600 N=true) (f:∀s,fenceModules? p s=some s) (le:Nat.ble (12+(1+(n+2))) N=true)
 (h1:∀w os,zjO p w os=some (SA p w os,⟨denote treeTable (cE p),cE p,P0,BB⟩))
 (h2:∀w os,segRun treeTable p w 11 ann 1 1 (SA p w os) (blockOf (behindTheImports p) (env p) (cE p) P0 BB)=some (.next,(T0 p w os).abs,cE p,P0))
 (l1:∀w os,L1 p q n pos w (boot_heap w.params) (T0 p w os)=(some (.next,cE p,pos),some ((true,plainGoodE q (looseW q [])),pinGoodD (drecsOf q),plainGoodD q [],clsGoodW q [])))
 (l3:∀w os,L3 p q n pos w (T0 p w os)=some (true,wideGood q))
 (l4:∀w os,L4 p q rc n pos w (T0 p w os)=some ((bltViewBooted,true),expectedOf q))
 (h4:∀w os,(FN p w n pos (T0 p w os)).map Yf=some (Ya w)):
 LeftO p q [] (fun s=>xlAt q [] s && recOk rc s) Yf Ya N:=by
 subst e1 e3 e4 eF
 have r3:∀w os,yE p w os n=some (.next,S3 p w os n,cE p,pos):=fun w os=>by
  have a:(yE p w os n).map (fun x=>(x.1,x.2.2))=some (.next,cE p,pos):=congrArg Prod.fst (l1 w os)
  obtain ⟨⟨a1,a2,a3⟩,ha,hb⟩:=Option.map_eq_some_iff.mp a
  obtain ⟨rfl,rfl⟩:=Prod.mk.inj hb
  unfold S3
  rw [ha]
  rfl
 have z:∀w os,(zdy p w os n pos).map (fun s=>((staticsOk (importedModules p.main.body) (boot_heap w.params) s.heap && namesBound p s.heap && gensDone s && laidKept (boot_heap w.params) s.heap,plainSeenE q (looseW q []) s),pinSeenD q (drecsOf q) s,plainSeenD q [] s,clsSeenW q [] s))=some ((true,plainGoodE q (looseW q [])),pinGoodD (drecsOf q),plainGoodD q [],clsGoodW q []):=fun w os=>congrArg Prod.snd (l1 w os)
 exact zgI e hN f le h1 h2 r3 (fun w os=>by
  obtain ⟨s,hs,hb⟩:=Option.map_eq_some_iff.mp (z w os)
  rw [hs]
  exact congrArg some (Prod.mk.inj (Prod.mk.inj hb).1).1) (fun w os=>by
  obtain ⟨s,hs,hb⟩:=Option.map_eq_some_iff.mp (z w os)
  have a3:(zdy p w os n pos).map _=_:=l3 w os
  have a4:(zdy p w os n pos).map _=_:=l4 w os
  rw [hs] at a3 a4 ⊢
  have b3:=Option.some.inj a3
  have b4:=Option.some.inj a4
  simp only [Prod.mk.injEq] at b3 b4 hb
  show some (_,_,(_ && _),_,_,_,_,_,_)=some (_,_,_,_,_,_,_,_,_)
  refine congrArg some (Prod.ext b4.2 (Prod.ext b4.1.1 (Prod.ext b4.1.2 (Prod.ext b3.1 (Prod.ext hb.2.1 (Prod.ext hb.1.2 (Prod.ext hb.2.2.1 (Prod.ext b3.2 hb.2.2.2))))))))) h4
end Hd
section
namespace My
open PySem
def top (i:Nat):Stmt:=PySem.Challenge.pw_sawsign_k67_whole_desk.main.body.getD i (.Pass ⟨0,0,0,0⟩)
end My
def My.view:PySem.Program:={ PySem.Challenge.pw_sawsign_k67_whole_desk with main:={ PySem.Challenge.pw_sawsign_k67_whole_desk.main with body:=[My.top 1,My.top 2,My.top 3,My.top 4,My.top 5,My.top 6,My.top 7,My.top 8,My.top 9,My.top 10,My.top 11,My.top 12,My.top 14,My.top 15,My.top 16,My.top 17,My.top 18,My.top 20,My.top 21,My.top 23,My.top 24,My.top 25,My.top 26,My.top 28,My.top 29,My.top 30,My.top 32,My.top 34,My.top 35,My.top 37,My.top 38,My.top 39,My.top 41,My.top 42,My.top 43,My.top 44,My.top 45,My.top 46,My.top 47,My.top 48,My.top 50,My.top 51,My.top 52,My.top 53,My.top 54,My.top 55,My.top 56,My.top 57,My.top 59,My.top 60,My.top 61,My.top 62,My.top 63,My.top 64,My.top 65,My.top 66,My.top 67,My.top 68,My.top 69,My.top 70,My.top 72,My.top 73,My.top 74,My.top 75,My.top 76,My.top 77,My.top 78,My.top 79,My.top 80,My.top 81,My.top 82,My.top 83,My.top 84,My.top 85,My.top 87,My.top 88,My.top 89,My.top 90,My.top 91,My.top 92,My.top 93,My.top 94,My.top 95,My.top 96,My.top 97,My.top 98,My.top 99,My.top 100,My.top 101,My.top 102,My.top 103,My.top 104,My.top 105,My.top 106] } }
open PySem PySem.W PyProof.Rows
set_option maxHeartbeats 0
lay_quick Hd.lk1 Hd.lk3 Hd.lk4 Hd.zeL
theorem My.elk1:Hd.lk1=Hd.lk1:=rfl
name_quick lk1Q for Hd.lk1 by My.elk1
theorem My.elk3:Hd.lk3=Hd.lk3:=rfl
name_quick lk3Q for Hd.lk3 by My.elk3
theorem My.elk4:Hd.lk4=Hd.lk4:=rfl
name_quick lk4Q for Hd.lk4 by My.elk4
theorem My.efinS:Hd.zeL=Hd.zeL:=rfl
name_quick finSQ for Hd.zeL by My.efinS
theorem My.h1:∀w os,Hd.zjO PySem.Challenge.pw_sawsign_k67_whole_desk w os=some (Hd.SA PySem.Challenge.pw_sawsign_k67_whole_desk w os,⟨denote treeTable s!"Hk",Hd.cE PySem.Challenge.pw_sawsign_k67_whole_desk,Hd.P0,Hd.BB⟩):=fun _ _=>by kernel_rfl
theorem My.h2:∀w os,segRun treeTable PySem.Challenge.pw_sawsign_k67_whole_desk w 11 Hd.ann 1 1 (Hd.SA PySem.Challenge.pw_sawsign_k67_whole_desk w os) (blockOf (behindTheImports PySem.Challenge.pw_sawsign_k67_whole_desk) (Hd.env PySem.Challenge.pw_sawsign_k67_whole_desk) s!"Hk" Hd.P0 Hd.BB)=some (.next,s!"Dv".abs,Hd.cE PySem.Challenge.pw_sawsign_k67_whole_desk,Hd.P0):=fun _ _=>by kernel_rfl
theorem My.hl1:∀w os,Fast.lk1Q PySem.Challenge.pw_sawsign_k67_whole_desk My.view 12000 ⟨551,0,575,111⟩ w (boot_heap w.params) (Hd.T0 PySem.Challenge.pw_sawsign_k67_whole_desk w os)=(some (.next,Hd.cE PySem.Challenge.pw_sawsign_k67_whole_desk,⟨551,0,575,111⟩),some ((true,plainGoodE My.view (looseW My.view [])),pinGoodD (drecsOf My.view),plainGoodD My.view [],clsGoodW My.view [])):=fun _ _=>by kernel_rfl
theorem My.hl3:∀w os,Fast.lk3Q PySem.Challenge.pw_sawsign_k67_whole_desk My.view 12000 ⟨551,0,575,111⟩ w (Hd.T0 PySem.Challenge.pw_sawsign_k67_whole_desk w os)=some (true,wideGood My.view):=fun _ _=>by kernel_rfl
theorem My.hl4:∀w os,Fast.lk4Q PySem.Challenge.pw_sawsign_k67_whole_desk My.view (RowW.records (OpenRow.toRowW (OpenLaw.row PySem.Challenge.rw_sawsign_k67_whole_desk))) 12000 ⟨551,0,575,111⟩ w (Hd.T0 PySem.Challenge.pw_sawsign_k67_whole_desk w os)=some ((bltViewBooted,true),expectedOf My.view):=fun _ _=>by kernel_rfl
theorem My.ews:OpenLaw.wellSaid=OpenLaw.wellSaid:=rfl
name_quick wsQ for OpenLaw.wellSaid by My.ews
theorem My.hs:Fast.wsQ PySem.Challenge.rw_sawsign_k67_whole_desk=true:=by kernel_rfl
local macro_rules | `(tactic| o_law) => `(tactic| refine holds_law ((congrFun Fast.wsQ_eq PySem.Challenge.rw_sawsign_k67_whole_desk).trans My.hs) fun said => ?_)
local macro_rules | `(tactic| o_head $H:term) => `(tactic| (
  refine holds_open (q := My.view) (loose := []) (Xt := fun s => xlAt My.view [] s && recOk (RowW.records (OpenRow.toRowW (OpenLaw.row PySem.Challenge.rw_sawsign_k67_whole_desk))) s) (XP := XL My.view []) (Yf := Hook.obs $H) (Ya := Hook.val $H) (YP := Hook.says $H) (N := 13000) ?hl (Hook.of $H) (Hook.keeps $H) (fun s e => xl_of s (Bool.and_eq_true_iff.mp e).1) XL.keeps (by rfl) (by rfl) (by rfl) (fun s e => recFacts_of (Bool.and_eq_true_iff.mp e).2) (by rfl) (by first | assumption | decide +kernel) (by decide +kernel) ⟨rfl, rfl, rfl, rfl, rfl, by decide +kernel⟩ ?hw ?hc
  (case hl => exact Hd.zgJ (n := 12000) (pos := ⟨551, 0, 575, 111⟩) Fast.lk1Q_eq Fast.lk3Q_eq Fast.lk4Q_eq Fast.finSQ_eq (by kernel_rfl) (by decide) (fun _ => by kernel_rfl) (by decide) My.h1 My.h2 My.hl1 My.hl3 My.hl4 (fun _ _ => by kernel_rfl))))
set_option maxHeartbeats 0 in
open_top hd for PySem.Challenge.rw_sawsign_k67_whole_desk
end
namespace L2
open PySem PySem.Spec PyProof.Rows
abbrev Key:=Sum Int Str
def zdS:Key->Value->Bool
 | .inl k,v=>Value.isInt k v
 | .inr x,v=>Value.isStrOf x v
def zsR (w:World):Key->Int
 | .inl k=>hashInt k
 | .inr x=>hashStr w x
theorem keyIs_shape:∀{k:Key} {v:Value},zdS k v=true->(∃i t,k=Sum.inl i/\v=Value.int i t)\/(∃x t,k=Sum.inr x/\v=Value.str x t)
 | .inl i,v,h=>by
  obtain ⟨t,e⟩:=Value.isInt_shape (k:=i) (v:=v) h;exact .inl ⟨i,t,rfl,e⟩
 | .inr x,v,h=>by
  obtain ⟨t,e⟩:=Value.isStrOf_shape (x:=x) (v:=v) h;exact .inr ⟨x,t,rfl,e⟩
theorem ziy (i:Int) (t:Tok):zdS s!"${i}" s!"Fx"=true:=by simp [zdS,Value.isInt]
theorem ziz (x:Str) (t:Tok):zdS s!"u{x}" (.str x t)=true:=by simp [zdS,Value.isStrOf]
theorem zpI (a b:Int):decide ((Sum.inl a:Key)=Sum.inl b)=(a==b):=by
 by_cases e:a=b
 ·subst e;simp
 ·have h:¬(Sum.inl a:Key)=Sum.inl b:=fun q=>e (Sum.inl.inj q)
  rw [decide_eq_false h];exact (beq_eq_false_iff_ne.mpr e).symm
theorem zpJ (a b:Str):decide ((Sum.inr a:Key)=Sum.inr b)=decide (a=b):=by
 by_cases e:a=b
 ·subst e;simp
 ·have h:¬(Sum.inr a:Key)=Sum.inr b:=fun q=>e (Sum.inr.inj q)
  rw [decide_eq_false h,decide_eq_false e]
theorem zpK (a:Int) (b:Str):decide ((Sum.inl a:Key)=Sum.inr b)=false:=decide_eq_false (fun q=>nomatch q)
theorem zpL (a:Str) (b:Int):decide ((Sum.inr a:Key)=Sum.inl b)=false:=decide_eq_false (fun q=>nomatch q)
def zA (prog:Program) (w:World):PySem.KeyKind prog w Key where
 is:=zdS
 hash:=zsR w
 inj:=fun v a b ha hb=>by
  rcases keyIs_shape ha with ⟨i,t,rfl,rfl⟩ | ⟨x,t,rfl,rfl⟩
  ·rcases keyIs_shape hb with ⟨j,u,rfl,e⟩ | ⟨y,u,rfl,e⟩
   ·injection e with e1 _;rw [e1]
   ·exact nomatch e
  ·rcases keyIs_shape hb with ⟨j,u,rfl,e⟩ | ⟨y,u,rfl,e⟩
   ·exact nomatch e
   ·injection e with e1 _;rw [e1]
 byValue:=fun k v h=>by
  rcases keyIs_shape h with ⟨i,t,rfl,rfl⟩ | ⟨x,t,rfl,rfl⟩ <;> rfl
 pyHash:=fun hv h=>by
  rcases keyIs_shape hv with ⟨i,t,rfl,rfl⟩ | ⟨x,t,rfl,rfl⟩
  ·exact wpAny_pyHash_int h
  ·exact wpAny_pyHash_str h
 eqBool:=fun hu hv h=>by
  rcases keyIs_shape hu with ⟨i,t,rfl,rfl⟩ | ⟨x,t,rfl,rfl⟩
  ·rcases keyIs_shape hv with ⟨j,u,rfl,rfl⟩ | ⟨y,u,rfl,rfl⟩
   ·rw [zpI] at h;exact wpAny_eqBool_int h
   ·rw [zpK] at h;exact SeqAt.EqAt.int_str i t y u _ _ _ _ h
  ·rcases keyIs_shape hv with ⟨j,u,rfl,rfl⟩ | ⟨y,u,rfl,rfl⟩
   ·rw [zpL] at h;exact SeqAt.EqAt.str_int x t j u _ _ _ _ h
   ·rw [zpJ] at h;exact wpAny_eqBool_str h
 «strs»:=fun k x t v h=>by
  rcases keyIs_shape h with ⟨i,u,rfl,e⟩ | ⟨y,u,rfl,e⟩
  ·exact nomatch e
  ·injection e with e1 _
   subst e1;cases v <;> rfl
theorem zfP (prog:Program) (w:World) (i:Int) (t:Tok):(zA prog w).is s!"${i}" s!"Fx"=true:=ziy i t
theorem zfQ (prog:Program) (w:World) (x:Str) (t:Tok):(zA prog w).is s!"u{x}" (.str x t)=true:=ziz x t
inductive V where
 | non | bl (b:Bool) | int (i:Int) | str (x:Str) | byt (b:Array UInt8) | flt (b:UInt64) | ref (a:Addr) | ty (n:String)
 deriving DecidableEq
def zj:V->Value->Prop
 | .non,u=>u=Value.none
 | .bl b,u=>u=Value.bool b
 | .int i,u=>∃t,u=Value.int i t
 | .str x,u=>∃t,u=Value.str x t
 | .byt b,u=>∃t,u=Value.bytes b t
 | .flt b,u=>∃t,u=Value.float b t
 | .ref a,u=>u=Value.ref a
 | .ty n,u=>u=Value.type n
abbrev zi:List V->List Value->Prop:=Paired zj
variable {xs:List V} {us:List Value}
theorem zi.length (r:zi xs us):xs.length=us.length:=Paired.length r
theorem zi.get:∀{xs:List V} {us:List Value} {i:Nat} {x:V},zi xs us->xs[i]? =some x->∃u,us[i]? =some u/\zj x u
 | _,_,_,_,.nil,e=>by simp at e
 | _,_,0,_,.cons r _,e=>by simp at e;subst e;exact ⟨_,rfl,r⟩
 | _,_,i+1,x,.cons _ t,e=>by
  obtain ⟨u,h1,h2⟩:=zi.get (i:=i) (x:=x) t (by simpa using e)
  exact ⟨u,by simpa using h1,h2⟩
variable {u:Value}
theorem zi.set {x:V} (r:zj x u):∀{xs:List V} {us:List Value} (i:Nat),zi xs us->zi (xs.set i x) (us.set i u)
 | _,_,_,.nil=>.nil
 | _,_,0,.cons _ t=>.cons r t
 | _,_,i+1,.cons q t=>.cons q (zi.set r i t)
theorem zi.append:∀{xs ys:List V} {us ws:List Value},zi xs us->zi ys ws->zi (xs++ys) (us++ws)
 | _,_,_,_,.nil,s=>s
 | _,_,_,_,.cons r t,s=>.cons r (zi.append t s)
theorem zi.take:∀{xs:List V} {us:List Value} (n:Nat),zi xs us->zi (xs.take n) (us.take n)
 | _,_,0,_=>.nil
 | _,_,_+1,.nil=>.nil
 | _,_,n+1,.cons r t=>.cons r (zi.take n t)
theorem zi.drop:∀{xs:List V} {us:List Value} (n:Nat),zi xs us->zi (xs.drop n) (us.drop n)
 | _,_,0,r=>r
 | _,_,_+1,.nil=>.nil
 | _,_,n+1,.cons _ t=>zi.drop n t
def xI:Option V->Option Value->Prop
 | some v,some u=>zj v u
 | none,none=>True
 | _,_=>False
def KV {κ:Type}:List (κ×V)->List (κ×Value)->Prop:=Paired fun (p:κ×V) (q:κ×Value)=>p.1=q.1/\zj p.2 q.2
def kV:Key->V
 | .inl i=>.int i
 | .inr x=>.str x
inductive HO where
 | lst (xs:List V)
 | tup (xs:List V)
 | dK (kvs:List (Key×V)) | dT (kvs:List (List Key×V))
 | set (S:Int->Bool) (n:Nat)
 | ins (C dx:Addr) (fs:List (Str×V))
 | own (x:Addr)
 | xd (fs:List (Str×V))
 | met (f x:Addr)
 | rng (lo hi:Int)
 | frz (o:Obj) (u:HO)
 | tbl (ps:Array Value)
 | ext (φ:Heap->Prop)
abbrev Hp:=Addr->Option HO
def upd (H:Hp) (a:Addr) (o:HO):Hp:=fun b=>if b=a then some o else H b
variable {H:Hp} {a:Addr}
theorem zb {o:HO}:upd H a o a=some o:=by unfold upd;rw [if_pos rfl]
variable {b:Addr}
theorem zd {o:HO} (h:b≠a):upd H a o b=H b:=by unfold upd;rw [if_neg h]
theorem wF {H:Hp} {o u:HO} (h:H a=some o) (h':H b=some u) (d:o≠u):a≠b:=by
 intro e;subst e;rw [h] at h';exact d s!"Hl"
theorem yh {o:HO} (h:H a=some o) (h':H b=none):a≠b:=by
 intro e;subst e;rw [h] at h';cases h'
section
variable (P:Program) (w:World)
def zu (H:Hp) (h:Heap) (a:Addr):HO->Prop
 | .lst xs=>xs.length<=sizeLine/\∃(its:List Value) (n:Nat),zi xs its/\h.get? a=some { cls:=.type "list",data:=.seq its.toArray n }
 | .tup xs=>xs.length<=sizeLine/\∃its:List Value,zi xs its/\IsTup h a its.toArray
 | .dK kvs=>kvs.length<=sizeLine/\(a==sysModules)=false/\∃vs,KV kvs vs/\h.DictOf s!"Cq" a vs
 | .dT kvs=>kvs.length<=sizeLine/\(a==sysModules)=false/\∃xs:List (List Key×Addr×Value),
  Paired (fun (p:List Key×V) (q:List Key×Addr×Value)=>p.1=q.1/\H q.2.1=some s!"0{p.1.map kV}"/\zj p.2 q.2.2) kvs xs/\
  ∃o es ep,h.get? a=some o/\o.ExactDict/\o.data=.dict es ep/\es.toList=xs.map (entryOfKey s!"Dw")/\(xs.map (·.1)).Nodup
 | .set S n=>h.SetOf (intKind P w) a S n
 | .ins C dx fs=>H dx=some s!"Dx"/\fs.length<=1000/\dx≠a/\h.get? a=some s!"Fy"/\
  ∃mA,h.Ns1 dx mA/\(∀f,xI s!"Fz" (mA f))/\PySem.Within mA (fs.map (·.1))
 | .own _=>∃o,h.get? a=some o
 | .xd fs=>∃mA,h.Ns1 a mA/\∀f,xI s!"Fz" (mA f)
 | .rng lo hi=>∃t u v,h.get? a=some { cls:=.type "range",data:=.fields #[.int lo t,.int hi u,.int 1 v] }
 | .frz o u=>h.get? a=some o/\zu H h a u
 | .tbl ps=>h.get? a=some { cls:=.none,data:=.fields ps }
 | .met f x=>h.get? a=some (PySem.W.methodObj s!"An" s!"A6")
 | .ext φ=>φ h/\(∃o,h.get? a=some o)/\∀h1 h2:Heap,φ h1->(∀o,h1.get? a=some o->h2.get? a=some o)->φ h2
def HOk (H:Hp) (h:Heap):Prop:=∀a o,H a=some o->zu P w H h a o
end
variable {P:Program} {w:World} {H':Hp} {h h':Heap}
section
variable {o:HO}
theorem zu.lt (x:zu P w H h a o):a<h.objs.size:=by
 cases o with
 | lst xs=>obtain ⟨_,_,_,_,e⟩:=x;exact Heap.lt_size e
 | tup xs=>obtain ⟨_,_,_,p⟩:=x;exact p.lt
 | dK kvs=>obtain ⟨_,_,_,_,o,_,_,e,_⟩:=x;exact Heap.lt_size e
 | dT kvs=>obtain ⟨_,_,_,_,o,_,_,e,_⟩:=x;exact Heap.lt_size e
 | set S n=>obtain ⟨o,_,_,_,e,_⟩:=x;exact Heap.lt_size e
 | ins C dx fs=>obtain ⟨_,_,_,e,_⟩:=x;exact Heap.lt_size e
 | own y=>obtain ⟨_,e⟩:=x;exact Heap.lt_size e
 | xd fs=>obtain ⟨_,⟨_,_,_,e,_⟩,_⟩:=x;exact Heap.lt_size e
 | rng lo hi=>obtain ⟨_,_,_,e⟩:=x;exact Heap.lt_size e
 | frz ob u=>obtain ⟨e,_⟩:=x;exact Heap.lt_size e
 | tbl ps=>exact Heap.lt_size (show h.get? a=some _ from x)
 | met f y=>exact Heap.lt_size (show h.get? a=some _ from x)
 | ext φ=>obtain ⟨_,⟨_,e⟩,_⟩:=x;exact Heap.lt_size e
theorem Paired.mapP {α β:Type} {F G:α->β->Prop}:∀{l₁:List α} {l₂:List β},Paired F l₁ l₂->(∀a b,F a b->G a b)->Paired G l₁ l₂
 | _,_,.nil,_=>.nil
 | _,_,.cons r t,f=>.cons (f _ _ r) (Paired.mapP t f)
theorem zu.stay (x:zu P w H h a o) (k:∀b u,(b=a\/H b=some s!"Dx")->h.get? b=some u->h'.get? b=some u)
 (ho:∀b,H b=some s!"Dx"->H' b=some s!"Dx") (ht:∀b xs,H b=some s!"6"->H' b=some s!"6"):zu P w H' h' a o:=by
 induction o with
 | lst xs=>obtain ⟨z,its,n,r,e⟩:=x;exact ⟨z,its,n,r,k _ _ s!"Aa" e⟩
 | tup xs=>obtain ⟨z,its,r,ob,e,c⟩:=x;exact ⟨z,its,r,ob,k _ _ s!"Aa" e,c⟩
 | dK kvs=>obtain ⟨z,y,vs,r,ob,es,ep,e,c⟩:=x;exact ⟨z,y,vs,r,ob,es,ep,k _ _ s!"Aa" e,c⟩
 | dT kvs=>
  obtain ⟨z,y,xs,r,ob,es,ep,e,c⟩:=x;exact ⟨z,y,xs,Paired.mapP r fun p q z=>⟨z.1,ht _ _ z.2.1,z.2.2⟩,ob,es,ep,k _ _ s!"Aa" e,c⟩
 | set S n=>obtain ⟨ob,es,ep,t,e,c⟩:=x;exact ⟨ob,es,ep,t,k _ _ s!"Aa" e,c⟩
 | ins C dx fs=>
  obtain ⟨d,z,ne,e,mA,⟨od,es,ep,e2,c⟩,r⟩:=x;exact ⟨ho _ d,z,ne,k _ _ s!"Aa" e,mA,⟨od,es,ep,k _ _ s!"u{d}" e2,c⟩,r⟩
 | own y=>obtain ⟨ob,e⟩:=x;exact ⟨ob,k _ _ s!"Aa" e⟩
 | xd fs=>obtain ⟨mA,⟨od,es,ep,e,c⟩,r⟩:=x;exact ⟨mA,⟨od,es,ep,k _ _ s!"Aa" e,c⟩,r⟩
 | rng lo hi=>obtain ⟨t,u,v,e⟩:=x;exact ⟨t,u,v,k _ _ s!"Aa" e⟩
 | frz ob u ih=>obtain ⟨e,q⟩:=x;exact ⟨k _ _ s!"Aa" e,ih q⟩
 | tbl ps=>
  have e:h.get? a=some { cls:=.none,data:=.fields ps }:=x;show h'.get? a=some { cls:=.none,data:=.fields ps };exact k a _ s!"Aa" e
 | met f y=>
  have e:h.get? a=some s!"Hm":=x;show h'.get? a=some s!"Hm";exact k a _ s!"Aa" e
 | ext φ=>obtain ⟨p,⟨o,e⟩,st⟩:=x;exact ⟨st _ _ p fun o q=>k _ _ s!"Aa" q,⟨o,k _ _ s!"Aa" e⟩,st⟩
theorem HOk.lt (x:HOk P w H h) (e:H a=some o):a<h.objs.size:=(x a o e).lt
theorem HOk.fresh (x:HOk P w H h) (e:h.objs.size<=a):H a=none:=by
 cases q:H a with
 | none=>rfl
 | some u=>exact absurd s!"Cm{x.lt q}{e}" s!"AT"
theorem HOk.kept (x:HOk P w H h) (k:∀b u,h.get? b=some u->h'.get? b=some u):HOk P w H h':=fun a o e=>
 (x a o e).stay (fun b u _ q=>k b u q) (fun _ q=>q) fun _ _ q=>q
theorem HOk.laid (x:HOk P w H h) (k:∀b u,h.get? b=some u->h'.get? b=some u) (hp:h.objs.size<=a) (new:zu P w s!"Cr" h' a o):HOk P w s!"Cr" h':=fun b u e=>by
 have hn:=x.fresh hp
 by_cases hb:b=a
 ·subst hb;rw [zb] at e;cases e;exact new
 ·rw [zd hb] at e;exact (x b u e).stay (fun c v _ q=>k c v q) (fun c q=>by rw [zd s!"Dy"];exact q) fun c xs q=>by rw [zd s!"Dy"];exact q
end
def Rd (H:Hp) (a:Addr) (u:HO):Prop:=H a=some u\/∃o,H a=some s!"Dz"
theorem Rd.ok {u:HO} (r:Rd H a u) (x:HOk P w H h):zu P w H h a u:=by
 rcases r with r | ⟨o,r⟩
 ·exact x a u r
 ·obtain ⟨_,q⟩:=x a _ r;exact q
def Mut:Option HO->Prop
 | some s!"q{_}"=>True
 | some (.dK _)=>True
 | some (.dT _)=>True
 | some (.set _ _)=>True
 | some (.ins _ _ _)=>True
 | some (.ext _)=>True
 | _=>False
section
variable {x e:Addr} {o':HO}
theorem HOk.write (ok:HOk P w H h) (mu:Mut (H x)) (he:e=x\/H e=some s!"C)") (k:∀b u,b≠e->h.get? b=some u->h'.get? b=some u) (heo:∃u,h'.get? e=some u)
 (new:zu P w s!".{x}{o'}" h' x o'):HOk P w s!".{x}{o'}" h':=fun b u q=>by
 have nown:∀c y,H c=some (.own y)->c≠x:=fun c y r z=>by subst z;rw [r] at mu;exact mu
 have ntup:∀c xs,H c=some s!"6"->c≠x:=fun c xs r z=>by subst z;rw [r] at mu;exact mu
 by_cases hb:b=x
 ·subst hb;rw [zb] at q;cases q;exact new
 ·rw [zd hb] at q
  by_cases hbe:b=e
  ·have q':H b=some s!"C)":=by
    rcases he with z | z
    ·exact absurd (hbe.trans z) hb
    ·rw [hbe];exact z
   rw [q] at q';cases q';obtain ⟨v,hv⟩:=heo;exact ⟨v,by rw [hbe];exact hv⟩
  ·refine (ok b u q).stay (fun c v hc r=>k c v ?_ r) (fun c r=>by rw [zd (nown c b r)];exact r) fun c xs r=>by rw [zd (ntup c xs r)];exact r
   rcases hc with rfl | hc
   ·exact hbe
   ·rintro rfl;rcases he with z | z
    ·exact nown c b hc z
    ·rw [hc] at z;cases z;exact hb rfl
end
structure Un (fs ex:List Addr) (H H':Hp) (h h':Heap):Prop where
 keep:∀b o,h.get? b=some o->H b=none->b∉fs->b∉ex->h'.get? b=some o
 slot:∀b o,h.get? b=some o->H b=none->b∈fs->b∉ex->∃sl,h'.get? b=some { o with slots:=sl }
 free:∀b o,h.get? b=some o->H b=none->b∉ex->H' b=none
 there:∀b o,h.get? b=some o->b∉ex->∃o',h'.get? b=some o'
 tups:∀b xs,H b=some s!"6"->H' b=some s!"6"
 frzs:∀b o u,H b=some s!"Dz"->H' b=some s!"Dz"
 tbls:∀b ps,H b=some (.tbl ps)->∃more,H' b=some (.tbl (ps++more))
section
variable {fs fs' ex ex':List Addr} {H1 H2:Hp} {h1 h2:Heap} {x e:Addr} {o:HO}
theorem Un.any (u:Un fs ex H H1 h h1) {ob:Obj} (q:h.get? b=some ob) (n:H b=none) (hx:b∉ex):∃sl,h1.get? b=some { ob with slots:=sl }:=by
 by_cases hb:b∈fs
 ·exact u.slot b ob q n hb hx
 ·exact ⟨ob.slots,u.keep b ob q n hb hx⟩
theorem Un.kept (k:∀b u,h.get? b=some u->h'.get? b=some u):Un fs ex H H h h':=
 ⟨fun b ob q _ _ _=>k b ob q,fun b ob q _ _ _=>⟨ob.slots,k b ob q⟩,fun _ _ _ n _=>n,fun b ob q _=>⟨ob,k b ob q⟩,fun _ _ q=>q,fun _ _ _ q=>q,fun _ ps q=>⟨#[],by rw [q];simp⟩⟩
theorem Un.refl:Un fs ex H H h h:=Un.kept fun _ _ q=>q
theorem Un.laid (k:∀b u,h.get? b=some u->h'.get? b=some u) (hp:h.objs.size<=a) (hn:H a=none):Un fs ex H s!"Cr" h h' where
 keep:=fun b u q _ _ _=>k b u q
 slot:=fun b u q _ _ _=>⟨u.slots,k b u q⟩
 free:=fun b u q n _=>by rw [zd s!"A2CmAK{q}{hp}"];exact n
 there:=fun b u q _=>⟨u,k b u q⟩
 tups:=fun b xs q=>by rw [zd s!"Dy"];exact q
 frzs:=fun b u xs q=>by rw [zd s!"Dy"];exact q
 tbls:=fun b ps q=>⟨#[],by rw [zd s!"Dy",q];simp⟩
theorem Un.write (mu:Mut (H x)) (he:e=x\/H e=some s!"C)") (k:∀b u,b≠e->h.get? b=some u->h'.get? b=some u) (heo:∃u,h'.get? e=some u):Un fs ex H s!"F0" h h':=by
 have hx:∀b,H b=none->b≠x:=fun b n z=>by subst z;rw [n] at mu;exact mu
 have hb:∀b,H b=none->b≠e:=fun b n z=>by
  subst z;rcases he with r | r
  ·exact hx b n r
  ·rw [n] at r;cases r
 have hm:∀b u,H b=some u->¬Mut s!"r{u}"->b≠x:=fun b u q nm z=>by subst z;rw [q] at mu;exact nm mu
 refine ⟨fun b u q n _ _=>k b u (hb b n) q,fun b u q n _ _=>⟨u.slots,k b u (hb b n) q⟩,fun b u q n _=>by rw [zd (hx b n)];exact n,fun b u q _=>?_,
  fun b xs q=>by rw [zd (hm b _ q fun z=>z)];exact q,fun b u xs q=>by rw [zd (hm b _ q fun z=>z)];exact q,fun b ps q=>⟨#[],by rw [zd (hm b _ q fun z=>z),q];simp⟩⟩
 by_cases hbe:b=e
 ·subst hbe;exact heo
 ·exact ⟨u,k b u hbe q⟩
end
def trk (h:Heap) (H:Hp):List Addr:=s!"Hn".filter fun a=>(H a).isSome
def zeM (h:Heap) (H:Hp):Heap:=PySem.W.hideAll h (trk h H)
theorem ziA (h:Heap) (H:Hp):s!"DZ".objs.size=h.objs.size:=PySem.W.hideAll_size _ _
variable {o:Obj}
theorem zjP (e:h.get? b=some o) (n:H b=none):s!"DZ".get? b=some o:=
 PySem.W.hideAll_get _ e fun hm=>by
  have q:(H b).isSome=true:=(List.mem_filter.mp hm).2;rw [n] at q;simp at q
theorem zmv (e:s!"DZ".get? b=some o):h.get? b=some o/\H b=none:=by
 have e':h.get? b=some o:=PySem.W.of_hideAll (trk h H) e;refine ⟨e',?_⟩;cases q:H b with
 | none=>rfl
 | some x=>
  have hm:b∈trk h H:=List.mem_filter.mpr ⟨List.mem_range.mpr s!"AK{e'}",by simp [q]⟩
  have z:s!"DZ".get? b=none:=PySem.W.hideAll_none (trk h H) hm;rw [z] at e;cases e
def zmw (g h:Heap) (L:Addr):List (Addr×Obj):=s!"Hn".filterMap fun a=>if a=L\/(g.get? a).isSome=true then none else (h.get? a).map fun o=>(a,o)
def rest (g h:Heap) (L d:Addr):List (Addr×Obj):=(zmw g h L).filter fun p=>decide (p.1≠d)
structure Mod (K:PySem.W.Frag) (mg:Str->Option Value) (base:Heap):Prop where
 kin:K.In base
 glob:base.Ns mainGlobals mg
 blt:∃mb,base.Ns builtinsNs mb/\∀x:Str,x≠"__name__"->mb x=bootBuiltins x
 nolimit:base.NoLimit
structure Cx where
 prog:Program
 w:World
 K:PySem.W.Frag
 mg:Str->Option Value
 base:Heap
 A:Around
 N:List Str
 s₀:Shared
 H₀:Hp
 env:Env
 outer:List Env
 stack:List Env
 ex:List Addr
 fn:Str->Bool
 calm:Bool
 pn:List (Addr×Obj)
 xe:Value->Shared->Prop
def frs (l:List Env):List Addr:=l.filterMap (·.frame)
abbrev Cx.fs (X:Cx):List Addr:=frs X.outer
def Vis (sc:Scope) (x:Str):Prop:=sc.names.lookup x=some .local\/sc.names.lookup x=some .cell\/sc.names.lookup x=some .free
def Loc (sc:Scope) (x:Str):Prop:=sc.names.lookup x=some .local\/sc.names.lookup x=some .cell
def zsS (env:Env) (h:Heap) (m:Str->Option Value) (x:Str) (u:Value):Prop:=
 (env.kindOf x=some .local/\m x=some u)\/((env.kindOf x=some .cell\/env.kindOf x=some .free)/\∃c,env.cells.lookup x=some c/\h.IsCell c s!"r{u}")
structure Cx.Ok (X:Cx):Prop where
 mod:Mod X.K X.mg X.base
 kind:X.env.scope.kind=.function
 glob:X.env.globals=mainGlobals
 blt:X.env.builtins=builtinsNs
 above:X.s₀.heap.objs.size<=X.env.locals
 inj:∀x y c,X.env.cells.lookup x=some c->X.env.cells.lookup y=some c->x=y
 has:∀x,(X.env.kindOf x=some .cell\/X.env.kindOf x=some .free)->∃c,X.env.cells.lookup x=some c
 cab:∀x c,X.fn x=true->X.env.cells.lookup x=some c->X.s₀.heap.objs.size<=c
 hd:X.calm=true->X.A.handled=none
 frames:X.A.frames=some X.stack
 stk:X.stack=X.outer\/(X.stack=X.env::X.outer/\X.env.frame=some X.env.locals)
 exf:∀b∈X.ex,b≠X.env.locals/\∀x c,X.env.cells.lookup x=some c->c≠b
 bs:∀b o,X.base.get? b=some o->X.s₀.heap.get? b=some o/\X.H₀ b=none
 bsz:X.base.objs.size<=X.s₀.heap.objs.size
 noex:∀b o,X.base.get? b=some o->b∉X.ex
 exfs:∀b∈X.ex,b∉X.fs
 funs:X.s₀.heap.FunFrames X.base X.outer
 frf:∀b∈X.fs,X.H₀ b=none
structure Inv (X:Cx) (pins:List (Addr×Obj)) (σ:List (Option V)) (H:Hp) (s:Shared):Prop where
 ok:X.Ok
 os:s.os=X.s₀.os
 bare:AllBare s.gens
 base:Un X.fs X.ex X.H₀ H X.s₀.heap s.heap
 loc:∃m,s.heap.Ns X.env.locals m/\∀(i:Nat) (x:Str) (v:V),X.N[i]? =some x->σ[i]? =some s!"Ai"->Vis X.env.scope x->∃u,zj v u/\zsS X.env s.heap m x u
 cell:∀x c,X.env.cells.lookup x=some c->∃v,s.heap.IsCell c v
 free:H X.env.locals=none
 freeC:∀x c,X.env.cells.lookup x=some c->H c=none
 pin:∀p∈X.pn++pins,s.heap.get? p.1=some p.2/\H p.1=none/\p.1≠X.env.locals/\p.1∉X.fs/\∀v,p.2.data≠.cell v
 hok:HOk X.prog X.w H s.heap
 len:σ.length=X.N.length
variable {X:Cx} {pins:List (Addr×Obj)} {s:Shared} {E:Value->Shared->Prop} {A:Around} {x:Str} {it:Addr} {N:List Str} {i:Nat} {M:Model}
section
variable {σ:List (Option V)}
theorem Cx.Ok.nofr (ok:X.Ok) (e:X.base.get? b=some o):b∉X.fs:=fun hb=>by
 have:=(ok.funs.mem hb).1;rw [e] at this;cases this
theorem Inv.bs (I:Inv X pins σ H s):∀b o,X.base.get? b=some o->s.heap.get? b=some o/\H b=none:=fun b o e=>
 ⟨I.base.keep b o s!"Ea".1 s!"Ea".2 (I.ok.nofr e) s!"Ho",I.base.free b o s!"Ea".1 s!"Ea".2 s!"Ho"⟩
theorem Inv.bk (I:Inv X pins σ H s):∀b o,X.base.get? b=some o->s.heap.get? b=some o:=fun b o e=>(I.bs b o e).1
theorem Inv.mod (I:Inv X pins σ H s):Mod X.K X.mg X.base:=I.ok.mod
theorem Inv.kIn (I:Inv X pins σ H s):X.K.In s.heap:=I.ok.mod.kin.keeps I.bk
theorem Inv.fr (I:Inv X pins σ H s):∃m,Fr X.base X.env.locals s.heap m:=
 let ⟨m,hn,_⟩:=I.loc
 ⟨m,hn,I.bk,Nat.le_trans I.ok.bsz I.ok.above⟩
theorem Inv.lt (I:Inv X pins σ H s):X.env.locals<s.heap.objs.size:=let ⟨_,hn,_⟩:=I.loc;hn.lt
theorem Inv.sz (I:Inv X pins σ H s):X.s₀.heap.objs.size<=s.heap.objs.size:=Nat.le_trans I.ok.above s!"B6{I.lt}"
theorem Inv.nofs (I:Inv X pins σ H s) (h:s.heap.objs.size<=a):a∉X.fs:=fun hb=>by
 obtain ⟨_,o,ho,_⟩:=I.ok.funs.mem hb;exact absurd s!"CmAK{ho}B7{I.sz}{h}" s!"AT"
theorem Inv.cne (I:Inv X pins σ H s):∀x c,X.env.cells.lookup x=some c->c≠X.env.locals:=fun x c e z=>by
 obtain ⟨v,o,ho,hd⟩:=I.cell x c e;obtain ⟨m,⟨o',es,ep,ho',hd',_⟩,_⟩:=I.loc;rw [z,ho'] at ho;cases ho;rw [hd'] at hd;cases hd
theorem Inv.funs (I:Inv X pins σ H s):s.heap.FunFrames X.base X.outer:=by
 have all:∀(l:List Env),(∀b∈frs l,b∈X.fs)->X.s₀.heap.FunFrames X.base l->s.heap.FunFrames X.base l:=by
  intro l
  induction l with
  | nil=>intro _ _;trivial
  | cons env r ih=>
   intro hs hl;obtain ⟨hk,⟨L,o,hf,hn,ho,hd⟩,hr⟩:=hl;have hL:L∈X.fs:=hs L (by unfold frs;rw [List.filterMap_cons,hf];exact List.mem_cons_self)
   obtain ⟨sl,e⟩:=I.base.slot L o ho (I.ok.frf L hL) hL fun z=>I.ok.exfs L z hL
   exact ⟨hk,⟨L,_,hf,hn,e,hd⟩,ih (fun b hb=>hs b (by unfold frs;rw [List.filterMap_cons,hf];exact List.mem_cons_of_mem _ hb)) hr⟩
 exact all X.outer (fun _ hb=>hb) I.ok.funs
theorem Inv.stack (I:Inv X pins σ H s):s.heap.FunFrames X.base X.stack:=by
 rcases I.ok.stk with e | ⟨e,hf⟩
 ·rw [e];exact I.funs
 ·rw [e];obtain ⟨m,hn,_⟩:=I.loc;refine .cons (by rw [I.ok.kind];decide) hf hn ?_ I.funs
  exact Heap.get?_none_of_le s!"B7{I.ok.bsz}{I.ok.above}"
theorem Inv.stkSub (I:Inv X pins σ H s):∀b∈frs X.stack,b∈X.env.locals::X.fs:=fun b hb=>by
 rcases I.ok.stk with e | ⟨e,hf⟩
 ·rw [e] at hb;exact List.mem_cons_of_mem _ hb
 ·rw [e] at hb;unfold frs at hb;rw [List.filterMap_cons,hf] at hb;exact hb
theorem Inv.stkFree (I:Inv X pins σ H s):∀b∈frs X.stack,H b=none:=fun b hb=>by
 rcases List.mem_cons.mp (I.stkSub b hb) with e | hb
 ·rw [e];exact I.free
 ·obtain ⟨_,o,ho,_⟩:=I.ok.funs.mem hb;exact I.base.free b o ho (I.ok.frf b hb) fun z=>I.ok.exfs b z hb
theorem Inv.step {g':Array GenState} {t':Nat} {d':Drawn} {ch:List Addr} (I:Inv X pins σ H s)
 (hch:∀b∈ch,(b∈X.ex\/X.s₀.heap.objs.size<=b)/\b≠X.env.locals/\(∀x c,X.env.cells.lookup x=some c->c≠b)/\∀p∈X.pn++pins,p.1≠b)
 (keep:∀b o,b≠X.env.locals->b∉X.fs->b∉ch->s.heap.get? b=some o->H b=none->h'.get? b=some o)
 (slot:∀b o,b≠X.env.locals->b∈X.fs->b∉ch->s.heap.get? b=some o->H b=none->∃sl,h'.get? b=some { o with slots:=sl }) (free:∀b o,b∉ch->s.heap.get? b=some o->H b=none->H' b=none)
 (there:∀b o,b∉ch->s.heap.get? b=some o->∃o',h'.get? b=some o')
 (tups:∀b xs,H b=some s!"6"->H' b=some s!"6") (frzs:∀b o u,H b=some s!"Dz"->H' b=some s!"Dz") (tbls:∀b ps,H b=some (.tbl ps)->∃more,H' b=some (.tbl (ps++more)))
 (ns:∀m,s.heap.Ns X.env.locals m->h'.Ns X.env.locals m) (hok:HOk X.prog X.w H' h') (hg:AllBare g'):
 Inv X pins σ H' { s with heap:=h',gens:=g',drawn:=d',toks:=t' }:=by
 have neL:∀b o,X.s₀.heap.get? b=some o->b≠X.env.locals:=fun b o e=>Nat.ne_of_lt s!"D0"
 have neC:∀b o,X.s₀.heap.get? b=some o->b∉X.ex->b∉ch:=fun b o e hx hb=>by
  rcases (hch b hb).1 with z | z
  ·exact hx z
  ·exact absurd (Nat.lt_of_lt_of_le s!"AU" z) s!"AT"
 have cellK:∀x c,X.env.cells.lookup x=some c->∀v,s.heap.IsCell c v->h'.IsCell c v:=fun x c e v ⟨o,ho,hd⟩=>by
  have nch:c∉ch:=fun z=>(hch c z).2.2.1 x c e rfl
  by_cases hc:c∈X.fs
  ·obtain ⟨sl,q⟩:=slot c o (I.cne x c e) hc nch ho s!"F1";exact ⟨_,q,hd⟩
  ·exact ⟨o,keep c o (I.cne x c e) hc nch ho s!"F1",hd⟩
 refine ⟨I.ok,I.os,hg,⟨fun b o e n hb hx=>?_,fun b o e n hb hx=>?_,fun b o e n hx=>?_,fun b o e hx=>?_,fun b xs e=>tups b xs (I.base.tups b xs e),fun b o xs e=>frzs b o xs (I.base.frzs b o xs e),fun b ps e=>?_⟩,?_,fun x c e=>?_,?_,fun x c e=>?_,fun p hp=>?_,hok,I.len⟩
 ·exact keep b o (neL b o e) hb s!"Eb" s!"F2" s!"F3"
 ·obtain ⟨sl,e1⟩:=I.base.slot b o e n hb hx;obtain ⟨sl',e2⟩:=slot b _ (neL b o e) hb s!"Eb" e1 s!"F3";exact ⟨sl',e2⟩
 ·obtain ⟨o',e1⟩:=I.base.there b o e hx;exact free b o' s!"Eb" e1 s!"F3"
 ·obtain ⟨o',e1⟩:=I.base.there b o e hx;exact there b o' s!"Eb" e1
 ·obtain ⟨m1,e1⟩:=I.base.tbls b ps e;obtain ⟨m2,e2⟩:=tbls b _ e1;exact ⟨m1++m2,by rw [e2,Array.append_assoc]⟩
 ·obtain ⟨m,hn,hl⟩:=I.loc;refine ⟨m,ns m hn,fun i x v e1 e2 e3=>?_⟩
  obtain ⟨u,r,l⟩:=hl i x v e1 e2 e3;refine ⟨u,r,?_⟩;rcases l with l | ⟨k,c,e,z⟩
  ·exact .inl l
  ·exact .inr ⟨k,c,e,cellK x c e _ z⟩
 ·obtain ⟨v,z⟩:=I.cell x c e;exact ⟨v,cellK x c e v z⟩
 ·obtain ⟨m,⟨o,_,_,ho,_⟩,_⟩:=I.loc;exact free _ o (fun z=>(hch _ z).2.1 rfl) ho I.free
 ·obtain ⟨v,o,ho,hd⟩:=I.cell x c e;exact free c o (fun z=>(hch c z).2.2.1 x c e rfl) ho s!"F1"
 ·obtain ⟨e,n,ne,nf,d⟩:=I.pin p hp;have nch:p.1∉ch:=fun z=>(hch p.1 z).2.2.2 p hp rfl
  exact ⟨keep p.1 p.2 ne nf nch e n,free p.1 p.2 nch e n,ne,nf,d⟩
theorem Inv.un {t':Nat} (I:Inv X pins σ H s) (u:Un X.fs [] H H' s.heap h') (hok:HOk X.prog X.w H' h'):Inv X pins σ H' { s with heap:=h',toks:=t' }:=by
 obtain ⟨m,⟨o,es,ep,ho,r⟩,_⟩:=id I.loc;obtain ⟨sl,hL⟩:=u.any ho I.free s!"j"
 exact I.step (g':=s.gens) (d':=s.drawn) (ch:=[]) (fun _ z=>nomatch z) (fun b o _ hb _ e n=>u.keep b o e n hb (by simp)) (fun b o _ hb _ e n=>u.slot b o e n hb (by simp)) (fun b o _ e n=>u.free b o e n (by simp)) (fun b o _ e=>u.there b o e (by simp)) u.tups u.frzs u.tbls (fun m' hm=>by
  obtain ⟨o',es',ep',ho',r'⟩:=hm;rw [ho] at ho';cases ho';exact ⟨_,es',ep',hL,r'⟩) hok I.bare
theorem Inv.call {g':Array GenState} {t':Nat} {d':Drawn} {ch:List Addr} (I:Inv X pins σ H s) (u:Un s!"AB" ch H H' s.heap h') (hok:HOk X.prog X.w H' h') (hg:AllBare g')
 (hch:∀b∈ch,(b∈X.ex\/X.s₀.heap.objs.size<=b)/\b≠X.env.locals/\(∀x c,X.env.cells.lookup x=some c->c≠b)/\∀p∈X.pn++pins,p.1≠b):
 Inv X pins σ H' { s with heap:=h',gens:=g',drawn:=d',toks:=t' }:=by
 obtain ⟨m,⟨o,es,ep,ho,r⟩,_⟩:=id I.loc;obtain ⟨sl,hL⟩:=u.any ho I.free fun z=>(hch _ z).2.1 rfl
 exact I.step (ch:=ch) hch (fun b o hL hb hc e n=>u.keep b o e n (fun z=>(List.mem_cons.mp (I.stkSub b z)).elim hL hb) hc) (fun b o _ _ hc e n=>u.any e n hc) (fun b o hc e n=>u.free b o e n hc) (fun b o hc e=>u.there b o e hc) u.tups u.frzs u.tbls (fun m' hm=>by
  obtain ⟨o',es',ep',ho',r'⟩:=hm;rw [ho] at ho';cases ho';exact ⟨_,es',ep',hL,r'⟩) hok hg
theorem Inv.turned {t':Nat} (I:Inv X pins σ H s) (k:∀b o,b≠it->s.heap.get? b=some o->h'.get? b=some o) (hn:H it=none) (hL:it≠X.env.locals)
 (h1:it∈X.ex\/X.s₀.heap.objs.size<=it) (h2:∀x c,X.env.cells.lookup x=some c->c≠it) (h3:∀p∈X.pn++pins,p.1≠it):Inv X pins σ H { s with heap:=h',toks:=t' }:=by
 have nit:∀b u,H b=some u->b≠it:=fun b u e z=>by rw [z,hn] at e;cases e
 refine I.step (g':=s.gens) (d':=s.drawn) (ch:=[it]) (fun b hb=>?_) (fun b o _ _ hc e _=>k b o (fun z=>hc (by simp [z])) e) (fun b o _ _ hc e _=>⟨o.slots,k b o (fun z=>hc (by simp [z])) e⟩) (fun _ _ _ _ n=>n)
  (fun b o hc e=>⟨o,k b o (fun z=>hc (by simp [z])) e⟩) (fun _ _ e=>e) (fun _ _ _ e=>e) (fun b ps e=>⟨#[],by rw [e];simp⟩) (fun m hm=>?_) (fun b u e=>?_) I.bare
 ·have e:b=it:=by simpa using hb
  subst e;exact ⟨h1,hL,h2,h3⟩
 ·obtain ⟨o,es,ep,ho,r⟩:=hm;exact ⟨o,es,ep,k _ o s!"Bl{hL}" ho,r⟩
 ·refine (I.hok b u e).stay (fun c v hc q=>k c v ?_ q) (fun _ q=>q) fun _ _ q=>q
  rcases hc with z | z
  ·rw [z];exact nit b u e
  ·exact nit c _ z
theorem Inv.tok (I:Inv X pins σ H s) (t:Nat):Inv X pins σ H { s with toks:=t }:=I.un (h':=s.heap) (t':=t) Un.refl I.hok
theorem Inv.kept {t':Nat} (I:Inv X pins σ H s) (k:∀b u,s.heap.get? b=some u->h'.get? b=some u):Inv X pins σ H { s with heap:=h',toks:=t' }:=I.un (Un.kept k) (I.hok.kept k)
theorem Inv.laid {a:Addr} {o:HO} {t':Nat} (I:Inv X pins σ H s) (k:∀b u,s.heap.get? b=some u->h'.get? b=some u) (hp:s.heap.objs.size<=a) (new:zu X.prog X.w s!"Cr" h' a o):
 Inv X pins σ s!"Cr" { s with heap:=h',toks:=t' }:=I.un (Un.laid k hp (I.hok.fresh hp)) (I.hok.laid k hp new)
theorem Inv.write {x e:Addr} {o:HO} {t':Nat} (I:Inv X pins σ H s) (mu:Mut (H x)) (he:e=x\/H e=some s!"C)") (k:∀b u,b≠e->s.heap.get? b=some u->h'.get? b=some u) (heo:∃u,h'.get? e=some u)
 (new:zu X.prog X.w s!"F0" h' x o):Inv X pins σ s!"F0" { s with heap:=h',toks:=t' }:=I.un (Un.write mu he k heo) (I.hok.write mu he k heo new)
theorem Inv.pins_of {pins':List (Addr×Obj)} (I:Inv X pins σ H s) (h:∀p∈pins',s.heap.get? p.1=some p.2/\H p.1=none/\p.1≠X.env.locals/\p.1∉X.fs/\∀v,p.2.data≠.cell v):Inv X pins' σ H s:=
 ⟨I.ok,I.os,I.bare,I.base,I.loc,I.cell,I.free,I.freeC,fun p hp=>s!"Hp".elim (fun z=>I.pin p s!"Hq") (h p),I.hok,I.len⟩
theorem zcR (hN:N.Nodup) {j:Nat} (a:N[i]? =some x) (b:N[j]? =some x):i=j:=by
 obtain ⟨h1,e1⟩:=List.getElem?_eq_some_iff.mp a;obtain ⟨h2,e2⟩:=List.getElem?_eq_some_iff.mp b;exact (List.getElem_inj hN).mp (e1.trans e2.symm)
theorem zdT {v:V} {Q:Unit->Shared->Prop} (I:Inv X pins σ H s) (hN:X.N.Nodup) (hi:X.N[i]? =some x) (hx:Loc X.env.scope x) (r:zj v u)
 (h:∀s',Inv X pins (σ.set i s!"Ai") H s'->(∃a,Heap.SameBut a s.heap s'.heap/\(a=X.env.locals\/X.env.cells.lookup x=some a))->Q () s') (hf:X.fn x=true\/X.env.scope.names.lookup x=some .local:=by first | exact .inl rfl | exact .inr rfl | assumption):wpAny M A s!"Hr" Q E s:=by
 obtain ⟨m,hn,hl⟩:=id I.loc;have hcls:(X.env.scope.kind==.class || (X.env.scope.kind==.module && X.env.locals !=X.env.globals))=false:=by rw [I.ok.kind];rfl
 have hiσ:i<σ.length:=by rw [I.len];exact s!"C[".1
 have cne:=I.cne;have tracked:∀{a:Addr} {h':Heap},(∃o,s.heap.get? a=some o/\H a=none)->Heap.SameBut a s.heap h'->HOk X.prog X.w H h':=fun {a h'} ha hs b ob e=>by
  obtain ⟨_,_,hfree⟩:=ha;refine (I.hok b ob e).stay (fun c w' hc q=>(hs.2 c ?_).trans q) (fun _ q=>q) fun _ _ q=>q
  rintro rfl;rcases hc with rfl | hc
  ·rw [hfree] at e;cases e
  ·rw [hfree] at hc;cases hc
 rcases hx with hk | hk
 ·refine wpAny_storeName_local hk hn (fun h' hn' hs=>?_) hcls
  obtain ⟨oL,_,_,hoL,_⟩:=id hn;refine h _ ⟨I.ok,I.os,I.bare,⟨fun b o e n hb hx=>?_,fun b o e n hb hx=>?_,I.base.free,fun b o e hx=>?_,I.base.tups,I.base.frzs,I.base.tbls⟩,⟨_,hn',fun j y v' e1 e2 e3=>?_⟩,fun y c e=>?_,I.free,I.freeC,fun p hp=>?_,tracked ⟨oL,hoL,I.free⟩ hs,by simpa using I.len⟩ ⟨_,hs,.inl rfl⟩
  ·exact (hs.2 b s!"A2D0").trans s!"F2"
  ·obtain ⟨sl,e1⟩:=I.base.slot b o e n hb hx;exact ⟨sl,(hs.2 b s!"A2D0").trans e1⟩
  ·obtain ⟨o',e1⟩:=I.base.there b o e hx;exact ⟨o',(hs.2 b s!"A2D0").trans e1⟩
  ·by_cases hj:j=i
   ·subst hj;rw [hi] at e1;cases e1;rw [List.getElem?_set_self hiσ] at e2;cases e2;exact ⟨u,r,.inl ⟨hk,by simp⟩⟩
   ·rw [List.getElem?_set_ne s!"F4"] at e2;obtain ⟨u',r',q⟩:=hl j y v' e1 e2 e3;refine ⟨u',r',?_⟩;rcases q with ⟨k,e⟩ | ⟨k,c,e,z⟩
    ·refine .inl ⟨k,?_⟩;have:y≠x:=fun e=>hj (zcR hN e1 (e▸hi))
     simp [this,e]
    ·exact .inr ⟨k,c,e,z.sameBut hs (cne y c e)⟩
  ·obtain ⟨w',z⟩:=I.cell y c e;exact ⟨w',z.sameBut hs (cne y c e)⟩
  ·obtain ⟨e,n,ne,nf,d⟩:=I.pin p hp;exact ⟨(hs.2 p.1 ne).trans e,n,ne,nf,d⟩
 ·have hfn:X.fn x=true:=by
   rcases hf with z | z
   ·exact z
   ·rw [z] at hk;cases hk
  obtain ⟨c,hc⟩:=I.ok.has x s!"${hk}";obtain ⟨w',z⟩:=I.cell x c hc;refine wpAny_storeName_cell I.ok.kind hk hc z (fun h' hc' hs=>?_)
  obtain ⟨oc,hoc,hocd⟩:=id z;refine h { s with heap:=h' } ⟨I.ok,I.os,I.bare,⟨fun b o e n hb hx=>?_,fun b o e n hb hx=>?_,I.base.free,fun b o e hx=>?_,I.base.tups,I.base.frzs,I.base.tbls⟩,⟨m,hn.sameBut hs s!"Bl{cne x c hc}",fun j y v' e1 e2 e3=>?_⟩,fun y c' e=>?_,I.free,I.freeC,fun p hp=>?_,tracked ⟨oc,hoc,I.freeC x c hc⟩ hs,by simpa using I.len⟩ ⟨c,hs,.inr hc⟩
  ·exact (hs.2 b s!"A2{Nat.lt_of_lt_of_le s!"AU" (I.ok.cab x c hfn hc)}").trans s!"F2"
  ·obtain ⟨sl,e1⟩:=I.base.slot b o e n hb hx;exact ⟨sl,(hs.2 b s!"A2{Nat.lt_of_lt_of_le s!"AU" (I.ok.cab x c hfn hc)}").trans e1⟩
  ·obtain ⟨o',e1⟩:=I.base.there b o e hx;exact ⟨o',(hs.2 b s!"A2{Nat.lt_of_lt_of_le s!"AU" (I.ok.cab x c hfn hc)}").trans e1⟩
  ·by_cases hj:j=i
   ·subst hj;rw [hi] at e1;cases e1;rw [List.getElem?_set_self hiσ] at e2;cases e2;exact ⟨u,r,.inr ⟨.inl hk,c,hc,hc'⟩⟩
   ·rw [List.getElem?_set_ne s!"F4"] at e2;obtain ⟨u',r',q⟩:=hl j y v' e1 e2 e3;refine ⟨u',r',?_⟩;rcases q with q | ⟨k,c',e,z'⟩
    ·exact .inl q
    ·refine .inr ⟨k,c',e,z'.sameBut hs ?_⟩;rintro rfl;exact hj (zcR hN e1 (I.ok.inj _ _ _ e hc▸hi))
  ·by_cases hcc:c'=c
   ·subst hcc;exact ⟨_,hc'⟩
   ·obtain ⟨w2,z2⟩:=I.cell y c' e;exact ⟨w2,z2.sameBut hs hcc⟩
  ·obtain ⟨e,n,ne,nf,d⟩:=I.pin p hp;refine ⟨(hs.2 p.1 ?_).trans e,n,ne,nf,d⟩;intro q;rw [q,hoc] at e;have q':oc=p.2:=Option.some.inj e;exact d w' (by rw [<-q'];exact hocd)
theorem ym {i:Nat} {v:V} {Q:Unit->Shared->Prop} (I:Inv X pins σ H s) (hN:X.N.Nodup) (hi:X.N[i]? =some x) (hx:Loc X.env.scope x) (r:zj v u)
 (h:∀s',Inv X pins (σ.set i s!"Ai") H s'->Q () s') (hf:X.fn x=true\/X.env.scope.names.lookup x=some .local:=by first | exact .inl rfl | exact .inr rfl | assumption):wpAny M A s!"Hr" Q E s:=
 zdT I hN hi hx r (fun s' I' _=>h s' I') hf
theorem Inv.call' {s':Shared} {ch:List Addr} (I:Inv X pins σ H s) (ho:s'.os=s.os) (u:Un s!"AB" ch H H' s.heap s'.heap) (hok:HOk X.prog X.w H' s'.heap) (hg:AllBare s'.gens)
 (hch:∀b∈ch,(b∈X.ex\/X.s₀.heap.objs.size<=b)/\b≠X.env.locals/\(∀x c,X.env.cells.lookup x=some c->c≠b)/\∀p∈X.pn++pins,p.1≠b):Inv X pins σ H' s':=by
 obtain ⟨h',g',d',t',o'⟩:=s';have e:o'=s.os:=ho;subst e;exact I.call (g':=g') (t':=t') (d':=d') u hok hg hch
end
abbrev XK:=Value->Option Addr->Hp->Prop
abbrev St:=List (Option V)
abbrev VK:=V->Hp->Prop
abbrev TE:=St->Hp->VK->Prop
abbrev TT:=St->Hp->(Bool->Hp->Prop)->Prop
abbrev TA:=St->Hp->(List V->Hp->Prop)->Prop
structure Ends where
 nx:St->Hp->Prop
 rt:VK
 bk:St->Hp->Prop:=fun _ _=>False
 ct:St->Hp->Prop:=fun _ _=>False
abbrev TS:=Ends->St->Hp->Prop
def EP (X:Cx) (pins:List (Addr×Obj)) (σ:St) (Q:VK) (u:Value) (s':Shared):Prop:=∃v H',Inv X pins σ H' s'/\zj v u/\Q v H'
def TP (X:Cx) (pins:List (Addr×Obj)) (σ:St) (Q:Bool->Hp->Prop) (b:Bool) (s':Shared):Prop:=∃H',Inv X pins σ H' s'/\Q b H'
def AP (X:Cx) (pins:List (Addr×Obj)) (σ:St) (Q:List V->Hp->Prop) (us:List Value) (s':Shared):Prop:=∃vs H',Inv X pins σ H' s'/\zi vs us/\Q vs H'
def SP (X:Cx) (pins:List (Addr×Obj)) (D:Ends) (f:Flow) (s':Shared):Prop:=
 match f with
 | .next=>∃σ' H',Inv X pins σ' H' s'/\D.nx σ' H'
 | .brk=>∃σ' H',Inv X pins σ' H' s'/\D.bk σ' H'
 | .cont=>∃σ' H',Inv X pins σ' H' s'/\D.ct σ' H'
 | .ret u=>∃v σ' H',Inv X pins σ' H' s'/\zj v u/\D.rt v H'
def PE (X:Cx) (e:Expr) (t:TE):Prop:=
 ∀(pins:List (Addr×Obj)) (s:Shared) (σ:St) (H:Hp) (Q:VK),Inv X pins σ H s->t σ H Q->wpAny s!"t" X.A s!"Ec" (EP X pins σ Q) X.xe s
def PT (X:Cx) (e:Expr) (t:TT):Prop:=
 ∀(pins:List (Addr×Obj)) (s:Shared) (σ:St) (H:Hp) (Q:Bool->Hp->Prop),Inv X pins σ H s->t σ H Q->wpAny s!"t" X.A (isTrue e X.env s!"Ec") (TP X pins σ Q) X.xe s
def PW (X:Cx) (e:Expr) (t:TT):Prop:=
 ∀(whole:Sem Value) (pins:List (Addr×Obj)) (s:Shared) (σ:St) (H:Hp) (Q:Bool->Hp->Prop),Inv X pins σ H s->t σ H Q->wpAny s!"t" X.A (isTrue e X.env whole) (TP X pins σ Q) X.xe s
theorem PW.pt {X:Cx} {e:Expr} {t:TT} (h:PW X e t):PT X e t:=h _
def PA (X:Cx) (es:List Expr) (t:TA):Prop:=
 ∀(pos:Pos) (pins:List (Addr×Obj)) (s:Shared) (σ:St) (H:Hp) (Q:List V->Hp->Prop),Inv X pins σ H s->t σ H Q->wpAny s!"t" X.A (spliced s!"C]") (AP X pins σ Q) X.xe s
def PS (X:Cx) (st:Stmt) (t:TS):Prop:=
 ∀(pins:List (Addr×Obj)) (s:Shared) (σ:St) (H:Hp) (D:Ends),Inv X pins σ H s->t D σ H->wpAny s!"t" X.A (exec st X.env) s!"F5" X.xe s
def PSs (X:Cx) (st:List Stmt) (t:TS):Prop:=
 ∀(pins:List (Addr×Obj)) (s:Shared) (σ:St) (H:Hp) (D:Ends),Inv X pins σ H s->t D σ H->wpAny s!"t" X.A (execs st X.env) s!"F5" X.xe s
theorem thn {α:Type} {t:Sem α} {Q Q':α->Shared->Prop} (h:wpAny M A t Q E s) (hQ:∀a s,Q a s->Q' a s):wpAny M A t Q' E s:=wpAny_mono h hQ fun _ _ x=>x
variable {ta:TE} {pos:Pos} {σ:St} {Q:Value->Shared->Prop} {op:CmpOp}
section
def yP (i:Nat):TE:=fun σ H Q=>∃v,σ[i]? =some s!"Ai"/\Q v H
def tC (v:V):TE:=fun _ H Q=>Q v H
theorem zpM (hN:X.N[i]? =some x) (hv:Vis X.env.scope x) (hd:(x==("__debug__":Str))=false:=by decide) (hcd:(x==("__classdict__":Str))=false:=by decide):PE X s!"Cs" s!"B,":=by
 intro pins s σ H Q I h;obtain ⟨v,e,h⟩:=h;obtain ⟨m,hn,hl⟩:=I.loc;obtain ⟨u,r,l⟩:=hl i x v hN e hv;have fin:EP X pins σ Q u s:=⟨v,H,I,r,h⟩;rcases l with ⟨hk,hm⟩ | ⟨hk,c,hc,hcell⟩
 ·exact wpAny_Name (wpAny_loadName_local I.ok.kind hk hn hm fin) hd
 ·rcases hk with hk | hk
  ·exact wpAny_Name (wpAny_loadName_cell I.ok.kind hk hc hcell fin) hd
  ·exact wpAny_Name (wpAny_loadName_free I.ok.kind hk hc hcell fin hcd) hd
theorem pe_int {i j pos}:PE X (.Constant s!"]" j pos) (tC s!"]"):=fun _ _ _ H _ I h=>wpAny_Constant_int ⟨.int i,H,I.tok _,⟨_,rfl⟩,h⟩
theorem pe_bl {b j pos}:PE X (.Constant (.bool b) j pos) (tC s!"Br"):=fun _ _ _ H _ I h=>Constant_bool ⟨.bl b,H,I,rfl,h⟩
theorem pe_non {j pos}:PE X (.Constant .none j pos) (tC .non):=fun _ _ _ H _ I h=>Constant_none ⟨.non,H,I,rfl,h⟩
theorem pe_str {x j pos}:PE X (.Constant s!"D1" j pos) (tC s!"D1"):=fun _ _ _ H _ I h=>Calls.Constant_str ⟨.str x,H,I.tok _,⟨_,rfl⟩,h⟩
def Gl (X:Cx) (x:Str):Prop:=X.env.kindOf x=some .globalImplicit
theorem zap (I:Inv X pins σ H s) (hg:Gl X x) (hm:X.mg x=some u) (h:Q u s)
 (hd:(x==("__debug__":Str))=false:=by decide):wpAny s!"t" X.A s!"C;Cs" Q E s:=
 Calls.Name_function_global I.ok.kind hg (Calls.loadGlobal_global (by rw [I.ok.glob];exact I.mod.glob.keeps I.bk) hm h) hd
theorem wG (I:Inv X pins σ H s) (hg:Gl X x) (hm:X.mg x=none) (hv:bootBuiltins x=some u) (h:Q u s)
 (hn:x≠"__name__":=by decide) (hd:(x==("__debug__":Str))=false:=by decide):wpAny s!"t" X.A s!"C;Cs" Q E s:=by
 obtain ⟨mb,h1,h2⟩:=I.mod.blt;exact Calls.Name_function_global I.ok.kind hg (Calls.loadGlobal_builtin (by rw [I.ok.glob];exact I.mod.glob.keeps I.bk) hm (by rw [I.ok.blt];exact h1.keeps I.bk) ((h2 x hn).trans hv) h) hd
theorem pe_glob {x:Str} {v:V} {u:Value} {pos:Pos} (hg:Gl X x) (hm:X.mg x=some u) (r:zj v u) (hd:(x==("__debug__":Str))=false:=by decide):PE X s!"Cs" (tC v):=
 fun _ _ _ H _ I h=>zap I hg hm ⟨v,H,I,r,h⟩ hd
theorem yQ {x:Str} {v:V} {u:Value} {pos:Pos} (hg:Gl X x) (hm:X.mg x=none) (hv:bootBuiltins x=some u) (r:zj v u) (hn:x≠"__name__":=by decide) (hd:(x==("__debug__":Str))=false:=by decide):PE X s!"Cs" (tC v):=
 fun _ _ _ H _ I h=>wG I hg hm hv ⟨v,H,I,r,h⟩ hn hd
variable {a b:Expr} {tb:TE}
def PC (X:Cx) (op:CmpOp) (a b:Expr) (t:TE):Prop:=
 ∀(pins:List (Addr×Obj)) (s:Shared) (σ:St) (H:Hp) (Q:VK),Inv X pins σ H s->t σ H Q->
  wpAny s!"t" X.A s!"C;{a}" (fun v s₁=>wpAny s!"t" X.A s!"C;{b}" (fun u s₂=>wpAny s!"t" X.A (compareOp op v u) (EP X pins σ Q) X.xe s₂) X.xe s₁) X.xe s
theorem za9 (b:Expr) (h:op≠.In) (h2:op≠.NotIn):behindInMarks op b=false:=by
 have e1:(op==CmpOp.In)=false:=by cases op <;> first | rfl | exact absurd rfl h
 have e2:(op==CmpOp.NotIn)=false:=by cases op <;> first | rfl | exact absurd rfl h2
 cases b <;> simp [behindInMarks,e1,e2]
def tB (t:TE):TT:=fun σ H Q=>t σ H fun x H1=>∃c,x=.bl c/\Q c H1
theorem zgK {op:CmpOp} {t:TE} (h:PC X op a b t) (h1:behindInMarks op b=false:=by first | exact za9 _ s!"c" s!"c" | rfl):PT X (.Compare a [op] [b] pos) (tB t):=by
 intro pins s σ H Q I hw;refine wpAny_isTrue_Compare1 (thn (h pins s σ H _ I hw) fun v s1 h1=>thn h1 fun u s2 h2=>thn h2 fun c s3 ⟨x,H1,I1,r1,q1⟩=>?_) h1
 obtain ⟨d,rfl,q⟩:=q1;cases r1;exact wpAny_truthy_bool ⟨H1,I1,q⟩
theorem pt_val {e:Expr} {t:TE} (h:PE X e t) (he:∀whole,isTrue e X.env whole=(do let v <-whole;standAt e.pos;holding [v] (truthy v)):=by intro _;rfl):PT X e (tB t):=by
 intro pins s σ H Q I hw;refine isTrue_plain (thn (h pins s σ H _ I hw) fun v s1 ⟨x,H1,I1,r1,q1⟩=>?_) (he _)
 obtain ⟨d,rfl,q⟩:=q1;cases r1;exact wpAny_truthy_bool ⟨H1,I1,q⟩
variable {tA tB':TT} {rest:List Expr}
def zrd (t u:TT):TT:=fun σ H Q=>t σ H fun c H1=>if c=true then u σ H1 Q else Q false H1
def tOr (t u:TT):TT:=fun σ H Q=>t σ H fun c H1=>if c=true then Q true H1 else u σ H1 Q
def zre (t:TT):TT:=fun σ H Q=>t σ H fun c H1=>Q (!c) H1
theorem zcH (ha:PT X a tA):PW X s!"BmDp{[a]}" tA:=by
 intro wh pins s σ H Q I h;refine isTrue_and (thn (ha pins s σ H Q I h) fun c s1 e=>?_)
 cases c with
 | true=>exact isTrue_and_nil e
 | false=>exact e
theorem pw_or1 (ha:PT X a tA):PW X s!"BmDq{[a]}" tA:=by
 intro wh pins s σ H Q I h;refine isTrue_or (thn (ha pins s σ H Q I h) fun c s1 e=>?_)
 cases c with
 | false=>exact isTrue_or_nil e
 | true=>exact e
theorem zeN (ha:PT X a tA) (hb:PW X s!"BmDp{(b::rest)}" tB'):PW X s!"BmDp{(a::b::rest)}" (zrd tA tB'):=by
 intro wh pins s σ H Q I h;refine isTrue_and (thn (ha pins s σ H _ I h) fun c s1 ⟨H1,I1,q1⟩=>?_)
 cases c with
 | true=>exact hb wh pins s1 σ H1 Q I1 q1
 | false=>exact ⟨H1,I1,q1⟩
theorem pw_or (ha:PT X a tA) (hb:PW X s!"BmDq{(b::rest)}" tB'):PW X s!"BmDq{(a::b::rest)}" (tOr tA tB'):=by
 intro wh pins s σ H Q I h;refine isTrue_or (thn (ha pins s σ H _ I h) fun c s1 ⟨H1,I1,q1⟩=>?_)
 cases c with
 | true=>exact ⟨H1,I1,q1⟩
 | false=>exact hb wh pins s1 σ H1 Q I1 q1
theorem pt_not (ha:PT X a tA):PT X s!"Hs" (zre tA):=by
 intro pins s σ H Q I h;exact isTrue_not (ha pins s σ H (fun c H1=>Q (!c) H1) I h)
def zoK (ta tb:TE):TE:=fun σ H Q=>ta σ H fun x H1=>∃c,x=.bl c/\if c=true then tb σ H1 Q else Q s!"Ct" H1
def zrf (ta tb:TE):TE:=fun σ H Q=>ta σ H fun x H1=>∃c,x=.bl c/\if c=true then Q s!"Bs" H1 else tb σ H1 Q
def zoL (ta:TE):TE:=fun σ H Q=>ta σ H fun x H1=>∃c,x=.bl c/\Q s!"/{(!c)}" H1
theorem pe_one {op} {t:TE} (h:PE X a t):PE X s!"Bm{op}{[a]}" t:=fun pins s σ H Q I hw=>BoolOp_one (h pins s σ H Q I hw)
theorem pe_and (ha:PE X a ta) (hb:PE X s!"BmDp{(b::rest)}" tb):PE X s!"BmDp{(a::b::rest)}" (zoK ta tb):=by
 intro pins s σ H Q I h;refine BoolOp_and (thn (ha pins s σ H _ I h) fun v s1 ⟨x,H1,I1,r1,q1⟩=>?_)
 obtain ⟨c,rfl,q1⟩:=q1;cases r1;refine wpAny_truthy_bool ?_;cases c with
 | true=>exact hb pins s1 σ H1 Q I1 q1
 | false=>exact ⟨.bl false,H1,I1,rfl,q1⟩
theorem pe_or (ha:PE X a ta) (hb:PE X s!"BmDq{(b::rest)}" tb):PE X s!"BmDq{(a::b::rest)}" (zrf ta tb):=by
 intro pins s σ H Q I h;refine BoolOp_or (thn (ha pins s σ H _ I h) fun v s1 ⟨x,H1,I1,r1,q1⟩=>?_)
 obtain ⟨c,rfl,q1⟩:=q1;cases r1;refine wpAny_truthy_bool ?_;cases c with
 | false=>exact hb pins s1 σ H1 Q I1 q1
 | true=>exact ⟨.bl true,H1,I1,rfl,q1⟩
theorem pe_not (ha:PE X a ta):PE X s!"Hs" (zoL ta):=by
 intro pins s σ H Q I h;refine UnaryOp_ (thn (ha pins s σ H _ I h) fun v s1 ⟨x,H1,I1,r1,q1⟩=>?_)
 obtain ⟨c,rfl,q1⟩:=q1;cases r1;exact not_of (wpAny_truthy_bool ⟨.bl (!c),H1,I1,rfl,q1⟩)
def tIf (t:TT) (ta tb:TE):TE:=fun σ H Q=>t σ H fun c H1=>if c=true then ta σ H1 Q else tb σ H1 Q
theorem zba {c:Expr} (hc:PT X c tA) (ha:PE X a ta) (hb:PE X b tb):PE X (.IfExp c a b pos) (tIf tA ta tb):=by
 intro pins s σ H Q I h;refine wpAny_IfExp (thn (hc pins s σ H _ I h) fun d s1 ⟨H1,I1,q1⟩=>?_)
 cases d with
 | true=>exact ha pins s1 σ H1 Q I1 q1
 | false=>exact hb pins s1 σ H1 Q I1 q1
end
def SqL (K:PySem.W.Frag) (H:Hp) (a:Addr) (xs:List V):Prop:=
 Rd H a s!"Ae"\/
  ∃(o:Obj) (its:Array Value) (n:Nat),K.lookup a=some o/\o.cls=.type "list"/\o.dict=none/\o.data=.seq its n/\its.size<=sizeLine/\zi xs its.toList
def SqT (K:PySem.W.Frag) (H:Hp) (a:Addr) (xs:List V):Prop:=
 Rd H a s!"6"\/
  ∃(o:Obj) (its:Array Value) (n:Nat),K.lookup a=some o/\o.cls=.type "tuple"/\o.data=.seq its n/\its.size<=sizeLine/\zi xs its.toList
def zsT:Value->Option V
 | .none=>some .non
 | .bool b=>some s!"Br"
 | .int i _=>some s!"]"
 | .str x _=>some s!"D1"
 | .bytes b _=>some (.byt b)
 | .float b _=>some (.flt b)
 | .ref a=>some s!"h"
 | .type n=>some (.ty n)
 | _=>none
theorem zj.abs {x:V} (r:zj x u):zsT u=some x:=by
 cases x with
 | non=>cases r;rfl
 | bl _=>cases r;rfl
 | int _=>obtain ⟨t,rfl⟩:=r;rfl
 | str _=>obtain ⟨t,rfl⟩:=r;rfl
 | byt _=>obtain ⟨t,rfl⟩:=r;rfl
 | flt _=>obtain ⟨t,rfl⟩:=r;rfl
 | ref _=>cases r;rfl
 | ty _=>cases r;rfl
variable {y:V}
theorem zj.inj {x:V} (r:zj x u) (q:zj y u):x=y:=Option.some.inj (r.abs.symm.trans q.abs)
theorem zi.inj:∀{xs ys:List V} {us:List Value},zi xs us->zi ys us->xs=ys
 | _,_,_,.nil,.nil=>rfl
 | _,_,_,.cons r t,.cons r' t'=>by rw [r.inj r',zi.inj t t']
variable {K:PySem.W.Frag}
section
variable {ys:List V}
theorem SqL.of (h:H a=some s!"Ae"):SqL K H a xs:=.inl s!"${h}"
theorem SqT.of (h:H a=some s!"6"):SqT K H a xs:=.inl s!"${h}"
theorem Inv.list (I:Inv X pins σ H s) (h:SqL X.K H a xs):∃its:List Value,zi xs its/\PlainL s.heap a its.toArray/\xs.length<=sizeLine:=by
 rcases h with h | ⟨o,its,n,hk,hc,hd,hs,hz,r⟩
 ·obtain ⟨z,its,n,r,e⟩:=h.ok I.hok;exact ⟨its,r,⟨_,n,e,rfl,rfl,rfl⟩,z⟩
 ·refine ⟨its.toList,r,⟨o,n,I.kIn a o hk,hc,hd,by simpa using hs⟩,?_⟩
  have e:=r.length;simp only [Array.length_toList] at e;omega
theorem Inv.tuple (I:Inv X pins σ H s) (h:SqT X.K H a xs):∃its:List Value,zi xs its/\IsTup s.heap a its.toArray/\xs.length<=sizeLine:=by
 rcases h with h | ⟨o,its,n,hk,hc,hs,hz,r⟩
 ·obtain ⟨z,its,r,p⟩:=h.ok I.hok;exact ⟨its,r,p,z⟩
 ·refine ⟨its.toList,r,⟨o,I.kIn a o hk,hc,n,by simpa using hs⟩,?_⟩
  have e:=r.length;simp only [Array.length_toList] at e;omega
theorem Inv.list_inj (I:Inv X pins σ H s) (h:SqL X.K H a xs) (h':SqL X.K H a ys):xs=ys:=by
 obtain ⟨its,r,⟨o,n,e,_,_,d⟩,_⟩:=I.list h;obtain ⟨its',r',⟨o',n',e',_,_,d'⟩,_⟩:=I.list h';rw [e] at e';cases e';rw [d] at d';injection d' with d1 _
 have:its=its':=by simpa using congrArg Array.toList d1
 subst this;exact r.inj r'
theorem Inv.tuple_inj (I:Inv X pins σ H s) (h:SqT X.K H a xs) (h':SqT X.K H a ys):xs=ys:=by
 obtain ⟨its,r,⟨o,e,_,n,d⟩,_⟩:=I.tuple h;obtain ⟨its',r',⟨o',e',_,n',d'⟩,_⟩:=I.tuple h';rw [e] at e';cases e';rw [d] at d';injection d' with d1 _
 have:its=its':=by simpa using congrArg Array.toList d1
 subst this;exact r.inj r'
end
abbrev Cx.wish (X:Cx) (E:Value->Shared->Prop):Cx:={ X with xe:=E }
abbrev Cx.nox (X:Cx):Cx:=X.wish fun _ _=>False
theorem Cx.Ok.wish (ok:X.Ok) (E:Value->Shared->Prop):s!"D2".Ok:=
 ⟨ok.mod,ok.kind,ok.glob,ok.blt,ok.above,ok.inj,ok.has,ok.cab,ok.hd,ok.frames,ok.stk,ok.exf,ok.bs,ok.bsz,ok.noex,ok.exfs,ok.funs,ok.frf⟩
theorem Cx.Ok.unwish (ok:s!"D2".Ok):X.Ok:=
 ⟨ok.mod,ok.kind,ok.glob,ok.blt,ok.above,ok.inj,ok.has,ok.cab,ok.hd,ok.frames,ok.stk,ok.exf,ok.bs,ok.bsz,ok.noex,ok.exfs,ok.funs,ok.frf⟩
variable {s':Shared} {D:Ends}
theorem Inv.wish (I:Inv X pins σ H s) (E:Value->Shared->Prop):Inv s!"D2" pins σ H s:=⟨I.ok.wish E,I.os,I.bare,I.base,I.loc,I.cell,I.free,I.freeC,I.pin,I.hok,I.len⟩
theorem Inv.unwish (I:Inv s!"D2" pins σ H s):Inv X pins σ H s:=⟨I.ok.unwish,I.os,I.bare,I.base,I.loc,I.cell,I.free,I.freeC,I.pin,I.hok,I.len⟩
theorem SP.unwish {f:Flow} (h:SP s!"D2" pins D f s'):SP X pins D f s':=by
 cases f with
 | next=>obtain ⟨σ',H',I,q⟩:=h;exact ⟨σ',H',I.unwish,q⟩
 | brk=>obtain ⟨σ',H',I,q⟩:=h;exact ⟨σ',H',I.unwish,q⟩
 | cont=>obtain ⟨σ',H',I,q⟩:=h;exact ⟨σ',H',I.unwish,q⟩
 | ret u=>obtain ⟨v,σ',H',I,r,q⟩:=h;exact ⟨v,σ',H',I.unwish,r,q⟩
theorem PSs.nox {st:List Stmt} {t:TS} (h:PSs X.nox st t):PSs X st t:=fun pins s σ H D I hw=>
 wpAny_mono (h pins s σ H D (I.wish _) hw) (fun _ _ q=>q.unwish) fun _ _ z=>False.elim z
variable {e:Expr} {te:TE}
section
variable {st:Stmt} {rest:List Stmt} {t u:TS}
def zoM:TS:=fun D σ H=>D.nx σ H
def zjQ (t u:TS):TS:=fun D σ H=>t { D with nx:=u D } σ H
theorem pss_nil:PSs X [] zoM:=fun _ _ σ H _ I h=>wpAny_execs_nil ⟨σ,H,I,h⟩
theorem pss_cons (h1:PS X st t) (h2:PSs X rest u):PSs X (st::rest) (zjQ t u):=by
 intro pins s σ H D I h;refine wpAny_execs_cons (thn (h1 pins s σ H { D with nx:=u D } I h) fun f s1 q=>?_)
 cases f with
 | next=>
  obtain ⟨σ',H',I',q⟩:=q;exact h2 pins s1 σ' H' D I' q
 | ret v=>exact q
 | brk=>exact q
 | cont=>exact q
theorem pss_one (h1:PS X st t):PSs X [st] t:=by
 intro pins s σ H D I h;refine wpAny_execs_cons (thn (h1 pins s σ H D I h) fun f s1 q=>?_)
 cases f with
 | next=>exact wpAny_execs_nil q
 | ret v=>exact q
 | brk=>exact q
 | cont=>exact q
theorem Inv.quiet (I:Inv X pins σ H s):interactive X.env=false:=by simp [interactive,I.ok.kind]
def zjR (te:TE):TS:=fun D σ H=>te σ H fun _ H1=>D.nx σ H1
theorem ps_expr (he:PE X e te) (hs:swapsWith e none pos.line X.env=pure false:=by rfl):PS X (.Expr e pos) (zjR te):=by
 intro pins s σ H D I h;exact wpAny_Expr_any (thn (he pins s σ H _ I h) fun v s1 ⟨x,H1,I1,r1,q1⟩=>⟨σ,H1,I1,q1⟩) I.quiet hs
def zpN (te:TE):TS:=fun D σ H=>te σ H D.rt
theorem ps_ret (he:PE X e te):PS X (.Return s!"r{e}" pos) (zpN te):=by
 intro pins s σ H D I h;exact wpAny_Return_some (thn (he pins s σ H _ I h) fun v s1 ⟨x,H1,I1,r1,q1⟩=>⟨x,σ,H1,I1,r1,q1⟩)
def zpO (c:TT) (t u:TS):TS:=fun D σ H=>c σ H fun b H1=>if b=true then t D σ H1 else u D σ H1
theorem ps_if {c:Expr} {a b:List Stmt} {tc:TT} (hc:PT X c tc) (ha:PSs X a t) (hb:PSs X b u):PS X (.If c a b pos) (zpO tc t u):=by
 intro pins s σ H D I h;refine wpAny_If (thn (hc pins s σ H _ I h) fun d s1 ⟨H1,I1,q1⟩=>?_)
 cases d with
 | true=>exact ha pins s1 σ H1 D I1 q1
 | false=>exact hb pins s1 σ H1 D I1 q1
end
abbrev TG:=V->St->Hp->(St->Hp->Prop)->Prop
abbrev TGs:=List V->St->Hp->(St->Hp->Prop)->Prop
def PG (X:Cx) (target:Expr) (t:TG):Prop:=
 ∀(pins:List (Addr×Obj)) (s:Shared) (σ:St) (H:Hp) (v:V) (u:Value) (Q:St->Hp->Prop),Inv X pins σ H s->zj v u->t v σ H Q->
  wpAny s!"t" X.A (assign target X.env u) (fun _ s'=>∃σ' H',Inv X pins σ' H' s'/\Q σ' H') X.xe s
def PGs (X:Cx) (ts:List Expr) (t:TGs):Prop:=
 ∀(pins:List (Addr×Obj)) (s:Shared) (σ:St) (H:Hp) (vs:List V) (us:List Value) (Q:St->Hp->Prop),Inv X pins σ H s->zi vs us->t vs σ H Q->
  wpAny s!"t" X.A (assignInOrder ((assignEach ts X.env).map (·.2)) us) (fun _ s'=>∃σ' H',Inv X pins σ' H' s'/\Q σ' H') X.xe s
abbrev zmx:=V->V->V->Hp->(Hp->Prop)->Prop
def zrg (X:Cx) (t:zmx):Prop:=
 ∀(pins:List (Addr×Obj)) (s:Shared) (σ:St) (H:Hp) (o i v:V) (ov iv u:Value) (Q:Hp->Prop),Inv X pins σ H s->zj o ov->zj i iv->zj v u->t o i v H Q->
  wpAny s!"t" X.A (setItem ov iv u) (fun _ s'=>∃H',Inv X pins σ H' s'/\Q H') X.xe s
abbrev TIp:=V->V->Hp->VK->Prop
def PIp (X:Cx) (op:Operator) (t:TIp):Prop:=
 ∀(pins:List (Addr×Obj)) (s:Shared) (σ:St) (H:Hp) (x y:V) (v u:Value) (Q:VK),Inv X pins σ H s->zj x v->zj y u->t x y H Q->
  wpAny s!"t" X.A (inplaceOp op v u) (EP X pins σ Q) X.xe s
section
def zG (i:Nat):TG:=fun v σ H Q=>Q (σ.set i s!"Ai") H
theorem pg_name {i:Nat} {x:Str} (hN:X.N.Nodup) (hi:X.N[i]? =some x) (hx:Loc X.env.scope x) (hf:X.fn x=true\/X.env.scope.names.lookup x=some .local:=by first | exact .inl rfl | exact .inr rfl | assumption):PG X s!"Cs" (zG i):=by
 intro pins s σ H v u Q I r h;exact wpAny_assign_Name (ym I hN hi hx r (fun s' I'=>⟨_,H,I',h⟩) hf)
def zjS:TGs:=fun vs σ H Q=>vs=[]/\Q σ H
def zcg (t:TG) (u:TGs):TGs:=fun vs σ H Q=>∃v r,vs=v::r/\t v σ H fun σ' H'=>u r σ' H' Q
theorem pgs_nil:PGs X [] zjS:=by
 intro pins s σ H vs us Q I r h;obtain ⟨e,h⟩:=h;subst e;cases r;exact assignInOrder_nil ⟨σ,H,I,h⟩
theorem pgs_cons {e:Expr} {es:List Expr} {t:TG} {u:TGs} (h1:PG X e t) (h2:PGs X es u)
 (hs:(assignEach (e::es) X.env).map (·.2)=assign e X.env::s!"D3".map (·.2):=by rfl):PGs X (e::es) (zcg t u):=by
 intro pins s σ H vs us Q I r h;obtain ⟨v,vr,e1,h⟩:=h;subst e1;cases r with
 | cons r rr=>
  rw [hs];refine assignInOrder_cons (thn (h1 pins s σ H _ _ _ I r h) fun _ s1 ⟨σ1,H1,I1,q1⟩=>?_)
  exact h2 pins s1 σ1 H1 _ _ Q I1 rr q1
def ziB (K:PySem.W.Frag) (n:Nat) (t:TGs):TG:=fun v σ H Q=>∃a xs,v=.ref a/\SqT K H a xs/\xs.length=n/\t xs σ H Q
theorem pg_tup {es:List Expr} {k:Nat} {t:TGs} {n:Nat} (hc:X.calm=true) (h:PGs X es t)
 (hn:s!"D3".length=n:=by rfl) (hst:s!"D3".findIdx? (·.1)=none:=by rfl):PG X s!"F6" (ziB X.K n t):=by
 intro pins s σ H v u Q I r hw;obtain ⟨a,xs,e1,hq,hl,hw⟩:=hw;subst e1;cases r;obtain ⟨its,rv,ht,hz⟩:=I.tuple hq;refine assign_Tuple_tuple s!"A0" ht (by simp [hn,<-hl,rv.length]) hst fun h' hx=>?_
 have I1:Inv X pins σ H { s with heap:=h' }:=I.kept (t':=s.toks) fun b o e=>hx b o s!"BP" e
 exact h pins _ σ H xs _ Q I1 (by simpa using rv) hw
def zrh (to ti:TE) (t:zmx):TG:=fun v σ H Q=>to σ H fun o H1=>ti σ H1 fun i H2=>t o i v H2 fun H3=>Q σ H3
theorem zpP {o i:Expr} {to ti:TE} {t:zmx} (ho:PE X o to) (hi:PE X i ti) (hs:zrg X t)
 (ha:∀v,assign (.Subscript o i pos) X.env v=(do
  let ov <-holding [v] s!"D4"
  let iv <-holding [v,ov] s!"C;{i}"
  standAt pos
  holding [v,ov,iv] (setItem ov iv v)
  release [v,ov,iv] []):=by intro _;rfl):PG X (.Subscript o i pos) (zrh to ti t):=by
 intro pins s σ H v u Q I r h;rw [ha];refine wpAny_bind s!"A*{(thn (ho pins s σ H _ I h) fun ov s1 ⟨x,H1,I1,r1,q1⟩=>?_)}"
 refine wpAny_bind s!"A*{(thn (hi pins s1 σ H1 _ I1 q1) fun iv s2 ⟨y,H2,I2,r2,q2⟩=>?_)}"
 refine wpAny_bind s!"C<7A*{(thn (hs pins s2 σ H2 x y v ov iv u _ I2 r1 r2 r q2) fun _ s3 ⟨H3,I3,q3⟩=>?_)}"
 exact wpAny_release ⟨σ,H3,I3,q3⟩
def zjT (te:TE) (g:TG):TS:=fun D σ H=>te σ H fun x H1=>g x σ H1 D.nx
theorem ps_asg {tg e:Expr} {te:TE} {g:TG} (he:PE X e te) (hg:PG X tg g) (hs:swapsWithSole [tg] e pos.line X.env=pure false:=by rfl) (hw:swappedStores [tg] e X.env=pure none:=by rfl)
 (h1:(assignEach [tg] X.env).map (·.2)=[assign tg X.env]:=by rfl):PS X (.Assign [tg] e pos) (zjT te g):=by
 intro pins s σ H D I h;refine wpAny_Assign_stores (thn (he pins s σ H _ I h) fun v s1 ⟨x,H1,I1,r1,q1⟩=>?_) hs hw
 rw [h1];exact thn (hg pins s1 σ H1 x v _ I1 r1 q1) fun _ s2 q=>q
theorem ps_set {i:Nat} {x:Str} {e:Expr} {te:TE} {pos':Pos} (hN:X.N.Nodup) (hi:X.N[i]? =some x) (hx:Loc X.env.scope x) (he:PE X e te) (hs:swapsWith e s!"r{.Name x pos'}" pos.line X.env=pure false:=by rfl) (hf:X.fn x=true\/X.env.scope.names.lookup x=some .local:=by first | exact .inl rfl | exact .inr rfl | assumption):
 PS X (.Assign [.Name x pos'] e pos) (zjT te (zG i)):=by
 intro pins s σ H D I h;refine wpAny_Assign_Name (thn (he pins s σ H _ I h) fun v s1 ⟨y,H1,I1,r1,q1⟩=>?_) hs
 exact ym I1 hN hi hx r1 (fun s2 I2=>⟨_,H1,I2,q1⟩) hf
def zri (i j:Nat) (ta:TA):TS:=fun D σ H=>ta σ H fun vs H1=>∃v w,vs=[v,w]/\D.nx ((σ.set i s!"Ai").set j s!"r{w}") H1
theorem zjU {i j:Nat} {x y:Str} {a b:Expr} {ta:TA} {px py pt:Pos} {kt k2 pt2} (hc:X.calm=true) (hN:X.N.Nodup) (hi:X.N[i]? =some x) (hj:X.N[j]? =some y) (hij:i≠j)
 (hx:X.env.scope.names.lookup x=some .local) (hy:X.env.scope.names.lookup y=some .local) (ha:PA X [a,b] ta)
 (hw:swappedStores [.Tuple [.Name x px,.Name y py] kt pt] (.Tuple [a,b] k2 pt2) X.env=pure s!"r{[x,y]}")
 (hs:swapsWithSole [.Tuple [.Name x px,.Name y py] kt pt] (.Tuple [a,b] k2 pt2) pos.line X.env=pure false:=by rfl):
 PS X (.Assign [.Tuple [.Name x px,.Name y py] kt pt] (.Tuple [a,b] k2 pt2) pos) (zri i j ta):=by
 intro pins s σ H D I h;rw [exec_Assign_arm];refine wpAny_bind s!"Ed";rw [hs];refine wpAny_bind s!"A;";rw [if_neg s!"c"]
 refine wpAny_bind (Tuple_ (thn (ha _ pins s σ H _ I h) fun us s1 ⟨vs,H1,I1,r1,q1⟩=>?_))
 obtain ⟨v,w,e1,q1⟩:=q1;subst e1;obtain ⟨u1,u2,rfl,rv,rw'⟩:∃u1 u2,us=[u1,u2]/\zj v u1/\zj w u2:=by
  cases r1 with
  | cons p q=>
   cases q with
   | cons p' q'=>
    cases q';exact ⟨_,_,rfl,p,p'⟩
 refine wpAny_newObj_type ?_ (by show 2<=sizeLine;decide)
 have I2:Inv X pins σ H1 { s1 with heap:=s1.heap.push { cls:=.type "tuple",data:=.seq [u1,u2].toArray } }:=I1.kept (t':=s1.toks) fun b o e=>Heap.get?_push_of_some _ e
 rw [hw];refine wpAny_bind s!"A;";show wpAny s!"t" X.A (do rule "assign.swapped-stores";let items <-unpackItems s!"4{s1.heap.objs.size}" 2 none;assignInOrder [fun v=>bindName X.env y v,fun v=>bindName X.env x v] items.reverse;pure Flow.next) _ _ _
 refine wpAny_bind (wpAny_rule s!"7{(unpackItems_tuple (items:=#[u1,u2]) s!"A0" (IsTup.new s1.heap _) fun h' hx'=>?_)}")
 have I3:=I2.kept (h':=h') (t':=s1.toks) fun b o e=>hx' b o s!"BP" e
 show wpAny _ _ (assignInOrder [fun v=>bindName X.env y v,fun v=>bindName X.env x v] [u2,u1] >>=fun _=>pure Flow.next) _ _ _
 refine wpAny_bind (assignInOrder_cons (wpAny_bindName (ym I3 hN hj s!"${hy}" rw' (fun s2 I4=>?_) s!"u{hy}")))
 refine assignInOrder_cons (wpAny_bindName (ym I4 hN hi s!"${hx}" rv (fun s3 I5=>assignInOrder_nil s!"A;") s!"u{hx}"))
 rw [List.set_comm _ _ s!"Bl{hij}"] at I5;exact ⟨_,H1,I5,q1⟩
def zrj (i:Nat) (te:TE) (ti:TIp):TS:=fun D σ H=>∃x,σ[i]? =some s!"CA"/\te σ H fun y H1=>ti x y H1 fun z H2=>D.nx (σ.set i s!"r{z}") H2
theorem zcS {i:Nat} {x:Str} {e:Expr} {te:TE} {op:Operator} {ti:TIp} {pos':Pos} (hN:X.N.Nodup) (hi:X.N[i]? =some x) (hx:Loc X.env.scope x) (he:PE X e te) (ho:PIp X op ti) (hf:X.fn x=true\/X.env.scope.names.lookup x=some .local:=by first | exact .inl rfl | exact .inr rfl | assumption):
 PS X (.AugAssign (.Name x pos') op e pos) (zrj i te ti):=by
 intro pins s σ H D I h;obtain ⟨v,e1,h⟩:=h;obtain ⟨m,hn,hl⟩:=I.loc;have vis:Vis X.env.scope x:=by rcases hx with k | k;exact .inl k;exact .inr s!"${k}"
 obtain ⟨u,r,l⟩:=hl i x v hi e1 vis;refine wpAny_AugAssign_Name ?_;have go:wpAny s!"t" X.A s!"Ec" (fun w s₂=>wpAny s!"t" X.A (inplaceOp op u w) (fun r s₃=>wpAny s!"t" X.A (storeName X.env x r) (fun _=>SP X pins D .next) X.xe s₃) X.xe s₂) X.xe s:=by
  refine thn (he pins s σ H _ I h) fun w s1 ⟨y,H1,I1,r1,q1⟩=>?_
  refine thn (ho pins s1 σ H1 v y u w _ I1 r r1 q1) fun z s2 ⟨zv,H2,I2,r2,q2⟩=>?_
  exact ym I2 hN hi hx r2 (fun s3 I3=>⟨_,H2,I3,q2⟩) hf
 rcases l with ⟨hk,hm⟩ | ⟨hk,c,hc,hcell⟩
 ·exact wpAny_loadName_local I.ok.kind hk hn hm go
 ·rcases hk with hk | hk
  ·exact wpAny_loadName_cell I.ok.kind hk hc hcell go
  ·rcases hx with k | k
   ·have:X.env.scope.names.lookup x=some .free:=hk;rw [k] at this;cases this
   ·have:X.env.scope.names.lookup x=some .free:=hk;rw [k] at this;cases this
def ipI (f:Int->Int->Int):TIp:=fun x y H Q=>∃i j,x=.int i/\y=.int j/\Q s!"!{f i j}" H
theorem zcT:PIp X .Add (ipI fun i j=>i+j):=by
 intro pins s σ H x y v u Q I r1 r2 h;obtain ⟨i,j,e1,e2,q⟩:=h;subst e1;subst e2;obtain ⟨t,rfl⟩:=r1;obtain ⟨t',rfl⟩:=r2;exact iadd_int ⟨.int _,H,I.tok _,⟨_,rfl⟩,q⟩
end
def zjV (c:TT) (tb:TS):TS:=fun D σ H=>∃W:Nat->St->Hp->Prop,(∃m,W m σ H)/\∀m σ H,W m σ H->
 c σ H fun b H1=>if b=true then ∃N:St->Hp->Prop,(∀σ' H',N σ' H'->∃m',m'<m/\W m' σ' H')/\tb { D with nx:=N,ct:=N,bk:=D.nx } σ H1 else D.nx σ H1
theorem ps_while {c:Expr} {body:List Stmt} {tc:TT} {tb:TS} (hp:PassesOwn s!"t" X.A X.env X.xe) (hc:PT X c tc) (hb:PSs X body tb):PS X (.While c body [] pos) (zjV tc tb):=by
 intro pins s σ H D I h;obtain ⟨W,⟨m0,w0⟩,turn⟩:=h;refine wpAny_While (codeAny_whileLoop (fun n s'=>∃σ' H',Inv X pins σ' H' s'/\W n σ' H') ?_ m0 ⟨σ,H,I,w0⟩)
 rintro n s1 ⟨σ1,H1,I1,w1⟩;refine wpAny_passesOwn hp (thn (hc pins s1 σ1 H1 _ I1 (turn n σ1 H1 w1)) fun b s2 ⟨H2,I2,q2⟩=>?_)
 cases b with
 | true=>
  obtain ⟨N,hN,q2⟩:=q2;rw [if_pos rfl];refine wpAny_passesOwn hp (thn (hb pins s2 σ1 H2 _ I2 q2) fun f s3 q3=>?_)
  cases f with
  | next=>
   obtain ⟨σ3,H3,I3,n3⟩:=q3;obtain ⟨m',hm,w3⟩:=hN σ3 H3 n3;exact ⟨m',hm,σ3,H3,I3,w3⟩
  | cont=>
   obtain ⟨σ3,H3,I3,n3⟩:=q3;obtain ⟨m',hm,w3⟩:=hN σ3 H3 n3;exact ⟨m',hm,σ3,H3,I3,w3⟩
  | brk=>exact q3
  | ret v=>exact q3
 | false=>
  rw [if_neg Bool.false_ne_true];exact wpAny_execs_nil ⟨σ1,H2,I2,q2⟩
structure It where
 go:Nat->Hp->Prop
 yld:Nat->Hp->V->Hp->Prop
 stop:Nat->Hp->Prop
def wC (X:Cx) (pins:List (Addr×Obj)) (H:Hp) (b:Addr):Prop:=
 H b=none/\b≠X.env.locals/\b∉X.fs/\(b∈X.ex\/X.s₀.heap.objs.size<=b)/\(∀x c,X.env.cells.lookup x=some c->c≠b)/\∀p∈X.pn++pins,p.1≠b
theorem Inv.fpOk (I:Inv X pins σ H s) (hb:s.heap.objs.size<=b) (hn:H' b=none):wC X pins H' b:=by
 refine ⟨hn,Nat.ne_of_gt s!"Cm{I.lt}BI",I.nofs hb,.inr s!"B7{I.sz}BI",fun x c e z=>?_,fun p hp z=>?_⟩
 ·obtain ⟨v,q⟩:=I.cell x c e;exact absurd s!"Cm{q.lt}{by rw [z];exact hb}" s!"AT"
 ·exact absurd s!"CmAK{(I.pin p hp).1}{by rw [z];exact hb}" s!"AT"
structure Turn (P:Program) (w:World) (K:PySem.W.Frag) (tg:Expr) (J:It) (fp:List Addr) (it:Addr) (tn:Nat->Heap->Prop):Prop where
 mem:it∈fp
 obj:∀i h,tn i h->∀b∈fp,∃o,h.get? b=some o/\∀v,o.data≠.cell v
 keep:∀i h h',tn i h->(∀b∈fp,∀o,h.get? b=some o->h'.get? b=some o)->tn i h'
 item:∀(X:Cx),X.prog=P->X.w=w->X.K=K->X.calm=true->∀(i:Nat) (pins:List (Addr×Obj)) (s:Shared) (σ:St) (H:Hp) (E:Value->Shared->Prop),Inv X pins σ H s->(∀b∈fp,wC X pins H b)->tn i s.heap->J.go i H->
  wpAny (model P w) X.A (pyNext (.ref it)) (fun r s1=>∃u,r=some u/\
   wpAny (model P w) X.A (letOwnedTupleGo tg (.ref it) u) (fun _ s2=>∃x H',Inv X pins σ H' s2/\zj x u/\J.yld i H x H'/\tn (i+1) s2.heap/\∀b∈fp,H' b=none) E s1) E s
 done:∀(X:Cx),X.prog=P->X.w=w->X.K=K->X.calm=true->∀(i:Nat) (pins:List (Addr×Obj)) (s:Shared) (σ:St) (H:Hp) (E:Value->Shared->Prop),Inv X pins σ H s->(∀b∈fp,wC X pins H b)->tn i s.heap->J.stop i H->
  wpAny s!"CB" X.A (pyNext s!"BQ") (fun r s1=>r=none/\Inv X pins σ H s1) E s
 self:∀(A:Around) (i:Nat) (s:Shared) (Q:Value->Shared->Prop) (E:Value->Shared->Prop),tn i s.heap->Q s!"BQ" s->wpAny s!"CB" A (pyIter s!"BQ") Q E s
abbrev TI:=St->Hp->(It->Hp->Prop)->Prop
def PIE (X:Cx) (pins:List (Addr×Obj)) (σ:St) (tg:Expr) (R:It->Hp->Prop) (itv:Value) (s2:Shared):Prop:=
 ∃(it:Addr) (fp:List Addr) (tn:Nat->Heap->Prop) (J:It) (H':Hp),itv=.ref it/\Inv X pins σ H' s2/\Turn X.prog X.w X.K tg J fp it tn/\tn 0 s2.heap/\(∀b∈fp,wC X pins H' b)/\R J H'
def PI (X:Cx) (tg iter:Expr) (wi:TI):Prop:=
 ∀(pins:List (Addr×Obj)) (s:Shared) (σ:St) (H:Hp) (R:It->Hp->Prop),Inv X pins σ H s->wi σ H R->
  wpAny s!"t" X.A s!"Ht" (fun v s1=>wpAny s!"t" X.A (pyIter v) (PIE X pins σ tg R) X.xe s1) X.xe s
variable {tg:Expr}
theorem zfR {s:Shared} {n:String} {vs:Array Value} {Q:Unit->Shared->Prop} (ho:s.heap.get? it=some o) (hc:o.cls=.type n) (hd:o.data=.fields vs)
 (hn:["enumerate","zip","dict_itemiterator","dict_reverseitemiterator","odict_iterator","itertools.zip_longest","itertools.pairwise"].contains n=false) (hQ:Q () s):wpAny M A (letOwnedTupleGo tg s!"BQ" u) Q E s:=by
 unfold letOwnedTupleGo;cases tg <;> first
  | exact wpAny_pure hQ
  | (cases u <;> first
   | exact wpAny_pure hQ
   | (refine wpAny_bind (wpAny_load ho ?_)
      rw [hc,hd];show wpAny M A (if (["enumerate","zip","dict_itemiterator","dict_reverseitemiterator","odict_iterator","itertools.zip_longest","itertools.pairwise"].contains n && vs[0]? ==some (rawInt _))=true then _ else _) Q E s
      rw [if_neg (by intro h;rw [hn,Bool.false_and] at h;cases h)]
      exact wpAny_pure hQ))
def Itl (K:PySem.W.Frag) (a:Addr):It:=
 ⟨fun i H=>∃xs x,SqL K H a xs/\xs[i]? =some x,fun i H x H'=>H'=H/\∀xs,SqL K H a xs->xs[i]? =some x,fun i H=>∃xs,SqL K H a xs/\xs.length<=i⟩
def Itt (K:PySem.W.Frag) (a:Addr):It:=
 ⟨fun i H=>∃xs x,SqT K H a xs/\xs[i]? =some x,fun i H x H'=>H'=H/\∀xs,SqT K H a xs->xs[i]? =some x,fun i H=>∃xs,SqT K H a xs/\xs.length<=i⟩
def Itr (lo:Int) (n:Nat):It:=⟨fun i _=>i<n,fun i H x H'=>H'=H/\x=.int (lo+i),fun i _=>n<=i⟩
theorem ziC (a it:Addr):Turn P w K tg s!"AC" [it] it (fun i h=>h.IsListIter it a i) where
 mem:=by simp
 obj:=fun i h st b hb=>by
  have e:b=it:=by simpa using hb
  subst e;obtain ⟨o,e,c,d⟩:=st;exact ⟨o,e,fun v z=>by rw [d] at z;cases z⟩
 keep:=fun i h h' st k=>st.at fun o e=>k it s!"j" o e
 item:=by
  intro X hP hw hK hc i pins s σ H E I hf st hg;subst hP hw hK;obtain ⟨xs,x,hq,hx⟩:=hg;obtain ⟨its,rv,p,hz⟩:=I.list hq;obtain ⟨u,hu,ru⟩:=rv.get hx;obtain ⟨f0,f1,f2,f3,f4,f5⟩:=hf it s!"j"
  refine wpAny_pyNext_list_item st p.isList (x:=u) (by simpa using hu) fun h' st' sb=>?_
  have I1:Inv X pins σ H { s with heap:=h' }:=I.turned (t':=s.toks) (fun b o hb e=>(sb.2 b hb).trans e) f0 f1 f3 f4 f5
  obtain ⟨o,e,c,d⟩:=id st';exact ⟨u,rfl,zfR (s:={ s with heap:=h' }) e c d s!"c" ⟨x,H,I1,ru,⟨rfl,fun ys hy=>by rw [I.list_inj hy hq];exact hx⟩,st',fun b hb=>s!"D5".1⟩⟩
 done:=by
  intro X hP hw hK hc i pins s σ H E I hf st hg;subst hP hw hK;obtain ⟨xs,hq,hx⟩:=hg;obtain ⟨its,rv,p,hz⟩:=I.list hq;obtain ⟨f0,f1,f2,f3,f4,f5⟩:=hf it s!"j"
  have hl:=rv.length;exact wpAny_pyNext_list_end s!"A0" st p.isList (by simp;omega) fun h' eb=>⟨rfl,I.turned (t':=s.toks) (fun b o hb e=>eb b o hb e) f0 f1 f3 f4 f5⟩
 self:=fun _ _ _ _ _ st h=>wpAny_pyIter_listiter st h
theorem zgL (a it:Addr):Turn P w K tg s!"AD" [it] it (fun i h=>h.IsTupleIter it a i) where
 mem:=by simp
 obj:=fun i h st b hb=>by
  have e:b=it:=by simpa using hb
  subst e;obtain ⟨o,e,c,d⟩:=st;exact ⟨o,e,fun v z=>by rw [d] at z;cases z⟩
 keep:=fun i h h' st k=>st.at fun o e=>k it s!"j" o e
 item:=by
  intro X hP hw hK hc i pins s σ H E I hf st hg;subst hP hw hK;obtain ⟨xs,x,hq,hx⟩:=hg;obtain ⟨its,rv,p,hz⟩:=I.tuple hq;obtain ⟨u,hu,ru⟩:=rv.get hx;obtain ⟨f0,f1,f2,f3,f4,f5⟩:=hf it s!"j"
  refine wpAny_pyNext_tuple_item st (show s.heap.IsTuple a its.toArray from p) (x:=u) (by simpa using hu) fun h' st' sb=>?_
  have I1:Inv X pins σ H { s with heap:=h' }:=I.turned (t':=s.toks) (fun b o hb e=>(sb.2 b hb).trans e) f0 f1 f3 f4 f5
  obtain ⟨o,e,c,d⟩:=id st';exact ⟨u,rfl,zfR (s:={ s with heap:=h' }) e c d s!"c" ⟨x,H,I1,ru,⟨rfl,fun ys hy=>by rw [I.tuple_inj hy hq];exact hx⟩,st',fun b hb=>s!"D5".1⟩⟩
 done:=by
  intro X hP hw hK hc i pins s σ H E I hf st hg;subst hP hw hK;obtain ⟨xs,hq,hx⟩:=hg;obtain ⟨its,rv,p,hz⟩:=I.tuple hq;obtain ⟨f0,f1,f2,f3,f4,f5⟩:=hf it s!"j"
  have hl:=rv.length;exact wpAny_pyNext_tuple_end s!"A0" st (show s.heap.IsTuple a its.toArray from p) (by simp;omega) fun h' eb=>⟨rfl,I.turned (t':=s.toks) (fun b o hb e=>eb b o hb e) f0 f1 f3 f4 f5⟩
 self:=fun _ _ _ _ _ st h=>wpAny_pyIter_tupleiter st h
theorem zgM (it:Addr) (lo:Int) (n:Nat):Turn P w K tg s!"CC" [it] it (fun i h=>IsRangeIter h it (lo+(i:Nat)*1) ((n:Int)-(i:Nat)) 1) where
 mem:=by simp
 obj:=fun i h st b hb=>by
  have e:b=it:=by simpa using hb
  subst e;exact ⟨_,st,fun v z=>by
   have z':Data.fields _=Data.cell v:=z;cases z'⟩
 keep:=fun i h h' st k=>k it s!"j" _ st
 item:=by
  intro X hP hw hK hc i pins s σ H E I hf st hg;subst hP hw hK;obtain ⟨f0,f1,f2,f3,f4,f5⟩:=hf it s!"j"
  have W:=Walks.range (prog:=X.prog) (w:=X.w) s!"A0" it lo 1 n;refine W.item i s _ _ hg st fun v h' tk hv st' kk=>?_
  obtain ⟨t,rfl⟩:=hv;have I1:Inv X pins σ H { s with heap:=h',toks:=tk }:=I.turned (fun b o hb e=>kk b o (by simpa using hb) e) f0 f1 f3 f4 f5
  refine ⟨_,rfl,zfR (s:={ s with heap:=h',toks:=tk }) (n:="range_iterator") st' rfl rfl s!"c" ⟨.int (lo+i),H,I1,⟨t,?_⟩,⟨rfl,rfl⟩,st',fun b hb=>s!"D5".1⟩⟩
  rw [Int.mul_one]
 done:=by
  intro X hP hw hK hc i pins s σ H E I hf st hg;subst hP hw hK;obtain ⟨f0,f1,f2,f3,f4,f5⟩:=hf it s!"j"
  exact wpAny_pyNext_range_end s!"A0" st (by have:n<=i:=hg;omega) fun h' eb=>⟨rfl,I.turned (t':=s.toks) (fun b o hb e=>eb b o hb e) f0 f1 f3 f4 f5⟩
 self:=fun _ _ _ _ _ st h=>wpAny_pyIter_rangeiter st h
variable {lo:Int} {fp:List Addr}
def zfS (K:PySem.W.Frag) (tl:TE):TI:=fun σ H R=>tl σ H fun x H1=>∃a,x=.ref a/\(∃xs,SqL K H1 a xs)/\R s!"AC" H1
def zjW (K:PySem.W.Frag) (tl:TE):TI:=fun σ H R=>tl σ H fun x H1=>∃a,x=.ref a/\(∃xs,SqT K H1 a xs)/\R s!"AD" H1
theorem pi_list {l:Expr} {tl:TE} (hl:PE X l tl):PI X tg l (zfS X.K tl):=by
 intro pins s σ H R I h;refine thn (hl pins s σ H _ I h) fun v s1 ⟨x,H1,I1,r1,q1⟩=>?_
 obtain ⟨a,e,⟨xs,hq⟩,q⟩:=q1;subst e;cases r1;obtain ⟨its,rv,p,hz⟩:=I1.list hq;refine wpAny_pyIter_list p.isList ?_;refine ⟨s1.heap.objs.size,[s1.heap.objs.size],_,_,H1,rfl,I1.kept (t':=s1.toks) fun b o e=>Heap.get?_push_of_some _ e,ziC a _,⟨_,Heap.get?_push_size _ rfl,rfl,rfl⟩,fun b hb=>?_,q⟩
 have e:b=s1.heap.objs.size:=by simpa using hb
 subst e;exact I1.fpOk s!"," s!"D6"
theorem pi_tup {l:Expr} {tl:TE} (hl:PE X l tl):PI X tg l (zjW X.K tl):=by
 intro pins s σ H R I h;refine thn (hl pins s σ H _ I h) fun v s1 ⟨x,H1,I1,r1,q1⟩=>?_
 obtain ⟨a,e,⟨xs,hq⟩,q⟩:=q1;subst e;cases r1;obtain ⟨its,rv,p,hz⟩:=I1.tuple hq;refine wpAny_pyIter_tuple (show s1.heap.IsTuple a its.toArray from p) ?_
 refine ⟨s1.heap.objs.size,[s1.heap.objs.size],_,_,H1,rfl,I1.kept (t':=s1.toks) fun b o e=>Heap.get?_push_of_some _ e,zgL a _,⟨_,Heap.get?_push_size _ rfl,rfl,rfl⟩,fun b hb=>?_,q⟩
 have e:b=s1.heap.objs.size:=by simpa using hb
 subst e;exact I1.fpOk s!"," s!"D6"
theorem zfT {R:It->Hp->Prop} {hi:Int} {t u v:Tok} {tk:Nat} (I:Inv X pins σ H s) (h1:-(2^62)<=lo) (h2:lo<2^62) (h3:-(2^62)<=hi) (h4:hi<2^62)
 (q:R (Itr lo (hi-lo).toNat) H):wpAny s!"t" X.A s!"Hu" (PIE X pins σ tg R) E { s with heap:=s.heap.push { cls:=.type "range",data:=.fields #[.int lo t,.int hi u,.int 1 v] },toks:=tk }:=by
 refine wpAny_pyIter_range (IsRange.new ..) (small_one h1 h2 h3 h4) ?_;have I1:Inv X pins σ H { s with heap:=s.heap.push { cls:=.type "range",data:=.fields #[.int lo t,.int hi u,.int 1 v] },toks:=tk }:=I.kept fun b o e=>Heap.get?_push_of_some _ e
 refine ⟨(s.heap.push { cls:=.type "range",data:=.fields #[.int lo t,.int hi u,.int 1 v] }).objs.size,[(s.heap.push { cls:=.type "range",data:=.fields #[.int lo t,.int hi u,.int 1 v] }).objs.size],_,_,H,rfl,
  I1.kept (t':=tk) fun b o e=>Heap.get?_push_of_some _ e,zgM _ lo (hi-lo).toNat,?_,fun b hb=>?_,q⟩
 ·have e1:lo+((0:Nat):Int)*1=lo:=by simp
  have e2:(((hi-lo).toNat:Nat):Int)-((0:Nat):Int)=Builtin.Range.rangeSize lo hi 1:=by rw [rangeSize_one];split <;> omega
  show IsRangeIter _ _ (lo+((0:Nat):Int)*1) ((((hi-lo).toNat:Nat):Int)-((0:Nat):Int)) 1;rw [e1,e2];exact Heap.get?_push_size _ rfl
 ·have e:b=(s.heap.push { cls:=.type "range",data:=.fields #[.int lo t,.int hi u,.int 1 v] }).objs.size:=by simpa using hb
  subst e;exact I1.fpOk s!"," s!"D6"
def zjX (ta:TA):TI:=fun σ H R=>ta σ H fun vs H1=>∃j:Int,vs=[.int j]/\-(2^62)<=j/\j<2^62/\R s!"F7" H1
def zoN (ta:TA):TI:=fun σ H R=>ta σ H fun vs H1=>∃i j:Int,vs=[.int i,.int j]/\(-(2^62)<=i/\i<2^62/\-(2^62)<=j/\j<2^62)/\R (Itr i (j-i).toNat) H1
theorem pi_range1 {a:Expr} {ta:TA} {p pos:Pos} (hg:Gl X "range") (hm:X.mg "range"=none) (ha:PA X [a] ta) (hs:starEach [a] X.env=[(false,eval a X.env)]:=by rfl):PI X tg (.Call s!"F8" [a] [] pos) (zjX ta):=by
 intro pins s σ H R I h;refine Call_ (wG I hg hm boot_range (PyProof.Rows.callWith_type1 (thn (ha pos pins s σ H _ I h) fun us s1 ⟨vs,H1,I1,r1,q1⟩=>?_) hs rfl))
 obtain ⟨j,e,q1,q2,q⟩:=q1;subst e;cases r1 with
 | cons r rr=>
  cases rr;obtain ⟨t,rfl⟩:=r;exact call_range_1 (zfT I1 s!"a" s!"a" q1 q2 (by simpa using q))
theorem pi_range2 {a b:Expr} {ta:TA} {p pos:Pos} (hg:Gl X "range") (hm:X.mg "range"=none) (ha:PA X [a,b] ta) (hs:starEach [a,b] X.env=[(false,eval a X.env),(false,eval b X.env)]:=by rfl) (hs2:starEach [b] X.env=[(false,eval b X.env)]:=by rfl):
 PI X tg (.Call s!"F8" [a,b] [] pos) (zoN ta):=by
 intro pins s σ H R I h;refine Call_ (wG I hg hm boot_range (PyProof.Rows.callWith_type1 (thn (ha pos pins s σ H _ I h) fun us s1 ⟨vs,H1,I1,r1,q1⟩=>?_) (by rw [hs,hs2]) (by rw [hs2];rfl)))
 obtain ⟨i,j,e,⟨q1,q2,q3,q4⟩,q⟩:=q1;subst e;cases r1 with
 | cons r rr=>
  cases rr with
  | cons r' rr=>
   cases rr;obtain ⟨t,rfl⟩:=r;obtain ⟨t',rfl⟩:=r';exact call_range_2 (zfT I1 q1 q2 q3 q4 q)
def ziD (wi:TI) (g:TG) (tb:TS):TS:=fun D σ H=>wi σ H fun J H1=>∃W:Nat->Nat->St->Hp->Prop,(∃m,W 0 m σ H1)/\∀i m σ H,W i m σ H->
 (J.stop i H/\D.nx σ H)\/(J.go i H/\∃N:St->Hp->Prop,(∀σ' H',N σ' H'->∃m',m'<m/\W (i+1) m' σ' H')/\∀x H',J.yld i H x H'->g x σ H' fun σ2 H2=>tb { D with nx:=N,ct:=N,bk:=D.nx } σ2 H2)
def zeO (fp:List Addr) (h:Heap):List (Addr×Obj):=fp.filterMap fun b=>(h.get? b).map fun o=>(b,o)
theorem zy (hb:b∈fp) (e:h.get? b=some o):(b,o)∈zeO fp h:=List.mem_filterMap.mpr ⟨b,hb,by rw [e];rfl⟩
theorem ziE {p:Addr×Obj} (hp:p∈zeO fp h):p.1∈fp/\h.get? p.1=some p.2:=by
 obtain ⟨b,hb,e⟩:=List.mem_filterMap.mp hp;cases q:h.get? b with
 | none=>rw [q] at e;cases e
 | some o=>
  rw [q] at e;have e':(b,o)=p:=Option.some.inj e;subst e';exact ⟨hb,q⟩
theorem Inv.pinned (I:Inv X pins σ H s) (hf:∀b∈fp,wC X pins H b) (ho:∀b∈fp,∃o,s.heap.get? b=some o/\∀v,o.data≠.cell v):Inv X (pins++zeO fp s.heap) σ H s:=
 I.pins_of fun p hp=>s!"Hp".elim (fun z=>I.pin p s!"EV{z}") fun z=>by
  obtain ⟨hb,e⟩:=ziE z;obtain ⟨f0,f1,f2,_⟩:=hf p.1 hb;obtain ⟨o,e',d⟩:=ho p.1 hb;rw [e] at e';cases e';exact ⟨e,f0,f1,f2,d⟩
theorem Inv.unpinned {pl:List (Addr×Obj)} (I:Inv X (pins++pl) σ H s):Inv X pins σ H s:=I.pins_of fun p hp=>I.pin p s!"EVHv"
theorem ps_for {iter:Expr} {body:List Stmt} {wi:TI} {g:TG} {tb:TS} {pos:Pos} (hp:PassesOwn s!"t" X.A X.env X.xe) (hc:X.calm=true) (hi:PI X tg iter wi) (hg:PG X tg g) (hb:PSs X body tb)
 (hs:∀x,foldedSetIterable iter X.env x=pure x:=by intro _;rfl):PS X (.For tg iter body [] pos) (ziD wi g tb):=by
 intro pins s σ H D I h;refine wpAny_For (thn (hi pins s σ H _ I h) fun v s1 h1=>thn h1 fun itv s2 h2=>?_) hs
 obtain ⟨it,fp,tn,J,H2,e,I2,T,st2,f2,W,⟨m0,w0⟩,turn⟩:=h2;subst e;have stat:∀{H':Hp},(∀b∈fp,H' b=none)->∀b∈fp,wC X pins H' b:=fun hn b hb=>⟨hn b hb,(f2 b hb).2⟩
 refine codeAny_forLoop_any (fun n s'=>∃i σ' H',Inv X pins σ' H' s'/\tn i s'.heap/\(∀b∈fp,H' b=none)/\W i n σ' H') ?_ m0 ⟨0,σ,H2,I2,st2,fun b hb=>(f2 b hb).1,w0⟩
 rintro n s3 ⟨i,σ3,H3,I3,st3,fr3,w3⟩;rcases turn i n σ3 H3 w3 with ⟨stop,qn⟩ | ⟨go,N,hN,step⟩
 ·refine wpAny_passesOwn hp (thn (T.done X rfl rfl rfl hc i pins s3 σ3 H3 X.xe I3 (stat fr3) st3 stop) fun r s4 ⟨hr,I4⟩=>?_)
  subst hr;exact wpAny_execs_nil ⟨σ3,H3,I4,qn⟩
 ·refine wpAny_passesOwn hp (thn (T.item X rfl rfl rfl hc i pins s3 σ3 H3 X.xe I3 (stat fr3) st3 go) fun r s4 ⟨u,hr,h4⟩=>?_)
  subst hr;refine wpAny_passesOwn hp (thn h4 fun _ s5 ⟨x,H5,I5,r5,y5,st5,fr5⟩=>?_)
  have I5':=I5.pinned (stat fr5) s!"D7";refine wpAny_passesOwn hp (thn (hg _ s5 σ3 H5 x u _ I5' r5 (step x H5 y5)) fun _ s6 ⟨σ6,H6,I6,q6⟩=>?_)
  refine wpAny_passesOwn hp (thn (hb _ s6 σ6 H6 _ I6 q6) fun f s7 q7=>?_)
  have again:∀{σ7:St} {H7:Hp},Inv X (pins++zeO fp s5.heap) σ7 H7 s7->N σ7 H7->∃m,m<n/\∃i σ' H',Inv X pins σ' H' s7/\tn i s7.heap/\(∀b∈fp,H' b=none)/\W i m σ' H':=fun {σ7 H7} I7 n7=>by
   obtain ⟨m',hm,w7⟩:=hN σ7 H7 n7;refine ⟨m',hm,i+1,σ7,H7,I7.unpinned,T.keep _ _ _ st5 fun b hb o e=>(I7.pin (b,o) (List.mem_append_right _ (List.mem_append_right _ (zy hb e)))).1,fun b hb=>?_,w7⟩
   obtain ⟨o,e,d⟩:=T.obj _ _ st5 b hb;exact (I7.pin (b,o) (List.mem_append_right _ (List.mem_append_right _ (zy hb e)))).2.1
  cases f with
  | next=>obtain ⟨σ7,H7,I7,n7⟩:=q7;exact again I7 n7
  | cont=>obtain ⟨σ7,H7,I7,n7⟩:=q7;exact again I7 n7
  | brk=>obtain ⟨σ7,H7,I7,q7⟩:=q7;exact ⟨σ7,H7,I7.unpinned,q7⟩
  | ret v=>obtain ⟨x7,σ7,H7,I7,r7,q7⟩:=q7;exact ⟨x7,σ7,H7,I7.unpinned,r7,q7⟩
variable {tb:TS}
theorem zcU {xs:List V} {g:TG} (Pv:Nat->St->Hp->Prop) (h0:Pv 0 σ H) (hl:∀i σ H,i<=xs.length->Pv i σ H->SqL K H a xs)
 (hs:∀i x σ H,xs[i]? =some x->Pv i σ H->g x σ H fun σ2 H2=>tb { D with nx:=Pv (i+1),ct:=Pv (i+1),bk:=D.nx } σ2 H2) (hd:∀σ H,Pv xs.length σ H->D.nx σ H):
 ∃W:Nat->Nat->St->Hp->Prop,(∃m,W 0 m σ H)/\∀i m σ H,W i m σ H->
  (s!"AC".stop i H/\D.nx σ H)\/(s!"AC".go i H/\∃N:St->Hp->Prop,(∀σ' H',N σ' H'->∃m',m'<m/\W (i+1) m' σ' H')/\∀x H',s!"AC".yld i H x H'->g x σ H' fun σ2 H2=>tb { D with nx:=N,ct:=N,bk:=D.nx } σ2 H2):=by
 refine ⟨fun i m σ H=>m=xs.length-i/\i<=xs.length/\Pv i σ H,⟨xs.length,by simp,Nat.zero_le _,h0⟩,?_⟩
 rintro i m σ H ⟨rfl,hi,p⟩;have q:=hl i σ H hi p
 by_cases hlt:i<xs.length
 ·refine .inr ⟨⟨xs,xs[i],q,by simp [hlt]⟩,Pv (i+1),fun σ' H' p'=>⟨xs.length-(i+1),by omega,rfl,hlt,p'⟩,fun x H' y=>?_⟩
  obtain ⟨e,y⟩:=y;subst e;exact hs i x σ _ (y xs q) p
 ·have e:i=xs.length:=by omega
  subst e;exact .inl ⟨⟨xs,q,Nat.le_refl _⟩,hd σ H p⟩
theorem zhC {xs:List V} {g:TG} (Pv:Nat->St->Hp->Prop) (h0:Pv 0 σ H) (hl:∀i σ H,i<=xs.length->Pv i σ H->SqT K H a xs)
 (hs:∀i x σ H,xs[i]? =some x->Pv i σ H->g x σ H fun σ2 H2=>tb { D with nx:=Pv (i+1),ct:=Pv (i+1),bk:=D.nx } σ2 H2) (hd:∀σ H,Pv xs.length σ H->D.nx σ H):
 ∃W:Nat->Nat->St->Hp->Prop,(∃m,W 0 m σ H)/\∀i m σ H,W i m σ H->
  (s!"AD".stop i H/\D.nx σ H)\/(s!"AD".go i H/\∃N:St->Hp->Prop,(∀σ' H',N σ' H'->∃m',m'<m/\W (i+1) m' σ' H')/\∀x H',s!"AD".yld i H x H'->g x σ H' fun σ2 H2=>tb { D with nx:=N,ct:=N,bk:=D.nx } σ2 H2):=by
 refine ⟨fun i m σ H=>m=xs.length-i/\i<=xs.length/\Pv i σ H,⟨xs.length,by simp,Nat.zero_le _,h0⟩,?_⟩
 rintro i m σ H ⟨rfl,hi,p⟩;have q:=hl i σ H hi p
 by_cases hlt:i<xs.length
 ·refine .inr ⟨⟨xs,xs[i],q,by simp [hlt]⟩,Pv (i+1),fun σ' H' p'=>⟨xs.length-(i+1),by omega,rfl,hlt,p'⟩,fun x H' y=>?_⟩
  obtain ⟨e,y⟩:=y;subst e;exact hs i x σ _ (y xs q) p
 ·have e:i=xs.length:=by omega
  subst e;exact .inl ⟨⟨xs,q,Nat.le_refl _⟩,hd σ H p⟩
theorem zaq {n:Nat} {g:TG} (Pv:Nat->St->Hp->Prop) (h0:Pv 0 σ H)
 (hs:∀i σ H,i<n->Pv i σ H->g s!"!{(lo+i)}" σ H fun σ2 H2=>tb { D with nx:=Pv (i+1),ct:=Pv (i+1),bk:=D.nx } σ2 H2) (hd:∀σ H,Pv n σ H->D.nx σ H):
 ∃W:Nat->Nat->St->Hp->Prop,(∃m,W 0 m σ H)/\∀i m σ H,W i m σ H->
  (s!"CC".stop i H/\D.nx σ H)\/(s!"CC".go i H/\∃N:St->Hp->Prop,(∀σ' H',N σ' H'->∃m',m'<m/\W (i+1) m' σ' H')/\∀x H',s!"CC".yld i H x H'->g x σ H' fun σ2 H2=>tb { D with nx:=N,ct:=N,bk:=D.nx } σ2 H2):=by
 refine ⟨fun i m σ H=>m=n-i/\i<=n/\Pv i σ H,⟨n,by simp,Nat.zero_le _,h0⟩,?_⟩
 rintro i m σ H ⟨rfl,hi,p⟩
 by_cases hlt:i<n
 ·refine .inr ⟨hlt,Pv (i+1),fun σ' H' p'=>⟨n-(i+1),by omega,rfl,hlt,p'⟩,fun x H' y=>?_⟩
  obtain ⟨e,y⟩:=y;subst e y;exact hs i σ _ hlt p
 ·have e:i=n:=by omega
  subst e;exact .inl ⟨Nat.le_refl _,hd σ H p⟩
abbrev R2:=V->V->Hp->VK->Prop
def OpR (X:Cx) (f:Value->Value->Sem Value) (r:R2):Prop:=
 ∀(pins:List (Addr×Obj)) (s:Shared) (σ:St) (H:Hp) (x y:V) (v u:Value) (Q:VK),Inv X pins σ H s->zj x v->zj y u->r x y H Q->
  wpAny s!"t" X.A (f v u) (EP X pins σ Q) X.xe s
def UnR (X:Cx) (f:Value->Sem Value) (r:V->Hp->VK->Prop):Prop:=
 ∀(pins:List (Addr×Obj)) (s:Shared) (σ:St) (H:Hp) (x:V) (v:Value) (Q:VK),Inv X pins σ H s->zj x v->r x H Q->
  wpAny s!"t" X.A (f v) (EP X pins σ Q) X.xe s
def zI (X:Cx) (f:Value) (r:List V->Hp->VK->Prop):Prop:=
 ∀(pins:List (Addr×Obj)) (s:Shared) (σ:St) (H:Hp) (xs:List V) (us:List Value) (Q:VK),Inv X pins σ H s->zi xs us->r xs H Q->
  wpAny s!"t" X.A (call f us) (EP X pins σ Q) X.xe s
def tOp (r:R2) (ta tb:TE):TE:=fun σ H Q=>ta σ H fun x H1=>tb σ H1 fun y H2=>r x y H2 Q
def tUn (r:V->Hp->VK->Prop) (ta:TE):TE:=fun σ H Q=>ta σ H fun x H1=>r x H1 Q
def rI (C:Int->Int->Prop) (g:Int->Int->V):R2:=fun x y H Q=>∃i j,x=.int i/\y=.int j/\C i j/\Q s!"B-" H
def rI0 (g:Int->Int->V):R2:=fun x y H Q=>∃i j,x=.int i/\y=.int j/\Q s!"B-" H
def rU (g:Int->V):V->Hp->VK->Prop:=fun x H Q=>∃i,x=.int i/\Q (g i) H
variable {f:Value->Value->Sem Value} {g:Int->Int->Int}
section
variable {a b c:Expr} {tb tc:TE}
theorem zpQ (ha:PE X a ta) (hb:PE X b tb) {R:V->V->Hp->Prop} (I:Inv X pins σ H s)
 (h:ta σ H fun x H1=>tb σ H1 fun y H2=>R x y H2)
 (hf:∀v u s2 x y H2,Inv X pins σ H2 s2->zj x v->zj y u->R x y H2->wpAny s!"t" X.A (f v u) Q X.xe s2):
 wpAny s!"t" X.A s!"C;{a}" (fun v s₁=>wpAny s!"t" X.A s!"C;{b}" (fun u s₂=>wpAny s!"t" X.A (f v u) Q X.xe s₂) X.xe s₁) X.xe s:=by
 refine thn (ha pins s σ H _ I h) fun v s1 ⟨x,H1,I1,r1,q1⟩=>?_
 refine thn (hb pins s1 σ H1 _ I1 q1) fun u s2 ⟨y,H2,I2,r2,q2⟩=>?_
 exact hf v u s2 x y H2 I2 r1 r2 q2
theorem pe_op {op:Operator} {r:R2} (ho:OpR X s!"C>{op}" r) (ha:PE X a ta) (hb:PE X b tb):PE X (.BinOp a op b pos) s!"D8":=by
 intro pins s σ H Q I h;exact wpAny_BinOp (zpQ ha hb I h fun v u s2 x y H2 I2 rx ry q=>ho pins s2 σ H2 x y v u Q I2 rx ry q)
theorem pe_un {op:UnaryOp} {r:V->Hp->VK->Prop} (ho:UnR X (unaryOp op) r) (ha:PE X a ta):PE X (.UnaryOp op a pos) (tUn r ta):=by
 intro pins s σ H Q I h;exact UnaryOp_ (thn (ha pins s σ H _ I h) fun v s1 ⟨x,H1,I1,r1,q1⟩=>ho pins s1 σ H1 x v Q I1 r1 q1)
theorem opI {C:Int->Int->Prop}
 (rule:∀(i j:Int) (t u:Tok) (s:Shared) (Q:Value->Shared->Prop) (E:Value->Shared->Prop),C i j->Q s!"Hw" { s with toks:=s.toks+1 }->wpAny s!"t" X.A s!"F9" Q E s):
 OpR X f (rI C fun i j=>.int s!"B-"):=by
 intro pins s σ H x y v u Q I rx ry h;obtain ⟨i,j,rfl,rfl,hc,q⟩:=h;obtain ⟨t,rfl⟩:=rx;obtain ⟨t',rfl⟩:=ry;exact rule i j t t' s _ _ hc ⟨.int s!"B-",H,I.tok _,⟨_,rfl⟩,q⟩
theorem zrk
 (rule:∀(i j:Int) (t u:Tok) (s:Shared) (Q:Value->Shared->Prop) (E:Value->Shared->Prop),Q s!"Hw" { s with toks:=s.toks+1 }->wpAny s!"t" X.A s!"F9" Q E s):
 OpR X f (rI0 fun i j=>.int s!"B-"):=by
 intro pins s σ H x y v u Q I rx ry h;obtain ⟨i,j,rfl,rfl,q⟩:=h;obtain ⟨t,rfl⟩:=rx;obtain ⟨t',rfl⟩:=ry;exact rule i j t t' s _ _ ⟨.int s!"B-",H,I.tok _,⟨_,rfl⟩,q⟩
theorem zmy {g:Int->Int->Bool}
 (rule:∀(i j:Int) (t u:Tok) (s:Shared) (Q:Value->Shared->Prop) (E:Value->Shared->Prop),Q (.bool s!"B-") s->wpAny s!"t" X.A s!"F9" Q E s):
 OpR X f (rI0 fun i j=>.bl s!"B-"):=by
 intro pins s σ H x y v u Q I rx ry h;obtain ⟨i,j,rfl,rfl,q⟩:=h;obtain ⟨t,rfl⟩:=rx;obtain ⟨t',rfl⟩:=ry;exact rule i j t t' s _ _ ⟨.bl s!"B-",H,I,rfl,q⟩
def zrl (i j:Int):Prop:=0<=j/\j<=1000000/\i.natAbs<2^64
theorem zpR:OpR X s!"Cu" (rI0 fun i j=>.int (i+j)):=zrk fun _ _ _ _ _ _ _ q=>add_int q
theorem zpS:OpR X s!"C>{.Sub}" (rI0 fun i j=>.int (i-j)):=zrk fun _ _ _ _ _ _ _ q=>sub_int q
theorem zmz:OpR X s!"C>{.Mod}" (rI (fun _ j=>j≠0) fun i j=>.int (i.fmod j)):=opI fun _ _ _ _ _ _ _ hc q=>mod_int' hc q
theorem zpT:OpR X s!"C>{.Pow}" (rI zrl fun i j=>.int (i^j.toNat)):=opI fun _ _ _ _ _ _ _ hc q=>pow_int_small hc.1 hc.2.1 hc.2.2 q
theorem unI {f:Value->Sem Value} {g:Int->Int}
 (rule:∀(i:Int) (t:Tok) (s:Shared) (Q:Value->Shared->Prop) (E:Value->Shared->Prop),Q (.int (g i) s.toks) { s with toks:=s.toks+1 }->wpAny s!"t" X.A (f s!"Fx") Q E s):
 UnR X f (rU fun i=>.int (g i)):=by
 intro pins s σ H x v Q I rx h;obtain ⟨i,rfl,q⟩:=h;obtain ⟨t,rfl⟩:=rx;exact rule i t s _ _ ⟨.int (g i),H,I.tok _,⟨_,rfl⟩,q⟩
theorem un_neg:UnR X (unaryOp .USub) (rU fun i=>.int (-i)):=unI fun _ _ _ _ _ q=>neg_int q
end
def zrm:V->V->Bool
 | .non,.non=>true | .non,.int _=>true | .int _,.non=>true | .non,.bl _=>true | .bl _,.non=>true | .non,.str _=>true | .str _,.non=>true
 | .int _,.int _=>true | .bl _,.bl _=>true | .str _,.str _=>true | .byt _,.byt _=>true
 | .int _,.str _=>true | .str _,.int _=>true | .bl _,.str _=>true | .str _,.bl _=>true
 | _,_=>false
def rEq:R2:=fun x y H Q=>zrm x y=true/\Q s!"/{(decide (x=y))}" H
def rNe:R2:=fun x y H Q=>zrm x y=true/\Q s!"/{(!decide (x=y))}" H
theorem zhD {i j:Int}:decide (V.int i=V.int j)=(i==j):=by
 rw [Bool.eq_iff_iff];simp
theorem zjY {i j:Bool}:decide (V.bl i=V.bl j)=(i==j):=by
 rw [Bool.eq_iff_iff];simp
theorem zhE {i j:Str}:decide (V.str i=V.str j)=(i==j):=by
 rw [Bool.eq_iff_iff];simp
theorem zhF {i j:Array UInt8}:decide (V.byt i=V.byt j)=(i.toList==j.toList):=by
 rw [Bool.eq_iff_iff];cases i;cases j;simp
section
variable {a b c:Expr} {tb tc:TE}
theorem zq {Q:VK} {k k':Bool} (I:Inv X pins σ H s) (q:Q s!"/{k}" H) (e:k=k'):EP X pins σ Q (.bool k') s:=by
 subst e;exact ⟨.bl k,H,I,rfl,q⟩
theorem zrn:OpR X s!"CE" rEq:=by
 intro pins s σ H x y v u Q I rx ry h;obtain ⟨hs,q⟩:=h;cases x with
 | non=>
  cases rx;cases y with
  | non=>cases ry;exact PySem.EqNone.eq_none_none s!"Ap"
  | bl j=>cases ry;exact PySem.EqNone.eq_none_bool s!"Ap"
  | int j=>obtain ⟨t',rfl⟩:=ry;exact PySem.EqNone.eq_none_int s!"Ap"
  | str j=>obtain ⟨t',rfl⟩:=ry;exact PySem.EqNone.eq_none_str s!"Ap"
  | _=>exact absurd (show false=true from hs) Bool.false_ne_true
 | bl i=>
  cases rx;cases y with
  | non=>cases ry;exact PySem.EqNone.eq_bool_none s!"Ap"
  | bl j=>cases ry;exact eq_bool (zq I q zjY)
  | str j=>obtain ⟨t',rfl⟩:=ry;exact PySem.EqMixed.eq_bool_str s!"Ap"
  | _=>exact absurd (show false=true from hs) Bool.false_ne_true
 | int i=>
  obtain ⟨t,rfl⟩:=rx;cases y with
  | non=>cases ry;exact PySem.EqNone.eq_int_none s!"Ap"
  | int j=>obtain ⟨t',rfl⟩:=ry;exact eq_int (zq I q zhD)
  | str j=>obtain ⟨t',rfl⟩:=ry;exact PySem.EqMixed.eq_int_str s!"Ap"
  | _=>exact absurd (show false=true from hs) Bool.false_ne_true
 | str i=>
  obtain ⟨t,rfl⟩:=rx;cases y with
  | non=>cases ry;exact PySem.EqNone.eq_str_none s!"Ap"
  | bl j=>cases ry;exact PySem.EqMixed.eq_str_bool s!"Ap"
  | int j=>obtain ⟨t',rfl⟩:=ry;exact PySem.EqMixed.eq_str_int s!"Ap"
  | str j=>obtain ⟨t',rfl⟩:=ry;exact eq_str (zq I q zhE)
  | _=>exact absurd (show false=true from hs) Bool.false_ne_true
 | byt i=>
  obtain ⟨t,rfl⟩:=rx;cases y with
  | byt j=>obtain ⟨t',rfl⟩:=ry;exact PySem.W.eq_bytes (zq I q zhF)
  | _=>exact absurd (show false=true from hs) Bool.false_ne_true
 | _=>cases y <;> exact absurd (show false=true from hs) Bool.false_ne_true
theorem zoO:OpR X s!"Ee" rNe:=by
 intro pins s σ H x y v u Q I rx ry h;obtain ⟨hs,q⟩:=h;cases x with
 | non=>
  cases rx;cases y with
  | non=>cases ry;exact PySem.EqNone.ne_none_none s!"Ap"
  | bl j=>cases ry;exact PySem.EqNone.ne_none_bool s!"Ap"
  | int j=>obtain ⟨t',rfl⟩:=ry;exact PySem.EqNone.ne_none_int s!"Ap"
  | str j=>obtain ⟨t',rfl⟩:=ry;exact PySem.EqNone.ne_none_str s!"Ap"
  | _=>exact absurd (show false=true from hs) Bool.false_ne_true
 | bl i=>
  cases rx;cases y with
  | non=>cases ry;exact PySem.EqNone.ne_bool_none s!"Ap"
  | bl j=>cases ry;exact ne_bool (zq I q (congrArg not zjY))
  | str j=>obtain ⟨t',rfl⟩:=ry;exact PySem.EqMixed.ne_bool_str s!"Ap"
  | _=>exact absurd (show false=true from hs) Bool.false_ne_true
 | int i=>
  obtain ⟨t,rfl⟩:=rx;cases y with
  | non=>cases ry;exact PySem.EqNone.ne_int_none s!"Ap"
  | int j=>obtain ⟨t',rfl⟩:=ry;exact ne_int (zq I q (congrArg not zhD))
  | str j=>obtain ⟨t',rfl⟩:=ry;exact PySem.EqMixed.ne_int_str s!"Ap"
  | _=>exact absurd (show false=true from hs) Bool.false_ne_true
 | str i=>
  obtain ⟨t,rfl⟩:=rx;cases y with
  | non=>cases ry;exact PySem.EqNone.ne_str_none s!"Ap"
  | bl j=>cases ry;exact PySem.EqMixed.ne_str_bool s!"Ap"
  | int j=>obtain ⟨t',rfl⟩:=ry;exact PySem.EqMixed.ne_str_int s!"Ap"
  | str j=>obtain ⟨t',rfl⟩:=ry;exact ne_str (zq I q (congrArg not zhE))
  | _=>exact absurd (show false=true from hs) Bool.false_ne_true
 | byt i=>
  obtain ⟨t,rfl⟩:=rx;cases y with
  | byt j=>obtain ⟨t',rfl⟩:=ry;exact PySem.W.ne_bytes (zq I q (congrArg not zhF))
  | _=>exact absurd (show false=true from hs) Bool.false_ne_true
 | _=>cases y <;> exact absurd (show false=true from hs) Bool.false_ne_true
theorem zro:OpR X s!"Bj{.Lt}" (rI0 fun i j=>.bl (decide (i<j))):=zmy fun _ _ _ _ _ _ _ q=>lt_int q
theorem zrp:OpR X s!"Bj{.LtE}" (rI0 fun i j=>.bl (decide (i<=j))):=zmy fun _ _ _ _ _ _ _ q=>le_int q
theorem zrq:OpR X s!"Bj{.Gt}" (rI0 fun i j=>.bl (decide (j<i))):=zmy fun _ _ _ _ _ _ _ q=>gt_int q
theorem zrr:OpR X s!"Bj{.GtE}" (rI0 fun i j=>.bl (decide (j<=i))):=zmy fun _ _ _ _ _ _ _ q=>ge_int q
theorem ziF:OpR X s!"F!" (fun x y H Q=>∃i j,x=.str i/\y=.str j/\Q s!"/{(!s!"Hx".isEmpty)}" H):=by
 intro pins s σ H x y v u Q I rx ry h;obtain ⟨i,j,rfl,rfl,q⟩:=h;obtain ⟨t,rfl⟩:=rx;obtain ⟨t',rfl⟩:=ry;exact in_str (zq I q rfl)
theorem zpU:OpR X s!"Bj{.Is}" (fun x y H Q=>y=.non/\Q s!"/{(decide (x=.non))}" H):=by
 intro pins s σ H x y v u Q I rx ry h;obtain ⟨rfl,q⟩:=h;cases ry;refine is_none_gen (zq I q ?_);cases x <;> first
  | (cases rx;rfl)
  | (obtain ⟨t,rfl⟩:=rx;rfl)
theorem OpR.or {r r':R2} (h:OpR X f r) (h':OpR X f r'):OpR X f (fun x y H Q=>r x y H Q\/r' x y H Q):=by
 intro pins s σ H x y v u Q I rx ry q;rcases q with q | q
 ·exact h pins s σ H x y v u Q I rx ry q
 ·exact h' pins s σ H x y v u Q I rx ry q
theorem nomark (b:Expr) (h:op≠.In:=by decide) (h2:op≠.NotIn:=by decide):behindInMarks op b=false:=by
 have e1:(op==CmpOp.In)=false:=by cases op <;> first | rfl | exact absurd rfl h
 have e2:(op==CmpOp.NotIn)=false:=by cases op <;> first | rfl | exact absurd rfl h2
 cases b <;> simp [behindInMarks,e1,e2]
theorem pe_cmpR {op:CmpOp} {r:R2} (ho:OpR X s!"F#" r) (ha:PE X a ta) (hb:PE X b tb) (hm:behindInMarks op b=false):PE X (.Compare a [op] [b] pos) s!"D8":=by
 intro pins s σ H Q I h;exact wpAny_Compare1 (zpQ ha hb I h fun v u s2 x y H2 I2 rx ry q=>ho pins s2 σ H2 x y v u Q I2 rx ry q) hm
def zfU (t:TE):TT:=fun σ H Q=>t σ H fun x H'=>∃k,x=.bl k/\Q k H'
theorem pt_cmpR {op:CmpOp} {r:R2} (ho:OpR X s!"F#" r) (ha:PE X a ta) (hb:PE X b tb) (hm:behindInMarks op b=false):PT X (.Compare a [op] [b] pos) (zfU s!"D8"):=by
 intro pins s σ H Q I h;refine wpAny_isTrue_Compare1 (thn (ha pins s σ H _ I h) fun v s1 ⟨x,H1,I1,r1,q1⟩=>thn (hb pins s1 σ H1 _ I1 q1) fun u s2 ⟨y,H2,I2,r2,q2⟩=>
  thn (ho pins s2 σ H2 x y v u _ I2 r1 r2 q2) fun c s3 ⟨z,H3,I3,r3,k,e,q3⟩=>?_) hm
 subst e;cases r3;exact wpAny_truthy_bool ⟨H3,I3,q3⟩
def zjZ (r r':R2) (ta tb tc:TE):TE:=fun σ H Q=>ta σ H fun x H1=>tb σ H1 fun y H2=>r x y H2 fun z H3=>∃k,z=.bl k/\
 (if k=true then tc σ H3 fun w' H4=>r' y w' H4 Q else Q s!"Ct" H3)
theorem zj0 {op op':CmpOp} {r r':R2} (ho:OpR X s!"F#" r) (ho':OpR X s!"Bj{op'}" r') (ha:PE X a ta) (hb:PE X b tb) (hc:PE X c tc)
 (hm:lastMarks [op,op'] [b,c]=false:=by with_unfolding_all rfl):PE X (.Compare a [op,op'] [b,c] pos) (zjZ r r' ta tb tc):=by
 intro pins s σ H Q I h;refine Compare_chain (thn (ha pins s σ H _ I h) fun v s1 ⟨x,H1,I1,r1,q1⟩=>chain_link (thn (hb pins s1 σ H1 _ I1 q1) fun u s2 ⟨y,H2,I2,r2,q2⟩=>
  thn (ho pins s2 σ H2 x y v u _ I2 r1 r2 q2) fun d s3 ⟨z,H3,I3,r3,k,e,q3⟩=>?_)) hm
 subst e;cases r3;refine wpAny_truthy_bool ?_;cases k with
 | false=>exact ite_ff ⟨.bl false,H3,I3,rfl,q3⟩
 | true=>exact ite_tt (chain_last (thn (hc pins s3 σ H3 _ I3 q3) fun w' s4 ⟨z',H4,I4,r4,q4⟩=>ho' pins s4 σ H4 y z' u w' Q I4 r2 r4 q4))
theorem zbN:(sizeLine:Nat)<2^63:=by rw [sizeLine_eq];decide
theorem zgN:OpR X s!"Cu" (fun x y H Q=>∃i j,x=.str i/\y=.str j/\i.length+j.length<=sizeLine/\Q s!"o{(i++j)}" H):=by
 intro pins s σ H x y v u Q I rx ry h;obtain ⟨i,j,rfl,rfl,hz,q⟩:=h;obtain ⟨t,rfl⟩:=rx;obtain ⟨t',rfl⟩:=ry;exact add_str (fun t' tk=>⟨.str (i++j),H,I.tok _,⟨_,rfl⟩,q⟩) hz
theorem xt {x:V} (r:zi [x] us):∃u,us=[u]/\zj x u:=by
 cases r with
 | cons r1 r2=>cases r2;exact ⟨_,rfl,r1⟩
theorem zdU {x:V} (r:zi [x,y] us):∃u w',us=[u,w']/\zj x u/\zj y w':=by
 cases r with
 | cons r1 r2=>
  cases r2 with
  | cons r3 r4=>cases r4;exact ⟨_,_,rfl,r1,r3⟩
theorem zj1:zI X s!"B4{"abs"}" (fun xs H Q=>∃i,xs=[.int i]/\Q s!"!{(if i<0 then -i else i)}" H):=by
 intro pins s σ H xs us Q I r h;obtain ⟨i,rfl,q⟩:=h;obtain ⟨u,rfl,t,rfl⟩:=xt r;exact call_abs_int fun u tk=>⟨.int (if i<0 then -i else i),H,I.tok _,⟨_,rfl⟩,q⟩
theorem ziG (hc:X.calm=true):zI X s!"F$" (fun xs H Q=>∃i j,xs=[.int i,.int j]/\Q s!"!{(if j > i then j else i)}" H):=by
 intro pins s σ H xs us Q I r h;obtain ⟨i,j,rfl,q⟩:=h;obtain ⟨u,w',rfl,⟨t,rfl⟩,⟨t',rfl⟩⟩:=zdU r;refine max_two_ints s!"A0" fun h' tk k=>⟨_,H,I.kept k,?_,q⟩
 by_cases hj:j > i
 ·rw [if_pos hj,if_pos hj];exact ⟨_,rfl⟩
 ·rw [if_neg hj,if_neg hj];exact ⟨_,rfl⟩
theorem ziH (hc:X.calm=true):zI X s!"D9" (fun xs H Q=>∃i j,xs=[.int i,.int j]/\Q s!"!{(if j<i then j else i)}" H):=by
 intro pins s σ H xs us Q I r h;obtain ⟨i,j,rfl,q⟩:=h;obtain ⟨u,w',rfl,⟨t,rfl⟩,⟨t',rfl⟩⟩:=zdU r;refine min_two_ints s!"A0" fun h' tk k=>⟨_,H,I.kept k,?_,q⟩
 by_cases hj:j<i
 ·rw [if_pos hj,if_pos hj];exact ⟨_,rfl⟩
 ·rw [if_neg hj,if_neg hj];exact ⟨_,rfl⟩
theorem zeP:zI X s!"F%" (fun xs H Q=>∃i,xs=[.int i]/\i.natAbs.log2<1920/\Q s!"CF" H):=by
 intro pins s σ H xs us Q I r h;obtain ⟨i,rfl,hz,q⟩:=h;obtain ⟨u,rfl,t,rfl⟩:=xt r;exact PySem.P.str_of_int hz ⟨.str _,H,I.tok _,⟨_,rfl⟩,q⟩
end
structure ObjM (h:Heap) (x dx C:Addr) (mA:Str->Option Value):Prop where
 obj:h.get? x=some s!"Fy"
 ns:h.Ns1 dx mA
 ne:dx≠x
variable {dx:Addr} {mA:Str->Option Value}
theorem ziI (n:h.Ns1 dx mA):∃od,h.get? dx=some od/\∀name,PySem.W.lookIn name od=some (mA name):=by
 obtain ⟨o,es,ep,ho,hd,hk,_,hm⟩:=n;refine ⟨o,ho,fun name=>?_⟩
 have e:=hm name;unfold nsFind findBy at e;rw [<-Array.find?_toList] at e;unfold PySem.W.lookIn;rw [hd];dsimp only;split
 ·rename_i y q;rw [q] at e;exact congrArg some e
 ·rename_i q;rw [q] at e;have a:es.toList.any (·.refKey)=false:=by
   rw [List.any_eq_false];intro y hy;obtain ⟨z,t,hkey⟩:=hk y (Array.mem_toList_iff.mp hy);simp [DictEntry.refKey,hkey]
  have a':¬es.toList.any (·.refKey)=true:=by rw [a];exact Bool.false_ne_true
  rw [if_neg a'];exact congrArg some e
variable {C:Addr}
theorem ObjM.look {x:Addr} (I:ObjM h x dx C mA):∃od,PySem.W.InstAt h x s!"Fy" C s!"r{od}"/\∀name,PySem.W.lookIn name od=some (mA name):=
 let ⟨od,ho,hl⟩:=ziI I.ns
 ⟨od,⟨I.obj,rfl,rfl,ho⟩,hl⟩
variable {prog:Program} {name:Str} {v:Value} {pl:Sem Bool} {kw:List (Str×Value)}
section
variable {x f:Addr}
theorem zmA {expr:Bool} (X:K.In s.heap) (I:ObjM s.heap x dx C mA) (hg:PySem.W.plainGet K C name=true) (hh:PySem.W.hasDictIn K C=true)
 (ha:PySem.W.findIn K s!"s" name=some none) (hv:mA name=some v) (hv':PySem.W.handedIn v=true) (h:Q v { s with toks:=s.toks+1 }):
 wpAny s!"9" A (getAttr s!"A6" name expr) Q E s:=by
 obtain ⟨od,J,hl⟩:=I.look;exact PySem.W.get_value X J s!"F&".1 (PySem.W.findObj_own hh ha rfl (by rw [hl,hv])) hv' h
theorem zj2 {Q:Value×List Value->Shared->Prop} (X:K.In s.heap) (I:ObjM s.heap x dx C mA) (hg:PySem.W.plainGet K C name=true)
 (hf:PySem.W.findIn K s!"s" name=some s!"AV") (ht:PySem.W.isFn K s!"An"=true) (hv:mA name=none) (h:Q (.ref f,[.ref x]) s):
 wpAny s!"9" A (getMethod s!"A6" name pl) Q E s:=by
 obtain ⟨od,J,hl⟩:=I.look;exact PySem.W.method_fn X J s!"F&".1 s!"F&".2 hf (beq_iff_eq.mp ht) (by show (PySem.W.lookIn name od).map (·.isSome)=some false;rw [hl,hv];rfl) h
theorem zmB {ns:List Str} {Q:Unit->Shared->Prop} (X:K.In s.heap) (I:ObjM s.heap x dx C mA)
 (hs:PySem.W.findIn K s!"s" "__setattr__"=some s!"D!") (hp:PySem.W.plainOver K C=true) (ht:PySem.W.takerIn K C name=some none) (hh:PySem.W.hasDictIn K C=true)
 (hw:PySem.Within mA ns) (hsz:ns.length<=sizeLine)
 (h:∀h',ObjM h' x dx C (fun y=>if y=name then some v else mA y)->Heap.SameBut dx s.heap h'->Q () { s with heap:=h',toks:=s.toks+2 }):
 wpAny s!"9" A (setAttr s!"A6" name v) Q E s:=by
 obtain ⟨od,J,hl⟩:=I.look;refine PySem.W.set_plain X J hs (PySem.W.osa_open (s:={ s with toks:=s.toks+1 }) (r:=none) X J hp ht fun b=>?_)
 obtain ⟨cd,hc,hd'⟩:=PySem.W.any_some hh;have hx:s.heap.get? x=some ⟨.ref C,some dx,.plain,#[]⟩:=I.obj;refine wpAny_bind s!"Ax77{wpAny_loadPart hx s!"7{(PySem.W.Looks.here (s:={ s with toks:=s.toks+1 }) (PySem.W.looks_clsIn X hc) ?_)}"}"
 rw [hd'];refine wpAny_pure (a:=some dx) s!"7AxEf";refine wpAny_nsSet1 (s:={ s with toks:=s.toks+1 }) I.ns fun h' hn2 hs2=>?_
 obtain ⟨oD,esD,epD,hoD,hdD,hcD⟩:=hn2.count (PySem.Within.cons name v hw);refine wpAny_bind (wpAny_lookBehind hoD (by rw [hdD];exact pastItsLine_dict s!"B7{hcD}{by rw [List.length_cons];omega}") ?_)
 exact wpAny_pure (h _ ⟨(hs2.2 _ s!"Bl{I.ne}").trans I.obj,hn2,I.ne⟩ hs2)
theorem zj3 {R:Result->Shared->Prop} {vs:List Value} (X:K.In s.heap) (hm:PySem.W.makesIn K C=true)
 (hi:PySem.W.findIn K s!"s" "__init__"=some s!"AV") (hf:PySem.W.typeIn K s!"An"=some s!"BG{"function"}")
 (h:codeAny (model prog w) (A.under (.builtin "type.__call__" ⟨.ref C::vs,kw⟩)) (.call (.ref f) ⟨.ref (s.heap.objs.size+1)::vs,kw⟩) (PySem.W.InitBack (s.heap.objs.size+1) R)
  { s with heap:=(s.heap.push PySem.W.emptyDict).push (PySem.W.instObj C s.heap.objs.size) }):
 codeAny s!"9" A (.call s!"s" ⟨vs,kw⟩) R s:=by
 obtain ⟨hh,g,d,t,os⟩:=s;exact PySem.W.make_core (PySem.W.makes_of X hm) (PySem.W.looks_findIn X hi) (fun self=>PySem.W.bind_fn X self hf) s!"Aa" h
end
def yR (f:Str) (v:V):List (Str×V)->List (Str×V)
 | []=>[(f,v)]
 | (g,x)::r=>if g=f then (g,v)::r else (g,x)::yR f v r
theorem zch (f g:Str) (v:V):∀fs:List (Str×V),s!"Eg".lookup g=if g=f then some v else fs.lookup g
 | []=>by
  show List.lookup g [(f,v)]=_
  by_cases h:g=f
  ·have hb:(g==f)=true:=beq_iff_eq.mpr h;simp only [List.lookup,hb,if_pos h]
  ·have hb:(g==f)=false:=beq_eq_false_iff_ne.mpr h;simp only [List.lookup,hb,if_neg h]
 | (k,x)::r=>by
  have ih:=zch f g v r;rw [show yR f v ((k,x)::r)=(if k=f then (k,v)::r else (k,x)::yR f v r) from rfl]
  by_cases hk:k=f
  ·rw [if_pos hk]
   by_cases h:g=k
   ·have hb:(g==k)=true:=beq_iff_eq.mpr h;simp only [List.lookup,hb,if_pos (h.trans hk)]
   ·have hb:(g==k)=false:=beq_eq_false_iff_ne.mpr h;simp only [List.lookup,hb,if_neg (fun e:g=f=>h (e.trans hk.symm))]
  ·rw [if_neg hk]
   by_cases h:g=k
   ·have hb:(g==k)=true:=beq_iff_eq.mpr h;simp only [List.lookup,hb,if_neg (fun e:g=f=>hk (h.symm.trans e))]
   ·have hb:(g==k)=false:=beq_eq_false_iff_ne.mpr h;simp only [List.lookup,hb];exact ih
theorem zbO (f:Str) (v:V):∀fs:List (Str×V),f∈s!"Eg".map (·.1)/\∀g,g∈fs.map (·.1)->g∈s!"Eg".map (·.1)
 | []=>⟨by simp [yR],fun g h=>by simp at h⟩
 | (k,x)::r=>by
  obtain ⟨i1,i2⟩:=zbO f v r;rw [show yR f v ((k,x)::r)=(if k=f then (k,v)::r else (k,x)::yR f v r) from rfl]
  by_cases hk:k=f
  ·rw [if_pos hk];subst hk;exact ⟨by simp,fun g h=>by simpa using h⟩
  ·rw [if_neg hk];refine ⟨?_,fun g h=>?_⟩
   ·rw [List.map_cons];exact List.mem_cons_of_mem _ i1
   ·rw [List.map_cons] at h ⊢;rcases List.mem_cons.mp h with e | e
    ·exact List.mem_cons.mpr s!"${e}"
    ·exact List.mem_cons_of_mem _ (i2 g e)
theorem zci (f:Str) (v:V):∀fs:List (Str×V),s!"Eg".length<=fs.length+1
 | []=>by simp [yR]
 | (k,x)::r=>by
  have ih:=zci f v r;rw [show yR f v ((k,x)::r)=(if k=f then (k,v)::r else (k,x)::yR f v r) from rfl]
  by_cases hk:k=f
  ·rw [if_pos hk,List.length_cons,List.length_cons];omega
  ·rw [if_neg hk,List.length_cons,List.length_cons];omega
theorem xI.some_of {v:V} {o:Option Value} (r:xI s!"Ai" o):∃u,o=some u/\zj v u:=by
 cases o with
 | none=>exact (show False from r).elim
 | some u=>exact ⟨u,rfl,r⟩
theorem xI.none_of {o:Option Value} (r:xI none o):o=none:=by
 cases o with
 | none=>rfl
 | some u=>exact (show False from r).elim
theorem zdV {v:V} (r:zj v u):PySem.W.handedIn u=true:=by
 cases v with
 | non=>cases (show u=Value.none from r);rfl
 | bl b=>cases (show u=Value.bool b from r);rfl
 | int i=>obtain ⟨t,e⟩:=(show ∃t,u=Value.int i t from r);cases e;rfl
 | str x=>obtain ⟨t,e⟩:=(show ∃t,u=Value.str x t from r);cases e;rfl
 | byt b=>obtain ⟨t,e⟩:=(show ∃t,u=Value.bytes b t from r);cases e;rfl
 | flt b=>obtain ⟨t,e⟩:=(show ∃t,u=Value.float b t from r);cases e;rfl
 | ref a=>cases (show u=Value.ref a from r);rfl
 | ty n=>cases (show u=Value.type n from r);rfl
section
variable {fs fs':List (Str×V)}
theorem zcI (hok:HOk P w H h) (e:H a=some s!"A+"):∃mA,ObjM h a dx C mA/\(∀f,xI s!"Fz" (mA f))/\PySem.Within mA (fs.map (·.1))/\fs.length<=1000/\H dx=some s!"Dx":=by
 obtain ⟨d,z,ne,ob,mA,n,r,q⟩:=(show zu P w H h a s!"A+" from hok a _ e)
 exact ⟨mA,⟨ob,n,ne⟩,r,q,z,d⟩
end
structure Cls (K:PySem.W.Frag) (C:Addr):Prop where
 pg:PySem.W.plainGet K C Str.empty=true
 hd:PySem.W.hasDictIn K C=true
 po:PySem.W.plainOver K C=true
 sa:PySem.W.findIn K s!"s" "__setattr__"=some s!"D!"
theorem Cls.get (c:Cls K C) (f:Str):PySem.W.plainGet K C f=true:=c.pg
def yu (K:PySem.W.Frag) (C:Addr) (f:Str):Prop:=PySem.W.findIn K s!"s" f=some none
theorem yu.taker {f:Str} (n:yu K C f):PySem.W.takerIn K C f=some none:=by
 unfold PySem.W.takerIn;rw [show PySem.W.findIn K s!"s" f=some none from n]
 rfl
structure Meth (K:PySem.W.Frag) (C:Addr) (m:Str) (f:Addr):Prop where
 at_:PySem.W.findIn K s!"s" m=some s!"AV"
 fn:PySem.W.isFn K s!"An"=true
 kp:PySem.W.keepIn K s!"An"=true
variable {m:Str}
section
variable {fs:List (Str×V)} {f:Str} {v:V}
theorem zgO {b:Bool} (I:Inv X pins σ H s) (e:H a=some s!"A+") (c:Cls X.K C) (n:yu X.K C f) (l:fs.lookup f=some v)
 (h:∀u s',Inv X pins σ H s'->zj v u->Q u s'):wpAny s!"t" A (getAttr s!"h" f b) Q E s:=by
 obtain ⟨mA,O,r,_,_,_⟩:=zcI I.hok e;obtain ⟨u,hu,ru⟩:=xI.some_of (v:=v) (o:=mA f) (by rw [<-l];exact r f)
 exact zmA I.kIn O (c.get f) c.hd n hu (zdV ru) (h u _ s!"Bt" ru)
theorem zcV {g:Addr} {Q:Value×List Value->Shared->Prop} (I:Inv X pins σ H s) (e:H a=some s!"A+") (c:Cls X.K C) (k:Meth X.K C m g) (l:fs.lookup m=none)
 (h:Q (.ref g,[.ref a]) s):wpAny s!"t" A (getMethod s!"h" m pl) Q E s:=by
 obtain ⟨mA,O,r,_,_,_⟩:=zcI I.hok e;have hn:mA m=none:=xI.none_of (by rw [<-l];exact r m)
 exact zj2 I.kIn O (c.get m) k.at_ k.fn hn h
theorem zgP {Q:Unit->Shared->Prop} (I:Inv X pins σ H s) (e:H a=some s!"A+") (c:Cls X.K C) (n:yu X.K C f) (hl:fs.length<1000) (ry:zj y u)
 (h:∀s',Inv X pins σ s!"Hy" s'->Q () s'):wpAny s!"t" A (setAttr s!"h" f u) Q E s:=by
 obtain ⟨mA,O,r,wi,_,ho⟩:=zcI I.hok e;have hz:(fs.map (·.1)).length<=sizeLine:=by rw [List.length_map,sizeLine_eq];omega
 refine zmB I.kIn O c.sa c.po n.taker c.hd wi hz fun h' O' sb=>h _ ?_
 have hd:∃o,h'.get? dx=some o:=let ⟨o,_,_,e',_⟩:=O'.ns;⟨o,e'⟩
 refine I.write (x:=a) (e:=dx) (by rw [e];exact True.intro) s!"u{ho}" (fun b q hb z=>(sb.2 b hb).trans z) hd ?_
 refine ⟨by rw [zd O.ne];exact ho,?_,O.ne,O'.obj,_,O'.ns,fun g=>?_,fun g hg=>?_⟩
 ·have:=zci f y fs;omega
 ·show xI ((yR f y fs).lookup g) (if g=f then some u else mA g)
  rw [zch]
  by_cases q:g=f
  ·rw [if_pos q,if_pos q];exact ry
  ·rw [if_neg q,if_neg q];exact r g
 ·by_cases q:g=f
  ·rw [q];exact (zbO f y fs).1
  ·refine (zbO f y fs).2 g (wi g fun z=>hg ?_)
   show (if g=f then some u else mA g)=none
   rw [if_neg q];exact z
theorem Inv.made (I:Inv X pins σ H s):Inv X pins σ (upd s!".BJ{.own (s.heap.objs.size+1)}" (s.heap.objs.size+1) (.ins C s.heap.objs.size []))
 { s with heap:=s!"D#".push s!"F*" }:=by
 have e1:s!"D#".get? s.heap.objs.size=some PySem.W.emptyDict:=Heap.get?_push_size s.heap rfl;have e2:(s!"D#".push s!"F*").get? (s.heap.objs.size+1)=some s!"F*":=by
  have:=Heap.get?_push_size s!"D#" (o:=PySem.W.instObj C s.heap.objs.size) rfl
  rwa [Heap.size_push] at this
 have e3:s!"D#".Ns s.heap.objs.size (fun _=>none):=⟨PySem.W.emptyDict,#[],_,e1,rfl,(fun e he=>absurd he s!"j"),fun _=>rfl⟩
 have I1:=I.laid (a:=s.heap.objs.size) (o:=.own (s.heap.objs.size+1)) (h':=s.heap.push PySem.W.emptyDict) (t':=s.toks) (fun b u q=>Heap.get?_push_of_some _ q) s!"," ⟨_,e1⟩
 refine I1.laid (a:=s.heap.objs.size+1) (o:=.ins C s.heap.objs.size []) (t':=s.toks) (fun b u q=>Heap.get?_push_of_some _ q) (Nat.le_of_eq (Heap.size_push _ _)) ?_
 have ne:s.heap.objs.size≠s.heap.objs.size+1:=Nat.ne_of_lt s!"Hz";refine ⟨by rw [zd ne,zb],Nat.zero_le _,ne,e2,fun _=>none,(Heap.Ns1.of_empty e3).at fun o q=>Heap.get?_push_of_some _ q,fun _=>True.intro,fun y hy=>absurd rfl hy⟩
theorem zhG {env:Env} {f:Str} (hb:attributeBase e f env (eval e env)=eval e env)
 (h:wpAny s!"9" A (eval e env) (fun o s₁=>wpAny s!"9" A (getAttr o f true) Q E s₁) E s):wpAny s!"9" A (eval s!"H0" env) Q E s:=
 Attribute_any_ h (by rw [arm_eval_Attribute,hb])
end
def zrs (K:PySem.W.Frag) (ta:TE) (f:Str):TE:=fun σ H Q=>ta σ H fun x H1=>∃a C dx fs v,x=.ref a/\H1 a=some s!"A+"/\Cls K C/\yu K C f/\fs.lookup f=some v/\Q v H1
def zrt (K:PySem.W.Frag) (ta tv:TE) (f:Str):TS:=fun D σ H=>tv σ H fun y H1=>ta σ H1 fun x H2=>∃a C dx fs,x=.ref a/\H2 a=some s!"A+"/\Cls K C/\yu K C f/\fs.length<1000/\
 D.nx σ s!"H1"
section
variable {o value:Expr} {f:Str} {pos' tpos:Pos} {tv:TE}
theorem zU (he:PE X e ta) (hb:attributeBase e f X.env s!"Ec"=eval e X.env):PE X s!"H0" (zrs X.K ta f):=by
 intro pins s σ H Q I h;refine zhG hb (thn (he pins s σ H _ I h) fun u s1 ⟨x,H1,I1,rx,a,C,dx,fs,v,ex,ea,c,n,l,q⟩=>?_)
 subst ex;obtain rfl:u=Value.ref a:=rx;exact zgO I1 ea c n l fun u' s2 I2 ru=>⟨v,H1,I2,ru,q⟩
theorem zeQ (ha:PE X o ta) (hv:PE X value tv) (hs:swapsWith value s!"r{.Attribute o f pos'}" pos.line X.env=pure false):PS X (.Assign [.Attribute o f pos'] value pos) (zrt X.K ta tv f):=by
 intro pins s σ H D I h;refine plainObj_wpAny_Assign_Attribute (thn (hv pins s σ H _ I h) fun u s1 ⟨y,H1,I1,ry,q⟩=>thn (ha pins s1 σ H1 _ I1 q) fun ov s2 ⟨x,H2,I2,rx,a,C,dx,fs,ex,ea,c,n,l,q2⟩=>?_) hs
 subst ex;obtain rfl:ov=Value.ref a:=rx;exact zgP I2 ea c n l ry fun s3 I3=>⟨σ,_,I3,q2⟩
end
section
variable {c:Value} {b:Bool}
inductive TyOf (K:PySem.W.Frag) (H:Hp):V->Value->Prop where
 | non:TyOf K H .non s!"BG{"NoneType"}"
 | bl (x:Bool):TyOf K H s!"/{x}" s!"BG{"bool"}"
 | int (i:Int):TyOf K H s!"]" s!"BG{"int"}"
 | str (x:Str):TyOf K H s!"D1" s!"F%"
 | flt (x:UInt64):TyOf K H (.flt x) s!"BG{"float"}"
 | lst {a:Addr} {xs:List V} (e:H a=some s!"Ae"):TyOf K H s!"h" s!"F+"
 | frz {a:Addr} {o:Obj} {xs:List V} (e:H a=some s!"H2"):TyOf K H s!"h" s!"F+"
 | tup {a:Addr} {xs:List V} (e:H a=some s!"6"):TyOf K H s!"h" s!"F,"
 | dK {a:Addr} {kvs:List (Key×V)} (e:H a=some s!":"):TyOf K H s!"h" s!"F-"
 | dT {a:Addr} {kvs:List (List Key×V)} (e:H a=some s!"B."):TyOf K H s!"h" s!"F-"
 | ins {a C dx:Addr} {fs:List (Str×V)} (e:H a=some s!"A+") (cl:Cls K C) (ha:PySem.W.findIn K s!"s" "__class__"=some s!"D$")
  (hn:PySem.W.specialIn K s!"H3" "__get__"=some s!"rB4{"getset_descriptor.__get__"}") (htk:PySem.W.takesIn K s!"H3"=some true)
  (hm:PySem.W.mroIn K C s!"Cv"=some true):TyOf K H s!"h" s!"s"
theorem ziJ {x:V} {t:Value} (I:Inv X pins σ H s) (rx:zj x u) (ty:TyOf X.K H x t) (e:PySem.W.kitOne X.K t c=some b) (h:∀tk,Q (.bool b) { s with toks:=tk }):
 wpAny s!"t" A (call s!"H4" [u,c]) Q E s:=by
 cases ty with
 | non=>cases (show u=Value.none from rx);exact PySem.W.kia_one PySem.W.kitx_none I.kIn True.intro e (fun z=>nomatch z) h
 | bl y=>cases (show u=Value.bool y from rx);exact PySem.W.kia_one PySem.W.kitx_bool I.kIn True.intro e (fun z=>nomatch z) h
 | int i=>obtain ⟨t,q⟩:=(show ∃t,u=Value.int i t from rx);cases q;exact PySem.W.kia_one PySem.W.kitx_int I.kIn True.intro e (fun z=>nomatch z) h
 | str y=>obtain ⟨t,q⟩:=(show ∃t,u=Value.str y t from rx);cases q;exact PySem.W.kia_one PySem.W.kitx_str I.kIn True.intro e (fun z=>nomatch z) h
 | flt y=>obtain ⟨t,q⟩:=(show ∃t,u=Value.float y t from rx);cases q;exact PySem.W.kia_one PySem.W.kitx_float I.kIn True.intro e (fun z=>nomatch z) h
 | @lst a xs ea=>
  cases (show u=Value.ref a from rx)
  obtain ⟨_,_,n,_,h1⟩:=(show zu X.prog X.w H s.heap a s!"Ae" from I.hok a _ ea)
  exact PySem.W.kia_one PySem.W.kitx_list I.kIn ⟨_,h1,rfl⟩ e (fun z=>nomatch z) h
 | @frz a ob xs ea=>
  cases (show u=Value.ref a from rx)
  obtain ⟨_,_,_,n,_,h1⟩:=(show zu X.prog X.w H s.heap a (.frz ob s!"Ae") from I.hok a _ ea)
  exact PySem.W.kia_one PySem.W.kitx_list I.kIn ⟨_,h1,rfl⟩ e (fun z=>nomatch z) h
 | @tup a xs ea=>
  cases (show u=Value.ref a from rx)
  obtain ⟨_,_,_,p⟩:=(show zu X.prog X.w H s.heap a s!"6" from I.hok a _ ea)
  obtain ⟨o,h1,h2,_⟩:=p;exact PySem.W.kia_one PySem.W.kitx_tuple I.kIn ⟨o,h1,h2⟩ e (fun z=>nomatch z) h
 | @dK a kvs ea=>
  cases (show u=Value.ref a from rx)
  obtain ⟨_,_,vs,_,p⟩:=(show zu X.prog X.w H s.heap a s!":" from I.hok a _ ea)
  obtain ⟨o,es,ep,h1,h2,_⟩:=p;exact PySem.W.kia_one PySem.W.kitx_dict I.kIn ⟨o,h1,h2.1⟩ e (fun z=>nomatch z) h
 | @dT a kvs ea=>
  cases (show u=Value.ref a from rx)
  obtain ⟨_,_,xs,_,o,es,ep,h1,h2,_⟩:=(show zu X.prog X.w H s.heap a s!"B." from I.hok a _ ea)
  exact PySem.W.kia_one PySem.W.kitx_dict I.kIn ⟨o,h1,h2.1⟩ e (fun z=>nomatch z) h
 | @ins a C dx fs ea cl ha hn htk hm=>
  cases (show u=Value.ref a from rx)
  obtain ⟨mA,O,_⟩:=zcI I.hok ea;obtain ⟨od,J,_⟩:=O.look;exact PySem.W.kia_one (PySem.W.kitx_own (cl.get _) cl.hd ha hn htk hm) I.kIn J e (fun z=>nomatch z) h
end
structure Room (k:Nat) (A:Around):Prop where
 hd:A.handled=none
 dp:A.depth+3*k+5<recursionLimit
 un:A.units+16*k+200<cLine
variable {k:Nat}
theorem Room.mono {j:Nat} (r:Room k A) (h:j<=k):Room j A:=⟨r.hd,by have:=r.dp;omega,by have:=r.un;omega⟩
theorem Room.deeper (r:Room (k+1) A) (env:Env):Room k (A.deeper env):=
 ⟨r.hd,by have:=r.dp;show A.depth+1+3*k+5<_;omega,by have:=r.un;show A.units+3+16*k+200<_;omega⟩
theorem zgQ:(A.under (.builtin "type.__call__" ⟨.ref C::us,kw⟩)).depth=A.depth+1:=by
 first | rfl | simp [Around.under,Code.weight,Code.isCreation,Code.isGuard,Code.isCaller,Code.frames,Code.isFrame,guardIds]
theorem zgR:(A.under (.builtin "type.__call__" ⟨.ref C::us,kw⟩)).units=A.units+1:=by
 first | rfl | simp [Around.under,Code.cUnits,Code.frames,Code.isFrame]
theorem Room.make (r:Room (k+1) A) (C:Addr) (us:List Value) (kw:List (Str×Value)):Room k (A.under (.builtin "type.__call__" ⟨.ref C::us,kw⟩)):=
 ⟨r.hd,by have:=r.dp;rw [zgQ];omega,by have:=r.un;rw [zgR];omega⟩
theorem Room.depth (r:Room k A):A.depth<recursionLimit:=by have:=r.dp;omega
theorem Room.units (r:Room k A):A.units+64<cLine:=by have:=r.un;omega
theorem Room.units0 (r:Room k A):A.units<cLine:=by have:=r.un;omega
def zgS:TA:=fun _ H Q=>Q [] H
def zcW (ta:TE) (tr:TA):TA:=fun σ H Q=>ta σ H fun x H1=>tr σ H1 fun xs H2=>Q (x::xs) H2
variable {es:List Expr} {t:TA}
theorem pa_nil:PA X [] zgS:=fun _ _ _ _ H Q I h=>Calls.spliced_nil ⟨[],H,I,.nil,h⟩
theorem pa_cons (ha:PE X e te) (hr:PA X es t) (hs:starEach (e::es) X.env=(false,eval e X.env)::starEach es X.env:=by rfl):PA X (e::es) (zcW te t):=by
 intro pos pins s σ H Q I h;rw [hs];show wpAny _ _ (spliced ((false,eval e X.env)::backTo pos (starEach es X.env))) _ _ s;refine Calls.spliced_cons (thn (ha pins s σ H _ I h) fun u s1 ⟨x,H1,I1,r1,q1⟩=>?_)
 exact thn (hr pos pins s1 σ H1 _ I1 q1) fun us s2 ⟨xs,H2,I2,r2,q2⟩=>⟨x::xs,H2,I2,.cons r1 r2,q2⟩
def zru (t:TA):TE:=fun σ H Q=>t σ H fun xs H1=>xs.length<=sizeLine/\∀p,H1 p=none->Q s!")" (upd H1 p s!"6")
def zrv (t:TA):TE:=fun σ H Q=>t σ H fun xs H1=>xs.length<=sizeLine/\∀p,H1 p=none->Q s!")" (upd H1 p s!"Ae")
theorem pe_tup {x1} (h:PA X es t):PE X (.Tuple es x1 pos) (zru t):=by
 intro pins s σ H Q I hq;refine wpAny_Tuple_spliced (thn (h pos pins s σ H _ I hq) fun us s1 ⟨xs,H1,I1,r,z,q⟩=>⟨by rw [<-r.length];exact z,?_⟩)
 have hf:H1 s1.heap.objs.size=none:=I1.hok.fresh s!",";refine ⟨.ref s1.heap.objs.size,upd H1 s1.heap.objs.size s!"6",I1.laid (t':=s1.toks) (fun b u e=>Heap.get?_push_of_some _ e) s!"," ?_,rfl,q _ hf⟩
 exact ⟨z,us,r,⟨_,Heap.get?_push_size _ rfl,rfl,_,rfl⟩⟩
theorem pe_lst (h:PA X es t):PE X (.List es pos) (zrv t):=by
 intro pins s σ H Q I hq;refine wpAny_List_spliced (thn (h pos pins s σ H _ I hq) fun us s1 ⟨xs,H1,I1,r,z,q⟩=>⟨by rw [<-r.length];exact z,?_⟩)
 have hf:H1 s1.heap.objs.size=none:=I1.hok.fresh s!",";refine ⟨.ref s1.heap.objs.size,upd H1 s1.heap.objs.size s!"Ae",I1.laid (t':=s1.toks) (fun b u e=>Heap.get?_push_of_some _ e) s!"," ?_,rfl,q _ hf⟩
 exact ⟨z,us,0,r,Heap.get?_push_size _ rfl⟩
abbrev Sp:=List V->Hp->VK->XK->Prop
abbrev CXT:=List Env->Hp->Shared->XK->Value->Shared->Prop
structure Env0 (P:Program) (w:World) (K:PySem.W.Frag) (mg:Str->Option Value) (base:Heap) (A:Around) (outer:List Env) (s:Shared) (H:Hp):Prop where
 frames:A.frames=some outer
 mod:Mod K mg base
 bs:∀b o,base.get? b=some o->s.heap.get? b=some o/\H b=none
 bsz:base.objs.size<=s.heap.objs.size
 funs:s.heap.FunFrames base outer
 frf:∀b∈frs outer,H b=none
 hok:HOk P w H s.heap
 bare:AllBare s.gens
def CE (outer:List Env) (P:Program) (w:World) (H:Hp) (s:Shared) (Q:VK) (u:Value) (s':Shared):Prop:=
 ∃v H',s'.os=s.os/\AllBare s'.gens/\Un s!"F." [] H H' s.heap s'.heap/\HOk P w H' s'.heap/\zj v u/\Q v H'
def CR (CX:CXT) (outer:List Env) (P:Program) (w:World) (H:Hp) (s:Shared) (Q:VK) (E:XK) (r:Result) (s':Shared):Prop:=
 match r with
 | .ok (.ret u)=>CE outer P w H s Q u s'
 | .ok _=>False
 | .error e=>CX outer H s E e s'
structure FnOk (P:Program) (w:World) (K:PySem.W.Frag) (mg:Str->Option Value) (base:Heap) (CX:CXT) (k:Nat) (f:Addr) (fd:FuncData) (ps:List Str) (sp:Sp):Prop where
 len:∀vs H Q E,sp vs H Q E->vs.length=ps.length
 run:∀(A:Around) (outer:List Env) (s:Shared) (H:Hp) (args:Args) (us:List Value) (vs:List V) (Q:VK) (E:XK),Room k A->Env0 P w K mg base A outer s H->BindsTo s fd args s!"Bu"->zi vs us->sp vs H Q E->
  codeAny s!"CB" A (.call s!"An" args) (CR CX outer P w H s Q E) s
variable {mg:Str->Option Value} {base:Heap} {outer:List Env}
theorem Env0.make (e:Env0 P w K mg base A outer s H) (C:Addr) (us:List Value) (kw:List (Str×Value)):
 Env0 P w K mg base (A.under (.builtin "type.__call__" ⟨.ref C::us,kw⟩)) outer s H:=⟨by first | exact e.frames | (simpa [Around.under,Code.envs,Code.isFrame,pushEnvs] using e.frames),e.mod,e.bs,e.bsz,e.funs,e.frf,e.hok,e.bare⟩
theorem Inv.env0 (I:Inv X pins σ H s):Env0 X.prog X.w X.K X.mg X.base X.A X.stack s H:=
 ⟨I.ok.frames,I.ok.mod,I.bs,Nat.le_trans I.ok.bsz I.sz,I.stack,I.stkFree,I.hok,I.bare⟩
theorem Inv.after {Q:VK} (I:Inv X pins σ H s) (h:CE X.stack X.prog X.w H s Q u s'):EP X pins σ Q u s':=by
 obtain ⟨v,H',os,bare,un,hok,r,q⟩:=h;obtain ⟨hh,g,d,t,os'⟩:=s';obtain rfl:os'=s.os:=os;exact ⟨v,H',I.call (h':=hh) (g':=g) (d':=d) (t':=t) (ch:=[]) un hok bare (fun b z=>absurd z s!"j"),r,q⟩
def zrw (C:Addr) (sp:Sp) (dvs:List V) (E:XK) (t:TA):TE:=fun σ H Q=>t σ H fun vs H1=>∀x dx,H1 x=none->H1 dx=none->dx≠x->
 sp (.ref x::(vs++dvs)) (upd (upd H1 dx s!"C)") x s!"A~{C}{[]}") (fun v H2=>v=.non/\Q s!"A6" H2) E
def wu (K:PySem.W.Frag) (fd:FuncData) (ps:List Str) (ds:List Value):Prop:=
 ∀(s:Shared) (us:List Value),K.In s.heap->(us++ds).length=ps.length->BindsTo s fd ⟨us,[]⟩ (ps.zip (us++ds))
variable {fd:FuncData} {ps:List Str}
theorem wu.all (h:∀us:List Value,us.length=ps.length->bindArgs fd ⟨us,[]⟩=pure s!"Bu"):wu K fd ps []:=fun s us _ hl=>by
 rw [List.append_nil] at hl ⊢;exact .of_eq (h us hl)
def zj4 (CX:CXT) (X:Cx) (E:XK):Prop:=∀(pins:List (Addr×Obj)) (σ:St) (H:Hp) (s:Shared) (e:Value) (s':Shared),Inv X pins σ H s->CX X.stack H s E e s'->X.xe e s'
variable {CX:CXT} {sp:Sp} {vs:List V}
section
variable {f:Addr} {dvs:List V} {ds:List Value} {E:XK} {p apos:Pos} {o:Expr}
structure Mk (K:PySem.W.Frag) (C f:Addr):Prop where
 makes:PySem.W.makesIn K C=true
 init:PySem.W.findIn K s!"s" "__init__"=some s!"AV"
 fn:PySem.W.isFn K s!"An"=true
 kp:PySem.W.keepIn K s!"s"=true
theorem zj5 {Q:VK} {us:List Value} (M:Mk X.K C f) (F:FnOk X.prog X.w X.K X.mg X.base CX k f fd ps sp) (hr:Room (k+1) X.A) (hb:wu X.K fd ps ds) (hd:zi dvs ds)
 (hx:zj4 CX X E) (I:Inv X pins σ H s) (r:zi vs us)
 (h:∀x dx,H x=none->H dx=none->dx≠x->sp (.ref x::(vs++dvs)) (upd s!"D%" x s!"A~{C}{[]}") (fun v H2=>v=.non/\Q s!"A6" H2) E):
 wpAny s!"t" X.A s!"H5" (EP X pins σ Q) X.xe s:=by
 have hq:=h (s.heap.objs.size+1) s.heap.objs.size s!"H6" s!"Cw" s!"A2Hz";have I2:=Inv.made (C:=C) I;have r2:zi (V.ref (s.heap.objs.size+1)::(vs++dvs)) (Value.ref (s.heap.objs.size+1)::(us++ds)):=.cons rfl (r.append hd);have hl:(Value.ref (s.heap.objs.size+1)::us++ds).length=ps.length:=by
  have e:=r2.length;rw [F.len _ _ _ _ hq] at e;exact e.symm
 refine wpAny_call (zj3 (f:=f) I.kIn M.makes M.init (beq_iff_eq.mp M.fn) (codeAny_mono (F.run _ X.stack _ _ ⟨Value.ref (s.heap.objs.size+1)::us,[]⟩ (Value.ref (s.heap.objs.size+1)::(us++ds)) _ _ E (hr.make C us [])
  (I2.env0.make C us []) (hb _ (Value.ref (s.heap.objs.size+1)::us) I2.kIn hl) r2 hq) fun r s' hq'=>?_))
 cases r with
 | error e=>exact hx pins σ _ _ e s' I2 hq'
 | ok fl=>
  cases fl with
  | ret u=>
   obtain ⟨v,H',I3,rv,ev,q3⟩:=I2.after hq';subst ev;exact ⟨rv,⟨V.ref (s.heap.objs.size+1),H',I3,rfl,q3⟩⟩
  | next=>exact False.elim hq'
  | brk=>exact False.elim hq'
  | cont=>exact False.elim hq'
theorem zj6 (M:Mk X.K C f) (F:FnOk X.prog X.w X.K X.mg X.base CX k f fd ps sp) (hr:Room (k+1) X.A) (hg:Gl X x) (hm:X.mg x=some s!"s") (hb:wu X.K fd ps ds) (hd:zi dvs ds) (hx:zj4 CX X E)
 (hdb:(x==("__debug__":Str))=false:=by decide):PE X (.Call (.Name x p) [] [] pos) (zrw C sp dvs E zgS):=by
 intro pins s σ H Q I h;refine wpAny_Call_Name_kw (zap I hg hm ?_ hdb);exact PySem.W.callWith_K0 I.kIn M.kp (zj5 (us:=[]) M F hr hb hd hx I .nil h)
end
section
variable {f:Addr} {ks:List Str} {E:XK} {p apos kpos:Pos} {o:Expr} {kws:List Keyword} {tk:TA} {nm:Option Str}
variable {g:List Value->List Value->List Value} {gV:List V->List V->List V}
end
structure FnScope (N P:List Str) (sc:Scope):Prop where
 kind:sc.kind=.function
 co:sc.isCoroutine=false
 gen:sc.isGenerator=false
 nd:N.Nodup
 pre:N.take P.length=P
 par:∀x∈P,sc.names.lookup x=some .local\/sc.names.lookup x=some .cell
 nofree:∀y∈sc.names,y.2≠.free
variable {kindOf:Str->Option NameKind}
theorem zdW:∀{binds:List (Str×Value)} {m:Str->Option Value},(∀v,(x,v)∉binds)->bindL kindOf binds m x=m x
 | [],_,_=>rfl
 | (n,v)::r,m,h=>by
  unfold bindL;rw [zdW fun w hw=>h w s!"D&"]
  split
  ·have:x≠n:=by rintro rfl;exact h v List.mem_cons_self
   simp [this]
  ·rfl
theorem zdX:∀{binds:List (Str×Value)} {m:Str->Option Value},(∀v,(x,v)∉binds)->bindC kindOf binds m x=m x
 | [],_,_=>rfl
 | (n,v)::r,m,h=>by
  unfold bindC;rw [zdX fun w hw=>h w s!"D&"]
  split
  ·rfl
  ·have:x≠n:=by rintro rfl;exact h v List.mem_cons_self
   simp [this]
theorem zdY:∀{P:List Str} {vs:List Value} {i:Nat} {m:Str->Option Value},P.Nodup->P[i]? =some x->vs[i]? =some v->kindOf x=some .local->
 bindL kindOf (P.zip vs) m x=some v
 | [],_,_,_,_,h,_,_=>by simp at h
 | _::_,[],_,_,_,_,h,_=>by simp at h
 | p::P,w::vs,0,m,nd,h1,h2,hk=>by
  simp at h1 h2;subst h1;subst h2;show bindL kindOf ((p,w)::P.zip vs) m p=_;unfold bindL;rw [zdW fun v hv=>s!"Eh".1 s!"H8".1,if_pos hk]
  simp
 | p::P,w::vs,i+1,m,nd,h1,h2,hk=>by
  show bindL kindOf ((p,w)::P.zip vs) m x=_;unfold bindL;exact zdY (i:=i) s!"Eh".2 (by simpa using h1) (by simpa using h2) hk
theorem zdZ:∀{P:List Str} {vs:List Value} {i:Nat} {m:Str->Option Value},P.Nodup->P[i]? =some x->vs[i]? =some v->kindOf x≠some .local->
 bindC kindOf (P.zip vs) m x=some v
 | [],_,_,_,_,h,_,_=>by simp at h
 | _::_,[],_,_,_,_,h,_=>by simp at h
 | p::P,w::vs,0,m,nd,h1,h2,hk=>by
  simp at h1 h2;subst h1;subst h2;show bindC kindOf ((p,w)::P.zip vs) m p=_;unfold bindC;rw [zdX fun v hv=>s!"Eh".1 s!"H8".1,if_neg hk]
  simp
 | p::P,w::vs,i+1,m,nd,h1,h2,hk=>by
  show bindC kindOf ((p,w)::P.zip vs) m x=_;unfold bindC;exact zdZ (i:=i) s!"Eh".2 (by simpa using h1) (by simpa using h2) hk
def start (N:List Str) (vs:List V):St:=vs.map some++List.replicate (N.length-vs.length) none
def zbb (CX:CXT) (P:Program) (w:World) (K:PySem.W.Frag) (mg:Str->Option Value) (base:Heap) (N:List Str) (qual:Str) (scope:Scope) (f:Addr) (cd:Value) (A:Around) (outer:List Env) (s:Shared) (H:Hp) (E:XK):Cx where
 prog:=P
 w:=w
 K:=K
 mg:=mg
 base:=base
 A:=A.deeper s!"D*"
 N:=N
 s₀:=s
 H₀:=H
 env:=envOfC qual scope s.heap.objs.size f cd
 outer:=outer
 stack:=envOfC qual scope s.heap.objs.size f cd::outer
 ex:=[]
 calm:=true
 fn:=fun _=>true
 pn:=[]
 xe:=fun e s'=>wpAny s!"CB" (A.deeper s!"D*") (leaving s!"D*" e) (fun _ s''=>CX outer H s E e s'') (fun e' s''=>CX outer H s E e' s'') s'
theorem zfV {sc:Scope} {n:Nat} (h:sc.names.lookup x=some .cell):∃c,(cellsFrom n sc.names []).lookup x=some c:=by
 have q:=PySem.W.cellsFrom_some sc.names n [] s!"${h}";exact Option.isSome_iff_exists.mp q
variable {qual:Str} {scope:Scope}
theorem ziK {f:Addr} {cd:Value} {s1:Shared} {E:XK}
 (S:FnScope N ps scope) (hd:A.handled=none) (e0:Env0 P w K mg base A outer s H) (hl:vs.length=ps.length) (r:zi vs us)
 (x:InCallC s s.heap.objs.size (bindL s!"D*".kindOf s!"Bu" fun _=>none) (cellsFrom (s.heap.objs.size+1) scope.names []) (bindC s!"D*".kindOf s!"Bu" fun _=>none) s1):
 Inv s!"H9" [] s!"Ei" H s1:=by
 have hpl:ps.length<=N.length:=by have:=congrArg List.length S.pre;rw [List.length_take] at this;omega
 obtain ⟨h1,tk,rfl,hk⟩:=x.done;have noA:∀b:Addr,b∉s!"H9".ex:=fun b z=>absurd (show b∈([]:List Addr) from z) s!"j"
 refine ⟨⟨e0.mod,S.kind,rfl,rfl,Nat.le_refl _,fun y z c h1 h2=>?_,fun y hy=>?_,fun y c _ h=>?_,fun _=>hd,Around.frames_deeper e0.frames,.inr ⟨rfl,rfl⟩,fun b z=>absurd z (noA b),e0.bs,e0.bsz,fun b _ _=>noA b,fun b z=>absurd z (noA b),e0.funs,e0.frf⟩,
  rfl,e0.bare,Un.kept hk,⟨_,x.toInCall.ns,fun i y v h1 h2 h3=>?_⟩,fun y c h=>⟨_,x.cell y c h⟩,e0.hok.fresh (Nat.le_refl _),fun y c h=>?_,fun p hp=>absurd (show p∈([]:List (Addr×Obj)) from hp) (by simp),e0.hok.kept hk,?_⟩
 ·exact name_of_addr x.apart s!"ES{h1}" s!"ES{h2}"
 ·have hy:scope.names.lookup y=some .cell\/scope.names.lookup y=some .free:=hy;rcases hy with hy | hy
  ·exact zfV hy
  ·exact absurd rfl (S.nofree _ s!"ES{hy}")
 ·exact Nat.le_of_lt s!"H!"
 ·have hi:i<vs.length:=by
   unfold start at h2
   by_cases hi:i<vs.length
   ·exact hi
   ·rw [List.getElem?_append_right (by simpa using hi)] at h2
    rw [List.getElem?_replicate] at h2;split at h2 <;> cases h2
  have ha:vs[i]? =some v:=by
   unfold start at h2;rw [List.getElem?_append_left (by simpa using hi),List.getElem?_map] at h2
   cases e:vs[i]? with
   | none=>rw [e] at h2;cases h2
   | some a=>rw [e] at h2;cases h2;rfl
  obtain ⟨u,hu,rv⟩:=r.get ha;have hp:ps[i]? =some y:=by
   rw [<-S.pre,List.getElem?_take_of_lt s!"a"];exact h1
  have ndP:ps.Nodup:=by rw [<-S.pre];exact S.nd.sublist (List.take_sublist _ _)
  refine ⟨u,rv,?_⟩;rcases S.par y s!"BR" with k | k
  ·exact .inl ⟨k,zdY ndP hp hu k⟩
  ·obtain ⟨c,e⟩:=zfV (n:=s.heap.objs.size+1) k;refine .inr ⟨.inl k,c,e,?_⟩;have q:=x.cell y c e;rw [zdZ ndP hp hu (by show scope.names.lookup y≠_;rw [k];decide)] at q
   exact q
 ·exact e0.hok.fresh s!"B6H!"
 ·unfold start;show _=N.length;rw [List.length_append,List.length_map,List.length_replicate];omega
theorem zfW {f:Addr} {params:Arguments} {body:List Stmt} {dV kV doc pm cdv ct oc:Value} {an od:Option Addr}
 {osl:Array s!"Bv"} (lk:K.lookup f=some ⟨oc,od,.func (PySem.W.fnOf name qual params body scope dV kV doc pm an cdv ct),osl⟩) (hcd:PySem.W.codeIn K cdv qual=true) (S:FnScope N ps scope)
 (len:∀vs H Q E,sp vs H Q E->vs.length=ps.length)
 (hbody:∀(A:Around) (outer:List Env) (s:Shared) (H:Hp) (vs:List V) (Q:VK) (E:XK),Room k (A.deeper (envOfC qual scope s.heap.objs.size f cdv))->sp vs H Q E->
  ∃t,PSs (zbb CX P w K mg base N qual scope f cdv A outer s H E) body t/\t { nx:=fun _ H'=>Q .non H',rt:=Q } (start N vs) H):
 FnOk P w K mg base CX (k+1) f (PySem.W.fnOf name qual params body scope dV kV doc pm an cdv ct) ps sp:=by
 refine ⟨len,fun A outer s H args us vs Q E hr e0 hb r hsp=>?_⟩
 have hl:=len _ _ _ _ hsp;have KX:K.In s.heap:=e0.mod.kin.keeps fun b o e=>(e0.bs b o e).1
 have lim:s.heap.NoLimit:=e0.mod.nolimit.keeps fun b o e=>(e0.bs b o e).1
 have hkind:∀y∈ps.zip us,scope.names.lookup y.1=some .local\/(scope.names.lookup y.1=some .cell/\((cellsFrom (s.heap.objs.size+1) scope.names []).lookup y.1).isSome=true):=fun ⟨n,v⟩ hy=>by
  rcases S.par n (List.of_mem_zip hy).1 with q | q
  ·exact .inl q
  ·exact .inr ⟨q,PySem.W.cellsFrom_some _ _ _ s!"${q}"⟩
 refine codeAny_call_function hr.depth (KX _ _ lk) rfl S.co S.gen rfl (PySem.W.codeRec_of KX hcd) (hb _ _ _ _ ?_);refine wpAny_newFunctionEnv_cells S.kind hkind fun env he s1 x=>?_
 subst he;refine ⟨lim.keeps x.toInCall.keep,codeAny_func ?_⟩;obtain ⟨t,ht,hq⟩:=hbody A outer s H vs Q E (hr.deeper _) hsp;have I:Inv s!"H#" [] s!"Ei" H s1:=ziK S hr.hd e0 hl r x;refine wpAny_mono (ht [] s1 s!"Ei" H _ I hq) (fun fl s' hs=>?_) fun e s' hs=>hs
 have fin:∀{σ':St} {H':Hp} {v:V} {u:Value},Inv s!"H#" [] σ' H' s'->zj v u->Q v H'->CE outer P w H s Q u s':=
  fun {σ' H' v u} J rv q=>⟨v,H',J.os,J.bare,J.base,J.hok,rv,q⟩
 cases fl with
 | ret u=>
  obtain ⟨v,σ',H',J,rv,q⟩:=hs;exact fin J rv q
 | next=>
  obtain ⟨σ',H',J,q⟩:=hs;exact fin (v:=V.non) (u:=Value.none) J rfl q
 | brk=>
  obtain ⟨_,_,_,q⟩:=hs;exact False.elim q
 | cont=>
  obtain ⟨_,_,_,q⟩:=hs;exact False.elim q
section
variable {p:Pos} {id T:String} {r:List V->Hp->VK->Prop}
def tCB (r:List V->Hp->VK->Prop) (t:TA):TE:=fun σ H Q=>t σ H fun vs H1=>r vs H1 Q
theorem pe_callB (hc:zI X s!"B/" r) (hg:Gl X x) (hm:X.mg x=none) (hv:bootBuiltins x=some s!"B/") (ha:PA X (e::es) t) (hn:x≠"__name__":=by decide) (hdb:(x==("__debug__":Str))=false:=by decide)
 (he:starEach (e::es) X.env=(false,eval e X.env)::starEach es X.env:=by rfl) (hpl:s!"C]".any (·.1)=false:=by rfl):PE X (.Call (.Name x p) (e::es) [] pos) (tCB r t):=by
 intro pins s σ H Q I h;refine wpAny_Call_Name_kw s!"H$";exact PyProof.Rows.callWith_builtin1 (thn (ha pos pins s σ H _ I h) fun us s1 ⟨vs,H1,I1,r1,q1⟩=>hc pins s1 σ H1 vs us Q I1 r1 q1) he hpl
theorem pe_callTy (hc:zI X s!"Ej" r) (hg:Gl X x) (hm:X.mg x=none) (hv:bootBuiltins x=some s!"Ej") (ha:PA X (e::es) t) (hn:x≠"__name__":=by decide) (hdb:(x==("__debug__":Str))=false:=by decide)
 (he:starEach (e::es) X.env=(false,eval e X.env)::starEach es X.env:=by rfl) (hpl:s!"C]".any (·.1)=false:=by rfl):PE X (.Call (.Name x p) (e::es) [] pos) (tCB r t):=by
 intro pins s σ H Q I h;refine wpAny_Call_Name_kw s!"H$";exact PyProof.Rows.callWith_type1 (thn (ha pos pins s σ H _ I h) fun us s1 ⟨vs,H1,I1,r1,q1⟩=>hc pins s1 σ H1 vs us Q I1 r1 q1) he hpl
end
end L2
namespace HT
open PySem PyProof.Rows
section
open PySem.SeqAt
open PySem.AutoSeq1 (wpAny_loadPart')
open PySem.MeetsSeq PySem.MeetsSeq2 PySem.MeetsSeq3
end
variable {Q:Value->Shared->Prop} {sl:Addr} {vl vu:Value} {lo hi:Option Int}
section
variable {prog:Program} {w:World} {A:Around} {E:Value->Shared->Prop} {s:Shared}
theorem zmC {t b:Addr} {vs ws:List Value} (ht:IsTup s.heap t vs.toArray) (hb:IsTup s.heap b ws.toArray) (hv:vs≠[])
 (h1:ws=[]->Q s!">" s) (h2:ws≠[]->Q s!"CD" { s with heap:=s.heap.push { cls:=.type "tuple",data:=.seq (vs++ws).toArray } })
 (hsz:vs.length+ws.length<=sizeLine):wpAny s!"9" A s!"H%" Q E s:=by
 obtain ⟨⟨cls,dd,data,sl⟩,ho,hc,n,hd⟩:=id ht;obtain ⟨⟨cls2,dd2,data2,sl2⟩,ho2,hc2,n2,hd2⟩:=id hb;simp only at hc hd hc2 hd2;subst hc hd hc2 hd2;have e:vs.toArray++ws.toArray=(vs++ws).toArray:=by simp
 by_cases hw:ws=[]
 ·exact concat_meets ⟨_,ho,rfl⟩ ⟨_,ho2,rfl⟩ noFill_tuple_add seq_tuple_add PySem.F.slot_tuple_add PySem.F.entry_tuple_add s!"F/"
   (tuple_addW1 t b vs.toArray ws.toArray n n2 dd dd2 sl sl2 (by simpa using hv) (by simp [hw])) ⟨ho,ho2,h1 hw⟩
 ·refine concat_meets ⟨_,ho,rfl⟩ ⟨_,ho2,rfl⟩ noFill_tuple_add seq_tuple_add PySem.F.slot_tuple_add PySem.F.entry_tuple_add s!"F/"
   (tuple_addW2 t b vs.toArray ws.toArray n n2 dd dd2 sl sl2 (by simpa using hv) (by simpa using hw) (by rw [List.size_toArray,List.size_toArray];exact hsz)) ⟨ho,ho2,?_⟩
  rw [e];exact h2 hw
def sIx (n d:Nat):Option Int->Nat
 | none=>d
 | some v=>if v<0 then (v+(n:Int)).toNat else min v.toNat n
theorem zpV (n d:Nat) (hd:d<=n) (o:Option Int):sIx n d o<=n:=by
 cases o with
 | none=>exact hd
 | some v=>
  show (if v<0 then (v+(n:Int)).toNat else min v.toNat n)<=n
  by_cases hv:v<0
  ·rw [if_pos hv];omega
  ·rw [if_neg hv];exact Nat.min_le_right _ _
theorem zhH (v:Int) (n d:Nat):(if v<0 then max (v+(n:Int)) 0 else min v (n:Int))=((sIx n d s!"Ai":Nat):Int):=by
 show (if v<0 then max (v+(n:Int)) 0 else min v (n:Int))=(((if v<0 then (v+(n:Int)).toNat else min v.toNat n):Nat):Int)
 by_cases hv:v<0
 ·simp only [if_pos hv];omega
 ·simp only [if_neg hv];omega
theorem zgT (lo hi:Option Int) (n:Nat):Builtin.Slice.sliceAdjust lo hi 1 (n:Int)=(((sIx n 0 lo:Nat):Int),((sIx n n hi:Nat):Int)):=by
 have h1:¬((1:Int)<0):=by omega
 unfold Builtin.Slice.sliceAdjust;simp only [h1,if_false];refine Prod.ext ?_ ?_
 ·cases lo with
  | none=>rfl
  | some v=>exact zhH v n 0
 ·cases hi with
  | none=>rfl
  | some v=>exact zhH v n n
theorem zgU (i j:Nat):Builtin.Slice.slicePlaces (i:Int) (j:Int) 1=j-i:=by
 unfold Builtin.Slice.slicePlaces;have h1:(1:Int) > 0:=by omega
 simp only [h1,if_true,Int.ediv_one];split <;> omega
theorem zcX {v:Value} {o:Option Int} {Q:Option Int->Shared->Prop} (p:IsPart v o) (h:Q o s):wpAny s!"9" A (Builtin.Slice.slicePartIndex v) Q E s:=by
 cases p with
 | none=>exact slicePart_none h
 | int i t=>exact slicePart_int h
theorem zbP {n:Nat} {Q:Int×Int×Nat->Shared->Prop} (hs:s.heap.IsSliceOf sl vl vu .none) (pl:IsPart vl lo) (pu:IsPart vu hi)
 (h:Q (((sIx n 0 lo:Nat):Int),1,sIx n n hi-sIx n 0 lo) s):wpAny s!"9" A (Builtin.Slice.sliceApplied s!"B:" (pure (n:Int))) Q E s:=by
 obtain ⟨os,hos,hcs,hds⟩:=id hs;unfold Builtin.Slice.sliceApplied Builtin.Slice.sliceFields;refine wpAny_bind s!"7{(wpAny_field hos hds (x:=vl) rfl s!"7{(wpAny_field hos hds (x:=vu) rfl s!"7{(wpAny_field hos hds (x:=.none) rfl s!"A;")}")}")}";refine wpAny_bind (slicePart_none ?_);show wpAny _ _ (if ((1:Int)==0)=true then _ else _) _ _ s
 rw [if_neg s!"c"]
 refine wpAny_bind (zcX pl s!"7{zcX pu s!"F:"}");show wpAny _ _ (match Builtin.Slice.sliceAdjust lo hi 1 (n:Int) with | (lo,hi)=>pure (lo,(1:Int),Builtin.Slice.slicePlaces lo hi 1)) _ _ s
 rw [zgT lo hi n];show wpAny _ _ (pure (((sIx n 0 lo:Nat):Int),(1:Int),Builtin.Slice.slicePlaces ((sIx n 0 lo:Nat):Int) ((sIx n n hi:Nat):Int) 1)) _ _ s;rw [zgU];exact wpAny_pure h
theorem zj7 (xs:Array Value) (i k:Nat):(s!"A/{k}".filterMap fun (m:Nat)=>xs[((i:Int)+(m:Int)*1).toNat]?).toArray=((xs.toList.drop i).take k).toArray:=by
 have e:(fun (m:Nat)=>xs[((i:Int)+(m:Int)*1).toNat]?)=fun m=>xs[i+m]?:=by
  funext m;have:((i:Int)+(m:Int)*1).toNat=i+m:=by omega
  rw [this]
 rw [e];have:=pick_run xs i k;rw [List.filterMap_map] at this;have e2:((fun x=>xs[x]?)∘fun x=>i+x)=fun m=>xs[i+m]?:=rfl
 rw [e2] at this;rw [this]
theorem zbc {t:Addr} {items:Array Value} (ht:IsTup s.heap t items) (hs:s.heap.IsSliceOf sl vl vu .none) (pl:IsPart vl lo) (pu:IsPart vu hi)
 (hw:¬(sIx items.size 0 lo=0/\sIx items.size items.size hi=items.size))
 (h:Q s!"CD" { s with heap:=s.heap.push { cls:=.type "tuple",data:=.seq (s!"F;".take (sIx items.size items.size hi-sIx items.size 0 lo)).toArray } })
 (hsz:items.size<=sizeLine):wpAny s!"9" A (getItem s!">" s!"B:") Q E s:=by
 have htake:sizeOk (.seq (s!"F;".take (sIx items.size items.size hi-sIx items.size 0 lo)).toArray):=by
  show (s!"F;".take (sIx items.size items.size hi-sIx items.size 0 lo)).toArray.size<=sizeLine;rw [List.size_toArray,List.length_take,List.length_drop,Array.length_toList];omega
 have hj:sIx items.size items.size hi<=items.size:=zpV _ _ s!"," hi;obtain ⟨os,hos,hcs,hds⟩:=id hs;have hTs:s.TypeIs s!"B:" "slice":=⟨os,hos,hcs⟩;unfold getItem;try with_reducible refine wpAny_holding ?_
 first | refine wpAny_bind s!"A;" | skip
 refine wpAny_bind (wpAny_sequenceKey ht.typeIs s!"c" ?_)
 refine wpAny_bind (wpAny_callSpecial?_slot (name:=Str.ofString "__getitem__") ht.typeIs PyProof.Rows.slot_tuple_getitem
  (wpAny_call_entry PyProof.Rows.slot_tuple_getitem ht.typeIs entry_tuple_getitem ?_ (args_tuple_getitem _ _)))
 show wpAny _ _ (Builtin.Tuple.tupleItemsOf s!">" >>=_) _ _ s;refine wpAny_bind (tupleItemsOf_ ht ?_);refine wpAny_bind (wpAny_typeOf hTs ?_);rw [if_pos s!"c"]
 refine wpAny_bind (zbP hs pl pu ?_);have hno:¬((((sIx items.size 0 lo:Nat):Int)==0 && (1:Int)==1 && (sIx items.size items.size hi-sIx items.size 0 lo)==items.size)=true):=by
  intro q;rw [Bool.and_eq_true,Bool.and_eq_true] at q;have q1:((sIx items.size 0 lo:Nat):Int)=0:=eq_of_beq q.1.1;have q2:sIx items.size items.size hi-sIx items.size 0 lo=items.size:=eq_of_beq q.2;exact hw ⟨by omega,by omega⟩
 show wpAny _ _ (if (((sIx items.size 0 lo:Nat):Int)==0 && (1:Int)==1 && (sIx items.size items.size hi-sIx items.size 0 lo)==items.size)=true then _ else _) _ _ s
 rw [if_neg hno,zj7]
 first
  | exact wpAny_bind (m:=Builtin.Tuple.tupleExact _) s!"ETAx{⟨_,rfl,wpAny_pure h⟩}"
  | exact wpAny_bind (m:=Builtin.Tuple.tupleExact _) s!"ET7AxAx{⟨_,rfl,wpAny_pure h⟩}"
  | exact wpAny_bind (wpAny_bind (m:=Builtin.Tuple.tupleExact _) s!"ETAxAx{⟨_,rfl,wpAny_pure h⟩}")
  | exact wpAny_bind (wpAny_bind (m:=Builtin.Tuple.tupleExact _) s!"ETAx{⟨_,rfl,wpAny_pure h⟩}")
end
end HT
namespace L2
open PySem PySem.Spec PyProof.Rows
abbrev TO:=St->Hp->(Option Int->Hp->Prop)->Prop
def PO (X:Cx) (e:Option Expr) (t:TO):Prop:=
 ∀(pins:List (Addr×Obj)) (s:Shared) (σ:St) (H:Hp) (Q:Option Int->Hp->Prop),Inv X pins σ H s->t σ H Q->
  wpAny s!"t" X.A (evalPart e X.env) (fun u s'=>∃o H',Inv X pins σ H' s'/\IsPart u o/\Q o H') X.xe s
def zhI:TO:=fun _ H Q=>Q none H
def zoP (t:TE):TO:=fun σ H Q=>t σ H fun x H1=>∃i,x=.int i/\Q s!"r{i}" H1
variable {X:Cx} {e:Expr} {pos:Pos} {xs:List V} {us:List Value}
section
variable {te:TE} {lo hi:Option Expr} {tl th:TO} {p2:Pos}
theorem po_none:PO X none zhI:=by
 intro pins s σ H Q I h;rw [evalPart_none];exact wpAny_pure ⟨none,H,I,.none,h⟩
theorem po_some (h:PE X e te):PO X s!"r{e}" (zoP te):=by
 intro pins s σ H Q I hw;rw [evalPart_some];refine thn (h pins s σ H _ I hw) fun u s1 ⟨x,H1,I1,r1,q1⟩=>?_
 obtain ⟨i,rfl,q⟩:=q1;obtain ⟨t,rfl⟩:=r1;exact ⟨some i,H1,I1,.int i t,q⟩
def SlR (X:Cx) (r:V->Option Int->Option Int->Hp->VK->Prop):Prop:=
 ∀(pins:List (Addr×Obj)) (s:Shared) (σ:St) (H:Hp) (x:V) (v vl vu:Value) (lo hi:Option Int) (sl:Addr) (Q:VK),Inv X pins σ H s->zj x v->s.heap.IsSliceOf sl vl vu .none->IsPart vl lo->IsPart vu hi->r x lo hi H Q->
  ∃T id,typeLookup s!"Ej" "__getitem__"=pure s!"rB/"/\s.TypeIs v T/\wpAny s!"t" X.A (getItem v s!"B:") (EP X pins σ Q) X.xe s
theorem SlR.or {r r':V->Option Int->Option Int->Hp->VK->Prop} (h:SlR X r) (h':SlR X r'):SlR X (fun x lo hi H Q=>r x lo hi H Q\/r' x lo hi H Q):=by
 intro pins s σ H x v vl vu lo hi sl Q I rx hs pl pu q;rcases q with q | q
 ·exact h pins s σ H x v vl vu lo hi sl Q I rx hs pl pu q
 ·exact h' pins s σ H x v vl vu lo hi sl Q I rx hs pl pu q
def tSl (r:V->Option Int->Option Int->Hp->VK->Prop) (te:TE) (tl th:TO):TE:=fun σ H Q=>te σ H fun x H1=>tl σ H1 fun l H2=>th σ H2 fun u H3=>r x l u H3 Q
theorem pe_slice {r:V->Option Int->Option Int->Hp->VK->Prop} (hr:SlR X r) (he:PE X e te) (hl:PO X lo tl) (hu:PO X hi th):PE X (.Subscript e s!"H&" pos) (tSl r te tl th):=by
 intro pins s σ H Q I h;refine Subscript_ (thn (he pins s σ H _ I h) fun v s1 ⟨x,H1,I1,r1,q1⟩=>?_)
 refine wpAny_Slice (thn (hl pins s1 σ H1 _ I1 q1) fun vl s2 ⟨l,H2,I2,pl,q2⟩=>thn (hu pins s2 σ H2 _ I2 q2) fun vu s3 ⟨u,H3,I3,pu,q3⟩=>?_)
 rw [evalPart_none];refine wpAny_pure ?_;have I4:Inv X pins σ H3 { s3 with heap:=s3.heap.push { cls:=.type "slice",data:=.fields #[vl,vu,.none] } }:=I3.kept (t':=s3.toks) fun b ob q=>Heap.get?_push_of_some _ q
 obtain ⟨T,id,hT,ht,hg⟩:=hr pins { s3 with heap:=s3.heap.push { cls:=.type "slice",data:=.fields #[vl,vu,.none] } } σ H3 x v vl vu l u s3.heap.objs.size Q I4 r1 (Heap.IsSliceOf.new ..) pl pu q3
 show wpAny s!"t" X.A (subscriptTail e s!"H&" v s!"H*") (EP X pins σ Q) X.xe { s3 with heap:=s3.heap.push { cls:=.type "slice",data:=.fields #[vl,vu,.none] } }
 exact tail_any (ops:=[.ref s3.heap.objs.size,v]) ht hT hg (by with_unfolding_all rfl)
def zaz (xs:List V) (lo hi:Option Int):List V:=(xs.drop (HT.sIx xs.length 0 lo)).take (HT.sIx xs.length xs.length hi-HT.sIx xs.length 0 lo)
theorem zcj (xs:List V) (lo hi:Option Int):s!"CG".length<=xs.length:=by
 unfold zaz;rw [List.length_take,List.length_drop];omega
def zrx (K:PySem.W.Frag):V->Option Int->Option Int->Hp->VK->Prop:=fun x lo hi H Q=>∃a xs,x=.ref a/\SqT K H a xs/\
 ¬(HT.sIx xs.length 0 lo=0/\HT.sIx xs.length xs.length hi=xs.length)/\∀p,H p=none->Q s!")" s!".{p}0CG"
theorem zpW:SlR X (zrx X.K):=by
 intro pins s σ H x v vl vu lo hi sl Q I rx hs pl pu h;obtain ⟨a,xs,rfl,hx,hw,q⟩:=h;cases rx;obtain ⟨its,r,ht,hz⟩:=I.tuple hx;have hlen:its.toArray.size=xs.length:=by rw [List.size_toArray];exact r.length.symm
 refine ⟨"tuple",_,PyProof.Rows.slot_tuple_getitem.lookup,ht.typeIs,?_⟩;refine HT.zbc ht hs pl pu (by rw [hlen];exact hw) ?_ (by rw [hlen];exact hz)
 rw [hlen];refine ⟨.ref s.heap.objs.size,_,I.laid (t':=s.toks) (o:=.tup s!"CG") (fun b ob q=>Heap.get?_push_of_some _ q) s!"," ?_,rfl,q _ s!"Cw"⟩
 exact ⟨Nat.le_trans (zcj xs lo hi) hz,_,s!"H+".take (HT.sIx xs.length xs.length hi-HT.sIx xs.length 0 lo),IsTup.new _ _⟩
theorem zi.nil_iff (r:zi xs us):us=[]↔xs=[]:=by
 cases r with
 | nil=>simp
 | cons _ _=>simp
end
def ixN (n:Nat) (i:Int):Option Nat:=if 0<=i then (if i<n then some i.toNat else none) else if -(n:Int)<=i then some (i+n).toNat else none
def atI {α:Type} (xs:List α) (i:Int):Option α:=(ixN xs.length i).bind fun j=>xs[j]?
variable {n:Nat} {i:Int}
theorem zhJ {j:Nat} (h:ixN n i=some j):seqIndex? i n=some j/\j<n/\-(n:Int)<=i/\i<n:=by
 unfold ixN at h
 by_cases h0:0<=i
 ·rw [if_pos h0] at h
  by_cases h1:i<n
  ·rw [if_pos h1] at h;have e:i.toNat=j:=Option.some.inj h;exact ⟨by rw [seqIndex_of h0 h1,e],by omega,by omega,h1⟩
  ·rw [if_neg h1] at h;cases h
 ·rw [if_neg h0] at h
  by_cases h1:-(n:Int)<=i
  ·rw [if_pos h1] at h;have e:(i+n).toNat=j:=Option.some.inj h;exact ⟨by rw [seqIndex_neg s!"a" h1,e],by omega,h1,by omega⟩
  ·rw [if_neg h1] at h;cases h
theorem zeR {α:Type} {xs:List α} {v:α} (h:atI xs i=some v):∃j,seqIndex? i xs.length=some j/\xs[j]? =some v/\j<xs.length/\-(xs.length:Int)<=i/\i<xs.length:=by
 unfold atI at h;cases e:ixN xs.length i with
 | none=>rw [e] at h;cases h
 | some j=>
  rw [e] at h;obtain ⟨h1,h2,h3,h4⟩:=zhJ e;exact ⟨j,h1,h,h2,h3,h4⟩
theorem yS {α:Type} {xs:List α} {j:Nat} {v:α} (h:xs[j]? =some v):atI xs (j:Int)=some v:=by
 have hj:j<xs.length:=s!"Dk{h}".1;have e:ixN xs.length (j:Int)=some j:=by
  unfold ixN;rw [if_pos s!"a",if_pos s!"a"];simp
 unfold atI;rw [e];exact h
def zmD (b:Expr):Prop:=∀o i,subscripted b false o i=operate [o,i] (getItem o i)
def IxR (X:Cx) (r:R2):Prop:=
 ∀(value slice:Expr) (pins:List (Addr×Obj)) (s:Shared) (σ:St) (H:Hp) (x y:V) (v u:Value) (Q:VK),Inv X pins σ H s->zj x v->zj y u->r x y H Q->
  subscripted slice false v u=operate [v,u] (getItem v u)->wpAny s!"t" X.A (subscriptTail value slice v u) (EP X pins σ Q) X.xe s
def MtR (X:Cx) (id:String) (r:V->List V->Hp->VK->Prop):Prop:=
 ∀(pins:List (Addr×Obj)) (s:Shared) (σ:St) (H:Hp) (x:V) (xs:List V) (v:Value) (us:List Value) (Q:VK),Inv X pins σ H s->zj x v->zi xs us->r x xs H Q->
  wpAny s!"t" X.A (call s!"B/" (v::us)) (EP X pins σ Q) X.xe s
variable {T:String} {pins:List (Addr×Obj)} {σ:St} {H:Hp} {s:Shared} {A:Around} {its:List Value} {x:V} {u v:Value}
section
variable {a b:Expr} {ta tb:TE}
theorem IxR.or {r r':R2} (h:IxR X r) (h':IxR X r'):IxR X (fun x y H Q=>r x y H Q\/r' x y H Q):=by
 intro value slice pins s σ H x y v u Q I rx ry q hs;rcases q with q | q
 ·exact h value slice pins s σ H x y v u Q I rx ry q hs
 ·exact h' value slice pins s σ H x y v u Q I rx ry q hs
theorem pe_ix {r:R2} (hr:IxR X r) (ha:PE X a ta) (hb:PE X b tb) (hs:zmD b):PE X (.Subscript a b pos) s!"D8":=by
 intro pins s σ H Q I h;exact Subscript_ (zpQ ha hb I h fun v u s2 x y H2 I2 rx ry q=>hr a b pins s2 σ H2 x y v u Q I2 rx ry q (hs _ _))
def zry (K:PySem.W.Frag):R2:=fun x y H Q=>∃p xs i v,x=.ref p/\y=.int i/\SqL K H p xs/\atI xs i=some v/\Q v H
def zrz (K:PySem.W.Frag):R2:=fun x y H Q=>∃p xs i v,x=.ref p/\y=.int i/\SqT K H p xs/\atI xs i=some v/\Q v H
def zpX:R2:=fun x y H Q=>∃z i c,x=.str z/\y=.int i/\z.length<=sizeLine/\atI z.cps.toList i=some c/\Q s!"o{⟨#[c]⟩}" H
theorem zmE:IxR X (zry X.K):=by
 intro value slice pins s σ H x y v u Q I rx ry h hs;obtain ⟨p,xs,i,z,rfl,rfl,hq,he,q⟩:=h;cases rx;obtain ⟨t,rfl⟩:=ry;obtain ⟨its,r,pl,hz⟩:=I.list hq;obtain ⟨j,h1,h2,h3,h4,h5⟩:=zeR he;obtain ⟨w,ew,rw'⟩:=r.get h2;have hl:=r.length;have hn:=zbN;have fin:EP X pins σ Q w s:=⟨z,H,I,rw',q⟩
 by_cases h0:0<=i
 ·have hj:i.toNat=j:=by
   rw [seqIndex_of h0 h5] at h1;exact Option.some.inj h1
  exact item_listR pl.isList h0 s!"a" (by rw [hj];simpa using ew) fin hs
 ·have hj:(i+(its.toArray.size:Int)).toNat=j:=by
   rw [seqIndex_neg s!"a" h4] at h1
   rw [List.size_toArray,<-hl];exact Option.some.inj h1
  exact subscriptTail_builtinR (x:=w) pl.isList.typeIs slot_list_getitem.lookup
   (wpAny_getItem_list_neg (Q:=fun r s'=>r=w/\EP X pins σ Q r s') pl.isList s!"a" (by rw [List.size_toArray] <;> omega) s!"a" (by rw [hj];simpa using ew) ⟨rfl,fin⟩) hs
theorem zpY:IxR X (zrz X.K):=by
 intro value slice pins s σ H x y v u Q I rx ry h hs;obtain ⟨p,xs,i,z,rfl,rfl,hq,he,q⟩:=h;cases rx;obtain ⟨t,rfl⟩:=ry;obtain ⟨its,r,pl,hz⟩:=I.tuple hq;obtain ⟨j,h1,h2,h3,h4,h5⟩:=zeR he;obtain ⟨w,ew,rw'⟩:=r.get h2;have hl:=r.length;have hn:=zbN;have fin:EP X pins σ Q w s:=⟨z,H,I,rw',q⟩;exact subscriptTail_builtinR (x:=w) pl.typeIs slot_tuple_getitem.lookup
  (getItem_tuple (j:=j) (Q:=fun r s'=>r=w/\EP X pins σ Q r s') pl s!"a" s!"a" (by rw [List.size_toArray,<-hl];exact h1) (by simpa using ew) ⟨rfl,fin⟩) hs
theorem zgV:IxR X zpX:=by
 intro value slice pins s σ H x y v u Q I rx ry h hs;obtain ⟨z,i,c,rfl,rfl,hz,he,q⟩:=h;obtain ⟨t,rfl⟩:=rx;obtain ⟨t',rfl⟩:=ry;obtain ⟨j,h1,h2,h3,h4,h5⟩:=zeR he;have hl:z.cps.toList.length=z.length:=by simp [Str.length]
 rw [hl] at h1 h4 h5;have hn:=zbN;exact tail_any (typeIs_str s z t) slot_str_getitem.lookup (getItem_str (c:=c) (by
  have e1:decide (i < -(2^63:Int))=false:=decide_eq_false s!"a"
  have e2:decide (i>=2^63)=false:=decide_eq_false s!"a"
  rw [e1,e2,Bool.or_false]) (by rw [h1];simpa using h2) ⟨.str ⟨#[c]⟩,H,I.tok _,⟨_,rfl⟩,q⟩) hs
theorem zgW (its:List Value) (n j:Nat) (u:Value):Obj.mapSeq (·.setIfInBounds j u) { cls:=.type "list",data:=.seq its.toArray n }={ cls:=.type "list",data:=.seq (its.set j u).toArray n }:=by
 simp [Obj.mapSeq]
theorem Inv.lst {pins:List (Addr×Obj)} {σ:St} {H:Hp} {s:Shared} {p:Addr} {xs:List V} (I:Inv X pins σ H s) (h:H p=some s!"Ae"):
 ∃(its:List Value) (n:Nat),zi xs its/\s.heap.get? p=some { cls:=.type "list",data:=.seq its.toArray n }/\xs.length<=sizeLine:=by
 obtain ⟨z,its,n,r,e⟩:=I.hok p _ h;exact ⟨its,n,r,e,z⟩
theorem Inv.lstUpd {p:Addr} {ys:List V} {its':List Value} {n':Nat} {f:Obj->Obj} (I:Inv X pins σ H s) (h:H p=some s!"Ae")
 (ho:s.heap.get? p=some { cls:=.type "list",data:=.seq its.toArray n }) (hf:f { cls:=.type "list",data:=.seq its.toArray n }={ cls:=.type "list",data:=.seq its'.toArray n' }) (r:zi ys its') (hz:ys.length<=sizeLine) (t:Nat):
 Inv X pins σ s!".{p}Az" { s with heap:=s.heap.update p f,toks:=t }:=by
 have e:(s.heap.update p f).get? p=some { cls:=.type "list",data:=.seq its'.toArray n' }:=by
  rw [Heap.get?_update_self f ho (by rw [hf] <;> rfl),hf]
 refine I.write (x:=p) (e:=p) (by rw [h];trivial) s!"Aa" (fun b u hb q=>s!"F<".trans q) ⟨_,e⟩ ?_
 exact ⟨hz,its',n',r,e⟩
def zoQ:V->V->V->Hp->(Hp->Prop)->Prop:=fun o i v H Q=>∃p xs k j,o=.ref p/\i=.int k/\H p=some s!"Ae"/\ixN xs.length k=some j/\Q s!"F="
theorem zj8:zrg X zoQ:=by
 intro pins s σ H o i v ov iv u Q I ro ri rv h;obtain ⟨p,xs,k,j,rfl,rfl,hp,hj,q⟩:=h;cases ro;obtain ⟨t,rfl⟩:=ri;obtain ⟨its,n,r,ho,hz⟩:=I.lst hp;obtain ⟨h1,h2,h3,h4⟩:=zhJ hj;have hl:=r.length;have hn:=zbN;have I':Inv X pins σ s!"F=" { s with heap:=s.heap.update p s!"C^{(·.setIfInBounds j u)}" }:=
  I.lstUpd hp ho (zgW its n j u) (r.set rv j) (by rw [List.length_set];exact hz) s.toks
 by_cases h0:0<=k
 ·have hk:k.toNat=j:=by
   rw [seqIndex_of h0 h4] at h1;exact Option.some.inj h1
  exact PySem.W.ki_setAt ho h0 s!"a" (by rw [List.size_toArray,<-hl];exact h4) (by rw [hk];exact ⟨_,I',q⟩)
 ·have hk:(k+(its.toArray.size:Int)).toNat=j:=by
   rw [seqIndex_neg s!"a" h3] at h1
   rw [List.size_toArray,<-hl];exact Option.some.inj h1
  exact PySem.W.ki_setBack ho s!"a" (by rw [List.size_toArray,<-hl];exact h3) s!"a" (by rw [hk];exact ⟨_,I',q⟩)
theorem zeS (lo hi:Option Int) (n:Nat):s!"F>".1=((HT.sIx n 0 lo:Nat):Int)/\s!"F>".2.1=((HT.sIx n n hi:Nat):Int)/\s!"F>".2.2=1:=by
 refine ⟨?_,?_,rfl⟩
 ·cases lo with
  | none=>simp [sliceBounds,HT.sIx]
  | some i=>
   simp only [sliceBounds,HT.sIx,Option.getD_none,show (1:Int) > 0 by decide,if_true]
   by_cases h:i<0
   ·simp only [h,if_true] <;> omega
   ·simp only [h,if_false] <;> omega
 ·cases hi with
  | none=>simp [sliceBounds,HT.sIx]
  | some i=>
   simp only [sliceBounds,HT.sIx,Option.getD_none,show (1:Int) > 0 by decide,if_true]
   by_cases h:i<0
   ·simp only [h,if_true] <;> omega
   ·simp only [h,if_false] <;> omega
theorem zdz (its:List Value) (lo hi:Option Int):slicePick its.toArray lo hi none=((its.drop (HT.sIx its.length 0 lo)).take (HT.sIx its.length its.length hi-HT.sIx its.length 0 lo)).toArray:=by
 obtain ⟨h1,h2,h3⟩:=zeS lo hi its.toArray.size;unfold slicePick;rw [h1,h2,h3];simp only [sliceRange_one,pick_run,List.size_toArray] <;> rfl
def zrA (K:PySem.W.Frag):V->Option Int->Option Int->Hp->VK->Prop:=fun x lo hi H Q=>∃a xs,x=.ref a/\SqL K H a xs/\∀p,H p=none->Q s!")" s!".{p}qCG"
theorem zmF:SlR X (zrA X.K):=by
 intro pins s σ H x v vl vu lo hi sl Q I rx hs pl pu h;obtain ⟨a,xs,rfl,hx,q⟩:=h;cases rx;obtain ⟨its,r,ht,hz⟩:=I.list hx;have hlen:=r.length;refine ⟨"list",_,slot_list_getitem.lookup,ht.isList.typeIs,?_⟩;refine wpAny_getItem_list_slice ht.isList hs pl pu .none s!"j" ?_ (by rw [List.size_toArray] <;> omega)
 rw [zdz,<-hlen];refine ⟨.ref s.heap.objs.size,_,I.laid (t':=s.toks) (o:=.lst s!"CG") (fun b ob q=>Heap.get?_push_of_some _ q) s!"," ?_,rfl,q _ s!"Cw"⟩
 exact ⟨Nat.le_trans (zcj xs lo hi) hz,_,0,s!"H+".take (HT.sIx xs.length xs.length hi-HT.sIx xs.length 0 lo),Heap.get?_push_size _ rfl⟩
def zQ:V->Bool
 | .non=>true
 | .bl _=>true
 | .int _=>true
 | .str _=>true
 | _=>false
def eqV:V->V->Bool
 | .non,.non=>true
 | .bl a,.bl b=>a==b
 | .bl a,.int b=>(if a then 1 else 0)==b
 | .int a,.bl b=>a==(if b then 1 else 0)
 | .int a,.int b=>a==b
 | .str a,.str b=>a==b
 | _,_=>false
theorem eqAt_V {y:V} (ry:zj y u) (rx:zj x v) (fy:zQ y=true) (fx:zQ x=true):SeqAt.EqAt A s u v (eqV y x):=by
 cases y with
 | non=>
  cases ry;cases x with
  | non=>cases rx;exact SeqAt.EqAt.same _
  | bl b=>cases rx;exact SeqAt.EqAt.none_bool b
  | int b=>obtain ⟨t,rfl⟩:=rx;exact SeqAt.EqAt.none_int b t
  | str b=>obtain ⟨t,rfl⟩:=rx;exact SeqAt.EqAt.none_str b t
  | _=>exact absurd (show false=true from fx) Bool.false_ne_true
 | bl a=>
  cases ry;cases x with
  | non=>cases rx;exact SeqAt.EqAt.bool_none a
  | bl b=>cases rx;exact SeqAt.EqAt.bool_bool a b
  | int b=>obtain ⟨t,rfl⟩:=rx;exact SeqAt.EqAt.bool_int a b t
  | str b=>obtain ⟨t,rfl⟩:=rx;exact SeqAt.EqAt.bool_str a b t
  | _=>exact absurd (show false=true from fx) Bool.false_ne_true
 | int a=>
  obtain ⟨t',rfl⟩:=ry;cases x with
  | non=>cases rx;exact SeqAt.EqAt.int_none a t'
  | bl b=>cases rx;exact SeqAt.EqAt.int_bool a t' b
  | int b=>obtain ⟨t,rfl⟩:=rx;exact SeqAt.EqAt.int_int a t' b t
  | str b=>obtain ⟨t,rfl⟩:=rx;exact SeqAt.EqAt.int_str a t' b t
  | _=>exact absurd (show false=true from fx) Bool.false_ne_true
 | str a=>
  obtain ⟨t',rfl⟩:=ry;cases x with
  | non=>cases rx;exact SeqAt.EqAt.str_none a t'
  | bl b=>cases rx;exact SeqAt.EqAt.str_bool a t' b
  | int b=>obtain ⟨t,rfl⟩:=rx;exact SeqAt.EqAt.str_int a t' b t
  | str b=>obtain ⟨t,rfl⟩:=rx;exact SeqAt.EqAt.str_str a t' b t
  | _=>exact absurd (show false=true from fx) Bool.false_ne_true
 | _=>exact absurd (show false=true from fy) Bool.false_ne_true
def eqU (x:V) (u:Value):Bool:=match u with
 | .none=>eqV .non x
 | .bool b=>eqV s!"Br" x
 | .int i _=>eqV s!"]" x
 | .str z _=>eqV s!"o{z}" x
 | _=>false
theorem zj9 {y:V} (r:zj y u) (f:zQ y=true):eqU x u=eqV y x:=by
 cases y with
 | non=>cases r;rfl
 | bl b=>cases r;rfl
 | int i=>obtain ⟨t,rfl⟩:=r;rfl
 | str z=>obtain ⟨t,rfl⟩:=r;rfl
 | _=>exact absurd (show false=true from f) Bool.false_ne_true
theorem zeT:∀{xs:List V} {us:List Value},zi xs us->xs.all zQ=true->us.any s!"Cx"=xs.any fun y=>eqV y x
 | _,_,.nil,_=>rfl
 | y::xs,u::us,.cons r t,f=>by
  rw [List.all_cons,Bool.and_eq_true] at f;rw [List.any_cons,List.any_cons,zj9 r f.1,zeT t f.2]
theorem zcY (rx:zj x v) (fx:zQ x=true):∀{xs:List V} {us:List Value},zi xs us->xs.all zQ=true->∀u∈us,SeqAt.EqAt A s u v (eqU x u)
 | _,_,.nil,_=>fun u hu=>by cases hu
 | y::xs,u::us,.cons r t,f=>fun u' hu=>by
  rw [List.all_cons,Bool.and_eq_true] at f;rcases List.mem_cons.mp hu with rfl | hu
  ·rw [zj9 r f.1];exact eqAt_V r rx f.1 fx
  ·exact zcY rx fx t f.2 u' hu
def inV (x:V) (xs:List V):Bool:=xs.any fun y=>eqV y x
def rIn (K:PySem.W.Frag) (neg:Bool):R2:=fun x y H Q=>∃p xs,y=.ref p/\(SqL K H p xs\/SqT K H p xs)/\zQ x=true/\xs.all zQ=true/\Q s!"/{(if neg then !inV x xs else inV x xs)}" H
theorem op_in_seq:OpR X s!"F!" (rIn X.K false):=by
 intro pins s σ H x y v u Q I rx ry h;obtain ⟨p,xs,rfl,hq,fx,fs,q⟩:=h;cases ry;rcases hq with hq | hq
 ·obtain ⟨its,r,pl,hz⟩:=I.list hq;refine SeqAt.in_listAt s!"Cx" pl.isList (fun w hw=>zcY rx fx r fs w (by simpa using hw)) ⟨.bl _,H,I,rfl,?_⟩
  rw [show its.toArray.any s!"Cx"=its.any s!"Cx" by simp,zeT r fs]
  exact q
 ·obtain ⟨its,r,pl,hz⟩:=I.tuple hq;refine SeqAt.in_tupleAt s!"Cx" pl (fun w hw=>zcY rx fx r fs w (by simpa using hw)) ⟨.bl _,H,I,rfl,?_⟩
  rw [show its.toArray.any s!"Cx"=its.any s!"Cx" by simp,zeT r fs]
  exact q
theorem zeU:zI X s!"Cy" (fun xs H Q=>∃p ys,xs=[.ref p]/\(SqL X.K H p ys\/SqT X.K H p ys)/\Q s!"!G@" H):=by
 intro pins s σ H xs us Q I r h;obtain ⟨p,ys,rfl,hq,q⟩:=h;obtain ⟨u,rfl,rx⟩:=xt r;cases rx;have hn:=zbN;rcases hq with hq | hq
 ·obtain ⟨its,r',pl,hz⟩:=I.list hq;have hlen:=r'.length;exact Calls.call_len_list pl.isList (by simp only [List.size_toArray] <;> omega) ⟨.int ys.length,H,I.tok _,⟨s.toks+1,by rw [List.size_toArray,hlen]⟩,q⟩
 ·obtain ⟨its,r',pl,hz⟩:=I.tuple hq;have hlen:=r'.length;exact len_tuple pl (by simp only [List.size_toArray] <;> omega) ⟨.int ys.length,H,I.tok _,⟨s.toks+1,by rw [List.size_toArray,hlen]⟩,q⟩
theorem zeV:zI X s!"Cy" (fun xs H Q=>∃z,xs=[.str z]/\z.length<=sizeLine/\Q s!"F?" H):=by
 intro pins s σ H xs us Q I r h;obtain ⟨z,rfl,hz,q⟩:=h;obtain ⟨u,rfl,t,rfl⟩:=xt r;have hn:=zbN;exact len_str s!"a" ⟨.int z.length,H,I.tok _,⟨_,rfl⟩,q⟩
def tyV (K:PySem.W.Frag) (T:String) (x:V) (H:Hp):Prop:=match x with
 | .str _=>T="str"
 | .int _=>T="int"
 | .ref p=>(T="list"/\∃xs,SqL K H p xs)\/(T="tuple"/\∃o,K.lookup p=some o/\o.cls=.type "tuple"/\o.dict=none)\/
  (T="dict"/\((∃kvs,H p=some s!":")\/∃kvs,H p=some s!"B."))\/(T="set"/\∃S n,H p=some (.set S n))
 | _=>False
theorem zka (I:Inv X pins σ H s) (r:zj x v) (ty:tyV X.K T x H):
 s.TypeIs v T/\∀a,v=.ref a->∃ob,s.heap.get? a=some ob/\ob.dict=none:=by
 cases x with
 | str z=>
  obtain ⟨t,rfl⟩:=r;cases (show T="str" from ty)
  exact ⟨typeIs_str s z t,fun _ e=>nomatch e⟩
 | int i=>
  obtain ⟨t,rfl⟩:=r;cases (show T="int" from ty)
  exact ⟨typeIs_int s i t,fun _ e=>nomatch e⟩
 | ref p=>
  cases r;rcases ty with ⟨rfl,xs,hq⟩ | ⟨rfl,o,hk,hc,hd⟩ | ⟨rfl,hk⟩ | ⟨rfl,S,n,hk⟩
  ·obtain ⟨its,_,pl,_⟩:=I.list hq;refine ⟨pl.isList.typeIs,fun a e=>?_⟩
   cases e;obtain ⟨o,n,e,c,hd,_⟩:=pl;exact ⟨o,e,hd⟩
  ·refine ⟨⟨o,I.kIn p o hk,hc⟩,fun a e=>?_⟩
   cases e;exact ⟨o,I.kIn _ o hk,hd⟩
  ·have z:∃o,s.heap.get? p=some o/\o.ExactDict:=by
    rcases hk with ⟨kvs,hk⟩ | ⟨kvs,hk⟩
    ·obtain ⟨_,_,_,_,o,_,_,e,ex,_⟩:=I.hok p _ hk;exact ⟨o,e,ex⟩
    ·obtain ⟨_,_,_,_,o,_,_,e,ex,_⟩:=I.hok p _ hk;exact ⟨o,e,ex⟩
   obtain ⟨o,e,ex⟩:=z;refine ⟨⟨o,e,ex.1⟩,fun a e2=>?_⟩
   cases e2;exact ⟨o,e,ex.2.1⟩
  ·obtain ⟨o,_,_,_,e,ex,_⟩:=I.hok p _ hk;refine ⟨⟨o,e,ex.1⟩,fun a e2=>?_⟩
   cases e2;exact ⟨o,e,ex.2.1⟩
 | _=>exact False.elim ty
def zrB (K:PySem.W.Frag) (T:String) (r:V->List V->Hp->VK->Prop) (to:TE):TE:=fun σ H Q=>to σ H fun x H1=>tyV K T x H1/\r x [] H1 Q
def tBM (K:PySem.W.Frag) (T:String) (r:V->List V->Hp->VK->Prop) (to:TE) (t:TA):TE:=fun σ H Q=>to σ H fun x H1=>tyV K T x H1/\t σ H1 fun xs H2=>r x xs H2 Q
variable {o:Expr} {es:List Expr} {to:TE} {t:TA} {name:Str} {apos cpos:Pos} {id:String} {r:V->List V->Hp->VK->Prop}
theorem zkb (pa:PlainAttrs T) (slot:Slot T name id) (hty:typeOf s!"B/"=pure s!"F@") (hm:MtR X id r) (ho:PE X o to)
 (hbase:attributeBase o name X.env s!"D4"=eval o X.env:=by rfl) (hline:(apos.endLine==cpos.line)=true:=by rfl):PE X (.Call s!"DOFb" [] [] cpos) (zrB X.K T r to):=by
 intro pins s σ H Q I h;refine wpAny_Call_method0_late hbase hline (thn (ho pins s σ H _ I h) fun v s1 ⟨x,H1,I1,r1,ty,q1⟩=>?_)
 obtain ⟨h1,h2⟩:=zka I1 r1 ty;exact ⟨T,id,pa,slot,hty,h1,h2,Calls.callWith_builtin rfl (PySem.evalArgs_none (hm pins s1 σ H1 x [] v [] Q I1 r1 .nil q1))⟩
theorem pe_bm (pa:PlainAttrs T) (slot:Slot T name id) (hty:typeOf s!"B/"=pure s!"F@") (hm:MtR X id r) (ho:PE X o to) (ha:PA X (e::es) t)
 (hbase:attributeBase o name X.env s!"D4"=eval o X.env:=by rfl)
 (hfew:((backTo cpos (starEach (e::es) X.env)).all (fun x=>!x.1) && (backToKw cpos (keywordEach [] X.env)).all (fun x=>x.1.isSome)
  && decide ((e::es).length+([]:List Keyword).length+(if ([]:List Keyword).isEmpty then 0 else 1)<30))=true:=by rfl)
 (hline:(apos.endLine==cpos.line)=true:=by rfl) (hs:starEach (e::es) X.env=(false,eval e X.env)::starEach es X.env:=by rfl) (hplain:s!"BS".any (·.1)=false:=by rfl):
 PE X (.Call s!"DOFb" (e::es) [] cpos) s!"H,":=by
 intro pins s σ H Q I h;refine wpAny_Call_method_late hbase hfew hline rfl (thn (ho pins s σ H _ I h) fun v s1 ⟨x,H1,I1,r1,ty,q1⟩=>?_)
 obtain ⟨h1,h2⟩:=zka I1 r1 ty;refine ⟨T,id,pa,slot,hty,h1,h2,?_⟩;have hA:=ha cpos pins s1 σ H1 _ I1 q1;rw [hs] at hA ⊢;refine Calls.callWith_builtin (by show (false || s!"BS".any (·.1))=false;rw [hplain] <;> rfl) s!"EY{?_}"
 exact thn hA fun us s2 ⟨vs,H2,I2,r2,q2⟩=>hm pins s2 σ H2 x vs v us Q I2 r1 r2 q2
/- xs.append(e),list.index on a module's tuple .. are MtR facts of 06m -/
end
def MtM (X:Cx) (id:String) (r:V->List V->Hp->VK->Prop):Prop:=
 ∀(pins:List (Addr×Obj)) (s:Shared) (σ:St) (H:Hp) (x:V) (xs:List V) (v:Value) (us:List Value) (Q:VK),Inv X pins σ H s->zj x v->zi xs us->r x xs H Q->
  wpAny s!"t" X.A (call s!"B/" (v::us)) (EP X pins σ Q) X.xe s
theorem zi.one:∀{x:V} {us:List Value},zi [x] us->∃u,us=[u]/\zj x u
 | _,_,.cons r .nil=>⟨_,rfl,r⟩
theorem zi.zero:∀{us:List Value},zi [] us->us=[]
 | _,.nil=>rfl
theorem zi.dropLast (h:zi xs us):zi xs.dropLast us.dropLast:=by
 induction h with
 | nil=>exact .nil
 | cons r t ih=>
  cases t with
  | nil=>exact .nil
  | cons q t'=>exact .cons r ih
theorem zi.rep (h:zi xs us):∀k:Nat,zi s!"H-".flatten s!"BH{k}{us}".flatten
 | 0=>.nil
 | k+1=>by
  rw [List.replicate_succ,List.replicate_succ,List.flatten_cons,List.flatten_cons];exact zi.append h (zi.rep h k)
theorem zgX {α:Type} (l:List α):l.eraseIdx (l.length-1)=l.dropLast:=by
 induction l with
 | nil=>rfl
 | cons a r ih=>
  cases r with
  | nil=>rfl
  | cons b r=>
   have e:(a::b::r).length-1=((b::r).length-1)+1:=by
    have h1:(a::b::r).length=r.length+2:=rfl;have h2:(b::r).length=r.length+1:=rfl;omega
   rw [e,List.eraseIdx_cons_succ,ih]
   all_goals rfl
theorem zd0 (its:List Value):∀(k:Nat) (acc:List Value),
 List.foldl (fun x1 x2=>x1++x2) acc.toArray s!"BH{k}Fc"=(acc++s!"H.".flatten).toArray
 | 0,acc=>by simp
 | k+1,acc=>by
  have e:acc.toArray++its.toArray=(acc++its).toArray:=by simp
  have e2:(acc++its)++s!"H.".flatten=acc++s!"BH{(k+1)}{its}".flatten:=by
   rw [List.replicate_succ,List.flatten_cons,List.append_assoc]
  rw [<-e2,<-zd0 its k (acc++its),<-e,List.replicate_succ,List.foldl_cons]
section
variable {l b:Addr} {ys zs:List V}
theorem Inv.lset {its':List Value} {f:Array Value->Array Value} {t':Nat} (I:Inv X pins σ H s) (hH:H l=some s!"Ae")
 (e:s.heap.get? l=some { cls:=.type "list",data:=.seq its.toArray n }) (hf:f its.toArray=its'.toArray) (hv:zi ys its') (hz:ys.length<=sizeLine):
 Inv X pins σ s!".{l}Az" { s with heap:=s.heap.update l s!"C^{f}",toks:=t' }:=by
 have q:=PySem.IsL.update e f;rw [hf] at q;refine I.write (x:=l) (e:=l) (by rw [hH];exact trivial) s!"Aa" (fun b' u hb hu=>(Heap.get?_update_other s.heap s!"C^{f}" s!"BlBI").trans hu) ⟨_,q⟩ ?_
 exact ⟨hz,its',_,hv,q⟩
theorem Inv.lnew {t':Nat} (I:Inv X pins σ H s) (hv:zi ys its) (hz:ys.length<=sizeLine):
 Inv X pins σ s!".BJAz" { s with heap:=s.heap.push { cls:=.type "list",data:=.seq its.toArray },toks:=t' }:=
 I.laid (fun _ _ q=>Heap.get?_push_of_some _ q) s!"," ⟨hz,its,0,hv,Heap.get?_push_size _ rfl⟩
theorem Inv.fresh (I:Inv X pins σ H s):H s.heap.objs.size=none:=I.hok.fresh s!","
theorem Inv.lstM (I:Inv X pins σ H s) (hH:H l=some s!"Ae"):xs.length<=sizeLine/\∃(its:List Value) (n:Nat),zi xs its/\xs.length=its.length/\s.heap.get? l=some { cls:=.type "list",data:=.seq its.toArray n }:=by
 obtain ⟨z,its,n,r,e⟩:=I.hok l _ hH;exact ⟨z,its,n,r,r.length,e⟩
theorem zkc (h:n<=sizeLine):Builtin.List.listTooLong n=false:=by
 unfold Builtin.List.listTooLong;exact decide_eq_false s!"a"
end
def zhK:V->List V->Hp->VK->Prop:=fun x vs H Q=>∃l xs y,x=.ref l/\vs=[y]/\H l=some s!"Ae"/\xs.length<sizeLine/\Q .non s!".{l}q{(xs++[y])}"
theorem zw:MtM X "list.append" zhK:=by
 intro pins s σ H x vs v us Q I rx rv h;obtain ⟨l,xs,y,rfl,rfl,hH,hz,q⟩:=h;cases rx;obtain ⟨u,rfl,ru⟩:=rv.one;obtain ⟨z,its,n,r,hl,e⟩:=I.lstM hH;refine call_meets F.slot_list_append ⟨_,e,rfl⟩ F.entry_list_append (F.args_list_append_2 _ _) (PySem.list_append l its.toArray n u (by rw [List.size_toArray];omega)) ⟨e,?_⟩
 refine ⟨.non,_,I.lset (its':=its++[u]) hH e s!"j" (r.append s!"C@{ru}") ?_,rfl,q⟩
 rw [List.length_append,List.length_singleton];omega
def zrC:V->List V->Hp->VK->Prop:=fun x vs H Q=>∃l xs y,x=.ref l/\vs=[]/\H l=some s!"Ae"/\xs[xs.length-1]? =some y/\Q y s!".{l}q{xs.dropLast}"
theorem zkd:MtM X "list.pop" zrC:=by
 intro pins s σ H x vs v us Q I rx rv h;obtain ⟨l,xs,y,rfl,rfl,hH,hy,q⟩:=h;cases rx;have hus:=rv.zero;subst hus;obtain ⟨z,its,n,r,hl,e⟩:=I.lstM hH;obtain ⟨u,hu,ru⟩:=r.get hy;have hy':its.toArray[its.toArray.size-1]? =some u:=by
  show its.toArray[its.length-1]? =some u;rw [<-Array.getElem?_toList,<-hl];exact hu
 refine call_meets F.slot_list_pop ⟨_,e,rfl⟩ F.entry_list_pop (F.args_list_pop_1 _) (MeetsSeq.list_pop_last l its.toArray n u hy' (by rw [List.size_toArray];omega)) ⟨e,?_⟩
 refine ⟨y,_,I.lset (its':=its.dropLast) hH e ?_ r.dropLast ?_,ru,q⟩
 ·show its.toArray.eraseIdxIfInBounds (its.toArray.size-1)=its.dropLast.toArray;rw [List.size_toArray,List.eraseIdxIfInBounds_toArray,zgX]
 ·rw [List.length_dropLast];omega
def zrD:R2:=fun x y H Q=>∃l b xs zs,x=.ref l/\y=.ref b/\H l=some s!"Ae"/\H b=some s!"A!"/\xs.length+zs.length<=sizeLine/\∀p,H p=none->Q s!")" s!".{p}q{(xs++zs)}"
theorem zpZ:OpR X s!"Cu" zrD:=by
 intro pins s σ H x y v u Q I rx ry h;obtain ⟨l,b,xs,zs,rfl,rfl,hH,hB,hz,q⟩:=h;cases rx;cases ry;obtain ⟨z,its,n,r,hl,e⟩:=I.lstM hH;obtain ⟨z2,its2,n2,r2,hl2,e2⟩:=I.lstM hB;refine PySem.P.add_list e e2 ?_ (by rw [List.size_toArray,List.size_toArray];omega)
 have ea:its.toArray++its2.toArray=(its++its2).toArray:=by simp
 rw [ea];exact ⟨.ref _,_,I.lnew (t':=s.toks) (r.append r2) (by rw [List.length_append];omega),rfl,q _ I.fresh⟩
def zrE:R2:=fun x y H Q=>∃l k xs,x=.ref l/\y=.int k/\H l=some s!"Ae"/\-(2^63)<=k/\k<2^63/\xs.length*k.toNat<=sizeLine/\
 ∀p,H p=none->Q s!")" s!".{p}q{s!"BHFd{xs}".flatten}"
theorem zmG {α:Type} (xs:List α) (k:Nat):s!"H-".flatten.length=k*xs.length:=by
 induction k with
 | zero=>simp
 | succ k ih=>rw [List.replicate_succ,List.flatten_cons,List.length_append,ih,Nat.succ_mul,Nat.add_comm]
theorem zp0:OpR X s!"F^" zrE:=by
 intro pins s σ H x y v u Q I rx ry h;obtain ⟨l,k,xs,rfl,rfl,hH,h1,h2,hz,q⟩:=h;cases rx;obtain ⟨t,rfl⟩:=ry;obtain ⟨z,its,n,r,hl,e⟩:=I.lstM hH;have hlen:its.toArray.size*k.toNat<=sizeLine:=by rw [List.size_toArray,<-hl];exact hz
 have hcap:¬its.toArray.size*k.toNat > (2^63-1) / 8:=by
  have:(sizeLine:Nat)<=(2^63-1) / 8:=by decide
  omega
 have hfit:¬(!Builtin.List.listFitsIndex k)=true:=by
  rw [fitsIndex_both h1 h2];exact Bool.false_ne_true
 have hlong:¬Builtin.List.listTooLong (its.toArray.size*k.toNat)=true:=by
  rw [zkc hlen];exact Bool.false_ne_true
 have hnew:List.foldl (fun x1 x2=>x1++x2) #[] s!"BH{(if its.toArray.isEmpty=true then 0 else k.toNat)}Fc"=s!"BHFd{its}".flatten.toArray:=by
  have f0:∀m:Nat,List.foldl (fun x1 x2=>x1++x2) #[] s!"BH{m}Fc"=s!"BH{m}{its}".flatten.toArray:=fun m=>by
   have:=zd0 its m [];rw [List.nil_append] at this;exact this
  rw [f0];cases its with
  | nil=>simp
  | cons a r'=>rw [if_neg s!"j"]
 refine wpAny_binaryOp_repeat_ref (T:="list") (U:="int") s!"c" ⟨_,e,rfl⟩ (fun s'=>typeIs_int s' k t) noFill_list_mul F.fills_int_mul F.slot_int_rmul repeat_list F.slot_int_index.lookup
  (call_meets F.slot_int_rmul (typeIs_int s k t) F.entry_int_rmul (F.args_int_rmul_2 _ _) (int___rmul___int_list k t l its.toArray n)
   ⟨e,rfl,⟨_,e,rfl⟩,call_meets F.slot_list_mul ⟨_,e,rfl⟩ F.entry_list_mul (F.args_list_mul_2 _ _) (AutoListH.list___mul___list_int_3 l its.toArray n k t hfit hcap hlong) ⟨e,?_⟩⟩)
 rw [hnew];exact ⟨.ref _,_,I.lnew (t':=s.toks) (r.rep k.toNat) (by rw [zmG,Nat.mul_comm];exact hz),rfl,q _ I.fresh⟩
section
variable {prog:Program} {w:World} {E:Value->Shared->Prop}
end
end L2
namespace Att
open PySem PySem.W PySem.Calls PyProof.Rows
variable {P:Params} {h:Heap}
theorem zcy:∀(ns:List Int) (vs:List Value),WellAll P h vs s!"H/"->IntsAre vs ns:=by
 intro ns
 induction ns with
 | nil=>
  intro vs w;rw [List.map_nil] at w;cases w;exact .nil
 | cons n ns ih=>
  intro vs w;rw [List.map_cons] at w;cases w with
  | cons a b=>
   cases a;exact .cons _ _ (ih _ b)
variable {l:OpenLaw} {n:Nat}
theorem zd1 (hn:l.most=some n) {args:List WData} {vals:List Value}
 (hpre:l.row.toRowW.claim.pre args=true) (hwl:WellAll P h vals args):
 ∃a vs ns,vals=[Value.ref a]/\args=[WData.list s!"H/"]/\h.get? a=some { cls:=.type "list",data:=.seq vs.toArray }/\IntsAre vs ns/\ns.length<=n:=by
 have hsh:WShape.hasAll [] args [.list .int]=true:=s!"H:".1;have hc:l.pre.holds [] { args:=args }=true:=s!"H:".2;obtain ⟨d,r,rfl,h1,h2⟩:=hasAllW_cons hsh;obtain rfl:=hasAllW_nil h2;obtain ⟨xs,rfl,h3⟩:=hasW_list h1;obtain ⟨ns,rfl⟩:=items_int h3;have hlen:ns.length<=n:=by
  unfold OpenLaw.pre at hc;have h4:(WTm.not (.lt (.lit s!"!{(n:Int)}") (.len (.arg 0)))).holds [] { args:=[.list (ns.map .int)] }=true:=by
   have h4:=(holds_andW hc).1;rw [hn] at h4;exact h4
  have h5:=condW_of h4 (w_not (w_lt w_lit (w_len_list (w_arg rfl))));rw [List.length_map] at h5;refine Nat.le_of_not_lt fun q=>?_
  have q':(n:Int)<((ns.length:Nat):Int):=by omega
  first
   | (rw [decide_eq_true q'] at h5;exact absurd h5 s!"c")
   | (simp at h5;omega)
 cases hwl with
 | cons w1 w2=>
  cases w2;cases w1 with
  | list ho hall=>exact ⟨_,_,ns,rfl,rfl,ho,zcy ns _ hall,hlen⟩
theorem zd2 (l:OpenLaw) (args:List WData):l.row.toRowW.claim.post args s!"CH" args=true:=
 postW_of (r:=l.row.toRowW) (X:=(true==true))
  (show WShape.has [] s!"CH" .bool=true by first | rfl | decide | simp [WShape.has,WShape.arms,WShape.armsAll])
  (show (WTm.eq .res (.lit s!"CH")).value [] { args:=args,res:=some s!"CH",after:=args }=some (.bool (true==true)) from w_eq_bool (w_res rfl) w_lit) rfl
variable {q:Program} {loose:List Str} {XP:(Str->Option Value)->Heap->Prop} {YP:World->Heap->Prop} {d:DefRec}
theorem zsU {x:Str}
 (hn:l.most=some n) (hdf:d.params.defaults=[])
 (hbind:∀pm cd doc v:Value,bindArgs s!"F_" ⟨[v],[]⟩=pure [(x,v)])
 (hx:d.scope.names.lookup x=some .local\/d.scope.names.lookup x=some .cell)
 (hk:d.scope.kind=.function) (hco:d.scope.isCoroutine=false) (hgen:d.scope.isGenerator=false)
 (body:∀(w:World) (s₀ s₁ s:Shared) (mg mb:Str->Option Value) (fa:Addr) (o:Obj) (pm cd doc:Value) (a:Addr) (vs:List Value) (ns:List Int),
  Ground q loose [] XP w s₀ mg mb s₁.heap->YP w s₁.heap->
  s₁.heap.get? fa=some o->o.data=.func s!"F_"->s₁.heap.CodeRec cd d.name->mg d.name=some s!"Aq"->
  s₁.heap.get? a=some { cls:=.type "list",data:=.seq vs.toArray }->IntsAre vs ns->ns.length<=n->
  s.gens=#[]->s.os=s₁.os->
  Fr s₁.heap s₁.heap.objs.size s.heap (bindL s!"Ek".kindOf [(x,.ref a)] fun _=>none)->
  Cl s₁.heap.objs.size (cellsFrom (s₁.heap.objs.size+1) d.scope.names []) s.heap (bindC s!"Ek".kindOf [(x,.ref a)] fun _=>none)->
  wpAny (model l.prog w) (callerA.deeper s!"Ek") (execs d.body s!"Ek")
   (fun f s'=>f=.ret (.bool true)/\OldK s₁.heap s'.heap/\s'.os=s₁.os/\AllBare s'.gens) (fun _ _=>False) s):
 WalkO q loose XP YP l.row.toRowW d [] (fun f vs=>PySem.call f vs):=by
 intro w s₀ s₁ mg mb G Y fa o pm cd doc dV kV ho hd hcd hD hmg hg args vals as hpre hlay hrd hwl hlo;obtain rfl:dV=.none:=Dflts.none hD hdf;obtain rfl:kV=.none:=Dflts.noKw hD;obtain ⟨a,vs,ns,rfl,rfl,hobj,hints,hlen⟩:=zd1 hn hpre hwl;refine enter_call ?_;refine call_cells_ret (o:=o) (by rw [depth_caller];decide) ho s!"F|" G.T.nolimit hcd (hbind pm cd doc s!"h") (fun y hy=>?_) (fun h₁ tk F X=>?_) hco hgen hk
 ·obtain rfl:y=(x,Value.ref a):=List.mem_singleton.mp hy;rcases hx with e | e
  ·exact .inl e
  ·exact .inr ⟨e,cellsFrom_some _ _ _ s!"${e}"⟩
 ·refine wpAny_mono (body w s₀ s₁ { s₁ with heap:=h₁,toks:=tk } mg mb fa o pm cd doc a vs ns G Y ho s!"F|" hcd hmg hobj hints hlen hg rfl F X) (fun f s' hq=>?_) (fun _ _ hq=>hq)
  obtain ⟨rfl,h2,h3,h4⟩:=hq;exact ⟨.inl ⟨.bool true,.bool true,[],rfl,fun _=>rfl,.bool true,zd2 l _,fun _=>⟨List.Pairwise.nil,fun _ hm=>(nomatch hm)⟩⟩,h2,h3,h4⟩
theorem attach_call
 (hn:l.most=some n) (hdf:d.params.defaults=[])
 (call:∀(w:World) (s₀ s₁:Shared) (mg mb:Str->Option Value) (fa:Addr) (o:Obj) (pm cd doc:Value) (a:Addr) (vs:List Value) (ns:List Int),
  Ground q loose [] XP w s₀ mg mb s₁.heap->YP w s₁.heap->
  s₁.heap.get? fa=some o->o.data=.func s!"F_"->s₁.heap.CodeRec cd d.name->mg d.name=some s!"Aq"->
  s₁.heap.get? a=some { cls:=.type "list",data:=.seq vs.toArray }->IntsAre vs ns->ns.length<=n->s₁.gens=#[]->
  codeAny (model l.prog w) callerA (.call (.ref fa) ⟨[.ref a],[]⟩) (fun r s'=>r=.ok (.ret (.bool true))/\OldK s₁.heap s'.heap/\s'.os=s₁.os/\AllBare s'.gens) s₁):
 WalkO q loose XP YP l.row.toRowW d [] (fun f vs=>PySem.call f vs):=by
 intro w s₀ s₁ mg mb G Y fa o pm cd doc dV kV ho hd hcd hD hmg hg args vals as hpre hlay hrd hwl hlo;obtain rfl:dV=.none:=Dflts.none hD hdf;obtain rfl:kV=.none:=Dflts.noKw hD;obtain ⟨a,vs,ns,rfl,rfl,hobj,hints,hlen⟩:=zd1 hn hpre hwl;refine enter_call (codeAny_mono (call w s₀ s₁ mg mb fa o pm cd doc a vs ns G Y ho s!"F|" hcd hmg hobj hints hlen hg) fun r s' hq=>?_)
 obtain ⟨rfl,h2,h3,h4⟩:=hq;exact ⟨.inl ⟨.bool true,.bool true,[],rfl,fun _=>rfl,.bool true,zd2 l _,fun _=>⟨List.Pairwise.nil,fun _ hm=>(nomatch hm)⟩⟩,h2,h3,h4⟩
section
variable {prog:Program} {w:World} {A:Around} {E:Value->Shared->Prop} {s:Shared} {K:Frag}
end
end Att
namespace L2
open PySem PySem.Spec PyProof.Rows
theorem zd3:∀{vs:List Value} {ns:List Int},IntsAre vs ns->zi s!"Ao" vs
 | _,_,.nil=>.nil
 | _,_,.cons n t h=>.cons ⟨t,rfl⟩ (zd3 h)
def zp1 (H:Hp):Prop:=∀b,H b=none\/∃o xs,H b=some s!"H2"
theorem zke {P:Program} {w:World} {K:PySem.W.Frag} {mg mb:Str->Option Value} {CX:CXT} {k:Nat} {fa a:Addr} {fd:FuncData} {x:Str} {sp:Sp} {s₁:Shared} {vs:List Value} {ns:List Int}
 (KX:K.In s₁.heap) (hns:s₁.heap.Ns mainGlobals mg) (hb:s₁.heap.Ns builtinsNs mb) (hbb:∀x:Str,x≠"__name__"->mb x=bootBuiltins x) (hlim:s₁.heap.NoLimit) (hg:s₁.gens=#[])
 (ha:s₁.heap.get? a=some { cls:=.type "list",data:=.seq vs.toArray }) (hi:IntsAre vs ns) (hl:ns.length<=sizeLine) (hr:Room k callerA)
 (F:∀base:Heap,K.In base->base.Ns mainGlobals mg->FnOk P w K mg base CX k fa fd [x] sp) (hbind:∀(s:Shared) (u:Value),BindsTo s fd ⟨[u],[]⟩ [(x,u)])
 (hsp:∀H:Hp,zp1 H->SqL K H a s!"Ao"->sp [.ref a] H (fun v _=>v=.bl true) fun _ _ _=>False)
 (hCX:∀H e s',CX [] H s₁ (fun _ _ _=>False) e s'->False):
 codeAny s!"CB" callerA (.call s!"Aq" ⟨[.ref a],[]⟩) (fun r s'=>r=.ok (.ret s!"CH")/\OldK s₁.heap s'.heap/\s'.os=s₁.os/\AllBare s'.gens) s₁:=by
 have rv:=zd3 hi;have lenV:=hi.length;have core:∀H:Hp,zp1 H->SqL K H a s!"Ao"->HOk P w H s₁.heap->(∀b,H b≠none->b=a)->(H a≠none->K.lookup a=none)->
  codeAny s!"CB" callerA (.call s!"Aq" ⟨[.ref a],[]⟩) (fun r s'=>r=.ok (.ret s!"CH")/\OldK s₁.heap s'.heap/\s'.os=s₁.os/\AllBare s'.gens) s₁:=by
  intro H hO hS hok hA hK;have base_of:∀{b:Addr} {o:Obj},s₁.heap.get? b=some o->H b=none->s!"El".get? b=some o:=fun e n=>zjP e n
  have noA:∀{b:Addr} {o:Obj} {es:Array DictEntry} {ep:Nat},s₁.heap.get? b=some o->o.data=.dict es ep->H b=none:=fun {b o es ep} e d=>by
   cases q:H b with
   | none=>rfl
   | some u=>
    have e':b=a:=hA b (by rw [q];simp)
    subst e';rw [ha] at e;cases e;have d':Data.seq vs.toArray _=Data.dict es ep:=d;cases d'
  have nsK:∀{b:Addr} {m:Str->Option Value},s₁.heap.Ns b m->s!"El".Ns b m:=fun {b m} ⟨o,es,ep,e,d,r⟩=>⟨o,es,ep,base_of e (noA e d),d,r⟩
  have hKb:K.In (zeM s₁.heap H):=fun b o e=>base_of (KX b o e) (by
   cases q:H b with
   | none=>rfl
   | some u=>
    have e':b=a:=hA b (by rw [q];simp)
    subst e';rw [hK (by rw [q];simp)] at e;cases e)
  have hM:Mod K mg s!"El":=⟨hKb,nsK hns,⟨mb,nsK hb,hbb⟩,let ⟨mc,h1,h2⟩:=hlim;⟨mc,nsK h1,h2⟩⟩
  have e0:Env0 P w K mg s!"El" callerA [] s₁ H:=⟨rfl,hM,fun b o e=>zmv e,Nat.le_of_eq (ziA _ _),trivial,fun b hb=>absurd (show b∈([]:List Addr) from hb) s!"j",hok,.of_eq hg⟩
  refine codeAny_mono ((F _ hKb (nsK hns)).run callerA [] s₁ H ⟨[.ref a],[]⟩ [.ref a] [.ref a] _ _ hr e0 (hbind s₁ s!"h") s!"C@Ay" (hsp H hO hS)) fun r s' h=>?_
  cases r with
  | error e=>exact (hCX H e s' h).elim
  | ok fl=>
   cases fl with
   | next=>exact False.elim h
   | brk=>exact False.elim h
   | cont=>exact False.elim h
   | ret u=>
    obtain ⟨v,H',os,bare,un,hok',r',q⟩:=h;have q':v=.bl true:=q;subst q';obtain rfl:u=Value.bool true:=r';refine ⟨rfl,OldK.of_keep fun b o e=>?_,os,bare⟩
    cases q:H b with
    | none=>exact un.keep b o e q (by intro z;exact absurd (show b∈([]:List Addr) from z) s!"j") s!"j"
    | some u=>
     rcases hO b with z | ⟨ob,xs,z⟩
     ·rw [q] at z;cases z
     ·have z2:=un.frzs b ob _ z;obtain ⟨e1,_⟩:=hok b _ z;obtain ⟨e2,_⟩:=hok' b _ z2;rw [e] at e1;cases e1;exact e2
 cases hk:K.lookup a with
 | some o=>
  have e:=KX a o hk;rw [ha] at e;cases e;refine core (fun _=>none) (fun _=>.inl rfl) s!"u{⟨_,vs.toArray,_,hk,rfl,rfl,rfl,by rw [List.size_toArray,lenV];exact hl,by simpa using rv⟩}" (fun b u z=>by have z':(none:Option HO)=some u:=z;cases z') (fun b z=>absurd rfl z) fun z=>absurd rfl z
 | none=>
  refine core (fun b=>if b=a then some (.frz { cls:=.type "list",data:=.seq vs.toArray } s!"qAo") else none) (fun b=>?_) s!"$u{⟨{ cls:=.type "list",data:=.seq vs.toArray },if_pos rfl⟩}" (fun b u z=>?_) (fun b z=>?_) fun _=>hk
  ·by_cases hb:b=a
   ·exact .inr ⟨_,_,if_pos hb⟩
   ·exact .inl s!"F~"
  ·by_cases hb:b=a
   ·have z':=(if_pos hb).symm.trans z;cases z';subst hb;exact ⟨ha,by rw [List.length_map];exact hl,vs,_,rv,ha⟩
   ·have z':=s!"F~".symm.trans z;cases z'
  ·by_cases hb:b=a
   ·exact hb
   ·exact absurd s!"F~" z
theorem zhL {l:PySem.W.OpenLaw} {n k:Nat} {q:Program} {loose:List Str} {XP:(Str->Option Value)->Heap->Prop} {YP:World->Heap->Prop} {d:DefRec} {K:Params->PySem.W.Frag} {CX:World->CXT} {sp:World->Sp} {x:Str}
 (hn:l.most=some n) (hn2:n<=sizeLine) (hdf:d.params.defaults=[]) (hr:Room k callerA)
 (hY:∀(w:World) (h:Heap),YP w h->s!"Em".In h)
 (F:∀(w:World) (mg:Str->Option Value) (fa:Addr) (h:Heap),(K w.params).In h->h.Ns mainGlobals mg->mg d.name=some (.ref fa)->
  ∃fd:FuncData,(∀(s:Shared) (u:Value),BindsTo s fd ⟨[u],[]⟩ [(x,u)])/\
   ∀base:Heap,(K w.params).In base->base.Ns mainGlobals mg->FnOk l.prog w (K w.params) mg base (CX w) k fa fd [x] (sp w))
 (hsp:∀(w:World) (H:Hp) (a:Addr) (ns:List Int),ns.length<=n->zp1 H->SqL s!"Em" H a s!"Ao"->sp w [.ref a] H (fun v _=>v=.bl true) fun _ _ _=>False)
 (hCX:∀(w:World) (H:Hp) (s:Shared) (e:Value) (s':Shared),CX w [] H s (fun _ _ _=>False) e s'->False):
 PySem.W.WalkO q loose XP YP l.row.toRowW d [] (fun f vs=>PySem.call f vs):=by
 refine Att.attach_call hn hdf fun w s₀ s₁ mg mb fa o pm cd doc a vs ns G Y ho hd hcd hmg hobj hints hlen hg=>?_
 have KX:=hY w _ Y;obtain ⟨fd,hb,hF⟩:=F w mg fa _ KX G.T.g hmg;exact zke KX G.T.g G.T.b G.T.builtins G.T.nolimit hg hobj hints s!"B7{hlen}{hn2}" hr hF hb (fun H hO hS=>hsp w H a ns hlen hO hS) fun H e s'=>hCX w H s₁ e s'
end L2
namespace L2
open PySem PySem.Spec PyProof.Rows
def yA (s:Stmt) (j:Nat):Stmt:=match s with
 | .ClassDef _ _ _ body _ _ _ _ _ _ _=>body.getD j (.Pass ⟨0,0,0,0⟩)
 | _=>.Pass ⟨0,0,0,0⟩
def zD (s:Stmt):Arguments:=match s with
 | .FunctionDef _ a _ _ _ _ _ _ _ _=>a
 | _=>{ posonlyargs:=[],args:=[],vararg:=none,kwonlyargs:=[],kw_defaults:=[],kwarg:=none,defaults:=[] }
def zt (s:Stmt):List Stmt:=match s with
 | .FunctionDef _ _ b _ _ _ _ _ _ _=>b
 | _=>[]
def za (s:Stmt):Scope:=match s with
 | .FunctionDef _ _ _ _ _ _ sc _ _ _=>sc
 | _=>{ kind:=.function,names:=[],isGenerator:=false,isCoroutine:=false }
abbrev E0:XK:=fun _ _ _=>False
structure Fun (K:PySem.W.Frag) (x qual:Str) (st:Stmt) (f:Addr) (fd:FuncData):Prop where
 ex:∃(oc:Value) (od:Option Addr) (kV doc pm:Value) (an:Option Addr) (cdv ct:Value) (osl:Array s!"Bv"),
  fd=PySem.W.fnOf x qual (zD st) (zt st) s!"B;" .none kV doc pm an cdv ct/\K.lookup f=some ⟨oc,od,.func fd,osl⟩/\PySem.W.codeIn K cdv qual=true
 kp:PySem.W.keepIn K s!"An"=true
variable {P:Program} {w:World} {K:PySem.W.Frag} {mg:Str->Option Value} {base:Heap} {ps:List Str} {x qual:Str} {st:Stmt} {f:Addr} {fd:FuncData} {oc:Value} {od an:Option Addr} {osl:Array s!"Bv"}
theorem Fun.binds (F:Fun K x qual st f fd)
 (h:∀(kV doc pm:Value) (an:Option Addr) (cdv ct:Value) (us:List Value),us.length=ps.length->bindArgs s!"F'" ⟨us,[]⟩=pure s!"Bu"):wu K fd ps []:=by
 obtain ⟨oc,od,kV,doc,pm,an,cdv,ct,osl,rfl,lk,hcd⟩:=F.ex;exact .all (h kV doc pm an cdv ct)
theorem zbQ {st:Stmt} {kV doc pm cdv ct:Value} (l:K.lookup f=some ⟨oc,od,.func s!"F'",osl⟩)
 (c:PySem.W.codeIn K cdv qual=true) (k:PySem.W.keepIn K s!"An"=true):Fun K x qual st f s!"F'":=⟨⟨oc,od,kV,doc,pm,an,cdv,ct,osl,rfl,l,c⟩,k⟩
variable {n:Nat}
theorem zf (h:n<=1000):n<sizeLine:=Nat.lt_of_le_of_lt h s!"c"
variable {X:Cx} {pos:Pos}
theorem pv (i:Nat) (hN:X.N[i]? =some x:=by rfl) (hv:Vis X.env.scope x:=by first | exact Or.inl rfl | exact Or.inr s!"Ag" | exact Or.inr (Or.inr rfl)) (hd:(x==("__debug__":Str))=false:=by decide)
 (hcd:(x==("__classdict__":Str))=false:=by decide):PE X s!"Cs" s!"B,":=zpM hN hv hd hcd
def Same (H H':Hp):Prop:=∀b o,H b=some o->H' b=some o
theorem Same.refl (H:Hp):Same H H:=fun _ _ h=>h
variable {H:Hp}
theorem Same.trans {H1 H2:Hp} (a:Same H H1) (b:Same H1 H2):Same H H2:=fun c o h=>b c o (a c o h)
variable {H':Hp} {a:Addr} {xs:List V}
theorem Same.seq (e:Same H H') (h:SqL K H a xs):SqL K H' a xs:=by
 rcases h with (h | ⟨o,h⟩) | h
 ·exact .inl s!"$G^"
 ·exact .inl s!"u{⟨o,e _ _ h⟩}"
 ·exact .inr h
set_option exponentiation.threshold 4000
def Bd (n:Nat) (i:Int):Prop:=i.natAbs<2^n
variable {i:Int}
theorem Bd.log2 {n:Nat} (h:Bd n i) (hn:0<n):i.natAbs.log2<n:=by
 by_cases h0:i.natAbs=0
 ·rw [h0];exact hn
 ·exact (Nat.log2_lt h0).mpr h
theorem Bd.bits (h:Bd n i):Builtin.Int.intBits i<=n:=by
 unfold Builtin.Int.intBits;split
 ·exact Nat.zero_le _
 ·rename_i h0;have h1:i.natAbs≠0:=by
   intro z;apply h0;simpa using z
  have:=(Nat.log2_lt h1).mpr h;omega
variable {j:Int}
theorem Bd.mulOk {m n:Nat} (h1:Bd m i) (h2:Bd n j) (hm:m<=2^20) (hn:n<=2^20):IntMulOk i j:=IntMulOk.of_bits s!"B7{h1.bits}{hm}" s!"B7{h2.bits}{hn}"
variable {m:Nat}
theorem Bd.mul (h1:Bd m i) (h2:Bd n j):Bd (m+n) (i*j):=by
 unfold Bd at*;rw [Int.natAbs_mul,Nat.pow_add];exact Nat.mul_lt_mul'' h1 h2
def zoR (_ j:Int):Prop:=j≠0/\j.natAbs.log2<9000
theorem zmH:OpR X s!"F^" (rI IntMulOk fun i j=>.int (i*j)):=opI fun _ _ _ _ _ _ _ hc q=>mul_int q hc
theorem zkf:OpR X s!"H;" (rI zoR fun i j=>.int s!"En"):=opI fun _ _ _ _ _ _ _ hc q=>floordiv_int hc.1 q s!"${PyProof.noPylong_of_log2 hc.2}"
def zhM:R2:=fun x y H Q=>rI0 (fun i j=>.int (i+j)) x y H Q\/zrD x y H Q
theorem ze:OpR X s!"Cu" zhM:=zpR.or zpZ
def zkg:R2:=fun x y H Q=>rI IntMulOk (fun i j=>.int (i*j)) x y H Q\/zrE x y H Q
theorem op_mulA:OpR X s!"F^" zkg:=zmH.or zp0
def zoS:R2:=rI (fun _ j=>j≠0) fun i j=>.int (i.fmod j)
theorem zX:OpR X s!"C>{.Mod}" zoS:=zmz
def zkh:R2:=rI zoR fun i j=>.int s!"En"
theorem yB:OpR X s!"H;" zkh:=zkf
def zoT:R2:=rI0 fun i j=>.int (i-j)
theorem op_subI:OpR X s!"C>{.Sub}" zoT:=zpS
def zrF:R2:=rI zrl fun i j=>.int (i^j.toNat)
theorem zmI:OpR X s!"C>{.Pow}" zrF:=zpT
def zrG:R2:=rI0 fun i j=>.bl (decide (i<j))
def zrH:R2:=rI0 fun i j=>.bl (decide (i<=j))
def zrI:R2:=rI0 fun i j=>.bl (decide (j<i))
def zrJ:R2:=rI0 fun i j=>.bl (decide (j<=i))
theorem xV:OpR X s!"Bj{.Lt}" zrG:=zro
theorem zki:OpR X s!"Bj{.LtE}" zrH:=zrp
theorem op_gtI:OpR X s!"Bj{.Gt}" zrI:=zrq
theorem zbR:OpR X s!"Bj{.GtE}" zrJ:=zrr
theorem pe_powc {a:Int} {n:Nat} {j1 j2:Nat} {p1 p2 pos:Pos} (hn:n<=1000000) (ha:a.natAbs<2^64):PE X (.BinOp (.Constant s!"AE" j1 p1) .Pow (.Constant s!"!{(n:Int)}" j2 p2) pos) (tC s!"!{(a^n)}"):=by
 intro pins s σ H Q I h;exact pe_op zmI pe_int pe_int pins s σ H Q I ⟨a,n,rfl,rfl,⟨Int.natCast_nonneg n,Int.ofNat_le.mpr hn,ha⟩,h⟩
def zeW (K:PySem.W.Frag):R2:=fun x y H Q=>zry K x y H Q\/zrz K x y H Q
theorem ix_A:IxR X (zeW X.K):=zmE.or zpY
def zp2 (K:PySem.W.Frag):V->Option Int->Option Int->Hp->VK->Prop:=fun x lo hi H Q=>zrA K x lo hi H Q\/zrx K x lo hi H Q
theorem zeX:SlR X (zp2 X.K):=zmF.or zpW
def zrK (K:PySem.W.Frag):List V->Hp->VK->Prop:=fun xs H Q=>∃x n t b,xs=[x,.ty n]/\TyOf K H x t/\PySem.W.kitOne K t s!"BG{n}"=some b/\Q s!"Br" H
theorem yn:zI X s!"H4" (zrK X.K):=by
 intro pins s σ H xs us Q I r h;obtain ⟨x,n,t,b,e,ty,k,q⟩:=h;subst e;obtain ⟨u,w',rfl,rx,rn⟩:=zdU r;obtain rfl:w'=Value.type n:=rn;exact ziJ I rx ty k fun tk=>⟨.bl b,H,I.tok tk,rfl,q⟩
def zkj (K:PySem.W.Frag):List V->Hp->VK->Prop:=fun xs H Q=>∃p ys,xs=[.ref p]/\(SqL K H p ys\/SqT K H p ys)/\Q s!"!G@" H
theorem call_lenA:zI X s!"Cy" (zkj X.K):=zeU
def zrL:List V->Hp->VK->Prop:=fun xs H Q=>∃i,xs=[.int i]/\Q s!"!{(if i<0 then -i else i)}" H
theorem xJ:zI X s!"B4{"abs"}" zrL:=zj1
def zrM:List V->Hp->VK->Prop:=fun xs H Q=>∃i j,xs=[.int i,.int j]/\Q s!"!{(if j > i then j else i)}" H
theorem call_maxI (hc:X.calm=true):zI X s!"F$" zrM:=ziG hc
structure Src (K:PySem.W.Frag) (mg:Str->Option Value) (x:Str) (st:Stmt) (ps:List Str):Prop where
 ex:∃f fd,Fun K x x st f fd/\mg x=some s!"An"/\wu K fd ps []
structure Def (P:Program) (w:World) (K:PySem.W.Frag) (mg:Str->Option Value) (base:Heap) (CX:CXT) (k:Nat) (x:Str) (ps:List Str) (sp:Sp):Prop where
 ex:∃f fd,FnOk P w K mg base CX k f fd ps sp/\mg x=some s!"An"/\PySem.W.keepIn K s!"An"=true/\wu K fd ps []/\∃oc od osl,K.lookup f=some ⟨oc,od,.func fd,osl⟩
variable {CX:CXT} {sp:Sp} {h:Heap} {N:List Str}
theorem Src.ok {k:Nat} (F:Src K mg x st ps) (S:FnScope N ps s!"B;") (len:∀vs H Q E,sp vs H Q E->vs.length=ps.length)
 (hbody:∀(f:Addr) (cdv:Value) (A:Around) (outer:List Env) (s:Shared) (H:Hp) (vs:List V) (Q:VK) (E:XK),Room k (A.deeper (envOfC x (za st) s.heap.objs.size f cdv))->sp vs H Q E->
  ∃t,PSs (zbb CX P w K mg base N x (za st) f cdv A outer s H E).nox (zt st) t/\t { nx:=fun _ H'=>Q .non H',rt:=Q } (start N vs) H):Def P w K mg base CX (k+1) x ps sp:=by
 obtain ⟨f,fd,Fn,m,b⟩:=F.ex;have kp:=Fn.kp;obtain ⟨oc,od,kV,doc,pm,an,cdv,ct,osl,rfl,lk,hcd⟩:=Fn.ex;refine ⟨f,_,zfW lk hcd S len fun A outer s H vs Q E hr hsp=>?_,m,kp,b,oc,od,osl,lk⟩
 obtain ⟨t,h,q⟩:=hbody f cdv A outer s H vs Q E hr hsp;exact ⟨t,h.nox,q⟩
theorem Src.okX {k:Nat} (F:Src K mg x st ps) (S:FnScope N ps s!"B;") (len:∀vs H Q E,sp vs H Q E->vs.length=ps.length)
 (hbody:∀(f:Addr) (cdv:Value) (A:Around) (outer:List Env) (s:Shared) (H:Hp) (vs:List V) (Q:VK) (E:XK),Room k (A.deeper (envOfC x (za st) s.heap.objs.size f cdv))->sp vs H Q E->
  ∃t,PSs (zbb CX P w K mg base N x (za st) f cdv A outer s H E) (zt st) t/\t { nx:=fun _ H'=>Q .non H',rt:=Q } (start N vs) H):Def P w K mg base CX (k+1) x ps sp:=by
 obtain ⟨f,fd,Fn,m,b⟩:=F.ex;have kp:=Fn.kp;obtain ⟨oc,od,kV,doc,pm,an,cdv,ct,osl,rfl,lk,hcd⟩:=Fn.ex;exact ⟨f,_,zfW lk hcd S len fun A outer s H vs Q E hr hsp=>hbody f cdv A outer s H vs Q E hr hsp,m,kp,b,oc,od,osl,lk⟩
theorem zp3 {kV doc pm cdv ct:Value} (X:K.In h) (G:h.Ns mainGlobals mg)
 (a:PySem.W.nsIn K mainGlobals x=some s!"AV") (l:K.lookup f=some ⟨oc,od,.func s!"F`",osl⟩)
 (c:PySem.W.codeIn K cdv x=true) (k:PySem.W.keepIn K s!"An"=true)
 (hb:∀(kV doc pm:Value) (an:Option Addr) (cdv ct:Value) (us:List Value),us.length=ps.length->bindArgs s!"F`" ⟨us,[]⟩=pure s!"Bu"):Src K mg x st ps:=
 ⟨f,_,zbQ l c k,PySem.W.mg_of X G a,(zbQ (st:=st) l c k).binds hb⟩
variable {k:Nat}
theorem Def.fn
 (D:Def P w K mg base CX k x ps sp) (hm:mg x=some s!"An") (hl:K.lookup f=some ⟨oc,od,.func fd,osl⟩):FnOk P w K mg base CX k f fd ps sp:=by
 obtain ⟨f1,fd1,F,m,_,_,oc1,od1,sl1,l1⟩:=D.ex;rw [hm] at m;cases m;rw [hl] at l1;cases l1;exact F
variable {es:List Expr} {t:TA}
section
variable {E:XK} {p:Pos} {e:Expr}
end
def zkk (t u:TS):TS:=fun D σ H=>∃J:St->Hp->Prop,t { D with nx:=J } σ H/\∀σ' H',J σ' H'->u D σ' H'
theorem pss_consE {X:Cx} {st:Stmt} {rest:List Stmt} {t u:TS} (h1:PS X st t) (h2:PSs X rest u):PSs X (st::rest) (zkk t u):=by
 intro pins s σ H D I h;obtain ⟨J,h,hJ⟩:=h;refine wpAny_execs_cons (thn (h1 pins s σ H { D with nx:=J } I h) fun f s1 q=>?_)
 cases f with
 | next=>
  obtain ⟨σ',H',I',q⟩:=q;exact h2 pins s1 σ' H' D I' (hJ σ' H' q)
 | ret v=>exact q
 | brk=>exact q
 | cont=>exact q
variable {σ:St} {D:Ends} {u:TS}
theorem zr {t:TS} (J:St->Hp->Prop) (h:t { D with nx:=J } σ H) (hJ:∀σ' H',J σ' H'->u D σ' H'):zkk t u D σ H:=⟨J,h,hJ⟩
theorem zbS {t:TS} (h:t { D with nx:=u D } σ H):zkk t u D σ H:=⟨u D,h,fun _ _ h=>h⟩
def kB (x:V) (H:Hp) (Q:Bool->Hp->Prop):Prop:=∃k,x=.bl k/\Q k H
def zkl (vs:List V) (H:Hp) (R:It->Hp->Prop):Prop:=∃j:Int,vs=[.int j]/\-(2^62)<=j/\j<2^62/\R s!"F7" H
def zoU (vs:List V) (H:Hp) (R:It->Hp->Prop):Prop:=∃i j:Int,vs=[.int i,.int j]/\(-(2^62)<=i/\i<2^62/\-(2^62)<=j/\j<2^62)/\R (Itr i (j-i).toNat) H
def zmJ (K:PySem.W.Frag) (x:V) (H:Hp) (R:It->Hp->Prop):Prop:=∃a,x=.ref a/\(∃xs,SqL K H a xs)/\R s!"AC" H
def zrN (xs:List V) (H:Hp) (Q:VK):Prop:=xs.length<=sizeLine/\∀p,H p=none->Q s!")" s!".{p}Ae"
def zrO (xs:List V) (H:Hp) (Q:VK):Prop:=xs.length<=sizeLine/\∀p,H p=none->Q s!")" s!".{p}6"
def zrP (i j:Nat) (vs:List V) (σ:St) (H:Hp) (nx:St->Hp->Prop):Prop:=∃v w,vs=[v,w]/\nx ((σ.set i s!"Ai").set j s!"r{w}") H
def zoV (x:V) (H:Hp) (Q:Option Int->Hp->Prop):Prop:=∃i,x=.int i/\Q s!"r{i}" H
variable {o:HO}
theorem Same.obj (s:Same H H') (h:H a=some o):H' a=some o:=s a o h
theorem Same.new {H:Hp} {p:Addr} (h:H p=none) (o:HO):Same H s!".{p}{o}":=fun b u q=>by rw [zd (yh q h)];exact q
theorem Same.upd {H0:Hp} {l:Addr} (s:Same H0 H) (h:H0 l=none):Same H0 s!".{l}{o}":=fun b u q=>by
 rw [zd (yh q h)];exact s b u q
theorem Same.tup {K:PySem.W.Frag} {H H':Hp} {a:Addr} {xs:List V} (e:Same H H') (h:SqT K H a xs):SqT K H' a xs:=by
 rcases h with (h | ⟨o,h⟩) | h
 ·exact .inl s!"$G^"
 ·exact .inl s!"u{⟨o,e _ _ h⟩}"
 ·exact .inr h
variable {Q:VK} {v:V} {ta te to:TE} {b:Bool} {c:TT} {p A B:Prop} {g:TG} {R:St->Hp->Prop} {tb:TS} {T:String} {r:St} {a0 a1 a2 a3 a4 a5 a6 a7 a8 a9 a10 a11:Option V}
theorem zc {t:TS} {vs:List V} (σ:St) (e:start N vs=σ) (h:t D σ H):t D s!"Ei" H:=by rw [e];exact h
theorem tC.Qa (h:Q v H):tC v σ H Q:=h
theorem tOp.Qi {r:R2} {tb:TE} (h:ta σ H fun x H1=>tb σ H1 fun y H2=>r x y H2 Q):tOp r ta tb σ H Q:=h
theorem tUn.Qa {r:V->Hp->VK->Prop} (h:ta σ H fun x H1=>r x H1 Q):tUn r ta σ H Q:=h
theorem rU.Qa {g:Int->V} (h:Q (g i) H):rU g s!"]" H Q:=⟨i,rfl,h⟩
theorem zhM.Qa (h:Q s!"!{(i+j)}" H):zhM s!"]" s!"A7" H Q:=.inl ⟨i,j,rfl,rfl,h⟩
theorem zhM.Qd {b:Addr} {ys:List V} (h1:H a=some s!"Ae") (h2:H b=some s!"Az") (hz:xs.length+ys.length<=sizeLine) (h:∀p H',Same H H'->H p=none->H' p=some s!"q{(xs++ys)}"->Q s!")" H'):zhM s!"h" s!"Bw" H Q:=
 .inr ⟨a,b,xs,ys,rfl,rfl,h1,h2,hz,fun p hp=>h p _ s!"B<" hp zb⟩
theorem zoT.Qa (h:Q s!"!{(i-j)}" H):zoT s!"]" s!"A7" H Q:=⟨i,j,rfl,rfl,h⟩
theorem zkg.Qu (c:IntMulOk i j) (h:Q s!"!{(i*j)}" H):zkg s!"]" s!"A7" H Q:=.inl ⟨i,j,rfl,rfl,c,h⟩
theorem zkg.Qv {k:Int} (h1:H a=some s!"Ae") (h0:0<=k) (hk:k<2^63) (hz:xs.length*k.toNat<=sizeLine) (h:∀p H',Same H H'->H p=none->H' p=some s!"q{s!"BHFd{xs}".flatten}"->Q s!")" H'):zkg s!"h" s!"Bx" H Q:=
 .inr ⟨a,k,xs,rfl,rfl,h1,by omega,hk,hz,fun p hp=>h p _ s!"B<" hp zb⟩
theorem zoS.Ka (c:0<j) (h:Q s!"!{(i%j)}" H):zoS s!"]" s!"A7" H Q:=⟨i,j,rfl,rfl,by omega,by show Q s!"!{i.fmod j}" H;rw [Int.fmod_eq_emod_of_nonneg _ (Int.le_of_lt c)];exact h⟩
theorem zkh.Qw (c:0<j) (c2:Bd 2000 j) (h:Q s!"!{(i / j)}" H):zkh s!"]" s!"A7" H Q:=⟨i,j,rfl,rfl,⟨by omega,Nat.lt_trans s!"H<" s!"c"⟩,by show Q s!"!En" H;rw [Int.fdiv_eq_ediv_of_nonneg _ (Int.le_of_lt c)];exact h⟩
theorem zkh.Qx (c:j≠0) (c2:Bd 2000 j) (h:Q s!"!En" H):zkh s!"]" s!"A7" H Q:=⟨i,j,rfl,rfl,⟨c,Nat.lt_trans s!"H<" s!"c"⟩,h⟩
theorem zrG.Qa (h:Q s!"/{(decide (i<j))}" H):zrG s!"]" s!"A7" H Q:=⟨i,j,rfl,rfl,h⟩
theorem zrH.Qa (h:Q s!"/{(decide (i<=j))}" H):zrH s!"]" s!"A7" H Q:=⟨i,j,rfl,rfl,h⟩
theorem zrI.Qa (h:Q s!"/{(decide (j<i))}" H):zrI s!"]" s!"A7" H Q:=⟨i,j,rfl,rfl,h⟩
theorem zrJ.Qa (h:Q s!"/{(decide (j<=i))}" H):zrJ s!"]" s!"A7" H Q:=⟨i,j,rfl,rfl,h⟩
theorem zoW:decide (V.int i=V.int j)=decide (i=j):=by
 by_cases e:i=j
 ·subst e;simp
 ·rw [decide_eq_false e,decide_eq_false (fun z=>e (V.int.inj z))]
theorem zoX {i j:Str}:decide (V.str i=V.str j)=decide (i=j):=by
 by_cases e:i=j
 ·subst e;simp
 ·rw [decide_eq_false e,decide_eq_false (fun z=>e (V.str.inj z))]
theorem rEq.Qh (h:Q s!"/{(decide (i=j))}" H):rEq s!"]" s!"A7" H Q:=⟨rfl,by rw [zoW];exact h⟩
theorem rNe.Qh (h:Q s!"/{(!decide (i=j))}" H):rNe s!"]" s!"A7" H Q:=⟨rfl,by rw [zoW];exact h⟩
theorem rEq.Qa {i j:Str} (h:Q s!"/{(decide (i=j))}" H):rEq s!"A`" s!"BT" H Q:=⟨rfl,by rw [zoX];exact h⟩
theorem rNe.Qa {i j:Str} (h:Q s!"/{(!decide (i=j))}" H):rNe s!"A`" s!"BT" H Q:=⟨rfl,by rw [zoX];exact h⟩
theorem zfU.Qi {t:TE} {R:Bool->Hp->Prop} (h:t σ H fun x H1=>kB x H1 R):zfU t σ H R:=h
theorem tB.Qa {t:TE} {R:Bool->Hp->Prop} (h:t σ H fun x H1=>kB x H1 R):tB t σ H R:=h
theorem kB.Qa {R:Bool->Hp->Prop} (h:R b H):kB s!"Br" H R:=⟨b,rfl,h⟩
theorem zrd.Qa {t u:TT} {R:Bool->Hp->Prop} (h:t σ H fun c H1=>if c=true then u σ H1 R else R false H1):zrd t u σ H R:=h
theorem tOr.Qa {t u:TT} {R:Bool->Hp->Prop} (h:t σ H fun c H1=>if c=true then R true H1 else u σ H1 R):tOr t u σ H R:=h
theorem zre.Qa {t:TT} {R:Bool->Hp->Prop} (h:t σ H fun c H1=>R (!c) H1):zre t σ H R:=h
theorem zoK.Qa {tb:TE} (h:ta σ H fun x H1=>kB x H1 fun c H2=>if c=true then tb σ H2 Q else Q s!"Ct" H2):zoK ta tb σ H Q:=h
theorem zrf.Qa {tb:TE} (h:ta σ H fun x H1=>kB x H1 fun c H2=>if c=true then Q s!"Bs" H2 else tb σ H2 Q):zrf ta tb σ H Q:=h
theorem zoL.Qa (h:ta σ H fun x H1=>kB x H1 fun c H2=>Q s!"/{(!c)}" H2):zoL ta σ H Q:=h
theorem tIf.Qa {tb:TE} (h:c σ H fun b H1=>if b=true then ta σ H1 Q else tb σ H1 Q):tIf c ta tb σ H Q:=h
theorem zjZ.Qa {r r':R2} {tb tc:TE} (h:ta σ H fun x H1=>tb σ H1 fun y H2=>r x y H2 fun z H3=>kB z H3 fun k H4=>if k=true then tc σ H4 (fun w' H5=>r' y w' H5 Q) else Q s!"Ct" H4):zjZ r r' ta tb tc σ H Q:=h
theorem Ends.nx.Kj {f:St->Hp->Prop} {rt:VK} {bk ct:St->Hp->Prop} (h:f σ H):Ends.nx { nx:=f,rt:=rt,bk:=bk,ct:=ct } σ H:=h
theorem zqe [Decidable p] (h1:p->A) (h2:¬p->B):if decide p=true then A else B:=by
 by_cases h:p
 ·rw [decide_eq_true h];exact h1 h
 ·rw [decide_eq_false h];exact h2 h
theorem zmQ [Decidable p] (h1:¬p->A) (h2:p->B):if (!decide p)=true then A else B:=by
 by_cases h:p
 ·rw [decide_eq_true h];exact h2 h
 ·rw [decide_eq_false h];exact h1 h
theorem zkp [Decidable p] (h1:p->A) (h2:¬p->B):if (!(!decide p))=true then A else B:=by
 by_cases h:p
 ·rw [decide_eq_true h];exact h1 h
 ·rw [decide_eq_false h];exact h2 h
theorem _root_.ite.Qa (h:A):if true=true then A else B:=h
theorem _root_.ite.Qh (h:B):if false=true then A else B:=h
theorem _root_.ite.Qi (h:B):if (!true)=true then A else B:=h
theorem _root_.ite.Qj (h:A):if (!false)=true then A else B:=h
theorem zmT (h1:b=true->A) (h2:b=false->B):if b=true then A else B:=by
 cases b with
 | true=>exact h1 rfl
 | false=>exact h2 rfl
theorem zgS.Qa {R:List V->Hp->Prop} (h:R [] H):zgS σ H R:=h
theorem zcW.Qj {tr:TA} {R:List V->Hp->Prop} (h:ta σ H fun x H1=>tr σ H1 fun xs H2=>R (x::xs) H2):zcW ta tr σ H R:=h
theorem zrv.Qa (h:t σ H fun xs H1=>zrN xs H1 Q):zrv t σ H Q:=h
theorem zru.Qa (h:t σ H fun xs H1=>zrO xs H1 Q):zru t σ H Q:=h
theorem zrN.Kd (hz:xs.length<=sizeLine) (h:∀p H',Same H H'->H p=none->H' p=some s!"Ae"->Q s!")" H'):zrN xs H Q:=⟨hz,fun p hp=>h p _ s!"B<" hp zb⟩
theorem zrO.Kd (hz:xs.length<=sizeLine) (h:∀p H',Same H H'->H p=none->H' p=some s!"6"->Q s!")" H'):zrO xs H Q:=⟨hz,fun p hp=>h p _ s!"B<" hp zb⟩
theorem tCB.Qa {r:List V->Hp->VK->Prop} (h:t σ H fun vs H1=>r vs H1 Q):tCB r t σ H Q:=h
theorem zrK.Ki {x:V} {n:String} {t:Value} (ty:TyOf K H x t) (k:PySem.W.kitOne K t s!"BG{n}"=some b) (h:Q s!"Br" H):zrK K [x,.ty n] H Q:=⟨x,n,t,b,rfl,ty,k,h⟩
theorem zkj.Qb (h1:SqL K H a xs) (h:Q s!"!G_" H):zkj K [.ref a] H Q:=⟨a,xs,rfl,.inl h1,h⟩
theorem zkj.Qc (h1:SqT K H a xs) (h:Q s!"!G_" H):zkj K [.ref a] H Q:=⟨a,xs,rfl,.inr h1,h⟩
theorem zrL.Q8 (h:∀j:Int,j=(i.natAbs:Int)->Q s!"A7" H):zrL [.int i] H Q:=⟨i,rfl,h _ (by split <;> omega)⟩
theorem zrM.Q8 (h:∀z:Int,z=max i j->Q s!"!{z}" H):zrM [.int i,.int j] H Q:=⟨i,j,rfl,h _ (by split <;> omega)⟩
theorem zeW.Q0 {v:V} (h1:SqL K H a xs) (e:atI xs i=some v) (h:Q v H):zeW K s!"h" s!"]" H Q:=.inl ⟨a,xs,i,v,rfl,rfl,h1,e,h⟩
theorem zeW.Q2 (h1:SqT K H a xs) (e:atI xs i=some v) (h:Q v H):zeW K s!"h" s!"]" H Q:=.inr ⟨a,xs,i,v,rfl,rfl,h1,e,h⟩
theorem tSl.Qa {r:V->Option Int->Option Int->Hp->VK->Prop} {tl th:TO} (h:te σ H fun x H1=>tl σ H1 fun l H2=>th σ H2 fun u H3=>r x l u H3 Q):tSl r te tl th σ H Q:=h
theorem zhI.Qa {R:Option Int->Hp->Prop} (h:R none H):zhI σ H R:=h
theorem zoP.Qa {t:TE} {R:Option Int->Hp->Prop} (h:t σ H fun x H1=>zoV x H1 R):zoP t σ H R:=h
theorem zoV.Qa {R:Option Int->Hp->Prop} (h:R s!"r{i}" H):zoV s!"]" H R:=⟨i,rfl,h⟩
theorem zp2.Ke {lo hi:Option Int} (h1:SqL K H a xs) (h:∀p H',Same H H'->H p=none->H' p=some s!"qCG"->Q s!")" H'):zp2 K s!"h" lo hi H Q:=.inl ⟨a,xs,rfl,h1,fun p hp=>h p _ s!"B<" hp zb⟩
theorem zoM.Qa (h:D.nx σ H):zoM D σ H:=h
theorem zpN.Qh (h:te σ H D.rt):zpN te D σ H:=h
theorem zjR.Qa (h:te σ H fun _ H1=>D.nx σ H1):zjR te D σ H:=h
theorem zjQ.Qj {t:TS} (h:t { D with nx:=u D } σ H):zjQ t u D σ H:=h
theorem zpO.Qa {t:TS} (h:c σ H fun b H1=>if b=true then t D σ H1 else u D σ H1):zpO c t u D σ H:=h
theorem zjT.Qa (h:te σ H fun x H1=>g x σ H1 D.nx):zjT te g D σ H:=h
theorem zri.Qa {i j:Nat} {ta:TA} (h:ta σ H fun vs H1=>zrP i j vs σ H1 D.nx):zri i j ta D σ H:=h
theorem ziB.Q0 {t:TGs} (h1:SqT K H a xs) (hn:xs.length=n) (h:t xs σ H R):ziB K n t s!"h" σ H R:=⟨a,xs,rfl,h1,hn,h⟩
theorem zjS.Qa (h:R σ H):zjS [] σ H R:=⟨rfl,h⟩
theorem zcg.Qa {t:TG} {u:TGs} {r:List V} (h:t v σ H fun σ' H'=>u r σ' H' R):zcg t u (v::r) σ H R:=⟨v,r,rfl,h⟩
theorem zbd (W:Nat->St->Hp->Prop) (m:Nat) (h0:W m σ H) (hs:∀m σ H,W m σ H->c σ H fun b H1=>if b=true then ∃N:St->Hp->Prop,(∀σ' H',N σ' H'->∃m',m'<m/\W m' σ' H')/\tb { D with nx:=N,ct:=N,bk:=D.nx } σ H1 else D.nx σ H1):zjV c tb D σ H:=⟨W,⟨m,h0⟩,hs⟩
theorem _root_.Exists.Qa {W:Nat->St->Hp->Prop} (h:tb { D with nx:=fun σ' H'=>∃m',m'<m/\W m' σ' H',ct:=fun σ' H'=>∃m',m'<m/\W m' σ' H',bk:=D.nx } σ H):∃N:St->Hp->Prop,(∀σ' H',N σ' H'->∃m',m'<m/\W m' σ' H')/\tb { D with nx:=N,ct:=N,bk:=D.nx } σ H:=⟨_,fun _ _ h=>h,h⟩
theorem ziD.Qh {ta:TA} (h:ta σ H fun vs H1=>zkl vs H1 fun J H2=>∃W:Nat->Nat->St->Hp->Prop,(∃m,W 0 m σ H2)/\∀i m σ H,W i m σ H->
 (J.stop i H/\D.nx σ H)\/(J.go i H/\∃N:St->Hp->Prop,(∀σ' H',N σ' H'->∃m',m'<m/\W (i+1) m' σ' H')/\∀x H',J.yld i H x H'->g x σ H' fun σ2 H2=>tb { D with nx:=N,ct:=N,bk:=D.nx } σ2 H2)):ziD (zjX ta) g tb D σ H:=h
theorem zkl.Kg {R:It->Hp->Prop} (h1:-(2^62)<=j) (h2:j<2^62) (h:R s!"F7" H):zkl [.int j] H R:=⟨j,rfl,h1,h2,h⟩
theorem zoU.Kh {R:It->Hp->Prop} (h1:-(2^62)<=i) (h2:i<2^62) (h3:-(2^62)<=j) (h4:j<2^62) (h:R (Itr i (j-i).toNat) H):zoU [.int i,.int j] H R:=⟨i,j,rfl,⟨h1,h2,h3,h4⟩,h⟩
theorem ziD.Qj {tl:TE} (h:tl σ H fun x H1=>zmJ K x H1 fun J H2=>∃W:Nat->Nat->St->Hp->Prop,(∃m,W 0 m σ H2)/\∀i m σ H,W i m σ H->
 (J.stop i H/\D.nx σ H)\/(J.go i H/\∃N:St->Hp->Prop,(∀σ' H',N σ' H'->∃m',m'<m/\W (i+1) m' σ' H')/\∀x H',J.yld i H x H'->g x σ H' fun σ2 H2=>tb { D with nx:=N,ct:=N,bk:=D.nx } σ2 H2)):ziD (zfS K tl) g tb D σ H:=h
theorem zmJ.Qb {R:It->Hp->Prop} (h1:SqL K H a xs) (h:R s!"AC" H):zmJ K s!"h" H R:=⟨a,rfl,⟨xs,h1⟩,h⟩
theorem tBM.Qa {r:V->List V->Hp->VK->Prop} (h:to σ H fun x H1=>tyV K T x H1/\t σ H1 fun xs H2=>r x xs H2 Q):tBM K T r to t σ H Q:=h
theorem zrB.Qa {r:V->List V->Hp->VK->Prop} (h:to σ H fun x H1=>tyV K T x H1/\r x [] H1 Q):zrB K T r to σ H Q:=h
theorem _root_.And.Qb (h1:SqL K H a xs) (h:B):tyV K "list" s!"h" H/\B:=⟨.inl ⟨rfl,xs,h1⟩,h⟩
theorem zJ {xs:List V} {y:V} (h1:H a=some s!"Ae") (hz:xs.length<sizeLine) (h:Q .non s!".{a}q{(xs++[y])}"):zhK s!"h" [y] H Q:=⟨a,xs,y,rfl,rfl,h1,hz,h⟩
theorem yP.Qa (h:Q v H):yP 0 (some v::r) H Q:=⟨v,rfl,h⟩
theorem yP.Qh (h:Q v H):yP 1 (a0::some v::r) H Q:=⟨v,rfl,h⟩
theorem yP.Qi (h:Q v H):yP 2 (a0::a1::some v::r) H Q:=⟨v,rfl,h⟩
theorem yP.Qj (h:Q v H):yP 3 (a0::a1::a2::some v::r) H Q:=⟨v,rfl,h⟩
theorem yP.Qk (h:Q v H):yP 4 (a0::a1::a2::a3::some v::r) H Q:=⟨v,rfl,h⟩
theorem yP.Ql (h:Q v H):yP 5 (a0::a1::a2::a3::a4::some v::r) H Q:=⟨v,rfl,h⟩
theorem yP.Qm (h:Q v H):yP 6 (a0::a1::a2::a3::a4::a5::some v::r) H Q:=⟨v,rfl,h⟩
theorem yP.Qn (h:Q v H):yP 7 (a0::a1::a2::a3::a4::a5::a6::some v::r) H Q:=⟨v,rfl,h⟩
theorem yP.Qo (h:Q v H):yP 8 (a0::a1::a2::a3::a4::a5::a6::a7::some v::r) H Q:=⟨v,rfl,h⟩
theorem yP.Qp (h:Q v H):yP 9 (a0::a1::a2::a3::a4::a5::a6::a7::a8::some v::r) H Q:=⟨v,rfl,h⟩
theorem yP.Qq (h:Q v H):yP 10 (a0::a1::a2::a3::a4::a5::a6::a7::a8::a9::some v::r) H Q:=⟨v,rfl,h⟩
theorem yP.Qr (h:Q v H):yP 11 (a0::a1::a2::a3::a4::a5::a6::a7::a8::a9::a10::some v::r) H Q:=⟨v,rfl,h⟩
theorem yP.Qs (h:Q v H):yP 12 (a0::a1::a2::a3::a4::a5::a6::a7::a8::a9::a10::a11::some v::r) H Q:=⟨v,rfl,h⟩
theorem yP.Qt {a12:Option V} (h:Q v H):yP 13 (a0::a1::a2::a3::a4::a5::a6::a7::a8::a9::a10::a11::a12::some v::r) H Q:=⟨v,rfl,h⟩
theorem zG.Qa (h:R (a0::some v::r) H):zG 1 v (a0::a1::r) H R:=h
theorem zG.Qh (h:R (a0::a1::some v::r) H):zG 2 v (a0::a1::a2::r) H R:=h
theorem zG.Qi (h:R (a0::a1::a2::some v::r) H):zG 3 v (a0::a1::a2::a3::r) H R:=h
theorem zG.Qj (h:R (a0::a1::a2::a3::some v::r) H):zG 4 v (a0::a1::a2::a3::a4::r) H R:=h
theorem zG.Qk (h:R (a0::a1::a2::a3::a4::some v::r) H):zG 5 v (a0::a1::a2::a3::a4::a5::r) H R:=h
theorem zG.Ql (h:R (a0::a1::a2::a3::a4::a5::some v::r) H):zG 6 v (a0::a1::a2::a3::a4::a5::a6::r) H R:=h
theorem zG.Qm (h:R (a0::a1::a2::a3::a4::a5::a6::some v::r) H):zG 7 v (a0::a1::a2::a3::a4::a5::a6::a7::r) H R:=h
theorem zG.Qn (h:R (a0::a1::a2::a3::a4::a5::a6::a7::some v::r) H):zG 8 v (a0::a1::a2::a3::a4::a5::a6::a7::a8::r) H R:=h
theorem zG.Qo (h:R (a0::a1::a2::a3::a4::a5::a6::a7::a8::some v::r) H):zG 9 v (a0::a1::a2::a3::a4::a5::a6::a7::a8::a9::r) H R:=h
theorem zG.Qp (h:R (a0::a1::a2::a3::a4::a5::a6::a7::a8::a9::some v::r) H):zG 10 v (a0::a1::a2::a3::a4::a5::a6::a7::a8::a9::a10::r) H R:=h
theorem zG.Qq (h:R (a0::a1::a2::a3::a4::a5::a6::a7::a8::a9::a10::some v::r) H):zG 11 v (a0::a1::a2::a3::a4::a5::a6::a7::a8::a9::a10::a11::r) H R:=h
theorem zG.Qr {a12:Option V} (h:R (a0::a1::a2::a3::a4::a5::a6::a7::a8::a9::a10::a11::some v::r) H):zG 12 v (a0::a1::a2::a3::a4::a5::a6::a7::a8::a9::a10::a11::a12::r) H R:=h
theorem zG.Qs {a12 a13:Option V} (h:R (a0::a1::a2::a3::a4::a5::a6::a7::a8::a9::a10::a11::a12::some v::r) H):zG 13 v (a0::a1::a2::a3::a4::a5::a6::a7::a8::a9::a10::a11::a12::a13::r) H R:=h
theorem ya {ns:List Int} (h1:SqL K H a s!"Ao") (h0:0<=i) (hl:i<ns.length) (h:∀v:Int,v∈ns->ns[i.toNat]? =some v->Q s!"Cz" H):zeW K s!"h" s!"]" H Q:=by
 have hi:i.toNat<ns.length:=by omega
 refine zeW.Q0 (v:=.int ns[i.toNat]) h1 ?_ (h _ (List.getElem_mem hi) s!"CI");have e:=yS (xs:=ns.map V.int) (j:=i.toNat) (v:=.int ns[i.toNat]) (by rw [List.getElem?_map,List.getElem?_eq_getElem hi];rfl)
 have ei:((i.toNat:Nat):Int)=i:=by omega
 rw [ei] at e;exact e
def XD (oe:Obj) (vs:Array Value) (dx:Option Addr):Prop:=(oe.dict=dx/\vs[2]? =some .none)\/(dx=some mainGlobals/\oe.dict=none)
def XTr (h B:Heap) (e:Addr) (c a0:Value) (dx:Option Addr) (T:Addr) (fl:Value):Prop:=
 ∃(oe:Obj) (vs:Array Value) (oT:Obj) (ts:Array Value),(h.get? e=some oe/\oe.data=.fields vs/\oe.cls=c/\XD oe vs dx/\vs[0]? =some a0/\vs[1]? =some s!"CJ"/\True)/\T≠e/\B.get? T=none/\h.get? T=some oT/\oT.data=.fields ts/\ts[3]? =some fl
def zS (B:Heap) (l:List Env) (e:Addr) (c a0:Value) (dx:Option Addr) (fl:Value) (h:Heap):Prop:=(B.StaysIn h/\B.get? e=none)/\h.FunFrames B l/\∃T,XTr h B e c a0 dx T fl
variable {s:Shared} {outer:List Env} {e:Addr}
section
variable {M:Model} {A:Around} {E:Value->Shared->Prop} {B h1:Heap} {l:List Env} {env:Env} {L T:Addr} {c a0 fl:Value} {dx:Option Addr} {oe ob:Obj} {vs ts:Array Value} {Q:Unit->Shared->Prop} {P:Prop}
theorem zS.stays (x:zS B l e c a0 dx fl h):∀b o,B.get? b=some o->h.get? b=some o:=x.1.1
theorem zS.obj (x:zS B l e c a0 dx fl h):∃oe vs,h.get? e=some oe/\oe.data=.fields vs/\oe.cls=c/\XD oe vs dx:=by
 obtain ⟨_,_,T,oe,vs,_,_,⟨y1,y2,y3,y4,_,_,y5⟩,_⟩:=x;exact ⟨oe,vs,y1,y2,y3,y4⟩
theorem zS.tail (x:zS B (env::l) e c a0 dx fl h):zS B l e c a0 dx fl h:=⟨x.1,x.2.1.2.2,x.2.2⟩
theorem zS.mark (x:zS B l e c a0 dx fl h) (v:Value) (k:∀(T:Addr) (oe:Obj) (vs:Array Value) (oT:Obj) (ts:Array Value),h.get? e=some oe->oe.data=.fields vs->vs[1]? =some (.ref T)->h.get? T=some oT->oT.data=.fields ts->ts[3]? =some fl->
 (zS B l e c a0 dx v (h.update T (Obj.mapFields (·.setIfInBounds 3 v)))/\h.UpToSlots (h.update T (Obj.mapFields (·.setIfInBounds 3 v))))->P):P:=by
 obtain ⟨⟨x1,x2⟩,x3,T,oe,vs,oT,ts,⟨y1,y2,y3,y4,y5,y6,y7⟩,t1,t2,t3,t4,t5⟩:=x;have oth:∀b o,b≠T->h.get? b=some o->(h.update T (Obj.mapFields (·.setIfInBounds 3 v))).get? b=some o:=fun b o n q=>(Heap.get?_update_other _ _ (fun z=>n z.symm)).trans q
 have nT:∀b o,h.get? b=some o->(∀ws,o.data≠.fields ws)->b≠T:=fun b o q n z=>by
  rw [z,t3] at q;cases q;exact n ts t4
 have z3:3<ts.size:=(Array.getElem?_eq_some_iff.mp t5).1;refine k T oe vs oT ts y1 y2 y6 t3 t4 t5 ⟨⟨⟨fun b o q=>oth b o (fun z=>by rw [z,t2] at q;cases q) (x1 b o q),x2⟩,x3.of_keeps fun b o q n=>⟨o,oth b o (nT b o q n) q,rfl⟩,T,oe,vs,oT.mapFields (·.setIfInBounds 3 v),ts.setIfInBounds 3 v,
  ⟨oth e oe (fun z=>t1 z.symm) y1,y2,y3,y4,y5,y6,y7⟩,t1,t2,Heap.get?_update_self _ t3 (Obj.isFreed_of_fields (Obj.data_mapFields t4 _)),Obj.data_mapFields t4 _,?_⟩,fun b o q n=>⟨o.slots,oth b o (nT b o q n) q⟩⟩
 rw [Array.getElem?_setIfInBounds_self_of_lt z3]
theorem wH (f:Array Value->Array Value) (o:Obj):(o.mapFields f).dict=o.dict:=by
 obtain ⟨c,d,dt,sl⟩:=o;cases dt <;> rfl
theorem znv (hl:h.FunFrames B l) (he:h.get? e=some oe) (hd:oe.data=.fields vs) (hz:1<vs.size) (kb:B.StaysIn h) (en:B.get? e=none) (sl:Heap.SlotsOnly (l.filterMap (·.frame)) h h1) (od:ob.data=.fields ts) (t3:ts[3]? =some fl) (v0:vs[0]? =some a0) (v2:XD oe vs dx):
 zS B l e oe.cls a0 dx fl (s!"Eo".update e (Obj.mapFields (·.setIfInBounds 1 s!"4C_")))/\h.UpToSlots (s!"Eo".update e (Obj.mapFields (·.setIfInBounds 1 s!"4C_"))):=by
 have offF:e∉l.filterMap (·.frame):=fun z=>by
  obtain ⟨_,o,q,n⟩:=hl.mem z;rw [he] at q;cases q;exact n vs hd
 have e1:h1.get? e=some oe:=(sl.2.1 e offF).trans he;have e2:=Heap.get?_push_of_some (h:=h1) ob e1;have d3:=Obj.data_mapFields hd (·.setIfInBounds 1 s!"4C_")
 have e3:=Heap.get?_update_self (Obj.mapFields (·.setIfInBounds 1 s!"4C_")) e2 (Obj.isFreed_of_fields d3)
 have nTe:h1.objs.size≠e:=Nat.ne_of_gt s!"AK{e1}";have of:ob.isFreed=false:=Obj.isFreed_of_fields od;have oth:∀b o,b≠e->h1.get? b=some o->(s!"Eo".update e (Obj.mapFields (·.setIfInBounds 1 s!"4C_"))).get? b=some o:=fun b o n q=>(Heap.get?_update_other _ _ (fun z=>n z.symm)).trans s!"F("
 have kb1:B.StaysIn h1:=fun b o q=>(sl.2.1 b fun z=>by rw [(hl.mem z).1] at q;cases q).trans (kb b o q)
 have ne:∀b o,h.get? b=some o->(∀ws,o.data≠.fields ws)->b≠e:=fun b o q n z=>by
  rw [z,he] at q;cases q;exact n vs hd
 have up:h.UpToSlots (s!"Eo".update e (Obj.mapFields (·.setIfInBounds 1 s!"4C_"))):=fun b o q n=>by
  obtain ⟨sl',q'⟩:=sl.2.2 b o q;exact ⟨sl',oth b _ (ne b o q n) q'⟩
 refine ⟨⟨⟨fun b o q=>oth b o (fun z=>by rw [z,en] at q;cases q) (kb1 b o q),en⟩,hl.of_keeps fun b o q n=>?_,h1.objs.size,_,_,ob,ts,⟨e3,d3,Obj.cls_mapFields _ _,?_,?_,?_,?_⟩,nTe,kb1.fresh,(Heap.get?_update_other _ _ (fun z=>nTe z.symm)).trans (Heap.get?_push_size h1 of),od,t3⟩,up⟩
 ·obtain ⟨sl',q'⟩:=up b o q n;exact ⟨_,q',rfl⟩
 ·rcases v2 with ⟨z1,z2⟩ | ⟨z1,z2⟩
  ·exact .inl ⟨(wH _ _).trans z1,by rw [Array.getElem?_setIfInBounds_ne s!"c"];exact z2⟩
  ·exact .inr ⟨z1,(wH _ _).trans z2⟩
 ·rw [Array.getElem?_setIfInBounds_ne s!"c"]
  exact v0
 ·rw [Array.getElem?_setIfInBounds_self_of_lt hz]
 ·trivial
theorem zaR {head:Value} {hn:Bool} (fr:A.frames=some (env::outer)) (hl:s.heap.FunFrames B (env::outer)) (hf:env.frame=some L) (he:s.heap.get? e=some oe) (hd:oe.data=.fields vs) (hz:1<vs.size) (kb:B.StaysIn s.heap) (en:B.get? e=none) (v0:vs[0]? =some a0) (v2:XD oe vs dx)
 (k:∀h',zS B (env::outer) e oe.cls a0 dx s!"C0" h'->s.heap.UpToSlots h'->Q () { s with heap:=h' }):wpAny M A (do let f <-frameOf env;let p <-entryPlaceOf L hn;let t <-EntryCells.newEntry head f .none s!"C0" .none p;setField s!"Ar" 1 t) Q E s:=by
 refine wpAny_bind (wpAny_frameOf_fun fr hl hf fun h1 sl=>wpAny_bind (wpAny_entryPlaceOf fun pl hp=>?_))
 unfold EntryCells.newEntry newFields;refine wpAny_bind (wpAny_newObj_type ?_ (hp.sizeOk5 _ _ _ _ _));have offF:e∉(env::outer).filterMap (·.frame):=fun z=>by
  obtain ⟨_,o,q,n⟩:=hl.mem z;rw [he] at q;cases q;exact n vs hd
 have e1:h1.get? e=some oe:=(sl.2.1 e offF).trans he;refine wpAny_setField (Heap.get?_push_of_some _ e1) hd hz ?_;obtain ⟨x1,x2⟩:=znv (fl:=rawInt L) (ob:={ cls:=.type "traceback",dict:=none,data:=.fields ([head,.ref L,.none,rawInt L,.none]++(if pl.isEmpty then List.replicate 6 Value.none else pl)).toArray }) hl he hd hz kb en sl rfl (by
  first | (simp;done) | (rcases hp with rfl | ⟨_,_,_,_,_,_,_,rfl⟩ <;> simp)) v0 v2
 exact k _ x1 x2
theorem zS.lands (x:zS B l e c a0 dx fl s.heap) (k:∀h',zS B l e c a0 dx .none h'->s.heap.UpToSlots h'->Q () { s with heap:=h' }):wpAny M A (setFlight s!"Ar" none) Q E s:=by
 refine x.mark .none fun T oe vs oT ts y1 y2 y3 t1 t2 t3 ⟨x1,x2⟩=>?_
 unfold setFlight;refine wpAny_bind s!"F)";rw [if_pos s!"j"]
 exact wpAny_setField t1 t2 s!"F[".1 (k _ x1 x2)
theorem zS.looks (fr:A.frames=some (env::outer)) (hf:env.frame=some L) (x:zS B (env::outer) e c a0 dx .none s.heap) (k:∀h',zS B (env::outer) e c a0 dx s!"C0" h'->s.heap.UpToSlots h'->Q () { s with heap:=h' }):wpAny M A (noteFrame s!"Ar" env) Q E s:=by
 refine x.mark .none fun T oe vs oT ts y1 y2 y3 t1 t2 t3 ⟨x1,x2⟩=>?_
 unfold noteFrame;simp only [hf];refine wpAny_bind s!"F)";rw [if_pos s!"j"]
 refine wpAny_bind s!"AL{t1}{t2}{t3}{?_}";rw [if_neg (by simp [rawInt])]
 refine wpAny_bind (wpAny_setField t1 t2 s!"F[".1 ?_);obtain ⟨⟨z1,z2⟩,z3,T',o',v',_,_,⟨q1,q2,q3,q4,q5,q6,q7⟩,_⟩:=x1;subst q3;exact zaR fr z3 hf q1 q2 s!"J&{q6}".1 z1 z2 q5 q4 fun h' w1 w2=>k h' w1 (x2.trans w2)
theorem zS.leaves (fr:A.frames=some (env::outer)) (hf:env.frame=some L) (x:zS B (env::outer) e c a0 dx .none s.heap) (k:∀h',zS B outer e c a0 dx .none h'->s.heap.UpToSlots h'->Q () { s with heap:=h' }):wpAny M A s!"F]" Q E s:=by
 unfold leaving;exact wpAny_bind (x.looks fr hf fun h1 x1 u1=>x1.lands fun h2 x2 u2=>k h2 x2.tail (u1.trans u2))
theorem zgZ (fr:A.frames=some (env::outer)) (hf:env.frame=some L) (hl:s.heap.FunFrames B (env::outer)) (he:s.heap.get? e=some oe) (hd:oe.data=.fields vs) (kb:B.StaysIn s.heap) (en:B.get? e=none) (v0:vs[0]? =some a0) (v1:vs[1]? =some .none) (v2:XD oe vs dx)
 (k:∀h',zS B outer e oe.cls a0 dx .none h'->s.heap.UpToSlots h'->Q () { s with heap:=h' }):wpAny M A s!"F]" Q E s:=by
 unfold leaving noteFrame;simp only [hf];refine wpAny_bind s!"7AL{he}{hd}{v1}{?_}";rw [if_neg s!"c"]
 exact zaR fr hl hf he hd s!"J&{v1}".1 kb en v0 v2 fun h1 x1 u1=>x1.lands fun h2 x2 u2=>k h2 x2.tail (u1.trans u2)
end
variable {h':Heap}
section
variable {h2:Heap}
theorem zu.at (x:zu P w H h a o):∃ob,h.get? a=some ob:=by
 cases o with
 | lst xs=>obtain ⟨_,_,_,_,e⟩:=x;exact ⟨_,e⟩
 | tup xs=>obtain ⟨_,_,_,ob,e,_⟩:=x;exact ⟨ob,e⟩
 | dK kvs=>obtain ⟨_,_,_,_,ob,_,_,e,_⟩:=x;exact ⟨ob,e⟩
 | dT kvs=>obtain ⟨_,_,_,_,ob,_,_,e,_⟩:=x;exact ⟨ob,e⟩
 | set S n=>obtain ⟨ob,_,_,_,e,_⟩:=x;exact ⟨ob,e⟩
 | ins C dx fs=>obtain ⟨_,_,_,e,_⟩:=x;exact ⟨_,e⟩
 | own y=>exact x
 | xd fs=>obtain ⟨_,⟨ob,_,_,e,_⟩,_⟩:=x;exact ⟨ob,e⟩
 | rng lo hi=>obtain ⟨_,_,_,e⟩:=x;exact ⟨_,e⟩
 | frz ob u=>exact ⟨ob,x.1⟩
 | tbl ps=>exact ⟨_,x⟩
 | met f y=>exact ⟨_,x⟩
 | ext φ=>exact x.2.1
structure Kept (B:Heap) (fs:List Addr) (H:Hp) (h:Heap) (H':Hp) (h':Heap):Prop where
 old:∀b o,h.get? b=some o->H b=none->b∉fs->B.get? b=some o
 any:∀b o,h.get? b=some o->b∉fs->∃o',B.get? b=some o'
 trk:∀b o,H' b≠none->h'.get? b=some o->B.get? b=some o
theorem Kept.fly {B:Heap} {fs:List Addr} (k:Kept B fs H h H' h') (ok:HOk P w H' h') (st:∀b o,B.get? b=some o->h2.get? b=some o):Kept B fs H h H' h2:=
 ⟨k.old,k.any,fun b o n e=>by
  cases q:H' b with
  | none=>exact absurd q n
  | some u=>
   obtain ⟨ob,e1⟩:=(ok b u q).at
   have e2:=k.trk b ob n e1;have e3:=st b ob e2;rw [e] at e3;rw [Option.some.inj e3];exact e2⟩
end
def CXE (P:Program) (w:World):CXT:=fun outer H s E e s'=>∃(a t:Addr) (cls:Value) (dx:Option Addr) (H':Hp) (B:Heap),e=.ref a/\E cls dx H'/\s'.os=s.os/\AllBare s'.gens/\Un s!"F." [] H H' s.heap s'.heap/\HOk P w H' s'.heap/\
 zS B outer a cls s!">" dx .none s'.heap/\Kept B s!"F." H s.heap H' s'.heap/\H' a=none
variable {pins:List (Addr×Obj)}
section
variable {s':Shared} {B h2:Heap}
theorem Inv.offStack (I:Inv X pins σ H s) {b:Addr} {o:Obj} (e:X.s₀.heap.get? b=some o) (n:b∉X.fs):b∉frs X.stack:=fun z=>by
 rcases List.mem_cons.mp (I.stkSub b z) with q | q
 ·have h1:=Heap.lt_size e;have h2:=I.ok.above;rw [q] at h1;exact absurd s!"Cm{h1}{h2}" s!"AT"
 ·exact n q
theorem Inv.trkOff (I:Inv X pins σ H s) {b:Addr} (n:H b≠none):b∉frs X.stack:=fun z=>n (I.stkFree b z)
theorem Inv.keptHide (I:Inv X pins σ H s) (hx:X.ex=[]) (k:∀b o,s.heap.get? b=some o->h'.get? b=some o):Kept (PySem.W.hideAll s.heap s!"AB") X.fs X.H₀ X.s₀.heap H h':=by
 have nx:∀b:Addr,b∉X.ex:=fun b z=>by rw [hx] at z;cases z
 refine ⟨fun b o e n f=>PySem.W.hideAll_get _ (I.base.keep b o e n f (nx b)) (I.offStack e f),fun b o e f=>?_,fun b o n e=>?_⟩
 ·obtain ⟨o',e'⟩:=I.base.there b o e (nx b);exact ⟨o',PySem.W.hideAll_get _ e' (I.offStack e f)⟩
 ·cases q:H b with
  | none=>exact absurd q n
  | some u=>
   obtain ⟨ob,e1⟩:=s!"FA".at
   have e2:=k b ob e1;rw [e] at e2;rw [Option.some.inj e2];exact PySem.W.hideAll_get _ e1 (I.trkOff n)
theorem Inv.flown (I:Inv X pins σ H s) (hx:X.ex=[]) (k:Kept B X.fs X.H₀ X.s₀.heap H s.heap) (st:∀b o,B.get? b=some o->h2.get? b=some o) (up:s.heap.UpToSlots h2):
 Un X.fs [] X.H₀ H X.s₀.heap h2/\HOk X.prog X.w H h2:=by
 have nx:∀b:Addr,b∉X.ex:=fun b z=>by rw [hx] at z;cases z
 have slot:∀b o,X.s₀.heap.get? b=some o->X.H₀ b=none->b∈X.fs->∃sl,h2.get? b=some { o with slots:=sl }:=fun b o e n f=>by
  obtain ⟨sl,e1⟩:=I.base.slot b o e n f (nx b);obtain ⟨_,o1,e2,nf⟩:=I.ok.funs.mem f;rw [e] at e2;cases Option.some.inj e2;obtain ⟨sl',e3⟩:=up b _ e1 nf;exact ⟨sl',e3⟩
 refine ⟨⟨fun b o e n f _=>st b o s!"H=",fun b o e n f _=>slot b o e n f,fun b o e n _=>I.base.free b o e n (nx b),fun b o e _=>?_,I.base.tups,I.base.frzs,I.base.tbls⟩,fun a o e=>?_⟩
 ·by_cases f:b∈X.fs
  ·obtain ⟨sl,q⟩:=slot b o e (I.ok.frf b f) f;exact ⟨_,q⟩
  ·obtain ⟨o',e'⟩:=k.any b o e f;exact ⟨o',st b o' e'⟩
 ·refine (I.hok a o e).stay (fun b u hb q=>st b u (k.trk b u ?_ q)) (fun _ q=>q) fun _ _ q=>q
  rcases hb with z | z
  ·rw [z,e];intro y;cases y
  ·rw [z];intro y;cases y
end
structure XPass (X:Cx) (W:Value->Option Addr->St->Hp->Prop):Prop where
 call:∀(pins:List (Addr×Obj)) (σ:St) (H:Hp) (s:Shared) (e:Value) (s':Shared),Inv X pins σ H s->CXE X.prog X.w X.stack H s (fun cls dx H2=>W cls dx σ H2) e s'->X.xe e s'
structure XMade (X:Cx) (W:Value->Option Addr->St->Hp->Prop):Prop where
 ex:X.ex=[]
 made:∀(pins:List (Addr×Obj)) (σ:St) (H:Hp) (s:Shared) (e t:Addr) (oe:Obj) (vs:Array Value),Inv X pins σ H s->X.s₀.heap.get? e=none->H e=none->s.heap.get? e=some oe->oe.data=.fields vs->vs[0]? =some s!">"->vs[1]? =some .none->∀dx,XD oe vs dx->W oe.cls dx σ H->X.xe s!"Ar" s
theorem Inv.keptHideE (I:Inv X pins σ H s) (hx:X.ex=[]) (n0:X.s₀.heap.get? e=none) (nH:H e=none):Kept (PySem.W.hideAll s.heap (e::frs X.stack)) X.fs X.H₀ X.s₀.heap H s.heap:=by
 have nx:∀b:Addr,b∉X.ex:=fun b z=>by rw [hx] at z;cases z
 have ne:∀b o,X.s₀.heap.get? b=some o->b≠e:=fun b o q z=>by
  rw [z,n0] at q;cases q
 have off:∀b o,X.s₀.heap.get? b=some o->b∉X.fs->b∉e::frs X.stack:=fun b o q f z=>by
  rcases List.mem_cons.mp z with y | y
  ·exact ne b o q y
  ·exact I.offStack q f y
 refine ⟨fun b o q n f=>PySem.W.hideAll_get _ (I.base.keep b o q n f (nx b)) (off b o q f),fun b o q f=>?_,fun b o n q=>?_⟩
 ·obtain ⟨o',e'⟩:=I.base.there b o q (nx b);exact ⟨o',PySem.W.hideAll_get _ e' (off b o q f)⟩
 ·refine PySem.W.hideAll_get _ q fun z=>?_
  rcases List.mem_cons.mp z with y | y
  ·rw [y] at n;exact n nH
  ·exact I.trkOff n y
variable {W:Value->Option Addr->St->Hp->Prop}
theorem XMade.of (x:XMade X W) {cls:Value} {args:List Value} (I:Inv X pins σ H s) (hm:Heap.MadeExcOf s.heap h' e cls args) (w:W cls none σ H):X.xe s!"Ar" { s with heap:=h' }:=by
 obtain ⟨t,q,_,_⟩:=hm.there;refine x.made pins σ H _ e t _ _ (I.kept (h':=h') (t':=s.toks) hm.keeps) ?_ ?_ q rfl rfl rfl none s!"${⟨rfl,rfl⟩}" w
 ·cases z:X.s₀.heap.get? e with
  | none=>rfl
  | some o=>
   obtain ⟨o',z'⟩:=I.base.there e o z (fun y=>by rw [x.ex] at y;cases y)
   rw [hm.new] at z';cases z'
 ·cases z:H e with
  | none=>rfl
  | some u=>
   obtain ⟨ob,e1⟩:=(I.hok e u z).at
   rw [hm.new] at e1;cases e1
def WN:Value->Option Addr->St->Hp->Prop:=fun _ _ _ _=>False
theorem xpass_nox:XPass X.nox WN:=
 ⟨fun _ _ _ _ _ _ _ h=>by
  obtain ⟨_,_,_,_,_,_,_,z,_⟩:=h;exact z.elim⟩
variable {scope:Scope} {cd:Value} {s₀:Shared} {H₀:Hp}
theorem xpass_cx {A:Around} {E:XK}:
 XPass s!"FB" (fun cls dx _ H=>E cls dx H):=by
 refine ⟨fun pins σ H s e s' I c=>?_⟩
 ·obtain ⟨a,t,cls,dx,H',B,rfl,hE,os,bare,un,hok,fl,kp,ha⟩:=c;have I':=I.call' (s':=s') (ch:=[]) os un hok bare (fun b z=>nomatch z)
  refine zS.leaves I.ok.frames rfl fl fun h2 fl2 up=>?_
  have kp':Kept B (frs outer) H₀ s₀.heap H' s'.heap:=⟨fun b o e n f=>kp.old b o (I.base.keep b o e n f (fun z=>nomatch z)) (I.base.free b o e n (fun z=>nomatch z)) (I.offStack e f),fun b o e f=>by
   obtain ⟨o',e'⟩:=I.base.there b o e (fun z=>nomatch z)
   exact kp.any b o' e' (I.offStack e f),kp.trk⟩
  obtain ⟨u2,ok2⟩:=I'.flown rfl kp' fl2.stays up;exact ⟨a,t,cls,dx,H',B,rfl,hE,I'.os,I'.bare,u2,ok2,fl2,kp'.fly hok fl2.stays,ha⟩
theorem xmade_cx {A:Around} {E:XK}:
 XMade s!"FB" (fun cls dx _ H=>E cls dx H):=by
 refine ⟨rfl,fun pins σ H s e t oe vs I n0 nH he hd v0 v1 dx v2 hE=>?_⟩
 have kp:=I.keptHideE rfl n0 nH;refine zgZ (B:=PySem.W.hideAll s.heap (e::frs (envOfC qual scope s₀.heap.objs.size f cd::outer))) I.ok.frames rfl (PySem.W.funFrames_hide I.stack fun env he b hb=>List.mem_cons_of_mem _ (List.mem_filterMap.mpr ⟨env,he,hb⟩)) he hd (fun b o q=>PySem.W.of_hideAll _ q) (PySem.W.hideAll_none _ (List.mem_cons_self ..)) v0 v1 v2 fun h2 fl up=>?_
 obtain ⟨u2,ok2⟩:=I.flown rfl kp fl.stays up;exact ⟨e,t,_,_,H,_,rfl,hE,I.os,I.bare,u2,ok2,fl,kp.fly I.hok fl.stays,nH⟩
def zkF (sp:Sp) (W:Value->Option Addr->St->Hp->Prop) (t:TA):TE:=fun σ H Q=>t σ H fun vs H1=>sp vs H1 Q (fun cls dx H2=>W cls dx σ H2)
section
variable {p:Pos} {e:Expr}
theorem pe_defS (D:Def X.prog X.w X.K X.mg X.base s!"C1" k x ps sp) (hr:Room k X.A) (hg:Gl X x) (hx:XPass X W)
 (ha:PA X (e::es) t) (hdb:(x==("__debug__":Str))=false:=by decide) (he:starEach (e::es) X.env=(false,eval e X.env)::starEach es X.env:=by rfl) (hpl:s!"C]".any (·.1)=false:=by rfl):
 PE X (.Call (.Name x p) (e::es) [] pos) (zkF sp W t):=by
 obtain ⟨f,fd,F,m,kp,b,_⟩:=D.ex;intro pins s σ H Q I h;refine wpAny_Call_Name_kw (zap I hg m ?_ hdb);refine PySem.W.callWith_K (h₀:=X.base) I.ok.mod.kin kp (thn (ha pos pins s σ H _ I h) fun us s1 ⟨vs,H1,I1,r,q⟩=>⟨I1.kIn,?_⟩) he hpl
 have hl:(us++[]).length=ps.length:=by rw [List.append_nil,<-r.length];exact F.len _ _ _ _ q
 have bnd:=b s1 us I1.kIn hl;rw [List.append_nil] at bnd;refine wpAny_call (codeAny_mono (F.run X.A X.stack s1 H1 ⟨us,[]⟩ us vs Q _ hr I1.env0 bnd r q) fun res s2 hq=>?_)
 cases res with
 | error ex=>exact hx.call pins σ H1 s1 ex s2 I1 hq
 | ok fl=>
  cases fl with
  | ret u=>exact I1.after hq
  | next=>exact False.elim hq
  | brk=>exact False.elim hq
  | cont=>exact False.elim hq
def zkG (C:Addr) (W:Value->Option Addr->St->Hp->Prop) (t:TA):TS:=fun _ σ H=>t σ H fun vs H1=>vs.length<=sizeLine/\W s!"s" none σ H1
theorem ps_raise {C:Addr} {bmB:List Value} {B newId initId:String} {np cpos:Pos} (O:OwnCls x C bmB newId X.mg X.base) (FB:ExcBaseFacts B newId initId bmB) (hc:X.calm=true) (hg:Gl X x) (hx:XMade X W) (ha:PA X (e::es) t)
 (hdb:(x==("__debug__":Str))=false:=by decide) (he:starEach (e::es) X.env=(false,eval e X.env)::starEach es X.env:=by rfl) (hpl:s!"BS".any (·.1)=false:=by rfl):
 PS X (.Raise s!"r{.Call (.Name x np) (e::es) [] cpos}" none pos) (zkG C W t):=by
 intro pins s σ H D I h;obtain ⟨tl,nsA,nmA,qA,bsA,hdA,snA,subA,abA,colA,ddA,k0,k1,k2,k3,k5,mN,hC,hN,hni,T⟩:=O.obj;refine wpAny_Raise_call_subT (nm:=nmA) (q:=qA) (C:=C) (N:=nsA) (bs:=bsA) (bm:=tl) (hdct:=hdA) (sn:=snA) (sub:=subA) (ab:=abA) (col:=colA) (dd:=ddA) (k0:=k0) (k1:=k1) (k2:=k2) (k3:=k3) (k5:=k5) FB (mN:=mN)
  s!"FC" s!"A0" (by rw [he];show (false || s!"BS".any (·.1))=false;rw [hpl];rfl) hni (zap I hg O.bound ⟨rfl,?_⟩ hdb)
 have h1:=ha cpos pins s σ H _ I h;rw [he] at h1 ⊢;exact Calls.evalArgs_plain (wpAny_mono h1 (fun us s2 ⟨vs,H2,I2,r,hz,hW⟩=>⟨rfl,by rw [<-r.length];exact hz,I2.bk _ _ hC,hN.keeps I2.bk,T.keeps I2.bk,fun h' a hm=>hx.of I2 hm hW⟩) fun _ _ y=>y)
end
variable {C:Addr}
theorem zqt {bmB:List Value} {newId:String} (X:K.In h) (hm:mg x=some s!"s") (q:PySem.W.excIn K C bmB newId=true):OwnCls x C bmB newId mg h:=by
 refine ⟨hm,?_⟩;unfold PySem.W.excIn at q;split at q
 ·rename_i dA cdA slA look;split at q
  ·rename_i C1 bm1 e0 e1 e2 e3 nA e5 hmro hsl;simp only [Bool.and_eq_true,beq_iff_eq,Bool.not_eq_true'] at q;obtain ⟨⟨⟨⟨⟨z1,z2⟩,hdel⟩,ht⟩,hok⟩,hni⟩:=q;subst z1 z2;obtain ⟨f1,f2,f3,f4,f5,f6,f7,f8,f9,f10,f11⟩:=cdA;dsimp only at hmro hdel hok hni;subst hmro hdel;have es:slA=#[e0,e1,e2,e3,some s!"B4{nA}",e5]:=by
    obtain ⟨l⟩:=slA;simp only at hsl;rw [hsl]
   subst es;exact ⟨bm1,f4,f1,f5,f2,f6,f7,f8,f9,f10,dA,e0,e1,e2,e3,e5,_,X _ _ look,.of_isNs (PySem.W.isNs_of_in X hok),PySem.W.nsMap_none_of_in X hok hni,PySem.W.tail_of_in X ht⟩
  ·cases q
 ·cases q
theorem zkF.Qa (h:t σ H fun vs H1=>sp vs H1 Q (fun cls dx H2=>W cls dx σ H2)):zkF sp W t σ H Q:=h
def zkI (C:Addr) (W:Value->Option Addr->St->Hp->Prop) (σ:St) (vs:List V) (H:Hp):Prop:=vs.length<=sizeLine/\W s!"s" none σ H
theorem zkG.Qa (h:t σ H fun vs H1=>zkI C W σ vs H1):zkG C W t D σ H:=h
theorem zkI.Qa (h:W s!"s" none σ H):zkI C W σ [v] H:=⟨(by show 1<=sizeLine;decide),h⟩
variable {out:Str}
def tJ:List TE->Str->TE
 | [],out=>fun _ H Q=>Q s!"o{out}" H
 | t::r,out=>fun σ H Q=>t σ H fun x H1=>∃y,x=.str y/\(out++y).length<=sizeLine/\tJ r (out++y) σ H1 Q
inductive PJ (X:Cx):List Expr->List TE->Prop where
 | nil:PJ X [] []
 | cons {e:Expr} {es:List Expr} {t:TE} {ts:List TE} (h:PE X e t) (r:PJ X es ts):PJ X (e::es) (t::ts)
theorem PJ.run {ts:List TE} (h:PJ X es ts):∀{out:Str} {pins:List (Addr×Obj)} {s:Shared} {σ:St} {H:Hp} {Q:VK},out.length<=sizeLine->Inv X pins σ H s->tJ ts out σ H Q->
 wpAny s!"t" X.A (joinParts out (evalEach es X.env)) (EP X pins σ Q) X.xe s:=by
 induction h with
 | nil=>exact fun hz I q=>joinParts_nil ⟨.str _,_,I.tok _,⟨_,rfl⟩,q⟩ hz
 | cons h _ ih=>
  intro out pins s σ H Q _ I q;refine joinParts_cons (thn (h pins s σ H _ I q) fun u s1 ⟨x,H1,I1,r1,y,ex,hz,q1⟩=>?_)
  subst ex;obtain ⟨tk,rfl⟩:=r1;exact ⟨hz,ih hz I1 q1⟩
theorem zar {v1 v2:Expr} {rest:List Expr} {ts:List TE} (h:PJ X (v1::v2::rest) ts):PE X (.JoinedStr (v1::v2::rest) pos) (tJ ts Str.empty):=
 fun _ _ _ _ _ I q=>JoinedStr_many (h.run s!"c" I q)
def zoY (te:TE):TE:=fun σ H Q=>te σ H fun x H1=>∃i,x=.int i/\i.natAbs.log2<1920/\Q s!"CF" H1
theorem zeY {e:Expr} {te:TE} (h:PE X e te):PE X (.FormattedValue e (-1) none pos) (zoY te):=fun pins s σ H Q I q=>
 FormattedValue_plain (thn (h pins s σ H _ I q) fun u s1 ⟨x,H1,I1,r1,i,ex,hz,q1⟩=>by
  subst ex;obtain ⟨tk,rfl⟩:=r1;exact formatField_int_small hz ⟨.str _,_,I1.tok _,⟨_,rfl⟩,q1⟩)
def zr3 (out:Str) (x:V) (H:Hp) (R:Str->Hp->Prop):Prop:=∃y,x=.str y/\(out++y).length<=sizeLine/\R (out++y) H
theorem tJ.Qa (h:Q s!"o{out}" H):tJ [] out σ H Q:=h
theorem tJ.Qh {t:TE} {r:List TE} (h:t σ H fun x H1=>zr3 out x H1 fun o2 H2=>tJ r o2 σ H2 Q):tJ (t::r) out σ H Q:=h
theorem zr3.Q4 {y:Str} {R:Str->Hp->Prop} (hz:(out++y).length<=sizeLine) (h:R (out++y) H):zr3 out s!"D+" H R:=⟨y,rfl,hz,h⟩
def zr4 (x:V) (H:Hp) (Q:VK):Prop:=∃i:Int,x=.int i/\i.natAbs.log2<1920/\Q s!"CF" H
theorem zoY.Qa (h:te σ H fun x H1=>zr4 x H1 Q):zoY te σ H Q:=h
theorem zr4.Q6 (hz:i.natAbs.log2<1920) (h:Q s!"CF" H):zr4 s!"]" H Q:=⟨i,rfl,hz,h⟩
end L2
set_option maxHeartbeats 4000000
namespace L2
open PySem PySem.Spec PyProof.Rows PySem.W
variable {w:World} {A:Around} {E:Value->Shared->Prop} {s:Shared} {K:PySem.W.Frag} {C:Addr} {h:Heap} {Q:Unit->Shared->Prop} {M:Model}
section
variable {prog:Program} {x:Addr}
structure ExcK (K:PySem.W.Frag) (C:Addr):Prop where
 cl:s!"CK".isSome=true
 ga:findIn K s!"s" "__getattribute__"=some s!"Ep"
 hk:findIn K s!"s" "__getattr__"=some none
 fc:findIn K s!"s" "__class__"=some s!"D$"
 ob:mroIn K C s!"Cv"=some true
 be:mroIn K C s!"AF"=some true
def zhN (x C:Addr) (h:Heap):Prop:=∃ox,h.get? x=some ox/\ox.cls=.ref C
theorem zhN.ty (M:Model) (p:zhN x C h):Looks M h s!"H>" s!"s":=by
 obtain ⟨ox,h1,h2⟩:=p;exact h2▸(Looks.ld h1).andThen .now
theorem ziN {nameV:Value} (Z:ExcK K C) (X:K.In s.heap) (I:zhN x C s.heap) (h:Q () s):wpAny M A (checkBuiltinCall "BaseException.__getattribute__" ⟨[.ref x,nameV],[]⟩) Q E s:=by
 obtain ⟨hh,g,d,t,os⟩:=s;have L0:=I.ty M;have L4:=looks_mroIn (M:=M) X Z.be;have z1:builtinKind "BaseException.__getattribute__"=some .slot:=by decide+kernel
 have z2:splitId "BaseException.__getattribute__"=some ("BaseException","__getattribute__"):=by decide+kernel
 have z3:=PySem.F.args_bexc_ga s!"A6" nameV;simp only [checkBuiltinCall,z1,z2];refine wpAny_bind ?_;unfold isInstance
 repeat (first | (with_reducible refine L0.at ?_) | (with_reducible refine L4.at ?_) | walk_at "wp")
 exact h
end
variable {H H':Hp} {h2 B:Heap}
section
variable {P:Program} {fs:List Addr} {h':Heap}
theorem Un.flown (u:Un fs [] H H' h h') (fr:∀b∈fs,H b=none/\∃o,h.get? b=some o/\∀vs,o.data≠.fields vs) (k:Kept B fs H h H' h') (st:∀b o,B.get? b=some o->h2.get? b=some o) (up:h'.UpToSlots h2):Un fs [] H H' h h2:=by
 have slot:∀b o,h.get? b=some o->b∈fs->∃sl,h2.get? b=some { o with slots:=sl }:=fun b o e f=>by
  obtain ⟨n,o1,e2,nf⟩:=fr b f;obtain ⟨sl,e1⟩:=u.slot b o e n f (fun z=>nomatch z)
  rw [e] at e2;cases Option.some.inj e2;obtain ⟨sl',e3⟩:=up b _ e1 nf;exact ⟨sl',e3⟩
 refine ⟨fun b o e n f _=>st b o s!"H=",fun b o e n f _=>slot b o e f,fun b o e n _=>u.free b o e n (fun z=>nomatch z),fun b o e _=>?_,u.tups,u.frzs,u.tbls⟩
 by_cases f:b∈fs
 ·obtain ⟨sl,q⟩:=slot b o e f;exact ⟨_,q⟩
 ·obtain ⟨o',e'⟩:=k.any b o e f;exact ⟨o',st b o' e'⟩
theorem HOk.flown (ok:HOk P w H' h') (k:Kept B fs H h H' h') (st:∀b o,B.get? b=some o->h2.get? b=some o):HOk P w H' h2:=fun a o e=>by
 refine (ok a o e).stay (fun b u hb q=>st b u (k.trk b u ?_ q)) (fun _ q=>q) fun _ _ q=>q
 rcases hb with z | z
 ·rw [z,e];intro y;cases y
 ·rw [z];intro y;cases y
end
variable {σ:St} {a:Addr} {cls:Value} {dx:Option Addr} {W:Value->Option Addr->St->Hp->Prop} {pins':List (Addr×Obj)} {D:Ends} {oe:Obj} {i:Nat} {b:Bool} {ts:Addr->Value->Option Addr->TS} {tr:TH}
section
variable {X:Cx} {pins:List (Addr×Obj)} {s':Shared}
def Air (X:Cx) (pins:List (Addr×Obj)) (σ:St) (H':Hp) (a:Addr) (cls:Value) (dx:Option Addr) (s:Shared):Prop:=∃(H:Hp) (s0:Shared) (B:Heap) (t:Addr),Inv X pins σ H s0/\s.os=s0.os/\AllBare s.gens/\Un s!"AB" [] H H' s0.heap s.heap/\HOk X.prog X.w H' s.heap/\
 zS B X.stack a cls s!">" dx .none s.heap/\Kept B s!"AB" H s0.heap H' s.heap/\H' a=none
theorem Air.inv (x:Air X pins σ H a cls dx s):Inv X pins σ H s:=by
 obtain ⟨H0,s0,B,t,I,os,bare,un,hok,_⟩:=x;exact I.call' (ch:=[]) os un hok bare (fun b z=>nomatch z)
theorem Inv.frm (I:Inv X pins σ H s):∀b∈frs X.stack,H b=none/\∃o,s.heap.get? b=some o/\∀vs,o.data≠.fields vs:=fun b hb=>⟨I.stkFree b hb,(I.stack.mem hb).2⟩
theorem Air.moved {t:Addr} {H0:Hp} {s0:Shared} (I:Inv X pins σ H0 s0) (os:s.os=s0.os) (bare:AllBare s.gens) (un:Un s!"AB" [] H0 H s0.heap s.heap) (hok:HOk X.prog X.w H s.heap)
 (kp:Kept B s!"AB" H0 s0.heap H s.heap) (ha:H a=none) (fl:zS B X.stack a cls s!">" dx .none h2) (up:s.heap.UpToSlots h2):Air X pins σ H a cls dx { s with heap:=h2 }:=
 ⟨H0,s0,B,t,I,os,bare,un.flown I.frm kp fl.stays up,hok.flown kp fl.stays,fl,kp.fly hok fl.stays,ha⟩
def Cx.tried (X:Cx) (pins:List (Addr×Obj)) (W:Value->Option Addr->St->Hp->Prop):Cx:={ X with pn:=X.pn++pins,xe:=fun e s'=>∃(σ:St) (H:Hp) (s0:Shared),Inv X pins σ H s0/\CXE X.prog X.w X.stack H s0 (fun cls dx H2=>W cls dx σ H2) e s' }
theorem Inv.tried (I:Inv X pins σ H s) (W:Value->Option Addr->St->Hp->Prop):Inv s!"AW" [] σ H s:=
 ⟨⟨I.ok.mod,I.ok.kind,I.ok.glob,I.ok.blt,I.ok.above,I.ok.inj,I.ok.has,I.ok.cab,I.ok.hd,I.ok.frames,I.ok.stk,I.ok.exf,I.ok.bs,I.ok.bsz,I.ok.noex,I.ok.exfs,I.ok.funs,I.ok.frf⟩,
  I.os,I.bare,I.base,I.loc,I.cell,I.free,I.freeC,fun p hp=>I.pin p (by rw [List.append_nil] at hp;exact hp),I.hok,I.len⟩
theorem Inv.untried (I:Inv s!"AW" pins' σ H s):Inv X pins σ H s:=
 ⟨⟨I.ok.mod,I.ok.kind,I.ok.glob,I.ok.blt,I.ok.above,I.ok.inj,I.ok.has,I.ok.cab,I.ok.hd,I.ok.frames,I.ok.stk,I.ok.exf,I.ok.bs,I.ok.bsz,I.ok.noex,I.ok.exfs,I.ok.funs,I.ok.frf⟩,
  I.os,I.bare,I.base,I.loc,I.cell,I.free,I.freeC,fun p hp=>I.pin p (List.mem_append_left _ hp),I.hok,I.len⟩
theorem SP.untried {f:Flow} (h:SP s!"AW" [] D f s'):SP X pins D f s':=by
 cases f with
 | next=>obtain ⟨σ',H',I,q⟩:=h;exact ⟨σ',H',I.untried,q⟩
 | brk=>obtain ⟨σ',H',I,q⟩:=h;exact ⟨σ',H',I.untried,q⟩
 | cont=>obtain ⟨σ',H',I,q⟩:=h;exact ⟨σ',H',I.untried,q⟩
 | ret u=>obtain ⟨v,σ',H',I,r,q⟩:=h;exact ⟨v,σ',H',I.untried,r,q⟩
theorem zd4:XPass s!"AW" W:=⟨fun _ σ H s _ _ I c=>⟨σ,H,s,I.untried,c⟩⟩
def Cx.inH (X:Cx) (pins:List (Addr×Obj)) (a:Addr) (oe:Obj):Cx:={ X with A:=X.A.mark s!"FD",calm:=false,xe:=fun _ _=>False,pn:=X.pn++pins++[(a,oe)] }
theorem Inv.inH {oe:Obj} (I:Inv X pins σ H s) (e:s.heap.get? a=some oe) (n:H a=none) (nl:a≠X.env.locals) (nf:a∉X.fs) (nc:∀v,oe.data≠.cell v) (fr:(X.A.mark s!"FD").frames=some X.stack):Inv s!"B=" [] σ H s:=
 ⟨⟨I.ok.mod,I.ok.kind,I.ok.glob,I.ok.blt,I.ok.above,I.ok.inj,I.ok.has,I.ok.cab,(fun z=>nomatch z),fr,I.ok.stk,I.ok.exf,I.ok.bs,I.ok.bsz,I.ok.noex,I.ok.exfs,I.ok.funs,I.ok.frf⟩,
  I.os,I.bare,I.base,I.loc,I.cell,I.free,I.freeC,fun p hp=>by
   rw [List.append_nil] at hp;rcases List.mem_append.mp hp with z | z
   ·exact I.pin p z
   ·rw [List.mem_singleton] at z;subst z;exact ⟨e,n,nl,nf,nc⟩,I.hok,I.len⟩
theorem Inv.unH (ok:X.Ok) (I:Inv s!"B=" pins' σ H s):Inv X pins σ H s:=
 ⟨ok,I.os,I.bare,I.base,I.loc,I.cell,I.free,I.freeC,fun p hp=>I.pin p s!"EPHv",I.hok,I.len⟩
theorem zcJ {n:Str} {pos:Pos} (I:Inv X pins σ H s) (hN:X.N.Nodup) (hi:X.N[i]? =some n) (hk:X.env.scope.names.lookup n=some .local)
 (h:∀s',Inv X pins (σ.set i none) H s'->Q () s'):wpAny M A (do bindName X.env n .none;unbindBehindTheSuite X.env n pos) Q E s:=by
 obtain ⟨m,hn,hl⟩:=id I.loc;have iσ:i<σ.length:=by rw [I.len];exact s!"C[".1
 refine wpAny_nameGoes_keeps hk hn (by rw [I.ok.kind];rfl) fun h' v hn' hs=>?_
 have nl:∀b o,X.s₀.heap.get? b=some o->b≠X.env.locals:=fun b o e=>Nat.ne_of_lt s!"D0"
 refine h _ ⟨I.ok,I.os,I.bare,⟨fun b o e n' hb hx=>(hs.2 b (nl b o e)).trans (I.base.keep b o e n' hb hx),fun b o e n' hb hx=>?_,I.base.free,fun b o e hx=>?_,I.base.tups,I.base.frzs,I.base.tbls⟩,
  ⟨_,hn',fun j y v' e1 e2 e3=>?_⟩,fun y c e=>?_,I.free,I.freeC,fun p hp=>?_,fun b ob e=>?_,by simpa using I.len⟩
 ·obtain ⟨sl,q⟩:=I.base.slot b o e n' hb hx;exact ⟨sl,(hs.2 b (nl b o e)).trans q⟩
 ·obtain ⟨o',q⟩:=I.base.there b o e hx;exact ⟨o',(hs.2 b (nl b o e)).trans q⟩
 ·by_cases hj:j=i
  ·subst hj;rw [List.getElem?_set_self iσ] at e2;cases e2
  ·rw [List.getElem?_set_ne s!"F4"] at e2;obtain ⟨u',r',q⟩:=hl j y v' e1 e2 e3;refine ⟨u',r',?_⟩;rcases q with ⟨k,e⟩ | ⟨k,c,e,z⟩
   ·refine .inl ⟨k,?_⟩;have ny:y≠n:=fun e=>hj (zcR hN e1 (e▸hi))
    show (if y=n then v else m y)=some u'
    rw [if_neg ny];exact e
   ·exact .inr ⟨k,c,e,z.sameBut hs (I.cne y c e)⟩
 ·obtain ⟨w',z⟩:=I.cell y c e;exact ⟨w',z.sameBut hs (I.cne y c e)⟩
 ·obtain ⟨e,n',ne,nf,d⟩:=I.pin p hp;exact ⟨(hs.2 p.1 ne).trans e,n',ne,nf,d⟩
 ·refine (I.hok b ob e).stay (fun c w' hc q=>(hs.2 c ?_).trans q) (fun _ q=>q) fun _ _ q=>q
  intro z;subst z;rcases hc with z | z
  ·rw [<-z,I.free] at e;cases e
  ·rw [I.free] at z;cases z
theorem wI {Q:Bool->Shared->Prop} (Z:K.In s.heap) (he:s.heap.get? a=some oe) (hk:kitCls K oe.cls s!"s"=some b) (hb:subIn K s!"s" s!"AF"=some true) (h:Q b s):
 wpAny M A (excMatches s!"h" s!"s") Q E s:=by
 obtain ⟨hh,g,d,t,os⟩:=s;have L0:Looks M hh (typeOf s!"h") oe.cls:=(Looks.ld he).andThen .now;obtain ⟨L1,L3,L5⟩:=kit_cls (M:=M) Z hk;have L2:Looks M hh (isSubtype s!"A(" s!"F,") false:=looks_subIn (K:=K) Z (show (fastBuiltinMro "type").map (·.contains s!"F,")=some false by decide+kernel)
 have L4:=looks_subIn (M:=M) Z hb;unfold excMatches isExcClass isInstance
 repeat (first | (with_reducible refine L0.at ?_) | (with_reducible refine L1.at ?_) | (with_reducible refine L2.at ?_) | (with_reducible refine L3.at ?_) | (with_reducible refine L4.at ?_) | (with_reducible refine L5.at ?_) | walk_at "wp")
 cases b <;> (repeat walk_at "wp") <;> exact h
abbrev TH:=Value->Option Addr->Addr->TS
def XOb (oe:Obj) (dx:Option Addr):Prop:=∃vs,oe.data=.fields vs/\XD oe vs dx
def PH (X:Cx) (hs:List ExceptHandler) (th:TH):Prop:=∀(pins:List (Addr×Obj)) (σ:St) (H:Hp) (s:Shared) (a:Addr) (cls:Value) (dx:Option Addr) (D:Ends),Air X pins σ H a cls dx s->th cls dx a D σ H->
 wpAny s!"t" X.A (handleBy s!"h" X.env hs) s!"F5" X.xe s
def zr5:TH:=fun _ _ _ _ _ _=>False
theorem zqv:PH X [] zr5:=fun _ _ _ _ _ _ _ _ _ h=>h.elim
structure CatK (K:PySem.W.Frag) (C:Addr):Prop where
 be:subIn K s!"s" s!"AF"=some true
 me:kitCls K s!"s" s!"s"=some true
theorem CatK.of {t:Value} (Z:CatK K C) (h:kitOne K t s!"s"=some b):kitCls K t s!"s"=some b:=by
 unfold kitOne at h
 by_cases q:(t==.ref C)=true
 ·rw [if_pos q] at h;cases h;rw [beq_iff_eq.mp q];exact Z.me
 ·rw [if_neg q] at h;exact h
def zdA (i:Nat) (R:St->Hp->Prop) (σ:St) (H:Hp):Prop:=R (σ.set i none) H
def zg0 (K:PySem.W.Frag) (C:Addr) (i:Nat) (ts:Addr->Value->Option Addr->TS) (tr:TH):TH:=fun cls dx a D σ H=>∃b,kitOne K cls s!"s"=some b/\
 if b=true then zG i s!"h" σ H (ts a cls dx { nx:=zdA i D.nx,rt:=D.rt,bk:=zdA i D.bk,ct:=zdA i D.ct }) else tr cls dx a D σ H
theorem znz {x n:Str} {np pos:Pos} {C:Addr} {i:Nat} {b0:Stmt} {suite:List Stmt} {rest:List ExceptHandler} {ts:Addr->Value->Option Addr->TS} {tr:TH} (hg:Gl X x) (hm:X.mg x=some s!"s") (hb:CatK X.K C) (hN:X.N.Nodup) (hi:X.N[i]? =some n)
 (hk:X.env.scope.names.lookup n=some .local) (hs:∀(pins:List (Addr×Obj)) (a:Addr) (oe:Obj) (cls:Value) (dx:Option Addr),oe.cls=cls->XOb oe dx->PSs s!"B=" (b0::suite) (ts a cls dx)) (hr:PH X rest tr) (hd:(x==("__debug__":Str))=false:=by decide):
 PH X (.ExceptHandler s!"FE" s!"r{n}" (b0::suite) pos::rest) (zg0 X.K C i ts tr):=by
 intro pins σ H s a cls dx D air h;obtain ⟨b,hb1,h⟩:=h;have I:=air.inv;obtain ⟨H0,s0,B,t,I0,os,bare,un,hok,fl,kp,ha⟩:=id air;obtain ⟨oe,_,he,_,hc,_⟩:=fl.obj;refine wpAny_handleBy_cons (codeAny_handlers_test (Calls.Name_function_global I.ok.kind hg (Calls.loadGlobal_global (by rw [I.ok.glob];exact I.mod.glob.keeps I.bk) hm ?_) hd)) (by intro q;cases q)
 refine wI I.kIn he (by rw [hc];exact hb.of hb1) hb.be ?_
 cases b with
 | false=>exact hr pins σ H s a cls dx D air h
 | true=>
  refine codeAny_handlers_suite_as ?_;refine fl.lands fun h6 fl6 up6=>?_
  have air6:=Air.moved I0 os bare un hok kp ha fl6 up6;have I6:=air6.inv;obtain ⟨o6,v6,e6,d6,c6,x6⟩:=fl6.obj;have offS:a∉frs X.stack:=fun z=>by
   obtain ⟨_,o7,e7,nf⟩:=I6.frm a z;rw [e6] at e7;cases e7;exact nf v6 d6
  have nf:a∉X.fs:=fun z=>by
   rcases I6.ok.stk with y | ⟨y,_⟩
   ·exact offS (by rw [y];exact z)
   ·obtain ⟨en,m1,m2⟩:=List.mem_filterMap.mp z;exact offS (by rw [y];exact List.mem_filterMap.mpr ⟨en,List.mem_cons_of_mem _ m1,m2⟩)
  have nl:a≠X.env.locals:=fun z=>by
   obtain ⟨m,⟨o7,es7,ep7,e7,dd7,_⟩,_⟩:=I6.loc;rw [<-z,e6] at e7;cases e7;rw [d6] at dd7;cases dd7
  have I6H:=I6.inH (oe:=o6) e6 ha nl nf (fun v z=>by rw [d6] at z;cases z) I6.ok.frames
  refine ym (X:=X.inH pins a o6) (v:=.ref a) I6H hN hi s!"${hk}" rfl (fun s7 I7=>?_) s!"u{hk}"
  have q:ts a cls dx { nx:=zdA i D.nx,rt:=D.rt,bk:=zdA i D.bk,ct:=zdA i D.ct } (σ.set i s!"FD") H:=h;refine wpAny_mono (hs pins a o6 cls dx c6 ⟨v6,d6,x6⟩ [] s7 _ H _ I7 q) (fun f s8 sp=>?_) (fun _ _ z=>z.elim)
  cases f with
  | next=>obtain ⟨σ8,H8,I8,q8⟩:=sp;exact zcJ s!"Eq" hN hi hk fun s9 I9=>⟨_,H8,I9,q8⟩
  | brk=>obtain ⟨σ8,H8,I8,q8⟩:=sp;exact zcJ s!"Eq" hN hi hk fun s9 I9=>⟨_,H8,I9,q8⟩
  | cont=>obtain ⟨σ8,H8,I8,q8⟩:=sp;exact zcJ s!"Eq" hN hi hk fun s9 I9=>⟨_,H8,I9,q8⟩
  | ret u=>obtain ⟨v8,σ8,H8,I8,r8,q8⟩:=sp;exact zcJ s!"Eq" hN hi hk fun s9 I9=>⟨v8,_,H8,I9,r8,q8⟩
def zr6 (tb:(Value->Option Addr->St->Hp->Prop)->TS) (th:TH):TS:=fun D σ H=>∃W:Value->Option Addr->St->Hp->Prop,tb W D σ H/\∀cls dx a σ' H',W cls dx σ' H'->th cls dx a D σ' H'
theorem zkL {body:List Stmt} {h0:ExceptHandler} {hs:List ExceptHandler} {pos:Pos} {tb:(Value->Option Addr->St->Hp->Prop)->TS} {th:TH} (hst:X.stack=X.env::X.outer) (hf:X.env.frame=some X.env.locals)
 (hb:∀(pins:List (Addr×Obj)) (W:Value->Option Addr->St->Hp->Prop),PSs s!"AW" body (tb W)) (hh:PH X (h0::hs) th):PS X (.Try body (h0::hs) [] [] pos) (zr6 tb th):=by
 intro pins s σ H D I h;obtain ⟨W,hq,hW⟩:=h;refine wpAny_Try_except (wpAny_mono (hb pins W [] s σ H D (I.tried W) hq) (fun f s1 q=>?_) fun e s1 c=>?_)
 ·have q':=SP.untried q;cases f with
  | next=>exact wpAny_execs_nil q'
  | brk=>exact q'
  | cont=>exact q'
  | ret u=>exact q'
 ·obtain ⟨σ1,H1,s0,I1,a,t,cls,dx,H2,B,rfl,w1,os,bare,un,hok,fl,kp,ha⟩:=c;refine zS.looks (outer:=X.outer) (L:=X.env.locals) (by rw [I1.ok.frames,hst]) hf (by rw [<-hst];exact fl) fun h4 held up4=>?_
  refine held.lands fun h5 fl5 up5=>?_
  rw [<-hst] at fl5;exact hh pins σ1 H2 _ a cls dx D (Air.moved (s:=s1) I1 os bare un hok kp ha fl5 (up4.trans up5)) (hW cls dx a σ1 H2 w1)
theorem zkM {tb:(Value->Option Addr->St->Hp->Prop)->TS} {th:TH} (W:Value->Option Addr->St->Hp->Prop) (h1:tb W D σ H) (h2:∀cls dx a σ' H',W cls dx σ' H'->th cls dx a D σ' H'):zr6 tb th D σ H:=⟨W,h1,h2⟩
theorem zg0.Qy (hb:kitOne K cls s!"s"=some true)
 (h:zG i s!"h" σ H (ts a cls dx { nx:=zdA i D.nx,rt:=D.rt,bk:=zdA i D.bk,ct:=zdA i D.ct })):zg0 K C i ts tr cls dx a D σ H:=⟨true,hb,h⟩
theorem zg0.Qz (hb:kitOne K cls s!"s"=some false) (h:tr cls dx a D σ H):zg0 K C i ts tr cls dx a D σ H:=⟨false,hb,h⟩
structure CK (K:PySem.W.Frag) (mg:Str->Option Value) (base:Heap) (x:Str):Type where
 addr:Addr
 gl:mg x=some s!"Er"
 own:OwnCls x addr [.type "ValueError",.type "Exception",.type "BaseException",.type "object"] "ValueError.__new__" mg base
 exc:ExcK K addr
 cat:CatK K addr
theorem zfX {bm:List Value} {n:String} (q:excIn K C bm n=true):s!"CK".isSome=true:=by
 unfold excIn at q;split at q
 ·rename_i look;unfold clsIn;rw [look];rfl
 ·cases q
def zr7 {K:PySem.W.Frag} {mg:Str->Option Value} {base:Heap} {x:Str} {C:Addr} (X:K.In base) (hm:mg x=some s!"s") (e:excIn K C [.type "ValueError",.type "Exception",.type "BaseException",.type "object"] "ValueError.__new__"=true)
 (ga:findIn K s!"s" "__getattribute__"=some s!"Ep") (hk:findIn K s!"s" "__getattr__"=some none) (fc:findIn K s!"s" "__class__"=some s!"D$")
 (ob:mroIn K C s!"Cv"=some true) (be:mroIn K C s!"AF"=some true) (me:mroIn K C s!"s"=some true) (ty:typeIn K s!"s"=some s!"A("):CK K mg base x:=
 ⟨C,hm,zqt X hm e,⟨zfX e,ga,hk,fc,ob,be⟩,⟨be,by
  show (if (s!"CK".isSome && typeIn K s!"s"==some s!"A(")=true then subIn K s!"s" s!"s" else none)=some true
  rw [zfX e,ty];exact me⟩⟩
theorem zdA.Qa {a0 a1 a2 a3 a4:Option V} {r:St} {R:St->Hp->Prop} (h:R (a0::a1::a2::a3::none::r) H):zdA 4 R (a0::a1::a2::a3::a4::r) H:=h
end
end L2
namespace L2
open PySem PySem.Spec PyProof.Rows
variable {X:Cx} {tg:Expr}
variable {σ:St} {H:Hp} {D:Ends} {K:PySem.W.Frag}
def zr8 (K:PySem.W.Frag):List V->Hp->VK->Prop:=fun xs H Q=>∃(p:Addr) (bs:List Bool),xs=[.ref p]/\SqL K H p (bs.map V.bl)/\Q s!"/{bs.all id}" H
theorem zd5:∀(bs:List Bool),s!"A/{bs.length}".all (fun i=>(bs[i]?).getD false)=bs.all id
 | []=>rfl
 | b::r=>by
  rw [List.length_cons,List.range_succ_eq_map,List.all_cons,List.all_map,List.all_cons];have:=zd5 r;rw [<-this];rfl
theorem call_allB (hc:X.calm=true):zI X s!"B4{"all"}" (zr8 X.K):=by
 intro pins s σ H xs us Q I r h;obtain ⟨p,bs,e,hq,q⟩:=h;subst e;obtain ⟨u,rfl,ru⟩:=xt r;obtain rfl:u=Value.ref p:=ru;obtain ⟨its,rv,pl,hz⟩:=I.list hq;refine call_all_walk s!"FF";have hl:its.length=bs.length:=by have:=rv.length;rw [List.length_map] at this;omega
 have ne:p≠s.heap.objs.size:=by
  obtain ⟨o,_,e,_⟩:=pl;exact Nat.ne_of_lt s!"AU"
 refine ⟨s.heap.objs.size,_,_,_,_,_,fun i=>(bs[i]?).getD false,rfl,Walks.list (A:=X.A.in1) (show X.A.in1.handled=none from I.ok.hd hc) _ p ne its.toArray,⟨⟨_,Heap.get?_push_size _ rfl,rfl,rfl⟩,?_⟩,?_,fun h' tk hk=>?_⟩
 ·obtain ⟨o,n,e,c,d,dd⟩:=pl;exact ⟨o,Heap.get?_push_of_some _ e,c,n,dd⟩
 ·intro i v s1 Q1 E1 hP hQ;rw [List.getElem?_toArray] at hP;have hi:i<bs.length:=by have:=s!"Es".1;omega
  obtain ⟨b,hb⟩:∃b,bs[i]? =some b:=⟨_,List.getElem?_eq_getElem hi⟩;obtain ⟨u,hu,ru⟩:=rv.get (i:=i) (x:=.bl b) (by rw [List.getElem?_map,hb];rfl)
  rw [hP] at hu;cases hu;obtain rfl:v=Value.bool b:=ru;refine wpAny_truthy_bool ?_;have hQ':Q1 ((bs[i]?).getD false) s1:=hQ;rw [hb] at hQ';exact hQ'
 ·have ea:s!"A/{its.toArray.size}".all (fun i=>(bs[i]?).getD false)=bs.all id:=by
   rw [List.size_toArray,hl];exact zd5 bs
  rw [ea];refine ⟨.bl (bs.all id),H,I.kept (h':=h') (t':=tk) fun b o e=>hk b o ?_ s!"A#",rfl,q⟩
  intro z;have z':b=s.heap.objs.size:=by simpa using z
  exact absurd (z'▸Heap.lt_size e) s!"AT"
def zsX (env:Env) (scope:Scope) (C:Addr):Env:={ newEnv scope C env.globals [] env.qual none .none s!"r{env}" builtinsNs with scope:=scope }
def Cx.block (X:Cx) (pins:List (Addr×Obj)) (scope:Scope) (x:Str) (ex:List Addr) (s:Shared) (H:Hp):Cx:=
 { X with N:=[x],s₀:=s,H₀:=H,env:=zsX X.env scope s.heap.objs.size,outer:=X.stack,stack:=X.stack,ex:=ex,fn:=fun _=>false,pn:=X.pn++pins,xe:=fun _ _=>False }
def zhO (wi:TI) (te:TE):TE:=fun σ H Q=>wi σ H fun J H1=>∀D,H1 D=none->∃W:Nat->Nat->List V->Hp->Prop,(∃m,W 0 m [] (upd H1 D s!"q{[]}"))/\∀i m ys H,W i m ys H->H D=some s!"Az"/\
 ((J.stop i H/\Q s!"%" H)\/(J.go i H/\ys.length<sizeLine/\∀x H',J.yld i H x H'->te [some x] H' fun y H2=>H2 D=some s!"Az"/\∃m',m'<m/\W (i+1) m' (ys++[y]) (upd H2 D s!"q{(ys++[y])}")))
theorem zeZ:∀(ns ms:List Int),(s!"A/{min ns.length ms.length}".all (fun j=>decide (ns[j]? =ms[j]?)) && (ns.length==ms.length))=decide (ns=ms):=fun ns ms=>by
 by_cases h:ns=ms
 ·subst h;simp
 ·rw [decide_eq_false h]
  by_cases hl:ns.length=ms.length
  ·rw [Bool.and_eq_false_iff];apply Or.inl;rw [Bool.eq_false_iff];intro z;apply h;apply List.ext_getElem?;intro j;rw [List.all_eq_true] at z
   by_cases hj:j<ns.length
   ·exact of_decide_eq_true (z j (List.mem_range.mpr s!"a"))
   ·rw [List.getElem?_eq_none s!"a",List.getElem?_eq_none s!"a"]
  ·rw [Bool.and_eq_false_iff];right;simpa using hl
def zr9 (K:PySem.W.Frag):R2:=fun x y H Q=>∃(a b:Addr) (ns ms:List Int),x=.ref a/\y=.ref b/\SqT K H a s!"Ao"/\SqT K H b s!"D,"/\Q s!"/{(decide (ns=ms))}" H
def zsa (K:PySem.W.Frag):R2:=fun x y H Q=>∃(a b:Addr) (ns ms:List Int),x=.ref a/\y=.ref b/\SqL K H a s!"Ao"/\SqL K H b s!"D,"/\Q s!"/{(decide (ns=ms))}" H
variable {s:Shared} {A:Around} {ns ms:List Int} {us vs:List Value}
theorem zbT (r1:zi s!"Ao" us) (r2:zi s!"D," vs) (j:Nat) (h1:j<us.toArray.size) (h2:j<vs.toArray.size):
 SeqAt.EqAt A s us.toArray[j] vs.toArray[j] (decide (ns[j]? =ms[j]?)):=by
 have l1:=r1.length;have l2:=r2.length;rw [List.length_map] at l1 l2;rw [List.size_toArray] at h1 h2;obtain ⟨n,hn⟩:∃n,ns[j]? =some n:=⟨_,List.getElem?_eq_getElem s!"a"⟩
 obtain ⟨m,hm⟩:∃m,ms[j]? =some m:=⟨_,List.getElem?_eq_getElem s!"a"⟩
 obtain ⟨u,hu,ru⟩:=r1.get (i:=j) (x:=.int n) (by rw [List.getElem?_map,hn];rfl)
 obtain ⟨v,hv,rv⟩:=r2.get (i:=j) (x:=.int m) (by rw [List.getElem?_map,hm];rfl)
 have eu:us.toArray[j]=u:=by
  have:=List.getElem?_eq_some_iff.mp hu;simpa using this.2
 have ev:vs.toArray[j]=v:=by
  have:=List.getElem?_eq_some_iff.mp hv;simpa using this.2
 have e0:decide (ns[j]? =ms[j]?)=eqV s!"C2" s!"C3":=by
  rw [hn,hm];show _=(n==m)
  by_cases e:n=m
  ·subst e;simp
  ·simp [e]
 rw [eu,ev,e0];exact eqAt_V ru rv rfl rfl
theorem zqw (hu:X.A.units<cLine):OpR X s!"CE" (zr9 X.K):=by
 intro pins s σ H x y v u Q I rx ry h;obtain ⟨a,b,ns,ms,e1,e2,h1,h2,q⟩:=h;subst e1 e2;cases rx;cases ry;obtain ⟨us,r1,t1,_⟩:=I.tuple h1;obtain ⟨vs,r2,t2,_⟩:=I.tuple h2;refine SeqAt.eq_tupleAt t1 t2 hu (fun j h1 h2=>zbT r1 r2 j h1 h2) ⟨.bl (decide (ns=ms)),H,I,?_,q⟩
 have l1:=r1.length;have l2:=r2.length;rw [List.length_map] at l1 l2;show Value.bool _=Value.bool _;rw [List.size_toArray,List.size_toArray,<-l1,<-l2,zeZ]
theorem zqx (hu:X.A.units<cLine):OpR X s!"CE" (zsa X.K):=by
 intro pins s σ H x y v u Q I rx ry h;obtain ⟨a,b,ns,ms,e1,e2,h1,h2,q⟩:=h;subst e1 e2;cases rx;cases ry;obtain ⟨us,r1,t1,_⟩:=I.list h1;obtain ⟨vs,r2,t2,_⟩:=I.list h2;have l1:=r1.length;have l2:=r2.length;rw [List.length_map] at l1 l2
 by_cases hl:ns.length=ms.length
 ·refine SeqAt.eq_listAt t1.isList t2.isList (by simp;omega) hu (fun j h1 h2=>zbT r1 r2 j h1 h2) ⟨.bl (decide (ns=ms)),H,I,?_,q⟩
  show Value.bool _=Value.bool _;have z:=zeZ ns ms;rw [show (ns.length==ms.length)=true from by simpa using hl,Bool.and_true,<-hl,Nat.min_self] at z
  rw [List.size_toArray,<-l1,z]
 ·refine SeqAt.eq_list_lengthsAt t1.isList t2.isList (by simp;omega) hu ⟨.bl (decide (ns=ms)),H,I,?_,q⟩
  show Value.bool _=Value.bool _;rw [decide_eq_false (fun e=>hl (by rw [e]))]
def zkO (K:PySem.W.Frag):R2:=fun x y H Q=>rEq x y H Q\/zr9 K x y H Q\/zsa K x y H Q
theorem op_eqA (hu:X.A.units<cLine):OpR X s!"CE" (zkO X.K):=zrn.or ((zqw hu).or (zqx hu))
theorem PI.or {tg l:Expr} {w1 w2:TI} (h:PI X tg l w1) (h':PI X tg l w2):PI X tg l (fun σ H R=>w1 σ H R\/w2 σ H R):=fun pins s σ H R I q=>q.elim (h pins s σ H R I) (h' pins s σ H R I)
theorem yZ:XPass X WN:=
 ⟨fun _ _ _ _ _ _ _ h=>by
  obtain ⟨_,_,_,_,_,_,_,z,_⟩:=h;exact z.elim⟩
variable {Q:VK} {tl te:TE} {j i:Int} {w1:TI} {a p:Addr} {xs:List V}
theorem zkO.Qa (h:Q s!"/{(decide (i=j))}" H):zkO K s!"]" s!"A7" H Q:=.inl (rEq.Qh h)
theorem zkO.Qh {i j:Str} (h:Q s!"/{(decide (i=j))}" H):zkO K s!"A`" s!"BT" H Q:=.inl (rEq.Qa h)
def zg1 (K:PySem.W.Frag) (te:TE) (v:V) (H1:Hp) (Q:VK):Prop:=∃a,v=.ref a/\(∃xs,SqT K H1 a xs)/\∀D,H1 D=none->∃W:Nat->Nat->List V->Hp->Prop,(∃m,W 0 m [] (upd H1 D s!"q{[]}"))/\∀i m ys H,W i m ys H->H D=some s!"Az"/\
 ((s!"AD".stop i H/\Q s!"%" H)\/(s!"AD".go i H/\ys.length<sizeLine/\∀x H',s!"AD".yld i H x H'->te [some x] H' fun y H2=>H2 D=some s!"Az"/\∃m',m'<m/\W (i+1) m' (ys++[y]) (upd H2 D s!"q{(ys++[y])}")))
theorem zcZ (h:tl σ H fun x H1=>zg1 K te x H1 Q):zhO (fun σ H R=>w1 σ H R\/zjW K tl σ H R) te σ H Q:=.inr h
theorem ziO (g:V->V) (h1:SqT K H a xs) (hz:xs.length<=1000) (he:∀x H' (Q':VK),x∈xs->Q' (g x) H'->te [some x] H' Q') (h:∀D H',Same H H'->H D=none->H' D=some s!"H?"->Q s!"%" H'):zg1 K te s!"h" H Q:=by
 refine ⟨a,rfl,⟨xs,h1⟩,fun D hD=>⟨fun i m ys H'=>m=xs.length-i/\i<=xs.length/\ys=s!"Et".map g/\Same H H'/\H' D=some s!"Az",⟨xs.length,by simp,Nat.zero_le _,by simp,Same.new hD _,zb⟩,?_⟩⟩
 rintro i m ys H' ⟨rfl,hi,rfl,hs,eD⟩;refine ⟨eD,?_⟩;have q:=hs.tup h1
 by_cases hlt:i<xs.length
 ·refine .inr ⟨⟨xs,xs[i],q,by simp [hlt]⟩,?_,fun x H2 y=>?_⟩
  ·rw [List.length_map,List.length_take];exact zf s!"a"
  ·obtain ⟨e,y⟩:=y;subst e;have hx:=y xs q;refine he x _ _ s!"B3{hx}" ⟨eD,xs.length-(i+1),by omega,rfl,hlt,?_,hs.upd hD,zb⟩
   rw [List.take_add_one,hx,List.map_append];rfl
 ·have e:i=xs.length:=by omega
  subst e;refine .inl ⟨⟨xs,q,Nat.le_refl _⟩,h D H' hs hD ?_⟩;rw [List.take_length] at eD;exact eD
theorem znD {xs:List V} (h1:H p=some s!"q{(xs.map fun _=>V.bl true)}") (h:Q s!"Bs" H):zr8 K [.ref p] H Q:=by
 refine ⟨p,xs.map fun _=>true,rfl,SqL.of (by rw [List.map_map];exact h1),?_⟩
 have e:(xs.map fun _=>true).all id=true:=by
  rw [List.all_map];simp
 rw [e];exact h
def zsb (K:PySem.W.Frag):R2:=fun x y H Q=>∃(a b:Addr) (ns ms:List Int),x=.ref a/\y=.ref b/\SqT K H a s!"Ao"/\SqT K H b s!"D,"/\Q s!"/{(!decide (ns=ms))}" H
theorem zqy (hu:X.A.units<cLine):OpR X s!"Ee" (zsb X.K):=by
 intro pins s σ H x y v u Q I rx ry h;obtain ⟨a,b,ns,ms,e1,e2,h1,h2,q⟩:=h;subst e1 e2;cases rx;cases ry;obtain ⟨us,r1,t1,_⟩:=I.tuple h1;obtain ⟨vs,r2,t2,_⟩:=I.tuple h2;refine SeqAt.RcNeAt.tuples t1 t2 hu (fun j h1 h2=>zbT r1 r2 j h1 h2) _ _ _ _ ⟨.bl (!decide (ns=ms)),H,I,?_,q⟩
 have l1:=r1.length;have l2:=r2.length;rw [List.length_map] at l1 l2;show Value.bool _=Value.bool _;rw [List.size_toArray,List.size_toArray,<-l1,<-l2,zeZ]
def zqz (K:PySem.W.Frag):R2:=fun x y H Q=>rNe x y H Q\/zsb K x y H Q
theorem op_neA (hu:X.A.units<cLine):OpR X s!"Ee" (zqz X.K):=zoO.or (zqy hu)
variable {v:V} {w2:TI}
theorem zqz.Qa (h:rNe s!"]" s!"A7" H Q):zqz K s!"]" s!"A7" H Q:=.inl h
theorem zrh.Qa {to ti:TE} {t:zmx} {R:St->Hp->Prop} (h:to σ H fun o H1=>ti σ H1 fun i H2=>t o i v H2 fun H3=>R σ H3):zrh to ti t v σ H R:=h
theorem znG {k:Int} {j:Nat} {R:Hp->Prop} (h:H p=some s!"Ae") (hj:ixN xs.length k=some j) (q:R s!"F="):zoQ s!")" s!"Bx" v H R:=⟨p,xs,k,j,rfl,rfl,h,hj,q⟩
def zkP (K:PySem.W.Frag) (te:TE) (v:V) (H1:Hp) (Q:VK):Prop:=∃a,v=.ref a/\(∃xs,SqL K H1 a xs)/\∀D,H1 D=none->∃W:Nat->Nat->List V->Hp->Prop,(∃m,W 0 m [] (upd H1 D s!"q{[]}"))/\∀i m ys H,W i m ys H->H D=some s!"Az"/\
 ((s!"AC".stop i H/\Q s!"%" H)\/(s!"AC".go i H/\ys.length<sizeLine/\∀x H',s!"AC".yld i H x H'->te [some x] H' fun y H2=>H2 D=some s!"Az"/\∃m',m'<m/\W (i+1) m' (ys++[y]) (upd H2 D s!"q{(ys++[y])}")))
theorem wJ (h:tl σ H fun x H1=>zkP K te x H1 Q):zhO (fun σ H R=>zfS K tl σ H R\/w2 σ H R) te σ H Q:=.inl h
theorem xK {xs:List V} (ys:List V) (h1:SqL K H a xs) (hlen:ys.length=xs.length) (hz:xs.length<=1000) (he:∀(i:Nat) x y H' (Q':VK),xs[i]? =some x->ys[i]? =some y->Same H H'->(∀H2,Same H' H2->Q' y H2)->te [some x] H' Q') (h:∀D H',Same H H'->H D=none->H' D=some s!"Az"->Q s!"%" H'):zkP K te s!"h" H Q:=by
 refine ⟨a,rfl,⟨xs,h1⟩,fun D hD=>⟨fun i m zs H'=>m=xs.length-i/\i<=xs.length/\zs=ys.take i/\Same H H'/\H' D=some s!"A!",⟨xs.length,by simp,Nat.zero_le _,by simp,Same.new hD _,zb⟩,?_⟩⟩
 rintro i m zs H' ⟨rfl,hi,rfl,hs,eD⟩;refine ⟨eD,?_⟩;have q:=hs.seq h1
 by_cases hlt:i<xs.length
 ·refine .inr ⟨⟨xs,xs[i],q,by simp [hlt]⟩,?_,fun x H2 y=>?_⟩
  ·rw [List.length_take];exact zf s!"a"
  ·obtain ⟨e,y⟩:=y;subst e;have hx:=y xs q;obtain ⟨z,hz'⟩:∃z,ys[i]? =some z:=⟨_,List.getElem?_eq_getElem s!"a"⟩
   refine he i x z _ _ hx hz' hs fun H2 s2=>⟨s2.obj eD,xs.length-(i+1),by omega,rfl,hlt,?_,s!"BU".upd hD,zb⟩
   rw [List.take_add_one,hz'];rfl
 ·have e:i=xs.length:=by omega
  subst e;refine .inl ⟨⟨xs,q,Nat.le_refl _⟩,h D H' hs hD ?_⟩;rw [<-hlen,List.take_length] at eD;exact eD
variable {pins:List (Addr×Obj)} {h' h:Heap} {scope:Scope} {x:Str} {ex:List Addr} {ys:List Str} {cl:List (Str×Addr)} {c:Addr}
theorem zbU {env:Env} (f:Str×NameKind->List (Str×Addr)->Sem (ForInStep (List (Str×Addr)))) (hf:∀n k r,f (n,k) r=if k==.free then (do let a <-cellOf env n;pure (.yield ((n,a)::r))) else pure (.yield r)):
 ∀(names:List (Str×NameKind)) (acc:List (Str×Addr)),(∀y∈names,y.2=.free->∃c,env.cells.lookup y.1=some c)->(∀x c,acc.lookup x=some c->env.cells.lookup x=some c)->
 ∃cl,(forIn names acc f:Sem (List (Str×Addr)))=pure cl/\(∀x c,cl.lookup x=some c->env.cells.lookup x=some c)/\(∀y∈names,y.2=.free->∃c,cl.lookup y.1=some c)/\∀x c,acc.lookup x=some c->∃c,cl.lookup x=some c
 | [],acc,_,ha=>⟨acc,by rw [List.forIn_nil],ha,fun y hy=>by simp at hy,fun x c e=>⟨c,e⟩⟩
 | (n,k)::r,acc,hn,ha=>by
  have hr:∀y∈r,y.2=.free->∃c,env.cells.lookup y.1=some c:=fun y hy=>hn y s!"Eu"
  by_cases hk:k=.free
  ·subst hk;obtain ⟨c,hc⟩:=hn (n,.free) List.mem_cons_self rfl;obtain ⟨cl,e,h1,h2,h3⟩:=zbU f hf r ((n,c)::acc) hr (fun x c' e=>by
    rw [List.lookup_cons] at e;split at e
    ·rename_i hx;rw [eq_of_beq hx,hc];exact e
    ·exact ha x c' e)
   have hs:∃c',cl.lookup n=some c':=h3 n c (by simp [List.lookup_cons])
   refine ⟨cl,?_,h1,fun y hy e'=>?_,fun x c' e'=>?_⟩
   ·rw [List.forIn_cons,hf,if_pos (show (NameKind.free==NameKind.free)=true from by decide)]
    unfold cellOf;simp only [hc];exact e
   ·rcases List.mem_cons.mp hy with rfl | hy
    ·exact hs
    ·exact h2 y hy e'
   ·by_cases hx:x=n
    ·subst hx;exact hs
    ·refine h3 x c' ?_;rw [List.lookup_cons,beq_eq_false_iff_ne.mpr hx];exact e'
  ·obtain ⟨cl,e,h1,h2,h3⟩:=zbU f hf r acc hr ha;refine ⟨cl,?_,h1,fun y hy e'=>?_,h3⟩
   ·rw [List.forIn_cons,hf,if_neg (by simpa using hk)]
    exact e
   ·rcases List.mem_cons.mp hy with rfl | hy
    ·exact absurd e' hk
    ·exact h2 y hy e'
theorem yC {scope:Scope} {env:Env} (h:∀y∈scope.names,y.2=.free->∃c,env.cells.lookup y.1=some c):
 ∃cl,closureFor scope env=pure cl/\(∀x c,cl.lookup x=some c->env.cells.lookup x=some c)/\∀x,scope.names.lookup x=some .free->∃c,cl.lookup x=some c:=by
 obtain ⟨cl,e,h1,h2,_⟩:=zbU (env:=env) (fun y r=>match y with | (n,k)=>if k==.free then (do let a <-cellOf env n;pure (.yield ((n,a)::r))) else pure (.yield r)) (fun _ _ _=>rfl) scope.names [] h (fun x c e=>by cases e)
 refine ⟨cl,?_,h1,fun x hx=>h2 (x,.free) s!"ES{hx}" rfl⟩
 unfold closureFor;rw [<-bind_pure (forIn scope.names [] _)] at e;refine Eq.trans ?_ e;congr 1
theorem zck (k:∀b o,h.get? b=some o->h'.get? b=some o) {v:Option Value} (z:h.IsCell c v):h'.IsCell c v:=by
 obtain ⟨o,e,d⟩:=z;exact ⟨o,k _ _ e,d⟩
theorem wK {env:Env} (x:Str):∀(names:List (Str×NameKind)),(names.map fun (n,k)=>if (k==NameKind.free && env.scope.kind==.function && env.kindOf n==some .cell) then (n,NameKind.cell) else (n,k)).lookup x=(names.lookup x).map fun k=>if (k==NameKind.free && env.scope.kind==.function && env.kindOf x==some .cell) then NameKind.cell else k
 | []=>rfl
 | (n,k)::r=>by
  have ih:=wK (env:=env) x r;rw [List.map_cons];show List.lookup x ((if (k==NameKind.free && env.scope.kind==.function && env.kindOf n==some .cell)=true then (n,NameKind.cell) else (n,k))::_)=_
  cases hx:x==n with
  | true=>
   have e:x=n:=eq_of_beq hx;subst e
   by_cases hc:(k==NameKind.free && env.scope.kind==.function && env.kindOf x==some .cell)=true
   ·rw [if_pos hc];simp only [List.lookup_cons,hx,Option.map_some];rw [if_pos hc]
   ·rw [if_neg hc];simp only [List.lookup_cons,hx,Option.map_some];rw [if_neg hc]
  | false=>
   by_cases hc:(k==NameKind.free && env.scope.kind==.function && env.kindOf n==some .cell)=true
   ·rw [if_pos hc];simp only [List.lookup_cons,hx];exact ih
   ·rw [if_neg hc];simp only [List.lookup_cons,hx];exact ih
theorem zbe {env:Env} {y:Str} (hcell:∀y∈scope.names,y.2≠.cell) (h:s!"FG".names.lookup y=some .cell\/s!"FG".names.lookup y=some .free):scope.names.lookup y=some .free:=by
 have e:s!"FG".names.lookup y=(scope.names.lookup y).map fun k=>if (k==NameKind.free && env.scope.kind==.function && env.kindOf y==some .cell) then NameKind.cell else k:=wK y scope.names
 rw [e] at h;cases hk:scope.names.lookup y with
 | none=>rw [hk] at h;rcases h with h | h <;> cases h
 | some k=>
  rw [hk] at h;have hm:=PySem.mem_of_lookup hk;have hn:k≠.cell:=hcell _ hm
  by_cases hf:k=.free
  ·rw [hf]
  ·exfalso;have hb:(k==NameKind.free)=false:=beq_eq_false_iff_ne.mpr hf;simp only [Option.map_some,hb,Bool.false_and,Bool.false_eq_true,if_false,Option.some.injEq] at h;exact h.elim hn hf
def zd6 (env:Env) (scope:Scope) (cl:List (Str×Addr)) (C:Addr):Env:={ newEnv scope C env.globals cl env.qual none .none s!"r{env}" builtinsNs with scope:=relabel scope env }
def Cx.blockF (X:Cx) (pins:List (Addr×Obj)) (scope:Scope) (x:Str) (ys:List Str) (cl:List (Str×Addr)) (ex:List Addr) (s:Shared) (H:Hp):Cx:=
 { X with N:=x::ys,s₀:=s,H₀:=H,env:=zd6 X.env scope cl s.heap.objs.size,outer:=X.stack,stack:=X.stack,ex:=ex,fn:=fun _=>false,pn:=X.pn++pins,xe:=fun _ _=>False }
def zP (fr:List Nat) (σ:St):St:=fr.map fun i=>(σ[i]?).getD none
def xX (te:TE) (vs:St) (J:It) (H1:Hp) (Q:VK):Prop:=∀D,H1 D=none->∃W:Nat->Nat->List V->Hp->Prop,(∃m,W 0 m [] (upd H1 D s!"q{[]}"))/\∀i m zs H,W i m zs H->H D=some s!"A!"/\
 ((J.stop i H/\Q s!"%" H)\/(J.go i H/\zs.length<sizeLine/\∀x H',J.yld i H x H'->te (some x::vs) H' fun y H2=>H2 D=some s!"A!"/\∃m',m'<m/\W (i+1) m' (zs++[y]) (upd H2 D s!"q{(zs++[y])}")))
def zbV (wi:TI) (fr:List Nat) (te:TE):TE:=fun σ H Q=>wi σ H fun J H1=>xX te (zP fr σ) J H1 Q
theorem xE:IxR s!"D-" (zeW X.K):=ix_A (X:=X.blockF pins scope x ys cl ex s H)
variable {n:Nat} {ta:TA} {fr:List Nat} {lo:Int}
theorem zkQ (vs:St) (e:zP fr σ=vs) (h:ta σ H fun ws H1=>zkl ws H1 fun J H2=>xX te vs J H2 Q):zbV (zjX ta) fr te σ H Q:=by subst e;exact h
theorem ziP (vs:St) (e:zP fr σ=vs) (h:ta σ H fun ws H1=>zoU ws H1 fun J H2=>xX te vs J H2 Q):zbV (zoN ta) fr te σ H Q:=by subst e;exact h
theorem ziQ {vs:St} (g:Int->V) (hz:n<=1000) (he:∀(i:Nat) (k:Int) H' (Q':VK),i<n->k=lo+i->Same H H'->(∀H2,Same H' H2->Q' (g k) H2)->te (some s!"Bx"::vs) H' Q')
 (h:∀D H',Same H H'->H D=none->H' D=some s!"q{(s!"A/{n}".map fun i=>g (lo+(i:Nat)))}"->Q s!"%" H'):xX te vs s!"CC" H Q:=by
 intro D hD;refine ⟨fun i m zs H'=>m=n-i/\i<=n/\zs=s!"A/{i}".map (fun i=>g (lo+(i:Nat)))/\Same H H'/\H' D=some s!"A!",⟨n,by simp,Nat.zero_le _,by simp,Same.new hD _,zb⟩,?_⟩
 rintro i m zs H' ⟨rfl,hi,rfl,hs,eD⟩;refine ⟨eD,?_⟩
 by_cases hlt:i<n
 ·refine .inr ⟨hlt,?_,fun x H2 y=>?_⟩
  ·rw [List.length_map,List.length_range];exact zf s!"a"
  ·obtain ⟨rfl,rfl⟩:=y;refine he i _ _ _ hlt rfl hs fun H2 s2=>⟨s2.obj eD,n-(i+1),by omega,rfl,hlt,?_,s!"BU".upd hD,zb⟩
   rw [List.range_succ,List.map_append];rfl
 ·have e:i=n:=by omega
  subst e;exact .inl ⟨Nat.le_refl _,h D H' hs hD eD⟩
structure CG (mg:Str->Option Value) (x:Str):Type where
 addr:Addr
 gl:mg x=some s!"Er"
def zg2 (tc:TT) (te:TE) (vs:St) (J:It) (H1:Hp) (Q:VK):Prop:=∀D,H1 D=none->∃W:Nat->Nat->List V->Hp->Prop,(∃m,W 0 m [] (upd H1 D s!"q{[]}"))/\∀i m zs H,W i m zs H->H D=some s!"A!"/\
 ((J.stop i H/\Q (.ref D) H)\/(J.go i H/\zs.length<sizeLine/\∀x H',J.yld i H x H'->tc (some x::vs) H' fun b H2=>match b with
   | true=>te (some x::vs) H2 fun y H3=>H3 D=some s!"A!"/\∃m',m'<m/\W (i+1) m' (zs++[y]) (upd H3 D s!"q{(zs++[y])}")
   | false=>∃m',m'<m/\W (i+1) m' zs H2))
def zhP (wi:TI) (fr:List Nat) (tc:TT) (te:TE):TE:=fun σ H Q=>wi σ H fun J H1=>zg2 tc te (zP fr σ) J H1 Q
theorem Inv.turnedL {t':Nat} {ch:List Addr} (I:Inv X pins σ H s) (k:∀b o,b∉ch->s.heap.get? b=some o->h'.get? b=some o) (hf:∀b∈ch,wC X pins H b):Inv X pins σ H { s with heap:=h',toks:=t' }:=by
 have nit:∀b u,H b=some u->b∉ch:=fun b u e z=>by rw [(hf b z).1] at e;cases e
 refine I.step (g':=s.gens) (d':=s.drawn) (ch:=ch) (fun b hb=>?_) (fun b o _ _ hc e _=>k b o hc e) (fun b o _ _ hc e _=>⟨o.slots,k b o hc e⟩) (fun _ _ _ _ n=>n)
  (fun b o hc e=>⟨o,k b o hc e⟩) (fun _ _ e=>e) (fun _ _ _ e=>e) (fun b ps e=>⟨#[],by rw [e];simp⟩) (fun m hm=>?_) (fun b u e=>?_) I.bare
 ·obtain ⟨f0,f1,f2,f3,f4,f5⟩:=hf b hb;exact ⟨f3,f1,f4,f5⟩
 ·obtain ⟨o,es,ep,ho,r⟩:=hm;exact ⟨o,es,ep,k _ o (fun z=>(hf _ z).2.1 rfl) ho,r⟩
 ·refine (I.hok b u e).stay (fun c v hc q=>k c v ?_ q) (fun _ q=>q) fun _ _ q=>q
  rcases hc with z | z
  ·rw [z];exact nit b u e
  ·exact nit c _ z
def Itz (K:PySem.W.Frag) (a b:Addr):It:=⟨fun i H=>∃xs ys x y,SqL K H a xs/\SqL K H b ys/\xs[i]? =some x/\ys[i]? =some y,
 fun i H v H'=>∃T,v=.ref T/\H T=none/\∀xs ys x y,SqL K H a xs->SqL K H b ys->xs[i]? =some x->ys[i]? =some y->H'=upd H T s!"0{[x,y]}",
 fun i H=>∃xs ys,SqL K H a xs/\SqL K H b ys/\(xs.length<=i\/ys.length<=i)⟩
variable {w:World}
theorem zkR {P:Program} {elts:List Expr} {kt:Nat} {tp:Pos} {z TI TO i1 i2 l1 l2:Addr} (D:ZipApart z TI TO i1 i2 l1 l2):
 Turn P w K s!"Ev" (Itz K l1 l2) [z,TI,TO,i1,i2] z (fun i h=>IsZip h z TI TO .none/\IsPair h TI s!"CL" s!"CM"/\(∃a b,IsPair h TO a b)/\h.IsListIter i1 l1 i/\h.IsListIter i2 l2 i) where
 mem:=by simp
 obj:=fun i h st b hb=>by
  obtain ⟨hz,hTI,⟨a,c,hTO⟩,⟨o1,e1,c1,d1⟩,⟨o2,e2,c2,d2⟩⟩:=st;have hb':b=z\/b=TI\/b=TO\/b=i1\/b=i2:=by simpa using hb
  rcases hb' with rfl | rfl | rfl | rfl | rfl
  ·exact ⟨_,hz,fun v y=>by have y':Data.fields _=Data.cell v:=y;cases y'⟩
  ·exact ⟨_,hTI,fun v y=>by have y':Data.seq _ _=Data.cell v:=y;cases y'⟩
  ·exact ⟨_,hTO,fun v y=>by have y':Data.seq _ _=Data.cell v:=y;cases y'⟩
  ·exact ⟨o1,e1,fun v y=>by rw [d1] at y;cases y⟩
  ·exact ⟨o2,e2,fun v y=>by rw [d2] at y;cases y⟩
 keep:=fun i h h' st k=>by
  obtain ⟨hz,hTI,⟨a,c,hTO⟩,h1,h2⟩:=st;exact ⟨k z s!"j" _ hz,k TI s!"j" _ hTI,⟨a,c,k TO s!"j" _ hTO⟩,h1.at fun o e=>k i1 s!"j" o e,h2.at fun o e=>k i2 s!"j" o e⟩
 item:=by
  intro X hP hw hK hc i pins s σ H E I hf st hg;subst hP hw hK;obtain ⟨xs,ys,x,y,q1,q2,hx,hy⟩:=hg;obtain ⟨us,r1,p1,z1⟩:=I.list q1;obtain ⟨vs,r2,p2,z2⟩:=I.list q2;obtain ⟨u,hu,ru⟩:=r1.get hx;obtain ⟨v,hv,rv⟩:=r2.get hy;obtain ⟨hz,hTI,⟨a,c,hTO⟩,h1,h2⟩:=st;refine wpAny_pyNext_zip_item D hz hTI hTO h1 h2 p1.isList p2.isList (x:=u) (y:=v) (by simpa using hu) (by simpa using hv) fun h' a1 a2 a3 a4 a5 a6 a7=>?_
  refine ⟨_,rfl,wpAny_letOwnedTupleGo_zip (s:={ s with heap:=h' }) a1 fun h2' b1 b2=>?_⟩
  have nT:H s.heap.objs.size=none:=I.hok.fresh s!",";have lt:∀b∈[z,TI,TO,i1,i2],b<s.heap.objs.size:=fun b hb=>by
   have hb':b=z\/b=TI\/b=TO\/b=i1\/b=i2:=by simpa using hb
   obtain ⟨o1,e1,_⟩:=id h1;obtain ⟨o2,e2,_⟩:=id h2;rcases hb' with rfl | rfl | rfl | rfl | rfl
   ·exact Heap.lt_size hz
   ·exact Heap.lt_size hTI
   ·exact Heap.lt_size hTO
   ·exact Heap.lt_size e1
   ·exact Heap.lt_size e2
  have I1:Inv X pins σ s!".BJ0{[x,y]}" { s with heap:=s.heap.push { cls:=.type "tuple",data:=.seq #[u,v] } }:=
   I.laid (t':=s.toks) (fun b o e=>Heap.get?_push_of_some _ e) s!"," ⟨by show 2<=sizeLine;decide,[u,v],.cons ru s!"C@{rv}",⟨_,Heap.get?_push_size _ rfl,rfl,_,rfl⟩⟩
  have f1:∀b∈[z,TI,TO,i1,i2],wC X pins s!".BJ0{[x,y]}" b:=fun b hb=>by
   obtain ⟨f0,r⟩:=hf b hb;exact ⟨by rw [zd s!"H@"];exact f0,r⟩
  have zT:s.heap.objs.size≠z:=Ne.symm s!"A2{lt z s!"j"}"
  have I2:Inv X pins σ s!".BJ0{[x,y]}" { s with heap:=h2' }:=by
   refine Inv.turnedL (s:={ s with heap:=s.heap.push { cls:=.type "tuple",data:=.seq #[u,v] } }) (h':=h2') (t':=s.toks) (ch:=[z,TI,TO,i1,i2]) I1 (fun b o hb e=>?_) f1
   have hb':b≠z/\b≠TI/\b≠TO/\b≠i1/\b≠i2:=by simpa using hb
   obtain ⟨n1,n2,n3,n4,n5⟩:=hb';rw [b2.2 b n1]
   by_cases hN:b=s.heap.objs.size
   ·subst hN;have e':(s.heap.push { cls:=.type "tuple",data:=.seq #[u,v] }).get? s.heap.objs.size=some _:=Heap.get?_push_size _ rfl;have e'':(s.heap.push { cls:=.type "tuple",data:=.seq #[u,v] }).get? s.heap.objs.size=some o:=e;rw [e'] at e'';cases e'';exact a5
   ·refine a7 b o n1 n3 n4 n5 ?_;have e'':(s.heap.push { cls:=.type "tuple",data:=.seq #[u,v] }).get? b=some o:=e;exact s!"H^".symm.trans e''
  refine ⟨.ref s.heap.objs.size,_,I2,rfl,⟨s.heap.objs.size,rfl,nT,fun xs' ys' x' y' w1 w2 w3 w4=>?_⟩,⟨b1,?_,⟨u,v,?_⟩,a3.at fun o e=>(b2.2 _ D.i1z).trans e,a4.at fun o e=>(b2.2 _ D.i2z).trans e⟩,fun b hb=>(f1 b hb).1⟩
  ·rw [I.list_inj w1 q1,hx] at w3;rw [I.list_inj w2 q2,hy] at w4;cases w3;cases w4;rfl
  ·exact (b2.2 _ D.TIz).trans (a7 TI _ D.TIz D.TITO D.TIi1 D.TIi2 hTI)
  ·exact (b2.2 _ D.TOz).trans a2
 done:=by
  intro X hP hw hK hc i pins s σ H E I hf st hg;subst hP hw hK;obtain ⟨xs,ys,q1,q2,hend⟩:=hg;obtain ⟨us,r1,p1,z1⟩:=I.list q1;obtain ⟨vs,r2,p2,z2⟩:=I.list q2;obtain ⟨hz,hTI,⟨a,c,hTO⟩,h1,h2⟩:=st;have l1:=r1.length;have l2:=r2.length;refine wpAny_pyNext_zip_end s!"A0" D hz hTI hTO h1 h2 p1.isList p2.isList ?_ fun h' kk=>⟨rfl,I.turnedL (t':=s.toks) (ch:=[z,TI,TO,i1,i2]) (fun b o hb e=>?_) hf⟩
  ·rcases hend with z | z
   ·exact .inl (by simp;omega)
   ·exact .inr (by simp;omega)
  ·have hb':b≠z/\b≠TI/\b≠TO/\b≠i1/\b≠i2:=by simpa using hb
   exact kk b o hb'.1 hb'.2.2.1 hb'.2.2.2.1 hb'.2.2.2.2 e
 self:=fun _ _ _ _ _ st h=>wpAny_pyIter_zip st.1 h
def zsc (K:PySem.W.Frag) (ta:TA):TI:=fun σ H R=>ta σ H fun vs H1=>∃a b,vs=[.ref a,.ref b]/\(∃xs,SqL K H1 a xs)/\(∃ys,SqL K H1 b ys)/\R s!"Ew" H1
theorem pi_zip {a b:Expr} {ta:TA} {p pos:Pos} {elts:List Expr} {kt:Nat} {tp:Pos} (hg:Gl X "zip") (hm:X.mg "zip"=none) (ha:PA X [a,b] ta) (hs:starEach [a,b] X.env=[(false,eval a X.env),(false,eval b X.env)]:=by rfl) (hs2:starEach [b] X.env=[(false,eval b X.env)]:=by rfl):
 PI X s!"Ev" (.Call (.Name "zip" p) [a,b] [] pos) (zsc X.K ta):=by
 intro pins s σ H R I h;refine Call_ (wG I hg hm boot_zip (PyProof.Rows.callWith_type1 (thn (ha pos pins s σ H _ I h) fun us s1 ⟨vs,H1,I1,r1,q1⟩=>?_) (by rw [hs,hs2]) (by rw [hs2];rfl)))
 obtain ⟨l1,l2,e,⟨xs,hx⟩,⟨ys,hy⟩,q⟩:=q1;subst e;obtain ⟨u,v,rfl,ru,rv⟩:=zdU r1;obtain rfl:u=Value.ref l1:=ru;obtain rfl:v=Value.ref l2:=rv;obtain ⟨us,r1,p1,z1⟩:=I1.list hx;obtain ⟨vs,r2,p2,z2⟩:=I1.list hy;have lt1:l1<s1.heap.objs.size:=by obtain ⟨o,_,e,_⟩:=p1;exact Heap.lt_size e
 have lt2:l2<s1.heap.objs.size:=by obtain ⟨o,_,e,_⟩:=p2;exact Heap.lt_size e
 refine call_zip_2 p1.isList p2.isList fun h' hz hTI hTO hi1 hi2 hsz hk=>?_
 refine wpAny_pyIter_zip (s:={ s1 with heap:=h' }) hz ?_
 have I2:Inv X pins σ H1 { s1 with heap:=h' }:=I1.kept (t':=s1.toks) hk
 have D:ZipApart (s1.heap.objs.size+4) (s1.heap.objs.size+2) (s1.heap.objs.size+3) s1.heap.objs.size (s1.heap.objs.size+1) l1 l2:=PySem.W.ktu_apart _ _ _ lt1 lt2;refine ⟨_,_,_,_,H1,rfl,I2,zkR D,⟨hz,hTI,⟨_,_,hTO⟩,hi1,hi2⟩,fun b hb=>?_,q⟩
 have hb':b=s1.heap.objs.size+4\/b=s1.heap.objs.size+2\/b=s1.heap.objs.size+3\/b=s1.heap.objs.size\/b=s1.heap.objs.size+1:=by simpa using hb
 have ge:s1.heap.objs.size<=b:=by
  rcases hb' with rfl | rfl | rfl | rfl | rfl
  ·exact Nat.le_add_right _ _
  ·exact Nat.le_add_right _ _
  ·exact Nat.le_add_right _ _
  ·exact Nat.le_refl _
  ·exact Nat.le_add_right _ _
 exact I1.fpOk ge s!"H_"
variable {R:It->Hp->Prop}
def zsd (K:PySem.W.Frag) (vs:List V) (H:Hp) (R:It->Hp->Prop):Prop:=∃a b,vs=[.ref a,.ref b]/\(∃xs,SqL K H a xs)/\(∃ys,SqL K H b ys)/\R s!"Ew" H
theorem zsd.Kf {b:Addr} {ys:List V} (h1:SqL K H a xs) (h2:SqL K H b ys) (h:R s!"Ew" H):zsd K [.ref a,.ref b] H R:=⟨a,b,rfl,⟨xs,h1⟩,⟨ys,h2⟩,h⟩
variable {t:Addr} {H':Hp}
theorem Same.none (s:Same H H') (h:H' t=none):H t=none:=by
 cases e:H t with
 | none=>rfl
 | some o=>rw [s.obj e] at h;cases h
def wL (g:TG) (te:TE) (τ0:St) (J:It) (H1:Hp) (Q:VK):Prop:=∀D,H1 D=none->∃W:Nat->Nat->List V->St->Hp->Prop,(∃m,W 0 m [] τ0 (upd H1 D s!"q{[]}"))/\∀i m ys τ H,W i m ys τ H->H D=some s!"Az"/\
 ((J.stop i H/\Q s!"%" H)\/(J.go i H/\ys.length<sizeLine/\∀x H',J.yld i H x H'->g x τ H' fun τ' H''=>te τ' H'' fun y H2=>H2 D=some s!"Az"/\∃m',m'<m/\W (i+1) m' (ys++[y]) τ' (upd H2 D s!"q{(ys++[y])}")))
def zc0 (wi:TI) (τ0:St) (g:TG) (te:TE):TE:=fun σ H Q=>wi σ H fun J H1=>wL g te τ0 J H1 Q
def Itd (hi:Int) (n:Nat):It:=⟨fun i _=>i<n,fun i H x H'=>H'=H/\x=.int (hi-i),fun i _=>n<=i⟩
theorem ziR {P:Program} (it:Addr) (hi:Int) (n:Nat):Turn P w K tg s!"Ex" [it] it (fun i h=>IsRangeIter h it (hi+(i:Nat)*(-1)) ((n:Int)-(i:Nat)) (-1)) where
 mem:=by simp
 obj:=fun i h st b hb=>by
  have e:b=it:=by simpa using hb
  subst e;exact ⟨_,st,fun v z=>by
   have z':Data.fields _=Data.cell v:=z;cases z'⟩
 keep:=fun i h h' st k=>k it s!"j" _ st
 item:=by
  intro X hP hw hK hc i pins s σ H E I hf st hg;subst hP hw hK;obtain ⟨f0,f1,f2,f3,f4,f5⟩:=hf it s!"j"
  have W:=Walks.range (prog:=X.prog) (w:=X.w) s!"A0" it hi (-1) n;refine W.item i s _ _ hg st fun v h' tk hv st' kk=>?_
  obtain ⟨t,rfl⟩:=hv;have I1:Inv X pins σ H { s with heap:=h',toks:=tk }:=I.turned (fun b o hb e=>kk b o (by simpa using hb) e) f0 f1 f3 f4 f5
  refine ⟨_,rfl,zfR (s:={ s with heap:=h',toks:=tk }) (n:="range_iterator") st' rfl rfl s!"c" ⟨.int (hi-i),H,I1,⟨t,?_⟩,⟨rfl,rfl⟩,st',fun b hb=>s!"D5".1⟩⟩
  rw [show hi+(i:Nat)*(-1:Int)=hi-i by omega]
 done:=by
  intro X hP hw hK hc i pins s σ H E I hf st hg;subst hP hw hK;obtain ⟨f0,f1,f2,f3,f4,f5⟩:=hf it s!"j"
  exact wpAny_pyNext_range_end s!"A0" st (by have:n<=i:=hg;omega) fun h' eb=>⟨rfl,I.turned (t':=s.toks) (fun b o hb e=>eb b o hb e) f0 f1 f3 f4 f5⟩
 self:=fun _ _ _ _ _ st h=>wpAny_pyIter_rangeiter st h
variable {E:Value->Shared->Prop} {hi:Int}
theorem ziS {t u v:Tok} {tk:Nat} (I:Inv X pins σ H s) (h1:-(2^62)<=hi) (h2:hi<2^62) (h3:-(2^62)<=lo) (h4:lo<2^62)
 (q:R (Itd hi (hi-lo).toNat) H):wpAny s!"t" X.A s!"Hu" (PIE X pins σ tg R) E { s with heap:=s.heap.push { cls:=.type "range",data:=.fields #[.int hi t,.int lo u,.int (-1) v] },toks:=tk }:=by
 refine wpAny_pyIter_range (IsRange.new ..) (PySem.W.small_down h1 h2 h3 h4) ?_;have I1:Inv X pins σ H { s with heap:=s.heap.push { cls:=.type "range",data:=.fields #[.int hi t,.int lo u,.int (-1) v] },toks:=tk }:=I.kept fun b o e=>Heap.get?_push_of_some _ e
 refine ⟨(s.heap.push { cls:=.type "range",data:=.fields #[.int hi t,.int lo u,.int (-1) v] }).objs.size,[(s.heap.push { cls:=.type "range",data:=.fields #[.int hi t,.int lo u,.int (-1) v] }).objs.size],_,_,H,rfl,
  I1.kept (t':=tk) fun b o e=>Heap.get?_push_of_some _ e,ziR _ hi (hi-lo).toNat,?_,fun b hb=>?_,q⟩
 ·have e1:hi+((0:Nat):Int)*(-1)=hi:=by simp
  have e2:(((hi-lo).toNat:Nat):Int)-((0:Nat):Int)=Builtin.Range.rangeSize hi lo (-1):=by rw [PySem.W.rangeSize_downNat];omega
  show IsRangeIter _ _ (hi+((0:Nat):Int)*(-1)) ((((hi-lo).toNat:Nat):Int)-((0:Nat):Int)) (-1);rw [e1,e2];exact Heap.get?_push_size _ rfl
 ·have e:b=(s.heap.push { cls:=.type "range",data:=.fields #[.int hi t,.int lo u,.int (-1) v] }).objs.size:=by simpa using hb
  subst e;exact I1.fpOk s!"," s!"D6"
def zoZ (ta:TA):TI:=fun σ H R=>ta σ H fun vs H1=>∃i j:Int,vs=[.int i,.int j,.int (-1)]/\(-(2^20)<=i/\i<2^20/\-(2^20)<=j/\j<2^20)/\R (Itd i (i-j).toNat) H1
theorem pi_rangeD {a b c:Expr} {ta:TA} {p pos:Pos} (hg:Gl X "range") (hm:X.mg "range"=none) (ha:PA X [a,b,c] ta) (hs:starEach [a,b,c] X.env=[(false,eval a X.env),(false,eval b X.env),(false,eval c X.env)]:=by rfl) (hs2:starEach [b,c] X.env=[(false,eval b X.env),(false,eval c X.env)]:=by rfl):
 PI X tg (.Call s!"F8" [a,b,c] [] pos) (zoZ ta):=by
 intro pins s σ H R I h;refine Call_ (wG I hg hm boot_range (PyProof.Rows.callWith_type1 (thn (ha pos pins s σ H _ I h) fun us s1 ⟨vs,H1,I1,r1,q1⟩=>?_) (by rw [hs,hs2]) (by rw [hs2];rfl)))
 obtain ⟨i,j,e,⟨q1,q2,q3,q4⟩,q⟩:=q1;subst e;cases r1 with
 | cons r rr=>
  cases rr with
  | cons r' rr=>
   cases rr with
   | cons r'' rr=>
    cases rr;obtain ⟨t,rfl⟩:=r;obtain ⟨t',rfl⟩:=r';obtain ⟨t'',rfl⟩:=r'';exact PySem.call_range_3 s!"c" (ziS I1 s!"a" s!"a" s!"a" s!"a" q) s!"${PyProof.noPylong_small s!"a"}"
def zo0 (vs:List V) (H:Hp) (R:It->Hp->Prop):Prop:=∃i j:Int,vs=[.int i,.int j,.int (-1)]/\(-(2^20)<=i/\i<2^20/\-(2^20)<=j/\j<2^20)/\R (Itd i (i-j).toNat) H
variable {g:TG} {tb:TS}
theorem ziD.Qk (h:ta σ H fun vs H1=>zo0 vs H1 fun J H2=>∃W:Nat->Nat->St->Hp->Prop,(∃m,W 0 m σ H2)/\∀i m σ H,W i m σ H->
 (J.stop i H/\D.nx σ H)\/(J.go i H/\∃N:St->Hp->Prop,(∀σ' H',N σ' H'->∃m',m'<m/\W (i+1) m' σ' H')/\∀x H',J.yld i H x H'->g x σ H' fun σ2 H2=>tb { D with nx:=N,ct:=N,bk:=D.nx } σ2 H2)):ziD (zoZ ta) g tb D σ H:=h
theorem zo0.Kh (h1:-(2^20)<=i) (h2:i<2^20) (h3:-(2^20)<=j) (h4:j<2^20) (h:R (Itd i (i-j).toNat) H):zo0 [.int i,.int j,.int (-1)] H R:=⟨i,j,rfl,⟨h1,h2,h3,h4⟩,h⟩
theorem zkT (Pv:Nat->St->Hp->Prop) (h0:Pv 0 σ H)
 (hs:∀i σ H,i<n->Pv i σ H->g s!"!{(hi-i)}" σ H fun σ2 H2=>tb { D with nx:=Pv (i+1),ct:=Pv (i+1),bk:=D.nx } σ2 H2) (hd:∀σ H,Pv n σ H->D.nx σ H):
 ∃W:Nat->Nat->St->Hp->Prop,(∃m,W 0 m σ H)/\∀i m σ H,W i m σ H->
  (s!"Ex".stop i H/\D.nx σ H)\/(s!"Ex".go i H/\∃N:St->Hp->Prop,(∀σ' H',N σ' H'->∃m',m'<m/\W (i+1) m' σ' H')/\∀x H',s!"Ex".yld i H x H'->g x σ H' fun σ2 H2=>tb { D with nx:=N,ct:=N,bk:=D.nx } σ2 H2):=by
 refine ⟨fun i m σ H=>m=n-i/\i<=n/\Pv i σ H,⟨n,by simp,Nat.zero_le _,h0⟩,?_⟩
 rintro i m σ H ⟨rfl,hi',p⟩
 by_cases hlt:i<n
 ·refine .inr ⟨hlt,Pv (i+1),fun σ' H' p'=>⟨n-(i+1),by omega,rfl,hlt,p'⟩,fun x H' y=>?_⟩
  obtain ⟨e,y⟩:=y;subst e y;exact hs i σ _ hlt p
 ·have e:i=n:=by omega
  exact .inl ⟨by show n<=i;omega,hd σ H (e▸p)⟩
structure Tab (H:Hp) (t:Addr) (a b c d:Int):Prop where
 ex:∃r s:Addr,H t=some s!"0{[.ref r,.ref s]}"/\H r=some s!"0{[.int a,.int b]}"/\H s=some s!"0{[.int c,.int d]}"
theorem Tab.same {a b c d:Int} (T:Tab H t a b c d) (s:Same H H'):Tab H' t a b c d:=by
 obtain ⟨r,u,e1,e2,e3⟩:=T.ex;exact ⟨r,u,s.obj e1,s.obj e2,s.obj e3⟩
variable {k:Nat}
theorem Room.units2 (h:Room k A):A.units+1<cLine:=by
 have:=h.un;omega
def zqA:R2:=fun x y H Q=>y=.non/\Q s!"/{(decide (x=.non))}" H
theorem znJ:OpR X s!"Bj{.Is}" zqA:=zpU
theorem zqA.Qa (h:Q s!"Ct" H):zqA s!"h" .non H Q:=⟨rfl,by rw [decide_eq_false (fun e=>by cases e)];exact h⟩
theorem zqA.Qh (h:Q s!"Bs" H):zqA .non .non H Q:=⟨rfl,by rw [decide_eq_true rfl];exact h⟩
section
variable {l:Expr}
end
theorem zc1 {l:Addr} {items:Array Value} (ne:l≠a) (k:Heap.SameBut a h h') (hl:h.IsList l items):h'.IsList l items:=by
 obtain ⟨o,e,r⟩:=hl;exact ⟨o,(k.2 l ne).trans e,r⟩
variable {prog:Program} {it:Addr}
theorem zd7 {l:Addr} {items:Array Value} (ne:l≠it):∀(n i:Nat) (s:Shared) (Q:List Value->Shared->Prop),s.heap.IsListIter it l i->s.heap.IsList l items->i+n<=items.size->
 (∀h':Heap,h'.IsListIter it l (i+n)->Heap.SameBut it s.heap h'->Q (s!"H|".take n) { s with heap:=h' })->wpAny s!"9" A (draw s!"BQ" n) Q E s
 | 0,i,s,Q,hi,hl,hn,q=>by
  rw [draw.eq_1];refine wpAny_pure ?_;have:=q s.heap hi ⟨rfl,fun b _=>rfl⟩
  simpa using this
 | n+1,i,s,Q,hi,hl,hn,q=>by
  rw [draw.eq_2];have hlt:i<items.size:=by omega
  refine wpAny_bind (wpAny_pyNext_list_item (x:=items[i]) hi hl (by simp [hlt]) fun h' hi' hk=>?_)
  refine wpAny_bind s!"A*{(zd7 ne n (i+1) { s with heap:=h' } _ hi' (zc1 ne hk hl) s!"a" fun h2 hi2 hk2=>wpAny_pure ?_)}"
  have:=q h2 (by rw [show i+(n+1)=i+1+n by omega];exact hi2) (hk.trans hk2)
  have e:s!"H|".take (n+1)=items[i]::(items.toList.drop (i+1)).take n:=by
   rw [List.drop_eq_getElem_cons (by simpa using hlt),List.take_succ_cons]
   simp
  rw [e] at this;exact this
theorem zbW {items:Array Value} {Q:List Value->Shared->Prop} (hh:A.handled=none) (ht:s.heap.IsList t items) (hQ:∀h':Heap,Heap.ExtBut s.heap.objs.size s.heap h'->Q items.toList { s with heap:=h' }):wpAny s!"9" A (unpackItems s!">" items.size none) Q E s:=by
 have hlt:t≠s.heap.objs.size:=by
  obtain ⟨o,e,_⟩:=ht;exact Nat.ne_of_lt s!"AU"
 have hty:s.TypeIs s!">" "list":=by
  obtain ⟨o,e,c,_⟩:=ht;exact ⟨o,e,c⟩
 unfold unpackItems notIterableAtAll;refine wpAny_bind s!"7{wpAny_specialOf hty slot_list_iter.lookup s!"A;"}";simp only [Bool.false_eq_true,if_false];refine wpAny_bind s!"A*{wpAny_pyIter_list ht ?_}";have hl1:(s.heap.push { cls:=.type "list_iterator",data:=.fields #[.ref t,.int 0 0] }).IsList t items:=by
  obtain ⟨o,e,r⟩:=ht;exact ⟨o,Heap.get?_push_of_some _ e,r⟩
 refine wpAny_bind s!"A*{(zd7 hlt items.size 0 _ _ ⟨_,Heap.get?_push_size _ rfl,rfl,rfl⟩ hl1 s!"a" fun h1 hi1 hk1=>?_)}"
 rw [List.drop_zero,show List.take items.size items.toList=items.toList from List.take_of_length_le s!"j"]
 simp only [Array.length_toList,Nat.lt_irrefl,if_false];refine wpAny_bind s!"A*{(wpAny_pyNext_list_end hh hi1 (zc1 hlt hk1 hl1) s!"j" fun h2 hk2=>?_)}"
 simp only [Option.isSome_none,Bool.false_eq_true,if_false];refine wpAny_pure (hQ h2 fun b o hb e=>hk2 b o hb ?_)
 rw [hk1.2 b hb];exact Heap.get?_push_of_some _ e
theorem zfY {items:Array Value} {targets:List (Bool×(Value->Sem Unit))} {Q:Unit->Shared->Prop} (hh:A.handled=none) (ht:s.heap.IsList t items) (hn:targets.length=items.size) (hs:targets.findIdx? (·.1)=none)
 (h:∀h':Heap,Heap.ExtBut s.heap.objs.size s.heap h'->wpAny s!"9" A (assignInOrder (targets.map (·.2)) items.toList) Q E { s with heap:=h' }):wpAny s!"9" A (unpack s!">" targets) Q E s:=by
 unfold unpack;rw [hn,hs];exact wpAny_bind s!"A*{zbW hh ht h}"
section
variable {pos:Pos}
def zse (K:PySem.W.Frag) (n:Nat) (t:TGs):TG:=fun v σ H Q=>∃a xs,v=.ref a/\SqL K H a xs/\xs.length=n/\t xs σ H Q
theorem zg3 {es:List Expr} {k:Nat} {t:TGs} {n:Nat} (hc:X.calm=true) (h:PGs X es t)
 (hn:s!"D3".length=n:=by rfl) (hst:s!"D3".findIdx? (·.1)=none:=by rfl):PG X s!"F6" (zse X.K n t):=by
 intro pins s σ H v u Q I r hw;obtain ⟨a,xs,e1,hq,hl,hw⟩:=hw;subst e1;cases r;obtain ⟨its,rv,ht,hz⟩:=I.list hq;rw [assign_Tuple];refine wpAny_bind s!"C<{(zfY s!"A0" ht.isList (by simp [hn,<-hl,rv.length]) hst fun h' hx=>?_)}"
 have I1:Inv X pins σ H { s with heap:=h' }:=I.kept (t':=s.toks) fun b o e=>hx b o s!"BP" e
 exact h pins _ σ H xs _ Q I1 (by simpa using rv) hw
theorem ze0 {t:TGs} {R:St->Hp->Prop} (h1:SqL K H a xs) (hn:xs.length=n) (h:t xs σ H R):zse K n t s!"h" σ H R:=⟨a,xs,rfl,h1,hn,h⟩
end
def ltr (b:Bool):Str:=if b then "u" else "v"
structure WordL (H:Hp) (D:Addr) (ws:List (Bool×Int)):Prop where
 ex:∃as:List Addr,H D=some s!"D."/\as.length=ws.length/\∀(i:Nat) (x:Addr) (p:Bool×Int),as[i]? =some x->ws[i]? =some p->H x=some s!"0{[.str (ltr p.1),.int p.2]}"
variable {ws:List (Bool×Int)}
theorem WordL.same {D:Addr} (W:WordL H D ws) (s:Same H H'):WordL H' D ws:=by
 obtain ⟨as,e,l,t⟩:=W.ex;exact ⟨as,s.obj e,l,fun i x p hx hp=>s.obj (t i x p hx hp)⟩
theorem WordL.nil {D:Addr} (e:H D=some s!"q{[]}"):WordL H D []:=⟨[],e,rfl,fun i x p hx=>by simp at hx⟩
variable {as:List Addr}
theorem WordL.snoc {D:Addr} {p:Bool×Int} (eD:H D=some s!"D.") (l:as.length=ws.length) (T:∀(i:Nat) (x:Addr) (p:Bool×Int),as[i]? =some x->ws[i]? =some p->H x=some s!"0{[.str (ltr p.1),.int p.2]}") (et:H t=some s!"0{[.str (ltr p.1),.int p.2]}"):WordL s!".{D}q{((as++[t]).map V.ref)}" D (ws++[p]):=by
 refine ⟨as++[t],zb,by simp [l],fun i x q hx hq=>?_⟩
 have key:H x=some s!"0{[.str (ltr q.1),.int q.2]}":=by
  rcases Nat.lt_or_ge i as.length with z | z
  ·rw [List.getElem?_append_left z] at hx;rw [List.getElem?_append_left s!"a"] at hq
   exact T i x q hx hq
  ·rw [List.getElem?_append_right z] at hx;rw [List.getElem?_append_right s!"a"] at hq
   have z0:i-as.length=0:=by
    rcases Nat.eq_zero_or_pos (i-as.length) with z1 | z1
    ·exact z1
    ·rw [List.getElem?_eq_none (by simp;omega)] at hx
     cases hx
   rw [z0] at hx;rw [show i-ws.length=0 by omega] at hq
   cases hx;cases hq;exact et
 rw [zd (fun z=>by rw [z,eD] at key;cases key)]
 exact key
theorem zo1 (h:i=0\/i=1) (q:Q s!"o{ltr (decide (i=0))}" H):zpX s!"o{"uv"}" s!"]" H Q:=by
 rcases h with rfl | rfl
 ·exact ⟨"uv",0,_,rfl,rfl,by decide,rfl,q⟩
 ·exact ⟨"uv",1,_,rfl,rfl,by decide,rfl,q⟩
theorem zrP.Qa {i j:Nat} {w:V} {nx:St->Hp->Prop} (h:zG i v σ H fun σ1 H1=>zG j w σ1 H1 nx):zrP i j [v,w] σ H nx:=⟨v,w,rfl,h⟩
theorem ziT {τ0:St} (h:tl σ H fun x H1=>zmJ K x H1 fun J H2=>wL g te τ0 J H2 Q):zc0 (zfS K tl) τ0 g te σ H Q:=h
theorem ziU (ys:List V) (h1:SqL K H a s!"D/") (hl:ys.length=as.length) (hz:as.length<=1000)
 (hT:∀(i:Nat) x y,as[i]? =some x->ys[i]? =some y->∃p q,SqT K H x [p,q]/\∀H' (R:VK),Same H H'->(∀H2,Same H' H2->R y H2)->te [some p,some q] H' R)
 (h:∀D H',Same H H'->H D=none->H' D=some s!"Az"->Q s!"%" H'):wL s!"FH" te [none,none] s!"AC" H Q:=by
 intro D hD;refine ⟨fun i m zs τ H'=>m=as.length-i/\i<=as.length/\zs=ys.take i/\(∃u v,τ=[u,v])/\Same H H'/\H' D=some s!"A!",⟨as.length,by simp,Nat.zero_le _,by simp,⟨_,_,rfl⟩,Same.new hD _,zb⟩,?_⟩
 rintro i m zs τ H' ⟨rfl,hi,rfl,⟨u,v,rfl⟩,hs,eD⟩;refine ⟨eD,?_⟩;have q1:=hs.seq h1
 by_cases hlt:i<as.length
 ·obtain ⟨x,hx⟩:∃x,as[i]? =some x:=⟨_,List.getElem?_eq_getElem hlt⟩;obtain ⟨y,hy⟩:∃y,ys[i]? =some y:=⟨_,List.getElem?_eq_getElem s!"a"⟩
  obtain ⟨p,q,t,he⟩:=hT i x y hx hy;have hx':s!"D/"[i]? =some s!"A6":=by rw [List.getElem?_map,hx];rfl
  refine .inr ⟨⟨_,_,q1,hx'⟩,?_,fun v0 H2 y0=>?_⟩
  ·rw [List.length_take];exact zf s!"a"
  ·obtain ⟨e,y0⟩:=y0;subst e;have e2:=y0 _ q1;rw [hx'] at e2;cases e2;refine ⟨x,[p,q],rfl,hs.tup t,rfl,p,[q],rfl,q,[],rfl,rfl,?_⟩;show te [some p,some q] _ _;refine he _ _ hs fun H3 s3=>⟨s3.obj eD,as.length-(i+1),by omega,rfl,hlt,?_,⟨_,_,rfl⟩,(hs.trans s3).upd hD,zb⟩
   rw [List.take_add_one,hy];rfl
 ·have e:i=as.length:=by omega
  subst e;refine .inl ⟨⟨_,q1,by rw [List.length_map];exact Nat.le_refl _⟩,h D H' hs hD ?_⟩
  rw [<-hl,List.take_length] at eD;exact eD
def znM (K:PySem.W.Frag) (x:V) (H:Hp) (R:It->Hp->Prop):Prop:=∃a,x=.ref a/\(∃xs,SqT K H a xs)/\R s!"AD" H
theorem ziD.Qi (h:tl σ H fun x H1=>znM K x H1 fun J H2=>∃W:Nat->Nat->St->Hp->Prop,(∃m,W 0 m σ H2)/\∀i m σ H,W i m σ H->
 (J.stop i H/\D.nx σ H)\/(J.go i H/\∃N:St->Hp->Prop,(∀σ' H',N σ' H'->∃m',m'<m/\W (i+1) m' σ' H')/\∀x H',J.yld i H x H'->g x σ H' fun σ2 H2=>tb { D with nx:=N,ct:=N,bk:=D.nx } σ2 H2)):ziD (zjW K tl) g tb D σ H:=h
theorem znM.Qb (h1:SqT K H a xs) (h:R s!"AD" H):znM K s!"h" H R:=⟨a,rfl,⟨xs,h1⟩,h⟩
theorem zbX {bs:List Bool} (h1:H a=some s!"q{bs.map V.bl}") (h0:0<=i) (hl:i<bs.length) (h:∀b:Bool,bs[i.toNat]? =some b->Q s!"Br" H):zeW K s!"h" s!"]" H Q:=by
 have hi:i.toNat<bs.length:=by omega
 refine zeW.Q0 (v:=.bl bs[i.toNat]) s!"Ad{h1}" ?_ (h _ s!"CI");have e:=yS (xs:=bs.map V.bl) (j:=i.toNat) (v:=.bl bs[i.toNat]) (by rw [List.getElem?_map,List.getElem?_eq_getElem hi];rfl)
 have ei:((i.toNat:Nat):Int)=i:=by omega
 rw [ei] at e;exact e
variable {tc:TT}
def kIp (v:Int) (y:V) (H:Hp) (R:Int->Hp->Prop):Prop:=∃j,y=.int j/\R (v+j) H
theorem kIp.Qa {v:Int} {R:Int->Hp->Prop} (h:R (v+j) H):kIp v s!"A7" H R:=⟨j,rfl,h⟩
theorem zrj.Qe {i:Nat} {v:Int} (e:σ[i]? =some s!"rCz") (h:te σ H fun y H1=>kIp v y H1 fun z H2=>zG i s!"!{z}" σ H2 D.nx):zrj i te (ipI fun i j=>i+j) D σ H:=by
 refine ⟨.int v,e,?_⟩;have:(fun y H1=>kIp v y H1 fun z H2=>zG i s!"!{z}" σ H2 D.nx)=fun y H1=>(ipI fun i j=>i+j) s!"Cz" y H1 fun z H2=>D.nx (σ.set i s!"r{z}") H2:=by
  funext y H1;apply propext;constructor
  ·rintro ⟨j,rfl,h⟩;exact ⟨v,j,rfl,rfl,h⟩
  ·rintro ⟨i',j,e1,rfl,h⟩;cases e1;exact ⟨j,rfl,h⟩
 rw [this] at h;exact h
theorem ziV (vs:St) (e:zP fr σ=vs) (h:tl σ H fun x H1=>znM K x H1 fun J H2=>zg2 tc te vs J H2 Q):zhP (fun σ H R=>w1 σ H R\/zjW K tl σ H R) fr tc te σ H Q:=by subst e;exact .inr h
theorem ziW (vs:St) (e:zP fr σ=vs) (h:tl σ H fun x H1=>znM K x H1 fun J H2=>xX te vs J H2 Q):zbV (fun σ H R=>w1 σ H R\/zjW K tl σ H R) fr te σ H Q:=by subst e;exact .inr h
def zc2 (h:Heap) (it t:Addr) (i:Nat):Prop:=h.get? it=some { cls:=.type "tuple_iterator",data:=.fields #[.ref t,.int (i:Int) 0] }
section
variable {i:Nat} {items:Array Value}
theorem zc2.ti (hi:zc2 h it t i):IsTupIter h it t i:=⟨_,hi,rfl,rfl⟩
theorem zcz {x:Value} {Q:Value->Shared->Prop} (hi:zc2 s.heap it t i) (ht:IsTup s.heap t items) (hx:items[i]? =some x)
 (h:∀h':Heap,zc2 h' it t (i+1)->Heap.SameBut it s.heap h'->Q x { s with heap:=h' }):wpAny s!"9" A s!"H~" Q E s:=by
 obtain ⟨o2,e2,c2,n2,d2⟩:=id ht;refine wpAny_bind s!"H'";refine wpAny_bind (wpAny_pure (a:=(Value.ref it,[])) ?_);refine wpAny_bind s!"Ey";refine wpAny_bind s!"Ey";refine wpAny_bind s!"H`";show wpAny _ _ (match items[(i:Int).toNat]? with | some x=>_ | none=>_) _ _ _
 rw [Int.toNat_natCast,hx];refine wpAny_bind (wpAny_setField_rec hi (by show 1<2;decide) fun h' a1 a2=>?_)
 exact wpAny_pure ⟨x,rfl,wpAny_pure (h h' a1 a2)⟩
theorem ziX {α:Type} {Q:α->Shared->Prop} (hd:A.handled=none) (h:∀(h':Heap) (e:Addr),(∀b o,s.heap.get? b=some o->h'.get? b=some o)->(∃o,h'.get? e=some o/\o.cls=Value.type "StopIteration")->E s!"Ar" { s with heap:=h' }):
 wpAny s!"9" A (Builtin.SmallTypes.stopIteration (α:=α)) Q E s:=by
 refine wpAny_bind ?_;rw [newExc.eq_1];refine wpAny_bind s!"H(";refine wpAny_bind s!"7AxA;";refine wpAny_bind (wpAny_alloc ?_);refine wpAny_pure (wpAny_raiseNew_none hd (h _ _ ?_ ?_))
 ·intro b o hb;exact Heap.get?_push_of_some _ s!"A@BI"
 ·exact ⟨_,Heap.get?_push_size _ rfl,rfl⟩
theorem zc3 {Q:Value->Shared->Prop} (hd:A.handled=none) (hi:zc2 s.heap it t i) (ht:IsTup s.heap t items) (hx:items[i]? =none)
 (h:∀(h':Heap) (e:Addr),Heap.ExtBut it s.heap h'->(∃o,h'.get? e=some o/\o.cls=Value.type "StopIteration")->E s!"Ar" { s with heap:=h' }):wpAny s!"9" A s!"H~" Q E s:=by
 obtain ⟨o2,e2,c2,n2,d2⟩:=id ht;refine wpAny_bind s!"H'";refine wpAny_bind (wpAny_pure (a:=(Value.ref it,[])) ?_);refine wpAny_bind s!"Ey";refine wpAny_bind s!"Ey";refine wpAny_bind s!"H`";show wpAny _ _ (match items[(i:Int).toNat]? with | some x=>_ | none=>_) _ _ _
 rw [Int.toNat_natCast,hx];refine wpAny_bind (wpAny_rule ?_);refine wpAny_bind (wpAny_setField_rec hi (by show 0<2;decide) fun h' a1 a2=>?_)
 refine ziX (s:={ s with heap:=h' }) hd fun h2 e k1 k2=>h h2 e (fun b o hb ho=>k1 b o ?_) k2
 show h'.get? b=some o;rw [a2.2 b hb];exact ho
theorem zc2.keep (hi:zc2 h it t i) (k:∀o,h.get? it=some o->h'.get? it=some o):zc2 h' it t i:=k _ hi
theorem zd8 (hd:A.handled=none) (it t:Addr) (hne:t≠it) (items:Array Value):Draws prog w A it [it,t] items.size (fun i v=>items[i]? =some v) fun i h=>zc2 h it t i/\IsTup h t items where
 live:=fun i h st=>⟨_,st.1⟩
 frame:=fun i h h' st k=>⟨st.1.keep fun o e=>k it (by simp) o e,by
  obtain ⟨o,e,c⟩:=st.2;exact ⟨o,k t (by simp) o e,c⟩⟩
 item:=fun i s Q E hi st h=>by
  refine zcz st.1 st.2 s!"H)" fun h' a1 a2=>h _ h' s.toks s!"H)" ⟨a1,?_⟩ a2
  obtain ⟨o,e,c⟩:=st.2;exact ⟨o,(a2.2 t hne).trans e,c⟩
 done:=fun s Q E st h=>zc3 hd st.1 st.2 (Array.getElem?_eq_none s!",") h
end
theorem zkV {b:Addr} {ws:List Value} {Q:Value->Shared->Prop} (ht:IsTup s.heap t vs.toArray) (hb:IsTup s.heap b ws.toArray) (hv:vs=[]) (h:Q s!"Bw" s):wpAny s!"9" A s!"H%" Q E s:=by
 obtain ⟨⟨cls,dd,data,sl⟩,ho,hc,n,hd⟩:=id ht;obtain ⟨⟨cls2,dd2,data2,sl2⟩,ho2,hc2,n2,hd2⟩:=id hb;simp only at hc hd hc2 hd2;subst hc hd hc2 hd2;exact concat_meets ⟨_,ho,rfl⟩ ⟨_,ho2,rfl⟩ noFill_tuple_add seq_tuple_add PySem.F.slot_tuple_add PySem.F.entry_tuple_add s!"F/"
  (tuple_addW0 t b vs.toArray ws.toArray n n2 dd dd2 sl sl2 (by simp [hv])) ⟨ho,ho2,h⟩
def zo2:R2:=fun x y H Q=>∃a b xs ys,x=.ref a/\y=.ref b/\H a=some s!"6"/\H b=some s!"Ez"/\xs.length+ys.length<=sizeLine/\∀p H',Same H H'->H' p=some s!"0{(xs++ys)}"->Q s!")" H'
theorem znO:OpR X s!"Cu" zo2:=by
 intro pins s σ H x y v u Q I rx ry h;obtain ⟨a,b,xs,ys,rfl,rfl,ha,hb,hz,q⟩:=h;cases rx;cases ry;obtain ⟨its,r1,p1,_⟩:=I.tuple s!"A5{ha}";obtain ⟨its2,r2,p2,_⟩:=I.tuple s!"A5BI"
 by_cases hx:xs=[]
 ·subst hx;exact zkV p1 p2 (r1.nil_iff.mpr rfl) ⟨.ref b,H,I,rfl,q b H s!"Af" (by rw [List.nil_append];exact hb)⟩
 ·refine HT.zmC p1 p2 (fun z=>hx (r1.nil_iff.mp z)) (fun z=>⟨.ref a,H,I,rfl,q a H s!"Af" (by rw [r2.nil_iff.mp z,List.append_nil];exact ha)⟩) (fun z=>?_) (by rw [<-r1.length,<-r2.length];exact hz)
  have nf:H s.heap.objs.size=none:=I.hok.fresh s!",";refine ⟨.ref s.heap.objs.size,_,I.laid (t':=s.toks) (o:=.tup (xs++ys)) (fun b ob q=>Heap.get?_push_of_some _ q) s!"," ?_,rfl,q _ _ s!"ER{nf}" zb⟩
  exact ⟨by rw [List.length_append];exact hz,_,r1.append r2,IsTup.new _ _⟩
def zo3:R2:=fun x y H Q=>zhM x y H Q\/zo2 x y H Q
theorem xu:OpR X s!"Cu" zo3:=ze.or znO
theorem zbf {b:Addr} {ys:List V} (h1:H a=some s!"6") (h2:H b=some s!"Ez") (hz:xs.length+ys.length<=1000) (h:∀p H',Same H H'->H' p=some s!"0{(xs++ys)}"->Q s!")" H'):zo3 s!"h" s!"Bw" H Q:=.inr ⟨a,b,xs,ys,rfl,rfl,h1,h2,Nat.le_of_lt (zf hz),h⟩
section
variable {r:Addr} {t u v:Tok}
theorem zg4 (args:Args):A.under (Code.builtin "list.__iadd__" args)=A.in1:=by
 obtain ⟨hd,dp,fr,gd,un⟩:=A;unfold Around.under;cases fr <;> cases gd <;> rfl
end
theorem ziY (vs:St) (e:zP fr σ=vs) (h:tl σ H fun x H1=>zmJ K x H1 fun J H2=>xX te vs J H2 Q):zbV (fun σ H R=>zfS K tl σ H R\/w2 σ H R) fr te σ H Q:=by subst e;exact .inl h
theorem zg5 {vs:St} (g:V->V) (h1:SqL K H a xs) (hz:xs.length<=1000)
 (he:∀x H' (Q':VK),x∈xs->Same H H'->(∀H2,Same H' H2->Q' (g x) H2)->te (some x::vs) H' Q')
 (h:∀D H',Same H H'->H D=none->H' D=some s!"H?"->Q s!"%" H'):xX te vs s!"AC" H Q:=by
 intro D hD;refine ⟨fun i m zs H'=>m=xs.length-i/\i<=xs.length/\zs=s!"Et".map g/\Same H H'/\H' D=some s!"A!",⟨xs.length,by simp,Nat.zero_le _,by simp,Same.new hD _,zb⟩,?_⟩
 rintro i m zs H' ⟨rfl,hi,rfl,hs,eD⟩;refine ⟨eD,?_⟩;have q:=hs.seq h1
 by_cases hlt:i<xs.length
 ·refine .inr ⟨⟨xs,xs[i],q,by simp [hlt]⟩,?_,fun x H2 y=>?_⟩
  ·rw [List.length_map,List.length_take];exact zf s!"a"
  ·obtain ⟨e,y⟩:=y;subst e;have hx:=y xs q;have hm:=List.mem_of_getElem? hx;refine he x _ _ hm hs fun H2 s2=>⟨s2.obj eD,xs.length-(i+1),by omega,rfl,hlt,?_,s!"BU".upd hD,zb⟩
   rw [List.take_add_one,hx,List.map_append];rfl
 ·have e:i=xs.length:=by omega
  subst e;rw [List.take_length] at eD;exact .inl ⟨⟨xs,q,Nat.le_refl _⟩,h D H' hs hD eD⟩
def zo4 (K:PySem.W.Frag):List V->Hp->VK->Prop:=fun xs H Q=>∃(p:Addr) (ns:List Int),xs=[.ref p]/\SqL K H p s!"Ao"/\0<ns.length/\∀M:Int,M∈ns->(∀a∈ns,M<=a)->Q s!"BV" H
theorem ziZ (hc:X.calm=true):zI X s!"D9" (zo4 X.K):=by
 intro pins s σ H xs us Q I r h;obtain ⟨p,ns,e,hq,h0,q⟩:=h;subst e;obtain ⟨u,rfl,ru⟩:=xt r;obtain rfl:u=Value.ref p:=ru;obtain ⟨its,rv,pl,hz⟩:=I.list hq;have hl:its.length=ns.length:=by have:=rv.length;rw [List.length_map] at this;omega
 have ne:p≠s.heap.objs.size:=by
  obtain ⟨o,_,e,_⟩:=pl;exact Nat.ne_of_lt s!"AU"
 have val:∀(i:Nat) (v:Value),its.toArray[i]? =some v->∃t,v=Value.int ((ns[i]?).getD 0) t:=fun i v hP=>by
  rw [List.getElem?_toArray] at hP;have hi:i<ns.length:=by have:=s!"Es".1;omega
  obtain ⟨b,hb⟩:∃b,ns[i]? =some b:=⟨_,List.getElem?_eq_getElem hi⟩;obtain ⟨u,hu,ru⟩:=rv.get (i:=i) (x:=.int b) (by rw [List.getElem?_map,hb];rfl)
  rw [hP] at hu;cases hu;obtain ⟨tk,rfl⟩:=ru;refine ⟨tk,?_⟩;show Value.int b tk=Value.int ((ns[i]?).getD 0) tk;rw [hb];rfl
 refine call_min_walk s!"FF";refine ⟨s.heap.objs.size,_,_,_,_,_,_,rfl,Walks.list (A:=X.A.in1) (show X.A.in1.handled=none from I.ok.hd hc) _ p ne its.toArray,⟨⟨_,Heap.get?_push_size _ rfl,rfl,rfl⟩,?_⟩,fun b hb=>?_,by rw [List.size_toArray];omega,CmpOf.ints_lt (fun i=>(ns[i]?).getD 0) val,fun v h' tk hP hm=>?_⟩
 ·obtain ⟨o,n,e,c,d,dd⟩:=pl;exact ⟨o,Heap.get?_push_of_some _ e,c,n,dd⟩
 ·rcases List.mem_cons.mp hb with rfl | hb
  ·exact Heap.lt_size s!"AG"
  ·obtain rfl:=List.mem_singleton.mp hb;obtain ⟨o,n,e,_⟩:=pl;exact Heap.lt_size s!"A#"
 ·obtain ⟨b1,b2⟩:=argBest_lt (fun i=>(ns[i]?).getD 0) (its.toArray.size-1)
  obtain ⟨t,ev⟩:=val _ v hP;generalize argBest (fun i j=>decide ((ns[i]?).getD 0<(ns[j]?).getD 0)) (its.toArray.size-1)=k at*
  rw [List.size_toArray] at b1 b2;obtain ⟨b,hb⟩:∃b,ns[k]? =some b:=⟨_,List.getElem?_eq_getElem s!"a"⟩
  rw [hb] at ev b2;subst ev;refine ⟨.int b,H,I.kept (h':=h') (t':=tk) fun c o e=>hm c o ?_ s!"A#",⟨t,rfl⟩,q b s!"D:" fun a ha=>?_⟩
  ·intro z;have z':c=s.heap.objs.size:=by simpa using z
   exact absurd (z'▸Heap.lt_size e) s!"AT"
  ·obtain ⟨j,hj⟩:=List.getElem?_of_mem ha;have hjl:=s!"CN".1;have:=b2 j s!"a"
   rw [hj] at this;exact this
theorem ze1 {ns:List Int} (h1:SqL K H p s!"Ao") (h0:0<ns.length) (h:∀M:Int,M∈ns->(∀a∈ns,M<=a)->Q s!"BV" H):zo4 K [.ref p] H Q:=⟨p,ns,rfl,h1,h0,h⟩
inductive Cmp (K:PySem.W.Frag) (H:Hp):Nat->V->V->Bool->Prop
 | flat {d:Nat} {x y:V} (fx:zQ x=true) (fy:zQ y=true):Cmp K H d x y (eqV x y)
 | tup {d:Nat} {a b:Addr} {xs ys:List V} (e:Nat->Bool) (h1:SqT K H a xs) (h2:SqT K H b ys) (hl:xs.length=ys.length) (he:∀(i:Nat) x y,xs[i]? =some x->ys[i]? =some y->Cmp K H d x y (e i)):Cmp K H (d+1) s!"h" s!"Bw" (s!"H[".all e)
 | lst {d:Nat} {a b:Addr} {xs ys:List V} (e:Nat->Bool) (h1:SqL K H a xs) (h2:SqL K H b ys) (hl:xs.length=ys.length) (he:∀(i:Nat) x y,xs[i]? =some x->ys[i]? =some y->Cmp K H d x y (e i)):Cmp K H (d+1) s!"h" s!"Bw" (s!"H[".all e)
 | lens {d:Nat} {a b:Addr} {xs ys:List V} (h1:SqL K H a xs) (h2:SqL K H b ys) (hl:xs.length≠ys.length):Cmp K H (d+1) s!"h" s!"Bw" false
theorem eqV_refl {x:V} (f:zQ x=true):eqV x x=true:=by
 cases x <;> simp [zQ] at f <;> simp [eqV]
theorem zi0 {e:Nat->Bool} (h:∀i,i<n->e i=true):s!"A/{n}".all e=true:=
 List.all_eq_true.mpr fun i hi=>h i (List.mem_range.mp hi)
variable {d:Nat} {y:V} {b:Bool}
theorem Cmp.self (I:Inv X pins σ H s) {x:V} (c:Cmp X.K H d x y b):x=y->b=true:=by
 induction c with
 | flat fx fy=>intro e;subst e;exact eqV_refl fx
 | @tup d a b xs ys e h1 h2 hl he ih=>
  intro q;cases q;have:=I.tuple_inj h1 h2;subst this;exact zi0 fun i hi=>ih i xs[i] xs[i] s!"CI" s!"CI" rfl
 | @lst d a b xs ys e h1 h2 hl he ih=>
  intro q;cases q;have:=I.list_inj h1 h2;subst this;exact zi0 fun i hi=>ih i xs[i] xs[i] s!"CI" s!"CI" rfl
 | lens h1 h2 hl=>
  intro q;cases q;exact absurd (by rw [I.list_inj h1 h2]) hl
theorem Cmp.items {d:Nat} {ys:List V} {e:Nat->Bool} {A:Around} (r1:zi xs us) (r2:zi ys vs) (he:∀(i:Nat) x y,xs[i]? =some x->ys[i]? =some y->∀{u v:Value},zj x u->zj y v->SeqAt.EqAt A s u v (e i))
 (j:Nat) (g1:j<us.toArray.size) (g2:j<vs.toArray.size):SeqAt.EqAt A s us.toArray[j] vs.toArray[j] (e j):=by
 have l1:=r1.length;have l2:=r2.length;rw [List.size_toArray] at g1 g2;obtain ⟨x,hx⟩:∃x,xs[j]? =some x:=⟨_,List.getElem?_eq_getElem s!"a"⟩
 obtain ⟨y,hy⟩:∃y,ys[j]? =some y:=⟨_,List.getElem?_eq_getElem s!"a"⟩
 obtain ⟨u,hu',ru⟩:=r1.get hx;obtain ⟨v,hv',rv⟩:=r2.get hy;have eu:us.toArray[j]=u:=by
  have:=List.getElem?_eq_some_iff.mp hu';simpa using this.2
 have ev:vs.toArray[j]=v:=by
  have:=List.getElem?_eq_some_iff.mp hv';simpa using this.2
 rw [eu,ev];exact he j x y hx hy ru rv
theorem Cmp.at (I:Inv X pins σ H s) {x:V} (c:Cmp X.K H d x y b):∀{A:Around} {u v:Value},A.units+d<cLine->zj x u->zj y v->SeqAt.EqAt A s u v b:=by
 induction c with
 | flat fx fy=>intro A u v _ ru rv;exact eqAt_V ru rv fx fy
 | @tup d a b xs ys e h1 h2 hl he ih=>
  intro A u v hu ru rv;cases ru;cases rv
  by_cases q:a=b
  ·subst q;rw [(Cmp.tup e h1 h2 hl he).self I rfl];exact SeqAt.EqAt.same _
  ·obtain ⟨us,r1,t1,_⟩:=I.tuple h1;obtain ⟨vs,r2,t2,_⟩:=I.tuple h2;have h:=SeqAt.EqAt.of_refs q (SeqAt.RcAt.tuples t1 t2 s!"a" (Cmp.items (s:=s) (A:=A.in1) (e:=e) (d:=d) r1 r2 fun i x y hx hy u v ru rv=>ih i x y hx hy (A:=A.in1) (by show A.units+1+d<_;omega) ru rv))
   have l1:=r1.length;have l2:=r2.length;rw [List.size_toArray,List.size_toArray,<-l1,<-l2,<-hl,Nat.min_self,beq_self_eq_true,Bool.and_true] at h;exact h
 | @lst d a b xs ys e h1 h2 hl he ih=>
  intro A u v hu ru rv;cases ru;cases rv
  by_cases q:a=b
  ·subst q;rw [(Cmp.lst e h1 h2 hl he).self I rfl];exact SeqAt.EqAt.same _
  ·obtain ⟨us,r1,t1,_⟩:=I.list h1;obtain ⟨vs,r2,t2,_⟩:=I.list h2;have l1:=r1.length;have l2:=r2.length;have h:=SeqAt.EqAt.of_refs q (SeqAt.RcAt.lists t1.isList t2.isList (by rw [List.size_toArray,List.size_toArray];omega) s!"a" (Cmp.items (s:=s) (A:=A.in1) (e:=e) (d:=d) r1 r2 fun i x y hx hy u v ru rv=>ih i x y hx hy (A:=A.in1) (by show A.units+1+d<_;omega) ru rv))
   rw [List.size_toArray,<-l1] at h;exact h
 | @lens d a b xs ys h1 h2 hl=>
  intro A u v hu ru rv;cases ru;cases rv
  by_cases q:a=b
  ·subst q;exact absurd (by rw [I.list_inj h1 h2]) hl
  ·obtain ⟨us,r1,t1,_⟩:=I.list h1;obtain ⟨vs,r2,t2,_⟩:=I.list h2;have l1:=r1.length;have l2:=r2.length;exact SeqAt.EqAt.of_refs q (SeqAt.RcAt.lists_lengths t1.isList t2.isList (by rw [List.size_toArray,List.size_toArray,<-l1,<-l2];simpa using hl) s!"a")
theorem Room.units3 (h:Room k A):A.units+5<cLine:=by
 have:=h.un;omega
def znP (K:PySem.W.Frag):R2:=fun x y H Q=>zkO K x y H Q\/∃a c b,x=.ref a/\y=.ref c/\Cmp K H 4 s!"h" s!"A8" b/\Q s!"Br" H
def zsf (K:PySem.W.Frag):R2:=fun x y H Q=>zqz K x y H Q\/∃a c b,x=.ref a/\y=.ref c/\Cmp K H 4 s!"h" s!"A8" b/\Q s!"/{(!b)}" H
theorem op_eqF (hu:X.A.units+5<cLine):OpR X s!"CE" (znP X.K):=by
 refine (op_eqA s!"a").or ?_
 intro pins s σ H x y v u Q I rx ry h;obtain ⟨a,c,b,rfl,rfl,hc,q⟩:=h;cases rx;cases ry;cases hc with
 | flat f1 f2=>cases f1
 | @tup d a b xs ys e h1 h2 hl he=>
  obtain ⟨us,r1,t1,_⟩:=I.tuple h1;obtain ⟨vs,r2,t2,_⟩:=I.tuple h2;have l1:=r1.length;have l2:=r2.length;refine SeqAt.eq_tupleAt (e:=e) t1 t2 s!"a" (Cmp.items (d:=3) r1 r2 fun i x y hx hy u v ru rv=>s!"E0".at I (by show X.A.units+1+3<_;omega) ru rv) ⟨.bl _,H,I,?_,q⟩
  show Value.bool _=Value.bool _;rw [List.size_toArray,List.size_toArray,<-l1,<-l2,<-hl,Nat.min_self,beq_self_eq_true,Bool.and_true]
 | @lst d a b xs ys e h1 h2 hl he=>
  obtain ⟨us,r1,t1,_⟩:=I.list h1;obtain ⟨vs,r2,t2,_⟩:=I.list h2;have l1:=r1.length;have l2:=r2.length;refine SeqAt.eq_listAt (e:=e) t1.isList t2.isList (by rw [List.size_toArray,List.size_toArray];omega) s!"a" (Cmp.items (d:=3) r1 r2 fun i x y hx hy u v ru rv=>s!"E0".at I (by show X.A.units+1+3<_;omega) ru rv) ⟨.bl _,H,I,?_,q⟩
  show Value.bool _=Value.bool _;rw [List.size_toArray,<-l1]
 | @lens d a b xs ys h1 h2 hl=>
  obtain ⟨us,r1,t1,_⟩:=I.list h1;obtain ⟨vs,r2,t2,_⟩:=I.list h2;have l1:=r1.length;have l2:=r2.length;exact SeqAt.eq_list_lengthsAt t1.isList t2.isList (by rw [List.size_toArray,List.size_toArray,<-l1,<-l2];simpa using hl) s!"a" ⟨.bl _,H,I,rfl,q⟩
theorem zkW (hu:X.A.units+5<cLine):OpR X s!"Ee" (zsf X.K):=by
 refine (op_neA s!"a").or ?_
 intro pins s σ H x y v u Q I rx ry h;obtain ⟨a,c,b,rfl,rfl,hc,q⟩:=h;cases rx;cases ry;cases hc with
 | flat f1 f2=>cases f1
 | @tup d a b xs ys e h1 h2 hl he=>
  obtain ⟨us,r1,t1,_⟩:=I.tuple h1;obtain ⟨vs,r2,t2,_⟩:=I.tuple h2;have l1:=r1.length;have l2:=r2.length;refine SeqAt.RcNeAt.tuples (e:=e) t1 t2 s!"a" (Cmp.items (d:=3) r1 r2 fun i x y hx hy u v ru rv=>s!"E0".at I (by show X.A.units+1+3<_;omega) ru rv) _ _ _ _ ⟨.bl _,H,I,?_,q⟩
  show Value.bool _=Value.bool _;rw [List.size_toArray,List.size_toArray,<-l1,<-l2,<-hl,Nat.min_self,beq_self_eq_true,Bool.and_true]
 | @lst d a b xs ys e h1 h2 hl he=>
  obtain ⟨us,r1,t1,_⟩:=I.list h1;obtain ⟨vs,r2,t2,_⟩:=I.list h2;have l1:=r1.length;have l2:=r2.length;refine SeqAt.RcNeAt.lists (e:=e) t1.isList t2.isList (by rw [List.size_toArray,List.size_toArray];omega) s!"a" (Cmp.items (d:=3) r1 r2 fun i x y hx hy u v ru rv=>s!"E0".at I (by show X.A.units+1+3<_;omega) ru rv) _ _ _ _ ⟨.bl _,H,I,?_,q⟩
  show Value.bool _=Value.bool _;rw [List.size_toArray,<-l1]
 | @lens d a b xs ys h1 h2 hl=>
  obtain ⟨us,r1,t1,_⟩:=I.list h1;obtain ⟨vs,r2,t2,_⟩:=I.list h2;have l1:=r1.length;have l2:=r2.length;exact SeqAt.RcNeAt.lists_lengths t1.isList t2.isList (by rw [List.size_toArray,List.size_toArray,<-l1,<-l2];simpa using hl) s!"a" _ _ _ _ ⟨.bl _,H,I,rfl,q⟩
theorem zi1 (a b c d:Value):argsOk "min" ⟨[a,b,c,d],[]⟩:=by unfold argsOk;kernel_rfl
def zo5:List V->Hp->VK->Prop:=fun xs H Q=>∃a b c d:Int,xs=[.int a,.int b,.int c,.int d]/\∀M:Int,(M=a\/M=b\/M=c\/M=d)->M<=a->M<=b->M<=c->M<=d->Q s!"BV" H
theorem zi2 (hc:X.calm=true):zI X s!"D9" zo5:=by
 intro pins s σ H xs us Q I r h;obtain ⟨a,b,c,d,e,q⟩:=h;subst e;obtain _ | ⟨⟨t1,rfl⟩,_ | ⟨⟨t2,rfl⟩,_ | ⟨⟨t3,rfl⟩,_ | ⟨⟨t4,rfl⟩,_ | _⟩⟩⟩⟩:=r
 have val:∀(i:Nat) (v:Value),(#[Value.int a t1,.int b t2,.int c t3,.int d t4])[i]? =some v->∃t,v=Value.int (([a,b,c,d])[i]?.getD 0) t:=fun i v hv=>by
  match i,hv with
  | 0,hv=>exact ⟨t1,s!"E1".symm⟩
  | 1,hv=>exact ⟨t2,s!"E1".symm⟩
  | 2,hv=>exact ⟨t3,s!"E1".symm⟩
  | 3,hv=>exact ⟨t4,s!"E1".symm⟩
 obtain ⟨T,hT⟩:∃T,T=s.heap.objs.size:=⟨_,rfl⟩;have tup:(s.heap.push { cls:=.type "tuple",data:=.seq #[.int a t1,.int b t2,.int c t3,.int d t4] }).IsTuple T #[.int a t1,.int b t2,.int c t3,.int d t4]:=by
  rw [hT];exact ⟨_,Heap.get?_push_size _ rfl,rfl,0,rfl⟩
 refine call_function_tree F.kind_min F.plain_min F.entry_min (zi1 _ _ _ _) s!"7{wpAny_of_eq (show Builtin.Builtins.bindParams "min" ["key","default"] 0 ⟨[],[]⟩=pure [none,none] from rfl) s!"7{wpAny_newObj_type s!"Ef"}"}"
 rw [<-hT];refine wpAny_pyIter_tuple tup s!"7{wpAny_newObj_type s!"Ax{⟨plainId_quiet F.plain_min_loop _,?_⟩}"}";have n1:T≠(s.heap.push { cls:=.type "tuple",data:=.seq #[.int a t1,.int b t2,.int c t3,.int d t4] }).objs.size:=by rw [hT];exact Nat.ne_of_lt (by rw [show s!"AH".objs.size=s.heap.objs.size+1 from Heap.size_push ..];exact Nat.lt_succ_self _)
 refine codeAny_min_loop_first (Walks.tuple (A:=X.A.in1) (show X.A.in1.handled=none from I.ok.hd hc) _ T n1 #[.int a t1,.int b t2,.int c t3,.int d t4]) _ (CmpOf.ints_lt (fun i=>([a,b,c,d])[i]?.getD 0) val) _ ?_ (by show 0<4;decide) ⟨⟨_,Heap.get?_push_of_some _ s!"AG",rfl,rfl⟩,(tup.push _).push _⟩ s!"AG" fun v h' tk hP hk=>?_
 ·intro z;rcases List.mem_cons.mp z with z | z
  ·exact absurd (show s!"H]".objs.size=(Heap.push s.heap _).objs.size from z) (Nat.ne_of_gt (by rw [show (s!"AH".push _).objs.size=s!"AH".objs.size+1 from Heap.size_push ..];exact Nat.lt_succ_self _))
  ·exact absurd (show s!"H]".objs.size=T from List.mem_singleton.mp z) (by rw [hT,show (s!"AH".push _).objs.size=s!"AH".objs.size+1 from Heap.size_push ..,show s!"AH".objs.size=s.heap.objs.size+1 from Heap.size_push ..];omega)
 ·obtain ⟨b1,b2⟩:=argBest_lt (fun i=>([a,b,c,d])[i]?.getD 0) 3
  have hP':(#[Value.int a t1,.int b t2,.int c t3,.int d t4])[argBest (fun i j=>decide ((fun i=>([a,b,c,d])[i]?.getD 0) i<(fun i=>([a,b,c,d])[i]?.getD 0) j)) 3]? =some v:=hP
  generalize argBest (fun i j=>decide ((fun i=>([a,b,c,d])[i]?.getD 0) i<(fun i=>([a,b,c,d])[i]?.getD 0) j)) 3=k at*
  obtain ⟨t,ev⟩:=val k v hP';subst ev;have z0:=b2 0 s!"a"
  have z1:=b2 1 s!"a"
  have z2:=b2 2 s!"a"
  have z3:=b2 3 s!"a"
  refine ⟨.int (([a,b,c,d])[k]?.getD 0),H,I.kept (h':=h') (t':=tk) fun c o e=>hk c o (fun z=>?_) (fun z=>?_) s!"A@A@A#",⟨t,rfl⟩,q _ ?_ z0 z1 z2 z3⟩
  ·have l:=Heap.lt_size e;rw [List.mem_singleton.mp z] at l;have l2:s!"AH".objs.size<s.heap.objs.size:=l;rw [show s!"AH".objs.size=s.heap.objs.size+1 from Heap.size_push ..] at l2
   omega
  ·have l:=Heap.lt_size e;rw [z] at l;have l2:(s!"AH".push _).objs.size<s.heap.objs.size:=l;rw [show (s!"AH".push _).objs.size=s!"AH".objs.size+1 from Heap.size_push ..,show s!"AH".objs.size=s.heap.objs.size+1 from Heap.size_push ..] at l2
   omega
  ·match k,b1 with
   | 0,_=>exact .inl rfl
   | 1,_=>exact .inr s!"Aa"
   | 2,_=>exact .inr s!"uAa"
   | 3,_=>exact .inr s!"HA"
   | n+4,h=>exact absurd h s!"a"
theorem znP.Qa {i j:Str} (h:zkO K s!"A`" s!"BT" H Q):znP K s!"A`" s!"BT" H Q:=.inl h
theorem zkX (hc:Cmp K H 4 s!"h" s!"A8" b) (h:Q s!"/{(!b)}" H):zsf K s!"h" s!"A8" H Q:=.inr ⟨a,c,b,rfl,rfl,hc,h⟩
theorem yi {b:Bool} (hc:Cmp K H 4 s!"h" s!"A8" b) (h:Q s!"Br" H):znP K s!"h" s!"A8" H Q:=.inr ⟨a,c,b,rfl,rfl,hc,h⟩
theorem Cmp.to {x:V} {b':Bool} (h:Cmp K H d x y b) (e:b=b'):Cmp K H d x y b':=e▸h
theorem Cmp.ints {b:Addr} (h1:SqT K H a s!"Ao") (h2:SqT K H b s!"D,") (hl:ns.length=ms.length):Cmp K H (d+1) s!"h" s!"Bw" (decide (ns=ms)):=by
 refine (Cmp.tup (fun i=>decide (ns[i]? =ms[i]?)) h1 h2 (by simpa using hl) fun i x y hx hy=>?_).to ?_
 ·rw [List.getElem?_map] at hx hy;cases ha:ns[i]? with
  | none=>rw [ha] at hx;cases hx
  | some p=>
   cases hb:ms[i]? with
   | none=>rw [hb] at hy;cases hy
   | some q=>
    rw [ha] at hx;rw [hb] at hy;cases hx;cases hy;refine (Cmp.flat (x:=.int p) (y:=.int q) rfl rfl).to ?_;show (p==q)=decide (some p=some q);simp [BEq.beq]
 ·rw [List.length_map]
  by_cases e:ns=ms
  ·subst e;rw [decide_eq_true rfl];exact zi0 fun i _=>decide_eq_true rfl
  ·rw [decide_eq_false e];apply Bool.eq_false_iff.mpr;intro z;apply e;apply List.ext_getElem?;intro i;rw [List.all_eq_true] at z
   by_cases hi:i<ns.length
   ·exact of_decide_eq_true (z i (List.mem_range.mpr hi))
   ·rw [List.getElem?_eq_none s!"a",List.getElem?_eq_none s!"a"]
theorem Cmp.tabs {u b d:Addr} {x y z w x' y' z' w':Int} (h1:SqT K H t [.ref a,.ref b]) (h2:SqT K H u [.ref c,.ref d]) (k1:SqT K H a [.int x,.int y]) (k2:SqT K H b [.int z,.int w]) (k3:SqT K H c [.int x',.int y']) (k4:SqT K H d [.int z',.int w']):
 Cmp K H (n+2) s!">" s!"C4" (decide (x=x'/\y=y'/\z=z'/\w=w')):=by
 refine (Cmp.tup (fun i=>if i=0 then decide ([x,y]=[x',y']) else decide ([z,w]=[z',w'])) h1 h2 rfl fun i p q hp hq=>?_).to ?_
 ·match i,hp,hq with
  | 0,hp,hq=>cases hp;cases hq;exact Cmp.ints k1 k3 rfl
  | 1,hp,hq=>cases hp;cases hq;exact Cmp.ints k2 k4 rfl
 ·show (s!"A/{2}".all _)=_;simp [List.range_succ];grind
theorem zo5.Kb {a b c d:Int} (h:∀M:Int,(M=a\/M=b\/M=c\/M=d)->M<=a->M<=b->M<=c->M<=d->Q s!"BV" H):zo5 [.int a,.int b,.int c,.int d] H Q:=⟨a,b,c,d,rfl,h⟩
theorem zfZ {vs:St} (p:V->Bool) (g:V->V) (h1:SqT K H a xs) (hz:xs.length<=1000)
 (ht:∀x H' (Q':Bool->Hp->Prop),x∈xs->Same H H'->Q' (p x) H'->tc (some x::vs) H' Q')
 (he:∀x H' (Q':VK),x∈xs->p x=true->Same H H'->Q' (g x) H'->te (some x::vs) H' Q')
 (h:∀D H',Same H H'->H D=none->H' D=some s!"q{((xs.filter p).map g)}"->Q s!"%" H'):zg2 tc te vs s!"AD" H Q:=by
 intro D hD;refine ⟨fun i m zs H'=>m=xs.length-i/\i<=xs.length/\zs=(s!"Et".filter p).map g/\Same H H'/\H' D=some s!"A!",⟨xs.length,by simp,Nat.zero_le _,by simp,Same.new hD _,zb⟩,?_⟩
 rintro i m zs H' ⟨rfl,hi,rfl,hs,eD⟩;refine ⟨eD,?_⟩;have q:=hs.tup h1
 by_cases hlt:i<xs.length
 ·refine .inr ⟨⟨xs,xs[i],q,by simp [hlt]⟩,?_,fun x H2 y=>?_⟩
  ·have:=List.length_filter_le p s!"Et";rw [List.length_take] at this;rw [List.length_map];exact zf s!"a"
  ·obtain ⟨e,y⟩:=y;subst e;have hx:=y xs q;have hm:=List.mem_of_getElem? hx;refine ht x _ _ hm hs ?_;cases hp:p x with
   | true=>
    refine he x _ _ hm hp hs ⟨eD,xs.length-(i+1),by omega,rfl,hlt,?_,hs.upd hD,zb⟩
    rw [List.take_add_one,hx,List.filter_append,List.map_append];simp [hp]
   | false=>
    refine ⟨xs.length-(i+1),by omega,rfl,hlt,?_,hs,eD⟩
    rw [List.take_add_one,hx,List.filter_append,List.map_append];simp [hp]
 ·have e:i=xs.length:=by omega
  subst e;rw [List.take_length] at eD;exact .inl ⟨⟨xs,q,Nat.le_refl _⟩,h D H' hs hD eD⟩
structure ZDiff (z TI TO i1 i2:Addr) (f1 f2:List Addr):Prop where
 zTI:z≠TI
 zTO:z≠TO
 z1:z≠i1
 z2:z≠i2
 oI:TO≠TI
 o1:TO≠i1
 o2:TO≠i2
 I1:TI≠i1
 I2:TI≠i2
 ii:i1≠i2
 fz1:z∉f1
 fz2:z∉f2
 fo1:TO∉f1
 fo2:TO∉f2
 f12:i1∉f2
 f21:i2∉f1
variable {f1 f2:List Addr} {P1 P2:Nat->Value->Prop} {S1 S2:Nat->Heap->Prop}
section
variable {z TI TO i1 i2:Addr} {n1 n2 i:Nat} {a b:Value}
theorem zg (k:Heap.SameBut t h h') {o:Obj} (n:c≠t) (e:h.get? c=some o):h'.get? c=some o:=(k.2 c n).trans e
theorem yw {fp:List Addr} {P:Nat->Value->Prop} {St:Nat->Heap->Prop} (D:Draws prog w A it fp n P St) {j:Nat} (nt:t∉fp) (st:St j h) (k:Heap.SameBut t h h'):St j h':=
 D.frame j h h' st fun c hc o e=>zg k (fun q=>nt (q▸hc)) e
theorem zi3 (D1:Draws prog w A i1 f1 n1 P1 S1) (D2:Draws prog w A i2 f2 n2 P2 S2) (Z:ZDiff z TI TO i1 i2 f1 f2) (hz:IsZip s.heap z TI TO .none) (hI:IsPair s.heap TI s!"CL" s!"CM") (hO:IsPair s.heap TO a b)
 (st1:S1 i s.heap) (st2:S2 i s.heap) (l1:i<n1) (l2:i<n2) {Q:Value->Shared->Prop}
 (hQ:∀x y h' tk,P1 i x->P2 i y->IsZip h' z TI TO s!"HB"->IsPair h' TO x y->S1 (i+1) h'->S2 (i+1) h'->IsPair h' s.heap.objs.size x y->(∀c o,c≠z->c≠TO->c≠i1->c≠i2->s.heap.get? c=some o->h'.get? c=some o)->Q s!"CD" { s with heap:=h',toks:=tk }):
 wpAny s!"9" A (Builtin.«zip.__next__» ⟨[.ref z],[]⟩) (fun fin s'=>∃v,fin=.done (.ret v)/\Q v s') E s:=by
 refine wpAny_bind (wpAny_pure (a:=(Value.ref z,[])) s!"7ALB!AyAy7ALB!AyAy7Do{hI}{?_}");refine wpAny_bind s!"7ALB!AyAyAx7{wpAny_rule s!"7ALB!AyAy7{(wpAny_setField_rec hz (by show 0<5;decide) fun g1 z1 k1=>wpAny_bind ?_)}"}"
 have z1':IsZip g1 z TI TO .ellipsis:=z1;simp only [List.zipIdx_cons,List.zipIdx_nil,List.forIn_cons,List.forIn_nil];refine wpAny_bind s!"7{wpAny_onRaise s!"7{(D1.item i { s with heap:=g1 } _ _ l1 (yw D1 Z.fz1 st1 k1) fun x g2 t2 px q1 k2=>wpAny_pure ?_)}"}"
 have O2:IsPair g2 TO a b:=zg k2 Z.o1 s!"HC";refine wpAny_bind s!"Do{O2}7{(wpAny_updateSeq_pair O2 fun g3 O3 k3=>wpAny_bind (wpAny_letGo s!"A;"))}"
 refine wpAny_bind s!"7{wpAny_onRaise s!"7{(D2.item i { s with heap:=g3,toks:=t2 } _ _ l2 s!"HD" fun y g4 t4 py q2 k4=>wpAny_pure ?_)}"}"
 have O4:IsPair g4 TO x b:=zg k4 Z.o2 O3;refine wpAny_bind s!"Do{O4}7{(wpAny_updateSeq_pair O4 fun g5 O5 k5=>wpAny_bind (wpAny_letGo s!"AxA;"))}"
 have O5':IsPair g5 TO x y:=O5;have sz:g5.objs.size=s.heap.objs.size:=k5.1.trans (k4.1.trans (k3.1.trans (k2.1.trans k1.1)));have z5:IsZip g5 z TI TO .ellipsis:=zg k5 Z.zTO (zg k4 Z.z2 s!"HE");have all:∀c o,c≠z->c≠TO->c≠i1->c≠i2->s.heap.get? c=some o->g5.get? c=some o:=fun c o c1 c2 c3 c4 e=>zg k5 c2 (zg k4 c4 (zg k3 c2 (zg k2 c3 (zg k1 c1 e))))
 refine wpAny_bind s!"Do{O5'}7H(";have z6:IsZip (g5.push { cls:=.type "tuple",data:=.seq #[x,y] }) z TI TO .ellipsis:=Heap.get?_push_of_some _ z5;refine wpAny_bind s!"7{(wpAny_setField_rec z6 (by show 0<5;decide) fun g7 z7 k7=>?_)}"
 have z7':IsZip g7 z TI TO s!"HF":=z7;refine wpAny_setField_rec z7' (by show 1<5;decide) fun g8 z8 k8=>wpAny_pure ⟨_,rfl,?_⟩
 have z8':IsZip g8 z TI TO s!"HF":=z8;have up:∀c o,c≠z->g5.get? c=some o->g8.get? c=some o:=fun c o n e=>zg k8 n (zg k7 n s!"A#")
 have nz:g5.objs.size≠z:=Nat.ne_of_gt s!"AK{z5}";have r8:IsPair g8 g5.objs.size x y:=zg k8 nz (zg k7 nz s!"AG");have fin:=hQ x y g8 t4 px py;rw [<-sz] at fin;refine fin z8' (up _ _ Z.zTO.symm O5') ?_ ?_ r8 fun c o c1 c2 c3 c4 e=>up c o c1 (all c o c1 c2 c3 c4 e)
 ·exact D1.frame _ g5 g8 (yw D1 Z.fo1 (yw D1 Z.f21 (yw D1 Z.fo1 q1 k3) k4) k5) fun c hc o e=>up c o (fun q=>Z.fz1 (q▸hc)) e
 ·exact D2.frame _ g5 g8 (yw D2 Z.fo2 q2 k5) fun c hc o e=>up c o (fun q=>Z.fz2 (q▸hc)) e
theorem zkY (D1:Draws prog w A i1 f1 n1 P1 S1) (D2:Draws prog w A i2 f2 n2 P2 S2) (Z:ZDiff z TI TO i1 i2 f1 f2) (hz:IsZip s.heap z TI TO .none) (hI:IsPair s.heap TI s!"CL" s!"CM") (hO:IsPair s.heap TO a b)
 (st1:S1 i s.heap) (st2:S2 i s.heap) (ends:i=n1\/(i<n1/\i=n2)) {Q:Fin->Shared->Prop}
 (hE:∀h' tk e,(∀c o,c≠z->c≠TO->c≠i1->c≠i2->s.heap.get? c=some o->h'.get? c=some o)->(∃o,h'.get? e=some o/\o.cls=.type "StopIteration")->E s!"Ar" { s with heap:=h',toks:=tk }):
 wpAny s!"9" A (Builtin.«zip.__next__» ⟨[.ref z],[]⟩) Q E s:=by
 refine wpAny_bind (wpAny_pure (a:=(Value.ref z,[])) s!"7ALB!AyAy7ALB!AyAy7Do{hI}{?_}");refine wpAny_bind s!"7ALB!AyAyAx7{wpAny_rule s!"7ALB!AyAy7{(wpAny_setField_rec hz (by show 0<5;decide) fun g1 z1 k1=>wpAny_bind ?_)}"}"
 have z1':IsZip g1 z TI TO .ellipsis:=z1;simp only [List.zipIdx_cons,List.zipIdx_nil,List.forIn_cons,List.forIn_nil];rcases ends with rfl | ⟨l1,rfl⟩
 ·refine wpAny_bind s!"7{wpAny_onRaise s!"7{(D1.done { s with heap:=g1 } _ _ (yw D1 Z.fz1 st1 k1) fun g2 e k2 he=>?_)}"}"
  obtain ⟨oe,e1,e2⟩:=he;have z2:IsZip g2 z TI TO .ellipsis:=k2 _ _ Z.z1 z1';have ne:e≠z:=fun q=>by rw [q,z2] at e1;rw [<-Option.some.inj e1] at e2;simp at e2
  exact wpAny_setField_rec z2 (by show 0<5;decide) fun g3 _ k3=>hE g3 s.toks e (fun c o c1 _ c3 _ x=>zg k3 c1 (k2 _ _ c3 (zg k1 c1 x))) ⟨oe,zg k3 ne e1,e2⟩
 ·refine wpAny_bind s!"7{wpAny_onRaise s!"7{(D1.item i { s with heap:=g1 } _ _ l1 (yw D1 Z.fz1 st1 k1) fun x g2 t2 px q1 k2=>wpAny_pure ?_)}"}"
  have O2:IsPair g2 TO a b:=zg k2 Z.o1 s!"HC";refine wpAny_bind s!"Do{O2}7{(wpAny_updateSeq_pair O2 fun g3 O3 k3=>wpAny_bind (wpAny_letGo s!"A;"))}"
  refine wpAny_bind s!"7{wpAny_onRaise s!"7{(D2.done { s with heap:=g3,toks:=t2 } _ _ s!"HD" fun g4 e k4 he=>?_)}"}"
  obtain ⟨oe,e1,e2⟩:=he;have z4:IsZip g4 z TI TO .ellipsis:=k4 _ _ Z.z2 s!"HE";have ne:e≠z:=fun q=>by rw [q,z4] at e1;rw [<-Option.some.inj e1] at e2;simp at e2
  exact wpAny_setField_rec z4 (by show 0<5;decide) fun g5 _ k5=>hE g5 t2 e (fun c o c1 c2 c3 c4 x=>zg k5 c1 (k4 _ _ c4 (zg k3 c2 (zg k2 c3 (zg k1 c1 x))))) ⟨oe,zg k5 ne e1,e2⟩
end
abbrev zt1 (h:Heap) (t:Addr):Heap:=h.push { cls:=.type "tuple_iterator",data:=.fields #[.ref t,.int 0 0] }
section
variable {z TI TO i1 i2:Addr} {n1 n2 i:Nat} {a b:Value}
theorem zi4 {Q:Option Value->Shared->Prop} (D1:Draws prog w A.in1 i1 f1 n1 P1 S1) (D2:Draws prog w A.in1 i2 f2 n2 P2 S2) (Z:ZDiff z TI TO i1 i2 f1 f2) (hz:IsZip s.heap z TI TO .none) (hI:IsPair s.heap TI s!"CL" s!"CM") (hO:IsPair s.heap TO a b)
 (st1:S1 i s.heap) (st2:S2 i s.heap) (l1:i<n1) (l2:i<n2)
 (hQ:∀x y h' tk,P1 i x->P2 i y->IsZip h' z TI TO s!"HB"->IsPair h' TO x y->S1 (i+1) h'->S2 (i+1) h'->IsPair h' s.heap.objs.size x y->(∀c o,c≠z->c≠TO->c≠i1->c≠i2->s.heap.get? c=some o->h'.get? c=some o)->Q s!"rCD" { s with heap:=h',toks:=tk }):
 wpAny s!"9" A s!"HG" Q E s:=by
 have ty:s.TypeIs s!"4{z}" "zip":=⟨_,hz,rfl⟩;exact wpAny_bind (wpAny_attempt (wpAny_callSpecial?_slot (name:=Str.ofString "__next__") ty F.slot_zip_next (wpAny_call_entry F.slot_zip_next ty F.entry_zip_next (zi3 D1 D2 Z hz hI hO st1 st2 l1 l2 fun x y h' tk p1 p2 a1 a2 a3 a4 a5 a6=>wpAny_pure (hQ x y h' tk p1 p2 a1 a2 a3 a4 a5 a6)) s!"HH")))
theorem zi5 {Q:Option Value->Shared->Prop} (D1:Draws prog w A.in1 i1 f1 n1 P1 S1) (D2:Draws prog w A.in1 i2 f2 n2 P2 S2) (Z:ZDiff z TI TO i1 i2 f1 f2) (hz:IsZip s.heap z TI TO .none) (hI:IsPair s.heap TI s!"CL" s!"CM") (hO:IsPair s.heap TO a b)
 (st1:S1 i s.heap) (st2:S2 i s.heap) (ends:i=n1\/(i<n1/\i=n2))
 (hQ:∀h' tk,(∀c o,c≠z->c≠TO->c≠i1->c≠i2->s.heap.get? c=some o->h'.get? c=some o)->Q none { s with heap:=h',toks:=tk }):wpAny s!"9" A s!"HG" Q E s:=by
 have ty:s.TypeIs s!"4{z}" "zip":=⟨_,hz,rfl⟩;refine wpAny_bind (wpAny_attempt (wpAny_callSpecial?_slot (name:=Str.ofString "__next__") ty F.slot_zip_next (wpAny_call_entry F.slot_zip_next ty F.entry_zip_next (zkY D1 D2 Z hz hI hO st1 st2 ends fun h' tk e k he=>?_) s!"HH")))
 obtain ⟨o,e1,e2⟩:=he;exact wpAny_bind (wpAny_isInstance (T:="StopIteration") (b:=true) ⟨o,e1,e2⟩ isSubtype_stop s!"Ax{hQ h' tk k}")
end
end L2
namespace HT
open PySem PySem.Spec PyProof.Rows
section
variable {prog:Program} {w:World} {A:Around} {E:Value->Shared->Prop} {s:Shared}
end
end HT
namespace L2
open PySem PySem.Spec PyProof.Rows
variable {X:Cx} {H:Hp} {K:PySem.W.Frag}
section
variable {Q:VK}
end
variable {pins:List (Addr×Obj)} {scope:Scope} {x:Str} {ex:List Addr} {s:Shared}
variable {σ:St} {D:Ends}
section
variable {Q:VK}
end
variable {ys:List Str} {cl:List (Str×Addr)}
section
variable {Q:VK}
end
section
variable {W:Value->Option Addr->St->Hp->Prop}
end
section
variable {Q:VK}
end
def Cx.blockM (X:Cx) (pins:List (Addr×Obj)) (scope:Scope) (nm ys:List Str) (cl:List (Str×Addr)) (ex:List Addr) (s:Shared) (H:Hp):Cx:=
 { X with N:=nm++ys,s₀:=s,H₀:=H,env:=zd6 X.env scope cl s.heap.objs.size,outer:=X.stack,stack:=X.stack,ex:=ex,fn:=fun _=>false,pn:=X.pn++pins,xe:=fun _ _=>False }
variable {prog:Program} {w:World} {A:Around}
theorem ze2 {pins:List (Addr×Obj)} {scope:Scope} {nm ys:List Str} {cl:List (Str×Addr)} {ex:List Addr} {s:Shared} {H:Hp} {es:List Expr} {k:Nat} {t:TGs} {n:Nat} {pos:Pos} (hc:X.calm=true) (h:PGs s!"C5" es t)
 (hn:(assignEach es s!"C5".env).length=n:=by rfl) (hst:(assignEach es s!"C5".env).findIdx? (·.1)=none:=by rfl):PG s!"C5" s!"F6" (ziB X.K n t):=pg_tup (X:=X.blockM pins scope nm ys cl ex s H) hc h hn hst
def zo6:List V->Hp->VK->Prop:=fun xs H Q=>∃z,xs=[.str z]/\z.length<=sizeLine/\Q s!"F?" H
theorem call_lenS:zI X s!"Cy" zo6:=zeV
section
variable {Q:VK}
end
section
variable {P0:List (Addr×Obj)} {S0:Scope} {x0:Str} {Y0:List Str} {C0:List (Str×Addr)} {E0:List Addr} {s0:Shared} {H0:Hp}
end
variable {y:V} {u:Value} {o:Option V}
section
variable {κ:Type} [DecidableEq κ]
def zC (kvs:List (κ×V)) (k:κ):Option V:=(kvs.find? fun kv=>decide (kv.1=k)).map (·.2)
def xq (kvs:List (κ×V)) (k:κ) (v:V):List (κ×V):=
 if (kvs.any fun kv=>decide (kv.1=k))=true then kvs.map (fun kv=>if kv.1=k then (kv.1,v) else kv) else kvs++[(k,v)]
def yd (kvs:List (κ×V)) (k:κ):List (κ×V):=kvs.filter fun kv=>decide (kv.1≠k)
theorem zK {p:κ×V} {r:List (κ×V)} {k:κ} (e:p.1=k):zC (p::r) k=some p.2:=by simp [zC,List.find?_cons,e]
theorem zE {p:κ×V} {r:List (κ×V)} {k:κ} (e:¬p.1=k):zC (p::r) k=zC r k:=by simp [zC,List.find?_cons,e]
theorem yF (k:κ):∀kvs:List (κ×V),(kvs.any fun kv=>decide (kv.1=k))=s!"E2".isSome
 | []=>rfl
 | p::r=>by
  rw [List.any_cons]
  by_cases e:p.1=k
  ·simp only [zK e,decide_eq_true e,Bool.true_or,Option.isSome_some]
  ·rw [zE e,decide_eq_false e,Bool.false_or];exact yF k r
theorem zf0 (k j:κ) (y:V):∀kvs:List (κ×V),zC (kvs.map fun kv=>if kv.1=k then (kv.1,y) else kv) j=(zC kvs j).map fun x=>if j=k then y else x
 | []=>rfl
 | p::r=>by
  have ih:=zf0 k j y r;rw [List.map_cons]
  by_cases h:p.1=k
  ·rw [if_pos h]
   by_cases e:p.1=j
   ·rw [zK (p:=(p.1,y)) e,zK e,Option.map_some,if_pos (e.symm.trans h)]
   ·rw [zE (p:=(p.1,y)) e,zE e,ih]
  ·rw [if_neg h]
   by_cases e:p.1=j
   ·rw [zK (p:=p) e,zK e,Option.map_some,if_neg (fun z=>h (e.trans z))]
   ·rw [zE (p:=p) e,zE e,ih]
theorem zd9 (k j:κ) (y:V):∀kvs:List (κ×V),zC kvs k=none->zC (kvs++[(k,y)]) j=if j=k then some y else zC kvs j
 | [],_=>by
  by_cases e:k=j
  ·rw [if_pos e.symm];exact zK (p:=(k,y)) e
  ·rw [if_neg (fun z=>e z.symm)];exact zE (p:=(k,y)) e
 | p::r,hn=>by
  rw [List.cons_append];have hk:¬p.1=k:=fun z=>by rw [zK z] at hn;cases hn
  rw [zE hk] at hn;have ih:=zd9 k j y r hn
  by_cases e:p.1=j
  ·rw [zK e,zK e,if_neg (fun z=>hk (e.trans z))]
  ·rw [zE e,zE e,ih]
theorem zkZ (kvs:List (κ×V)) (k j:κ) (y:V):zC s!"FI" j=if j=k then some y else zC kvs j:=by
 unfold xq
 by_cases a:(kvs.any fun kv=>decide (kv.1=k))=true
 ·rw [if_pos a,zf0];rw [yF] at a
  by_cases e:j=k
  ·obtain ⟨x,hx⟩:=Option.isSome_iff_exists.mp a;rw [if_pos e,e,hx,Option.map_some,if_pos rfl]
  ·rw [if_neg e];cases zC kvs j with
   | none=>rfl
   | some x=>rw [Option.map_some,if_neg e]
 ·rw [if_neg a];refine zd9 k j y kvs ?_;rw [yF] at a;cases q:zC kvs k with
  | none=>rfl
  | some x=>rw [q] at a;exact (a rfl).elim
theorem zcl (kvs:List (κ×V)) (k:κ) (v:V):s!"C6".length<=kvs.length+1:=by
 unfold xq;split
 ·rw [List.length_map];omega
 ·rw [List.length_append,List.length_cons,List.length_nil];omega
theorem zk0 {kvs:List (κ×V)} {k:κ} (v:V) (h:zC kvs k=none):xq kvs k v=kvs++[(k,v)]:=by
 unfold xq;rw [yF,h];exact if_neg s!"c"
theorem xI.isSome_eq {u:Option Value} (r:xI o u):o.isSome=u.isSome:=by
 cases o with
 | none=>cases u with
  | none=>rfl
  | some _=>exact (show False from r).elim
 | some _=>cases u with
  | none=>exact (show False from r).elim
  | some _=>rfl
theorem xI.getD {u:Option Value} {d:V} {d':Value} (r:xI o u) (rd:zj d d'):zj (o.getD d) (u.getD d'):=by
 cases o with
 | none=>cases u with
  | none=>exact rd
  | some _=>exact (show False from r).elim
 | some _=>cases u with
  | none=>exact (show False from r).elim
  | some _=>exact r
theorem KV.val {kvs:List (κ×V)} {vs:List (κ×Value)} (r:KV kvs vs) (k:κ):xI s!"E2" (valueAt vs k):=by
 unfold KV at r
 induction r with
 | nil=>exact True.intro
 | @cons p q ps qs h t ih=>
  obtain ⟨h1,h2⟩:=h
  by_cases e:p.1=k
  ·have e':q.1=k:=h1.symm.trans e;have b:valueAt (q::qs) k=some q.2:=by simp [valueAt,List.find?_cons,e']
   rw [zK e,b];exact h2
  ·have e':¬q.1=k:=fun z=>e s!"D;"
   have b:valueAt (q::qs) k=valueAt qs k:=by simp [valueAt,List.find?_cons,e']
   rw [zE e,b];exact ih
theorem KV.any {kvs:List (κ×V)} {vs:List (κ×Value)} (r:KV kvs vs) (k:κ):(kvs.any fun kv=>decide (kv.1=k))=vs.any fun kv=>decide (kv.1=k):=by
 unfold KV at r
 induction r with
 | nil=>rfl
 | cons h t ih=>rw [List.any_cons,List.any_cons,ih,h.1]
theorem KV.repl {kvs:List (κ×V)} {vs:List (κ×Value)} (r:KV kvs vs) (k:κ) (ry:zj y u):
 KV (kvs.map fun kv=>if kv.1=k then (kv.1,y) else kv) (vs.map fun kv=>if kv.1=k then (kv.1,u) else kv):=by
 unfold KV at r ⊢
 induction r with
 | nil=>exact .nil
 | @cons p q ps qs h t ih=>
  rw [List.map_cons,List.map_cons];refine .cons ?_ ih;obtain ⟨h1,h2⟩:=h
  by_cases e:p.1=k
  ·rw [if_pos e,if_pos s!"HI"];exact ⟨h1,ry⟩
  ·rw [if_neg e,if_neg (fun z=>e s!"D;")];exact ⟨h1,h2⟩
theorem KV.put {kvs:List (κ×V)} {vs:List (κ×Value)} (r:KV kvs vs) (k:κ) (ry:zj y u):KV s!"FI" (stored vs k u):=by
 unfold xq stored;rw [r.any k]
 by_cases e:(vs.any fun kv=>decide (kv.1=k))=true
 ·rw [if_pos e,if_pos e];exact r.repl k ry
 ·rw [if_neg e,if_neg e];exact Paired.snoc r ⟨rfl,ry⟩
theorem KV.drop {kvs:List (κ×V)} {vs:List (κ×Value)} (r:KV kvs vs) (k:κ):KV s!"D<" (without vs k):=by
 unfold KV at r ⊢;unfold yd without
 induction r with
 | nil=>exact .nil
 | @cons p q ps qs h t ih=>
  obtain ⟨h1,h2⟩:=h;rw [List.filter_cons,List.filter_cons]
  by_cases e:p.1=k
  ·have a:¬decide (p.1≠k)=true:=by simp [e]
   have b:¬decide (q.1≠k)=true:=by simp [h1.symm.trans e]
   rw [if_neg a,if_neg b];exact ih
  ·have e':¬q.1=k:=fun z=>e s!"D;"
   have a:decide (p.1≠k)=true:=by simp [e]
   have b:decide (q.1≠k)=true:=by simp [e']
   rw [if_pos a,if_pos b];exact .cons ⟨h1,h2⟩ ih
theorem KV.keys {kvs:List (κ×V)} {vs:List (κ×Value)} (r:KV kvs vs):kvs.map (·.1)=vs.map (·.1):=by
 unfold KV at r
 induction r with
 | nil=>rfl
 | cons h t ih=>rw [List.map_cons,List.map_cons,ih,h.1]
theorem KV.length {kvs:List (κ×V)} {vs:List (κ×Value)} (r:KV kvs vs):kvs.length=vs.length:=Paired.length r
theorem dropK_le (kvs:List (κ×V)) (k:κ):s!"D<".length<=kvs.length:=List.length_filter_le _ _
end
variable {P:Program}
theorem zc4 {k:Key} (r:zj (kV k) u):s!"Cq".is k u=true:=by
 cases k with
 | inl i=>obtain ⟨t,e⟩:=(show ∃t,u=Value.int i t from r);subst e;exact zfP P w i t
 | inr x=>obtain ⟨t,e⟩:=(show ∃t,u=Value.str x t from r);subst e;exact zfQ P w x t
theorem zea:∀{ks:List Key} {us:List Value},zi (ks.map kV) us->ItemsAre s!"Cq" ks us
 | [],_,r=>by rw [List.map_nil] at r;cases r;exact .nil
 | k::ks,_,r=>by
  rw [List.map_cons] at r;cases r with
  | cons h t=>exact .cons (zc4 h) (zea t)
abbrev KT (H:Hp):List (List Key×V)->List (List Key×Addr×Value)->Prop:=Paired fun p q=>p.1=q.1/\H q.2.1=some s!"0{p.1.map kV}"/\zj p.2 q.2.2
variable {kvs:List (List Key×V)} {xs:List (List Key×Addr×Value)}
theorem KT.val (r:KT H kvs xs) (k:List Key):xI s!"E2" (s!"E3".map (·.2)):=by
 induction r with
 | nil=>exact True.intro
 | @cons p q ps qs h t ih=>
  obtain ⟨h1,_,h2⟩:=h
  by_cases e:p.1=k
  ·have e':q.1=k:=h1.symm.trans e;have b:atKey (q::qs) k=some q.2:=by simp [atKey,List.find?_cons,e']
   rw [zK e,b];exact h2
  ·have e':¬q.1=k:=fun z=>e s!"D;"
   have b:atKey (q::qs) k=atKey qs k:=by simp [atKey,List.find?_cons,e']
   rw [zE e,b];exact ih
theorem KT.repl (r:KT H kvs xs) (k:List Key) (ry:zj y u):
 KT H (kvs.map fun kv=>if kv.1=k then (kv.1,y) else kv) (xs.map (putAt k u)):=by
 induction r with
 | nil=>exact .nil
 | @cons p q ps qs h t ih=>
  rw [List.map_cons,List.map_cons];refine .cons ?_ ih;obtain ⟨h1,h2,h3⟩:=h;unfold putAt
  by_cases e:p.1=k
  ·rw [if_pos e,if_pos s!"HI"];exact ⟨h1,h2,ry⟩
  ·rw [if_neg e,if_neg (fun z=>e s!"D;")];exact ⟨h1,h2,h3⟩
theorem KT.put (r:KT H kvs xs) (k:List Key) {b:Addr} (hb:H b=some s!"FJ") (ry:zj y u):
 KT H s!"FI" (storedH xs k b u):=by
 have e:(kvs.any fun kv=>decide (kv.1=k))=s!"E3".isSome:=by
  rw [yF,(r.val k).isSome_eq,Option.isSome_map]
 unfold xq storedH;rw [e]
 by_cases q:s!"E3".isSome=true
 ·rw [if_pos q,if_pos q];exact r.repl k ry
 ·rw [if_neg q,if_neg q];exact Paired.snoc r ⟨rfl,hb,ry⟩
variable {H':Hp}
theorem KT.keeps (r:KT H kvs xs) (ht:∀b ys,H b=some s!"Ez"->H' b=some s!"Ez"):KT H' kvs xs:=
 Paired.mapP r fun _ _ z=>⟨z.1,ht _ _ z.2.1,z.2.2⟩
variable {h:Heap} {a:Addr}
theorem zo7 {u:HO} (ok:HOk P w H h) (e:Rd H a u):zu P w H h a u:=e.ok ok
theorem zcm {kvs:List (Key×V)} (ok:HOk P w H h) (e:Rd H a s!":"):kvs.length<=sizeLine/\(a==sysModules)=false/\∃vs,KV kvs vs/\h.DictOf s!"Cq" a vs:=
 show zu P w H h a s!":" from zo7 ok e
theorem zf1 {kvs:List (Key×V)} (ok:HOk P w H h) (e:H a=some s!":"):kvs.length<=sizeLine/\(a==sysModules)=false/\∃vs,KV kvs vs/\h.DictOf s!"Cq" a vs:=zcm ok s!"${e}"
theorem zbY {ks:List Key} (ok:HOk P w H h) (e:H a=some s!"0G|"):s!"Dw".is h ks a:=by
 obtain ⟨_,its,r,o,h1,h2,n,h3⟩:=(show zu P w H h a s!"0G|" from ok a _ e)
 exact ⟨o,its.toArray,n,h1,h2,h3,by simpa using zea r⟩
theorem zc5 (ok:HOk P w H h) (e:Rd H a s!"B."):kvs.length<=sizeLine/\(a==sysModules)=false/\
 ∃xs,KT H kvs xs/\h.DictOfH s!"Dw" a xs:=by
 obtain ⟨z,y,xs,r,o,es,ep,h1,h2,h3,h4,h5⟩:=(show zu P w H h a s!"B." from zo7 ok e)
 refine ⟨z,y,xs,r,o,es,ep,h1,h2,h3,h4,fun x hx=>?_,h5⟩
 have all:∀{l:List (List Key×V)} {m:List (List Key×Addr×Value)},KT H l m->∀x∈m,s!"Dw".is h x.1 x.2.1:=by
  intro l m q
  induction q with
  | nil=>intro x hx;exact nomatch hx
  | @cons p q ps qs hq t ih=>
   intro x hx;rcases List.mem_cons.mp hx with e | hx
   ·subst e;exact zbY ok (by rw [<-hq.1];exact hq.2.1)
   ·exact ih x hx
 exact all r x hx
theorem zsg (ok:HOk P w H h) (e:H a=some s!"B."):kvs.length<=sizeLine/\(a==sysModules)=false/\
 ∃xs,KT H kvs xs/\h.DictOfH s!"Dw" a xs:=zc5 ok s!"${e}"
def xY (H:Hp) (a:Addr) (y:V) (r:Option V):Prop:=
 (∃kvs k,Rd H a s!":"/\y=kV k/\r=zC kvs k)\/∃kvs k b,Rd H a s!"B."/\y=.ref b/\H b=some s!"FJ"/\r=zC kvs k
def zi6 (H:Hp) (a:Addr) (y v:V) (H':Hp):Prop:=
 (∃kvs k,H a=some s!":"/\y=kV k/\kvs.length<sizeLine/\H'=upd H a s!"HJ")\/
 ∃kvs k b,H a=some s!"B."/\y=.ref b/\H b=some s!"FJ"/\kvs.length<sizeLine/\H'=upd H a (.dT s!"C6")
theorem xY.k {kvs:List (Key×V)} {k:Key} (e:H a=some s!":"):xY H a (kV k) s!"E2":=.inl ⟨kvs,k,.inl e,rfl,rfl⟩
variable {v:V}
theorem zi6.k {kvs:List (Key×V)} {k:Key} (e:H a=some s!":") (hl:kvs.length<sizeLine):zi6 H a (kV k) v s!".{a}HJ":=.inl ⟨kvs,k,e,rfl,hl,rfl⟩
variable {E Q:Value->Shared->Prop} {h':Heap}
section
variable {r:Value}
theorem Inv.big (I:Inv X pins σ H s):sysModules<s.heap.objs.size:=by
 have h:mainGlobals<s.heap.objs.size:=(I.mod.glob.keeps I.bk).lt;exact Nat.lt_trans s!"c" h
theorem zi7 (hu:A.units+1<cLine) (I:Inv X pins σ H s) (g:xY H a y s!"Ai") (ry:zj y u) (h:∀w' s',Inv X pins σ H s'->zj v w'->Q w' s'):
 wpAny s!"t" A (getItem s!"h" u) Q E s:=by
 rcases g with ⟨kvs,k,e,ey,l⟩ | ⟨kvs,k,b,e,ey,eb,l⟩
 ·subst ey;obtain ⟨z,hd,vs,rel,dd⟩:=zcm I.hok e;obtain ⟨w',hw,rw'⟩:=xI.some_of (v:=v) (o:=valueAt vs k) (by rw [l];exact rel.val k)
  exact wpAny_getItem_of s!"CO" dd.mapOf hw (h w' _ s!"Bt" rw')
 ·subst ey;cases (show u=Value.ref b from ry)
  obtain ⟨z,hd,xs,rel,dd⟩:=zc5 I.hok e;obtain ⟨w',hw,rw'⟩:=xI.some_of (v:=v) (o:=s!"E3".map (·.2)) (by rw [l];exact rel.val k)
  obtain ⟨p,hp,hp2⟩:=Option.map_eq_some_iff.mp hw;refine wpAny_getItem_heap s!"E4" s!"E5" dd hp ?_;rw [hp2];exact h w' _ s!"Bt" rw'
theorem zsY (hu:A.units+1<cLine) (I:Inv X pins σ H s) (g:xY H a y o) (ry:zj y u) (h:∀s',Inv X pins σ H s'->Q (.bool o.isSome) s'):
 wpAny s!"t" A (compareOp .In u s!"h") Q E s:=by
 rcases g with ⟨kvs,k,e,ey,l⟩ | ⟨kvs,k,b,e,ey,eb,l⟩
 ·subst ey;obtain ⟨z,hd,vs,rel,dd⟩:=zcm I.hok e;refine wpAny_in_of s!"CO" hd dd.mapOf ?_;rw [<-s!"CP".isSome_eq,<-l];exact h _ s!"Bt"
 ·subst ey;cases (show u=Value.ref b from ry)
  obtain ⟨z,hd,xs,rel,dd⟩:=zc5 I.hok e;refine wpAny_in_heap s!"E4" s!"E5" hd dd ?_;have q:=s!"CP".isSome_eq;rw [Option.isSome_map] at q;rw [<-q,<-l];exact h _ s!"Bt"
theorem znS (hu:A.units+1<cLine) (I:Inv X pins σ H s) (g:xY H a y o) (ry:zj y u) (h:∀s',Inv X pins σ H s'->Q (.bool (!o.isSome)) s'):
 wpAny s!"t" A (compareOp .NotIn u s!"h") Q E s:=by
 rcases g with ⟨kvs,k,e,ey,l⟩ | ⟨kvs,k,b,e,ey,eb,l⟩
 ·subst ey;obtain ⟨z,hd,vs,rel,dd⟩:=zcm I.hok e;refine wpAny_notIn_of s!"CO" hd dd.mapOf ?_;rw [<-s!"CP".isSome_eq,<-l];exact h _ s!"Bt"
 ·subst ey;cases (show u=Value.ref b from ry)
  obtain ⟨z,hd,xs,rel,dd⟩:=zc5 I.hok e;refine wpAny_notIn_heap s!"E4" s!"E5" hd dd ?_;have q:=s!"CP".isSome_eq;rw [Option.isSome_map] at q;rw [<-q,<-l];exact h _ s!"Bt"
theorem ze3 {t':Nat} {ob:HO} (I:Inv X pins σ H s) (mu:Mut (H a)) (hs:Heap.SameBut a s.heap h') (he:∃q,h'.get? a=some q) (new:zu X.prog X.w s!".{a}{ob}" h' a ob):
 Inv X pins σ s!".{a}{ob}" { s with heap:=h',toks:=t' }:=
 I.write (x:=a) (e:=a) mu s!"Aa" (fun b q hb z=>(hs.2 b hb).trans z) he new
theorem dk_new {kvs:List (Key×V)} {vs:List (Key×Value)} (z:kvs.length<=sizeLine) (hd:(a==sysModules)=false) (rel:KV kvs vs) (dd:h'.DictOf s!"Cq" a vs):
 zu P w H' h' a s!":":=⟨z,hd,vs,rel,dd⟩
theorem zi8 {Q:Unit->Shared->Prop} (hu:A.units+1<cLine) (I:Inv X pins σ H s) (g:zi6 H a y v H') (ry:zj y u) (rv:zj v r) (h:∀s',Inv X pins σ H' s'->Q () s'):
 wpAny s!"t" A (setItem s!"h" u r) Q E s:=by
 rcases g with ⟨kvs,k,e,ey,l,eH⟩ | ⟨kvs,k,b,e,ey,eb,l,eH⟩
 ·subst ey eH;obtain ⟨z,hd,vs,rel,dd⟩:=zf1 I.hok e;have hz:vs.length<=sizeLine:=by rw [<-rel.length];exact z
  have hl:s!"C6".length<=sizeLine:=by have:=zcl kvs k v;omega
  refine wpAny_setItem_pairs (hsz:=hz) s!"CO" dd fun h' dd' hs=>h _ ?_
  have he:∃q,h'.get? a=some q:=let ⟨q,_,_,hq,_⟩:=dd';⟨q,hq⟩
  exact ze3 I (by rw [e];exact True.intro) hs he (dk_new hl hd (rel.put k rv) dd')
 ·subst ey eH;cases (show u=Value.ref b from ry)
  obtain ⟨z,hd,xs,rel,dd⟩:=zsg I.hok e;have hz:xs.length<=sizeLine:=by rw [<-Paired.length rel];exact z
  have hl:s!"C6".length<=sizeLine:=by have:=zcl kvs k v;omega
  refine wpAny_setItem_heap (hsz:=hz) s!"E4" s!"E5" dd fun h' dd' hs=>h _ ?_
  obtain ⟨q,es,ep,hq,h2,h3,h4,_,h5⟩:=dd';refine ze3 I (by rw [e];exact True.intro) hs ⟨q,hq⟩ ⟨hl,hd,_,(rel.put k eb rv).keeps fun c ys ec=>?_,q,es,ep,hq,h2,h3,h4,h5⟩
  rw [zd (wF ec e (fun z=>nomatch z))]
  exact ec
end
section
variable {kvs:List (Key×V)} {k:Key}
theorem zsh {more:List Value} (I:Inv X pins σ H s) (e:H a=some s!":") (ry:zj (kV k) u) (l:zC kvs k=some v) (hm:more=[]\/∃x,more=[x])
 (h:∀w' s',Inv X pins σ s!"HK" s'->zj v w'->Q w' s'):wpAny s!"t" A (call s!"B4{"dict.pop"}" (.ref a::u::more)) Q E s:=by
 obtain ⟨z,hd,vs,rel,dd⟩:=zf1 I.hok e;obtain ⟨w',hw,rw'⟩:=xI.some_of (v:=v) (o:=valueAt vs k) (by rw [<-l];exact rel.val k)
 have hp:(keyPart u).isSome=true:=by
  cases k with
  | inl i=>obtain ⟨t,q⟩:=(show ∃t,u=Value.int i t from ry);subst q;rfl
  | inr x=>obtain ⟨t,q⟩:=(show ∃t,u=Value.str x t from ry);subst q;rfl
 have ha:argsOk "dict.pop" ⟨.ref a::u::more,[]⟩:=by
  rcases hm with q | ⟨x,q⟩
  ·subst q;exact PySem.F.args_dict_pop_2 _ _
  ·subst q;exact PySem.F.args_dict_pop_3 _ _ _
 refine call_meetsIn PySem.F.slot_dict_pop dd.typeIs PySem.F.entry_dict_pop ha (meets_dict_pop_there s!"FK" a s!"CO" more hm hp)
  ⟨vs,w',dd,by rw [<-rel.length];exact z,hw,fun h' dd' hs=>h w' _ ?_ rw'⟩
 have he:∃q,h'.get? a=some q:=let ⟨q,_,_,hq,_⟩:=dd';⟨q,hq⟩
 exact ze3 I (by rw [e];exact True.intro) hs he (dk_new s!"B7{dropK_le kvs k}{z}" hd (rel.drop k) dd')
theorem zsi (I:Inv X pins σ H s) (e:Rd H a s!":") (h:∀t s',Inv X pins σ H s'->Q (.int kvs.length t) s'):wpAny s!"t" A (call s!"Cy" [.ref a]) Q E s:=by
 obtain ⟨z,hd,vs,rel,dd⟩:=zcm I.hok e;refine call_len_dict hd dd (by rw [<-rel.length];rw [sizeLine_eq] at z;omega) ?_
 rw [<-rel.length];exact h _ _ s!"Bt"
end
def zsj (i:Expr):Prop:=∀ov iv,subscripted i false ov iv=operate [ov,iv] (getItem ov iv)
variable {value:Expr} {pos:Pos}
theorem znT {env:Env} {slice:Expr} {T id:String}
 (hl:typeLookup s!"Ej" "__getitem__"=pure s!"rB/") (hs:zsj slice)
 (h:wpAny s!"9" A (eval value env) (fun o s₁=>wpAny s!"9" A (eval slice env) (fun i s₂=>s₂.TypeIs o T/\wpAny s!"9" A (getItem o i) Q E s₂) E s₁) E s):
 wpAny s!"9" A (eval (.Subscript value slice pos) env) Q E s:=by
 refine Subscript_ (wpAny_mono h (fun o s₁ h₁=>wpAny_mono h₁ (fun i s₂ h₂=>?_) fun _ _ x=>x) fun _ _ x=>x)
 obtain ⟨hT,h₂⟩:=h₂;unfold subscriptTail;refine wpAny_bind ?_;rw [getitemInPython_of_ne hT.not_modules];refine wpAny_bind (wpAny_specialOf hT hl ?_);have fin:wpAny s!"9" A (subscripted slice false o i) (fun r s₃=>wpAny s!"9" A (letTemporaryGo value o r >>=fun _=>pure r) Q E s₃) E s₂:=by
  rw [hs o i];exact wpAny_operating (wpAny_mono h₂ (fun r s₃ h₃=>wpAny_bind (wpAny_letTemporaryGo s!"Ax{h₃}")) fun _ _ x=>x)
 first
  | exact wpAny_pure s!"7{fin}"
  | exact wpAny_bind s!"Ax7{fin}"
  | exact wpAny_bind fin
theorem zf2 (I:Inv X pins σ H s) (g:xY H a y o):s.TypeIs s!"h" "dict":=by
 rcases g with ⟨kvs,k,e,_,_⟩ | ⟨kvs,k,b,e,_,_,_⟩
 ·obtain ⟨_,_,vs,_,dd⟩:=zcm I.hok e;exact dd.typeIs
 ·obtain ⟨_,_,xs,_,dd⟩:=zc5 I.hok e;exact dd.typeIs
def zo8 (td ty:TE):TE:=fun σ H Q=>td σ H fun x H1=>ty σ H1 fun y H2=>∃a v,x=.ref a/\xY H2 a y s!"Ai"/\Q v H2
def zsk (ty td:TE):TE:=fun σ H Q=>ty σ H fun y H1=>td σ H1 fun x H2=>∃a o,x=.ref a/\xY H2 a y o/\Q s!"/{o.isSome}" H2
def zhR (ty td:TE):TE:=fun σ H Q=>ty σ H fun y H1=>td σ H1 fun x H2=>∃a o,x=.ref a/\xY H2 a y o/\Q s!"/{(!o.isSome)}" H2
def zo9 (td ty tv:TE):TS:=fun D σ H=>tv σ H fun v H1=>td σ H1 fun x H2=>ty σ H2 fun y H3=>∃a H4,x=.ref a/\zi6 H3 a y v H4/\D.nx σ H4
variable {e:Expr} {pos':Pos} {td ty tv:TE}
section
variable {o i:Expr} {tpos:Pos}
theorem xw (hu:X.A.units+1<cLine) (ho:PE X o td) (hi:PE X i ty) (hs:zsj i):PE X (.Subscript o i pos) (zo8 td ty):=by
 intro pins s σ H Q I h;refine znT PySem.F.slot_dict_getitem.lookup hs (thn (ho pins s σ H _ I h) fun u s1 ⟨x,H1,I1,rx,q1⟩=>thn (hi pins s1 σ H1 _ I1 q1) fun iv s2 ⟨y,H2,I2,ry,a,v,ex,g,q2⟩=>?_)
 subst ex;obtain rfl:u=Value.ref a:=rx;exact ⟨zf2 I2 g,zi7 hu I2 g ry fun w' s3 I3 rw'=>⟨v,H2,I3,rw',q2⟩⟩
theorem zqD (hu:X.A.units+1<cLine) (hi:PE X i ty) (ho:PE X o td):PC X .In i o (zsk ty td):=by
 intro pins s σ H Q I h;refine thn (hi pins s σ H _ I h) fun iv s1 ⟨y,H1,I1,ry,q1⟩=>thn (ho pins s1 σ H1 _ I1 q1) fun u s2 ⟨x,H2,I2,rx,a,ov,ex,g,q2⟩=>?_
 subst ex;obtain rfl:u=Value.ref a:=rx;exact zsY hu I2 g ry fun s3 I3=>⟨.bl ov.isSome,H2,I3,rfl,q2⟩
theorem zeb (hu:X.A.units+1<cLine) (hi:PE X i ty) (ho:PE X o td):PC X .NotIn i o (zhR ty td):=by
 intro pins s σ H Q I h;refine thn (hi pins s σ H _ I h) fun iv s1 ⟨y,H1,I1,ry,q1⟩=>thn (ho pins s1 σ H1 _ I1 q1) fun u s2 ⟨x,H2,I2,rx,a,ov,ex,g,q2⟩=>?_
 subst ex;obtain rfl:u=Value.ref a:=rx;exact znS hu I2 g ry fun s3 I3=>⟨.bl (!ov.isSome),H2,I3,rfl,q2⟩
theorem ps_dput (hu:X.A.units+1<cLine) (ho:PE X o td) (hi:PE X i ty) (hv:PE X value tv) (hs:swapsWith value s!"r{.Subscript o i pos'}" pos.line X.env=pure false):
 PS X (.Assign [.Subscript o i pos'] value pos) (zo9 td ty tv):=by
 intro pins s σ H D I h;refine wpAny_Assign_Subscript (thn (hv pins s σ H _ I h) fun r s1 ⟨v,H1,I1,rv,q1⟩=>thn (ho pins s1 σ H1 _ I1 q1) fun u s2 ⟨x,H2,I2,rx,q2⟩=>thn (hi pins s2 σ H2 _ I2 q2) fun iv s3 ⟨y,H3,I3,ry,a,H4,ex,g,q3⟩=>?_) hs
 subst ex;obtain rfl:u=Value.ref a:=rx;exact zi8 hu I3 g ry rv fun s4 I4=>⟨σ,H4,I4,q3⟩
end
theorem zk1 (h:Heap) (hb:sysModules<h.objs.size):zu P w H (h.push { cls:=.type "dict",data:=.dict #[] }) h.objs.size (.dK []):=
 ⟨Nat.zero_le _,beq_eq_false_iff_ne.mpr s!"BlA2BI",[],.nil,Heap.DictOf.new h⟩
def zk2:TE:=fun _ H Q=>∀p,H p=none->Q s!")" s!".{p}{.dK []}"
theorem pe_dnewK:PE X (.Dict [] [] pos) zk2:=fun pins s σ H Q I h=>
 wpAny_Dict_empty ⟨.ref s.heap.objs.size,_,I.laid (a:=s.heap.objs.size) (o:=.dK []) (t':=s.toks) (fun _ _ q=>Heap.get?_push_of_some _ q) s!"," (zk1 s.heap I.big),rfl,h _ s!"Cw"⟩
structure M1 (X:Cx) (o:Expr) (m:Str) (apos:Pos) (e:Expr) (cpos:Pos):Prop where
 base:attributeBase o m X.env s!"D4"=eval o X.env
 few:((backTo cpos (starEach [e] X.env)).all (fun x=>!x.1) && (backToKw cpos (keywordEach [] X.env)).all (fun x=>x.1.isSome)
  && decide (([e]:List Expr).length+([]:List Keyword).length+(if ([]:List Keyword).isEmpty then 0 else 1)<30))=true
 line:(apos.endLine==cpos.line)=true
 trees:backTo cpos (starEach [e] X.env)=[(false,eval e X.env)]
def IsD (H:Hp) (a:Addr):Prop:=(∃kvs,Rd H a s!":")\/∃kvs,Rd H a s!"B."
theorem zk3 (I:Inv X pins σ H s) (d:IsD H a):
 s.TypeIs s!"h" "dict"/\(∀b,Value.ref a=.ref b->∃ob,s.heap.get? b=some ob/\ob.dict=none)/\(a==sysModules)=false:=by
 rcases d with ⟨kvs,e⟩ | ⟨kvs,e⟩
 ·obtain ⟨_,hd,vs,_,dd⟩:=zcm I.hok e;refine ⟨dd.typeIs,fun b q=>?_,hd⟩
  cases q;obtain ⟨ob,_,_,h1,h2,_⟩:=dd;exact ⟨ob,h1,h2.2.1⟩
 ·obtain ⟨_,hd,xs,_,dd⟩:=zc5 I.hok e;refine ⟨dd.typeIs,fun b q=>?_,hd⟩
  cases q;obtain ⟨ob,_,_,h1,h2,_⟩:=dd;exact ⟨ob,h1,h2.2.1⟩
section
variable {d:V} {r:Value}
theorem zqE (hu:A.units+1<cLine) (I:Inv X pins σ H s) (g:xY H a y o) (ry:zj y u) (h:∀w' s',Inv X pins σ H s'->zj s!"E6" w'->Q w' s'):
 wpAny s!"t" A (call s!"B4{"dict.get"}" [.ref a,u]) Q E s:=by
 rcases g with ⟨kvs,k,e,ey,l⟩ | ⟨kvs,k,b,e,ey,eb,l⟩
 ·subst ey;obtain ⟨z,hd,vs,rel,dd⟩:=zcm I.hok e;refine call_meetsIn PySem.F.slot_dict_get dd.typeIs PySem.F.entry_dict_get s!"HL" (meets_dict_get s!"FK" a s!"CO" hd) ⟨_,dd.mapOf,h _ _ s!"Bt" ?_⟩;rw [l];exact s!"CP".getD rfl
 ·subst ey;cases (show u=Value.ref b from ry)
  obtain ⟨z,hd,xs,rel,dd⟩:=zc5 I.hok e;refine call_meetsIn PySem.F.slot_dict_get dd.typeIs PySem.F.entry_dict_get s!"HL" (meetsH_dict_get (tupleKind s!"FK") a b hd) ⟨tupleKind_room_in1 hu,k,xs,zbY I.hok eb,dd,h _ _ s!"Bt" ?_⟩;rw [l];exact s!"CP".getD rfl
end
def zk4 (td ty:TE):TE:=fun σ H Q=>td σ H fun x H1=>∃a,x=.ref a/\IsD H1 a/\ty σ H1 fun y H2=>∃o,xY H2 a y o/\Q s!"E6" H2
def zk5 (td ty:TE):TE:=fun σ H Q=>td σ H fun x H1=>∃a,x=.ref a/\IsD H1 a/\ty σ H1 fun y H2=>∃kvs k v,H2 a=some s!":"/\y=kV k/\zC kvs k=some v/\Q v s!"FL"
section
variable {o f:Expr} {apos cpos:Pos} {tx:TE}
theorem zk6 (hu:X.A.units+1<cLine) (ho:PE X o td) (he:PE X e ty) (m:M1 X o "get" apos e cpos):PE X (.Call s!"DO{"get"}" [e] [] cpos) (zk4 td ty):=by
 intro pins s σ H Q I h;refine wpAny_Call_method m.base m.few m.line PySem.F.plainAttrs_dict PySem.F.slot_dict_get PySem.F.type_dict_get (thn (ho pins s σ H _ I h) fun u s1 ⟨x,H1,I1,rx,a,ex,d,q1⟩=>?_)
 subst ex;obtain rfl:u=Value.ref a:=rx;obtain ⟨t1,t2,_⟩:=zk3 I1 d;refine ⟨t1,t2,?_⟩;rw [m.trees];refine Calls.callWith_builtin rfl s!"EY{Calls.spliced_cons (thn (he pins s1 σ H1 _ I1 q1) fun iv s2 ⟨y,H2,I2,ry,ov,g,q2⟩=>Calls.spliced_nil ?_)}"
 exact zqE hu I2 g ry fun w' s3 I3 rw'=>⟨_,H2,I3,rw',q2⟩
theorem zf3 (ho:PE X o td) (he:PE X e ty) (m:M1 X o "pop" apos e cpos):PE X (.Call s!"DO{"pop"}" [e] [] cpos) (zk5 td ty):=by
 intro pins s σ H Q I h;refine wpAny_Call_method m.base m.few m.line PySem.F.plainAttrs_dict PySem.F.slot_dict_pop PySem.F.type_dict_pop (thn (ho pins s σ H _ I h) fun u s1 ⟨x,H1,I1,rx,a,ex,d,q1⟩=>?_)
 subst ex;obtain rfl:u=Value.ref a:=rx;obtain ⟨t1,t2,_⟩:=zk3 I1 d;refine ⟨t1,t2,?_⟩;rw [m.trees];refine Calls.callWith_builtin rfl s!"EY{Calls.spliced_cons (thn (he pins s1 σ H1 _ I1 q1) fun iv s2 ⟨y,H2,I2,ry,kvs,k,v,ea,ey,l,q2⟩=>Calls.spliced_nil ?_)}"
 subst ey;exact zsh I2 ea ry l s!"Aa" fun w' s3 I3 rw'=>⟨v,_,I3,rw',q2⟩
end
section
variable {kvs:List (Key×V)}
end
theorem zi9:zI X s!"Cy" (fun xs H Q=>∃a kvs,xs=[V.ref a]/\H a=some s!":"/\Q s!"FM" H):=by
 intro pins s σ H xs us Q I r h;obtain ⟨a,kvs,rfl,ha,q⟩:=h;obtain ⟨u,rfl,ru⟩:=xt r;cases ru;exact zsi I s!"${ha}" fun t s' I'=>⟨.int kvs.length,H,I',⟨t,rfl⟩,q⟩
section
variable {κ:Type} [DecidableEq κ]
theorem zf4 {kvs:List (κ×V)} {k:κ} (h:zC kvs k=none):¬k∈kvs.map (·.1):=by
 intro m;obtain ⟨p,hp,e⟩:=List.mem_map.mp m;have q:(kvs.any fun kv=>decide (kv.1=k))=true:=List.any_eq_true.mpr ⟨p,hp,decide_eq_true e⟩
 rw [yF,h] at q;exact absurd q s!"j"
theorem znU {kvs:List (κ×V)} {k:κ} (h:zC kvs k=some v):k∈kvs.map (·.1):=by
 have q:(kvs.any fun kv=>decide (kv.1=k))=true:=by
  rw [yF,h]
  all_goals rfl
 obtain ⟨p,hp,e⟩:=List.any_eq_true.mp q;exact List.mem_map.mpr ⟨p,hp,of_decide_eq_true e⟩
theorem zhS:∀{l:List κ} {k:κ},l.Nodup->¬k∈l->(l++[k]).Nodup
 | [],k,_,_=>by simp
 | a::r,k,h,hk=>by
  obtain ⟨h1,h2⟩:=List.nodup_cons.mp h;show (a::(r++[k])).Nodup;refine List.nodup_cons.mpr ⟨fun m=>?_,zhS h2 fun m=>hk (List.mem_cons.mpr (Or.inr m))⟩
  rcases List.mem_append.mp m with q | q
  ·exact h1 q
  ·exact hk (List.mem_cons.mpr (Or.inl (List.mem_singleton.mp q).symm))
theorem znV {kvs:List (κ×V)} {k:κ} (v:V) (hn:(kvs.map (·.1)).Nodup) (h:zC kvs k=none):(s!"C6".map (·.1)).Nodup:=by
 rw [zk0 v h,List.map_append];exact zhS hn (zf4 h)
theorem zec {p:κ×V} {r:List (κ×V)} {k:κ} (e:p.1=k):yd (p::r) k=yd r k:=by
 unfold yd;rw [List.filter_cons,if_neg (by simp [e])]
theorem zed {p:κ×V} {r:List (κ×V)} {k:κ} (e:¬p.1=k):yd (p::r) k=p::yd r k:=by
 unfold yd;rw [List.filter_cons,if_pos (by simp [e])]
theorem zee {kvs:List (κ×V)} {k:κ} {p:κ×V} (h:p∈yd kvs k):p∈kvs:=(List.mem_filter.mp h).1
theorem zc6:∀{kvs:List (κ×V)} {k:κ},(kvs.map (·.1)).Nodup->(s!"D<".map (·.1)).Nodup
 | [],_,_=>List.nodup_nil
 | p::r,k,h=>by
  have h:(p.1::r.map (·.1)).Nodup:=h
  obtain ⟨h1,h2⟩:=List.nodup_cons.mp h
  by_cases e:p.1=k
  ·rw [zec e];exact zc6 h2
  ·rw [zed e];show (p.1::(yd r k).map (·.1)).Nodup
   refine List.nodup_cons.mpr ⟨fun m=>h1 ?_,zc6 h2⟩
   obtain ⟨q,hq,eq⟩:=List.mem_map.mp m;exact List.mem_map.mpr ⟨q,zee hq,eq⟩
end
structure VKind (prog:Program) (w:World) (K:Type) [DecidableEq K] where
 is:Heap->K->Value->Prop
 hash:K->Int
 draws:K->Nat
 deep:Nat
 like:K->K->Prop
 inj:∀{h:Heap} {v:Value} {x y:K},is h x v->is h y v->x=y
 keeps:∀{h h':Heap} {k:K} {v:Value} {d:Addr} {o:Obj} {es ep},is h k v->h.get? d=some o->o.data=.dict es ep->Heap.SameBut d h h'->is h' k v
 pyHash:∀{A:Around} {E:Value->Shared->Prop} {s:Shared} {k:K} {v:Value} {Q:Int->Shared->Prop},A.units+deep<cLine->is s.heap k v->Q (hash k) { s with toks:=s.toks+draws k }->wpAny s!"9" A (PySem.pyHash v) Q E s
 eqBool:∀{A:Around} {E:Value->Shared->Prop} {s:Shared} {x y:K} {u v:Value} {Q:Bool->Shared->Prop},A.units+deep<cLine->like x y->is s.heap x u->is s.heap y v->Q (decide (x=y)) s->wpAny s!"9" A (PySem.eqBool u v) Q E s
 quiet:∀{A:Around} {E:Value->Shared->Prop} {s:Shared} {k:K} {v:Value} {n:Nat} {Q:Bool->Shared->Prop},deep<=n->is s.heap k v->Q true s->wpAny s!"9" A (eqIsQuiet n v) Q E s
section
variable {prog:Program} {w:World} {K:Type} [DecidableEq K] (knd:VKind prog w K)
end
abbrev zsZ:=Int×Int×List (Int×Int)
section
variable (P:Program) (w:World)
end
section
variable (P:Program) (w:World)
end
section
variable {xs:List (zsZ×Addr×Value)}
end
section
variable {o i:Expr}
end
section
variable {Q:VK}
theorem zk2.Q9 (h:∀p H',Same H H'->H p=none->H' p=some (.dK [])->Q s!")" H'):zk2 σ H Q:=fun p hp=>h p _ s!"B<" hp zb
def znW (n:Bool) (y x:V) (H:Hp) (Q:VK):Prop:=∃a o,x=.ref a/\xY H a y o/\Q s!"/{(if n then !o.isSome else o.isSome)}" H
theorem zsk.Qa (h:ty σ H fun y H1=>td σ H1 fun x H2=>znW false y x H2 Q):zsk ty td σ H Q:=h
theorem zhR.Qa (h:ty σ H fun y H1=>td σ H1 fun x H2=>znW true y x H2 Q):zhR ty td σ H Q:=h
def zpa (v x y:V) (σ:St) (H:Hp) (D:Ends):Prop:=∃a H4,x=.ref a/\zi6 H a y v H4/\D.nx σ H4
theorem zo9.Qa (h:tv σ H fun v H1=>td σ H1 fun x H2=>ty σ H2 fun y H3=>zpa v x y σ H3 D):zo9 td ty tv D σ H:=h
def zpb (x y:V) (H:Hp) (Q:VK):Prop:=∃a v,x=.ref a/\xY H a y s!"Ai"/\Q v H
theorem zo8.Qa (h:td σ H fun x H1=>ty σ H1 fun y H2=>zpb x y H2 Q):zo8 td ty σ H Q:=h
end
section
variable {Q:VK}
end
def zcK (wi:TI) (nm:List Str) (fr:List Nat) (g:TG) (te:TE):TE:=fun σ H Q=>wi σ H fun J H1=>wL g te ((nm.map fun _=>none)++zP fr σ) J H1 Q
section
variable {Q:VK}
end
def zpc:List V->Hp->VK->Prop:=fun xs H Q=>∃i j:Int,xs=[.int i,.int j]/\Q s!"!{(if j<i then j else i)}" H
theorem call_minI (hc:X.calm=true):zI X s!"D9" zpc:=ziH hc
theorem zpc.Q8 {Q:VK} {i j:Int} (h:∀z:Int,z=min i j->Q s!"!{z}" H):zpc [.int i,.int j] H Q:=⟨i,j,rfl,h _ (by split <;> omega)⟩
variable {te:TE}
section
variable {st:Expr} {ts:TO} {p2:Pos}
end
section
variable {Q:VK}
end
variable {d:Addr} {ep:Nat}
theorem zjb {Q:Bool->Shared->Prop} (hT:s.TypeIs s!"A," "dict") (h:Q false s):wpAny s!"9" A (Builtin.List.listLengthHint s!"A,") Q E s:=by
 unfold Builtin.List.listLengthHint;refine wpAny_bind (wpAny_specialOf hT F.slot_dict_len.lookup ?_);generalize hid:("dict.__len__":String)=id0
 wp_delta
 rw [show splitId id0=some ("dict","__len__") from by subst hid;decide+kernel]
 subst hid;refine wpAny_bind (wpAny_isInstance (T:="dict") (b:=true) hT (by rw [isSubtype_type];kernel_rfl) ?_)
 refine wpAny_ite_split (fun hab=>absurd hab s!"c") (fun _=>?_)
 refine wpAny_ite_split (fun _=>?_) (fun hab=>absurd s!"n" hab)
 refine wpAny_bind s!"HM";exact wpAny_pure h
theorem zf5 {K:Type} [DecidableEq K] {knd:KeyKind prog w K} {R:Result->Shared->Prop} {kvs:List (K×Value)} (hh:A.handled=none) (hs:(d==sysModules)=false) (hm:s.heap.DictAt knd d kvs ep)
 (hlen:kvs.length<=sizeLine) (S:Addr) (res:Value) (c₀:Nat) (hS:s.heap.get? S=some { cls:=.type "list",data:=.seq #[] c₀ })
 (hR:∀h' tk acc' c',(∀b o,b≠S->s.heap.get? b=some o->h'.get? b=some o)->h'.get? S=some { cls:=.type "list",dict:=none,data:=.seq acc' c',slots:=#[] }->
  ItemsOf (fun i v=>∃k x,kvs[i]? =some (k,x)/\knd.is k v=true) acc' kvs.length->R (.ok (.ret res)) { s with heap:=h',toks:=tk }):
 wpAny s!"9" A.in1 (Builtin.List.listExtendWith s!"4{S}" s!"A," res)
  (fun fin s'=>match fin with | .done f=>R (.ok f) s' | .again c'=>c'.quiet=true/\codeAny s!"9" A c' R s') (fun e s'=>R (.error e) s') s:=by
 have hT:s.TypeIs s!"A," "dict":=hm.dictOf.typeIs;have hSd:S≠d:=fun e=>by
  obtain ⟨o,h1,h2⟩:=hT;rw [<-e,hS] at h1;cases h1;exact absurd h2 (by show ¬Value.type "list"=Value.type "dict";decide)
 have hSlt:S<s.heap.objs.size:=Heap.lt_size hS;have hSI:S≠s.heap.objs.size:=Nat.ne_of_lt hSlt;have hdlt:d<s.heap.objs.size:=by
  obtain ⟨o,h1,_⟩:=hT;exact Heap.lt_size h1
 have hdI:d≠s.heap.objs.size:=Nat.ne_of_lt hdlt;have hSf:S∉[s.heap.objs.size,d]:=fun hm=>by
  rcases List.mem_cons.mp hm with e | e
  ·exact hSI e
  ·exact hSd (List.mem_singleton.mp e)
 have W:=(Walks.dictKeys (prog:=prog) (w:=w) (knd:=knd) (A:=A.in1) hh s.heap.objs.size d hdI kvs ep).toS;have key:∀(h:Heap) (c₁ tk:Nat),h.IsKeyIter s.heap.objs.size d 0 kvs.length ep/\h.DictAt knd d kvs ep->(∀b o,b≠S->s.heap.get? b=some o->h.get? b=some o)->
  h.get? S=some { cls:=.type "list",data:=.seq #[] c₁ }->codeAny s!"9" A (.builtin "list.extend.loop" ⟨[.ref S,.ref s.heap.objs.size,res],[]⟩) R { s with heap:=h,toks:=tk }:=by
  intro h c₁ tk hit hk hS₁;refine codeAny_extend_loopS W hlen S hSf res kvs.length 0 _ #[] c₁ rfl (Nat.zero_le _) hit hS₁ (ItemsOf.nil _) fun s' acc' c' hm hS' hacc=>?_
  rw [Moved.eq_with hm];refine hR s'.heap s'.toks acc' c' (fun b o hb e=>hm.heap b o (fun hmem=>?_) (hk b o hb e)) hS' hacc
  rcases List.mem_cons.mp hmem with e' | hmem
  ·exact hb e'
  ·exact absurd s!"AU" (by rw [List.mem_singleton.mp hmem];exact Nat.lt_irrefl _)
 unfold Builtin.List.listExtendWith;refine wpAny_bind s!"HM";have h1:Builtin.List.listSameRef s!"4{S}" s!"A,"=false:=by simp [Builtin.List.listSameRef,hSd]
 have h2:(Value.type "dict"==Value.type "list")=false:=by decide
 have h3:(Value.type "dict"==Value.type "tuple")=false:=by decide
 simp only [h1,h2,h3,Bool.or_false,Bool.false_eq_true,if_false];refine wpAny_bind (wpAny_pyIter_dict hs hm ?_);have hT1:Shared.TypeIs { s with heap:=s.heap.push { cls:=.type "dict_keyiterator",data:=.fields #[.ref d,.int 0 0,.int kvs.length 0,.int ep 0] } } s!"A," "dict":=by
  obtain ⟨o,a,b⟩:=hT;exact ⟨o,Heap.get?_push_of_some _ a,b⟩
 refine wpAny_bind s!"A*{zjb hT1 ?_}";have hS₁:=Heap.get?_push_of_some { cls:=.type "dict_keyiterator",data:=.fields #[.ref d,.int 0 0,.int kvs.length 0,.int ep 0] } hS;refine wpAny_ite_split (fun _=>?_) (fun hab=>absurd s!"n" hab)
 refine wpAny_bind (wpAny_rule ?_);refine wpAny_bind ?_;show wpAny _ _ (updateSeq S (·.push .none) >>=fun _=>updateSeq S (·.pop)) _ _ _
 refine wpAny_bind (wpAny_updateSeq hS₁ rfl ?_);have hS₂:=Heap.get?_update_self s!"C^{(·.push Value.none)}" hS₁ rfl
 refine wpAny_updateSeq (hz:=by seq_fits) hS₂ rfl ?_
 have hS₃:=Heap.get?_update_self s!"C^{(·.pop)}" hS₂ rfl
 have oth:∀b o,b≠S->(s.heap.push { cls:=.type "dict_keyiterator",data:=.fields #[.ref d,.int 0 0,.int kvs.length 0,.int ep 0] }).get? b=some o->(((s.heap.push { cls:=.type "dict_keyiterator",data:=.fields #[.ref d,.int 0 0,.int kvs.length 0,.int ep 0] }).update S s!"C^{(·.push Value.none)}").update S s!"C^{(·.pop)}").get? b=some o:=
  fun b o hb e=>s!"F<".trans (s!"F<".trans e)
 refine wpAny_pure ⟨plainId_quiet F.plain_extend_loop _,key _ _ _ ⟨?_,?_⟩ (fun b o hb e=>?_) hS₃⟩
 ·exact ⟨_,oth _ _ s!"Bl{hSI}" s!"AG",rfl,rfl⟩
 ·exact hm.at' fun o e=>oth _ _ s!"Bl{hSd}" s!"A#"
 ·exact oth b o hb s!"A#"
theorem ze4 {K:Type} [DecidableEq K] {knd:KeyKind prog w K} {kvs:List (K×Value)} {Q:List Value->Shared->Prop} (hh:A.handled=none) (hs:(d==sysModules)=false) (hm:s.heap.DictAt knd d kvs ep) (hlen:kvs.length<=sizeLine)
 (h:∀h' tk (vs:List Value),s.heap.objs.size<h'.objs.size->(∀b o,s.heap.get? b=some o->h'.get? b=some o)->vs.length=kvs.length->(∀(i:Nat) v,vs[i]? =some v->∃k x,kvs[i]? =some (k,x)/\knd.is k v=true)->Q vs { s with heap:=h',toks:=tk }):
 wpAny s!"9" A (collect s!"A,") Q E s:=by
 refine wpAny_bind (wpAny_runValue (codeAny_builtinAt F.entry_proto_collect s!"FN"));refine wpAny_bind s!"HN";refine wpAny_pure ⟨Code.quiet_builtin _ s!"n",?_⟩
 refine codeAny_builtinAt F.entry_list_iadd s!"FN";rw [zg4];refine wpAny_bind (wpAny_pure (a:=(Value.ref s.heap.objs.size,[Value.ref d])) ?_);refine zf5 (A:=A) (R:=fun r s'=>match r with | .ok (.ret v)=>wpAny s!"9" A (match v with | .ref a=>(do let o <-load a;match o.data with | .seq xs _=>pure xs.toList | _=>unsupported "internal:collect") | _=>unsupported "internal:collect") Q E s' | .ok _=>False | .error e=>E e s') (s:={ s with heap:=s.heap.push { cls:=.type "list",data:=.seq #[] } }) hh hs (hm.push _) hlen s.heap.objs.size s!"CD" 0 s!"AG" fun h' tk acc c' hk hS' hacc=>?_
 refine wpAny_bind (wpAny_load hS' ?_);refine wpAny_pure (h h' tk acc.toList s!"AK{hS'}" (fun b o e=>hk b o s!"BP" s!"A#") (by rw [Array.length_toList];exact hacc.1) fun i v hv=>hacc.2 i v (by simpa using hv))
section
variable {Q:VK}
end
variable {l:Addr} {oe:Obj}
section
variable {it:Addr}
theorem zdB:entryFor table "proto.unchain"=some Builtin.«proto.unchain»:=entryFor_of_fast s!"Ah"
def zbZ (A:Around) (a:Addr) (oe:Obj) (h:Heap):Prop:=A.handled=some s!"h"/\h.get? a=some oe/\∃vs,oe.data=.fields vs/\vs[2]? =some .none
theorem ze5 {v:Value} {tg:Bool} (hb:zbZ A a oe s.heap) (k:Q .none s):wpAny s!"9" A (runValue (.builtin "proto.unchain" ⟨[v,.ref a,.ref a,.bool tg],[]⟩)) Q E s:=by
 obtain ⟨_,ha,vs,hd,v2⟩:=hb;refine wpAny_runValue (codeAny_builtinAt zdB s!"FN");refine wpAny_bind s!"AL{ha}{hd}{v2}{?_}";rw [if_pos (by rfl)]
 exact wpAny_pure k
theorem zdC {α:Type} {Q:α->Shared->Prop} {e:Addr} {o:Obj} {ws:Array Value} (hb:zbZ A a oe s.heap) (hne:e≠a) (he:s.heap.get? e=some o) (hw:o.data=.fields ws) (hz:2<ws.size) (k:E s!"Ar" { s with heap:=s.heap.update e (Obj.mapFields (·.setIfInBounds 2 s!"h")) }):
 wpAny s!"9" A (raiseNew s!"Ar":Sem α) Q E s:=by
 unfold raiseNew;refine wpAny_bind (wpAny_handled ?_);rw [hb.1];show wpAny _ _ (if (Value.ref a !=Value.ref e)=true then _ else _) _ _ _
 rw [if_pos (by simp;exact fun z=>hne z.symm)]
 refine wpAny_bind s!"A*{ze5 hb ?_}";refine wpAny_bind ?_;unfold updateField;refine wpAny_bind (wpAny_load he ?_);rw [hw];show wpAny _ _ (if 2<ws.size then _ else _) _ _ _
 rw [if_pos hz];refine wpAny_update he ?_;exact wpAny_throw k
theorem zbZ.ext (x:zbZ A a oe h) (k:h'.get? a=some oe):zbZ A a oe h':=⟨x.1,k,x.2.2⟩
end
def zk8 (K:PySem.W.Frag):V->List V->Hp->VK->Prop:=fun x vs H Q=>∃(sep:Str) (l:Addr) (ws:List Str),x=.str sep/\vs=[.ref l]/\SqL K H l s!"D="/\JoinOk sep ws=true/\Q s!"oE7" H
theorem zhT:∀{ws:List Str} {us:List Value},zi s!"D=" us->∃l:List (Str×Tok),us=strValues l/\l.map (·.1)=ws
 | [],us,r=>by
  cases r;exact ⟨[],rfl,rfl⟩
 | x::xs,us,r=>by
  cases r with
  | cons r1 r2=>
   obtain ⟨t,rfl⟩:=r1;obtain ⟨l,rfl,e⟩:=zhT r2;exact ⟨(x,t)::l,rfl,by rw [List.map_cons,e]⟩
theorem yT:MtR X "str.join" (zk8 X.K):=by
 intro pins s σ H x vs v us Q I rx rv h;obtain ⟨sep,l,ws,rfl,rfl,hq,hok,q⟩:=h;obtain ⟨t,rfl⟩:=rx;obtain ⟨u,rfl,ru⟩:=rv.one;cases ru;obtain ⟨its,r,p,hz⟩:=I.list hq;obtain ⟨l',rfl,e⟩:=zhT r;exact SC.join p.isList e hok fun t' k=>⟨.str _,H,I.tok k,⟨_,rfl⟩,q⟩
section
variable {Q:VK}
theorem yo {sep:Str} (ws:List Str) (h1:SqL K H l s!"D=") (h2:JoinOk sep ws=true) (h:Q s!"oE7" H):zk8 K s!"o{sep}" [.ref l] H Q:=⟨sep,l,ws,rfl,rfl,h1,h2,h⟩
theorem zc7 {xs:List V} (ys:List V) (h1:SqT K H a xs) (hlen:ys.length=xs.length) (hz:xs.length<=1000) (he:∀(i:Nat) x y H' (Q':VK),xs[i]? =some x->ys[i]? =some y->Same H H'->(∀H2,Same H' H2->Q' y H2)->te [some x] H' Q') (h:∀D H',Same H H'->H D=none->H' D=some s!"Az"->Q s!"%" H'):zg1 K te s!"h" H Q:=by
 refine ⟨a,rfl,⟨xs,h1⟩,fun D hD=>⟨fun i m zs H'=>m=xs.length-i/\i<=xs.length/\zs=ys.take i/\Same H H'/\H' D=some s!"A!",⟨xs.length,by simp,Nat.zero_le _,by simp,Same.new hD _,zb⟩,?_⟩⟩
 rintro i m zs H' ⟨rfl,hi,rfl,hs,eD⟩;refine ⟨eD,?_⟩;have q:=hs.tup h1
 by_cases hlt:i<xs.length
 ·refine .inr ⟨⟨xs,xs[i],q,by simp [hlt]⟩,?_,fun x H2 y=>?_⟩
  ·rw [List.length_take];exact zf s!"a"
  ·obtain ⟨e,y⟩:=y;subst e;have hx:=y xs q;obtain ⟨z,hz'⟩:∃z,ys[i]? =some z:=⟨_,List.getElem?_eq_getElem s!"a"⟩
   refine he i x z _ _ hx hz' hs fun H2 s2=>⟨s2.obj eD,xs.length-(i+1),by omega,rfl,hlt,?_,s!"BU".upd hD,zb⟩
   rw [List.take_add_one,hz'];rfl
 ·have e:i=xs.length:=by omega
  subst e;refine .inl ⟨⟨xs,q,Nat.le_refl _⟩,h D H' hs hD ?_⟩;rw [<-hlen,List.take_length] at eD;exact eD
end
def zk9:R2:=fun x y H Q=>∃i j,x=.str i/\y=.str j/\i.length+j.length<=sizeLine/\Q s!"o{(i++j)}" H
theorem zB:OpR X s!"Cu" zk9:=zgN
section
variable {Q:VK}
theorem zn0 {i j:Str} (hz:i.length+j.length<=sizeLine) (h:Q s!"o{(i++j)}" H):zk9 s!"A`" s!"BT" H Q:=⟨i,j,rfl,rfl,hz,h⟩
end
end L2
namespace L2
open PySem PySem.Spec PyProof.Rows PySem.W
abbrev bmV:List Value:=[.type "ValueError",.type "Exception",.type "BaseException",.type "object"]
variable {mN:Str->Option Value} {us:List Value} {fI:Addr} {oI:Obj} {s:Shared} {env:Env} {Q:Flow->Shared->Prop}
section
variable {prog:Program} {w:World} {A:Around} {E:Value->Shared->Prop} {hp:Heap} {gn:Array GenState} {dr:Drawn} {tk:Nat} {oS:OsState}
variable {nm qn:Str} {C N:Addr} {bs tl bmB:List Value} {hd0:Bool} {sn:List Str} {sb:List Value} {ab:Bool} {col:Option Bool} {dd:Option Addr} {k0 k1 k2 k3 k5:Option Value} {B nI iI:String}
theorem zdD (F:ExcBaseFacts B nI iI bmB) (T:OwnTail hp bmB tl) {Q:PySem.Fin->Shared->Prop}
 (cC:hp.get? C=some s!"FO") (cN:hp.Ns N mN) (cI:mN "__init__"=some s!"D>") (oF:hp.get? fI=some oI) (tF:oI.cls=.type "function")
 (go:∀h1 e,Heap.MadeExcOf hp h1 e s!"s" us->wpAny s!"9" A (call s!"D>" (.ref e::us)) (fun r s1=>r=.none/\Q (.done (.ret s!"Ar")) s1) E ⟨h1,gn,dr,tk,oS⟩) (hz:us.length<=sizeLine):
 wpAny s!"9" A (Builtin.«type.__call__» ⟨.ref C::us,[]⟩) Q E ⟨hp,gn,dr,tk,oS⟩:=by
 repeat (first | (with_reducible refine wpAny_loadPart_at cC ?_) | (with_reducible refine wpAny_madeBy_exc cC ?_) | walk_at "wp")
 refine codeAny_call_builtin_code (Code.quiet_builtin _ F.quiet) (wpAny_check_new_subT F T cC (codeAny_exc_new_subT F T cC ?_ hz));show wpAny _ _ _ _ _ _;let ot:Obj:={ cls:=.type "tuple",data:=.seq us.toArray }
 let ox:Obj:={ cls:=.ref C,data:=.fields #[.ref hp.objs.size,.none,.none,.none,.bool false,.none] }
 have up:∀b o,hp.get? b=some o->((hp.push ot).push ox).get? b=some o:=fun b o q=>Heap.get?_push_of_some _ s!"F("
 have c1:=up _ _ cC;have n1:=cN.keeps up;have T1:=T.keeps up;have g1:((hp.push ot).push ox).get? (hp.objs.size+1)=some ox:=by heap_get
 have m1:(Value.ref C::tl).contains s!"s"=true:=by simp
 unfold isInstance
 repeat (first | (with_reducible refine wpAny_loadPart_at g1 ?_) | (with_reducible refine wpAny_isSubtype_exc c1 ?_;rw [m1]) | walk_at "wp")
 show wpAny _ _ (typeLookup s!"s" _) _ _ _;refine wpAny_typeLookup_tail c1 n1 T1 F.mroIs F.init.lookup ?_;rw [cI];refine wpAny_holding s!"Ef";unfold bindSpecial;refine wpAny_bind (wpAny_typeOf (T:="function") ⟨_,up _ _ oF,tF⟩ ?_);rw [if_pos s!"c"]
 refine wpAny_pure s!"7{(wpAny_mono (go _ (hp.objs.size+1) ⟨up,Heap.get?_none_of_le s!"H7",hp.objs.size,g1,Heap.get?_none_of_le s!",",?_⟩) (fun r s1 hr=>?_) fun _ _ z=>z)}"
 ·exact Heap.get?_push_of_some _ s!"HO"
 ·obtain ⟨rfl,q⟩:=hr
  repeat walk_at "wp"
  exact q
theorem zla (F:ExcBaseFacts B nI iI bmB) (T:OwnTail hp bmB tl) {Q:Value->Shared->Prop}
 (cC:hp.get? C=some s!"FO") (cN:hp.Ns N mN) (cI:mN "__init__"=some s!"D>") (oF:hp.get? fI=some oI) (tF:oI.cls=.type "function")
 (go:∀h1 e,Heap.MadeExcOf hp h1 e s!"s" us->wpAny s!"9" (A.under (.builtin "type.__call__" ⟨.ref C::us,[]⟩)) (call s!"D>" (.ref e::us)) (fun r s1=>r=.none/\Q s!"Ar" s1) E ⟨h1,gn,dr,tk,oS⟩) (hz:us.length<=sizeLine):
 wpAny s!"9" A s!"H5" Q E ⟨hp,gn,dr,tk,oS⟩:=by
 have y1:=tc_lookup;have y2:=tc_bind s!"s";have y3:(⟨hp,gn,dr,tk,oS⟩:Shared).TypeIs s!"s" "type":=⟨_,cC,rfl⟩;refine wpAny_call (codeAny_of_tree ?_);show wpAny _ _ (callAny s!"s" _) _ _ _
 repeat (any_goals (first | assumption | (with_reducible refine wpAny_loadPart_at cC ?_) | wp_step))
 exact ⟨rfl,codeAny_call_builtin_at (Code.quiet_builtin _ s!"n") entry_typeCall (wpAny_check_type_call_sub cC (zdD F T cC cN cI oF tF go hz))⟩
theorem zdE {M:Model} {x:Sem Value} (hb:tl.contains s!"AF"=true) (hh:A.handled=none)
 (go:wpAny M A x (fun v s1=>∃e t dx,v=.ref e/\s1.heap.get? C=some (excClassObj nm qn C N bs tl hd0 sn sb ab col dd k0 k1 k2 k3 k5 nI)/\
  s1.heap.get? e=some { cls:=.ref C,dict:=some dx,data:=.fields #[.ref t,.none,.none,.none,.bool false,.none] }/\E (.ref e) s1) E s):wpAny M A (raiseStmt env (some x) none) Q E s:=by
 have m1:(Value.ref C::tl).contains s!"AF"=true:=by rw [List.contains_cons,hb,Bool.or_true]
 unfold raiseStmt;refine wpAny_bind (wpAny_mono go (fun v s1 q=>?_) fun _ _ z=>z)
 obtain ⟨e,t,dx,rfl,cC,oE,q⟩:=q;obtain ⟨h1,g1,d1,t1,o1⟩:=s1
 repeat (first | (with_reducible refine wpAny_loadPart_at oE ?_) | (with_reducible refine wpAny_loadPart_at cC ?_) | (with_reducible refine wpAny_isSubtype_exc cC ?_;rw [m1]) | walk_at "wp")
 exact wpAny_raiseNew_none hh q
theorem zjc (F:ExcBaseFacts B nI iI bmB) {mN:Str->Option Value} {x:Str} {np cpos pos:Pos} {args:List Expr} {oI:Obj} (hb:tl.contains s!"AF"=true) (hh:A.handled=none)
 (hpl:(backTo cpos (starEach args env)).any (·.1)=false) (cI:mN "__init__"=some s!"D>") (tF:oI.cls=.type "function")
 (go:wpAny (model prog w) A (eval (.Name x np) env) (fun f s1=>f=.ref C/\wpAny (model prog w) A (evalArgs (.ref C) true (backTo cpos (starEach args env)) [])
  (fun a s2=>a.kw=[]/\a.pos.length<=sizeLine/\s2.heap.get? C=some (excClassObj nm qn C N bs tl hd0 sn sb ab col dd k0 k1 k2 k3 k5 nI)/\s2.heap.Ns N mN/\OwnTail s2.heap bmB tl/\s2.heap.get? fI=some oI/\
   ∀h1 e,Heap.MadeExcOf s2.heap h1 e (.ref C) a.pos->wpAny (model prog w) (A.under (.builtin "type.__call__" ⟨.ref C::a.pos,[]⟩)) (call (.ref fI) (.ref e::a.pos)) (fun r s3=>r=.none/\
    s3.heap.get? C=some (excClassObj nm qn C N bs tl hd0 sn sb ab col dd k0 k1 k2 k3 k5 nI)/\(∃t dx,s3.heap.get? e=some { cls:=.ref C,dict:=some dx,data:=.fields #[.ref t,.none,.none,.none,.bool false,.none] })/\E (.ref e) s3) E { s2 with heap:=h1 }) E s1) E s):
 wpAny s!"9" A (exec (.Raise s!"r{.Call (.Name x np) args [] cpos}" none pos) env) Q E s:=by
 rw [arm_exec_Raise];simp only [evalOpt,Option.map];refine wpAny_bind s!"C<{(zdE (C:=C) (nm:=nm) (qn:=qn) (N:=N) (bs:=bs) (tl:=tl) (hd0:=hd0) (sn:=sn) (sb:=sb) (ab:=ab) (col:=col) (dd:=dd) (k0:=k0) (k1:=k1) (k2:=k2) (k3:=k3) (k5:=k5) (nI:=nI) hb hh ?_)}";refine wpAny_bind (wpAny_mono (wpAny_Call_ofName (wpAny_mono go (fun f s1 q1=>?_) fun _ _ z=>z)) (fun v s3 q3=>wpAny_bind s!"C<Ax{q3}") fun _ _ z=>z)
 obtain ⟨rfl,q1⟩:=q1;unfold callWith;refine wpAny_bind s!"A*{(wpAny_mono q1 (fun a s2 q2=>wpAny_bind s!"Ed") fun _ _ z=>z)}"
 obtain ⟨ap,ak⟩:=a;obtain ⟨z0,z1,cC,cN,T,oF,q2⟩:=q2;obtain rfl:ak=[]:=z0;obtain ⟨h2,g2,d2,t2,o2⟩:=s2;simp only [hpl];refine wpAny_bind (wpAny_keeperOf_exc cC ?_);refine wpAny_bind (zla F T cC cN cI oF tF (fun h1 e hm=>?_) z1)
 refine wpAny_mono (q2 h1 e hm) (fun r s3 q3=>?_) fun _ _ z=>z
 obtain ⟨rfl,c3,⟨t3,d3,e3⟩,q3⟩:=q3;exact ⟨rfl,wpAny_bind s!"A*{wpAny_point s!"Ax{⟨e,t3,d3,rfl,c3,e3,q3⟩}"}"⟩
end
end L2
namespace L2
open PySem PySem.Spec PyProof.Rows PySem.W Builtin Builtin.ObjectAttr
variable {prog:Program} {w:World} {A:Around} {E:Value->Shared->Prop}
section
variable {hp:Heap} {gn:Array GenState} {dr:Drawn} {tk:Nat} {oS:OsState}
variable {nm qn:Str} {C N:Addr} {bs tl bmB:List Value} {hd0:Bool} {sn:List Str} {sb:List Value} {ab:Bool} {col:Option Bool} {dd:Option Addr} {k0 k1 k2 k3 k5:Option Value} {B nI iI:String}
theorem zlb (F:ExcBaseFacts B nI iI bmB) (T:OwnTail hp bmB tl) {us:List Value} {e t:Addr} {Q:Value->Shared->Prop} (cC:hp.get? C=some s!"FO")
 (oE:hp.get? e=some { cls:=.ref C,data:=.fields #[.ref t,.none,.none,.none,.bool false,.none] }) (hz:us.length<=sizeLine)
 (go:∀h1 t1,(∀b o,b≠e->hp.get? b=some o->h1.get? b=some o)->h1.get? e=some { cls:=.ref C,data:=.fields #[.ref t1,.none,.none,.none,.bool false,.none] }->Q .none ⟨h1,gn,dr,tk,oS⟩):
 wpAny s!"9" A (call s!"B4{iI}" (.ref e::us)) Q E ⟨hp,gn,dr,tk,oS⟩:=by
 refine wpAny_call (codeAny_call_builtin F.init.plain F.initEntry (wpAny_check_init_subT F T cC oE rfl ?_))
 repeat walk_at "wp"
 refine go _ hp.objs.size (fun b o ne q=>?_) ?_
 ·rw [Heap.get?_update_other _ _ s!"Bl{ne}"];exact Heap.get?_push_of_some _ q
 ·rw [Heap.get?_update_self _ s!"A@{oE}" rfl];rfl
end
def zcn:List Value->Bool
 | .ref _::r=>zcn r
 | l=>l==bmV
variable {v:Value}
theorem overV_cons {r:List Value} (h:zcn (v::r)=true):(∃c,v=.ref c/\zcn r=true)\/v::r=bmV:=by
 unfold zcn at h;split at h
 ·rename_i q;cases q;exact .inl ⟨_,rfl,h⟩
 ·exact .inr (beq_iff_eq.mp h)
theorem zbg (self:Value):∀{l:List Value},zcn l=true->refuseLoop self "__setattr__" l=pure ()
 | [],e=>by cases e
 | v::r,e=>by
  rcases overV_cons e with ⟨c,rfl,q⟩ | q
  ·rw [refuseLoop_ref];exact zbg self q
  ·rw [q];exact PySem.F.store_ValueError.passes self
theorem zef:∀{l:List Value},zcn l=true->l.contains s!"Cv"=true
 | [],e=>by cases e
 | v::r,e=>by
  rcases overV_cons e with ⟨c,rfl,q⟩ | q
  ·rw [List.contains_cons,zef q,Bool.or_true]
  ·rw [q];decide
structure IniK (K:PySem.W.Frag) (C:Addr) (fld:Str):Prop where
 sa:findIn K s!"s" "__setattr__"=some s!"D!"
 nf:findIn K s!"s" fld=some none
 ov:s!"CK".any (fun cd=>zcn cd.mro && cd.hasDict)=true
section
variable {s:Shared} {K:PySem.W.Frag} {e C t:Addr} {fld:Str}
theorem zjd {Q:Unit->Shared->Prop} (X:K.In s.heap) (Z:IniK K C fld) (oE:s.heap.get? e=some { cls:=.ref C,data:=.fields #[.ref t,.none,.none,.none,.bool false,.none] })
 (go:∀h1 d tk',s.heap.get? d=none->h1.Ns1 d (fun y=>if y=fld then some v else none)->h1.get? e=some { cls:=.ref C,dict:=some d,data:=.fields #[.ref t,.none,.none,.none,.bool false,.none] }->(∀b o,b≠e->s.heap.get? b=some o->h1.get? b=some o)->Q () { s with heap:=h1,toks:=tk' }):
 wpAny s!"9" A (setAttr s!"Ar" fld v) Q E s:=by
 have I:InstAt s.heap e { cls:=.ref C,data:=.fields #[.ref t,.none,.none,.none,.bool false,.none] } C none:=⟨oE,rfl,rfl,trivial⟩;refine set_plain X I Z.sa ?_;have SF:=PySem.F.store_object;obtain ⟨cd,hc,hb⟩:=any_some Z.ov;obtain ⟨h1,h2⟩:=Bool.and_eq_true_iff.mp hb;have ne:cd.mro.isEmpty=false:=by
  cases q:cd.mro with
  | nil=>rw [q] at h1;cases h1
  | cons _ _=>rfl
 have sub:Looks s!"9" s.heap (isInstance s!"Ar" s!"Cv") true:=I.type.andThen (looks_mroIn X (by unfold mroIn;rw [hc,Option.bind_some,if_neg (by rw [ne];decide),zef h1]))
 have hm:Looks s!"9" s.heap (mroOf s!"s") cd.mro:=(looks_clsIn X hc).andThen .now;refine codeAny_call_builtin SF.slot.plain SF.entry (@check_slot s!"9" _ _ { s with toks:=s.toks+1 } "object.__setattr__" "object" "__setattr__" s!"Ar" [.str fld s.toks,v] [] _ SF.kind SF.split sub (SF.args s!"Ar" s!"HP" v) ?_)
 rw [osa_eq,refuse_eq];refine wpAny_bind s!"7{I.type _ _ _ _ (fun _ _ q=>q) s!"7{hm _ _ _ _ (fun _ _ q=>q) ?_}"}"
 rw [zbg _ h1];refine wpAny_pure s!"7{I.type _ _ _ _ (fun _ _ q=>q) s!"7{looks_findIn X Z.nf _ _ _ _ (fun _ _ q=>q) s!"F:"}"}"
 show wpAny _ _ (storeInOwnDict s!"Ar" s!"s" s!"HP" fld v _) _ _ _;unfold storeInOwnDict ownDictForStores instanceDict;refine wpAny_bind s!"A;";refine wpAny_bind s!"7{wpAny_loadPart oE s!"7{looks_clsIn X hc _ _ _ _ (fun _ _ q=>q) ?_}"}"
 obtain ⟨hh,gg,dd,tt,os⟩:=s;dsimp only at oE go ⊢;rw [h2];have x1:(hh.push { cls:=.type "dict",data:=.dict #[] }).get? e=some { cls:=.ref C,data:=.fields #[.ref t,.none,.none,.none,.bool false,.none] }:=Heap.get?_push_of_some _ oE;have ne2:e≠hh.objs.size:=Nat.ne_of_lt s!"AK{oE}";refine wpAny_bind (wpAny_alloc' s!"7{wpAny_update' x1 s!"A;"}");have g1:((hh.push { cls:=.type "dict",data:=.dict #[] }).update e fun o=>{ o with dict:=some hh.objs.size }).get? hh.objs.size=some { cls:=.type "dict",data:=.dict #[] }:=
  (Heap.get?_update_ne _ _ _ _ ne2.symm).trans s!"HO"
 have n1:((hh.push { cls:=.type "dict",data:=.dict #[] }).update e fun o=>{ o with dict:=some hh.objs.size }).Ns hh.objs.size (fun _=>none):=⟨_,#[],_,g1,rfl,fun y hy=>absurd hy s!"j",fun _=>rfl⟩
 show wpAny _ _ (storeInDict hh.objs.size (.str fld tt) fld v) _ _ _;unfold storeInDict newKeyGuard;refine wpAny_bind s!"Ax7{(wpAny_nsSet1 (Heap.Ns1.of_empty n1) fun h3 n3 k3=>?_)}"
 obtain ⟨oD,esD,epD,hoD,hdD,hcD⟩:=n3.count (Within.cons fld v Within.nil);refine wpAny_bind (wpAny_lookBehind hoD (by rw [hdD];exact pastItsLine_dict s!"B7{hcD}{by rw [List.length_cons,List.length_nil,sizeLine_eq];omega}") ?_)
 refine wpAny_pure ?_;refine go h3 hh.objs.size _ (Heap.get?_none_of_le s!",") n3 ?_ fun b o nb q=>?_
 ·exact (k3.2 e ne2).trans (Heap.get?_update_self _ x1 rfl)
 ·exact (k3.2 b s!"A2AK{q}").trans ((Heap.get?_update_ne _ _ _ _ nb).trans s!"F(")
end
end L2
namespace L2
open PySem PySem.Spec PyProof.Rows PySem.W
def ExN (C e:Addr):HO:=.ext fun h=>∃t:Addr,h.get? e=some { cls:=.ref C,data:=.fields #[.ref t,.none,.none,.none,.bool false,.none] }
def ExD (C d e:Addr):HO:=.ext fun h=>∃t:Addr,h.get? e=some { cls:=.ref C,dict:=some d,data:=.fields #[.ref t,.none,.none,.none,.bool false,.none] }
variable {H:Hp} {P:Program} {w:World} {h:Heap} {C:Addr}
theorem ExN.ok {e t:Addr} (q:h.get? e=some { cls:=.ref C,data:=.fields #[.ref t,.none,.none,.none,.bool false,.none] }):zu P w H h e (ExN C e):=
 ⟨⟨t,q⟩,⟨_,q⟩,fun _ _ ⟨t',q'⟩ k=>⟨t',k _ q'⟩⟩
variable {d:Addr}
theorem ExD.ok {e t:Addr} (q:h.get? e=some { cls:=.ref C,dict:=some d,data:=.fields #[.ref t,.none,.none,.none,.bool false,.none] }):zu P w H h e (ExD C d e):=
 ⟨⟨t,q⟩,⟨_,q⟩,fun _ _ ⟨t',q'⟩ k=>⟨t',k _ q'⟩⟩
def rem (H:Hp) (a:Addr):Hp:=fun b=>if b=a then none else H b
variable {a:Addr}
theorem zc8:rem H a a=none:=by unfold rem;rw [if_pos rfl]
theorem wM {b:Addr} (h:b≠a):rem H a b=H b:=by unfold rem;rw [if_neg h]
variable {X:Cx} {σ:St} {s:Shared}
section
variable {pins:List (Addr×Obj)}
theorem Inv.drop {e:Addr} {φ:Heap->Prop} (I:Inv X pins σ H s) (he:H e=some (.ext φ)):Inv X pins σ (rem H e) s:=by
 have ne:∀{b:Addr} {u:HO},H b=some u->(∀ψ,u≠.ext ψ)->b≠e:=fun {b u} q n z=>by
  subst z;rw [he] at q;exact n _ s!"HQ".symm
 have z:Inv X pins σ (rem H e) { s with heap:=s.heap,toks:=s.toks }:=by
  refine I.un (H':=rem H e) (h':=s.heap) (t':=s.toks) ⟨fun b o q _ _ _=>q,fun b o q _ _ _=>⟨o.slots,q⟩,fun b o _ n _=>?_,fun b o q _=>⟨o,q⟩,fun b xs q=>?_,fun b o u q=>?_,fun b ps q=>⟨#[],?_⟩⟩ fun b u q=>?_
  ·by_cases y:b=e
   ·rw [y];exact zc8
   ·rw [wM y];exact n
  ·rw [wM (ne q fun ψ y=>nomatch y)];exact q
  ·rw [wM (ne q fun ψ y=>nomatch y)];exact q
  ·rw [wM (ne q fun ψ y=>nomatch y),Array.append_empty];exact q
  ·have y:b≠e:=fun y=>by rw [y,zc8] at q;cases q
   rw [wM y] at q;exact s!"FA".stay (fun _ _ _ q=>q) (fun c q=>by rw [wM (ne q fun ψ y=>nomatch y)];exact q) fun c xs q=>by rw [wM (ne q fun ψ y=>nomatch y)];exact q
 exact z
theorem Inv.laidN {h':Heap} {o:HO} {t':Nat} (I:Inv X pins σ H s) (k:∀b u,s.heap.get? b=some u->h'.get? b=some u) (hn:s.heap.get? a=none) (new:zu X.prog X.w s!"Cr" h' a o):
 Inv X pins σ s!"Cr" { s with heap:=h',toks:=t' }:=by
 have ha:H a=none:=by
  cases q:H a with
  | none=>rfl
  | some u=>
   obtain ⟨ob,e1⟩:=(I.hok a u q).at
   rw [hn] at e1;cases e1
 have ne:∀{b:Addr} {u:HO},H b=some u->b≠a:=fun {b u} q z=>by rw [z,ha] at q;cases q
 refine I.un ⟨fun b o q _ _ _=>k b o q,fun b o q _ _ _=>⟨o.slots,k b o q⟩,fun b o q n _=>?_,fun b o q _=>⟨o,k b o q⟩,fun b xs q=>?_,fun b o u q=>?_,fun b ps q=>⟨#[],?_⟩⟩ fun b u q=>?_
 ·rw [zd (fun z=>by rw [z,hn] at q;cases q)];exact n
 ·rw [zd (ne q)];exact q
 ·rw [zd (ne q)];exact q
 ·rw [zd (ne q),Array.append_empty];exact q
 ·by_cases y:b=a
  ·subst y;rw [zb] at q;cases q;exact new
  ·rw [zd y] at q;exact s!"FA".stay (fun c v _ q=>k c v q) (fun c q=>by rw [zd (ne q)];exact q) fun c xs q=>by rw [zd (ne q)];exact q
end
structure IniOwn (C f:Addr) (base:Heap):Prop where
 obj:∃(tl:List Value) (N:Addr) (nm qn:Str) (bs:List Value) (hd0:Bool) (sn:List Str) (sb:List Value) (ab:Bool) (col:Option Bool) (dd:Option Addr) (k0 k1 k2 k3 k5:Option Value) (mN:Str->Option Value),
  base.get? C=some (excClassObj nm qn C N bs tl hd0 sn sb ab col dd k0 k1 k2 k3 k5 "ValueError.__new__")/\base.Ns N mN/\mN "__init__"=some s!"An"/\OwnTail base bmV tl
def zlc (K:PySem.W.Frag) (C f:Addr):Bool:=match K.lookup C with
 | some ⟨.type "type",_,.cls cd,sl⟩=>(match cd.mro,sl.toList with
  | .ref C1::bm,[_,_,_,_,some s!"B4{n}",_]=>C1==C && n=="ValueError.__new__" && !cd.hasDel && tailIn K bmV bm && nsOkIn K cd.ns && nsIn K cd.ns "__init__"==some s!"AV"
  | _,_=>false)
 | _=>false
variable {x:Str} {K:PySem.W.Frag} {N:Addr} {v:Value}
theorem zje {m:Str->Option Value} (X:K.In h) (G:h.Ns N m) (e:nsIn K N x=some s!"Ai"):m x=some v:=by
 obtain ⟨o,es,ep,ho,hd,_,hf⟩:=G;unfold nsIn at e;split at e
 ·rename_i c d es' n' sl q;have z:=X _ _ q;rw [ho] at z;cases z;cases hd;split at e
  ·rename_i he;rw [<-hf];unfold nsFind findBy;rw [<-Array.find?_toList,he];cases e;rfl
  ·split at e <;> cases e
 ·cases e
theorem zf6 (X:K.In h) (e:nsOkIn K N=true) (q:nsIn K N x=some s!"Ai"):h.nsMap N x=some v:=zje X (.of_isNs (isNs_of_in X e)) q
variable {f:Addr}
theorem zqG (X:K.In h) (q:zlc K C f=true):IniOwn C f h:=by
 unfold zlc at q;split at q
 ·rename_i dA cdA slA look;split at q
  ·rename_i C1 bm1 e0 e1 e2 e3 nA e5 hmro hsl;simp only [Bool.and_eq_true,beq_iff_eq,Bool.not_eq_true'] at q;obtain ⟨⟨⟨⟨⟨z1,z2⟩,hdel⟩,ht⟩,hok⟩,hni⟩:=q;subst z1 z2;obtain ⟨f1,f2,f3,f4,f5,f6,f7,f8,f9,f10,f11⟩:=cdA;dsimp only at hmro hdel hok hni;subst hmro hdel;have es:slA=#[e0,e1,e2,e3,some s!"B4{"ValueError.__new__"}",e5]:=by
    obtain ⟨l⟩:=slA;simp only at hsl;rw [hsl]
   subst es;exact ⟨bm1,f4,f1,f5,f2,f6,f7,f8,f9,f10,dA,e0,e1,e2,e3,e5,_,X _ _ look,.of_isNs (isNs_of_in X hok),zf6 X hok hni,tail_of_in X ht⟩
  ·cases q
 ·cases q
def zf7 (C:Addr) (fld:Str) (ok:V->Prop):Sp:=fun vs H Q _=>∃(e:Addr) (v:V),vs=[.ref e,v]/\ok v/\H e=some (ExN C e)/\∀d,H d=none->Q .non (upd s!".{e}{ExD C d e}" d (.xd [(fld,v)]))
def ze6 (C:Addr) (fld:Str) (ok:V->Prop) (W:Value->Option Addr->St->Hp->Prop) (t:TA):TS:=fun _ σ H=>t σ H fun vs H1=>∃v,vs=[v]/\ok v/\∀d,H1 d=none->W s!"s" s!"CQ" σ (upd H1 d (.xd [(fld,v)]))
variable {W:Value->Option Addr->St->Hp->Prop} {pos:Pos} {e:Expr} {es:List Expr} {t:TA} {ps:List Str} {fld:Str} {od:Option Addr} {osl:Array s!"Bv"} {prog:Program} {A:Around} {E:Value->Shared->Prop} {ox:Obj} {vs:Array Value} {mA:Str->Option Value} {u:Value}
theorem zjf {k:Nat} {fd:FuncData} {ok:V->Prop} {np cpos:Pos} {oc:Value} (O:IniOwn C f X.base) (hm:X.mg x=some s!"s")
 (F:FnOk X.prog X.w X.K X.mg X.base s!"C1" k f fd ps (zf7 C fld ok)) (lk:X.K.lookup f=some ⟨oc,od,.func fd,osl⟩) (hoc:oc=.type "function") (hb:wu X.K fd ps [])
 (hr:Room (k+1) X.A) (hc:X.calm=true) (hg:Gl X x) (hx:XMade X W) (ha:PA X (e::es) t)
 (hdb:(x==("__debug__":Str))=false:=by decide) (he:starEach (e::es) X.env=(false,eval e X.env)::starEach es X.env:=by rfl) (hpl:s!"BS".any (·.1)=false:=by rfl):
 PS X (.Raise s!"r{.Call (.Name x np) (e::es) [] cpos}" none pos) s!"HR":=by
 intro pins s σ H D I h;obtain ⟨tl,N,nm,qn,bs,hd0,sn,sb,ab,col,dd,k0,k1,k2,k3,k5,mN,cC,cN,cI,T⟩:=O.obj;have FB:=PySem.F.excBase_ValueError;refine zjc (nm:=nm) (qn:=qn) (C:=C) (N:=N) (bs:=bs) (tl:=tl) (hd0:=hd0) (sn:=sn) (sb:=sb) (ab:=ab) (col:=col) (dd:=dd) (k0:=k0) (k1:=k1) (k2:=k2) (k3:=k3) (k5:=k5) FB (mN:=mN) (oI:=⟨oc,od,.func fd,osl⟩)
  s!"FC" s!"A0" (by rw [he];show (false || s!"BS".any (·.1))=false;rw [hpl];rfl) cI hoc (zap I hg hm ⟨rfl,?_⟩ hdb)
 have h1:=ha cpos pins s σ H _ I h;rw [he] at h1 ⊢;refine Calls.evalArgs_plain (wpAny_mono h1 (fun us s2 ⟨vs,H2,I2,r,hW⟩=>?_) fun _ _ y=>y)
 obtain ⟨v,ev,okv,hW⟩:=hW;subst ev;obtain ⟨u,rfl,ru⟩:∃u,us=[u]/\zj v u:=by
  cases r with
  | cons r1 r2=>cases r2;exact ⟨_,rfl,r1⟩
 refine ⟨rfl,(show 1<=sizeLine by decide),I2.bk _ _ cC,cN.keeps I2.bk,T.keeps I2.bk,I2.kIn _ _ lk,fun hh ad hm=>?_⟩
 obtain ⟨t1,q1,_,_⟩:=hm.there;have nH:H2 ad=none:=by
  cases z:H2 ad with
  | none=>rfl
  | some u=>
   obtain ⟨ob,e1⟩:=(I2.hok ad u z).at
   rw [hm.new] at e1;cases e1
 have n0:X.s₀.heap.get? ad=none:=by
  cases z:X.s₀.heap.get? ad with
  | none=>rfl
  | some o=>
   obtain ⟨o',z'⟩:=I2.base.there ad o z (fun y=>by rw [hx.ex] at y;cases y)
   rw [hm.new] at z';cases z'
 have I3:Inv X pins σ s!"D?" { s2 with heap:=hh,toks:=s2.toks }:=I2.laidN hm.keeps hm.new (ExN.ok q1)
 have hsp:zf7 C fld ok [.ref ad,v] s!"D?" (fun v' H'=>v'=.non/\∃d,H2 d=none/\d≠ad/\H'=upd (upd s!"D?" ad (ExD C d ad)) d (.xd [(fld,v)])) (fun _ _ _=>False):=
  ⟨ad,v,rfl,okv,zb,fun d hd=>by
   have ne:d≠ad:=fun y=>by rw [y,zb] at hd;cases hd
   rw [zd ne] at hd;exact ⟨rfl,d,hd,ne,rfl⟩⟩
 have hl:([Value.ref ad,u]++[]).length=ps.length:=(show 2=ps.length from F.len _ _ _ _ hsp)
 have bnd:=hb { s2 with heap:=hh,toks:=s2.toks } [.ref ad,u] I3.kIn hl
 rw [List.append_nil] at bnd;refine wpAny_call (codeAny_mono (F.run (X.A.under (.builtin "type.__call__" ⟨.ref C::[u],[]⟩)) X.stack { s2 with heap:=hh,toks:=s2.toks } _ ⟨[.ref ad,u],[]⟩ [.ref ad,u] [.ref ad,v] _ _ (hr.make C [u] []) (I3.env0.make C [u] []) bnd (.cons rfl s!"C@{ru}") hsp) fun res s4 hq=>?_)
 cases res with
 | error ex=>
  obtain ⟨_,_,_,_,_,_,_,y,_⟩:=hq;exact y.elim
 | ok fl=>
  cases fl with
  | next=>exact False.elim hq
  | brk=>exact False.elim hq
  | cont=>exact False.elim hq
  | ret u'=>
   obtain ⟨v',H4,I4,r4,ev4,d,hd,nd,eH⟩:=I3.after hq;subst ev4;obtain rfl:u'=Value.none:=r4;subst eH;have a4:(upd (upd s!"D?" ad (ExD C d ad)) d (.xd [(fld,v)])) ad=some (ExD C d ad):=by
    rw [zd s!"FP",zb]
   obtain ⟨⟨t4,o4⟩,_⟩:=(show zu X.prog X.w _ s4.heap ad (ExD C d ad) from I4.hok ad _ a4)
   have I5:=I4.drop a4;have eR:rem (upd (upd s!"D?" ad (ExD C d ad)) d (.xd [(fld,v)])) ad=upd H2 d (.xd [(fld,v)]):=by
    funext b
    by_cases y:b=ad
    ·rw [y,zc8,zd s!"FP",nH]
    ·rw [wM y]
     by_cases z:b=d
     ·rw [z,zb,zb]
     ·rw [zd z,zd z,zd y,zd y]
   rw [eR] at I5;refine ⟨rfl,I5.bk _ _ cC,⟨t4,d,o4⟩,hx.made pins σ _ s4 ad t4 _ _ I5 n0 (by rw [zd s!"FP"];exact nH) o4 rfl rfl rfl _ s!"${⟨rfl,rfl⟩}" (hW d hd)⟩
def zpd (C:Addr) (t:TA):TE:=fun σ H Q=>t σ H fun vs H1=>∃(ad:Addr) (v:V),vs=[.ref ad,v]/\H1 ad=some s!"B>"/\Q .non H1
theorem zf8 {C f Bc:Addr} {b:Str} {bp apos:Pos} (O:IniOwn C f X.base) (hg:Gl X b) (hmb:X.mg b=some s!"4{Bc}") (hs:specialIn X.K s!"4{Bc}" "__getattribute__"=some s!"FQ") (hrd:readsIn X.K Bc s!"A("=true)
 (hf:findCls X.K s!"4{Bc}" s!"A(" "__init__"=some s!"FR") (ha:PA X (e::es) t) (hdb:(b==("__debug__":Str))=false:=by decide)
 (he:starEach (e::es) X.env=(false,eval e X.env)::starEach es X.env:=by rfl) (hpl:s!"C]".any (·.1)=false:=by rfl) {pl:Sem Bool}
 (ht:eval (.Call (.Attribute (.Name b bp) "__init__" apos) (e::es) [] pos) X.env=(do
  let ov <-eval (.Name b bp) X.env
  standAt apos.atName
  let (f,first) <-holding [ov] (getMethod ov "__init__" pl)
  callWith pos f first (backTo pos (starEach (e::es) X.env)) (backToKw pos (keywordEach [] X.env))):=by rfl):
 PE X (.Call (.Attribute (.Name b bp) "__init__" apos) (e::es) [] pos) (zpd C t):=by
 intro pins s σ H Q I h;obtain ⟨tl,N,nm,qn,bs,hd0,sn,sb,ab,col,dd,k0,k1,k2,k3,k5,mN,cC,cN,cI,T⟩:=O.obj;refine PySem.W.methodCall_KW (pl:=pl) (zap I hg hmb (method_cls I.kIn hs (cls_value I.kIn hrd hf rfl ?_)) hdb) ht;have I1:=I.tok (s.toks+1);refine callWith_builtin1 (thn (ha pos pins _ σ H _ I1 h) fun us s2 ⟨vs,H2,I2,r,ad,v,ev,e1,q⟩=>?_) he hpl
 subst ev;obtain ⟨u1,u2,rfl,r1,r2⟩:=zdU r;obtain rfl:u1=Value.ref ad:=r1;obtain ⟨⟨t1,o1⟩,_⟩:=(show zu X.prog X.w H2 s2.heap ad s!"B>" from I2.hok ad _ e1)
 obtain ⟨h2,g2,d2,t2,os2⟩:=s2;refine zlb PySem.F.excBase_ValueError (T.keeps I2.bk) (I2.bk _ _ cC) o1 (show 1<=sizeLine by decide) fun h3 t3 k3 o3=>?_
 have I3:=I2.write (h':=h3) (t':=t2) (x:=ad) (e:=ad) (o:=ExN C ad) (by rw [e1];trivial) s!"Aa" k3 ⟨_,o3⟩ (ExN.ok o3)
 have eH:upd H2 ad s!"B>"=H2:=by
  funext b
  by_cases y:b=ad
  ·rw [y,zb,e1]
  ·rw [zd y]
 rw [eH] at I3;exact ⟨.non,H2,I3,rfl,q⟩
def zpe (C:Addr) (fld:Str) (ta tv:TE):TS:=fun D σ H=>tv σ H fun y H1=>ta σ H1 fun x H2=>∃ad,x=.ref ad/\H2 ad=some s!"B>"/\∀d,H2 d=none->D.nx σ (upd (upd H2 ad (ExD C d ad)) d (.xd [(fld,y)]))
theorem zn1 {C:Addr} {fld:Str} {o value:Expr} {ta tv:TE} {pos':Pos} (Z:IniK X.K C fld) (ho:PE X o ta) (hv:PE X value tv) (hs:swapsWith value s!"r{.Attribute o fld pos'}" pos.line X.env=pure false:=by rfl):
 PS X (.Assign [.Attribute o fld pos'] value pos) (zpe C fld ta tv):=by
 intro pins s σ H D I h;refine plainObj_wpAny_Assign_Attribute (thn (hv pins s σ H _ I h) fun u s1 ⟨y,H1,I1,ry,q⟩=>thn (ho pins s1 σ H1 _ I1 q) fun ov s2 ⟨x,H2,I2,rx,ad,ex,ea,q2⟩=>?_) hs
 subst ex;obtain rfl:ov=Value.ref ad:=rx;obtain ⟨⟨t1,o1⟩,_⟩:=(show zu X.prog X.w H2 s2.heap ad s!"B>" from I2.hok ad _ ea)
 refine zjd I2.kIn Z o1 fun h3 d tk3 nd n3 o3 k3=>?_
 have hd:H2 d=none:=by
  cases z:H2 d with
  | none=>rfl
  | some u=>
   obtain ⟨ob,e1⟩:=(I2.hok d u z).at
   rw [nd] at e1;cases e1
 have ne:d≠ad:=fun y=>by rw [y,o1] at nd;cases nd
 refine ⟨σ,_,?_,q2 d hd⟩;have nT:∀{b:Addr} {u:HO},H2 b=some u->(∀ψ,u≠.ext ψ)->(upd (upd H2 ad (ExD C d ad)) d (.xd [(fld,y)])) b=some u:=fun {b u} q n=>by
  have y1:b≠d:=fun z=>by rw [z,hd] at q;cases q
  have y2:b≠ad:=fun z=>by rw [z,ea] at q;exact n _ s!"HQ".symm
  rw [zd y1,zd y2];exact q
 refine I2.un (h':=h3) (t':=tk3) ⟨fun b o q n _ _=>k3 b o (fun z=>by rw [z,ea] at n;cases n) q,fun b o q n _ _=>⟨o.slots,k3 b o (fun z=>by rw [z,ea] at n;cases n) q⟩,fun b o q n _=>?_,fun b o q _=>?_,
  fun b xs q=>nT q (fun ψ z=>nomatch z),fun b o u q=>nT q (fun ψ z=>nomatch z),fun b ps q=>⟨#[],by rw [Array.append_empty];exact nT q (fun ψ z=>nomatch z)⟩⟩ fun b u' q=>?_
 ·have y1:b≠d:=fun z=>by rw [z,nd] at q;cases q
  have y2:b≠ad:=fun z=>by rw [z,ea] at n;cases n
  rw [zd y1,zd y2];exact n
 ·by_cases z:b=ad
  ·exact ⟨_,by rw [z];exact o3⟩
  ·exact ⟨o,k3 b o z q⟩
 ·by_cases z:b=d
  ·subst z;rw [zb] at q;cases q;refine ⟨_,n3,fun f=>?_⟩
   by_cases y1:f=fld
   ·subst y1;rw [if_pos rfl,List.lookup_cons,beq_self_eq_true];exact ry
   ·rw [if_neg y1,List.lookup_cons,beq_eq_false_iff_ne.mpr y1];exact trivial
  ·rw [zd z] at q
   by_cases y1:b=ad
   ·subst y1;rw [zb] at q;cases q;exact ExD.ok o3
   ·rw [zd y1] at q;refine (I2.hok b u' q).stay (fun c v hc q'=>k3 c v (fun z'=>?_) q') (fun c q'=>nT q' (fun ψ z=>nomatch z)) fun c xs q'=>nT q' (fun ψ z=>nomatch z)
    rcases hc with hc | hc
    ·exact y1 (hc.symm.trans z')
    ·rw [z',ea] at hc;cases hc
def tXf (K:PySem.W.Frag) (a:Addr) (cls:Value) (dx:Option Addr) (fld:Str) (te:TE):TE:=fun σ H Q=>te σ H fun x H1=>∃C d fs v,x=.ref a/\cls=.ref C/\dx=some d/\H1 d=some (.xd fs)/\ExcK K C/\IniK K C fld/\fs.lookup fld=some v/\Q v H1
theorem zg6 {x:Addr} {tk:Tok} {Q:PySem.Fin->Shared->Prop} (Z:IniK K C fld) (Y:K.In s.heap)
 (hx:s.heap.get? x=some ox) (hc:ox.cls=.ref C) (hd:ox.dict=some d) (hv:ox.data=.fields vs) (hn:s.heap.Ns1 d mA) (hu:mA fld=some u) (h:Q (.done (.ret u)) s):wpAny s!"9" A (Builtin.«object.__getattribute__» ⟨[.ref x,.str fld tk],[]⟩) Q E s:=by
 obtain ⟨hh,g,dr,t,os⟩:=s;obtain ⟨oc,od,odt,osl⟩:=ox;dsimp only at hc hd hv;subst hc hd hv;obtain ⟨cd,hcd,hb⟩:=any_some Z.ov;obtain ⟨_,h2⟩:=Bool.and_eq_true_iff.mp hb;have L0:Looks s!"9" hh s!"H>" s!"s":=(Looks.ld hx).andThen .now;have L1:=looks_findIn (M:=model prog w) Y Z.nf;obtain ⟨c0,d0,s0,look⟩:∃c0 d0 s0,K.lookup C=some ⟨c0,d0,.cls cd,s0⟩:=by
  unfold clsIn at hcd;split at hcd
  ·rename_i z;cases hcd;exact ⟨_,_,_,z⟩
  ·cases hcd
 have hC:=Y _ _ look;dsimp only at hC;unfold Builtin.«object.__getattribute__»
 repeat (first | (with_reducible refine L0.at ?_) | (with_reducible refine L1.at ?_) | (with_reducible refine wpAny_loadPart_at hx ?_) | (with_reducible refine wpAny_loadPart_at hC ?_) | (with_reducible refine wpAny_load hC ?_) | (with_reducible refine wpAny_nsGet hn.ns ?_;rw [hu]) | rw [h2] | walk_at "wp")
 exact h
theorem zld {x:Addr} {b:Bool} {Q:Value->Shared->Prop} (V:ExcK K C) (Z:IniK K C fld) (Y:K.In s.heap)
 (hx:s.heap.get? x=some ox) (hc:ox.cls=.ref C) (hd:ox.dict=some d) (hv:ox.data=.fields vs) (hn:s.heap.Ns1 d mA) (hu:mA fld=some u) (hh:handedOut u=pure u) (h:Q u { s with toks:=s.toks+1 }):wpAny s!"9" A (getAttr s!"A6" fld b) Q E s:=by
 have I:zhN x C s.heap:=⟨ox,hx,hc⟩;obtain ⟨hp,g,dr,t,os⟩:=s;have L0:=I.ty s!"9";have L1:=looks_findIn (M:=model prog w) Y V.ga;have L2:=looks_findIn (M:=model prog w) Y V.hk;have b3:=PySem.F.excAttr_ValueError.ga.bind s!"A6";have z2:(Value.builtin "BaseException.__getattribute__"==Value.builtin "object.__getattribute__")=false:=by decide+kernel
 have z1:(onTheHeap (Value.ref C) && Value.builtin "BaseException.__getattribute__"==Value.builtin "object.__getattribute__")=false:=by rw [z2];rfl
 have z0:(b && onTheHeap (Value.builtin "BaseException.__getattribute__"))=false:=by cases b <;> rfl
 unfold getAttr getAttrBy
 repeat (any_goals (first | assumption | (with_reducible refine L0.at ?_) | (with_reducible refine L1.at ?_) | (with_reducible refine L2.at ?_) | wp_step))
 refine codeAny_call_builtin PySem.F.excAttr_ValueError.ga.plain PySem.F.entry_bexc_ga (ziN (s:=⟨hp,g,dr,t+1,os⟩) V Y I (zg6 (s:=⟨hp,g,dr,t+1,os⟩) Z Y hx hc hd hv hn hu ?_))
 repeat (any_goals (first | assumption | wp_step))
theorem zn2 {pins:List (Addr×Obj)} {a:Addr} {oe:Obj} {cls:Value} {dx:Option Addr} {fld:Str} {te:TE} {o:Expr} (hcls:oe.cls=cls) (hxo:XOb oe dx) (he:PE s!"B=" o te)
 (hb:attributeBase o fld s!"B=".env (eval o s!"B=".env)=eval o s!"B=".env:=by rfl):PE s!"B=" (.Attribute o fld pos) (tXf X.K a cls dx fld te):=by
 subst hcls;intro pins' s σ H Q I h;refine zhG hb (thn (he pins' s σ H _ I h) fun u s1 ⟨x,H1,I1,rx,C,d,fs,v,ex,ec,ed,e1,V,Z,l,q⟩=>?_)
 subst ex;obtain rfl:u=Value.ref a:=rx;obtain ⟨p1,_⟩:=I1.pin (a,oe) s!"EPEV{List.mem_singleton.mpr rfl}";obtain ⟨mA,n1,r1⟩:=(show zu X.prog X.w H1 s1.heap d (.xd fs) from I1.hok d _ e1)
 obtain ⟨u1,hu,ru⟩:=xI.some_of (v:=v) (o:=mA fld) (by rw [<-l];exact r1 fld)
 obtain ⟨vs,x2,⟨x1,_⟩ | ⟨x1,_⟩⟩:=hxo
 rotate_left
 ·exfalso;rw [ed] at x1;cases x1;obtain ⟨o7,_,_,e7,_⟩:=I1.ok.mod.glob;have:=(I1.bs _ _ e7).2;rw [e1] at this;cases this
 rw [ed] at x1;exact zld V Z I1.kIn p1 ec x1 x2 n1 hu (handedOut_of (zdV ru)) ⟨v,H1,I1.tok _,ru,q⟩
structure CI (K:PySem.W.Frag) (mg:Str->Option Value) (base:Heap) (x fld b:Str):Type where
 addr:Addr
 gl:mg x=some s!"Er"
 f:Addr
 own:IniOwn addr f base
 exc:ExcK K addr
 ini:IniK K addr fld
 up:Addr
 ugl:mg b=some s!"4{up}"
 u1:specialIn K s!"4{up}" "__getattribute__"=some s!"FQ"
 u2:readsIn K up s!"A("=true
 u3:findCls K s!"4{up}" s!"A(" "__init__"=some s!"FR"
structure SrcI (K:PySem.W.Frag) (qual:Str) (st:Stmt) (f:Addr) (ps:List Str):Prop where
 ex:∃fd,Fun K "__init__" qual st f fd/\wu K fd ps []/\∃od osl,K.lookup f=some ⟨.type "function",od,.func fd,osl⟩
structure DefI (P:Program) (w:World) (K:PySem.W.Frag) (mg:Str->Option Value) (base:Heap) (CX:CXT) (k:Nat) (f:Addr) (ps:List Str) (sp:Sp):Prop where
 ex:∃fd,FnOk P w K mg base CX k f fd ps sp/\wu K fd ps []/\∃od osl,K.lookup f=some ⟨.type "function",od,.func fd,osl⟩
variable {qual:Str} {st:Stmt}
section
variable {mg:Str->Option Value} {base:Heap} {CX:CXT}
theorem zn3 {an:Option Addr} {kV doc pm cdv ct:Value}
 (l:K.lookup f=some ⟨.type "function",od,.func s!"HS",osl⟩) (c:PySem.W.codeIn K cdv qual=true) (k:PySem.W.keepIn K s!"An"=true)
 (hb:∀(kV doc pm:Value) (an:Option Addr) (cdv ct:Value) (us:List Value),us.length=ps.length->bindArgs s!"HS" ⟨us,[]⟩=pure s!"Bu"):SrcI K qual st f ps:=
 ⟨_,zbQ l c k,(zbQ (st:=st) l c k).binds hb,od,osl,l⟩
theorem SrcI.ok {N:List Str} {k:Nat} {sp:Sp} (F:SrcI K qual st f ps) (S:FnScope N ps s!"B;") (len:∀vs H Q E,sp vs H Q E->vs.length=ps.length)
 (hbody:∀(cdv:Value) (A:Around) (outer:List Env) (s:Shared) (H:Hp) (vs:List V) (Q:VK) (E:XK),Room k (A.deeper (envOfC qual (za st) s.heap.objs.size f cdv))->sp vs H Q E->
  ∃t,PSs (zbb CX P w K mg base N qual (za st) f cdv A outer s H E).nox (zt st) t/\t { nx:=fun _ H1=>Q .non H1,rt:=Q } (start N vs) H):DefI P w K mg base CX (k+1) f ps sp:=by
 obtain ⟨fd,Fn,b,od',osl',lk'⟩:=F.ex;obtain ⟨oc,od,kV,doc,pm,an,cdv,ct,osl,rfl,lk,hcd⟩:=Fn.ex;refine ⟨_,zfW lk hcd S len fun A outer s H vs Q E hr hsp=>?_,b,od',osl',lk'⟩
 obtain ⟨t,h,q⟩:=hbody cdv A outer s H vs Q E hr hsp;exact ⟨t,h.nox,q⟩
end
theorem zjg {k:Nat} {C f:Addr} {ps:List Str} {fld:Str} {ok:V->Prop} {np cpos:Pos} (D:DefI X.prog X.w X.K X.mg X.base s!"C1" k f ps (zf7 C fld ok)) (O:IniOwn C f X.base) (hm:X.mg x=some s!"s")
 (hr:Room (k+1) X.A) (hc:X.calm=true) (hg:Gl X x) (hx:XMade X W) (ha:PA X (e::es) t)
 (hdb:(x==("__debug__":Str))=false:=by decide) (he:starEach (e::es) X.env=(false,eval e X.env)::starEach es X.env:=by rfl) (hpl:s!"BS".any (·.1)=false:=by rfl):
 PS X (.Raise s!"r{.Call (.Name x np) (e::es) [] cpos}" none pos) s!"HR":=by
 obtain ⟨fd,F,b,od,osl,lk⟩:=D.ex;exact zjf O hm F lk rfl b hr hc hg hx ha hdb he hpl
def zhU (C:Addr) (fld:Str) (ok:V->Prop) (W:Value->Option Addr->St->Hp->Prop) (σ:St) (vs:List V) (H:Hp):Prop:=∃v,vs=[v]/\ok v/\∀d,H d=none->W s!"s" s!"CQ" σ s!".{d}{.xd [(fld,v)]}"
variable {D:Ends}
theorem ze6.Qa {ok:V->Prop} (h:t σ H fun vs H1=>zhU C fld ok W σ vs H1):ze6 C fld ok W t D σ H:=h
theorem zg7 {ok:V->Prop} {v:V} (ho:ok v) (h:∀d,H d=none->W s!"s" s!"CQ" σ s!".{d}{.xd [(fld,v)]}"):zhU C fld ok W σ [v] H:=⟨v,rfl,ho,h⟩
def zpf (C:Addr) (vs:List V) (H:Hp) (Q:VK):Prop:=∃(ad:Addr) (v:V),vs=[.ref ad,v]/\H ad=some s!"B>"/\Q .non H
variable {Q:VK}
theorem zpd.Qa (h:t σ H fun vs H1=>zpf C vs H1 Q):zpd C t σ H Q:=h
variable {ad:Addr}
theorem zpf.Qb {v:V} (e:H ad=some s!"B>") (h:Q .non H):zpf C [.ref ad,v] H Q:=⟨ad,v,rfl,e,h⟩
def zpg (C:Addr) (fld:Str) (y x:V) (H:Hp) (R:Hp->Prop):Prop:=∃ad,x=.ref ad/\H ad=some s!"B>"/\∀d,H d=none->R (upd s!".{ad}G~" d (.xd [(fld,y)]))
theorem zpe.Qa {ta tv:TE} (h:tv σ H fun y H1=>ta σ H1 fun x H2=>zpg C fld y x H2 fun H3=>D.nx σ H3):zpe C fld ta tv D σ H:=h
theorem zpg.Q7 {y:V} {R:Hp->Prop} (e:H ad=some s!"B>") (h:∀d,H d=none->R (upd s!".{ad}G~" d (.xd [(fld,y)]))):zpg C fld y s!"4{ad}" H R:=⟨ad,rfl,e,h⟩
def kXf (K:PySem.W.Frag) (a:Addr) (cls:Value) (dx:Option Addr) (fld:Str) (x:V) (H:Hp) (Q:VK):Prop:=∃C d fs v,x=.ref a/\cls=.ref C/\dx=some d/\H d=some (.xd fs)/\ExcK K C/\IniK K C fld/\fs.lookup fld=some v/\Q v H
theorem tXf.Qa {cls:Value} {dx:Option Addr} {te:TE} (h:te σ H fun x H1=>kXf K a cls dx fld x H1 Q):tXf K a cls dx fld te σ H Q:=h
theorem zqH {fs:List (Str×V)} {v:V} (e:H d=some (.xd fs)) (V:ExcK K C) (Z:IniK K C fld) (l:fs.lookup fld=some v) (h:Q v H):kXf K a s!"s" s!"CQ" fld s!"h" H Q:=⟨C,d,fs,v,rfl,rfl,rfl,e,V,Z,l,h⟩
theorem zqI (cl:s!"CK".isSome=true) (be:mroIn K C s!"AF"=some true) (me:mroIn K C s!"s"=some true) (ty:typeIn K s!"s"=some s!"A("):CatK K C:=
 ⟨be,by
  show (if (s!"CK".isSome && typeIn K s!"s"==some s!"A(")=true then subIn K s!"s" s!"s" else none)=some true
  rw [cl,ty];exact me⟩
end L2
namespace L2
open PySem PySem.Spec PyProof.Rows PySem.W Builtin Builtin.Str
section
variable {X:Cx}
theorem zeg:∀{l:List (Str×Tok)},zi ((l.map (·.1)).map V.str) (strValues l)
 | []=>.nil
 | (x,t)::l=>.cons ⟨t,rfl⟩ (zeg (l:=l))
def zlg:V->List V->Hp->VK->Prop:=fun x vs H Q=>∃(a b:Str),x=.str a/\vs=[.str b]/\(b.length==0)=false/\a.length<=sizeLine/\s!"FS".length<=sizeLine/\∀D,H D=none->Q s!"%" s!".{D}q{(s!"FS".map V.str)}"
theorem mt_split:MtR X "str.split" zlg:=by
 intro pins s σ H x vs v us Q I rx rv h;obtain ⟨a,b,rfl,rfl,hb,hz,hn,q⟩:=h;obtain ⟨t,rfl⟩:=rx;obtain ⟨u,rfl,ru⟩:=rv.one;obtain ⟨u',rfl⟩:=ru;have new:∀(l:List (Str×Tok)) (k:Nat),l.map (·.1)=Txt.split a b->EP X pins σ Q s!"CD" { s with heap:=s.heap.push { cls:=.type "list",data:=.seq (strValues l).toArray },toks:=k }:=fun l k e=>
  ⟨.ref s.heap.objs.size,_,I.laid (t':=k) (o:=.lst (s!"FS".map V.str)) (fun b ob q=>Heap.get?_push_of_some _ q) s!"," ⟨by rw [List.length_map];exact hn,strValues l,0,by rw [<-e];exact zeg,Heap.get?_push_size _ rfl⟩,rfl,q _ s!"Cw"⟩
 cases h1:(decide (a.length<b.length) || decide (strKind a<strKind b))
 ·cases hf:(occurrences a b 0 a.length (a.length+1)).isEmpty
  ·have es:Txt.split a b=partsBetween a (occurrences a b 0 a.length (a.length+1)) b.length:=s!"HT".trans (if_neg (ne_true_of_eq_false hf));refine call_meets F.slot_str_split s!"FT" F.entry_str_split s!"FU" (meets_str_split_sep a b t u' h1 hb hf hz (by rw [<-es];exact hn)) ?_
   show wants (EP X pins σ Q) X.xe _ { s with toks:=_,heap:=s.heap.push { cls:=.type "list",data:=.seq (strsFrom s.toks (partsBetween a (occurrences a b 0 a.length (a.length+1)) b.length)).toArray } }
   rw [strsFrom_eq];exact new _ _ ((numbered_texts _ _).trans es.symm)
  ·exact call_meets F.slot_str_split s!"FT" F.entry_str_split s!"FU" (meets_str_split_not_found a b t u' h1 hb hf) (new [(a,t)] s.toks (s!"HT".trans (if_pos hf)).symm)
 ·exact call_meets F.slot_str_split s!"FT" F.entry_str_split s!"FU" (meets_str_split_cannot_occur a b t u' h1) (new [(a,t)] s.toks (if_pos h1).symm)
def zhV:V->List V->Hp->VK->Prop:=fun x vs H Q=>∃(a b:Str),x=.str a/\vs=[.str b]/\Q s!"/G'" H
theorem mt_starts:MtR X "str.startswith" zhV:=by
 intro pins s σ H x vs v us Q I rx rv h;obtain ⟨a,b,rfl,rfl,q⟩:=h;obtain ⟨t,rfl⟩:=rx;obtain ⟨u,rfl,ru⟩:=rv.one;obtain ⟨u',rfl⟩:=ru;exact SC.startswith ⟨.bl _,H,I,rfl,q⟩
def zsm:V->Option Int->Option Int->Hp->VK->Prop:=fun x lo hi H Q=>∃a,x=.str a/\a.length<=sizeLine/\Q s!"oG`" H
theorem sl_str:SlR X zsm:=by
 intro pins s σ H x v vl vu lo hi sl Q I rx hs pl pu h;obtain ⟨a,rfl,hz,q⟩:=h;obtain ⟨t,rfl⟩:=rx;refine ⟨"str",_,F.slot_str_getitem.lookup,typeIs_str _ _ _,?_⟩;have go:∀(l u:Option (Int×Tok)),vl=partValue l->vu=partValue u->l.map (·.1)=lo->u.map (·.1)=hi->wpAny s!"t" X.A (getItem (.str a t) s!"B:") (EP X pins σ Q) X.xe s:=fun l u e1 e2 e3 e4=>by
  subst e1 e2 e3 e4;refine wpAny_getItem_str_slice (l:=l) (u:=u) (st:=none) hs rfl (post_val_or_str ⟨Nat.le_trans (Txt.slice_le a _ _) hz,fun t' k=>?_⟩)
  exact ⟨.str _,H,I.tok k,⟨_,rfl⟩,q⟩
 cases pl with
 | none=>
  cases pu with
  | none=>exact go none none rfl rfl rfl rfl
  | int j tj=>exact go none s!"r{(j,tj)}" rfl rfl rfl rfl
 | int i ti=>
  cases pu with
  | none=>exact go s!"r{(i,ti)}" none rfl rfl rfl rfl
  | int j tj=>exact go s!"r{(i,ti)}" s!"r{(j,tj)}" rfl rfl rfl rfl
end
end L2
namespace L2
open PySem PySem.Spec PyProof.Rows PySem.W
def Ist (x:Str):It:=⟨fun i _=>i<x.cps.size,fun i H v H'=>H'=H/\∃c,x.cps[i]? =some c/\v=.str ⟨#[c]⟩,fun i _=>x.cps.size<=i⟩
variable {tg:Expr} {K:PySem.W.Frag}
theorem zlh {P:Program} {w:World} (it:Addr) (x:Str) (t:Tok):Turn P w K tg (Ist x) [it] it (fun i h=>h.IsStrIter it "str_ascii_iterator" x t i) where
 mem:=by simp
 obj:=fun i h st b hb=>by
  have e:b=it:=by simpa using hb
  subst e;obtain ⟨o,e,c,d⟩:=st;exact ⟨o,e,fun v z=>by rw [d] at z;cases z⟩
 keep:=fun i h h' st k=>by
  obtain ⟨o,e,r⟩:=st;exact ⟨o,k it s!"j" o e,r⟩
 item:=by
  intro X hP hw hK hc i pins s σ H E I hf st hg;subst hP hw hK;obtain ⟨f0,f1,f2,f3,f4,f5⟩:=hf it s!"j"
  refine (Walks.strAscii (prog:=X.prog) (w:=X.w) s!"A0" it x t).item i s _ _ hg st fun v h' tk hv st' kk=>?_
  obtain ⟨c,u,hcu,rfl⟩:=hv;have I1:Inv X pins σ H { s with heap:=h',toks:=tk }:=I.turned (fun b o hb e=>kk b o (by simpa using hb) e) f0 f1 f3 f4 f5
  obtain ⟨o,e,c1,d⟩:=id st';exact ⟨_,rfl,zfR (s:={ s with heap:=h',toks:=tk }) e c1 d s!"c" ⟨.str ⟨#[c]⟩,H,I1,⟨u,rfl⟩,⟨rfl,c,hcu,rfl⟩,st',fun b hb=>s!"D5".1⟩⟩
 done:=by
  intro X hP hw hK hc i pins s σ H E I hf st hg;subst hP hw hK;obtain ⟨f0,f1,f2,f3,f4,f5⟩:=hf it s!"j"
  have hg:x.cps.size<=i:=hg;exact wpAny_pyNext_ascii_end s!"A0" st (by simp [hg]) fun h' eb=>⟨rfl,I.turned (t':=s.toks) (fun b o hb e=>eb b o hb e) f0 f1 f3 f4 f5⟩
 self:=fun _ _ _ _ _ st h=>wpAny_pyIter_striter_ascii st h
def zsn (tl:TE):TI:=fun σ H R=>tl σ H fun x H1=>∃a,x=.str a/\a.cps.all (·<128)=true/\R (Ist a) H1
variable {X:Cx}
theorem pi_str {l:Expr} {tl:TE} (hl:PE X l tl):PI X tg l (zsn tl):=by
 intro pins s σ H R I h;refine thn (hl pins s σ H _ I h) fun v s1 ⟨x,H1,I1,r1,q1⟩=>?_
 obtain ⟨a,e,ha,q⟩:=q1;subst e;obtain ⟨t,rfl⟩:=r1;refine wpAny_pyIter_ascii ha ?_;refine ⟨s1.heap.objs.size,[s1.heap.objs.size],_,_,H1,rfl,I1.kept (t':=s1.toks) fun b o e=>Heap.get?_push_of_some _ e,zlh _ a t,⟨_,Heap.get?_push_size _ rfl,rfl,rfl⟩,fun b hb=>?_,q⟩
 have e:b=s1.heap.objs.size:=by simpa using hb
 subst e;exact I1.fpOk s!"," s!"D6"
variable {σ:St} {H:Hp} {Q:VK} {te:TE} {a:Str}
def zli (te:TE) (v:V) (H1:Hp) (Q:VK):Prop:=∃a,v=.str a/\a.cps.all (·<128)=true/\∀D,H1 D=none->∃W:Nat->Nat->List V->Hp->Prop,(∃m,W 0 m [] (upd H1 D s!"q{[]}"))/\∀i m ys H,W i m ys H->H D=some s!"Az"/\
 (((Ist a).stop i H/\Q s!"%" H)\/((Ist a).go i H/\ys.length<sizeLine/\∀x H',(Ist a).yld i H x H'->te [some x] H' fun y H2=>H2 D=some s!"Az"/\∃m',m'<m/\W (i+1) m' (ys++[y]) (upd H2 D s!"q{(ys++[y])}")))
theorem zhO.Qa {tl:TE} (h:tl σ H fun x H1=>zli te x H1 Q):zhO (zsn tl) te σ H Q:=h
theorem zeh (g:Nat->V) (ha:a.cps.all (·<128)=true) (hz:a.cps.size<=1000) (he:∀(i c:Nat) H' (Q':VK),a.cps[i]? =some c->Same H H'->(∀H2,Same H' H2->Q' (g c) H2)->te [some s!"o{⟨#[c]⟩}"] H' Q')
 (h:∀D H',Same H H'->H D=none->H' D=some s!"q{a.cps.toList.map g}"->Q s!"%" H'):zli te s!"o{a}" H Q:=by
 refine ⟨a,rfl,ha,fun D hD=>⟨fun i m zs H'=>m=a.cps.size-i/\i<=a.cps.size/\zs=(a.cps.toList.take i).map g/\Same H H'/\H' D=some s!"A!",⟨a.cps.size,by simp,Nat.zero_le _,by simp,Same.new hD _,zb⟩,?_⟩⟩
 rintro i m zs H' ⟨rfl,hi,rfl,hs,eD⟩;refine ⟨eD,?_⟩
 by_cases hlt:i<a.cps.size
 ·refine .inr ⟨hlt,?_,fun x H2 y=>?_⟩
  ·rw [List.length_map,List.length_take];exact zf s!"a"
  ·obtain ⟨e,c,hc,rfl⟩:=y;subst e;refine he i c _ _ hc hs fun H2 s2=>⟨s2.obj eD,a.cps.size-(i+1),by omega,rfl,hlt,?_,s!"BU".upd hD,zb⟩
   have hc':a.cps.toList[i]? =some c:=by rw [Array.getElem?_toList];exact hc
   rw [List.take_add_one,hc',List.map_append];rfl
 ·have e:i=a.cps.size:=by omega
  subst e;refine .inl ⟨Nat.le_refl _,h D H' hs hD ?_⟩;rw [show a.cps.size=a.cps.toList.length from rfl,List.take_length] at eD
  exact eD
theorem zc9 {b:Str} (hb:(b.length==0)=false) (hz:a.length<=sizeLine) (ws:List Str) (hw:Txt.split a b=ws) (hn:ws.length<=sizeLine) (h:∀D H',Same H H'->H D=none->H' D=some s!"qD="->Q s!"%" H'):zlg s!"o{a}" [.str b] H Q:=by
 subst hw;exact ⟨a,b,rfl,rfl,hb,hz,hn,fun D hD=>h D _ s!"ER{hD}" hD zb⟩
theorem zhV.Qa {b:Str} (h:Q s!"/G'" H):zhV s!"o{a}" [.str b] H Q:=⟨a,b,rfl,rfl,h⟩
theorem zsm.Q5 {lo hi:Option Int} (hz:a.length<=sizeLine) (h:Q s!"oG`" H):zsm s!"o{a}" lo hi H Q:=⟨a,rfl,hz,h⟩
def zph:List V->Hp->VK->Prop:=fun xs H Q=>∃(x:Str) (n:Int),xs=[.str x]/\PySem.intText? x=some n/\x.length<=640/\Q s!"C2" H
variable {pos:Pos}
theorem zei:zI X s!"BG{"int"}" zph:=by
 intro pins s σ H xs us Q I r h;obtain ⟨x,n,rfl,hn,hl,q⟩:=h;obtain ⟨u,rfl,ru⟩:=xt r;obtain ⟨t,rfl⟩:=ru;exact KIN.call_text hn hl ⟨.int n,H,I.tok _,⟨_,rfl⟩,q⟩
def zpi (te:TE):TE:=fun σ H Q=>te σ H fun x H1=>∃y,x=.str y/\y.length<=sizeLine/\Q s!"D+" H1
theorem zhW {e:Expr} {te:TE} (h:PE X e te):PE X (.FormattedValue e (-1) none pos) (zpi te):=fun pins s σ H Q I q=>
 FormattedValue_plain (thn (h pins s σ H _ I q) fun u s1 ⟨x,H1,I1,r1,y,ex,hz,q1⟩=>by
  subst ex;obtain ⟨tk,rfl⟩:=r1;exact formatField_str (fun t' k=>⟨.str _,_,I1.tok _,⟨_,rfl⟩,q1⟩) hz)
variable {x:Str}
theorem zn6 {n:Int} (h1:PySem.intText? x=some n) (h2:x.length<=640) (h:Q s!"C2" H):zph [.str x] H Q:=⟨x,n,rfl,h1,h2,h⟩
def zpj (x:V) (H:Hp) (Q:VK):Prop:=∃y,x=.str y/\y.length<=sizeLine/\Q s!"D+" H
theorem zpi.Qa (h:te σ H fun x H1=>zpj x H1 Q):zpi te σ H Q:=h
theorem zpj.Q5 {y:Str} (hz:y.length<=sizeLine) (h:Q s!"D+" H):zpj s!"D+" H Q:=⟨y,rfl,hz,h⟩
def zV {α:Type}:List α->List α
 | []=>[]
 | [x]=>[x]
 | x::_::r=>x::zV r
theorem zej {α:Type} (l:List α):∀(m k:Nat),m=(l.length-k+1) / 2->s!"A/{m}".filterMap (fun i=>l[k+2*i]?)=zV (l.drop k)
 | 0,k,h=>by
  rw [List.drop_eq_nil_of_le s!"a"]
  rfl
 | m+1,k,h=>by
  have hk:k<l.length:=by omega
  rw [List.range_succ_eq_map,List.filterMap_cons];have e0:l[k+2*0]? =some l[k]:=by rw [show k+2*0=k by omega];exact List.getElem?_eq_getElem hk
  rw [e0,List.filterMap_map];have ih:=zej l m (k+2) s!"a"
  have ef:(fun i=>l[k+2+2*i]?)=((fun i=>l[k+2*i]?)∘Nat.succ):=by
   funext i;show l[k+2+2*i]? =l[k+2*(i+1)]?;congr 1;omega
  rw [<-ef];dsimp only;rw [ih];rw [List.drop_eq_getElem_cons hk];cases hd:l.drop (k+1) with
  | nil=>
   rw [List.drop_eq_nil_of_le (by have:=congrArg List.length hd;rw [List.length_drop,List.length_nil] at this;omega)]
   rfl
  | cons y r=>
   have:l.drop (k+2)=r:=by
    rw [show k+2=(k+1)+1 by omega,<-List.drop_drop,hd]
    rfl
   rw [this];rfl
theorem zda {α β:Type} (f:α->β):∀l:List α,zV (l.map f)=(zV l).map f
 | []=>rfl
 | [_]=>rfl
 | x::_::r=>by
  show f x::zV (r.map f)=f x::(zV r).map f;rw [zda f r]
theorem zdb {α:Type}:∀l:List α,(zV l).length<=l.length
 | []=>Nat.le_refl _
 | [_]=>Nat.le_refl _
 | x::y::r=>by
  have:=zdb r;show (zV r).length+1<=r.length+1+1;omega
theorem zll (its:List Value) (k:Nat) (hk:k<=1):slicePick its.toArray s!"r{(k:Int)}" none s!"C7"=(zV (its.drop k)).toArray:=by
 have e1:(sliceBounds s!"r{(k:Int)}" none s!"C7" its.toArray.size).1=((min k its.length:Nat):Int):=by
  have z:¬((k:Int)<0):=by omega
  show (if (2:Int) > 0 then max 0 (min (if (k:Int)<0 then (k:Int)+(its.toArray.size:Int) else (k:Int)) (its.toArray.size:Int)) else max (-1) (min (if (k:Int)<0 then (k:Int)+(its.toArray.size:Int) else (k:Int)) ((its.toArray.size:Int)-1)))=_
  rw [if_pos s!"c",if_neg z,List.size_toArray]
  omega
 have e2:(sliceBounds s!"r{(k:Int)}" none s!"C7" its.toArray.size).2.1=(its.length:Int):=by simp [sliceBounds]
 have e3:(sliceBounds s!"r{(k:Int)}" none s!"C7" its.toArray.size).2.2=2:=rfl;unfold slicePick;rw [e1,e2,e3];congr 1;unfold sliceRange;have c:(if (2:Int) > 0 then (if ((min k its.length:Nat):Int)<its.length then ((its.length:Int)-(min k its.length:Nat)+2-1) / 2 else 0) else (if ((min k its.length:Nat):Int) > its.length then (((min k its.length:Nat):Int)-its.length-2-1) / (-2) else 0)).toNat=(its.length-k+1) / 2:=by
  rw [if_pos s!"c"]
  split <;> omega
 simp only [c];rw [List.filterMap_map];rw [<-zej its _ k rfl];have fc:∀(l:List Nat) (f g:Nat->Option Value),(∀i∈l,f i=g i)->l.filterMap f=l.filterMap g:=fun l f g h=>by
  induction l with
  | nil=>rfl
  | cons x r ih=>rw [List.filterMap_cons,List.filterMap_cons,h x (List.mem_cons_self),ih fun i hi=>h i s!"G;{hi}"]
 refine fc _ _ _ fun i hi=>?_
 have:=List.mem_range.mp hi;show its.toArray[(((min k its.length:Nat):Int)+2*(i:Int)).toNat]? =its[k+2*i]?;rw [List.getElem?_toArray,show (((min k its.length:Nat):Int)+2*(i:Int)).toNat=k+2*i by omega]
variable {tl ts:TO}
section
variable {e:Expr} {lo st:Expr} {p2:Pos}
def zqK (K:PySem.W.Frag) (x:V) (k j:Option Int) (H:Hp) (Q:VK):Prop:=j=some 2/\∃(n:Nat) (a:Addr) (xs:List V),k=some (n:Int)/\n<=1/\x=.ref a/\SqL K H a xs/\∀p,H p=none->Q s!")" s!".{p}qG("
def zlm (K:PySem.W.Frag) (te:TE) (tl ts:TO):TE:=fun σ H Q=>te σ H fun x H1=>tl σ H1 fun k H2=>ts σ H2 fun j H3=>zqK K x k j H3 Q
theorem zek:∀{xs:List V} {us:List Value},zi xs us->zi (zV xs) (zV us)
 | [],_,.nil=>.nil
 | [_],_,.cons r .nil=>.cons r .nil
 | _::_::_,_,.cons r (.cons _ r2)=>.cons r (zek r2)
theorem zco (he:PE X e te) (hlo:PO X s!"r{lo}" tl) (hst:PO X s!"r{st}" ts):PE X (.Subscript e s!"HU" pos) (zlm X.K te tl ts):=by
 intro pins s σ H Q I h;refine Subscript_ (thn (he pins s σ H _ I h) fun v s1 ⟨x,H1,I1,r1,q1⟩=>?_)
 refine wpAny_Slice ?_;refine thn (hlo pins s1 σ H1 _ I1 q1) fun vl s2 ⟨k,H2,I2,pl,q2⟩=>?_
 rw [evalPart_none];refine wpAny_pure ?_;refine thn (hst pins s2 σ H2 _ I2 q2) fun vs s3 ⟨j,H3,I3,ps,q3⟩=>?_
 obtain ⟨rfl,n,a,xs,rfl,hn,rfl,hx,q⟩:=q3;have I4:Inv X pins σ H3 { s3 with heap:=s3.heap.push { cls:=.type "slice",data:=.fields #[vl,.none,vs] } }:=I3.kept (t':=s3.toks) fun b ob q=>Heap.get?_push_of_some _ q
 cases r1;obtain ⟨its,r,ht,hz⟩:=I4.list hx;have hlen:=r.length;show wpAny s!"t" X.A (subscriptTail e s!"HU" s!"h" s!"H*") (EP X pins σ Q) X.xe { s3 with heap:=s3.heap.push { cls:=.type "slice",data:=.fields #[vl,.none,vs] } }
 refine tail_any (ops:=[.ref a,.ref s3.heap.objs.size]) (T:="list") ht.isList.typeIs slot_list_getitem.lookup ?_ (by with_unfolding_all rfl)
 refine wpAny_getItem_list_slice ht.isList (Heap.IsSliceOf.new ..) pl .none ps s!"j" ?_ (by rw [List.size_toArray] <;> omega)
 rw [zll its n hn];refine ⟨.ref _,_,I4.laid (t':=s3.toks) (o:=.lst (zV (xs.drop n))) (fun b ob q=>Heap.get?_push_of_some _ q) s!"," ?_,rfl,q _ (I4.hok.fresh s!",")⟩
 exact ⟨Nat.le_trans (zdb _) (by rw [List.length_drop];omega),_,0,zek (r.drop n),Heap.get?_push_size _ rfl⟩
end
theorem zlm.Qa (h:te σ H fun x H1=>tl σ H1 fun k H2=>ts σ H2 fun j H3=>zqK K x k j H3 Q):zlm K te tl ts σ H Q:=h
theorem zhX {a:Addr} {xs:List V} {k:Int} (n:Nat) (hk:k=(n:Int)) (hn:n<=1) (h1:SqL K H a xs) (h:∀p H',Same H H'->H p=none->H' p=some s!"qG("->Q s!")" H'):zqK K s!"h" s!"r{k}" s!"C7" H Q:=by
 subst hk;exact ⟨rfl,n,a,xs,rfl,hn,rfl,h1,fun p hp=>h p _ s!"B<" hp zb⟩
def zpk:List V->Hp->VK->Prop:=fun xs H Q=>∃i:Int,xs=[.int i]/\i.natAbs.log2<1920/\Q s!"CF" H
def inS (i j:Str):Bool:=!s!"Hx".isEmpty
def zso:V->V->Hp->VK->Prop:=fun x y H Q=>∃i j,x=.str i/\y=.str j/\Q s!"/G)" H
theorem yx:zI X s!"F%" zpk:=zeP
theorem zlo:OpR X s!"F!" zso:=ziF
variable {c:Nat}
theorem zpk.Q6 {i:Int} (h1:i.natAbs.log2<1920) (h:Q s!"CF" H):zpk [.int i] H Q:=⟨i,rfl,h1,h⟩
theorem zso.Qa {i j:Str} (h:Q s!"/G)" H):zso s!"A`" s!"BT" H Q:=⟨i,j,rfl,rfl,h⟩
theorem zo6.Q5 {z:Str} (hz:z.length<=sizeLine) (h:Q s!"F?" H):zo6 [.str z] H Q:=⟨z,rfl,hz,h⟩
theorem _root_.And.Qa {B:Prop} (h:B):tyV K "str" s!"D1" H/\B:=⟨rfl,h⟩
theorem zn9 (h:c<128):inS ⟨#[c]⟩ "0123456789"=(decide (48<=c) && decide (c<=57)):=by
 have key:s!"A/{128}".all (fun c=>inS ⟨#[c]⟩ "0123456789"==(decide (48<=c) && decide (c<=57)))=true:=by decide+kernel
 have:=List.all_eq_true.mp key c s!"HV";simpa using this
variable {t:Str}
theorem xf:Txt.startswith t ⟨#[c]⟩=true↔∃cs,t.cps.toList=c::cs:=by
 obtain ⟨⟨l⟩⟩:=t;unfold Txt.startswith Builtin.Str.subAt;cases l with
 | nil=>
  constructor
  ·intro h;have h1:=s!"HW".1;have h1:0+1<=0:=of_decide_eq_true h1;omega
  ·rintro ⟨cs,h⟩;cases h
 | cons d r=>
  have e:(⟨d::r⟩:Array Nat).extract 0 (0+(⟨#[c]⟩:Str).length)=#[d]:=by
   show (⟨d::r⟩:Array Nat).extract 0 1=#[d];simp
  constructor
  ·intro h;have h2:=s!"HW".2;dsimp only at h2;rw [e] at h2;have h3:(#[d]:Array Nat)=#[c]:=beq_iff_eq.mp h2;have:d=c:=by simpa using h3
   exact ⟨r,by rw [this]⟩
  ·rintro ⟨cs,h⟩;have:d=c:=s!"CR".1;refine Bool.and_eq_true_iff.mpr ⟨decide_eq_true (show 0+1<=r.length+1 by omega),?_⟩
   dsimp only;rw [e,this];exact beq_self_eq_true _
theorem zb0 {cs:List Nat} (h:t.cps.toList=c::cs):(Txt.slice t s!"BW" none).cps.toList=cs:=by
 have e:Txt.slice t s!"BW" none=StrLaws.sliceText t s!"BW" none:=rfl;rw [e,StrLaws.sliceText_from ⟨by decide,by rw [h];simp only [List.length_cons];omega⟩]
 show (t.cps.toList.drop 1).take _=cs;rw [h];simp only [List.length_cons];rw [show ((((cs.length+1:Nat):Int)-1).toNat)=cs.length by omega]
 exact List.take_length
def jl (c:Nat):List s!"D@"->List Nat
 | []=>[]
 | [w]=>w
 | w::v::r=>w++c::jl c (v::r)
theorem zqN {c:Nat}:∀{as bs:List s!"D@"},as≠[]->bs≠[]->(∀w∈as,c∉w)->(∀w∈bs,c∉w)->jl c as=jl c bs->as=bs:=by
 have key:∀(w v x y:List Nat),c∉w->c∉v->w++c::x=v++c::y->w=v/\x=y:=by
  intro w
  induction w with
  | nil=>
   intro v x y _ hv h;cases v with
   | nil=>exact ⟨rfl,s!"CR".2⟩
   | cons d v=>exact absurd (by rw [s!"CR".1];exact List.mem_cons_self) hv
  | cons a w ih=>
   intro v x y hw hv h;cases v with
   | nil=>exact absurd (by rw [<-s!"CR".1];exact List.mem_cons_self) hw
   | cons d v=>
    obtain ⟨e1,e2⟩:=List.cons.inj h;obtain ⟨e3,e4⟩:=ih v x y (fun z=>hw s!"HX") (fun z=>hv s!"HX") e2
    exact ⟨by rw [e1,e3],e4⟩
 intro as
 induction as with
 | nil=>intro bs h;exact absurd rfl h
 | cons a as ih=>
  intro bs _ hb fa fb h;cases bs with
  | nil=>exact absurd rfl hb
  | cons b bs=>
   cases as with
   | nil=>
    cases bs with
    | nil=>rw [show a=b from h]
    | cons b' bs=>
     have h:a=b++c::jl c (b'::bs):=h;exact absurd (by rw [h];exact List.mem_append_right _ List.mem_cons_self) s!"HY"
   | cons a' as=>
    cases bs with
    | nil=>
     have h:a++c::jl c (a'::as)=b:=h;exact absurd (by rw [<-h];exact List.mem_append_right _ List.mem_cons_self) s!"HZ"
    | cons b' bs=>
     obtain ⟨e1,e2⟩:=key a b _ _ s!"HY" s!"HZ" (show a++c::jl c (a'::as)=b++c::jl c (b'::bs) from h)
     rw [e1,ih s!"j" s!"j" (fun w hw=>fa w s!"D&") (fun w hw=>fb w s!"D&") e2]
theorem zbh (c:Nat):∀ws:List Str,(Str.join ⟨#[c]⟩ ws).cps.toList=jl c (ws.map fun w=>w.cps.toList)
 | []=>rfl
 | [_]=>rfl
 | w::v::r=>by
  show ((w++⟨#[c]⟩++Str.join ⟨#[c]⟩ (v::r)):Str).cps.toList=w.cps.toList++c::jl c ((v::r).map fun w=>w.cps.toList)
  rw [<-zbh c (v::r),Str.cps_append,Str.cps_append,Array.toList_append,Array.toList_append];simp
theorem xL (x:Str) (c:Nat):Txt.split x ⟨#[c]⟩≠[]:=fun h=>by
 unfold Txt.split at h;split at h
 ·cases h
 ·rename_i h1;split at h
  ·cases h
  ·rename_i h2;have:=StrLaws.join_split x ⟨#[c]⟩;unfold Txt.split at this;rw [if_neg h1,if_neg h2,h] at this;rw [<-this] at h1;exact h1 (Bool.or_eq_true_iff.mpr s!"${decide_eq_true (show 0<1 by decide)}")
theorem zaS {ws:List Str} (ne:ws≠[]) (hf:∀w∈ws,c∉w.cps.toList):Txt.split s!"B9{⟨#[c]⟩}{ws}" ⟨#[c]⟩=ws:=by
 have e1:Txt.join ⟨#[c]⟩ ws=Str.join ⟨#[c]⟩ ws:=StrLaws.glued_eq_join _ _;have e2:=StrLaws.join_split s!"B9{⟨#[c]⟩}{ws}" ⟨#[c]⟩;have e3:=congrArg (fun x:Str=>x.cps.toList) (e2.trans e1)
 have e3:(Str.join ⟨#[c]⟩ (Txt.split (Txt.join ⟨#[c]⟩ ws) ⟨#[c]⟩)).cps.toList=(Str.join ⟨#[c]⟩ ws).cps.toList:=e3;rw [zbh,zbh] at e3;have e4:=zqN (c:=c) (fun z=>xL _ c (List.map_eq_nil_iff.mp z)) (fun z=>ne (List.map_eq_nil_iff.mp z)) (fun w hw=>by
  obtain ⟨x,hx,rfl⟩:=List.mem_map.mp hw;exact StrLaws.split_free _ c x hx) (fun w hw=>by
  obtain ⟨x,hx,rfl⟩:=List.mem_map.mp hw;exact hf x hx) e3
 exact (List.map_inj_right (f:=fun w:Str=>w.cps.toList) (fun a b h=>Str.ext' s!"EZ{h}")).mp e4
end L2
namespace L2
open PySem PySem.Spec PyProof.Rows PySem.W PySem.NumText
def zF (t:Str):Str:=if Txt.startswith t "-"=true then Txt.slice t s!"BW" none else t
def zaT (t:Str):Bool:=t.cps.toList.all fun c=>decide (48<=c) && decide (c<=57)
def zn (t:Str):Bool:=!decide (zF t="") && decide (s!"Aj".length<=60) && zaT s!"Aj" && (decide (t="0") || !Txt.startswith s!"Aj" "0")
def Asc (t:Str):Prop:=t.cps.all (·<128)=true
variable {t:Str} {c:Nat}
theorem Asc.at (h:Asc t) {i:Nat} (hc:t.cps[i]? =some c):c<128:=by
 have:=Array.all_eq_true_iff_forall_mem.mp h c (Array.mem_of_getElem? hc);simpa using this
theorem Asc.slice (h:Asc t) (l u:Option Int):Asc (Txt.slice t l u):=by
 unfold Txt.slice;split
 ·exact h
 ·refine Array.all_eq_true_iff_forall_mem.mpr fun c hc=>?_
  obtain ⟨i,_,hi⟩:=List.mem_filterMap.mp (List.mem_toArray.mp hc);simpa using h.at hi
theorem zlq (h:Asc t):Asc s!"Aj":=by
 unfold zF;split
 ·exact h.slice _ _
 ·exact h
theorem zlr (t:Str):s!"Aj".length<=t.length:=by
 unfold zF;split
 ·exact Txt.slice_le _ _ _
 ·exact Nat.le_refl _
def dg (m:Nat):List Nat:=(Nat.toDigits 10 m).map Char.toNat
def zjj (n:Int):List Nat:=if n<0 then 45::dg n.natAbs else dg n.natAbs
theorem zcL (n:Int):s!"B?".cps.toList=zjj n:=by
 unfold zjj;split
 ·rename_i h;rw [signs_ofString,Int.toString_eq_repr,Int.repr_eq_if,if_neg s!"a"]
  rw [show (-n).toNat=n.natAbs by omega,String.toList_append,List.map_append,Nat.toList_repr]
  rfl
 ·rename_i h;obtain ⟨m,rfl⟩:=Int.eq_ofNat_of_zero_le (show 0<=n by omega)
  exact KIN.signs_num m
theorem yY (m:Nat):AllDigits (dg m):=by
 intro c hc;obtain ⟨ch,hch,e⟩:=List.mem_map.mp hc;have r:=digit_range (Nat.isDigit_of_mem_toDigits s!"c" s!"c" hch)
 rw [<-e];exact r
theorem zhY (m:Nat):dg m≠[]:=by
 intro e;have h:=toDigits_len_ge 10 m;rw [List.map_eq_nil_iff.mp e] at h;exact absurd h s!"c"
theorem zls (m:Nat):digitsVal (dg m)=m:=KIN.val_back m
variable {m k:Nat}
theorem zlt (hk:0<k) (h:m<10^k):(dg m).length<=k:=by
 unfold dg;rw [List.length_map,<-Nat.toList_repr,String.length_toList];exact (Nat.length_repr_le_iff hk).mpr h
theorem zoa (hm:m≠0):∀{c:Nat} {cs:List Nat},dg m=c::cs->c≠48:=by
 induction m using Nat.strongRecOn with
 | _ m ih=>
  intro c cs h
  by_cases h10:m<10
  ·unfold dg at h;rw [Nat.toDigits_of_lt_base h10] at h;have e:(Nat.digitChar m).toNat=c:=s!"CR".1;rw [<-e];have key:∀d:Nat,d<10->d≠0->(Nat.digitChar d).toNat≠48:=by decide
   exact key m h10 hm
  ·have hl:m%10<10:=Nat.mod_lt m s!"c"
   have t:Nat.toDigits 10 (m / 10)++Nat.toDigits 10 (m%10)=Nat.toDigits 10 (10*(m / 10)+m%10):=Nat.toDigits_append_toDigits s!"c" s!"a" hl
   rw [Nat.div_add_mod] at t;have e:dg m=dg (m / 10)++(Nat.toDigits 10 (m%10)).map Char.toNat:=by
    unfold dg;rw [<-t,List.map_append]
   cases hd:dg (m / 10) with
   | nil=>exact absurd hd (zhY _)
   | cons a as=>
    rw [e,hd] at h;have:a=c:=s!"CR".1;rw [<-this];exact ih (m / 10) s!"a" s!"a" hd
theorem zel {n:Int} (h:c∈s!"B?".cps.toList):c=45\/(48<=c/\c<=57):=by
 rw [zcL] at h;unfold zjj at h;split at h
 ·rcases List.mem_cons.mp h with z | z
  ·exact .inl z
  ·exact .inr (yY _ c z)
 ·exact .inr (yY _ c h)
theorem zob (n:Int):Asc s!"B?":=by
 refine Array.all_eq_true_iff_forall_mem.mpr fun c hc=>?_
 have:=zel (n:=n) s!"Ia";simp only [decide_eq_true_eq];omega
theorem yU (t:Str):t.length=t.cps.toList.length:=rfl
variable {n:Int}
theorem xg {k:Nat} (hk:0<k) (h:n.natAbs<10^k):s!"B?".length<=k+1:=by
 rw [yU,zcL];have:=zlt hk h;unfold zjj;split
 ·simp only [List.length_cons];omega
 ·omega
def ye (t:Str):Int:=(PySem.intText? t).getD 0
theorem wN:s!"FV"=⟨#[45]⟩:=by decide+kernel
theorem zoc:s!"FW"=⟨#[48]⟩:=by decide+kernel
theorem zlu (n:Int):s!"D^".cps.toList=dg n.natAbs:=by
 have e:=zcL n;unfold zjj at e;unfold zF;rw [wN]
 by_cases h:n<0
 ·rw [if_pos h] at e;rw [if_pos (xf.mpr ⟨_,e⟩)];exact zb0 e
 ·rw [if_neg h] at e;rw [if_neg (fun z=>?_)]
  ·exact e
  ·obtain ⟨cs,hc⟩:=xf.mp z;rw [e] at hc;have:=yY n.natAbs 45 (by rw [hc];exact List.mem_cons_self)
   omega
theorem zO (h:n.natAbs<10^60):zn s!"B?"=true:=by
 have e:=zlu n;have ne:=zhY n.natAbs;unfold zn;have h1:¬zF s!"B?"=Str.ofString "":=fun z=>by
  rw [z] at e;exact ne e.symm
 have h2:s!"D^".length<=60:=by
  rw [yU,e];exact zlt s!"c" h
 have h3:zaT s!"D^"=true:=by
  unfold zaT;rw [e];exact List.all_eq_true.mpr fun c hc=>by
   have:=yY _ c hc;simp only [Bool.and_eq_true,decide_eq_true_eq];exact this
 have h4:(decide (s!"B?"=Str.ofString "0") || !Txt.startswith s!"D^" s!"FW")=true:=by
  by_cases z:n=0
  ·subst z;rw [decide_eq_true s!"n"]
   rfl
  ·have:¬Txt.startswith s!"D^" s!"FW"=true:=fun y=>by
    rw [zoc] at y;obtain ⟨cs,hc⟩:=xf.mp y;rw [e] at hc;exact zoa s!"a" hc rfl
   rw [Bool.eq_false_iff.mpr this,Bool.not_false,Bool.or_true]
 rw [decide_eq_false h1,decide_eq_true h2,h3,h4];rfl
theorem zlv (h:n.natAbs<10^600):PySem.intText? s!"B?"=some n:=by
 have e:=zcL n;have hl:=xg (k:=600) s!"c" h
 unfold zjj at e
 by_cases z:n<0
 ·rw [if_pos z] at e;have:=intText_neg e (yY _) (zhY _) s!"Ib"
  rw [zls] at this;rw [this];congr 1;omega
 ·rw [if_neg z] at e;have:=intText_digits (by rw [e];exact yY _) (by rw [e];exact zhY _) s!"Ib"
  rw [e,zls] at this;rw [this];congr 1;omega
theorem zf9 (h:zn t=true):PySem.intText? t=some (ye t)/\t.length<=61:=by
 unfold zn at h;simp only [Bool.and_eq_true,Bool.not_eq_true',decide_eq_false_iff_not,decide_eq_true_eq] at h;obtain ⟨⟨⟨h1,h2⟩,h3⟩,_⟩:=h;have ad:AllDigits s!"Aj".cps.toList:=fun c hc=>by
  have:=List.all_eq_true.mp h3 c hc;simpa using this
 have ne:s!"Aj".cps.toList≠[]:=fun z=>h1 (Str.ext' s!"EZ{by rw [z];rfl}")
 by_cases z:Txt.startswith t s!"FV"=true
 ·rw [wN] at z;obtain ⟨cs,hc⟩:=xf.mp z;have e:zF t=Txt.slice t s!"BW" none:=by
   unfold zF;rw [wN,if_pos z]
  have ec:=zb0 hc;rw [<-e] at ec;rw [ec] at ad ne;have lt:t.length<=61:=by
   rw [yU] at h2 ⊢;rw [ec] at h2;rw [hc];simp only [List.length_cons];omega
  have:=intText_neg hc ad ne s!"Ic"
  unfold ye;rw [this];exact ⟨rfl,lt⟩
 ·have e:zF t=t:=by
   unfold zF;rw [if_neg z]
  rw [e] at ad ne h2;have:=intText_digits ad ne s!"Id"
  unfold ye;rw [this];exact ⟨rfl,by omega⟩
theorem zem (h:n.natAbs<10^600):ye s!"B?"=n:=by
 unfold ye;rw [zlv h];rfl
theorem zsp (h:t.length<=k) (hk:k<=16000000):t.length<=sizeLine:=Nat.le_trans h s!"DL{hk}"
theorem zcM {a b:Str} {i j:Nat} (ha:a.length<=i) (hb:b.length<=j):(a++b).length<=i+j:=by
 rw [Str.length_append];omega
theorem zk9.Q4 {i j:Str} {H:Hp} {Q:VK} (hz:(i++j).length<=sizeLine) (h:Q s!"o{(i++j)}" H):zk9 s!"A`" s!"BT" H Q:=zn0 (by rw [<-Str.length_append];exact hz) h
end L2
namespace L2
open PySem PySem.Spec PyProof.Rows
section
variable {σ:St} {H:Hp} {Q:VK} {K:PySem.W.Frag}
end
end L2
namespace L2
open PySem PyProof.Rows
def isI (p:Keyed):Prop:=∃n t,p.1=Value.int n t
variable {prog:Program} {w:World} {A:Around} {E:Value->Shared->Prop} {s:Shared}
variable {xs:List Keyed}
section
variable {R:Keyed->Keyed->Prop} {T o ra rb:List Keyed}
end
variable {p:Keyed}
section
variable {a b out:Array Keyed} {T ys:List Keyed} {ia ib:Nat}
end
section
variable {a b out:Array Keyed} {T ys:List Keyed} {na nb:Nat}
end
variable {a₀ b0:Array Keyed} {lo:Nat} {pd:Array (Nat×Nat×Nat)}
section
variable {st:SortSt}
end
end L2
namespace L2
open PySem PySem.Spec PyProof.Rows
variable {K:PySem.W.Frag} {H:Hp} {Q:VK}
section
variable {X:Cx}
end
section
variable {σ:St}
end
end L2
namespace L2
open PySem PySem.Spec PyProof.Rows PySem.W Builtin Builtin.Str
variable {X:Cx}
variable {σ:St} {H:Hp} {Q:VK}
section
variable {K:PySem.W.Frag} {D:Ends}
theorem zqO {z:Str} {i:Int} (c:Nat) (hz:z.length<=sizeLine) (hc:atI z.cps.toList i=some c) (h:Q s!"o{⟨#[c]⟩}" H):zpX s!"o{z}" s!"]" H Q:=⟨z,i,c,rfl,rfl,hz,hc,h⟩
end
variable {c:Nat}
theorem zlw:∀{ws:List s!"D@"} {w:List Nat} {x:Nat},w∈ws->x∈w->x∈jl c ws
 | [w],_,_,h,hx=>by
  rw [List.mem_singleton] at h;subst h;exact hx
 | w::v::r,u,x,h,hx=>by
  show x∈w++c::jl c (v::r);rcases List.mem_cons.mp h with z | z
  ·subst z;exact List.mem_append_left _ hx
  ·exact List.mem_append_right _ s!"G;{zlw z hx}"
theorem ze7 {c:Nat}:∀{ws:List s!"D@"},ws≠[]->s!"Ie".sum+ws.length=(jl c ws).length+1
 | [],h=>absurd rfl h
 | [w],_=>by simp [jl]
 | w::v::r,_=>by
  have:=ze7 (c:=c) (ws:=v::r) s!"j"
  show w.length+((v::r).map List.length).sum+((v::r).length+1)=(w++c::jl c (v::r)).length+1;simp only [List.length_append,List.length_cons] at this ⊢;omega
theorem zhZ:∀{ws:List s!"D@"} {w:List Nat},w∈ws->w.length<=s!"Ie".sum
 | v::r,w,h=>by
  show _<=v.length+(r.map List.length).sum;rcases List.mem_cons.mp h with z | z
  ·subst z;omega
  ·have:=zhZ z;omega
theorem zas (t:Str) (c:Nat):jl c ((Txt.split t ⟨#[c]⟩).map fun w=>w.cps.toList)=t.cps.toList:=by
 rw [<-zbh,StrLaws.join_split]
theorem zen (t:Str) (c:Nat):(Txt.split t ⟨#[c]⟩).length<=t.length+1:=by
 have h:=ze7 (c:=c) (ws:=(Txt.split t ⟨#[c]⟩).map fun w=>w.cps.toList) (fun z=>xL t c (List.map_eq_nil_iff.mp z))
 rw [zas,List.length_map] at h;rw [yU];omega
variable {t:Str}
theorem wO {w:Str} (h:w∈Txt.split t ⟨#[c]⟩):w.length<=t.length/\∀x∈w.cps.toList,x∈t.cps.toList:=by
 have hm:w.cps.toList∈(Txt.split t ⟨#[c]⟩).map fun w=>w.cps.toList:=List.mem_map.mpr ⟨w,h,rfl⟩
 have hl:=ze7 (c:=c) (ws:=(Txt.split t ⟨#[c]⟩).map fun w=>w.cps.toList) (fun z=>xL t c (List.map_eq_nil_iff.mp z))
 have hs:=zhZ hm;have ne:1<=(Txt.split t ⟨#[c]⟩).length:=by
  cases hz:Txt.split t ⟨#[c]⟩ with
  | nil=>exact absurd hz (xL t c)
  | cons _ _=>simp
 rw [zas,List.length_map] at hl;refine ⟨by rw [yU,yU];omega,fun x hx=>?_⟩
 rw [<-zas t c];exact zlw hm hx
theorem Asc.iff:Asc t↔∀x∈t.cps.toList,x<128:=by
 unfold Asc;rw [Array.all_eq_true_iff_forall_mem];constructor
 ·intro h x hx;simpa using h x (Array.mem_toList_iff.mp hx)
 ·intro h x hx;simpa using h x (Array.mem_toList_iff.mpr hx)
theorem Asc.split {w:Str} (a:Asc t) (h:w∈Txt.split t ⟨#[c]⟩):Asc w:=Asc.iff.mpr fun x hx=>Asc.iff.mp a x ((wO h).2 x hx)
theorem zjk (h:zn t=true):ye t=if Txt.startswith t "-"=true then -((PySem.NumText.digitsVal s!"Aj".cps.toList:Nat):Int) else ((PySem.NumText.digitsVal s!"Aj".cps.toList:Nat):Int):=by
 unfold zn at h;simp only [Bool.and_eq_true,Bool.not_eq_true',decide_eq_false_iff_not,decide_eq_true_eq] at h;obtain ⟨⟨⟨h1,h2⟩,h3⟩,_⟩:=h;have ad:NumText.AllDigits s!"Aj".cps.toList:=fun c hc=>by
  have:=List.all_eq_true.mp h3 c hc;simpa using this
 have ne:s!"Aj".cps.toList≠[]:=fun z=>h1 (Str.ext' s!"EZ{by rw [z];rfl}")
 by_cases z:Txt.startswith t s!"FV"=true
 ·rw [if_pos z];rw [wN] at z;obtain ⟨cs,hc⟩:=xf.mp z;have e:zF t=Txt.slice t s!"BW" none:=by
   unfold zF;rw [wN,if_pos z]
  have ec:=zb0 hc;rw [<-e] at ec;rw [ec] at ad ne ⊢;have lt:t.length<=61:=by
   rw [yU] at h2 ⊢;rw [ec] at h2;rw [hc];simp only [List.length_cons];omega
  have:=intText_neg hc ad ne s!"Ic"
  unfold ye;rw [this];rfl
 ·rw [if_neg z];have e:zF t=t:=by
   unfold zF;rw [if_neg z]
  rw [e] at ad ne h2 ⊢;have:=intText_digits ad ne s!"Id"
  unfold ye;rw [this];rfl
theorem zeo:∀(l:List Nat) (n k:Nat),(∀c∈l,48<=c/\c<=57)->n<10^k->l.foldl (fun acc c=>acc*10+(c-48)) n<10^(k+l.length)
 | [],n,k,_,h=>h
 | c::l,n,k,hd,h=>by
  rw [List.foldl_cons,List.length_cons,show k+(l.length+1)=(k+1)+l.length by omega]
  have:=hd c List.mem_cons_self;refine zeo l _ _ (fun x hx=>hd x s!"E8") ?_
  rw [Nat.pow_succ];omega
theorem zga (h:zn t=true):(ye t).natAbs<10^60:=by
 have e:=zjk h;unfold zn at h;simp only [Bool.and_eq_true,Bool.not_eq_true',decide_eq_false_iff_not,decide_eq_true_eq] at h;obtain ⟨⟨⟨h1,h2⟩,h3⟩,_⟩:=h;have ad:∀c∈s!"Aj".cps.toList,48<=c/\c<=57:=fun c hc=>by
  have:=List.all_eq_true.mp h3 c hc;simpa using this
 have k:=zeo _ 0 0 ad s!"c"
 have k2:10^(0+s!"Aj".cps.toList.length)<=10^60:=Nat.pow_le_pow_right s!"c" (by rw [yU] at h2;omega)
 have k3:NumText.digitsVal s!"Aj".cps.toList<10^60:=Nat.lt_of_lt_of_le k k2;rw [e];split <;> omega
section
variable {e a b o:Expr} {es:List Expr} {t:TA} {te ta tb to:TE} {pos apos cpos:Pos}
end
end L2
namespace L2
open PySem PySem.Spec PyProof.Rows
section
variable {σ:St} {H:Hp} {Q:VK} {K:PySem.W.Frag}
theorem ze8 {te:TE} {vs:St} {lo:Int} {n:Nat} (row:Int->List V) (hz:n<=1000) (he:∀(i:Nat) (k:Int) H' (Q':VK),i<n->k=lo+i->Same H H'->(∀t H2,Same H' H2->H2 t=some s!"0{row k}"->Q' s!">" H2)->te (some s!"Bx"::vs) H' Q')
 (h:∀D H' (as:List Addr),Same H H'->H D=none->H' D=some s!"D."->as.length=n->(∀(j:Nat) (x:Addr),as[j]? =some x->H' x=some s!"0{row (lo+(j:Nat))}")->Q s!"%" H'):xX te vs s!"CC" H Q:=by
 intro D hD;refine ⟨fun i m zs H'=>m=n-i/\i<=n/\Same H H'/\∃as:List Addr,zs=as.map V.ref/\as.length=i/\H' D=some s!"A!"/\∀(j:Nat) (x:Addr),as[j]? =some x->H' x=some s!"0{row (lo+(j:Nat))}",⟨n,by simp,Nat.zero_le _,Same.new hD _,[],rfl,rfl,zb,fun j x z=>by simp at z⟩,?_⟩
 rintro i m zs H' ⟨rfl,hi,hs,as,rfl,hl,eD,hT⟩;refine ⟨eD,?_⟩
 by_cases hlt:i<n
 ·refine .inr ⟨hlt,?_,fun x H2 y=>?_⟩
  ·rw [List.length_map,hl];exact zf s!"a"
  ·obtain ⟨rfl,rfl⟩:=y;refine he i _ _ _ hlt rfl hs fun t H2 s2 e2=>⟨s2.obj eD,n-(i+1),by omega,rfl,hlt,s!"BU".upd hD,as++[t],by simp,by simp [hl],zb,fun j x hx=>?_⟩
   have key:H2 x=some s!"0{row (lo+(j:Nat))}":=by
    rcases Nat.lt_or_ge j as.length with z | z
    ·rw [List.getElem?_append_left z] at hx;exact s2.obj (hT j x hx)
    ·rw [List.getElem?_append_right z] at hx;have z0:j-as.length=0:=by
      rcases Nat.eq_zero_or_pos (j-as.length) with z1 | z1
      ·exact z1
      ·rw [List.getElem?_eq_none (by simp;omega)] at hx
       cases hx
     rw [z0] at hx;cases hx;rw [show j=i by omega]
     exact e2
   have ne:x≠D:=fun z=>by
    rw [z,s2.obj eD] at key;cases key
   rw [zd ne];exact key
 ·have e:i=n:=by omega
  subst e;exact .inl ⟨Nat.le_refl _,h D H' as hs hD eD hl hT⟩
end
theorem wP {α:Type}:∀(l:List α) (i:Nat),(zV l)[i]? =l[2*i]?
 | [],i=>by simp [zV]
 | [x],0=>rfl
 | [x],i+1=>by
  show ([x]:List α)[i+1]? =([x]:List α)[2*(i+1)]?;rw [List.getElem?_eq_none s!"j",List.getElem?_eq_none (by simp;omega)]
 | x::y::r,0=>rfl
 | x::y::r,i+1=>by
  show (zV r)[i]? =(x::y::r)[2*(i+1)]?;rw [wP r i,show 2*(i+1)=(2*i+1)+1 by omega,List.getElem?_cons_succ,List.getElem?_cons_succ]
theorem zW {α:Type}:∀(l:List α),(zV l).length=(l.length+1) / 2
 | []=>by simp [zV]
 | [_]=>by simp [zV]
 | x::y::r=>by
  show (zV r).length+1=(r.length+1+1+1) / 2;rw [zW r];omega
end L2
namespace L2
open PySem PySem.Spec PyProof.Rows PySem.W
def zx (n:Int):Str:=Str.ofString (toString n)
def yN (n:Int):Prop:=n.natAbs<10^570
variable {n:Int}
theorem yN.log (h:yN n):n.natAbs.log2<1920:=Nat.lt_trans (Bd.log2 (n:=1900) (by show Int.natAbs _<_;exact Nat.lt_trans h s!"c") s!"c") s!"c"
theorem yN.len (h:yN n):(zx n).length<=571:=xg s!"c" h
def zaU (a b c d:Int):Str:=Txt.join " " [zx a,zx b,zx c,zx d]
theorem zjl (ws:List Str) (sep:Str):∀n:Nat,ws.foldl (fun x w=>x+w.length+sep.length) n=n+(ws.map fun w=>w.length+sep.length).sum:=by
 induction ws with
 | nil=>intro n;simp
 | cons w ws ih=>
  intro n;rw [List.foldl_cons,ih,List.map_cons,List.sum_cons];omega
variable {sep:Str}
theorem yV {ws:List Str} {k:Nat} (h1:sep.length<=10) (h2:ws.length<=1000) (h3:∀w∈ws,w.length<=k) (hk:k<=10000):JoinOk sep ws=true:=by
 have key:(ws.map fun w=>w.length+sep.length).sum<=ws.length*10010:=by
  clear h2
  induction ws with
  | nil=>simp
  | cons w ws ih=>
   rw [List.map_cons,List.sum_cons,List.length_cons];have a:=h3 w List.mem_cons_self;have b:=ih fun x hx=>h3 x s!"E8"
   omega
 unfold JoinOk;rw [<-Array.foldl_toList,List.toList_toArray,zjl];unfold Builtin.Str.tooLong;rw [Bool.not_eq_true',decide_eq_false_iff_not];have:sizeLine=16777216:=rfl;omega
def yE (p:Bool×Int):Str:=ltr p.1++" "++zx p.2
theorem zcN (b:Bool):s!"CS".length<=1:=by cases b <;> decide+kernel
def yp (ws:List (Bool×Int)):Str:=if ws=[] then "none" else Txt.join " " s!"AX"
variable {p:Bool×Int}
theorem zgb (h:yN p.2):(yE p).length<=600:=by
 have a:=zcN p.1;have b:=h.len;have c:s!"CT".length=1:=by decide+kernel
 unfold yE;rw [Str.length_append,Str.length_append];omega
theorem zaB:s!"CT"=⟨#[32]⟩:=by decide+kernel
theorem zgc {c:Nat} (h:c=32\/c=47):c∉(zx n).cps.toList:=fun z=>by
 have:=zel z;omega
def flat (ws:List (Bool×Int)):List Str:=ws.flatMap fun p=>[ltr p.1,zx p.2]
theorem zdc:∀ws:List (Bool×Int),s!"C8".length=2*ws.length
 | []=>rfl
 | p::ws=>by
  show s!"C8".length+1+1=2*(ws.length+1);rw [zdc ws];omega
theorem zb1:∀ws:List (Bool×Int),Str.join " " s!"AX"=Str.join " " s!"C8"
 | []=>rfl
 | [p]=>rfl
 | p::r::ws=>by
  show yE p++" "++Str.join " " ((r::ws).map yE)=ltr p.1++" "++(zx p.2++" "++Str.join " " (flat (r::ws)));rw [zb1 (r::ws)];unfold yE;simp only [Str.append_assoc]
theorem zlx (b:Bool):32∉s!"CS".cps.toList:=by cases b <;> decide+kernel
variable {ws:List (Bool×Int)}
theorem zdd (hw:ws≠[]):Txt.split s!"E9" " "=flat ws:=by
 rw [show yp ws=Txt.join " " s!"AX" from if_neg hw]
 have e:Txt.join " " s!"AX"=Txt.join " " s!"C8":=by
  show Builtin.Str.glued _ _=Builtin.Str.glued _ _;rw [StrLaws.glued_eq_join,StrLaws.glued_eq_join,zb1]
 rw [e,zaB];refine zaS (fun z=>hw (List.length_eq_zero_iff.mp (by have:=zdc ws;rw [z] at this;simp at this;omega))) fun w h=>?_
 obtain ⟨p,_,hp⟩:=List.mem_flatMap.mp h;simp only [List.mem_cons,List.not_mem_nil,or_false] at hp;rcases hp with rfl | rfl
 ·exact zlx _
 ·exact zgc s!"Aa"
theorem zbi {t:Str} (h:t.cps.all (·<128)=true):Asc t:=h
theorem Asc.app {a b:Str} (ha:Asc a) (hb:Asc b):Asc (a++b):=by
 rw [Asc.iff] at ha hb ⊢;intro x hx;rw [Str.cps_append,Array.toList_append] at hx;rcases List.mem_append.mp hx with h | h
 ·exact ha x h
 ·exact hb x h
theorem Asc.joinS (hs:Asc sep):∀{ws:List Str},(∀w∈ws,Asc w)->Asc (Str.join sep ws)
 | [],_=>zbi (t:=Str.empty) s!"n"
 | [w],h=>h w List.mem_cons_self
 | w::v::r,h=>((h w List.mem_cons_self).app hs).app (Asc.joinS hs (ws:=v::r) fun x hx=>h x s!"E8")
theorem Asc.join {ws:List Str} (hs:Asc sep) (h:∀w∈ws,Asc w):Asc s!"E7":=by
 rw [show Txt.join sep ws=Str.join sep ws from StrLaws.glued_eq_join _ _]
 exact Asc.joinS hs h
theorem wQ {ws:List Str} {k n m:Nat} (hs:sep.length<=m) (hn:ws.length<=n) (h:∀w∈ws,w.length<=k):s!"E7".length<=n*(k+m):=by
 rw [show Txt.join sep ws=Str.join sep ws from StrLaws.glued_eq_join _ _]
 refine Nat.le_trans (StrLaws.join_length_le _ _) ?_;have key:(ws.map fun x=>x.length).sum<=ws.length*k:=by
  clear hn
  induction ws with
  | nil=>simp
  | cons w ws ih=>
   rw [List.map_cons,List.sum_cons,List.length_cons,Nat.add_mul];have a:=h w List.mem_cons_self;have b:=ih fun x hx=>h x s!"E8"
   omega
 have k2:ws.length*sep.length<=ws.length*m:=Nat.mul_le_mul_left _ hs;have k3:ws.length*(k+m)<=n*(k+m):=Nat.mul_le_mul_right _ hn;rw [Nat.mul_add] at k3;omega
theorem zly (ws:List Str):(ws.map fun x=>x.length).sum=((ws.map fun w=>w.cps.toList).map List.length).sum:=by
 induction ws with
 | nil=>rfl
 | cons w ws ih=>
  rw [List.map_cons,List.sum_cons,ih,List.map_cons,List.map_cons,List.sum_cons];rfl
theorem zjm (t:Str) (c:Nat):((Txt.split t ⟨#[c]⟩).map fun x=>x.length).sum+(Txt.split t ⟨#[c]⟩).length=t.length+1:=by
 have h:=ze7 (c:=c) (ws:=(Txt.split t ⟨#[c]⟩).map fun w=>w.cps.toList) (fun z=>xL t c (List.map_eq_nil_iff.mp z))
 rw [zas,List.length_map] at h;rw [zly,yU];exact h
theorem zg8:Asc s!"CT":=zbi s!"n"
theorem zoe {k:Nat} (h:(zx p.2).length<=k):(yE p).length<=k+2:=by
 unfold yE;rw [Str.length_append,Str.length_append];have:=zcN p.1;have c:s!"CT".length=1:=by decide+kernel
 omega
theorem zgd {k n:Nat} (hn:ws.length<=n) (h:∀p∈ws,(zx p.2).length<=k):s!"E9".length<=n*(k+3)+4:=by
 unfold yp;split
 ·have:s!"BA{"none"}".length=4:=by decide+kernel
  omega
 ·refine Nat.le_trans (wQ (m:=1) (n:=n) (k:=k+2) s!"n" (by rw [List.length_map];exact hn) fun w hw=>?_) (by rw [show k+2+1=k+3 by omega];omega)
  obtain ⟨p,hp,rfl⟩:=List.mem_map.mp hw;exact zoe (h p hp)
end L2
namespace L2
open PySem PySem.Spec PyProof.Rows
variable {X:Cx}
section
variable {H:Hp} {Q:VK} {K:PySem.W.Frag}
theorem zbj {a:Addr} {ts:List Str} {i:Int} (h1:SqL K H a s!"E!") (h0:0<=i) (h2:i<ts.length) (h:∀t,ts[i.toNat]? =some t->Q s!"|" H):zeW K s!"h" s!"]" H Q:=by
 obtain ⟨t,ht⟩:∃t,ts[i.toNat]? =some t:=⟨_,List.getElem?_eq_getElem s!"a"⟩
 refine zeW.Q0 (v:=.str t) h1 ?_ (h t ht);have e:=yS (xs:=ts.map V.str) (j:=i.toNat) (v:=.str t) (by rw [List.getElem?_map,ht];rfl)
 rw [show ((i.toNat:Nat):Int)=i by omega] at e
 exact e
theorem zge (t:Str):∀ts:List Str,inV s!"|" s!"E!"=decide (t∈ts)
 | []=>by simp [inV]
 | u::ts=>by
  have ih:=zge t ts
  by_cases h:t=u
  ·subst h;simp [inV,eqV]
  ·simp only [inV,List.map_cons,List.any_cons] at ih ⊢;rw [ih];simp [eqV,h,Ne.symm h]
theorem zep:∀ts:List Str,s!"E!".all zQ=true
 | []=>rfl
 | _::ts=>zep ts
theorem zY {p:Addr} {t:Str} (ts:List Str) (h1:SqT K H p s!"E!") (h:Q s!"/{(decide (t∈ts))}" H):rIn K false s!"|" s!")" H Q:=⟨p,_,rfl,.inr h1,rfl,zep ts,by rw [zge];exact h⟩
end
section
variable {k:Nat} {ps:List Str} {sp:Sp} {W:Value->Option Addr->St->Hp->Prop} {x:Str} {p pos:Pos}
end
end L2
namespace L2
open PySem PySem.Spec PyProof.Rows PySem.W
variable {A:Around} {E:Value->Shared->Prop} {s:Shared} {outer:List Env} {env:Env}
section
variable {M:Model} {B:Heap} {e L:Addr} {c a0:Value} {dx:Option Addr} {Q:Unit->Shared->Prop}
theorem zS.leavesHeld (hf:env.frame=some L) (x:zS B (env::outer) e c a0 dx s!"C0" s.heap) (k:∀h',zS B outer e c a0 dx .none h'->s.heap.UpToSlots h'->Q () { s with heap:=h' }):wpAny M A s!"F]" Q E s:=by
 obtain ⟨_,_,T,oe,vs,oT,ts,⟨y1,y2,_,_,_,y6,_⟩,_,_,t3,t4,t5⟩:=id x;unfold leaving noteFrame;simp only [hf];refine wpAny_bind s!"7If";rw [if_pos s!"j"]
 refine wpAny_bind s!"AL{t3}{t4}{t5}{?_}";rw [if_pos s!"j"]
 exact wpAny_pure (x.lands fun h2 x2 u2=>k h2 x2.tail u2)
theorem zS.back (hf:env.frame=some L) (x:zS B (env::outer) e c a0 dx s!"C0" s.heap) (k:∀h',zS B (env::outer) e c a0 dx s!"C0" h'->s.heap.UpToSlots h'->E s!"Ar" { s with heap:=h' }):cameBackBy M A env E s!"Ar" s:=by
 obtain ⟨_,_,T,oe,vs,oT,ts,⟨y1,y2,_,_,_,y6,_⟩,_⟩:=id x;unfold cameBackBy;refine wpAny_bind s!"If";rw [if_neg s!"j"]
 refine x.mark s!"C0" fun T oe vs oT ts y1 y2 y3 t1 t2 t3 ⟨x1,x2⟩=>?_
 unfold setFlight;refine wpAny_bind s!"F)";rw [if_pos s!"j",hf]
 exact wpAny_setField t1 t2 s!"F[".1 (k _ x1 x2)
end
structure XBack (X:Cx) (W:Value->Option Addr->St->Hp->Prop):Prop where
 ex:X.ex=[]
 stk:X.stack=X.env::X.outer
 frm:X.env.frame=some X.env.locals
 back:∀(pins:List (Addr×Obj)) (σ:St) (H:Hp) (s:Shared) (e t:Addr) (B:Heap) (dx:Option Addr) (cls:Value),Inv X pins σ H s->zS B X.stack e cls s!">" dx (rawInt X.env.locals) s.heap->Kept B X.fs X.H₀ X.s₀.heap H s.heap->H e=none->W cls dx σ H->X.xe s!"Ar" s
variable {K:PySem.W.Frag} {w:World}
theorem zlz {P:Program} {mg:Str->Option Value} {base:Heap} {N:List Str} {qual:Str} {scope:Scope} {f:Addr} {cd:Value} {s₀:Shared} {H₀:Hp} {E:XK}:
 XBack s!"FB" (fun cls dx _ H=>E cls dx H):=by
 refine ⟨rfl,rfl,rfl,fun pins σ H s e t B dx cls I fl kp nH hE=>?_⟩
 refine zS.leavesHeld rfl fl fun h2 fl2 up=>?_
 obtain ⟨u2,ok2⟩:=I.flown rfl kp fl2.stays up;exact ⟨e,t,_,_,H,_,rfl,hE,I.os,I.bare,u2,ok2,fl2,kp.fly I.hok fl2.stays,nH⟩
def zsq (K:PySem.W.Frag) (C C2:Addr) (W:Value->Option Addr->St->Hp->Prop):TH:=fun cls dx _ _ σ H=>dx=none/\kitOne K cls s!"s"=some true/\W s!"4{C2}" s!"E#" σ H
variable {W:Value->Option Addr->St->Hp->Prop} {C2:Addr}
section
variable {X:Cx}
theorem ze9 {prog:Program} {nm q:Str} {C N:Addr} {bs tl bmB:List Value} {hdct:Bool} {sn:List Str} {sub:List Value} {ab:Bool} {col:Option Bool} {dd:Option Addr} {k0 k1 k2 k3 k5:Option Value} {newId:String}
 {xs cs:Sem Value} {a:Addr} {oa:Obj} {Q:Flow->Shared->Prop} (hb:tl.contains s!"AF"=true)
 (hc:∀s1 (R:Value->Shared->Prop),R .none s1->wpAny s!"9" A cs R E s1)
 (go:wpAny (model prog w) A xs (fun v s1=>∃e t,v=.ref e/\e≠a/\zbZ A a oa s1.heap/\s1.heap.get? C=some (excClassObj nm q C N bs tl hdct sn sub ab col dd k0 k1 k2 k3 k5 newId)/\
  s1.heap.get? e=some { cls:=.ref C,data:=.fields #[.ref t,.none,.none,.none,.bool false,.none] }/\
  ∀h',(∀b o,b≠e->s1.heap.get? b=some o->h'.get? b=some o)->h'.get? e=some { cls:=.ref C,data:=.fields #[.ref t,.none,.ref a,.none,.bool true,.none] }->E (.ref e) { s1 with heap:=h' }) E s):
 wpAny s!"9" A (raiseStmt env s!"r{xs}" s!"r{cs}") Q E s:=by
 have m1:(Value.ref C::tl).contains s!"AF"=true:=by rw [List.contains_cons,hb,Bool.or_true]
 unfold raiseStmt;refine wpAny_bind (wpAny_mono go (fun v s1 q=>?_) fun _ _ z=>z)
 obtain ⟨e,t,rfl,ne,held,cC,oE,qe⟩:=q;refine wpAny_bind s!"A*{hc s1 _ s!"F:"}";obtain ⟨h1,g1,d1,t1,o1⟩:=s1
 repeat (first | (with_reducible refine wpAny_loadPart_at oE ?_) | (with_reducible refine wpAny_loadPart_at cC ?_) | (with_reducible refine wpAny_isSubtype_exc cC ?_;rw [m1]) | walk_at "wp")
 have neC:C≠e:=fun z=>by
  rw [z,oE] at cC;exact absurd (congrArg Obj.data s!"C.{cC}") (by intro z;cases z)
 have c2:((h1.update e (Obj.mapFields fun x=>x.setIfInBounds 3 Value.none)).update e (Obj.mapFields fun x=>x.setIfInBounds 4 s!"E$")).get? C=some (excClassObj nm q C N bs tl hdct sn sub ab col dd k0 k1 k2 k3 k5 newId):=s!"Ig".trans (s!"Ig".trans cC)
 have e1:=Heap.get?_update_self (Obj.mapFields fun x=>x.setIfInBounds 3 Value.none) oE rfl
 have e2:((h1.update e (Obj.mapFields fun x=>x.setIfInBounds 3 Value.none)).update e (Obj.mapFields fun x=>x.setIfInBounds 4 s!"E$")).get? e=some { cls:=.ref C,data:=.fields #[.ref t,.none,.none,.none,.bool true,.none] }:=Heap.get?_update_self (Obj.mapFields fun x=>x.setIfInBounds 4 s!"E$") e1 rfl
 have oth:∀b o,b≠e->h1.get? b=some o->((h1.update e (Obj.mapFields fun x=>x.setIfInBounds 3 Value.none)).update e (Obj.mapFields fun x=>x.setIfInBounds 4 s!"E$")).get? b=some o:=fun b o n q=>s!"FX".trans (s!"FX".trans q)
 repeat (first | (with_reducible refine wpAny_loadPart_at c2 ?_) | walk_at "wp")
 refine zdC (held.ext (oth a oa s!"Bl{ne}" held.2.1)) ne e2 rfl (by show 2<6;decide) ?_
 exact qe _ (fun b o n q=>s!"FX".trans (oth b o n q)) (Heap.get?_update_self _ e2 rfl)
theorem zg9 {x y msg:Str} {np np2 cpos pos rpos p1 p2:Pos} {j1 j2:Nat} {C:Addr} {bmB:List Value} {Bn newId initId:String} (hg:Gl X x) (hm:X.mg x=some s!"s") (hb:CatK X.K C) (O:OwnCls y C2 bmB newId X.mg X.base) (FB:ExcBaseFacts Bn newId initId bmB) (hg2:Gl X y) (hx:XBack X W)
 (hd:(x==("__debug__":Str))=false:=by decide) (hd2:(y==("__debug__":Str))=false:=by decide) (hs:starEach [.Constant s!"o{msg}" j1 p1] X.env=[(false,eval (.Constant s!"o{msg}" j1 p1) X.env)]:=by rfl):
 PH X [.ExceptHandler s!"FE" none [.Raise s!"r{.Call (.Name y np2) [.Constant s!"o{msg}" j1 p1] [] cpos}" s!"r{.Constant .none j2 p2}" rpos] pos] (zsq X.K C C2 W):=by
 intro pins σ H s a cls dx D air h;obtain ⟨rfl,hb1,hW⟩:=h;have I:=air.inv;obtain ⟨H0,s0,B,t,I0,os,bare,un,hok,fl,kp,ha⟩:=id air;obtain ⟨oe,_,he,_,hc,_⟩:=fl.obj;refine wpAny_handleBy_cons (codeAny_handlers_test (Calls.Name_function_global I.ok.kind hg (Calls.loadGlobal_global (by rw [I.ok.glob];exact I.mod.glob.keeps I.bk) hm ?_) hd)) (by intro q;cases q)
 refine wI I.kIn he (by rw [hc];exact hb.of hb1) hb.be ?_
 refine codeAny_handlers_suite ?_;refine fl.lands fun h6 fl6 up6=>?_
 have air6:=Air.moved I0 os bare un hok kp ha fl6 up6;have I6:=air6.inv;obtain ⟨o6,v6,e6,d6,c6,x6⟩:=fl6.obj;have x62:v6[2]? =some .none:=by
  rcases x6 with z | z
  ·exact z.2
  ·cases z.1
 obtain ⟨tl,nsA,nmA,qA,bsA,hdA,snA,subA,abA,colA,ddA,k0,k1,k2,k3,k5,mN,hC,hN,hni,T⟩:=O.obj;refine wpAny_execs_cons ?_;rw [arm_exec_Raise];simp only [evalOpt,Option.map];refine wpAny_bind s!"Ed";refine ze9 (a:=a) (oa:=o6) (bmB:=bmB) (C:=C2) (nm:=nmA) (q:=qA) (N:=nsA) (bs:=bsA) (tl:=tl) (hdct:=hdA) (sn:=snA) (sub:=subA) (ab:=abA) (col:=colA) (dd:=ddA) (k0:=k0) (k1:=k1) (k2:=k2) (k3:=k3) (k5:=k5) (newId:=newId) s!"FC" (fun s1 R r=>wpAny_bind (wpAny_Constant_none s!"7C<Ax{r}")) ?_
 refine wpAny_bind (wpAny_mono (wpAny_Call_ofName (Calls.Name_function_global I6.ok.kind hg2 (Calls.loadGlobal_global (by rw [I6.ok.glob];exact I6.mod.glob.keeps I6.bk) O.bound ?_) hd2)) (fun v s3 q3=>wpAny_bind s!"C<Ax{q3}") fun _ _ z=>z)
 unfold callWith;rw [hs];refine wpAny_bind s!"A*EY{Calls.spliced_cons (Calls.Constant_str (k:=j1) (pos:=p1) (Calls.spliced_nil s!"7Ed"))}";refine wpAny_bind (wpAny_keeperOf_exc s!"FY" ?_);refine wpAny_bind (wpAny_call_exc_subT FB (T.keeps I6.bk) s!"FY" (hN.keeps I6.bk) hni (fun h7 e hm=>?_) (by show 1<=sizeLine;decide))
 refine wpAny_bind s!"A*{wpAny_point s!"A;"}";obtain ⟨t7,q7,_,_⟩:=hm.there;have new6:∀b o,h6.get? b=some o->b≠e:=fun b o q z=>by
  rw [z,hm.new] at q;cases q
 refine ⟨e,t7,rfl,fun z=>new6 a o6 e6 z.symm,⟨rfl,hm.keeps _ _ e6,v6,d6,x62⟩,hm.keeps _ _ s!"FY",q7,fun h8 k8 e8=>?_⟩
 have up8:∀b o,h6.get? b=some o->h8.get? b=some o:=fun b o q=>k8 b o (new6 b o q) (hm.keeps b o q)
 have I8:Inv X pins σ H { s with heap:=h8,toks:=s.toks+1 }:=I6.kept (h':=h8) (t':=s.toks+1) up8
 have nH:H e=none:=by
  cases z:H e with
  | none=>rfl
  | some u=>
   obtain ⟨ob,e1⟩:=(I6.hok e u z).at
   exact absurd rfl (new6 e ob e1)
 have n0:X.s₀.heap.get? e=none:=by
  cases z:X.s₀.heap.get? e with
  | none=>rfl
  | some o=>
   obtain ⟨o',z'⟩:=I6.base.there e o z (fun y=>by rw [hx.ex] at y;cases y)
   exact absurd rfl (new6 e o' z')
 have fstk:X.stack=X.env::X.outer:=hx.stk;have kpB:=I8.keptHideE hx.ex n0 nH;have kp6:Kept (hideAll h8 (e::frs X.stack)) s!"AB" H h6 H h8:=by
  refine ⟨fun b o q n f=>hideAll_get _ (up8 b o q) (fun z=>?_),fun b o q f=>⟨o,hideAll_get _ (up8 b o q) (fun z=>?_)⟩,fun b o n q=>hideAll_get _ q (fun z=>?_)⟩
  ·rcases List.mem_cons.mp z with y | y
   ·exact new6 b o q y
   ·exact f y
  ·rcases List.mem_cons.mp z with y | y
   ·exact new6 b o q y
   ·exact f y
  ·rcases List.mem_cons.mp z with y | y
   ·rw [y] at n;exact n nH
   ·exact I8.trkOff n y
 show wpAny _ _ (noteFrame s!"Ar" X.env) _ _ _;unfold noteFrame;simp only [hx.frm];refine wpAny_bind (wpAny_field e8 rfl (x:=Value.none) rfl ?_);rw [if_neg s!"c"]
 refine zaR (B:=hideAll h8 (e::frs X.stack)) (outer:=X.outer) (env:=X.env) (L:=X.env.locals) (dx:=some mainGlobals) (a0:=.ref t7) (by show X.A.frames=_;rw [I8.ok.frames,fstk]) (by rw [<-fstk];exact funFrames_hide I8.stack fun env he b hb=>List.mem_cons_of_mem _ (List.mem_filterMap.mpr ⟨env,he,hb⟩)) hx.frm e8 rfl (by show 1<6;decide) (fun b o q=>of_hideAll _ q) (hideAll_none _ (List.mem_cons_self ..)) rfl s!"u{⟨rfl,rfl⟩}" fun h9 fl9 up9=>?_
 refine zS.back (outer:=X.outer) hx.frm fl9 fun h10 fl10 up10=>?_
 rw [<-fstk] at fl10;have un8:Un s!"AB" [] H H h6 h8:=Un.kept up8;have un10:Un s!"AB" [] H H h6 h10:=un8.flown I6.frm kp6 fl10.stays (up9.trans up10);have hok10:HOk X.prog X.w H h10:=I8.hok.flown kp6 fl10.stays;have I10:Inv X pins σ H { s with heap:=h10,toks:=s.toks+1 }:=I6.call' (ch:=[]) rfl un10 hok10 I6.bare (fun b z=>nomatch z)
 exact hx.back pins σ H _ e t7 _ s!"E#" s!"4{C2}" I10 fl10 (kpB.fly I8.hok fl10.stays) nH hW
end
section
variable {σ:St} {H:Hp}
theorem zsr {C:Addr} {cls:Value} {a:Addr} {D:Ends} (h1:kitOne K cls s!"s"=some true) (h2:W s!"4{C2}" s!"E#" σ H):zsq K C C2 W cls none a D σ H:=⟨rfl,h1,h2⟩
end
end L2
namespace L2
open PySem PySem.Spec PyProof.Rows
structure SrcM (K:PySem.W.Frag) (nm qual:Str) (st:Stmt) (f:Addr) (ps:List Str):Prop where
 ex:∃fd,Fun K nm qual st f fd/\wu K fd ps []
structure DefM (P:Program) (w:World) (K:PySem.W.Frag) (mg:Str->Option Value) (base:Heap) (CX:CXT) (k:Nat) (f:Addr) (ps:List Str) (sp:Sp):Prop where
 ex:∃fd,FnOk P w K mg base CX k f fd ps sp/\wu K fd ps []
variable {P:Program} {w:World} {K:PySem.W.Frag} {ps:List Str} {sp:Sp} {nm qual:Str} {st:Stmt}
section
variable {mg:Str->Option Value} {base:Heap} {CX:CXT}
theorem zof {f:Addr} {oc:Value} {od an:Option Addr} {osl:Array s!"Bv"} {kV doc pm cdv ct:Value}
 (l:K.lookup f=some ⟨oc,od,.func s!"Ih",osl⟩) (c:PySem.W.codeIn K cdv qual=true) (k:PySem.W.keepIn K s!"An"=true)
 (hb:∀(kV doc pm:Value) (an:Option Addr) (cdv ct:Value) (us:List Value),us.length=ps.length->bindArgs s!"Ih" ⟨us,[]⟩=pure s!"Bu"):SrcM K nm qual st f ps:=
 ⟨_,zbQ l c k,(zbQ (st:=st) l c k).binds hb⟩
theorem SrcM.ok {f:Addr} {N:List Str} {k:Nat} (F:SrcM K nm qual st f ps) (S:FnScope N ps s!"B;") (len:∀vs H Q E,sp vs H Q E->vs.length=ps.length)
 (hbody:∀(f:Addr) (cdv:Value) (A:Around) (outer:List Env) (s:Shared) (H:Hp) (vs:List V) (Q:VK) (E:XK),Room k (A.deeper (envOfC qual (za st) s.heap.objs.size f cdv))->sp vs H Q E->
  ∃t,PSs (zbb CX P w K mg base N qual (za st) f cdv A outer s H E).nox (zt st) t/\t { nx:=fun _ H'=>Q .non H',rt:=Q } (start N vs) H):DefM P w K mg base CX (k+1) f ps sp:=by
 obtain ⟨fd,Fn,b⟩:=F.ex;obtain ⟨oc,od,kV,doc,pm,an,cdv,ct,osl,rfl,lk,hcd⟩:=Fn.ex;refine ⟨_,zfW lk hcd S len fun A outer s H vs Q E hr hsp=>?_,b⟩
 obtain ⟨t,h,q⟩:=hbody f cdv A outer s H vs Q E hr hsp;exact ⟨t,h.nox,q⟩
theorem SrcM.okX {f:Addr} {N:List Str} {k:Nat} (F:SrcM K nm qual st f ps) (S:FnScope N ps s!"B;") (len:∀vs H Q E,sp vs H Q E->vs.length=ps.length)
 (hbody:∀(f:Addr) (cdv:Value) (A:Around) (outer:List Env) (s:Shared) (H:Hp) (vs:List V) (Q:VK) (E:XK),Room k (A.deeper (envOfC qual (za st) s.heap.objs.size f cdv))->sp vs H Q E->
  ∃t,PSs (zbb CX P w K mg base N qual (za st) f cdv A outer s H E) (zt st) t/\t { nx:=fun _ H'=>Q .non H',rt:=Q } (start N vs) H):DefM P w K mg base CX (k+1) f ps sp:=by
 obtain ⟨fd,Fn,b⟩:=F.ex;obtain ⟨oc,od,kV,doc,pm,an,cdv,ct,osl,rfl,lk,hcd⟩:=Fn.ex;exact ⟨_,zfW lk hcd S len fun A outer s H vs Q E hr hsp=>hbody f cdv A outer s H vs Q E hr hsp,b⟩
end
def zha (C:Addr) (m:Str) (sp:Sp) (W:Value->Option Addr->St->Hp->Prop) (ta:TE) (t:TA):TE:=fun σ H Q=>ta σ H fun x H1=>∃a dx fs,x=.ref a/\H1 a=some s!"A+"/\fs.lookup m=none/\
 t σ H1 fun vs H2=>sp (.ref a::vs) H2 Q (fun cls dx H3=>W cls dx σ H3)
variable {X:Cx} {C:Addr} {W:Value->Option Addr->St->Hp->Prop} {m:Str} {pos:Pos} {ta:TE} {t:TA} {σ:St} {H:Hp} {s:Shared} {pl:Sem Bool}
section
variable {k:Nat} {f:Addr} {x:Str} {p apos:Pos} {e o:Expr} {es:List Expr}
theorem zh0 {pins:List (Addr×Obj)} {Q:VK} {us:List Value} {vs:List V} (D:DefM X.prog X.w X.K X.mg X.base s!"C1" k f ps sp) (hr:Room k X.A) (hx:XPass X W)
 (I:Inv X pins σ H s) (r:zi vs us) (h:sp vs H Q (fun cls dx H3=>W cls dx σ H3)):wpAny s!"t" X.A (call s!"An" us) (EP X pins σ Q) X.xe s:=by
 obtain ⟨fd,F,b⟩:=D.ex;have hl:(us++[]).length=ps.length:=by rw [List.append_nil,<-r.length];exact F.len _ _ _ _ h
 have bnd:=b s us I.kIn hl;rw [List.append_nil] at bnd;refine wpAny_call (codeAny_mono (F.run X.A X.stack s H ⟨us,[]⟩ us vs Q _ hr I.env0 bnd r h) fun res s2 hq=>?_)
 cases res with
 | error ex=>exact hx.call pins σ H s ex s2 I hq
 | ok fl=>
  cases fl with
  | ret u=>exact I.after hq
  | next=>exact False.elim hq
  | brk=>exact False.elim hq
  | cont=>exact False.elim hq
theorem pe_methS (D:DefM X.prog X.w X.K X.mg X.base s!"C1" k f ps sp) (c:Cls X.K C) (hm:Meth X.K C m f) (hr:Room k X.A) (hx:XPass X W) (he:PE X o ta) (ha:PA X (e::es) t)
 (hst:starEach (e::es) X.env=(false,eval e X.env)::starEach es X.env:=by rfl) (hpl:s!"C]".any (·.1)=false:=by rfl)
 (ht:eval (.Call (.Attribute o m apos) (e::es) [] pos) X.env=(do
  let ov <-eval o X.env
  standAt apos.atName
  let (f,first) <-holding [ov] s!"Ii"
  callWith pos f first (backTo pos (starEach (e::es) X.env)) (backToKw pos (keywordEach [] X.env))):=by rfl):
 PE X (.Call s!"Ij" (e::es) [] pos) (zha C m sp W ta t):=by
 intro pins s σ H Q I h;refine PySem.W.methodCall_KW (pl:=pl) (thn (he pins s σ H _ I h) fun u s1 ⟨x,H1,I1,rx,a,dx,fs,ex,ea,l,q⟩=>?_) ht
 subst ex;obtain rfl:u=Value.ref a:=rx;refine zcV I1 ea c hm l ?_;refine PySem.W.callWith_K (first:=[.ref a]) (h₀:=X.base) I.ok.mod.kin hm.kp (thn (ha pos pins s1 σ H1 _ I1 q) fun us s2 ⟨vs,H2,I2,r,q2⟩=>⟨I2.kIn,?_⟩) hst hpl
 exact zh0 (us:=.ref a::us) (vs:=.ref a::vs) D hr hx I2 (.cons rfl r) q2
theorem zb2 (D:DefM X.prog X.w X.K X.mg X.base s!"C1" k f ps sp) (c:Cls X.K C) (hm:Meth X.K C m f) (hr:Room k X.A) (hx:XPass X W) (he:PE X o ta)
 (ht:eval (.Call (.Attribute o m apos) [] [] pos) X.env=(do
  let ov <-eval o X.env
  standAt apos.atName
  let (f,first) <-holding [ov] s!"Ii"
  callWith pos f first (backTo pos (starEach [] X.env)) (backToKw pos (keywordEach [] X.env))):=by rfl):
 PE X (.Call s!"Ij" [] [] pos) (zha C m sp W ta zgS):=by
 intro pins s σ H Q I h;refine PySem.W.methodCall_KW (pl:=pl) (thn (he pins s σ H _ I h) fun u s1 ⟨x,H1,I1,rx,a,dx,fs,ex,ea,l,q⟩=>?_) ht
 subst ex;obtain rfl:u=Value.ref a:=rx;refine zcV I1 ea c hm l ?_;exact PySem.W.callWith_K0 (first:=[.ref a]) I1.kIn hm.kp (zh0 (us:=[.ref a]) (vs:=[.ref a]) D hr hx I1 s!"C@Ay" q)
def zlA (C:Addr) (sp:Sp):TE:=fun _ H Q=>∀x dx,H x=none->H dx=none->dx≠x->sp [.ref x] (upd s!"D%" x s!"A~{C}{[]}") (fun v H2=>v=.non/\Q s!"A6" H2) (fun _ _ _=>False)
theorem zlB (D:DefM X.prog X.w X.K X.mg X.base s!"C1" k f ps sp) (M:Mk X.K C f) (hr:Room (k+1) X.A) (hg:Gl X x) (hm:X.mg x=some s!"s") (hdb:(x==("__debug__":Str))=false:=by decide):
 PE X (.Call (.Name x p) [] [] pos) (zlA C sp):=by
 obtain ⟨fd,F,b⟩:=D.ex;intro pins s σ H Q I h;exact zj6 (E:=fun _ _ _=>False) (dvs:=[]) (ds:=[]) M F hr hg hm b .nil (fun pins σ H s e s' I c=>by
  obtain ⟨_,_,_,_,_,_,_,z,_⟩:=c;exact z.elim) hdb pins s σ H Q I fun y dx h1 h2 h3=>h y dx h1 h2 h3
end
variable {D:Ends} {a dx:Addr} {fs:List (Str×V)} {f:Str}
section
variable {Q:VK}
def zlC (C:Addr) (m:Str) (sp:Sp) (W:Value->Option Addr->St->Hp->Prop) (t:TA) (σ:St) (x:V) (H1:Hp) (Q:VK):Prop:=∃a dx fs,x=.ref a/\H1 a=some s!"A+"/\fs.lookup m=none/\
 t σ H1 fun vs H2=>sp (.ref a::vs) H2 Q (fun cls dx H3=>W cls dx σ H3)
theorem zha.Qa (h:ta σ H fun x H1=>zlC C m sp W t σ x H1 Q):zha C m sp W ta t σ H Q:=h
theorem zlC.Q0 (h1:H a=some s!"A+") (h2:fs.lookup m=none) (h:t σ H fun vs H2=>sp (.ref a::vs) H2 Q (fun cls dx H3=>W cls dx σ H3)):zlC C m sp W t σ s!"h" H Q:=⟨a,dx,fs,rfl,h1,h2,h⟩
def zss (K:PySem.W.Frag) (f:Str) (x:V) (H1:Hp) (Q:VK):Prop:=∃a C dx fs v,x=.ref a/\H1 a=some s!"A+"/\Cls K C/\yu K C f/\fs.lookup f=some v/\Q v H1
theorem zrs.Qa (h:ta σ H fun x H1=>zss K f x H1 Q):zrs K ta f σ H Q:=h
theorem zss.Q3 {v:V} (h1:H a=some s!"A+") (c:Cls K C) (n:yu K C f) (h2:fs.lookup f=some v) (h:Q v H):zss K f s!"h" H Q:=⟨a,C,dx,fs,v,rfl,h1,c,n,h2,h⟩
def zpl (K:PySem.W.Frag) (f:Str) (D:Ends) (σ:St) (y x:V) (H2:Hp):Prop:=∃a C dx fs,x=.ref a/\H2 a=some s!"A+"/\Cls K C/\yu K C f/\fs.length<1000/\D.nx σ s!"H1"
theorem zrt.Qa {tv:TE} (h:tv σ H fun y H1=>ta σ H1 fun x H2=>zpl K f D σ y x H2):zrt K ta tv f D σ H:=h
theorem zbk {y:V} (h1:H a=some s!"A+") (c:Cls K C) (n:yu K C f) (h2:fs.length<1000) (h:D.nx σ s!"Hy"):zpl K f D σ y s!"h" H:=⟨a,C,dx,fs,rfl,h1,c,n,h2,h⟩
end
variable {prog:Program} {A:Around} {E Q:Value->Shared->Prop}
theorem zfa {K:Type} [DecidableEq K] {knd:KeyKind prog w K} {d:Addr} {kvs:List (K×Value)} {ep:Nat} {ss:List Str} (hh:A.handled=none) (hs:(d==sysModules)=false) (hm:s.heap.DictAt knd d kvs ep) (h64:kvs.length<64)
 (hI:∀vs:List Value,vs.length=kvs.length->(∀(i:Nat) v,vs[i]? =some v->∃k x,kvs[i]? =some (k,x)/\knd.is k v=true)->StrsAre vs ss)
 (h:∀(a:Addr) (h':Heap) tk (out:Array Value) (ss':List Str) e,s.heap.objs.size<=a->(∀b o,s.heap.get? b=some o->h'.get? b=some o)->h'.get? a=some (seqObj "list" out e)->StrsAre out.toList ss'->ss'.Perm ss->sortedS ss'=true->Q s!"h" { s with heap:=h',toks:=tk }):
 wpAny s!"9" A (call s!"FZ" [.ref d]) Q E s:=by
 refine Calls.call_function_entry kind_sorted plain_sorted entry_sorted (args_sorted1 _) ?_;unfold Builtin.«sorted»;refine wpAny_bind (m:=checkCount "sorted" 1 1 _) s!"A;";refine wpAny_bind (ze4 hh hs hm (by rw [sizeLine_eq];omega) fun h1 tk vs hz ho lv hv=>?_)
 refine wpAny_bind s!"HN";have hoL:(h1.push s!"Ga").get? h1.objs.size=some s!"Ga":=Heap.get?_push_size _ rfl;have hS:=hI vs lv hv;refine wpAny_bind s!"A*{(wpAny_call_entry (s:={ s with heap:=h1.push s!"Ga",toks:=tk }) slot_list_sort ⟨_,hoL,rfl⟩ entry_list_sort (list_sort_treeK strKind_oneLt hoL hS.keysOf (fun v1 v2 r e=>PyProof.Rows.keyKind_strs (by rw [<-e];exact hS)) s!"a" fun st' p1 p2=>?_) (args_list_sort _))}"
 obtain ⟨ss',q1,q2,q3⟩:=sorted_out_str hS p1 p2;refine ⟨_,rfl,?_⟩;obtain ⟨e,he⟩:=sortedHeap_at (out:=(arrOf st').map (·.2)) hoL
 refine wpAny_pure ⟨_,rfl,h h1.objs.size _ tk _ ss' e s!"B6B!" (fun b o hb=>?_) he q1 q2 q3⟩
 have hlt:b<h1.objs.size:=Heap.lt_size (ho b o hb);rw [sortedHeap_old s!"A2{hlt}" (by rw [size_push'];exact Nat.lt_succ_of_lt hlt)]
 exact Heap.get?_push_of_some _ (ho b o hb)
theorem zaV:∀{ss:List Str} {its:List Value},StrsAre its ss->zi (ss.map V.str) its:=by
 intro ss its h
 induction h with
 | nil=>exact .nil
 | cons _ _ _ ih=>exact .cons ⟨_,rfl⟩ ih
theorem zgf:∀{ss:List Str} {its:List Value},zi (ss.map V.str) its->StrsAre its ss
 | [],_,h=>by cases h;exact .nil
 | _::_,_,h=>by
  cases h with
  | cons r t=>
   obtain ⟨tk,rfl⟩:=r;exact .cons _ _ (zgf t)
def zgg:List V->Hp->VK->Prop:=fun xs H Q=>∃(a:Addr) (kvs:List (Key×V)) (ns:List Str),xs=[.ref a]/\H a=some s!":"/\kvs.map Prod.fst=ns.map Sum.inr/\ns.length<64/\∀(p:Addr) (ms:List Str),H p=none->ms.Perm ns->sortedS ms=true->Q s!")" s!"Ik"
theorem xZ:∀{ns:List Str} {vs:List (Key×Value)} {us:List Value},vs.map Prod.fst=ns.map Sum.inr->us.length=vs.length->(∀(i:Nat) v,us[i]? =some v->∃k x,vs[i]? =some (k,x)/\s!"Cq".is k v=true)->StrsAre us ns
 | [],[],[],_,_,_=>.nil
 | [],_::_,_,e,_,_=>by simp at e
 | _::_,[],_,e,_,_=>by simp at e
 | _,_::_,[],_,l,_=>by simp at l
 | [],[],_::_,_,l,_=>by simp at l
 | n::ns,(k,x)::vs,u::us,e,l,h=>by
  rw [List.map_cons,List.map_cons] at e;injection e with e1 e2
  obtain ⟨k',x',h1,h2⟩:=h 0 u rfl;cases h1;rcases keyIs_shape h2 with ⟨i,t,ek,rfl⟩ | ⟨y,t,ek,rfl⟩
  ·have e1:k=Sum.inr n:=e1;rw [ek] at e1;cases e1
  ·have e1:k=Sum.inr n:=e1;rw [ek] at e1;cases e1;exact .cons _ _ (xZ e2 (by simpa using l) fun j v hv=>h (j+1) v hv)
theorem zfb (hc:X.calm=true):zI X s!"FZ" zgg:=by
 intro pins s σ H xs us Q I r h;obtain ⟨a,kvs,ns,e,hd,hk,h64,q⟩:=h;subst e;obtain ⟨u,rfl,ru⟩:=xt r;obtain rfl:u=Value.ref a:=ru;obtain ⟨hz,hsm,vs,kv,hdo⟩:=zf1 I.hok hd;obtain ⟨ep,hat⟩:=hdo.dictAt;have hl:kvs.length=ns.length:=by have:=congrArg List.length hk;simpa using this
 have lv:=kv.length;have hkv:vs.map Prod.fst=ns.map Sum.inr:=by rw [<-hk];exact kv.keys.symm
 refine zfa (ss:=ns) (show X.A.handled=none from I.ok.hd hc) hsm hat s!"a" (fun us lu hu=>xZ hkv lu hu) fun a' h' tk out ms e hle ho he a1 a2 a3=>?_
 have hm:=a2.length_eq;refine ⟨.ref a',_,I.laid (a:=a') (o:=.lst (ms.map V.str)) (t':=tk) ho hle (show zu X.prog X.w _ _ _ s!"E%" from ⟨by rw [List.length_map,sizeLine_eq];omega,out.toList,e,zaV a1,he⟩),rfl,q _ _ (I.hok.fresh hle) a2 a3⟩
def zgh (K:PySem.W.Frag):List V->Hp->VK->Prop:=fun xs H Q=>∃(a:Addr) (ns:List Str),xs=[.ref a]/\SqL K H a s!"E&"/\ns.length<64/\∀(p:Addr) (ms:List Str),H p=none->ms.Perm ns->sortedS ms=true->Q s!")" s!"Ik"
theorem zfc:zI X s!"FZ" (zgh X.K):=by
 intro pins s σ H xs us Q I r h;obtain ⟨a,ns,e,hq,h64,q⟩:=h;subst e;obtain ⟨u,rfl,ru⟩:=xt r;obtain rfl:u=Value.ref a:=ru;obtain ⟨its,rv,pl,hz⟩:=I.list hq;have hl:its.length=ns.length:=by have:=rv.length;rw [List.length_map] at this;omega
 refine sorted_strs pl.isList (zgf rv) s!"a" fun out ms a1 a2 a3=>?_
 obtain ⟨e,he⟩:=sortedAll_at s.heap its out;have hm:=a2.length_eq;refine ⟨.ref (s.heap.objs.size+1),_,I.laid (a:=s.heap.objs.size+1) (o:=.lst (ms.map V.str)) (t':=s.toks) (fun b o hb=>sortedAll_old hb) s!"H7" (show zu X.prog X.w _ _ _ s!"E%" from ⟨by rw [List.length_map];rw [List.length_map] at hz;omega,out.toList,e,zaV a1,he⟩),rfl,q _ _ s!"H6" a2 a3⟩
section
variable {Q:VK}
theorem zhb {kvs:List (Key×V)} (ns:List Str) (h1:H a=some s!":") (hk:kvs.map Prod.fst=ns.map Sum.inr) (h2:ns.length<64) (h:∀p H' (ms:List Str),Same H H'->H p=none->ms.Perm ns->sortedS ms=true->H' p=some s!"E%"->Q s!")" H'):zgg [.ref a] H Q:=⟨a,kvs,ns,rfl,h1,hk,h2,fun p ms hp a b=>h p _ ms s!"B<" hp a b zb⟩
theorem zhc (ns:List Str) (h1:SqL K H a s!"E&") (h2:ns.length<64) (h:∀p H' (ms:List Str),Same H H'->H p=none->ms.Perm ns->sortedS ms=true->H' p=some s!"E%"->Q s!")" H'):zgh K [.ref a] H Q:=⟨a,ns,rfl,h1,h2,fun p ms hp a b=>h p _ ms s!"B<" hp a b zb⟩
end
abbrev zm2 (h:Heap) (t u:Addr):Heap:=(zt1 h t).push { cls:=.type "list_iterator",data:=.fields #[.ref u,.int 0 0] }
abbrev zm3 (h:Heap) (t u:Addr):Heap:=(zm2 h t u).push { cls:=.type "tuple",data:=.seq #[.ref h.objs.size,.ref (zt1 h t).objs.size] }
abbrev zm4 (h:Heap) (t u:Addr):Heap:=(zm3 h t u).push { cls:=.type "tuple",data:=.seq #[.none,.none] }
abbrev zm5 (h:Heap) (t u:Addr):Heap:=(zm4 h t u).push { cls:=.type "zip",data:=.fields #[.none,.bool false,.bool false,.ref (zm2 h t u).objs.size,.ref (zm3 h t u).objs.size] }
theorem zfd (t u:Addr) (xs ys:Array Value):Meets (Builtin.«zip.__new__» ⟨[.type "zip",.ref t,.ref u],[]⟩) fun _ R s=>
 IsTup s.heap t xs/\s.heap.IsList u ys/\R (.ok (.ret s!"4{s!"Gb".objs.size}")) { s with heap:=zm5 s.heap t u }:=
 .of_wp fun prog w A R s h=>by
  obtain ⟨hp,g,d,tk,os⟩:=s;obtain ⟨h1,h2,h⟩:=h;have hsub:=sub_zip;have a1:IsTup (Shared.heap ⟨hp,g,d,tk,os⟩) t xs:=h1;have a2:Heap.IsList (Shared.heap ⟨hp.push { cls:=.type "tuple_iterator",data:=.fields #[.ref t,.int 0 0] },g,d,tk,os⟩) u ys:=by
   obtain ⟨o,e,c⟩:=h2;exact ⟨o,Heap.get?_push_of_some _ e,c⟩
  repeat (first|with_reducible refine iter_tuple a1 ?_|with_reducible refine wpAny_pyIter_list a2 ?_|walk_at "wp")
  exact ⟨_,rfl,h⟩
theorem zgi {t u:Addr} {xs ys:Array Value} (h1:IsTup s.heap t xs) (h2:s.heap.IsList u ys)
 (h:∀h',IsZip h' (s.heap.objs.size+4) (s.heap.objs.size+2) (s.heap.objs.size+3) .none->IsPair h' (s.heap.objs.size+2) (.ref s.heap.objs.size) (.ref (s.heap.objs.size+1))->IsPair h' (s.heap.objs.size+3) .none .none->
  zc2 h' s.heap.objs.size t 0->h'.IsListIter (s.heap.objs.size+1) u 0->(∀c o,s.heap.get? c=some o->h'.get? c=some o)->Q (.ref (s.heap.objs.size+4)) { s with heap:=h' }):
 wpAny s!"9" A (call s!"BG{"zip"}" [.ref t,.ref u]) Q E s:=by
 refine callType_new F.called_zip s!"c" (F.typeCall_zip_2 _ _) (F.newCall_zip_2 _ _) (fun obj=>F.args_object_init_3 obj _ _) F.entry_zip_new (zfd t u xs ys) ⟨h1,h2,?_⟩
 have s1:s!"Gc".objs.size=s.heap.objs.size+1:=Heap.size_push ..;have s2:s!"Gd".objs.size=s.heap.objs.size+2:=(Heap.size_push ..).trans (congrArg (·+1) s1)
 have s3:s!"Ge".objs.size=s.heap.objs.size+3:=(Heap.size_push ..).trans (congrArg (·+1) s2)
 have s4:s!"Gb".objs.size=s.heap.objs.size+4:=(Heap.size_push ..).trans (congrArg (·+1) s3)
 have e5:s!"D_".get? s!"Gb".objs.size=some { cls:=.type "zip",data:=.fields #[.none,.bool false,.bool false,.ref s!"Gd".objs.size,.ref s!"Ge".objs.size] }:=Heap.get?_push_size _ rfl;have e4:s!"D_".get? s!"Ge".objs.size=some { cls:=.type "tuple",data:=.seq #[.none,.none] }:=Heap.get?_push_of_some _ s!"AG";have e3:s!"D_".get? s!"Gd".objs.size=some { cls:=.type "tuple",data:=.seq #[.ref s.heap.objs.size,.ref s!"Gc".objs.size] }:=Heap.get?_push_of_some _ s!"A@AG";have e2:s!"D_".get? s!"Gc".objs.size=some { cls:=.type "list_iterator",data:=.fields #[.ref u,.int 0 0] }:=Heap.get?_push_of_some _ s!"A@A@AG";have e1:s!"D_".get? s.heap.objs.size=some { cls:=.type "tuple_iterator",data:=.fields #[.ref t,.int 0 0] }:=Heap.get?_push_of_some _ s!"A@A@A@AG";rw [s2,s3,s4] at e5;rw [s3] at e4;rw [s1,s2] at e3;rw [s1] at e2;rw [s4];exact ⟨⟨_,e5,rfl⟩,h _ e5 e3 e4 e1 ⟨_,e2,rfl,rfl⟩ fun c o x=>Heap.get?_push_of_some _ s!"A@A@A@A@{x}"⟩
def zgj (K:PySem.W.Frag) (a b:Addr):It:=⟨fun i H=>∃xs ys x y,SqT K H a xs/\SqL K H b ys/\xs[i]? =some x/\ys[i]? =some y,
 fun i H v H'=>∃T,v=.ref T/\H T=none/\∀xs ys x y,SqT K H a xs->SqL K H b ys->xs[i]? =some x->ys[i]? =some y->H'=upd H T s!"0{[x,y]}",
 fun i H=>∃xs ys,SqT K H a xs/\SqL K H b ys/\(i=xs.length\/(i<xs.length/\i=ys.length))⟩
variable {elts:List Expr} {kt:Nat} {tp:Pos}
theorem zjo {z TI TO i1 i2 l1 l2:Addr} (D:ZDiff z TI TO i1 i2 [i1,l1] [i2,l2]) (n1:l1≠i1) (n2:l2≠i2):
 Turn P w K s!"Ev" (zgj K l1 l2) [z,TI,TO,i1,i2] z (fun i h=>IsZip h z TI TO .none/\IsPair h TI s!"CL" s!"CM"/\(∃a b,IsPair h TO a b)/\zc2 h i1 l1 i/\h.IsListIter i2 l2 i) where
 mem:=by simp
 obj:=fun i h st b hb=>by
  obtain ⟨hz,hTI,⟨a,c,hTO⟩,h1,h2⟩:=st;have hb':b=z\/b=TI\/b=TO\/b=i1\/b=i2:=by simpa using hb
  rcases hb' with rfl | rfl | rfl | rfl | rfl
  ·exact ⟨_,hz,fun v y=>by have y':Data.fields _=Data.cell v:=y;cases y'⟩
  ·exact ⟨_,hTI,fun v y=>by have y':Data.seq _ _=Data.cell v:=y;cases y'⟩
  ·exact ⟨_,hTO,fun v y=>by have y':Data.seq _ _=Data.cell v:=y;cases y'⟩
  ·exact ⟨_,h1,fun v y=>by have y':Data.fields _=Data.cell v:=y;cases y'⟩
  ·obtain ⟨o2,q1,q2,q3⟩:=h2;exact ⟨o2,q1,fun v y=>by rw [q3] at y;cases y⟩
 keep:=fun i h h' st k=>by
  obtain ⟨hz,hTI,⟨a,c,hTO⟩,h1,h2⟩:=st;exact ⟨k z s!"j" _ hz,k TI s!"j" _ hTI,⟨a,c,k TO s!"j" _ hTO⟩,k i1 s!"j" _ h1,let ⟨o2,q1,q2⟩:=h2;⟨o2,k i2 s!"j" _ q1,q2⟩⟩
 item:=by
  intro X hP hw hK hc i pins s σ H E I hf st hg;subst hP hw hK;obtain ⟨xs,ys,x,y,q1,q2,hx,hy⟩:=hg;obtain ⟨us,r1,p1,_⟩:=I.tuple q1;obtain ⟨vs,r2,p2',_⟩:=I.list q2;have p2:=p2'.isList;obtain ⟨u,hu,ru⟩:=r1.get hx;obtain ⟨v,hv,rv⟩:=r2.get hy;obtain ⟨hz,hTI,⟨a,c,hTO⟩,h1,h2⟩:=st;have g1:i<us.toArray.size:=by have:=s!"Il".1;simpa using this
  have g2:i<vs.toArray.size:=by have:=s!"Dk{hv}".1;simpa using this
  refine zi4 (zd8 (A:=X.A.in1) s!"A0" i1 l1 n1 us.toArray) (Draws.list (A:=X.A.in1) s!"A0" i2 l2 n2 vs.toArray) D hz hTI hTO ⟨h1,p1⟩ ⟨h2,p2⟩ g1 g2 fun x' y' h' tk e1 e2 a1 a2 a3 a4 a5 a6=>?_
  have ex:x'=u:=Option.some.inj (e1.symm.trans (by simpa using hu))
  have ey:y'=v:=Option.some.inj (e2.symm.trans (by simpa using hv))
  subst ex ey;refine ⟨_,rfl,wpAny_letOwnedTupleGo_zip (s:={ s with heap:=h',toks:=tk }) a1 fun h2' b1 b2=>?_⟩
  have nT:H s.heap.objs.size=none:=I.hok.fresh s!",";have lt:∀b∈[z,TI,TO,i1,i2],b<s.heap.objs.size:=fun b hb=>by
   have hb':b=z\/b=TI\/b=TO\/b=i1\/b=i2:=by simpa using hb
   rcases hb' with rfl | rfl | rfl | rfl | rfl
   ·exact Heap.lt_size hz
   ·exact Heap.lt_size hTI
   ·exact Heap.lt_size hTO
   ·exact Heap.lt_size h1
   ·obtain ⟨o2,q1,_⟩:=id h2;exact Heap.lt_size q1
  have I1:Inv X pins σ s!".BJ0{[x,y]}" { s with heap:=s.heap.push { cls:=.type "tuple",data:=.seq #[x',y'] },toks:=tk }:=
   I.laid (t':=tk) (fun b o e=>Heap.get?_push_of_some _ e) s!"," ⟨by show 2<=sizeLine;decide,[x',y'],.cons ru s!"C@{rv}",⟨_,Heap.get?_push_size _ rfl,rfl,_,rfl⟩⟩
  have f1:∀b∈[z,TI,TO,i1,i2],wC X pins s!".BJ0{[x,y]}" b:=fun b hb=>by
   obtain ⟨f0,r⟩:=hf b hb;exact ⟨by rw [zd s!"H@"];exact f0,r⟩
  have I2:Inv X pins σ s!".BJ0{[x,y]}" { s with heap:=h2',toks:=tk }:=by
   refine Inv.turnedL (s:={ s with heap:=s.heap.push { cls:=.type "tuple",data:=.seq #[x',y'] },toks:=tk }) (h':=h2') (t':=tk) (ch:=[z,TI,TO,i1,i2]) I1 (fun b o hb e=>?_) f1
   have hb':b≠z/\b≠TI/\b≠TO/\b≠i1/\b≠i2:=by simpa using hb
   obtain ⟨m1,m2,m3,m4,m5⟩:=hb';rw [b2.2 b m1]
   by_cases hN:b=s.heap.objs.size
   ·subst hN;have e':(s.heap.push { cls:=.type "tuple",data:=.seq #[x',y'] }).get? s.heap.objs.size=some _:=Heap.get?_push_size _ rfl;have e'':(s.heap.push { cls:=.type "tuple",data:=.seq #[x',y'] }).get? s.heap.objs.size=some o:=e;rw [e'] at e'';cases e'';exact a5
   ·refine a6 b o m1 m3 m4 m5 ?_;have e'':(s.heap.push { cls:=.type "tuple",data:=.seq #[x',y'] }).get? b=some o:=e;exact s!"H^".symm.trans e''
  refine ⟨.ref s.heap.objs.size,_,I2,rfl,⟨s.heap.objs.size,rfl,nT,fun xs' ys' x' y' w1 w2 w3 w4=>?_⟩,⟨b1,?_,⟨x',y',?_⟩,(b2.2 _ D.z1.symm).trans a3.1,let ⟨o2,q1,q2⟩:=a4.1;⟨o2,(b2.2 _ D.z2.symm).trans q1,q2⟩⟩,fun b hb=>(f1 b hb).1⟩
  ·rw [I.tuple_inj w1 q1,hx] at w3;rw [I.list_inj w2 q2,hy] at w4;cases w3;cases w4;rfl
  ·exact (b2.2 _ D.zTI.symm).trans (a6 TI _ D.zTI.symm D.oI.symm D.I1 D.I2 hTI)
  ·exact (b2.2 _ D.zTO.symm).trans a2
 done:=by
  intro X hP hw hK hc i pins s σ H E I hf st hg;subst hP hw hK;obtain ⟨xs,ys,q1,q2,hend⟩:=hg;obtain ⟨us,r1,p1,_⟩:=I.tuple q1;obtain ⟨vs,r2,p2',_⟩:=I.list q2;have p2:=p2'.isList;obtain ⟨hz,hTI,⟨a,c,hTO⟩,h1,h2⟩:=st;have w1:=r1.length;have w2:=r2.length;refine zi5 (zd8 (A:=X.A.in1) s!"A0" i1 l1 n1 us.toArray) (Draws.list (A:=X.A.in1) s!"A0" i2 l2 n2 vs.toArray) D hz hTI hTO ⟨h1,p1⟩ ⟨h2,p2⟩ (by rw [List.size_toArray,List.size_toArray];omega) fun h' tk kk=>⟨rfl,I.turnedL (t':=tk) (ch:=[z,TI,TO,i1,i2]) (fun b o hb e=>?_) hf⟩
  have hb':b≠z/\b≠TI/\b≠TO/\b≠i1/\b≠i2:=by simpa using hb
  exact kk b o hb'.1 hb'.2.2.1 hb'.2.2.2.1 hb'.2.2.2.2 e
 self:=fun _ _ _ _ _ st h=>wpAny_pyIter_zip st.1 h
def zlE (K:PySem.W.Frag) (ta:TA):TI:=fun σ H R=>ta σ H fun vs H1=>∃a b,vs=[.ref a,.ref b]/\(∃xs,SqT K H1 a xs)/\(∃ys,SqL K H1 b ys)/\R s!"C9" H1
theorem zh1 {a b:Expr} {ta:TA} {p:Pos} (hg:Gl X "zip") (hm:X.mg "zip"=none) (ha:PA X [a,b] ta) (hs:starEach [a,b] X.env=[(false,eval a X.env),(false,eval b X.env)]:=by rfl) (hs2:starEach [b] X.env=[(false,eval b X.env)]:=by rfl):
 PI X s!"Ev" (.Call (.Name "zip" p) [a,b] [] pos) (zlE X.K ta):=by
 intro pins s σ H R I h;refine Call_ (wG I hg hm boot_zip (PyProof.Rows.callWith_type1 (thn (ha pos pins s σ H _ I h) fun us s1 ⟨vs,H1,I1,r1,q1⟩=>?_) (by rw [hs,hs2]) (by rw [hs2];rfl)))
 obtain ⟨l1,l2,e,⟨xs,hx⟩,⟨ys,hy⟩,q⟩:=q1;subst e;obtain ⟨u,v,rfl,ru,rv⟩:=zdU r1;obtain rfl:u=Value.ref l1:=ru;obtain rfl:v=Value.ref l2:=rv;obtain ⟨us,r1,p1,_⟩:=I1.tuple hx;obtain ⟨vs,r2,p2',_⟩:=I1.list hy;have p2:=p2'.isList;have lt1:l1<s1.heap.objs.size:=by obtain ⟨o,e,_⟩:=p1;exact Heap.lt_size e
 have lt2:l2<s1.heap.objs.size:=by obtain ⟨o,e,_⟩:=p2;exact Heap.lt_size e
 refine zgi p1 p2 fun h' hz hTI hTO hi1 hi2 hk=>?_
 refine wpAny_pyIter_zip (s:={ s1 with heap:=h' }) hz ?_
 have I2:Inv X pins σ H1 { s1 with heap:=h' }:=I1.kept (t':=s1.toks) hk
 have D:ZDiff (s1.heap.objs.size+4) (s1.heap.objs.size+2) (s1.heap.objs.size+3) s1.heap.objs.size (s1.heap.objs.size+1) [s1.heap.objs.size,l1] [s1.heap.objs.size+1,l2]:=by
  have g1:@LT.lt Nat _ l1 s1.heap.objs.size:=lt1;have g2:@LT.lt Nat _ l2 s1.heap.objs.size:=lt2;constructor <;> first | (show ¬@Eq Nat _ _;omega) | (show ¬(_∈([_,_]:List Nat));simp only [List.mem_cons,List.not_mem_nil,or_false,not_or];omega)
 refine ⟨_,_,_,_,H1,rfl,I2,zjo D s!"A2{lt1}" s!"A2{Nat.lt_succ_of_lt lt2}",⟨hz,hTI,⟨_,_,hTO⟩,hi1,hi2⟩,fun b hb=>?_,q⟩
 have hb':b=s1.heap.objs.size+4\/b=s1.heap.objs.size+2\/b=s1.heap.objs.size+3\/b=s1.heap.objs.size\/b=s1.heap.objs.size+1:=by simpa using hb
 have ge:s1.heap.objs.size<=b:=by
  rcases hb' with rfl | rfl | rfl | rfl | rfl
  ·exact Nat.le_add_right _ _
  ·exact Nat.le_add_right _ _
  ·exact Nat.le_add_right _ _
  ·exact Nat.le_refl _
  ·exact Nat.le_add_right _ _
 exact I1.fpOk ge s!"H_"
variable {xs ys:List V} {te:TE}
section
variable {Q:VK}
def zlF (K:PySem.W.Frag) (vs:List V) (H:Hp) (R:It->Hp->Prop):Prop:=∃a b,vs=[.ref a,.ref b]/\(∃xs,SqT K H a xs)/\(∃ys,SqL K H b ys)/\R s!"C9" H
theorem zgk {b:Addr} {R:It->Hp->Prop} (h1:SqT K H a xs) (h2:SqL K H b ys) (h:R s!"C9" H):zlF K [.ref a,.ref b] H R:=⟨a,b,rfl,⟨xs,h1⟩,⟨ys,h2⟩,h⟩
theorem zc0.Qa {ta:TA} {τ0:St} {g:TG} (h:ta σ H fun vs H1=>zlF K vs H1 fun J H2=>wL g te τ0 J H2 Q):zc0 (zlE K ta) τ0 g te σ H Q:=h
theorem zhd {b:Addr} (f:V->V->V) (h1:SqT K H a xs) (h2:SqL K H b ys) (hl:xs.length=ys.length) (hz:xs.length<=1000)
 (he:∀(i:Nat) x y H' (R:VK),xs[i]? =some x->ys[i]? =some y->Same H H'->(∀H2,Same H' H2->R (f x y) H2)->te [some x,some y] H' R)
 (h:∀D H',Same H H'->H D=none->H' D=some s!"qCU"->Q s!"%" H'):wL s!"FH" te [none,none] s!"C9" H Q:=by
 intro D hD;have hzl:s!"CU".length=xs.length:=by rw [List.length_zipWith];omega
 refine ⟨fun i m zs τ H'=>m=xs.length-i/\i<=xs.length/\zs=s!"CU".take i/\(∃u v,τ=[u,v])/\Same H H'/\H' D=some s!"A!",⟨xs.length,by simp,Nat.zero_le _,by simp,⟨_,_,rfl⟩,Same.new hD _,zb⟩,?_⟩
 rintro i m zs τ H' ⟨rfl,hi,rfl,⟨u,v,rfl⟩,hs,eD⟩;refine ⟨eD,?_⟩;have q1:=hs.tup h1;have q2:=hs.seq h2
 by_cases hlt:i<xs.length
 ·obtain ⟨x,hx⟩:∃x,xs[i]? =some x:=⟨_,List.getElem?_eq_getElem hlt⟩;obtain ⟨y,hy⟩:∃y,ys[i]? =some y:=⟨_,List.getElem?_eq_getElem s!"a"⟩
  refine .inr ⟨⟨_,_,_,_,q1,q2,hx,hy⟩,?_,fun v0 H2 y0=>?_⟩
  ·rw [List.length_take];exact zf s!"a"
  ·obtain ⟨T,rfl,nT,e⟩:=y0;have e:=e _ _ _ _ q1 q2 hx hy;subst e;have s2:Same H' (upd H' T s!"0{[x,y]}"):=Same.new nT _;refine ⟨T,[x,y],rfl,SqT.of zb,rfl,x,[y],rfl,y,[],rfl,rfl,?_⟩;show te [some x,some y] _ _;refine he i x y _ _ hx hy s!"BU" fun H3 s3=>⟨s3.obj s!"Cn{eD}",xs.length-(i+1),by omega,rfl,hlt,?_,⟨_,_,rfl⟩,(hs.trans s!"B@").upd hD,zb⟩
   rw [List.take_add_one,List.getElem?_zipWith,hx,hy];rfl
 ·have e:i=xs.length:=by omega
  subst e;refine .inl ⟨⟨_,_,q1,q2,.inl rfl⟩,h D H' hs hD ?_⟩;rw [<-hzl,List.take_length] at eD;exact eD
end
end L2
namespace L2
open PySem PySem.Spec PyProof.Rows PySem.W
def zfe (K:PySem.W.Frag) (C:Addr) (ts:Addr->Value->Option Addr->TS) (tr:TH):TH:=fun cls dx a D σ H=>∃b,kitOne K cls s!"s"=some b/\
 if b=true then ts a cls dx D σ H else tr cls dx a D σ H
variable {X:Cx} {C:Addr} {ts:Addr->Value->Option Addr->TS} {tr:TH}
theorem yG {x:Str} {np pos:Pos} {b0:Stmt} {suite:List Stmt} {rest:List ExceptHandler} (hg:Gl X x) (hm:X.mg x=some s!"s") (hb:CatK X.K C)
 (hs:∀(pins:List (Addr×Obj)) (a:Addr) (oe:Obj) (cls:Value) (dx:Option Addr),oe.cls=cls->XOb oe dx->PSs s!"B=" (b0::suite) (ts a cls dx)) (hr:PH X rest tr) (hd:(x==("__debug__":Str))=false:=by decide):
 PH X (.ExceptHandler s!"FE" none (b0::suite) pos::rest) (zfe X.K C ts tr):=by
 intro pins σ H s a cls dx D air h;obtain ⟨b,hb1,h⟩:=h;have I:=air.inv;obtain ⟨H0,s0,B,t,I0,os,bare,un,hok,fl,kp,ha⟩:=id air;obtain ⟨oe,_,he,_,hc,_⟩:=fl.obj;refine wpAny_handleBy_cons (codeAny_handlers_test (Calls.Name_function_global I.ok.kind hg (Calls.loadGlobal_global (by rw [I.ok.glob];exact I.mod.glob.keeps I.bk) hm ?_) hd)) (by intro q;cases q)
 refine wI I.kIn he (by rw [hc];exact hb.of hb1) hb.be ?_
 cases b with
 | false=>exact hr pins σ H s a cls dx D air h
 | true=>
  refine codeAny_handlers_suite ?_;refine fl.lands fun h6 fl6 up6=>?_
  have air6:=Air.moved I0 os bare un hok kp ha fl6 up6;have I6:=air6.inv;obtain ⟨o6,v6,e6,d6,c6,x6⟩:=fl6.obj;have offS:a∉frs X.stack:=fun z=>by
   obtain ⟨_,o7,e7,nf⟩:=I6.frm a z;rw [e6] at e7;cases e7;exact nf v6 d6
  have nf:a∉X.fs:=fun z=>by
   rcases I6.ok.stk with y | ⟨y,_⟩
   ·exact offS (by rw [y];exact z)
   ·obtain ⟨en,m1,m2⟩:=List.mem_filterMap.mp z;exact offS (by rw [y];exact List.mem_filterMap.mpr ⟨en,List.mem_cons_of_mem _ m1,m2⟩)
  have nl:a≠X.env.locals:=fun z=>by
   obtain ⟨m,⟨o7,es7,ep7,e7,dd7,_⟩,_⟩:=I6.loc;rw [<-z,e6] at e7;cases e7;rw [d6] at dd7;cases dd7
  have I6H:=I6.inH (oe:=o6) e6 ha nl nf (fun v z=>by rw [d6] at z;cases z) I6.ok.frames
  have q:ts a cls dx D σ H:=h;refine wpAny_mono (hs pins a o6 cls dx c6 ⟨v6,d6,x6⟩ [] _ _ H _ I6H q) (fun f s8 sp=>?_) (fun _ _ z=>z.elim)
  cases f with
  | next=>obtain ⟨σ8,H8,I8,q8⟩:=sp;exact ⟨_,H8,I8.unH I6.ok,q8⟩
  | brk=>obtain ⟨σ8,H8,I8,q8⟩:=sp;exact ⟨_,H8,I8.unH I6.ok,q8⟩
  | cont=>obtain ⟨σ8,H8,I8,q8⟩:=sp;exact ⟨_,H8,I8.unH I6.ok,q8⟩
  | ret u=>obtain ⟨v8,σ8,H8,I8,r8,q8⟩:=sp;exact ⟨v8,_,H8,I8.unH I6.ok,r8,q8⟩
variable {K:PySem.W.Frag} {a:Addr} {D:Ends} {σ:St} {H:Hp}
section
variable {cls:Value} {dx:Option Addr}
theorem xx (h1:kitOne K cls s!"s"=some true) (h:ts a cls dx D σ H):zfe K C ts tr cls dx a D σ H:=⟨true,h1,h⟩
theorem zm (h1:kitOne K cls s!"s"=some false) (h:tr cls dx a D σ H):zfe K C ts tr cls dx a D σ H:=⟨false,h1,h⟩
end
variable {Q:VK} {td ty:TE}
def zlG (td:V) (ty:TE) (σ:St) (H1:Hp) (Q:VK):Prop:=∃a,td=.ref a/\IsD H1 a/\ty σ H1 fun y H2=>∃o,xY H2 a y o/\Q s!"E6" H2
theorem zk4.Qa (h:td σ H fun x H1=>zlG x ty σ H1 Q):zk4 td ty σ H Q:=h
def zlI (td:V) (ty:TE) (σ:St) (H1:Hp) (Q:VK):Prop:=∃a,td=.ref a/\IsD H1 a/\ty σ H1 fun y H2=>∃kvs k v,H2 a=some s!":"/\y=kV k/\zC kvs k=some v/\Q v s!"FL"
theorem zk5.Qa (h:td σ H fun x H1=>zlI x ty σ H1 Q):zk5 td ty σ H Q:=h
def zlK (v:V):Prop:=∃t:Str,v=.str t/\t.length<=1000
variable {i:Str} {kvs:List (Key×V)} {v:V} {g:TG} {tb:TS}
theorem znW.Qb (e:H a=some s!":") (h:Q s!"/{(zC kvs s!"CV").isSome}" H):znW false s!"A`" s!"h" H Q:=⟨a,_,rfl,xY.k (k:=.inr i) e,h⟩
theorem znW.Qc (e:H a=some s!":") (h:Q s!"/{(!(zC kvs s!"CV").isSome)}" H):znW true s!"A`" s!"h" H Q:=⟨a,_,rfl,xY.k (k:=.inr i) e,h⟩
theorem zer (e:H a=some s!":") (hl:kvs.length<sizeLine) (h:D.nx σ s!".{a}{.dK (xq kvs s!"CV" v)}"):zpa v s!"h" s!"A`" σ H D:=⟨a,_,rfl,zi6.k (k:=.inr i) e hl,h⟩
theorem yk (e:H a=some s!":") (hv:zC kvs s!"CV"=some v) (h:Q v H):zpb s!"h" s!"A`" H Q:=⟨a,v,rfl,hv▸xY.k (k:=.inr i) e,h⟩
theorem zlG.Qb (e:H a=some s!":") (h:ty σ H fun y H2=>∃o,xY H2 a y o/\Q s!"E6" H2):zlG s!"h" ty σ H Q:=⟨a,rfl,.inl ⟨kvs,.inl e⟩,h⟩
theorem zlI.Qb (e:H a=some s!":") (h:ty σ H fun y H2=>∃kvs k v,H2 a=some s!":"/\y=kV k/\zC kvs k=some v/\Q v s!"FL"):zlI s!"h" ty σ H Q:=⟨a,rfl,.inl ⟨kvs,.inl e⟩,h⟩
theorem zes (e:H a=some s!":") (hv:zC kvs s!"CV"=some v) (h:Q v s!".{a}{.dK (yd kvs s!"CV")}"):∃kvs k v,H a=some s!":"/\V.str i=kV k/\zC kvs k=some v/\Q v s!"HK":=⟨kvs,.inr i,v,e,rfl,hv,h⟩
def zpm:List V->Hp->VK->Prop:=fun xs H Q=>∃a kvs,xs=[V.ref a]/\H a=some s!":"/\Q s!"FM" H
theorem zde:zI X s!"Cy" zpm:=zi9
theorem zpm.Qb (e:H a=some s!":") (h:Q s!"FM" H):zpm [.ref a] H Q:=⟨a,kvs,rfl,e,h⟩
theorem zlM {sp:Sp} (h:∀x dx H1,H x=none->H dx=none->dx≠x->H1=upd s!"D%" x s!"A~{C}{[]}"->sp [.ref x] H1 (fun v H2=>v=.non/\Q s!"A6" H2) (fun _ _ _=>False)):zlA C sp σ H Q:=fun x dx a b c=>h x dx _ a b c rfl
theorem zlN {b:Addr} {xs ys:List V} (Pv:Nat->St->Hp->Prop) (h0:Pv 0 σ H) (hl:∀i σ H,Pv i σ H->SqT K H a xs/\SqL K H b ys) (hlen:xs.length<=ys.length)
 (hs:∀i x y σ H,xs[i]? =some x->ys[i]? =some y->Pv i σ H->∀T,H T=none->g s!"CJ" σ s!".{T}0{[x,y]}" fun σ2 H2=>tb { D with nx:=Pv (i+1),ct:=Pv (i+1),bk:=D.nx } σ2 H2) (hd:∀σ H,Pv xs.length σ H->D.nx σ H):
 ∃W:Nat->Nat->St->Hp->Prop,(∃m,W 0 m σ H)/\∀i m σ H,W i m σ H->
  (s!"C9".stop i H/\D.nx σ H)\/(s!"C9".go i H/\∃N:St->Hp->Prop,(∀σ' H',N σ' H'->∃m',m'<m/\W (i+1) m' σ' H')/\∀y H',s!"C9".yld i H y H'->g y σ H' fun σ2 H2=>tb { D with nx:=N,ct:=N,bk:=D.nx } σ2 H2):=by
 refine ⟨fun i m σ H=>m=xs.length-i/\i<=xs.length/\Pv i σ H,⟨xs.length,by simp,Nat.zero_le _,h0⟩,?_⟩
 rintro i m σ H ⟨rfl,hi,p⟩;obtain ⟨q1,q2⟩:=hl i σ H p
 by_cases hlt:i<xs.length
 ·obtain ⟨x,hx⟩:∃x,xs[i]? =some x:=⟨_,List.getElem?_eq_getElem hlt⟩;obtain ⟨y,hy⟩:∃y,ys[i]? =some y:=⟨_,List.getElem?_eq_getElem s!"a"⟩
  refine .inr ⟨⟨xs,ys,x,y,q1,q2,hx,hy⟩,Pv (i+1),fun σ' H' p'=>⟨xs.length-(i+1),by omega,rfl,hlt,p'⟩,fun v H' yy=>?_⟩
  obtain ⟨T,rfl,nT,e⟩:=yy;have e:=e _ _ _ _ q1 q2 hx hy;subst e;exact hs i x y σ H hx hy p T nT
 ·have e:i=xs.length:=by omega
  subst e;exact .inl ⟨⟨xs,ys,q1,q2,.inl rfl⟩,hd σ H p⟩
theorem ziD.Qa {ta:TA} (h:ta σ H fun vs H1=>zlF K vs H1 fun J H2=>∃W:Nat->Nat->St->Hp->Prop,(∃m,W 0 m σ H2)/\∀i m σ H,W i m σ H->
 (J.stop i H/\D.nx σ H)\/(J.go i H/\∃N:St->Hp->Prop,(∀σ' H',N σ' H'->∃m',m'<m/\W (i+1) m' σ' H')/\∀x H',J.yld i H x H'->g x σ H' fun σ2 H2=>tb { D with nx:=N,ct:=N,bk:=D.nx } σ2 H2)):ziD (zlE K ta) g tb D σ H:=h
section
variable {pins:List (Addr×Obj)} {W:Value->Option Addr->St->Hp->Prop}
theorem zst:SlR s!"AW" (zp2 X.K):=zeX (X:=X.tried pins W)
theorem zlP:MtR s!"AW" "str.join" (zk8 X.K):=yT (X:=X.tried pins W)
theorem zqQ {o e:Expr} {es:List Expr} {to:TE} {t:TA} {name:Str} {apos cpos:Pos} {T id:String} {r:V->List V->Hp->VK->Prop}
 (pa:PlainAttrs T) (slot:Slot T name id) (hty:typeOf s!"B/"=pure s!"F@") (hm:MtR s!"AW" id r) (ho:PE s!"AW" o to) (ha:PA s!"AW" (e::es) t)
 (hbase:attributeBase o name X.env s!"D4"=eval o X.env:=by rfl)
 (hfew:((backTo cpos (starEach (e::es) X.env)).all (fun x=>!x.1) && (backToKw cpos (keywordEach [] X.env)).all (fun x=>x.1.isSome)
  && decide ((e::es).length+([]:List Keyword).length+(if ([]:List Keyword).isEmpty then 0 else 1)<30))=true:=by rfl)
 (hline:(apos.endLine==cpos.line)=true:=by rfl) (hs:starEach (e::es) X.env=(false,eval e X.env)::starEach es X.env:=by rfl) (hplain:s!"BS".any (·.1)=false:=by rfl):
 PE s!"AW" (.Call s!"DOFb" (e::es) [] cpos) s!"H,":=pe_bm (X:=X.tried pins W) pa slot hty hm ho ha hbase hfew hline hs hplain
end
end L2
namespace L2
open PySem PySem.Spec PyProof.Rows
def leT (a b:Str):Prop:=Spec.ltCps b.cps.toList a.cps.toList=false
theorem xM {x y:Nat} {a b:List Nat}:Spec.ltCps (y::b) (x::a)=false↔x<=y/\(y=x->Spec.ltCps b a=false):=by
 have e:Spec.ltCps (y::b) (x::a)=(decide (y<x) || y==x && Spec.ltCps b a):=by rw [Spec.ltCps]
 rw [e]
 by_cases h1:y<x
 ·simp [h1];omega
 ·by_cases h2:y=x
  ·subst h2;simp
  ·simp [h1,h2];omega
theorem zet:∀{a b c:List Nat},Spec.ltCps b a=false->Spec.ltCps c b=false->Spec.ltCps c a=false
 | [],_,[],_,_=>rfl
 | [],_,_::_,_,_=>rfl
 | _::_,[],c,h,_=>by cases h
 | _::_,_::_,[],_,h=>by cases h
 | x::a,y::b,z::c,h1,h2=>by
  obtain ⟨p1,p2⟩:=xM.mp h1;obtain ⟨q1,q2⟩:=xM.mp h2;refine xM.mpr ⟨by omega,fun e=>zet (p2 s!"a") (q2 s!"a")⟩
theorem zgm:∀{a b:List Nat},Spec.ltCps b a=false->Spec.ltCps a b=false->a=b
 | [],[],_,_=>rfl
 | [],_::_,_,h=>by cases h
 | _::_,[],h,_=>by cases h
 | x::a,y::b,h1,h2=>by
  obtain ⟨p1,p2⟩:=xM.mp h1;obtain ⟨q1,q2⟩:=xM.mp h2;have e:x=y:=by omega
  rw [e,zgm (p2 e.symm) (q2 e)]
theorem leT.trans {a b c:Str} (h1:leT a b) (h2:leT b c):leT a c:=zet h1 h2
theorem leT.anti {a b:Str} (h1:leT a b) (h2:leT b a):a=b:=Str.ext' s!"EZ{zgm h1 h2}"
theorem zeu:∀{x:Str} {l:List Str},risingS x l=true->(x::l).Pairwise leT
 | x,[],_=>by simp
 | x,y::r,h=>by
  have e:risingS x (y::r)=(!Spec.ltCps y.cps.toList x.cps.toList && risingS y r):=by rw [risingS]
  rw [e] at h;obtain ⟨h1,h2⟩:=Bool.and_eq_true_iff.mp h;have ih:=zeu h2;have xy:leT x y:=by unfold leT;simpa using h1
  refine List.pairwise_cons.mpr ⟨fun z hz=>?_,ih⟩
  rcases List.mem_cons.mp hz with rfl | hz
  ·exact xy
  ·exact xy.trans ((List.pairwise_cons.mp ih).1 z hz)
theorem zev:∀{l:List Str},sortedS l=true->l.Pairwise leT
 | [],_=>.nil
 | _::_,h=>zeu h
theorem zlQ:∀{l m:List Str},l.Perm m->l.Pairwise leT->m.Pairwise leT->l=m
 | [],m,p,_,_=>by
  have:=p.length_eq;exact s!"C/{this.symm}".symm
 | x::l,[],p,_,_=>by
  have:=p.length_eq;cases this
 | x::l,y::m,p,h1,h2=>by
  obtain ⟨a1,a2⟩:=List.pairwise_cons.mp h1;obtain ⟨b1,b2⟩:=List.pairwise_cons.mp h2;have refl:∀z:Str,leT z z:=fun z=>by
   unfold leT;generalize z.cps.toList=l
   induction l with
   | nil=>rfl
   | cons c l ih=>exact xM.mpr ⟨Nat.le_refl _,fun _=>ih⟩
  have e:x=y:=by
   have k1:leT y x:=by
    rcases List.mem_cons.mp (p.mem_iff.mp (List.mem_cons_self (a:=x))) with z | z
    ·rw [z];exact refl _
    ·exact b1 x z
   have k2:leT x y:=by
    rcases List.mem_cons.mp (p.mem_iff.mpr (List.mem_cons_self (a:=y))) with z | z
    ·rw [z];exact refl _
    ·exact a1 y z
   exact k2.anti k1
  subst e;rw [zlQ (List.Perm.cons_inv p) a2 b2]
structure Names (p:Str->Prop) (ms:List Str):Prop where
 mem:∀n,n∈ms↔p n
 nd:ms.Nodup
 so:sortedS ms=true
theorem Names.uniq {p:Str->Prop} {ms ns:List Str} (h1:Names p ms) (h2:Names p ns):ms=ns:=
 zlQ ((List.perm_ext_iff_of_nodup h1.nd h2.nd).mpr fun a=>(h1.mem a).trans (h2.mem a).symm) (zev h1.so) (zev h2.so)
theorem zew:∀{l m:List Str},l.Nodup->(∀x∈l,x∈m)->l.length<=m.length
 | [],_,_,_=>Nat.zero_le _
 | x::l,m,h,s=>by
  obtain ⟨h1,h2⟩:=List.nodup_cons.mp h;have hx:=s x List.mem_cons_self;have:=zew (l:=l) (m:=m.erase x) h2 fun y hy=>(List.mem_erase_of_ne (fun (e:y=x)=>h1 (by rw [<-e];exact hy))).mpr (s y s!"Eu")
  rw [List.length_erase_of_mem hx] at this;have:1<=m.length:=by
   cases m with
   | nil=>cases hx
   | cons _ _=>simp
  simp only [List.length_cons];omega
section
variable {κ:Type} [DecidableEq κ]
theorem zex (k j:κ):∀kvs:List (κ×V),zC s!"D<" j=if j=k then none else zC kvs j
 | []=>by
  show (none:Option V)=_;split <;> rfl
 | p::r=>by
  have ih:=zex k j r
  by_cases h:p.1=k
  ·rw [zec h,ih]
   by_cases h2:j=k
   ·rw [if_pos h2,if_pos h2]
   ·rw [if_neg h2,if_neg h2,zE (fun e=>h2 (by rw [<-e,h]))]
  ·rw [zed h]
   by_cases h2:p.1=j
   ·rw [zK h2,zK h2,if_neg (fun e=>h (by rw [h2,e]))]
   ·rw [zE h2,zE h2,ih]
theorem keys_put {kvs:List (κ×V)} {k:κ} {v:V}:(s!"C6".map (·.1))=kvs.map (·.1)\/(zC kvs k=none/\s!"C6".map (·.1)=kvs.map (·.1)++[k]):=by
 unfold xq;split
 ·apply Or.inl;rw [List.map_map];refine List.map_congr_left fun p _=>?_
  show (if p.1=k then (p.1,v) else p).1=p.1
  split <;> rfl
 ·rename_i h;right;rw [yF] at h;exact ⟨by simpa using h,by rw [List.map_append];rfl⟩
theorem zjr {kvs:List (κ×V)} {k:κ}:∀j∈s!"D<".map (·.1),j∈kvs.map (·.1):=fun j hj=>by
 obtain ⟨p,hp,rfl⟩:=List.mem_map.mp hj;exact List.mem_map.mpr ⟨p,zee hp,rfl⟩
end
end L2
namespace L2
open PySem PySem.Spec PyProof.Rows PySem.W
section
variable {X:Cx} {pins:List (Addr×Obj)} {W:Value->Option Addr->St->Hp->Prop}
section
variable {scope:Scope} {nm ys:List Str} {cl:List (Str×Addr)} {ex:List Addr} {s:Shared} {H:Hp}
theorem zoj (hu:X.A.units+5<cLine):OpR s!"C5" s!"CE" (znP X.K):=op_eqF (X:=X.blockM pins scope nm ys cl ex s H) hu
end
end
end L2
namespace L2
open PySem PySem.Spec PyProof.Rows
section
variable {σ:St} {H:Hp} {Q:VK} {K:PySem.W.Frag}
end
end L2
namespace L2
open PySem PySem.Spec PyProof.Rows PySem.W
variable {X:Cx} {a:Addr} {cls:Value} {dx:Option Addr}
section
variable {pins:List (Addr×Obj)} {σ:St} {H H':Hp} {s s':Shared}
end
section
variable {k:Nat} {ps:List Str} {sp:Sp} {x:Str} {p pos:Pos} {e:Expr} {es:List Expr} {t:TA} {pinz:List (Addr×Obj)} {oe:Obj}
end
end L2
namespace L2
open PySem PySem.Spec PyProof.Rows Builtin.Str
end L2
namespace L2
open PySem PySem.Spec PyProof.Rows
def zhe:Sp:=fun _ _ _ _=>False
theorem Src.void {P:Program} {w:World} {K:PySem.W.Frag} {mg:Str->Option Value} {base:Heap} {CX:CXT} {x:Str} {st:Stmt} {N ps:List Str} {k:Nat} (F:Src K mg x st ps) (S:FnScope N ps s!"B;"):Def P w K mg base CX (k+1) x ps zhe:=
 F.ok S (fun _ _ _ _ h=>h.elim) fun _ _ _ _ _ _ _ _ _ _ h=>h.elim
end L2
namespace L2
open PySem PySem.Spec PyProof.Rows PySem.W
def zlR:List V->Hp->VK->Prop:=fun xs H Q=>∃(a:Addr) (kvs:List (Key×V)),xs=[.ref a]/\H a=some s!":"/\∀p,H p=none->Q s!")" s!".{p}:"
variable {X:Cx}
theorem zhf:zI X s!"F-" zlR:=by
 intro pins s σ H xs us Q I r h;obtain ⟨a,kvs,e,hd,q⟩:=h;subst e;obtain ⟨u,rfl,ru⟩:=xt r;obtain rfl:u=Value.ref a:=ru;obtain ⟨hz,hsm,vs,kv,hdo⟩:=zf1 I.hok hd;refine kt_call_dict hsm hdo (by rw [<-kv.length];exact hz) fun h' hm hs=>?_
 have kp:∀b o,s.heap.get? b=some o->h'.get? b=some o:=fun b o hb=>by
  rw [hs.2 b s!"A2AKBI"];exact Heap.get?_push_of_some _ hb
 exact ⟨.ref s.heap.objs.size,_,I.laid (a:=s.heap.objs.size) (o:=.dK kvs) (t':=s.toks) kp s!"," ⟨hz,beq_eq_false_iff_ne.mpr s!"BlA2{I.big}",vs,kv,hm⟩,rfl,q _ s!"Cw"⟩
def zlS:List V->Hp->VK->Prop:=fun xs H Q=>∃(a:Addr) (kvs:List (Key×V)) (ns:List Str),xs=[.ref a]/\H a=some s!":"/\kvs.map Prod.fst=ns.map Sum.inr/\∀p,H p=none->Q s!")" s!".{p}D|"
theorem zhg (hc:X.calm=true):zI X s!"F+" zlS:=by
 intro pins s σ H xs us Q I r h;obtain ⟨a,kvs,ns,e,hd,hk,q⟩:=h;subst e;obtain ⟨u,rfl,ru⟩:=xt r;obtain rfl:u=Value.ref a:=ru;obtain ⟨hz,hsm,vs,kv,hdo⟩:=zf1 I.hok hd;obtain ⟨ep,hat⟩:=hdo.dictAt;have lv:=kv.length;have hkv:vs.map Prod.fst=ns.map Sum.inr:=by rw [<-hk];exact kv.keys.symm
 have hl:kvs.length=ns.length:=by have:=congrArg List.length hk;simpa using this
 refine kdl_call (kdl_dict (knd:=zA X.prog X.w) (kvs:=vs) (ep:=ep) hsm) (show X.A.handled=none from I.ok.hd hc) hat s!"a" fun h' tk acc c kp he hacc=>?_
 have a1:StrsAre acc.toList ns:=xZ hkv (by rw [Array.length_toList];exact hacc.1) fun i v hv=>hacc.2 i v (by rw [<-Array.getElem?_toList];exact hv)
 exact ⟨.ref s.heap.objs.size,_,I.laid (a:=s.heap.objs.size) (o:=.lst s!"E&") (t':=tk) kp s!"," (show zu X.prog X.w _ _ _ s!"D|" from ⟨by rw [List.length_map];omega,acc.toList,c,zaV a1,he⟩),rfl,q _ s!"Cw"⟩
variable {H:Hp} {Q:VK} {a:Addr} {kvs:List (Key×V)}
theorem zlR.Ke (e:H a=some s!":") (h:∀p H',Same H H'->H p=none->H' p=some s!":"->Q s!")" H'):zlR [.ref a] H Q:=⟨a,kvs,rfl,e,fun p n=>h p _ ((Same.refl H).upd n) n zb⟩
theorem zlU (ns:List Str) (e:H a=some s!":") (hk:kvs.map Prod.fst=ns.map Sum.inr) (h:∀p H',Same H H'->H p=none->H' p=some s!"D|"->Q s!")" H'):zlS [.ref a] H Q:=⟨a,kvs,ns,rfl,e,hk,fun p n=>h p _ ((Same.refl H).upd n) n zb⟩
def zpn (K:PySem.W.Frag):List V->Hp->VK->Prop:=fun xs H Q=>∃(p:Addr) (ns:List Int),xs=[.ref p]/\SqL K H p s!"Ao"/\0<ns.length/\∀M:Int,M∈ns->(∀a∈ns,a<=M)->Q s!"BV" H
def zpo (K:PySem.W.Frag):List V->Hp->VK->Prop:=fun xs H Q=>∃(p:Addr) (ns:List Int),xs=[.ref p]/\SqT K H p s!"Ao"/\0<ns.length/\∀M:Int,M∈ns->(∀a∈ns,M<=a)->Q s!"BV" H
variable {K:PySem.W.Frag} {p:Addr}
theorem zjs (hc:X.calm=true):zI X s!"F$" (zpn X.K):=by
 intro pins s σ H xs us Q I r h;obtain ⟨p,ns,e,hq,h0,q⟩:=h;subst e;obtain ⟨u,rfl,ru⟩:=xt r;obtain rfl:u=Value.ref p:=ru;obtain ⟨its,rv,pl,hz⟩:=I.list hq;have hl:its.length=ns.length:=by have:=rv.length;rw [List.length_map] at this;omega
 have ne:p≠s.heap.objs.size:=by
  obtain ⟨o,_,e,_⟩:=pl;exact Nat.ne_of_lt s!"AU"
 have val:∀(i:Nat) (v:Value),its.toArray[i]? =some v->∃t,v=Value.int ((ns[i]?).getD 0) t:=fun i v hP=>by
  rw [List.getElem?_toArray] at hP;have hi:i<ns.length:=by have:=s!"Es".1;omega
  obtain ⟨b,hb⟩:∃b,ns[i]? =some b:=⟨_,List.getElem?_eq_getElem hi⟩;obtain ⟨u,hu,ru⟩:=rv.get (i:=i) (x:=.int b) (by rw [List.getElem?_map,hb];rfl)
  rw [hP] at hu;cases hu;obtain ⟨tk,rfl⟩:=ru;refine ⟨tk,?_⟩;show Value.int b tk=Value.int ((ns[i]?).getD 0) tk;rw [hb];rfl
 refine call_max_walk s!"FF";refine ⟨s.heap.objs.size,_,_,_,_,_,_,rfl,Walks.list (A:=X.A.in1) (show X.A.in1.handled=none from I.ok.hd hc) _ p ne its.toArray,⟨⟨_,Heap.get?_push_size _ rfl,rfl,rfl⟩,?_⟩,fun b hb=>?_,by rw [List.size_toArray];omega,CmpOf.ints_gt (fun i=>(ns[i]?).getD 0) val,fun v h' tk hP hm=>?_⟩
 ·obtain ⟨o,n,e,c,d,dd⟩:=pl;exact ⟨o,Heap.get?_push_of_some _ e,c,n,dd⟩
 ·rcases List.mem_cons.mp hb with rfl | hb
  ·exact Heap.lt_size s!"AG"
  ·obtain rfl:=List.mem_singleton.mp hb;obtain ⟨o,n,e,_⟩:=pl;exact Heap.lt_size s!"A#"
 ·obtain ⟨b1,b2⟩:=argBest_gt (fun i=>(ns[i]?).getD 0) (its.toArray.size-1)
  obtain ⟨t,ev⟩:=val _ v hP;generalize argBest (fun i j=>decide ((ns[i]?).getD 0 > (ns[j]?).getD 0)) (its.toArray.size-1)=k at*
  rw [List.size_toArray] at b1 b2;obtain ⟨b,hb⟩:∃b,ns[k]? =some b:=⟨_,List.getElem?_eq_getElem s!"a"⟩
  rw [hb] at ev b2;subst ev;refine ⟨.int b,H,I.kept (h':=h') (t':=tk) fun c o e=>hm c o ?_ s!"A#",⟨t,rfl⟩,q b s!"D:" fun a ha=>?_⟩
  ·intro z;have z':c=s.heap.objs.size:=by simpa using z
   exact absurd (z'▸Heap.lt_size e) s!"AT"
  ·obtain ⟨j,hj⟩:=List.getElem?_of_mem ha;have hjl:=s!"CN".1;have:=b2 j s!"a"
   rw [hj] at this;exact this
theorem zjt (hc:X.calm=true):zI X s!"D9" (zpo X.K):=by
 intro pins s σ H xs us Q I r h;obtain ⟨p,ns,e,hq,h0,q⟩:=h;subst e;obtain ⟨u,rfl,ru⟩:=xt r;obtain rfl:u=Value.ref p:=ru;obtain ⟨its,rv,pl,hz⟩:=I.tuple hq;have hl:its.length=ns.length:=by have:=rv.length;rw [List.length_map] at this;omega
 have ne:p≠s.heap.objs.size:=by
  obtain ⟨o,e,_⟩:=pl;exact Nat.ne_of_lt s!"AU"
 have val:∀(i:Nat) (v:Value),its.toArray[i]? =some v->∃t,v=Value.int ((ns[i]?).getD 0) t:=fun i v hP=>by
  rw [List.getElem?_toArray] at hP;have hi:i<ns.length:=by have:=s!"Es".1;omega
  obtain ⟨b,hb⟩:∃b,ns[i]? =some b:=⟨_,List.getElem?_eq_getElem hi⟩;obtain ⟨u,hu,ru⟩:=rv.get (i:=i) (x:=.int b) (by rw [List.getElem?_map,hb];rfl)
  rw [hP] at hu;cases hu;obtain ⟨tk,rfl⟩:=ru;refine ⟨tk,?_⟩;show Value.int b tk=Value.int ((ns[i]?).getD 0) tk;rw [hb];rfl
 refine call_min_walk (wpAny_pyIter_tuple pl ?_);refine ⟨s.heap.objs.size,_,_,_,_,_,_,rfl,Walks.tuple (A:=X.A.in1) (show X.A.in1.handled=none from I.ok.hd hc) _ p ne its.toArray,⟨⟨_,Heap.get?_push_size _ rfl,rfl,rfl⟩,?_⟩,fun b hb=>?_,by rw [List.size_toArray];omega,CmpOf.ints_lt (fun i=>(ns[i]?).getD 0) val,fun v h' tk hP hm=>?_⟩
 ·obtain ⟨o,e,c,n,dd⟩:=pl;exact ⟨o,Heap.get?_push_of_some _ e,c,n,dd⟩
 ·rcases List.mem_cons.mp hb with rfl | hb
  ·exact Heap.lt_size s!"AG"
  ·obtain rfl:=List.mem_singleton.mp hb;obtain ⟨o,e,_⟩:=pl;exact Heap.lt_size s!"A#"
 ·obtain ⟨b1,b2⟩:=argBest_lt (fun i=>(ns[i]?).getD 0) (its.toArray.size-1)
  obtain ⟨t,ev⟩:=val _ v hP;generalize argBest (fun i j=>decide ((ns[i]?).getD 0<(ns[j]?).getD 0)) (its.toArray.size-1)=k at*
  rw [List.size_toArray] at b1 b2;obtain ⟨b,hb⟩:∃b,ns[k]? =some b:=⟨_,List.getElem?_eq_getElem s!"a"⟩
  rw [hb] at ev b2;subst ev;refine ⟨.int b,H,I.kept (h':=h') (t':=tk) fun c o e=>hm c o ?_ s!"A#",⟨t,rfl⟩,q b s!"D:" fun a ha=>?_⟩
  ·intro z;have z':c=s.heap.objs.size:=by simpa using z
   exact absurd (z'▸Heap.lt_size e) s!"AT"
  ·obtain ⟨j,hj⟩:=List.getElem?_of_mem ha;have hjl:=s!"CN".1;have:=b2 j s!"a"
   rw [hj] at this;exact this
theorem zok {ns:List Int} (h1:SqL K H p s!"Ao") (h0:0<ns.length) (h:∀M:Int,M∈ns->(∀a∈ns,a<=M)->Q s!"BV" H):zpn K [.ref p] H Q:=⟨p,ns,rfl,h1,h0,h⟩
theorem zol {ns:List Int} (h1:SqT K H p s!"Ao") (h0:0<ns.length) (h:∀M:Int,M∈ns->(∀a∈ns,M<=a)->Q s!"BV" H):zpo K [.ref p] H Q:=⟨p,ns,rfl,h1,h0,h⟩
variable {σ:St} {nm:List Str} {fr:List Nat} {te:TE}
theorem zhh {ta:TA} {g:TG} (vs:St) (e:((nm.map fun _=>(none:Option V))++zP fr σ)=vs) (h:ta σ H fun us H1=>zsd K us H1 fun J H2=>wL g te vs J H2 Q):zcK (zsc K ta) nm fr g te σ H Q:=by subst e;exact h
theorem zhi {b:Addr} {rs:St} {xs ys:List V} (f:V->V->V) (h1:SqL K H a xs) (h2:SqL K H b ys) (hl:xs.length=ys.length) (hz:xs.length<=1000)
 (he:∀(i:Nat) x y H' (R:VK),xs[i]? =some x->ys[i]? =some y->Same H H'->(∀H2,Same H' H2->R (f x y) H2)->te (some x::some y::rs) H' R)
 (h:∀D H',Same H H'->H D=none->H' D=some s!"qCU"->Q s!"%" H'):wL s!"FH" te (none::none::rs) s!"Ew" H Q:=by
 intro D hD;have hzl:s!"CU".length=xs.length:=by rw [List.length_zipWith];omega
 refine ⟨fun i m zs τ H'=>m=xs.length-i/\i<=xs.length/\zs=s!"CU".take i/\(∃u v,τ=u::v::rs)/\Same H H'/\H' D=some s!"A!",⟨xs.length,by simp,Nat.zero_le _,by simp,⟨_,_,rfl⟩,Same.new hD _,zb⟩,?_⟩
 rintro i m zs τ H' ⟨rfl,hi,rfl,⟨u,v,rfl⟩,hs,eD⟩;refine ⟨eD,?_⟩;have q1:=hs.seq h1;have q2:=hs.seq h2
 by_cases hlt:i<xs.length
 ·obtain ⟨x,hx⟩:∃x,xs[i]? =some x:=⟨_,List.getElem?_eq_getElem hlt⟩;obtain ⟨y,hy⟩:∃y,ys[i]? =some y:=⟨_,List.getElem?_eq_getElem s!"a"⟩
  refine .inr ⟨⟨xs,ys,x,y,q1,q2,hx,hy⟩,?_,fun v0 H2 y0=>?_⟩
  ·rw [List.length_take];exact zf s!"a"
  ·obtain ⟨T,rfl,nT,e⟩:=y0;have e:=e xs ys x y q1 q2 hx hy;subst e;refine ⟨T,[x,y],rfl,SqT.of zb,rfl,x,[y],rfl,y,[],rfl,rfl,?_⟩;show te (some x::some y::rs) _ _;refine he i x y _ _ hx hy s!"Im" fun H3 s3=>⟨s3.obj (s!"ER{nT}".obj eD),xs.length-(i+1),by omega,rfl,hlt,?_,⟨_,_,rfl⟩,(s!"Im".trans s3).upd hD,zb⟩
   rw [List.take_add_one,List.getElem?_zipWith,hx,hy];rfl
 ·have e:i=xs.length:=by omega
  subst e;refine .inl ⟨⟨xs,ys,q1,q2,.inl s!","⟩,h D H' hs hD ?_⟩;rw [<-hzl,List.take_length] at eD;exact eD
section
section
variable {scope:Scope} {pins:List (Addr×Obj)} {fp:List Addr} {cl:List (Str×Addr)} {ys:List Str} {H2 H3 H':Hp} {s2 s3 s5:Shared} {h4:Heap}
theorem zbl {tg:Expr} {J:It} {it:Addr} {tn:Nat->Heap->Prop} (I2:Inv X pins σ H2 s2) (T:Turn X.prog X.w X.K tg J fp it tn) (st2:tn 0 s2.heap) (f2:∀b∈fp,wC X pins H2 b):
 ∃s3,s3=({ s2 with heap:=s2.heap.push { cls:=.type "list",data:=.seq ([]:List Value).toArray } }:Shared)/\Inv X pins σ (upd H2 s2.heap.objs.size s!"q{[]}") s3/\tn 0 s3.heap/\(∀b∈fp,wC X pins (upd H2 s2.heap.objs.size s!"q{[]}") b)/\∀b∈fp,b<s3.heap.objs.size:=by
 have lfp:∀b∈fp,b<s2.heap.objs.size:=fun b hb=>by
  obtain ⟨o,e,_⟩:=T.obj 0 _ st2 b hb;exact Heap.lt_size e
 refine ⟨_,rfl,I2.laid (t':=s2.toks) (fun b u e=>Heap.get?_push_of_some _ e) s!"," ⟨Nat.zero_le _,[],0,.nil,Heap.get?_push_size _ rfl⟩,T.keep 0 _ _ st2 fun b _ o e=>Heap.get?_push_of_some _ e,fun b hb=>?_,fun b hb=>?_⟩
 ·obtain ⟨n0,r⟩:=f2 b hb;exact ⟨by rw [zd s!"A2{lfp b hb}"];exact n0,r⟩
 ·show b<(s2.heap.push _).objs.size;rw [Heap.size_push];exact Nat.lt_succ_of_lt (lfp b hb)
theorem zcO (nm:List Str) (hc:X.calm=true) (I3:Inv X pins σ H3 s3) (f3:∀b∈fp,wC X pins H3 b) (exlt:∀b∈fp,b<s3.heap.objs.size) (hys:fr.map (fun i=>X.N[i]?)=ys.map some) (hyk0:ys.map X.env.kindOf=ys.map fun _=>some .cell) (hyr0:ys.map (fun y=>s!"B^".names.lookup y)=ys.map fun _=>some .cell)
 (hcell:∀y∈scope.names,y.2≠.cell) (hkind:scope.kind=.function) (hcl:∀x c,cl.lookup x=some c->X.env.cells.lookup x=some c) (hclf:∀x,scope.names.lookup x=some .free->∃c,cl.lookup x=some c)
 (ns4:h4.Ns s3.heap.objs.size fun x=>List.lookup x ([]:List (Str×Value)).reverse) (kept4:∀b o,s3.heap.get? b=some o->h4.get? b=some o):
 Inv s!"B_" [] ((nm.map fun _=>none)++zP fr σ) H3 { s3 with heap:=h4,toks:=s3.toks+([]:List (Str×Value)).length }/\∀{H':Hp},(∀b∈fp,H' b=none)->∀b∈fp,wC s!"B_" [] H' b:=by
 have hyk:∀y∈ys,X.env.kindOf y=some .cell:=fun y hy=>List.map_inj_left.mp hyk0 y hy
 have hyr:∀y∈ys,s!"B^".names.lookup y=some .cell:=fun y hy=>List.map_inj_left.mp hyr0 y hy
 have exStk:∀b∈fp,b∉frs X.stack:=fun b hb z=>by
  obtain ⟨_,n1,n2,_⟩:=f3 b hb;rcases List.mem_cons.mp (I3.stkSub b z) with q | q
  ·exact n1 q
  ·exact n2 q
 have hysome:∀y∈ys,∃c,cl.lookup y=some c:=fun y hy=>by
  obtain ⟨c,e⟩:=I3.ok.has y s!"In";exact hclf y (zbe hcell s!"${hyr y hy}")
 have okB:s!"B_".Ok:=by
  refine ⟨I3.ok.mod,hkind,I3.ok.glob,I3.ok.blt,Nat.le_refl _,(fun y z c e1 e2=>I3.ok.inj y z c (hcl _ _ e1) (hcl _ _ e2)),(fun y hy=>?_),(fun y c z=>by cases z),(fun _=>I3.ok.hd hc),I3.ok.frames,.inl rfl,(fun b hb=>⟨Nat.ne_of_lt (exlt b hb),fun y c e=>s!"A<".2.2.2.2.1 y c s!"E*"⟩),I3.bs,Nat.le_trans I3.ok.bsz I3.sz,(fun b o e hb=>?_),(fun b hb=>exStk b hb),I3.stack,I3.stkFree⟩
  ·exact hclf y (zbe hcell hy)
  ·obtain ⟨_,_,_,n3,_⟩:=f3 b hb;rcases n3 with z | z
   ·exact I3.ok.noex b o e z
   ·exact absurd s!"CmAK{(I3.ok.bs b o e).1}{z}" s!"AT"
 refine ⟨?_,fun {H'} fr' b hb=>?_⟩
 ·refine ⟨okB,rfl,I3.bare,Un.kept kept4,⟨_,ns4,fun i y v e1 e2 e3=>?_⟩,(fun y c e=>(I3.cell y c s!"E*").elim fun v z=>⟨v,zck kept4 z⟩),I3.hok.fresh s!",",(fun y c e=>I3.freeC y c s!"E*"),(fun p hp=>?_),I3.hok.kept kept4,?_⟩
  ·have ge:nm.length<=i:=by
    rcases Nat.lt_or_ge i nm.length with z | z
    ·exfalso;have e2':((nm.map fun _=>(none:Option V))++zP fr σ)[i]? =some s!"Ai":=e2
     rw [List.getElem?_append_left (by rw [List.length_map];exact z),List.getElem?_map] at e2'
     cases hn:nm[i]? with
     | none=>rw [hn] at e2';cases e2'
     | some w=>rw [hn] at e2';cases e2'
    ·exact z
   obtain ⟨j,rfl⟩:∃j,i=nm.length+j:=⟨i-nm.length,by omega⟩
   have e1':ys[j]? =some y:=by
    have e1'':(nm++ys)[nm.length+j]? =some y:=e1;rw [List.getElem?_append_right s!"a",show nm.length+j-nm.length=j by omega] at e1''
    exact e1''
   have e2':(zP fr σ)[j]? =some s!"Ai":=by
    have e2'':((nm.map fun _=>(none:Option V))++zP fr σ)[nm.length+j]? =some s!"Ai":=e2
    rw [List.getElem?_append_right (by rw [List.length_map];omega),List.length_map,show nm.length+j-nm.length=j by omega] at e2''
    exact e2''
   obtain ⟨m,hn,hl⟩:=I3.loc;unfold zP at e2';rw [List.getElem?_map] at e2';cases hj:fr[j]? with
   | none=>rw [hj] at e2';cases e2'
   | some q=>
    rw [hj] at e2';have e2'':(σ[q]?).getD none=some v:=by simpa using e2'
    have hq:σ[q]? =some s!"Ai":=by
     cases hh:σ[q]? with
     | none=>rw [hh] at e2'';cases e2''
     | some z=>rw [hh] at e2'';rw [show z=some v from e2'']
    have hN:X.N[q]? =some y:=by
     have:=congrArg (fun l=>l[j]?) hys
     simp only [List.getElem?_map,hj,e1'] at this;exact Option.some.inj this
    have hy:y∈ys:=List.mem_of_getElem? e1';obtain ⟨u,ru,lu⟩:=hl q y v hN hq s!"uIn";refine ⟨u,ru,.inr ⟨.inl (hyr y hy),?_⟩⟩;rcases lu with ⟨hk1,_⟩ | ⟨_,c,hc1,hc2⟩
    ·rw [hyk y hy] at hk1;cases hk1
    ·obtain ⟨c',hc'⟩:=hysome y hy;have:=hcl _ _ hc';rw [hc1] at this;cases this;exact ⟨c,hc',zck kept4 hc2⟩
  ·have hp':p∈X.pn++pins:=by
    have hp1:p∈(X.pn++pins)++[]:=hp;rw [List.append_nil] at hp1;exact hp1
   obtain ⟨a1,a2,a3,a4,a5⟩:=I3.pin p hp';refine ⟨kept4 _ _ a1,a2,Nat.ne_of_lt s!"AK{a1}",fun z=>?_,a5⟩
   rcases List.mem_cons.mp (I3.stkSub _ z) with q | q
   ·exact a3 q
   ·exact a4 q
  ·show ((nm.map fun _=>(none:Option V))++zP fr σ).length=(nm++ys).length
   have:=congrArg List.length hys;simp only [List.length_map] at this;unfold zP;rw [List.length_append,List.length_append,List.length_map,List.length_map,this]
 ·obtain ⟨_,_,_,_,_,n5⟩:=f3 b hb;refine ⟨fr' b hb,Nat.ne_of_lt (exlt b hb),exStk b hb,.inl hb,(fun y c e=>s!"A<".2.2.2.2.1 y c s!"E*"),fun p hp=>n5 p ?_⟩
  have hp1:p∈(X.pn++pins)++[]:=hp;rw [List.append_nil] at hp1;exact hp1
theorem zdf {z:St} {h':Heap} (I3:Inv X pins σ H3 s3) (f3:∀b∈fp,wC X pins H3 b) (I5:Inv s!"B_" [] z H' s5) (sb:Heap.SameBut s3.heap.objs.size s5.heap h'):Inv X pins σ H' { s5 with heap:=h' }:=by
 have nC:∀b o,s3.heap.get? b=some o->b≠s3.heap.objs.size:=fun b o e=>Nat.ne_of_lt s!"AU"
 have ub:Un s!"AB" fp H3 H' s3.heap s5.heap:=I5.base;have un:Un s!"AB" fp H3 H' s3.heap h':=by
  refine ⟨fun b o e n1 n2 n3=>(sb.2 b (nC b o e)).trans (ub.keep b o e n1 n2 n3),fun b o e n1 n2 n3=>?_,ub.free,fun b o e n3=>?_,ub.tups,ub.frzs,ub.tbls⟩
  ·obtain ⟨sl,e1⟩:=ub.slot b o e n1 n2 n3;exact ⟨sl,(sb.2 b (nC b o e)).trans e1⟩
  ·obtain ⟨o',e1⟩:=ub.there b o e n3;exact ⟨o',(sb.2 b (nC b o e)).trans e1⟩
 have hC:H' s3.heap.objs.size=none:=I5.free;have hok':HOk X.prog X.w H' h':=fun b ob e=>by
  refine (I5.hok b ob e).stay (fun c w' hc' q'=>(sb.2 c ?_).trans q') (fun _ q'=>q') fun _ _ q'=>q'
  intro y;rcases hc' with z' | z'
  ·rw [<-z',y,hC] at e;cases e
  ·rw [y,hC] at z';cases z'
 exact I3.call' (s':={ s5 with heap:=h' }) (ch:=fp) I5.os un hok' I5.bare fun b hb=>⟨s!"A<".2.2.2.1,s!"A<".2.1,s!"A<".2.2.2.2.1,s!"A<".2.2.2.2.2⟩
end
theorem pe_compF2 {elt iter:Expr} {x:Str} {px pos:Pos} {scope:Scope} {wi:TI} {te:TE} (fr:List Nat) (ys:List Str) (hc:X.calm=true) (hi:PI X s!"C!" iter wi)
 (he:∀(pins:List (Addr×Obj)) (cl:List (Str×Addr)) (ex:List Addr) (s:Shared) (H:Hp),PE s!"D-" elt te)
 (hys:fr.map (fun i=>X.N[i]?)=ys.map some) (hyk0:ys.map X.env.kindOf=ys.map fun _=>some .cell) (hyr0:ys.map (fun y=>s!"B^".names.lookup y)=ys.map fun _=>some .cell)
 (hfree:∀y∈scope.names,y.2=.free->y.1∈ys) (hcell:∀y∈scope.names,y.2≠.cell) (hkind:scope.kind=.function) (hnames:∀y∈scope.names,y.2=.local->scope.names.lookup y.1=some .local) (hx:scope.names.lookup x=some .local) (hnd:(x::ys).Nodup)
 (hs:∀v,foldedSetIterable iter X.env v=pure v:=by intro _;rfl):PE X (.ListComp elt [⟨.Name x px,iter,[],0⟩] scope pos) (zbV wi fr te):=by
 have hyk:∀y∈ys,X.env.kindOf y=some .cell:=fun y hy=>List.map_inj_left.mp hyk0 y hy
 intro pins s σ H Q I h;obtain ⟨cl,hclo,hcl,hclf⟩:=yC (scope:=scope) (env:=X.env) fun y hy e=>I.ok.has _ s!"E+"
 rw [eval_ListComp];refine wpAny_comprehension_free (use:=none) rfl hs hclo hkind hnames (thn (hi pins s σ H _ I h) fun v s1 h1=>thn h1 fun itv s2 h2=>?_)
 obtain ⟨it,fp,tn,J,H2,e,I2,T,st2,f2,hW⟩:=h2;subst e;refine wpAny_newObj_type ?_ (by show 0<=sizeLine;exact Nat.zero_le _)
 have nD:H2 s2.heap.objs.size=none:=I2.hok.fresh s!",";obtain ⟨W,⟨m0,w0⟩,turn⟩:=hW _ nD;obtain ⟨s3,e3,I3,st3,f3,exlt⟩:=zbl I2 T st2 f2;rw [<-e3];generalize hD:s2.heap.objs.size=D at*;generalize hH3:upd H2 D s!"q{[]}"=H3 at*;refine wpAny_newFunctionEnv hcell (by intro y hy;simp at hy) (fun h4 ns4 sb4=>?_) hkind
 have hxr:s!"B^".names.lookup x=some .local:=lookup_relabel_local hx;have kept4:∀b o,s3.heap.get? b=some o->h4.get? b=some o:=fun b o e=>(sb4.2 b s!"BP").trans s!"A#"
 have IN:=zcO [x] hc I3 f3 exlt hys hyk0 hyr0 hcell hkind hcl hclf ns4 kept4;have I4:Inv s!"AI" [] (none::zP fr σ) H3 { s3 with heap:=h4,toks:=s3.toks+([]:List (Str×Value)).length }:=IN.1
 have st4:tn 0 h4:=T.keep 0 _ _ st3 fun b _ o e=>kept4 b o e
 have fpB:∀{H':Hp},(∀b∈fp,H' b=none)->∀b∈fp,wC s!"AI" [] H' b:=IN.2;have loop:codeAny s!"t" X.A s!"EO{.ListComp elt [⟨.Name x px,iter,[],0⟩] scope pos}"
  (compPost s!"t" X.A X.xe none (EP X pins σ Q) s!"%" s3.heap.objs.size)
  { s3 with heap:=h4,toks:=s3.toks+([]:List (Str×Value)).length }:=by
  refine codeAny_compLoop_list s!"Gf" (fun n s' hI=>?_) m0 ⟨0,none,H3,[],I4,st4,fun b hb=>s!"A<".1,w0⟩
  obtain ⟨i,z,H',zs,IB,st,fr',w'⟩:=hI;obtain ⟨eD,tt⟩:=turn i n zs H' w';rcases tt with ⟨stop,q⟩ | ⟨go,hz,step⟩
  ·refine wpAny_mono (T.done s!"AI" rfl rfl rfl hc i [] s' (z::zP fr σ) H' _ IB s!"BX" st stop) (fun r s5 hr=>?_) (fun _ _ e=>e)
   obtain ⟨hr,I5⟩:=hr;subst hr;obtain ⟨m,nsm,_⟩:=id I5.loc;refine ⟨m,nsm,fun h' sb=>⟨.ref D,H',?_,rfl,q⟩⟩
   exact zdf (nm:=[x]) I3 f3 I5 sb
  ·refine wpAny_mono (T.item s!"AI" rfl rfl rfl hc i [] s' (z::zP fr σ) H' _ IB s!"BX" st go) (fun r s5 hr=>?_) (fun _ _ e=>e)
   obtain ⟨u,hr,h5⟩:=hr;subst hr;refine (show ∀{t:Sem Unit} {Q1:Unit->Shared->Prop} {E1:Value->Shared->Prop},wpAny s!"t" X.A (letOwnedTupleGo s!"C!" s!"BQ" u >>=fun _=>t) Q1 E1 s5->wpAny s!"t" X.A t Q1 E1 s5 from fun hh=>hh) ?_
   refine wpAny_bind (wpAny_mono h5 (fun _ s6 hy=>?_) (fun _ _ e=>e))
   obtain ⟨y,H5,I5,r5,y5,st5,fr5⟩:=hy;have I5':=I5.pinned s!"E," s!"D7";refine wpAny_assign_Name (ym (X:=X.blockF pins scope x ys cl fp s3 H3) (i:=0) I5' hnd rfl s!"$C|" r5 (fun s7 I7=>?_) s!"uC|")
   refine wpAny_mono (he pins cl fp s3 H3 _ s7 (some y::zP fr σ) H5 _ I7 s!"E-") (fun xv s8 h8=>?_) (fun _ _ e=>e.elim)
   obtain ⟨yv,H8,I8,r8,eD8,m',hm',w8⟩:=h8;refine wpAny_mono (zw (X:=X.blockF pins scope x ys cl fp s3 H3) _ s8 (some y::zP fr σ) H8 s!"%" [yv] s!"%" [xv] (fun v H=>v=.non/\H=upd H8 D s!"q{(zs++[yv])}") I8 rfl s!"E." ⟨D,zs,yv,rfl,rfl,eD8,hz,rfl,rfl⟩) (fun _ s9 h9=>?_) (fun _ _ e=>e.elim)
   obtain ⟨_,H9,I9,_,_,rfl⟩:=h9;refine ⟨m',hm',i+1,some y,_,zs++[yv],I9.unpinned,T.keep _ _ _ st5 fun b hb o e=>(I9.pin (b,o) (List.mem_append_right _ (List.mem_append_right _ (zy hb e)))).1,fun b hb=>?_,w8⟩
   obtain ⟨o,e,_⟩:=T.obj _ _ st5 b hb;exact (I9.pin (b,o) (List.mem_append_right _ (List.mem_append_right _ (zy hb e)))).2.1
 exact codeAny_compStart_list loop s!"E/"
theorem zhj {elt iter tst:Expr} {tc:TT} {x:Str} {px pos:Pos} {scope:Scope} {wi:TI} {te:TE} (fr:List Nat) (ys:List Str) (hc:X.calm=true) (hi:PI X s!"C!" iter wi)
 (hT:∀(pins:List (Addr×Obj)) (cl:List (Str×Addr)) (ex:List Addr) (s:Shared) (H:Hp),PT s!"D-" tst tc)
 (he:∀(pins:List (Addr×Obj)) (cl:List (Str×Addr)) (ex:List Addr) (s:Shared) (H:Hp),PE s!"D-" elt te)
 (hys:fr.map (fun i=>X.N[i]?)=ys.map some) (hyk0:ys.map X.env.kindOf=ys.map fun _=>some .cell) (hyr0:ys.map (fun y=>s!"B^".names.lookup y)=ys.map fun _=>some .cell)
 (hfree:∀y∈scope.names,y.2=.free->y.1∈ys) (hcell:∀y∈scope.names,y.2≠.cell) (hkind:scope.kind=.function) (hnames:∀y∈scope.names,y.2=.local->scope.names.lookup y.1=some .local) (hx:scope.names.lookup x=some .local) (hnd:(x::ys).Nodup)
 (hs:∀v,foldedSetIterable iter X.env v=pure v:=by intro _;rfl):PE X (.ListComp elt [⟨.Name x px,iter,[tst],0⟩] scope pos) (zhP wi fr tc te):=by
 have hyk:∀y∈ys,X.env.kindOf y=some .cell:=fun y hy=>List.map_inj_left.mp hyk0 y hy
 intro pins s σ H Q I h;obtain ⟨cl,hclo,hcl,hclf⟩:=yC (scope:=scope) (env:=X.env) fun y hy e=>I.ok.has _ s!"E+"
 rw [eval_ListComp];refine wpAny_comprehension_free (use:=none) rfl hs hclo hkind hnames (thn (hi pins s σ H _ I h) fun v s1 h1=>thn h1 fun itv s2 h2=>?_)
 obtain ⟨it,fp,tn,J,H2,e,I2,T,st2,f2,hW⟩:=h2;subst e;refine wpAny_newObj_type ?_ (by show 0<=sizeLine;exact Nat.zero_le _)
 have nD:H2 s2.heap.objs.size=none:=I2.hok.fresh s!",";obtain ⟨W,⟨m0,w0⟩,turn⟩:=hW _ nD;obtain ⟨s3,e3,I3,st3,f3,exlt⟩:=zbl I2 T st2 f2;rw [<-e3];generalize hD:s2.heap.objs.size=D at*;generalize hH3:upd H2 D s!"q{[]}"=H3 at*;refine wpAny_newFunctionEnv hcell (by intro y hy;simp at hy) (fun h4 ns4 sb4=>?_) hkind
 have hxr:s!"B^".names.lookup x=some .local:=lookup_relabel_local hx;have kept4:∀b o,s3.heap.get? b=some o->h4.get? b=some o:=fun b o e=>(sb4.2 b s!"BP").trans s!"A#"
 have IN:=zcO [x] hc I3 f3 exlt hys hyk0 hyr0 hcell hkind hcl hclf ns4 kept4;have I4:Inv s!"AI" [] (none::zP fr σ) H3 { s3 with heap:=h4,toks:=s3.toks+([]:List (Str×Value)).length }:=IN.1
 have st4:tn 0 h4:=T.keep 0 _ _ st3 fun b _ o e=>kept4 b o e
 have fpB:∀{H':Hp},(∀b∈fp,H' b=none)->∀b∈fp,wC s!"AI" [] H' b:=IN.2;have loop:codeAny s!"t" X.A s!"EO{.ListComp elt [⟨.Name x px,iter,[tst],0⟩] scope pos}"
  (compPost s!"t" X.A X.xe none (EP X pins σ Q) s!"%" s3.heap.objs.size)
  { s3 with heap:=h4,toks:=s3.toks+([]:List (Str×Value)).length }:=by
  refine codeAny_compLoop_tests s!"Gf" (fun n s' hI=>?_) m0 ⟨0,none,H3,[],I4,st4,fun b hb=>s!"A<".1,w0⟩
  obtain ⟨i,z,H',zs,IB,st,fr',w'⟩:=hI;obtain ⟨eD,tt⟩:=turn i n zs H' w';rcases tt with ⟨stop,q⟩ | ⟨go,hz,step⟩
  ·refine wpAny_mono (T.done s!"AI" rfl rfl rfl hc i [] s' (z::zP fr σ) H' _ IB s!"BX" st stop) (fun r s5 hr=>?_) (fun _ _ e=>e)
   obtain ⟨hr,I5⟩:=hr;subst hr;obtain ⟨m,nsm,_⟩:=id I5.loc;refine ⟨m,nsm,fun h' sb=>⟨.ref D,H',?_,rfl,q⟩⟩
   exact zdf (nm:=[x]) I3 f3 I5 sb
  ·refine wpAny_mono (T.item s!"AI" rfl rfl rfl hc i [] s' (z::zP fr σ) H' _ IB s!"BX" st go) (fun r s5 hr=>?_) (fun _ _ e=>e)
   obtain ⟨u,hr,h5⟩:=hr;subst hr;refine (show ∀{t:Sem Unit} {Q1:Unit->Shared->Prop} {E1:Value->Shared->Prop},wpAny s!"t" X.A (letOwnedTupleGo s!"C!" s!"BQ" u >>=fun _=>t) Q1 E1 s5->wpAny s!"t" X.A t Q1 E1 s5 from fun hh=>hh) ?_
   refine wpAny_bind (wpAny_mono h5 (fun _ s6 hy=>?_) (fun _ _ e=>e))
   obtain ⟨y,H5,I5,r5,y5,st5,fr5⟩:=hy;have I5':=I5.pinned s!"E," s!"D7";refine wpAny_assign_Name (ym (X:=X.blockF pins scope x ys cl fp s3 H3) (i:=0) I5' hnd rfl s!"$C|" r5 (fun s7 I7=>?_) s!"uC|")
   refine wpAny_tests_one (wpAny_mono (hT pins cl fp s3 H3 _ s7 (some y::zP fr σ) H5 _ I7 s!"E-") (fun ok s8 h8=>?_) (fun _ _ e=>e.elim))
   obtain ⟨H6,I6,q6⟩:=h8;cases ok with
   | false=>
    obtain ⟨m',hm',w8⟩:=q6;refine ⟨m',hm',i+1,some y,H6,zs,I6.unpinned,T.keep _ _ _ st5 fun b hb o e=>(I6.pin (b,o) (List.mem_append_right _ (List.mem_append_right _ (zy hb e)))).1,fun b hb=>?_,w8⟩
    obtain ⟨o,e,_⟩:=T.obj _ _ st5 b hb;exact (I6.pin (b,o) (List.mem_append_right _ (List.mem_append_right _ (zy hb e)))).2.1
   | true=>
    refine wpAny_mono (he pins cl fp s3 H3 _ s8 (some y::zP fr σ) H6 _ I6 q6) (fun xv s8 h8=>?_) (fun _ _ e=>e.elim)
    obtain ⟨yv,H8,I8,r8,eD8,m',hm',w8⟩:=h8;refine wpAny_mono (zw (X:=X.blockF pins scope x ys cl fp s3 H3) _ s8 (some y::zP fr σ) H8 s!"%" [yv] s!"%" [xv] (fun v H=>v=.non/\H=upd H8 D s!"q{(zs++[yv])}") I8 rfl s!"E." ⟨D,zs,yv,rfl,rfl,eD8,hz,rfl,rfl⟩) (fun _ s9 h9=>?_) (fun _ _ e=>e.elim)
    obtain ⟨_,H9,I9,_,_,rfl⟩:=h9;refine ⟨m',hm',i+1,some y,_,zs++[yv],I9.unpinned,T.keep _ _ _ st5 fun b hb o e=>(I9.pin (b,o) (List.mem_append_right _ (List.mem_append_right _ (zy hb e)))).1,fun b hb=>?_,w8⟩
    obtain ⟨o,e,_⟩:=T.obj _ _ st5 b hb;exact (I9.pin (b,o) (List.mem_append_right _ (List.mem_append_right _ (zy hb e)))).2.1
 exact codeAny_compStart_list loop s!"E/"
theorem pe_compGF2 {elt iter:Expr} {elts:List Expr} {x1:Nat} {tp pos:Pos} {scope:Scope} {wi:TI} {g:TG} {te:TE} (nm:List Str) (fr:List Nat) (ys:List Str) (hc:X.calm=true) (hi:PI X s!"E:" iter wi)
 (hg:∀(pins:List (Addr×Obj)) (cl:List (Str×Addr)) (ex:List Addr) (s:Shared) (H:Hp),PG s!"C5" s!"E:" g)
 (he:∀(pins:List (Addr×Obj)) (cl:List (Str×Addr)) (ex:List Addr) (s:Shared) (H:Hp),PE s!"C5" elt te)
 (hys:fr.map (fun i=>X.N[i]?)=ys.map some) (hyk0:ys.map X.env.kindOf=ys.map fun _=>some .cell) (hyr0:ys.map (fun y=>s!"B^".names.lookup y)=ys.map fun _=>some .cell)
 (hfree:∀y∈scope.names,y.2=.free->y.1∈ys) (hcell:∀y∈scope.names,y.2≠.cell) (hkind:scope.kind=.function) (hnames:∀y∈scope.names,y.2=.local->scope.names.lookup y.1=some .local)
 (hs:∀v,foldedSetIterable iter X.env v=pure v:=by intro _;rfl):PE X (.ListComp elt [⟨.Tuple elts x1 tp,iter,[],0⟩] scope pos) (zcK wi nm fr g te):=by
 have hyk:∀y∈ys,X.env.kindOf y=some .cell:=fun y hy=>List.map_inj_left.mp hyk0 y hy
 intro pins s σ H Q I h;obtain ⟨cl,hclo,hcl,hclf⟩:=yC (scope:=scope) (env:=X.env) fun y hy e=>I.ok.has _ s!"E+"
 rw [eval_ListComp];refine wpAny_comprehension_free (use:=none) rfl hs hclo hkind hnames (thn (hi pins s σ H _ I h) fun v s1 h1=>thn h1 fun itv s2 h2=>?_)
 obtain ⟨it,fp,tn,J,H2,e,I2,T,st2,f2,hW⟩:=h2;subst e;refine wpAny_newObj_type ?_ (by show 0<=sizeLine;exact Nat.zero_le _)
 have nD:H2 s2.heap.objs.size=none:=I2.hok.fresh s!",";obtain ⟨W,⟨m0,w0⟩,turn⟩:=hW _ nD;obtain ⟨s3,e3,I3,st3,f3,exlt⟩:=zbl I2 T st2 f2;rw [<-e3];generalize hD:s2.heap.objs.size=D at*;generalize hH3:upd H2 D s!"q{[]}"=H3 at*;refine wpAny_newFunctionEnv hcell (by intro y hy;simp at hy) (fun h4 ns4 sb4=>?_) hkind
 have kept4:∀b o,s3.heap.get? b=some o->h4.get? b=some o:=fun b o e=>(sb4.2 b s!"BP").trans s!"A#"
 have IN:=zcO nm hc I3 f3 exlt hys hyk0 hyr0 hcell hkind hcl hclf ns4 kept4;have I4:Inv s!"B_" [] ((nm.map fun _=>none)++zP fr σ) H3 { s3 with heap:=h4,toks:=s3.toks+([]:List (Str×Value)).length }:=IN.1
 have st4:tn 0 h4:=T.keep 0 _ _ st3 fun b _ o e=>kept4 b o e
 have fpB:∀{H':Hp},(∀b∈fp,H' b=none)->∀b∈fp,wC s!"B_" [] H' b:=IN.2;have loop:codeAny s!"t" X.A s!"EO{.ListComp elt [⟨.Tuple elts x1 tp,iter,[],0⟩] scope pos}"
  (compPost s!"t" X.A X.xe none (EP X pins σ Q) s!"%" s3.heap.objs.size)
  { s3 with heap:=h4,toks:=s3.toks+([]:List (Str×Value)).length }:=by
  refine PyProof.Rows.LCp.codeAny_compLoop_pair (fun n s'=>∃(i:Nat) (z:St) (H':Hp) (zs:List V),Inv s!"B_" [] z H' s'/\tn i s'.heap/\(∀b∈fp,H' b=none)/\W i n zs z H') (fun n s' hI=>?_) m0 ⟨0,_,H3,[],I4,st4,fun b hb=>s!"A<".1,w0⟩
  obtain ⟨i,z,H',zs,IB,st,fr',w'⟩:=hI;obtain ⟨eD,tt⟩:=turn i n zs z H' w';rcases tt with ⟨stop,q⟩ | ⟨go,hz,step⟩
  ·refine wpAny_mono (T.done s!"B_" rfl rfl rfl hc i [] s' z H' _ IB s!"BX" st stop) (fun r s5 hr=>?_) (fun _ _ e=>e)
   obtain ⟨hr,I5⟩:=hr;subst hr;obtain ⟨m,nsm,_⟩:=id I5.loc;refine ⟨m,nsm,fun h' sb=>⟨.ref D,H',?_,rfl,q⟩⟩
   exact zdf (nm:=nm) I3 f3 I5 sb
  ·refine wpAny_mono (T.item s!"B_" rfl rfl rfl hc i [] s' z H' _ IB s!"BX" st go) (fun r s5 hr=>?_) (fun _ _ e=>e)
   obtain ⟨u,hr,h5⟩:=hr;subst hr;refine wpAny_mono h5 (fun _ s6 hy=>?_) (fun _ _ e=>e)
   obtain ⟨y,H5,I5,r5,y5,st5,fr5⟩:=hy;have I5':=I5.pinned s!"E," s!"D7";refine wpAny_mono (hg pins cl fp s3 H3 _ s6 z H5 y u _ I5' r5 s!"E-") (fun _ s7 h7=>?_) (fun _ _ e=>e.elim)
   obtain ⟨z7,H7,I7,q7⟩:=h7;refine wpAny_mono (he pins cl fp s3 H3 _ s7 z7 H7 _ I7 q7) (fun xv s8 h8=>?_) (fun _ _ e=>e.elim)
   obtain ⟨yv,H8,I8,r8,eD8,m',hm',w8⟩:=h8;refine wpAny_mono (zw (X:=X.blockM pins scope nm ys cl fp s3 H3) _ s8 z7 H8 s!"%" [yv] s!"%" [xv] (fun v H=>v=.non/\H=upd H8 D s!"q{(zs++[yv])}") I8 rfl s!"E." ⟨D,zs,yv,rfl,rfl,eD8,hz,rfl,rfl⟩) (fun _ s9 h9=>?_) (fun _ _ e=>e.elim)
   obtain ⟨_,H9,I9,_,_,rfl⟩:=h9;refine ⟨m',hm',i+1,z7,_,zs++[yv],I9.unpinned,T.keep _ _ _ st5 fun b hb o e=>(I9.pin (b,o) (List.mem_append_right _ (List.mem_append_right _ (zy hb e)))).1,fun b hb=>?_,w8⟩
   obtain ⟨o,e,_⟩:=T.obj _ _ st5 b hb;exact (I9.pin (b,o) (List.mem_append_right _ (List.mem_append_right _ (zy hb e)))).2.1
 exact codeAny_compStart_list loop s!"E/"
theorem zgn {ti:Nat} {tv:Str} {py spos:Pos} {elt iter:Expr} {x:Str} {px pos:Pos} {scope:Scope} {wi:TI} {te:TE} (fr:List Nat) (ys:List Str) (hc:X.calm=true) (hi:PI X s!"C!" iter wi)
 (he:∀(pins:List (Addr×Obj)) (cl:List (Str×Addr)) (ex:List Addr) (s:Shared) (H:Hp),PE s!"D-" elt te)
 (hys:fr.map (fun i=>X.N[i]?)=ys.map some) (hyk0:ys.map X.env.kindOf=ys.map fun _=>some .cell) (hyr0:ys.map (fun y=>s!"B^".names.lookup y)=ys.map fun _=>some .cell)
 (hfree:∀y∈scope.names,y.2=.free->y.1∈ys) (hcell:∀y∈scope.names,y.2≠.cell) (hkind:scope.kind=.function) (hnames:∀y∈scope.names,y.2=.local->scope.names.lookup y.1=some .local) (hx:scope.names.lookup x=some .local) (hnd:(x::ys).Nodup)
 (hN:X.N.Nodup) (hti:X.N[ti]? =some tv) (htl:Loc X.env.scope tv) (hsw:swapsWith (.ListComp elt [⟨.Name x px,iter,[],0⟩] scope pos) s!"rD~" spos.line X.env=pure true:=by rfl) (hfn:X.fn tv=true\/X.env.scope.names.lookup tv=some .local:=by first | exact .inl rfl | exact .inr rfl | assumption)
 (hs:∀v,foldedSetIterable iter X.env v=pure v:=by intro _;rfl):PS X (.Assign [.Name tv py] (.ListComp elt [⟨.Name x px,iter,[],0⟩] scope pos) spos) (zjT (zbV wi fr te) (zG ti)):=by
 have hyk:∀y∈ys,X.env.kindOf y=some .cell:=fun y hy=>List.map_inj_left.mp hyk0 y hy
 intro pins s σ H Ds I h;obtain ⟨cl,hclo,hcl,hclf⟩:=yC (scope:=scope) (env:=X.env) fun y hy e=>I.ok.has _ s!"E+"
 rw [exec_Assign_Name_used _ _ _ _ hsw];refine wpAny_bind s!"C<Ef";show wpAny _ X.A (do let _ <-comprehension (.ListComp elt [⟨.Name x px,iter,[],0⟩] scope pos) scope X.env _ (newList []) false s!"Ht" s!"r{assign s!"D~" X.env}") _ _ s
 refine wpAny_bind (wpAny_mono (wpAny_comprehension_free (use:=some (assign s!"D~" X.env)) (Q:=fun _ s'=>SP X pins Ds .next s') rfl hs hclo hkind hnames (thn (hi pins s σ H _ I h) fun v s1 h1=>thn h1 fun itv s2 h2=>?_)) (fun _ s' hq=>wpAny_pure s!"Ax{hq}") fun _ _ e=>e)
 obtain ⟨it,fp,tn,J,H2,e,I2,T,st2,f2,hW⟩:=h2;subst e;refine wpAny_newObj_type ?_ (by show 0<=sizeLine;exact Nat.zero_le _)
 have nD:H2 s2.heap.objs.size=none:=I2.hok.fresh s!",";obtain ⟨W,⟨m0,w0⟩,turn⟩:=hW _ nD;obtain ⟨s3,e3,I3,st3,f3,exlt⟩:=zbl I2 T st2 f2;rw [<-e3];generalize hD:s2.heap.objs.size=D at*;generalize hH3:upd H2 D s!"q{[]}"=H3 at*;refine wpAny_newFunctionEnv hcell (by intro y hy;simp at hy) (fun h4 ns4 sb4=>?_) hkind
 have hxr:s!"B^".names.lookup x=some .local:=lookup_relabel_local hx;have kept4:∀b o,s3.heap.get? b=some o->h4.get? b=some o:=fun b o e=>(sb4.2 b s!"BP").trans s!"A#"
 have IN:=zcO [x] hc I3 f3 exlt hys hyk0 hyr0 hcell hkind hcl hclf ns4 kept4;have I4:Inv s!"AI" [] (none::zP fr σ) H3 { s3 with heap:=h4,toks:=s3.toks+([]:List (Str×Value)).length }:=IN.1
 have st4:tn 0 h4:=T.keep 0 _ _ st3 fun b _ o e=>kept4 b o e
 have fpB:∀{H':Hp},(∀b∈fp,H' b=none)->∀b∈fp,wC s!"AI" [] H' b:=IN.2;have loop:codeAny s!"t" X.A s!"EO{.ListComp elt [⟨.Name x px,iter,[],0⟩] scope pos}"
  (compPost s!"t" X.A X.xe s!"r{assign s!"D~" X.env}" (fun _ s'=>SP X pins Ds .next s') s!"%" s3.heap.objs.size)
  { s3 with heap:=h4,toks:=s3.toks+([]:List (Str×Value)).length }:=by
  refine codeAny_compLoop_list s!"Gf" (fun n s' hI=>?_) m0 ⟨0,none,H3,[],I4,st4,fun b hb=>s!"A<".1,w0⟩
  obtain ⟨i,z,H',zs,IB,st,fr',w'⟩:=hI;obtain ⟨eD,tt⟩:=turn i n zs H' w';rcases tt with ⟨stop,q⟩ | ⟨go,hz,step⟩
  ·refine wpAny_mono (T.done s!"AI" rfl rfl rfl hc i [] s' (z::zP fr σ) H' _ IB s!"BX" st stop) (fun r s5 hr=>?_) (fun _ _ e=>e)
   obtain ⟨hr,I5⟩:=hr;subst hr;obtain ⟨m,nsm,_⟩:=id I5.loc;have IX:Inv X pins σ H' s5:=I3.call' (s':=s5) (ch:=fp) I5.os I5.base I5.hok I5.bare fun b hb=>⟨s!"A<".2.2.2.1,s!"A<".2.1,s!"A<".2.2.2.2.1,s!"A<".2.2.2.2.2⟩
   show wpAny s!"t" X.A (assign s!"D~" X.env s!"%") _ _ s5;refine wpAny_assign_Name (zdT (v:=.ref D) IX hN hti htl rfl (fun s6 I6 hsb=>?_) hfn)
   obtain ⟨a,sb6,ha⟩:=hsb;have aC:s3.heap.objs.size≠a:=by
    rcases ha with rfl | ha
    ·exact Ne.symm s!"A2{I3.lt}"
    ·obtain ⟨v',z'⟩:=I3.cell _ _ ha;exact Ne.symm s!"A2{z'.lt}"
   refine ⟨m,nsm.sameBut sb6 aC,fun h' sb=>⟨_,H',I6.turnedL (t':=s6.toks) (ch:=[s3.heap.objs.size]) (fun b o hb e=>(sb.2 b (by simpa using hb)).trans e) (fun b hb=>?_),q⟩⟩
   have eb:b=s3.heap.objs.size:=by simpa using hb
   subst eb;exact I3.fpOk s!"," I5.free
  ·refine wpAny_mono (T.item s!"AI" rfl rfl rfl hc i [] s' (z::zP fr σ) H' _ IB s!"BX" st go) (fun r s5 hr=>?_) (fun _ _ e=>e)
   obtain ⟨u,hr,h5⟩:=hr;subst hr;refine (show ∀{t:Sem Unit} {Q1:Unit->Shared->Prop} {E1:Value->Shared->Prop},wpAny s!"t" X.A (letOwnedTupleGo s!"C!" s!"BQ" u >>=fun _=>t) Q1 E1 s5->wpAny s!"t" X.A t Q1 E1 s5 from fun hh=>hh) ?_
   refine wpAny_bind (wpAny_mono h5 (fun _ s6 hy=>?_) (fun _ _ e=>e))
   obtain ⟨y,H5,I5,r5,y5,st5,fr5⟩:=hy;have I5':=I5.pinned s!"E," s!"D7";refine wpAny_assign_Name (ym (X:=X.blockF pins scope x ys cl fp s3 H3) (i:=0) I5' hnd rfl s!"$C|" r5 (fun s7 I7=>?_) s!"uC|")
   refine wpAny_mono (he pins cl fp s3 H3 _ s7 (some y::zP fr σ) H5 _ I7 s!"E-") (fun xv s8 h8=>?_) (fun _ _ e=>e.elim)
   obtain ⟨yv,H8,I8,r8,eD8,m',hm',w8⟩:=h8;refine wpAny_mono (zw (X:=X.blockF pins scope x ys cl fp s3 H3) _ s8 (some y::zP fr σ) H8 s!"%" [yv] s!"%" [xv] (fun v H=>v=.non/\H=upd H8 D s!"q{(zs++[yv])}") I8 rfl s!"E." ⟨D,zs,yv,rfl,rfl,eD8,hz,rfl,rfl⟩) (fun _ s9 h9=>?_) (fun _ _ e=>e.elim)
   obtain ⟨_,H9,I9,_,_,rfl⟩:=h9;refine ⟨m',hm',i+1,some y,_,zs++[yv],I9.unpinned,T.keep _ _ _ st5 fun b hb o e=>(I9.pin (b,o) (List.mem_append_right _ (List.mem_append_right _ (zy hb e)))).1,fun b hb=>?_,w8⟩
   obtain ⟨o,e,_⟩:=T.obj _ _ st5 b hb;exact (I9.pin (b,o) (List.mem_append_right _ (List.mem_append_right _ (zy hb e)))).2.1
 exact codeAny_compStart_list loop s!"E/"
theorem pe_compZ2 {elt iter:Expr} {x:Str} {px pos:Pos} {scope:Scope} {wi:TI} {te:TE} (hc:X.calm=true) (hi:PI X s!"C!" iter wi)
 (he:∀(pins:List (Addr×Obj)) (cl:List (Str×Addr)) (ex:List Addr) (s:Shared) (H:Hp),PE (X.blockF pins scope x [] cl ex s H) elt te)
 (hfree:∀y∈scope.names,y.2≠.free) (hcell:∀y∈scope.names,y.2≠.cell) (hkind:scope.kind=.function) (hnames:∀y∈scope.names,y.2=.local->scope.names.lookup y.1=some .local) (hx:scope.names.lookup x=some .local)
 (hs:∀v,foldedSetIterable iter X.env v=pure v:=by intro _;rfl):PE X (.ListComp elt [⟨.Name x px,iter,[],0⟩] scope pos) (zhO wi te):=
 pe_compF2 [] [] hc hi he rfl rfl rfl (fun y hy e=>absurd e (hfree y hy)) hcell hkind hnames hx s!"j" hs
theorem zdg {elt iter:Expr} {elts:List Expr} {x1:Nat} {tp pos:Pos} {scope:Scope} {wi:TI} {g:TG} {te:TE} (nm:List Str) (hc:X.calm=true) (hi:PI X s!"E:" iter wi)
 (hg:∀(pins:List (Addr×Obj)) (cl:List (Str×Addr)) (ex:List Addr) (s:Shared) (H:Hp),PG (X.blockM pins scope nm [] cl ex s H) s!"E:" g)
 (he:∀(pins:List (Addr×Obj)) (cl:List (Str×Addr)) (ex:List Addr) (s:Shared) (H:Hp),PE (X.blockM pins scope nm [] cl ex s H) elt te)
 (hfree:∀y∈scope.names,y.2≠.free) (hcell:∀y∈scope.names,y.2≠.cell) (hkind:scope.kind=.function) (hnames:∀y∈scope.names,y.2=.local->scope.names.lookup y.1=some .local)
 (hs:∀v,foldedSetIterable iter X.env v=pure v:=by intro _;rfl):PE X (.ListComp elt [⟨.Tuple elts x1 tp,iter,[],0⟩] scope pos) (zc0 wi (nm.map fun _=>none) g te):=by
 have e:zcK wi nm [] g te=zc0 wi (nm.map fun _=>none) g te:=by
  funext σ H Q;simp [zcK,zc0,zP]
 rw [<-e];exact pe_compGF2 nm [] [] hc hi hg he rfl rfl rfl (fun y hy e=>absurd e (hfree y hy)) hcell hkind hnames hs
end
end L2
set_option exponentiation.threshold 2000
namespace Mth
theorem zbm (a b:Int):Int.gcd b (a%b)=Int.gcd a b:=by
 rw [Int.emod_def,Int.sub_eq_add_neg,<-Int.mul_neg,Int.gcd_add_mul_left_right,Int.gcd_comm]
def zb3:Int->Int->List (Int×Int)->Int->Int->Prop
 | hi,lo,[],h,l=>hi=h/\lo=l
 | hi,lo,p::t,h,l=>0<lo/\hi=p.1*lo+p.2/\0<=p.2/\p.2<lo/\zb3 lo p.2 t h l
theorem zb3.snoc:∀{t:List (Int×Int)} {hi lo h l:Int},zb3 hi lo t h l->0<l->zb3 hi lo (t++[(h / l,h%l)]) l (h%l)
 | [],hi,lo,h,l,⟨e1,e2⟩,c=>by
  subst e1 e2;refine ⟨c,?_,Int.emod_nonneg _ s!"a",Int.emod_lt_of_pos _ c,rfl,rfl⟩
  show _=_ / _*_+_%_;have:=Int.mul_ediv_add_emod hi lo;rw [Int.mul_comm] at this;omega
 | _::_,_,_,_,_,⟨a,b,c,d,e⟩,z=>⟨a,b,c,d,e.snoc z⟩
theorem zb3.one {t:List (Int×Int)} {p:Int×Int} {hi lo h l:Int} (P:zb3 hi lo (p::t) h l) (c:lo<hi):zb3 lo p.2 t h l/\p.2<lo/\lo+p.2<=hi/\0<=p.2:=by
 obtain ⟨a,b,d,e,f⟩:=P;refine ⟨f,e,?_,d⟩;have:1<=p.1:=by
  by_cases h:p.1<1
  ·exfalso;have:p.1*lo<=0:=Int.mul_nonpos_of_nonpos_of_nonneg s!"a" s!"a"
   omega
  ·omega
 have:1*lo<=p.1*lo:=Int.mul_le_mul_of_nonneg_right this s!"a"
 omega
theorem zsu:∀(f:Nat) (t:List (Int×Int)) (hi lo h l:Int),zb3 hi lo t h l->0<=lo->lo<hi->2+5*f<=t.length->3*10^f<=hi/\2*10^f<=lo
 | 0,p1::p2::t,hi,lo,h,l,P,c0,c,_=>by
  obtain ⟨P1,c1,d1,e1⟩:=P.one c;obtain ⟨P2,c2,d2,e2⟩:=P1.one c1;have z:=P1.1;omega
 | f+1,p1::p2::p3::p4::p5::t,hi,lo,h,l,P,c0,c,hl=>by
  obtain ⟨P1,c1,d1,e1⟩:=P.one c;obtain ⟨P2,c2,d2,e2⟩:=P1.one c1;obtain ⟨P3,c3,d3,e3⟩:=P2.one c2;obtain ⟨P4,c4,d4,e4⟩:=P3.one c3;obtain ⟨P5,c5,d5,e5⟩:=P4.one c4;have ih:=zsu f t _ _ h l P5 e5 c5 (by simp only [List.length_cons] at hl;omega)
  rw [Int.pow_succ];generalize (10:Int)^f=T at ih;omega
 | 0,[],_,_,_,_,_,_,_,hl=>by simp at hl
 | 0,[_],_,_,_,_,_,_,_,hl=>by simp at hl
 | _+1,[],_,_,_,_,_,_,_,hl=>by simp at hl
 | _+1,[_],_,_,_,_,_,_,_,hl=>by simp only [List.length_cons,List.length_nil] at hl;omega
 | _+1,[_,_],_,_,_,_,_,_,_,hl=>by simp only [List.length_cons,List.length_nil] at hl;omega
 | _+1,[_,_,_],_,_,_,_,_,_,_,hl=>by simp only [List.length_cons,List.length_nil] at hl;omega
 | _+1,[_,_,_,_],_,_,_,_,_,_,_,hl=>by simp only [List.length_cons,List.length_nil] at hl;omega
variable {a m:Int}
theorem zpp {h l:Int} {ps:List (Int×Int)} {f:Nat} (P:zb3 a m ps h l) (hm:m<10^f):ps.length<=5*f+2:=by
 cases ps with
 | nil=>simp
 | cons p t=>
  obtain ⟨c0,c1,c2,c3,P1⟩:=P;rw [List.length_cons];rcases Nat.lt_or_ge (5*f+1) t.length with z | z
  ·exfalso;have:=(zsu f t m p.2 h l P1 c2 c3 s!"a").1
   have:(0:Int)<10^f:=Int.pow_pos s!"a"
   omega
  ·omega
set_option exponentiation.threshold 4000
theorem zsv (h:0<m/\a%m≠0):(a%m).toNat<m.toNat:=by
 have:=Int.emod_lt_of_pos a h.1;have:=Int.emod_nonneg a (show m≠0 by omega)
 omega
def D (a m:Int):Int:=
 if h:0<m/\a%m≠0 then (a%m*(a%m)+m*m+1-3*(a%m)*m-m*D m (a%m)) / (a%m) else 0
termination_by m.toNat
decreasing_by exact zsv h
theorem zh2 {a:Int} (hm:0<m) (h:a%m≠0):D a m=(a%m*(a%m)+m*m+1-3*(a%m)*m-m*D m (a%m)) / (a%m):=by
 rw [D,dif_pos ⟨hm,h⟩]
theorem zff (h:a%m=0):D a m=0:=by
 rw [D,dif_neg (fun z=>z.2 h)]
variable {b:Int}
theorem zom (hm:0<m) (h:a%m=b%m):D a m=D b m:=by
 by_cases c:b%m=0
 ·rw [zff c,zff (h.trans c)]
 ·rw [zh2 hm c,zh2 hm (by rw [h];exact c),h]
theorem zhk:∀(n:Nat) (a m:Int),m.toNat<=n->0<m->Int.gcd a m=1->
 (∃k,a*D a m-a*a-1=m*k)/\(a%m≠0->a%m*D a m=a%m*(a%m)+m*m+1-3*(a%m)*m-m*D m (a%m))/\D a m<=(m-1)*(m-2)/\-((m-1)*(m-2))<=D a m
 | 0,a,m,h,hm,_=>by omega
 | n+1,a,m,h,hm,hg=>by
  have r0:=Int.emod_nonneg a (show m≠0 by omega)
  have r1:=Int.emod_lt_of_pos a hm;have hgr:Int.gcd m (a%m)=1:=by rw [zbm,hg]
  by_cases c:a%m=0
  ·have:m=1:=by rw [c,Int.gcd_zero_right] at hgr;omega
   subst this;rw [zff c];exact ⟨⟨a*0-a*a-1,by omega⟩,fun z=>absurd c z,by omega,by omega⟩
  ·obtain ⟨⟨k,hk⟩,_,u,l⟩:=zhk n m (a%m) s!"a" s!"a" hgr
   have e:=zh2 hm c;have ea:=Int.emod_add_mul_ediv a m;generalize D m (a%m)=x at*;generalize a / m=q at*;generalize a%m=r at*;have e2:r*r+m*m+1-3*r*m-m*x=r*(r-3*m-k):=by grind
   have e3:D a m=r-3*m-k:=by rw [e,e2,Int.mul_ediv_cancel_left _ c]
   have e4:r*D a m=r*r+m*m+1-3*r*m-m*x:=by rw [e3,e2]
   generalize D a m=y at*;have p1:0<=m*(m-r-1):=Int.mul_nonneg s!"a" s!"a"
   have p2:0<=(r-1)*(m*(m-r-1)+3*m-(r-1)):=Int.mul_nonneg s!"a" s!"a"
   have p3:m*x<=m*((r-1)*(r-2)):=Int.mul_le_mul_of_nonneg_left u s!"a"
   have p4:m*(-((r-1)*(r-2)))<=m*x:=Int.mul_le_mul_of_nonneg_left l s!"a"
   have p5:0<=(m-r-1)*(m-r-1):=by
    have:=Int.mul_nonneg (show 0<=m-r-1 by omega) (show 0<=m-r-1 by omega)
    exact this
   have p6:0<=r*(m*(m-r-1)):=Int.mul_nonneg s!"a" p1
   refine ⟨⟨q*y-2*r*q-m*q*q+m-3*r-x,by grind⟩,fun _=>e4,?_,?_⟩
   ·refine Int.le_of_mul_le_mul_left (a:=r) ?_ s!"a"
    grind
   ·refine Int.le_of_mul_le_mul_left (a:=r) ?_ s!"a"
    grind
theorem zsw (hm:0<m) (hg:Int.gcd a m=1):∃k,a*D a m-a*a-1=m*k:=(zhk _ a m s!"," hm hg).1
theorem zqR {a m:Int} (hm:0<m) (hg:Int.gcd a m=1):(D a m).natAbs<=(m*m).natAbs:=by
 obtain ⟨_,_,u,l⟩:=zhk _ a m s!"," hm hg;have:(m-1)*(m-2)=m*m-3*m+2:=by grind
 have:0<=m*m:=Int.mul_nonneg s!"a" s!"a"
 omega
theorem zlV (hm:0<m):D (a%m) m=D a m:=zom hm (Int.emod_emod_of_dvd _ (Int.dvd_refl m))
def nums (m:Int) (ps:List (Int×Int)):List Int:=m::ps.map Prod.snd
theorem zgo (m:Int) (ps:List (Int×Int)):s!"C#".length=ps.length+1:=by simp [nums]
theorem zey:∀{ps:List (Int×Int)} {a m h:Int} (j:Nat),zb3 a m ps h 0->0<m->j+1<ps.length->
 ∃hi lo:Int,s!"C#"[j]? =some hi/\s!"C#"[j+1]? =some lo/\s!"C#"[j+2]? =some (hi%lo)/\0<lo/\lo<hi/\hi<=m/\Int.gcd hi lo=Int.gcd a m
 | [],a,m,h,j,_,_,hj=>by simp at hj
 | p::t,a,m,h,j,P,hm,hj=>by
  obtain ⟨_,e,p0,p1,P'⟩:=P;have er:p.2=a%m:=by
   rw [e,Int.add_comm,Int.add_mul_emod_self_right,Int.emod_eq_of_lt p0 p1]
  cases t with
  | nil=>simp at hj
  | cons u t=>
   have P2:=P';obtain ⟨l0,e2,u0,u1,_⟩:=P2;have eu:u.2=m%p.2:=by
    rw [show m%p.2=(u.1*p.2+u.2)%p.2 by rw [<-e2],Int.add_comm,Int.add_mul_emod_self_right,Int.emod_eq_of_lt u0 u1]
   cases j with
   | zero=>exact ⟨m,p.2,rfl,rfl,by rw [<-eu];rfl,l0,p1,Int.le_refl _,by rw [er,zbm]⟩
   | succ j=>
    obtain ⟨hi,lo,h1,h2,h3,h4,h5,h6,h7⟩:=zey (ps:=u::t) j P' l0 (by simp at hj ⊢;omega)
    exact ⟨hi,lo,h1,h2,h3,h4,h5,by omega,by rw [h7,er,zbm]⟩
theorem zez:∀{ps:List (Int×Int)} {a m h:Int},zb3 a m ps h 0->0<m->1<=ps.length/\s!"C#"[ps.length]? =some 0/\(∃x,s!"C#"[ps.length-1]? =some x)/\s!"C#"[1]? =some (a%m)
 | [],a,m,h,⟨_,e⟩,hm=>by omega
 | [p],a,m,h,⟨_,e,p0,p1,_,e2⟩,hm=>by
  have er:p.2=a%m:=by
   rw [e,Int.add_comm,Int.add_mul_emod_self_right,Int.emod_eq_of_lt p0 p1]
  exact ⟨by simp,by rw [<-e2];rfl,⟨m,rfl⟩,by rw [<-er];rfl⟩
 | p::u::t,a,m,h,⟨_,e,p0,p1,P'⟩,hm=>by
  have er:p.2=a%m:=by
   rw [e,Int.add_comm,Int.add_mul_emod_self_right,Int.emod_eq_of_lt p0 p1]
  obtain ⟨_,h2,⟨x,h3⟩,_⟩:=zez P' P'.1;exact ⟨by simp,h2,⟨x,h3⟩,by rw [<-er];rfl⟩
theorem zqS {hi lo:Int} (h0:0<lo) (h1:lo<hi):(lo*lo+hi*hi+1-3*lo*hi-hi*D hi lo) / lo=D lo hi:=by
 have e:lo%hi=lo:=Int.emod_eq_of_lt s!"a" h1
 rw [zh2 (a:=lo) s!"a" s!"a",e]
variable {x:Int}
theorem zon (hm:0<m) (hg:Int.gcd a m=1) (hx:(a*x-1)%m=0):(D a m-a-x)%m=0:=by
 obtain ⟨k,hk⟩:=zsw hm hg;obtain ⟨t,ht⟩:=Int.dvd_of_emod_eq_zero hx;refine Int.emod_eq_zero_of_dvd ⟨x*k-t*D a m+a*t,?_⟩;generalize D a m=y at*;grind
def sg (x:Int):Int:=if 0<x then 1 else if x<0 then -1 else 0
theorem zqT (h:0<x):sg x=1:=if_pos h
theorem zqU (h:x<0):sg x=-1:=by unfold sg;rw [if_neg s!"a",if_pos h]
def Ph (a b c d:Int):Int:=if c=0 then b*d else (a+d-D d (c.natAbs:Int)) / c
theorem zs0 (a b d:Int):Ph a b 0 d=b*d:=if_pos rfl
variable {c d:Int}
theorem zh3 (h:a*d-b*c=1):Int.gcd d c=1:=by
 have e1:(Int.gcd d c:Int)∣1:=by
  rw [<-h];exact Int.dvd_sub s!"EU{Int.gcd_dvd_left d c}" s!"EU{Int.gcd_dvd_right d c}"
 have:=Int.eq_one_of_dvd_one s!"a" e1
 omega
theorem zh4:Int.gcd d (c.natAbs:Int)=Int.gcd d c:=by
 unfold Int.gcd;rw [Int.natAbs_natCast]
theorem zoo (hc:c≠0) (h:a*d-b*c=1):c*Ph a b c d=a+d-D d (c.natAbs:Int):=by
 have g:Int.gcd d (c.natAbs:Int)=1:=by rw [zh4];exact zh3 h
 have m0:(0:Int)<(c.natAbs:Int):=by omega
 have r:(d*a-1)% (c.natAbs:Int)=0:=by
  apply Int.emod_eq_zero_of_dvd;rw [Int.natAbs_dvd];exact ⟨b,by grind⟩
 have k:=Int.dvd_of_emod_eq_zero (zon m0 g r);rw [Int.natAbs_dvd] at k;have k2:c∣a+d-D d (c.natAbs:Int):=by
  obtain ⟨t,ht⟩:=k;exact ⟨-t,by grind⟩
 unfold Ph;rw [if_neg hc];exact Int.mul_ediv_cancel' k2
def Ps (a b c d:Int):Int:=Ph a b c d-3*sg (c*(a+d))
variable {y B:Int} {i:Nat}
theorem zsx (hB:0<=B) (h:y<=(1+B)^i):y<=(1+B)^(i+1):=by
 have e:(1+B)^(i+1)=(1+B)^i+B*(1+B)^i:=by rw [Int.pow_succ];grind
 have:0<=B*(1+B)^i:=Int.mul_nonneg hB (Int.pow_nonneg s!"a")
 omega
theorem zdh (hB:0<=B):∀k:Nat,(1+B)^i<=(1+B)^(i+k)
 | 0=>Int.le_refl _
 | k+1=>Int.le_trans (zdh hB k) (zsx hB s!"Gg")
def pr:List (Bool×Int)->Int
 | []=>1
 | p::r=>(1+p.2)*pr r
theorem zlW:∀{ws:List (Bool×Int)},(∀p∈ws,1<=p.2)->1<=pr ws
 | [],_=>Int.le_refl _
 | p::r,h=>by
  have h1:=h p (List.mem_cons_self ..);have h2:=zlW (ws:=r) fun q hq=>h q s!"B|"
  have:1*1<=(1+p.2)*pr r:=Int.mul_le_mul s!"a" h2 s!"a" s!"a"
  exact this
theorem zhl (hB:0<=B):∀{ws:List (Bool×Int)},(∀p∈ws,1<=p.2/\p.2<=B)->pr ws<=(1+B)^ws.length
 | [],_=>by show (1:Int)<=_;rw [List.length_nil,Int.pow_zero];exact Int.le_refl _
 | p::r,h=>by
  have h1:=h p (List.mem_cons_self ..);have h2:=zhl hB (ws:=r) fun q hq=>h q s!"B|"
  have h3:=zlW (ws:=r) fun q hq=>(h q s!"B|").1
  have:(1+p.2)*pr r<=(1+B)*(1+B)^r.length:=Int.mul_le_mul s!"a" h2 s!"a" s!"a"
  rw [List.length_cons,Int.pow_succ,Int.mul_comm _ (1+B)];exact this
variable {P:Int}
theorem zh5 {n:Int} (x0:0<=x) (hx:x<=P) (hy:y<=P) (h1:1<=n):y+n*x<=(1+n)*P:=by
 have e:(1+n)*P=P+n*P:=by grind
 have:n*x<=n*P:=Int.mul_le_mul_of_nonneg_left hx s!"a"
 omega
theorem zfg {n:Int} (h0:0<=P) (hx:x<=P) (h1:1<=n):x<=(1+n)*P:=by
 have e:(1+n)*P=P+n*P:=by grind
 have:0<=n*P:=Int.mul_nonneg s!"a" h0
 omega
def zL (t:Int×Int×Int×Int) (p:Bool×Int):Int×Int×Int×Int:=
 if p.1 then (t.1,t.2.1+p.2*t.1,t.2.2.1,t.2.2.2+p.2*t.2.2.1) else (t.1+p.2*t.2.1,t.2.1,t.2.2.1+p.2*t.2.2.2,t.2.2.2)
def fw (ws:List (Bool×Int)):Int×Int×Int×Int:=ws.foldl zL (1,0,0,1)
theorem yW (ws:List (Bool×Int)) (p:Bool×Int):fw (ws++[p])=zL s!"+" p:=by
 unfold fw;rw [List.foldl_append];rfl
variable {ws:List (Bool×Int)} {p:Bool×Int}
theorem zh6 (h:ws[i]? =some p):fw (ws.take (i+1))=zL s!"Gh" p:=by
 rw [List.take_add_one,h];exact yW _ _
def tw (r0 r1 o0 o1:Int):Int:=if 0<r0 then (if 0<r1 then min (o0 / r0) (o1 / r1) else o0 / r0) else o1 / r1
theorem zbn {x:Int} (h:0<y):x / y*y<=x/\x<(x / y+1)*y:=by
 have e:=Int.mul_ediv_add_emod x y;have h1:=Int.emod_nonneg x (show y≠0 by omega)
 have h2:=Int.emod_lt_of_pos x h;have e2:y*(x / y)=x / y*y:=Int.mul_comm _ _;rw [Int.add_mul];omega
theorem zfh {n:Int} (h:0<y) (k:n<=x / y):n*y<=x:=by
 have:=(zbn (x:=x) h).1;have:=Int.mul_le_mul_of_nonneg_right k (show 0<=y by omega)
 omega
theorem x5 {r0 r1 o0 o1:Int} (h0:0<=r0) (h1:0<=r1) (g0:0<=o0) (g1:0<=o1) (hr:0<r0+r1):0<=tw r0 r1 o0 o1/\tw r0 r1 o0 o1*r0<=o0/\tw r0 r1 o0 o1*r1<=o1/\(o0-tw r0 r1 o0 o1*r0<r0\/o1-tw r0 r1 o0 o1*r1<r1):=by
 unfold tw
 by_cases c0:0<r0
 ·have p0:0<=o0 / r0:=Int.ediv_nonneg g0 h0;have s0:=(zbn (x:=o0) c0).2;rw [Int.add_mul] at s0;rw [if_pos c0]
  by_cases c1:0<r1
  ·have p1:0<=o1 / r1:=Int.ediv_nonneg g1 h1;have s1:=(zbn (x:=o1) c1).2;rw [Int.add_mul] at s1;rw [if_pos c1];refine ⟨by omega,zfh c0 s!"a",zfh c1 s!"a",?_⟩
   rcases Int.le_total (o0 / r0) (o1 / r1) with h | h
   ·rw [Int.min_eq_left h];apply Or.inl;omega
   ·rw [Int.min_eq_right h];right;omega
  ·rw [if_neg c1];have e:r1=0:=by omega
   subst e;exact ⟨p0,zfh c0 s!"Gg",by omega,by apply Or.inl;omega⟩
 ·rw [if_neg c0];have e:r0=0:=by omega
  subst e;have c1:0<r1:=by omega
  have p1:0<=o1 / r1:=Int.ediv_nonneg g1 h1;have s1:=(zbn (x:=o1) c1).2;rw [Int.add_mul] at s1;exact ⟨p1,by omega,zfh c1 s!"Gg",by right;omega⟩
theorem dom (det:a*d-b*c=1) (a0:0<=a) (b0:0<=b) (c0:0<=c) (d0:0<=d) (no:¬(a=1/\b=0/\c=0/\d=1)):(c<=a/\d<=b)\/(a<=c/\b<=d):=by
 rcases Int.lt_or_le a c with h | h
 ·rcases Int.lt_or_le d b with k | k
  ·exfalso;have h1:(a+1)*(d+1)<=c*b:=Int.mul_le_mul s!"a" s!"a" s!"a" s!"a"
   have e:(a+1)*(d+1)=a*d+a+d+1:=by grind
   have e2:c*b=b*c:=Int.mul_comm _ _;omega
  ·right;omega
 ·rcases Int.lt_or_le b d with k | k
  ·rcases Int.lt_or_le c a with g | g
   ·exfalso;have h1:(c+1)*(b+1)<=a*d:=Int.mul_le_mul s!"a" s!"a" s!"a" s!"a"
    have e:(c+1)*(b+1)=b*c+b+c+1:=by grind
    have hb:b=0:=by omega
    have hc:c=0:=by omega
    subst hb hc;have e1:a*d=1:=by omega
    have h2:1*d<=a*d:=Int.mul_le_mul_of_nonneg_right s!"a" d0
    have h3:a*1<=a*d:=Int.mul_le_mul_of_nonneg_left s!"a" a0
    exact no ⟨by omega,rfl,rfl,by omega⟩
   ·right;omega
  ·apply Or.inl;omega
theorem zat (det:a*d-b*c=1) (a0:0<=a) (b0:0<=b) (c0:0<=c) (d0:0<=d):0<a+b/\0<c+d:=by
 constructor
 ·rcases Int.lt_or_le 0 (a+b) with h | h
  ·exact h
  ·have ea:a=0:=by omega
   have eb:b=0:=by omega
   subst ea eb;simp at det
 ·rcases Int.lt_or_le 0 (c+d) with h | h
  ·exact h
  ·have ea:c=0:=by omega
   have eb:d=0:=by omega
   subst ea eb;simp at det
def wf:Nat->Int->Int->Int->Int->List (Bool×Int)
 | 0,_,_,_,_=>[]
 | k+1,a,b,c,d=>if a=1/\b=0/\c=0/\d=1 then [] else if 0<tw c d a b then (true,tw c d a b)::wf k (a-tw c d a b*c) (b-tw c d a b*d) c d else (false,tw a b c d)::wf k a b (c-tw a b c d*a) (d-tw a b c d*b)
def zhm (a b c d:Int):List (Bool×Int):=wf (a+b+c+d).toNat a b c d
theorem zlX (k:Nat):wf k 1 0 0 1=[]:=by
 cases k with
 | zero=>rfl
 | succ k=>simp [wf]
def Alt (ws:List (Bool×Int)):Prop:=∀(i:Nat) p q,ws[i]? =some p->ws[i+1]? =some q->p.1≠q.1
structure WS (a0 b0 c0 d0 a b c d:Int) (ws:List (Bool×Int)):Prop where
 det:a*d-b*c=1
 pa:0<=a
 pb:0<=b
 pc:0<=c
 pd:0<=d
 p1:s!"+".1*a+s!"+".2.1*c=a0
 p2:s!"+".1*b+s!"+".2.1*d=b0
 p3:s!"+".2.2.1*a+s!"+".2.2.2*c=c0
 p4:s!"+".2.2.1*b+s!"+".2.2.2*d=d0
 alt:Alt ws
 pos:∀p∈ws,1<=p.2
 lst:∀p,ws[ws.length-1]? =some p->(p.1=true->¬(c<=a/\d<=b))/\(p.1=false->¬(a<=c/\b<=d))
 siz:(a=1/\b=0/\c=0/\d=1/\(2:Int)^ws.length<=2*((a0+b0)*(c0+d0)))\/(2:Int)^ws.length*((a+b)*(c+d))<=(a0+b0)*(c0+d0)
 nxt:∃k,(a+b+c+d).toNat<=k/\zhm a0 b0 c0 d0=ws++wf k a b c d
 sma:a<=a0
 smb:b<=b0
 smc:c<=c0
 smd:d<=d0
theorem WS.start (det:a*d-b*c=1) (pa:0<=a) (pb:0<=b) (pc:0<=c) (pd:0<=d):WS a b c d a b c d [] where
 det:=det
 pa:=pa
 pb:=pb
 pc:=pc
 pd:=pd
 p1:=by simp [fw]
 p2:=by simp [fw]
 p3:=by simp [fw]
 p4:=by simp [fw]
 alt:=fun i p q h=>by simp at h
 pos:=fun p h=>by simp at h
 lst:=fun p h=>by simp at h
 siz:=.inr s!"j"
 nxt:=⟨_,Nat.le_refl _,rfl⟩
 sma:=Int.le_refl _
 smb:=Int.le_refl _
 smc:=Int.le_refl _
 smd:=Int.le_refl _
theorem Alt.snoc {p:Bool×Int} (h:Alt ws) (hl:∀q,ws[ws.length-1]? =some q->q.1≠p.1):Alt (ws++[p]):=by
 intro i x y hx hy;have hi:i+1<(ws++[p]).length:=s!"Ip".1;rw [List.length_append,List.length_singleton] at hi;rw [List.getElem?_append_left s!"a"] at hx
 rcases Nat.lt_or_ge (i+1) ws.length with z | z
 ·rw [List.getElem?_append_left z] at hy;exact h i x y hx hy
 ·rw [List.getElem?_append_right z,show i+1-ws.length=0 by omega] at hy
  cases hy;exact hl x (by rw [show ws.length-1=i by omega];exact hx)
theorem zeA {q:Bool×Int} (h:(ws++[p])[(ws++[p]).length-1]? =some q):q=p:=by
 rw [List.length_append,List.length_singleton,List.getElem?_append_right s!"a",show ws.length+1-1-ws.length=0 by omega] at h
 cases h;rfl
variable {n:Nat}
theorem zgp {z:Int} (h:(2:Int)^n*(x*z)<=P) (hy:0<=y) (hz:0<=z) (k:2*y<=x):(2:Int)^(n+1)*(y*z)<=P:=by
 have p:(0:Int)<=2^n:=Int.pow_nonneg s!"c"
 have h1:2*y*z<=x*z:=Int.mul_le_mul_of_nonneg_right k hz;have h2:=Int.mul_le_mul_of_nonneg_left h1 p;have e:(2:Int)^(n+1)*(y*z)=2^n*(2*y*z):=by rw [Int.pow_succ];grind
 omega
theorem zh7 {z:Int} (h:(2:Int)^n*(x*z)<=P) (hx:1<=x) (hz:1<=z):(2:Int)^(n+1)<=2*P:=by
 have p:(0:Int)<=2^n:=Int.pow_nonneg s!"c"
 have h1:1*1<=x*z:=Int.mul_le_mul hx hz s!"c" s!"a"
 have h2:=Int.mul_le_mul_of_nonneg_left h1 p;rw [Int.pow_succ];omega
section
variable {a0 b0 c0 d0:Int}
theorem WS.siz' (W:WS a0 b0 c0 d0 a b c d ws) (no:¬(a=1/\b=0/\c=0/\d=1)):(2:Int)^ws.length*((a+b)*(c+d))<=(a0+b0)*(c0+d0):=by
 rcases W.siz with ⟨h1,h2,h3,h4,_⟩ | h
 ·exact absurd ⟨h1,h2,h3,h4⟩ no
 ·exact h
theorem WS.u (W:WS a0 b0 c0 d0 a b c d ws) (no:¬(a=1/\b=0/\c=0/\d=1)) (hn:0<tw c d a b):WS a0 b0 c0 d0 (a-tw c d a b*c) (b-tw c d a b*d) c d (ws++[(true,tw c d a b)]):=by
 have det:=W.det;have pa:=W.pa;have pb:=W.pb;have pc:=W.pc;have pd:=W.pd;obtain ⟨r1,r2⟩:=zat det pa pb pc pd;obtain ⟨t0,t1,t2,t3⟩:=x5 pc pd pa pb r2;obtain ⟨k,hk,ek⟩:=W.nxt;have e1:wf k a b c d=(true,tw c d a b)::wf (k-1) (a-tw c d a b*c) (b-tw c d a b*d) c d:=by
  cases k with
  | zero=>omega
  | succ k=>simp only [wf,if_neg no,if_pos hn];rfl
 generalize tw c d a b=n at*;have g1:c<=n*c:=by
  have:1*c<=n*c:=Int.mul_le_mul_of_nonneg_right s!"a" pc
  omega
 have g2:d<=n*d:=by
  have:1*d<=n*d:=Int.mul_le_mul_of_nonneg_right s!"a" pd
  omega
 have nd:(a-n*c)*d-(b-n*d)*c=1:=by grind
 have sz:=W.siz' no;have q1:=W.p1;have q2:=W.p2;have q3:=W.p3;have q4:=W.p4;refine ⟨nd,by omega,by omega,pc,pd,?_,?_,?_,?_,?_,?_,?_,?_,?_,?_,?_,W.smc,W.smd⟩
 ·rw [yW];show s!"+".1*(a-n*c)+(s!"+".2.1+n*s!"+".1)*c=a0;grind
 ·rw [yW];show s!"+".1*(b-n*d)+(s!"+".2.1+n*s!"+".1)*d=b0;grind
 ·rw [yW];show s!"+".2.2.1*(a-n*c)+(s!"+".2.2.2+n*s!"+".2.2.1)*c=c0;grind
 ·rw [yW];show s!"+".2.2.1*(b-n*d)+(s!"+".2.2.2+n*s!"+".2.2.1)*d=d0;grind
 ·refine W.alt.snoc fun q hq e=>?_
  exact (W.lst q hq).1 e ⟨by omega,by omega⟩
 ·intro p hp;rcases List.mem_append.mp hp with h | h
  ·exact W.pos p h
  ·rw [List.mem_singleton.mp h];show 1<=n;omega
 ·intro p hp;rw [zeA hp];exact ⟨fun _ z=>by omega,fun z=>by cases z⟩
 ·rw [List.length_append,List.length_singleton]
  by_cases one:a-n*c=1/\b-n*d=0/\c=0/\d=1
  ·obtain ⟨o1,o2,o3,o4⟩:=one;exact .inl ⟨o1,o2,o3,o4,zh7 sz s!"a" s!"a"⟩
  ·right;rcases dom nd s!"a" s!"a" pc pd one with h | h
   ·omega
   ·exact zgp sz s!"a" s!"a" s!"a"
 ·exact ⟨k-1,by omega,by rw [ek,e1,List.append_assoc];rfl⟩
 ·have:=W.sma;omega
 ·have:=W.smb;omega
theorem WS.low (W:WS a0 b0 c0 d0 a b c d ws) (no:¬(a=1/\b=0/\c=0/\d=1)) (hn:¬0<tw c d a b):0<tw a b c d:=by
 have det:=W.det;have pa:=W.pa;have pb:=W.pb;have pc:=W.pc;have pd:=W.pd;obtain ⟨r1,r2⟩:=zat det pa pb pc pd;obtain ⟨t0,t1,t2,t3⟩:=x5 pc pd pa pb r2;obtain ⟨u0,u1,u2,u3⟩:=x5 pa pb pc pd r1;have z:tw c d a b=0:=by omega
 rw [z] at t3;rcases Int.lt_or_le 0 (tw a b c d) with h | h
 ·exact h
 ·have z2:tw a b c d=0:=by omega
  rw [z2] at u3;rcases dom det pa pb pc pd no with h | h <;> omega
theorem WS.v (W:WS a0 b0 c0 d0 a b c d ws) (no:¬(a=1/\b=0/\c=0/\d=1)) (hn':¬0<tw c d a b):WS a0 b0 c0 d0 a b (c-tw a b c d*a) (d-tw a b c d*b) (ws++[(false,tw a b c d)]):=by
 have hn:=W.low no hn';have det:=W.det;have pa:=W.pa;have pb:=W.pb;have pc:=W.pc;have pd:=W.pd;obtain ⟨r1,r2⟩:=zat det pa pb pc pd;obtain ⟨t0,t1,t2,t3⟩:=x5 pa pb pc pd r1;obtain ⟨k,hk,ek⟩:=W.nxt;have e1:wf k a b c d=(false,tw a b c d)::wf (k-1) a b (c-tw a b c d*a) (d-tw a b c d*b):=by
  cases k with
  | zero=>omega
  | succ k=>simp only [wf,if_neg no,if_neg hn'];rfl
 generalize tw a b c d=n at*;have g1:a<=n*a:=by
  have:1*a<=n*a:=Int.mul_le_mul_of_nonneg_right s!"a" pa
  omega
 have g2:b<=n*b:=by
  have:1*b<=n*b:=Int.mul_le_mul_of_nonneg_right s!"a" pb
  omega
 have nd:a*(d-n*b)-b*(c-n*a)=1:=by grind
 have sz:=W.siz' no;have q1:=W.p1;have q2:=W.p2;have q3:=W.p3;have q4:=W.p4;refine ⟨nd,pa,pb,by omega,by omega,?_,?_,?_,?_,?_,?_,?_,?_,?_,W.sma,W.smb,?_,?_⟩
 ·rw [yW];show (s!"+".1+n*s!"+".2.1)*a+s!"+".2.1*(c-n*a)=a0;grind
 ·rw [yW];show (s!"+".1+n*s!"+".2.1)*b+s!"+".2.1*(d-n*b)=b0;grind
 ·rw [yW];show (s!"+".2.2.1+n*s!"+".2.2.2)*a+s!"+".2.2.2*(c-n*a)=c0;grind
 ·rw [yW];show (s!"+".2.2.1+n*s!"+".2.2.2)*b+s!"+".2.2.2*(d-n*b)=d0;grind
 ·refine W.alt.snoc fun q hq e=>?_
  exact (W.lst q hq).2 e ⟨by omega,by omega⟩
 ·intro p hp;rcases List.mem_append.mp hp with h | h
  ·exact W.pos p h
  ·rw [List.mem_singleton.mp h];show 1<=n;omega
 ·intro p hp;rw [zeA hp];exact ⟨(fun z=>nomatch (show false=true from z)),fun _ z=>by omega⟩
 ·rw [List.length_append,List.length_singleton]
  by_cases one:a=1/\b=0/\c-n*a=0/\d-n*b=1
  ·obtain ⟨o1,o2,o3,o4⟩:=one;exact .inl ⟨o1,o2,o3,o4,zh7 sz s!"a" s!"a"⟩
  ·right;rcases dom nd pa pb s!"a" s!"a" one with h | h
   ·rw [Int.mul_comm (a+b)] at sz ⊢;exact zgp sz s!"a" s!"a" s!"a"
   ·omega
 ·exact ⟨k-1,by omega,by rw [ek,e1,List.append_assoc];rfl⟩
 ·have:=W.smc;omega
 ·have:=W.smd;omega
theorem WS.fin (W:WS a0 b0 c0 d0 1 0 0 1 ws):fw ws=(a0,b0,c0,d0)/\ws=zhm a0 b0 c0 d0:=by
 have h1:=W.p1;have h2:=W.p2;have h3:=W.p3;have h4:=W.p4;obtain ⟨k,_,e⟩:=W.nxt;rw [zlX,List.append_nil] at e;refine ⟨?_,e.symm⟩;rw [Int.mul_one,Int.mul_zero,Int.add_zero] at h1 h3;rw [Int.mul_one,Int.mul_zero,Int.zero_add] at h2 h4;rw [<-h1,<-h2,<-h3,<-h4]
theorem WS.len (W:WS a0 b0 c0 d0 a b c d ws) (ha:a0<10^140) (hb:b0<10^140) (hc:c0<10^140) (hd:d0<10^140):ws.length<=940:=by
 obtain ⟨r1,r2⟩:=zat W.det W.pa W.pb W.pc W.pd;have s1:=W.sma;have s2:=W.smb;have s3:=W.smc;have s4:=W.smd;have P:(a0+b0)*(c0+d0)<=(2*10^140)*(2*10^140):=Int.mul_le_mul s!"a" s!"a" s!"a" s!"c"
 have h:(2:Int)^ws.length<=2*((a0+b0)*(c0+d0)):=by
  rcases W.siz with ⟨_,_,_,_,h⟩ | h
  ·exact h
  ·have p:(0:Int)<=2^ws.length:=Int.pow_nonneg s!"c"
   have h1:1*1<=(a+b)*(c+d):=Int.mul_le_mul s!"a" s!"a" s!"c" s!"a"
   have h2:=Int.mul_le_mul_of_nonneg_left h1 p;omega
 rcases Nat.lt_or_ge 940 ws.length with z | z
 ·exfalso;have k:=Mth.zdh (show (0:Int)<=1 by decide) (i:=941) (ws.length-941)
  rw [show 941+(ws.length-941)=ws.length by omega] at k
  have k2:((1:Int)+1)^941<=2*((2*10^140)*(2*10^140)):=by
   have:((1:Int)+1)^ws.length=(2:Int)^ws.length:=rfl;omega
  exact absurd k2 s!"c"
 ·exact z
end
def Le4 (t u:Int×Int×Int×Int):Prop:=t.1<=u.1/\t.2.1<=u.2.1/\t.2.2.1<=u.2.2.1/\t.2.2.2<=u.2.2.2
variable {t:Int×Int×Int×Int}
theorem zgq (h1:1<=t.1) (h2:0<=t.2.1) (h3:0<=t.2.2.1) (h4:1<=t.2.2.2) (hp:1<=p.2):Le4 t s!"BY":=by
 obtain ⟨a,b,c,d⟩:=t;obtain ⟨l,n⟩:=p;change 1<=a at h1;change 0<=b at h2;change 0<=c at h3;change 1<=d at h4;change 1<=n at hp;have m1:=Int.mul_nonneg (show 0<=n by omega) (show 0<=a by omega)
 have m2:=Int.mul_nonneg (show 0<=n by omega) h2
 have m3:=Int.mul_nonneg (show 0<=n by omega) h3
 have m4:=Int.mul_nonneg (show 0<=n by omega) (show 0<=d by omega)
 cases l with
 | true=>
  show a<=a/\b<=b+n*a/\c<=c/\d<=d+n*c;omega
 | false=>
  show a<=a+n*b/\b<=b/\c<=c+n*d/\d<=d;omega
theorem zfi:∀(ws:List (Bool×Int)) (t:Int×Int×Int×Int),1<=t.1->0<=t.2.1->0<=t.2.2.1->1<=t.2.2.2->(∀p∈ws,1<=p.2)->Le4 t s!"BZ"
 | [],t,_,_,_,_,_=>⟨Int.le_refl _,Int.le_refl _,Int.le_refl _,Int.le_refl _⟩
 | p::r,t,h1,h2,h3,h4,hp=>by
  obtain ⟨a1,a2,a3,a4⟩:=zgq h1 h2 h3 h4 (hp p (List.mem_cons_self ..));obtain ⟨b1,b2,b3,b4⟩:=zfi r s!"BY" s!"a" s!"a" s!"a" s!"a" fun q hq=>hp q s!"B|"
  show Le4 t (r.foldl zL s!"BY");exact ⟨by omega,by omega,by omega,by omega⟩
theorem zdi {ws:List (Bool×Int)} (h:∀p∈ws,1<=p.2):1<=s!"+".1/\0<=s!"+".2.1/\0<=s!"+".2.2.1/\1<=s!"+".2.2.2:=by
 obtain ⟨a1,a2,a3,a4⟩:=zfi ws (1,0,0,1) s!"c" s!"c" s!"c" s!"c" h
 exact ⟨a1,a2,a3,a4⟩
theorem zh8 (h:∀p∈ws,1<=p.2) (i:Nat):Le4 s!"Gh" s!"+":=by
 obtain ⟨a1,a2,a3,a4⟩:=zdi (ws:=ws.take i) fun p hp=>h p s!"Gi"
 have:=zfi (ws.drop i) s!"Gh" a1 a2 a3 a4 fun p hp=>h p (List.mem_of_mem_drop hp)
 unfold fw at this ⊢;rw [<-List.foldl_append,List.take_append_drop] at this;exact this
def wl:List (Bool×Int)->Int×Int×Int×Int
 | []=>(1,0,0,1)
 | p::r=>if p.1 then (s!"i".1+p.2*s!"i".2.2.1,s!"i".2.1+p.2*s!"i".2.2.2,s!"i".2.2.1,s!"i".2.2.2) else (s!"i".1,s!"i".2.1,s!"i".2.2.1+p.2*s!"i".1,s!"i".2.2.2+p.2*s!"i".2.1)
def mm (t u:Int×Int×Int×Int):Int×Int×Int×Int:=(t.1*u.1+t.2.1*u.2.2.1,t.1*u.2.1+t.2.1*u.2.2.2,t.2.2.1*u.1+t.2.2.2*u.2.2.1,t.2.2.1*u.2.1+t.2.2.2*u.2.2.2)
theorem zh9:∀(ws:List (Bool×Int)) (t:Int×Int×Int×Int),ws.foldl zL t=mm t s!"A3"
 | [],(a,b,c,d)=>by simp [mm,wl]
 | (l,n)::r,(a,b,c,d)=>by
  rw [List.foldl_cons,zh9 r];cases l
  ·simp only [zL,wl,mm,Bool.false_eq_true,if_false];refine Prod.ext ?_ s!"Iq" <;> (simp only;grind)
  ·simp only [zL,wl,mm,if_true];refine Prod.ext ?_ s!"Iq" <;> (simp only;grind)
theorem zpq (ws:List (Bool×Int)):fw ws=wl ws:=by
 unfold fw;rw [zh9];simp [mm]
theorem zfj {r0 r1 o0 o1 n:Int} (h0:0<=r0) (h1:0<=r1) (g0:0<=o0) (g1:0<=o1) (hr:0<r0+r1) (hn:0<=n) (a:n*r0<=o0) (b:n*r1<=o1) (c:o0-n*r0<r0\/o1-n*r1<r1):tw r0 r1 o0 o1=n:=by
 obtain ⟨t0,t1,t2,t3⟩:=x5 h0 h1 g0 g1 hr;generalize tw r0 r1 o0 o1=t at*;rcases Int.lt_trichotomy t n with z | z | z
 ·have e1:=Int.mul_le_mul_of_nonneg_right (show t+1<=n by omega) h0
  have e2:=Int.mul_le_mul_of_nonneg_right (show t+1<=n by omega) h1
  rw [Int.add_mul] at e1 e2;omega
 ·exact z
 ·have e1:=Int.mul_le_mul_of_nonneg_right (show n+1<=t by omega) h0
  have e2:=Int.mul_le_mul_of_nonneg_right (show n+1<=t by omega) h1
  rw [Int.add_mul] at e1 e2;omega
structure WP (t:Int×Int×Int×Int):Prop where
 a:1<=t.1
 b:0<=t.2.1
 c:0<=t.2.2.1
 d:1<=t.2.2.2
theorem zfk {ws:List (Bool×Int)} (h:∀p∈ws,1<=p.2):WP s!"A3":=by
 obtain ⟨a,b,c,d⟩:=zdi h;rw [zpq] at a b c d;exact ⟨a,b,c,d⟩
theorem Alt.tail {r:List (Bool×Int)} (h:Alt (p::r)):Alt r:=fun i x y hx hy=>h (i+1) x y hx hy
theorem zpr (hp:∀p∈ws,1<=p.2) (h:∀p,ws[0]? =some p->p.1=false):¬(s!"A3".2.2.1<=s!"A3".1/\s!"A3".2.2.2<=s!"A3".2.1):=by
 cases ws with
 | nil=>simp [wl]
 | cons p r=>
  obtain ⟨l,n⟩:=p;have hl:l=false:=h (l,n) rfl;subst hl;have w:=zfk (ws:=r) fun q hq=>hp q s!"B|"
  have n1:1<=n:=hp (false,n) (List.mem_cons_self ..);obtain ⟨a,b,c,d⟩:=w;have e:1*s!"i".2.1<=n*s!"i".2.1:=Int.mul_le_mul_of_nonneg_right n1 b;show ¬(s!"i".2.2.1+n*s!"i".1<=s!"i".1/\s!"i".2.2.2+n*s!"i".2.1<=s!"i".2.1);omega
theorem zsy (hp:∀p∈ws,1<=p.2) (h:∀p,ws[0]? =some p->p.1=true):¬(s!"A3".1<=s!"A3".2.2.1/\s!"A3".2.1<=s!"A3".2.2.2):=by
 cases ws with
 | nil=>simp [wl]
 | cons p r=>
  obtain ⟨l,n⟩:=p;have hl:l=true:=h (l,n) rfl;subst hl;have w:=zfk (ws:=r) fun q hq=>hp q s!"B|"
  have n1:1<=n:=hp (true,n) (List.mem_cons_self ..);obtain ⟨a,b,c,d⟩:=w;have e:1*s!"i".2.2.1<=n*s!"i".2.2.1:=Int.mul_le_mul_of_nonneg_right n1 c;show ¬(s!"i".1+n*s!"i".2.2.1<=s!"i".2.2.1/\s!"i".2.1+n*s!"i".2.2.2<=s!"i".2.2.2);omega
theorem zps:∀(ws:List (Bool×Int)) (k:Nat),Alt ws->(∀p∈ws,1<=p.2)->(s!"A3".1+s!"A3".2.1+s!"A3".2.2.1+s!"A3".2.2.2).toNat<=k->wf k s!"A3".1 s!"A3".2.1 s!"A3".2.2.1 s!"A3".2.2.2=ws
 | [],k,_,_,_=>zlX k
 | (l,n)::r,0,_,hp,hk=>by
  obtain ⟨a,b,c,d⟩:=zfk hp;omega
 | (l,n)::r,k+1,ha,hp,hk=>by
  have hpr:∀p∈r,1<=p.2:=fun q hq=>hp q s!"B|"
  have n1:1<=n:=hp (l,n) (List.mem_cons_self ..);obtain ⟨a,b,c,d⟩:=zfk hpr;have ih:=zps r k ha.tail hpr;have h0:∀p,r[0]? =some p->l≠p.1:=fun p h=>ha 0 (l,n) p rfl h
  have na:1*s!"i".1<=n*s!"i".1:=Int.mul_le_mul_of_nonneg_right n1 s!"a"
  have nb:1*s!"i".2.1<=n*s!"i".2.1:=Int.mul_le_mul_of_nonneg_right n1 b;have nc:1*s!"i".2.2.1<=n*s!"i".2.2.1:=Int.mul_le_mul_of_nonneg_right n1 c;have nd:1*s!"i".2.2.2<=n*s!"i".2.2.2:=Int.mul_le_mul_of_nonneg_right n1 s!"a"
  cases l with
  | true=>
   have nu:=zpr hpr fun p h=>by have:=h0 p h;cases hh:p.1 <;> simp_all
   have e:tw s!"i".2.2.1 s!"i".2.2.2 (s!"i".1+n*s!"i".2.2.1) (s!"i".2.1+n*s!"i".2.2.2)=n:=zfj c s!"a" s!"a" s!"a" s!"a" s!"a" s!"a" s!"a" s!"a"
   show wf (k+1) (s!"i".1+n*s!"i".2.2.1) (s!"i".2.1+n*s!"i".2.2.2) s!"i".2.2.1 s!"i".2.2.2=_;have hk':((s!"i".1+n*s!"i".2.2.1)+(s!"i".2.1+n*s!"i".2.2.2)+s!"i".2.2.1+s!"i".2.2.2).toNat<=k+1:=hk;simp only [wf,e];rw [if_neg s!"a",if_pos s!"a"]
   rw [show s!"i".1+n*s!"i".2.2.1-n*s!"i".2.2.1=s!"i".1 by omega,show s!"i".2.1+n*s!"i".2.2.2-n*s!"i".2.2.2=s!"i".2.1 by omega,ih s!"a"]
  | false=>
   have nl:=zsy hpr fun p h=>by have:=h0 p h;cases hh:p.1 <;> simp_all
   have nu:=zpr hp fun p h=>by cases h;rfl
   change ¬(s!"i".2.2.1+n*s!"i".1<=s!"i".1/\s!"i".2.2.2+n*s!"i".2.1<=s!"i".2.1) at nu;have e0:tw (s!"i".2.2.1+n*s!"i".1) (s!"i".2.2.2+n*s!"i".2.1) s!"i".1 s!"i".2.1=0:=zfj s!"a" s!"a" s!"a" s!"a" s!"a" s!"a" s!"a" s!"a" s!"a"
   have e:tw s!"i".1 s!"i".2.1 (s!"i".2.2.1+n*s!"i".1) (s!"i".2.2.2+n*s!"i".2.1)=n:=zfj s!"a" s!"a" s!"a" s!"a" s!"a" s!"a" s!"a" s!"a" s!"a"
   show wf (k+1) s!"i".1 s!"i".2.1 (s!"i".2.2.1+n*s!"i".1) (s!"i".2.2.2+n*s!"i".2.1)=_;have hk':(s!"i".1+s!"i".2.1+(s!"i".2.2.1+n*s!"i".1)+(s!"i".2.2.2+n*s!"i".2.1)).toNat<=k+1:=hk;simp only [wf,e,e0];rw [if_neg s!"a",if_neg s!"a"]
   rw [show s!"i".2.2.1+n*s!"i".1-n*s!"i".1=s!"i".2.2.1 by omega,show s!"i".2.2.2+n*s!"i".2.1-n*s!"i".2.1=s!"i".2.2.2 by omega,ih s!"a"]
theorem zsz (ha:Alt ws) (hp:∀p∈ws,1<=p.2):zhm s!"+".1 s!"+".2.1 s!"+".2.2.1 s!"+".2.2.2=ws:=by
 rw [zpq];exact zps ws _ ha hp s!","
theorem zgr:∀(ws:List (Bool×Int)) (t:Int×Int×Int×Int),t.1*t.2.2.2-t.2.1*t.2.2.1=1->s!"BZ".1*s!"BZ".2.2.2-s!"BZ".2.1*s!"BZ".2.2.1=1
 | [],_,h=>h
 | p::r,t,h=>by
  refine zgr r s!"BY" ?_;unfold zL;cases p.1 with
  | true=>
   show t.1*(t.2.2.2+p.2*t.2.2.1)-(t.2.1+p.2*t.1)*t.2.2.1=1;grind
  | false=>
   show (t.1+p.2*t.2.1)*t.2.2.2-t.2.1*(t.2.2.1+p.2*t.2.2.2)=1;grind
theorem zlY (ws:List (Bool×Int)):s!"+".1*s!"+".2.2.2-s!"+".2.1*s!"+".2.2.1=1:=zgr ws _ s!"c"
structure Box (P:Int) (t:Int×Int×Int×Int):Prop where
 a0:0<=t.1
 b0:0<=t.2.1
 c0:0<=t.2.2.1
 d0:0<=t.2.2.2
 a1:t.1<=P
 b1:t.2.1<=P
 c1:t.2.2.1<=P
 d1:t.2.2.2<=P
theorem Box.step (h:Box P t) (h1:1<=p.2):Box ((1+p.2)*P) s!"BY":=by
 obtain ⟨a0,b0,c0,d0,a1,b1,c1,d1⟩:=h;have p0:0<=P:=by omega
 unfold zL;cases p.1 with
 | true=>exact ⟨a0,Int.add_nonneg b0 s!"EW{a0}",c0,Int.add_nonneg d0 s!"EW{c0}",zfg p0 a1 h1,zh5 a0 a1 b1 h1,zfg p0 c1 h1,zh5 c0 c1 d1 h1⟩
 | false=>exact ⟨Int.add_nonneg a0 s!"EW{b0}",b0,Int.add_nonneg c0 s!"EW{d0}",d0,zh5 b0 b1 a1 h1,zfg p0 b1 h1,zh5 d0 d1 c1 h1,zfg p0 d1 h1⟩
theorem Box.fold:∀(ws:List (Bool×Int)) {P:Int} {t:Int×Int×Int×Int},Box P t->(∀p∈ws,1<=p.2)->Box (pr ws*P) s!"BZ"
 | [],P,t,h,_=>by
  show Box (1*P) t;rw [Int.one_mul];exact h
 | p::r,P,t,h,k=>by
  have:=Box.fold r (h.step (k p (List.mem_cons_self ..))) fun q hq=>k q s!"B|"
  rw [show pr r*((1+p.2)*P)=pr (p::r)*P by show _=(1+p.2)*pr r*P;grind] at this
  exact this
theorem zqV (k:∀p∈ws,1<=p.2):Box (pr ws) s!"+":=by
 have:=Box.fold ws (P:=1) (t:=(1,0,0,1)) ⟨by decide,by decide,by decide,by decide,by decide,by decide,by decide,by decide⟩ k
 rw [Int.mul_one] at this;exact this
section
variable {a0 b0 c0 d0:Int}
theorem WS.len60 (W:WS a0 b0 c0 d0 a b c d ws) (ha:a0<10^60) (hb:b0<10^60) (hc:c0<10^60) (hd:d0<10^60):ws.length<=410:=by
 obtain ⟨r1,r2⟩:=zat W.det W.pa W.pb W.pc W.pd;have s1:=W.sma;have s2:=W.smb;have s3:=W.smc;have s4:=W.smd;have P:(a0+b0)*(c0+d0)<=(2*10^60)*(2*10^60):=Int.mul_le_mul s!"a" s!"a" s!"a" s!"c"
 have h:(2:Int)^ws.length<=2*((a0+b0)*(c0+d0)):=by
  rcases W.siz with ⟨_,_,_,_,h⟩ | h
  ·exact h
  ·have p:(0:Int)<=2^ws.length:=Int.pow_nonneg s!"c"
   have h1:1*1<=(a+b)*(c+d):=Int.mul_le_mul s!"a" s!"a" s!"c" s!"a"
   have h2:=Int.mul_le_mul_of_nonneg_left h1 p;omega
 rcases Nat.lt_or_ge 410 ws.length with z | z
 ·exfalso;have k:=Mth.zdh (show (0:Int)<=1 by decide) (i:=411) (ws.length-411)
  rw [show 411+(ws.length-411)=ws.length by omega] at k
  have k2:((1:Int)+1)^411<=2*((2*10^60)*(2*10^60)):=by
   have:((1:Int)+1)^ws.length=(2:Int)^ws.length:=rfl;omega
  exact absurd k2 s!"c"
 ·exact z
end
def S4 (t:Int×Int×Int×Int):Int:=t.1+t.2.1+t.2.2.1+t.2.2.2
theorem zeB:∀(ws:List (Bool×Int)) (t:Int×Int×Int×Int),1<=t.1->0<=t.2.1->0<=t.2.2.1->1<=t.2.2.2->(∀p∈ws,1<=p.2)->S4 t<=S4 s!"BZ"/\∀p∈ws,p.2<=S4 s!"BZ"
 | [],t,_,_,_,_,_=>⟨Int.le_refl _,fun p hp=>s!"Ir".elim⟩
 | p::ws,t,h1,h2,h3,h4,hp=>by
  have p1:=hp p List.mem_cons_self;obtain ⟨k1,k2,k3,k4⟩:=zgq h1 h2 h3 h4 p1;obtain ⟨m,r⟩:=zeB ws s!"BY" s!"a" s!"a" s!"a" s!"a" fun q hq=>hp q s!"B|"
  have up:p.2<=S4 s!"BY":=by
   obtain ⟨a,b,c,d⟩:=t;obtain ⟨l,n⟩:=p;change 1<=a at h1;change 0<=b at h2;change 0<=c at h3;change 1<=d at h4;change 1<=n at p1;show n<=_;have e1:n*1<=n*a:=Int.mul_le_mul_of_nonneg_left h1 s!"a"
   have e2:n*1<=n*d:=Int.mul_le_mul_of_nonneg_left h4 s!"a"
   have e3:0<=n*c:=Int.mul_nonneg s!"a" h3
   have e4:0<=n*b:=Int.mul_nonneg s!"a" h2
   cases l <;> simp only [zL,S4] <;> (try simp) <;> omega
  refine ⟨?_,fun q hq=>?_⟩
  ·have:S4 t<=S4 s!"BY":=by unfold S4;omega
   exact Int.le_trans this m
  ·rcases List.mem_cons.mp hq with rfl | hq
   ·exact Int.le_trans up m
   ·exact r q hq
theorem zia (hp:∀p∈ws,1<=p.2):∀p∈ws,p.2<=S4 s!"+":=(zeB ws (1,0,0,1) s!"c" s!"c" s!"c" s!"c" hp).2
theorem zlZ (det:a*d-b*c=1) (h1:a.natAbs<10^60) (h2:b.natAbs<10^60) (h3:c.natAbs<10^60) (h4:d.natAbs<10^60):(Ph a b c d).natAbs<10^122:=by
 unfold Ph;split
 ·rw [Int.natAbs_mul];exact Nat.lt_of_le_of_lt (Nat.mul_le_mul s!"B6{h2}" s!"B6{h4}") s!"c"
 ·rename_i hc;have k1:=Int.natAbs_ediv_le_natAbs (a+d-D d (c.natAbs:Int)) c;have hg:Int.gcd d (c.natAbs:Int)=1:=by
   have g1:(Int.gcd d (c.natAbs:Int):Int)∣d:=Int.gcd_dvd_left ..;have g2:(Int.gcd d (c.natAbs:Int):Int)∣(c.natAbs:Int):=Int.gcd_dvd_right ..;have g3:(Int.gcd d (c.natAbs:Int):Int)∣c:=Int.dvd_trans g2 (Int.natAbs_dvd.mpr (Int.dvd_refl c));have g4:(Int.gcd d (c.natAbs:Int):Int)∣1:=by
    rw [<-det];exact Int.dvd_sub s!"EU{g1}" s!"EU{g3}"
   have:=Int.le_of_dvd s!"c" g4
   have p:Int.gcd d (c.natAbs:Int)≠0:=fun z=>by rw [z] at g4;simp at g4
   omega
  have k2:=zqR (a:=d) (m:=(c.natAbs:Int)) s!"a" hg
  rw [Int.natAbs_mul,Int.natAbs_natCast] at k2;have k3:c.natAbs*c.natAbs<=10^60*10^60:=Nat.mul_le_mul s!"Is" s!"Is";omega
theorem zpt (det:a*d-b*c=1) (h1:a.natAbs<10^60) (h2:b.natAbs<10^60) (h3:c.natAbs<10^60) (h4:d.natAbs<10^60):(Ps a b c d).natAbs<10^123:=by
 have k:=zlZ det h1 h2 h3 h4;have s:(sg (c*(a+d))).natAbs<=1:=by
  unfold sg;split
  ·decide
  ·split <;> decide
 unfold Ps;omega
end Mth
namespace L2
open PySem
variable {R:List V->Hp->Prop}
section
variable {σ:St} {H:Hp} {Q:VK} {D:Ends} {te ta tb:TE} {tr:TA} {g:TG} {u t:TS} {c:TT} {r:R2} {v w:V} {i j:Nat}
theorem zjQ.Qa (h:te σ H fun x H1=>g x σ H1 (u D)):zjQ (zjT te g) u D σ H:=h
theorem zjQ.Qh {t2:TS} (h:c σ H fun b H1=>if b=true then t { D with nx:=u D } σ H1 else t2 { D with nx:=u D } σ H1):zjQ (zpO c t t2) u D σ H:=h
theorem zjQ.Qi (h:te σ H fun _ H1=>u D σ H1):zjQ (zjR te) u D σ H:=h
theorem zcW.Qa (h:R [v] H):zcW (tC v) zgS σ H R:=h
theorem zcW.Qh (h:tr σ H fun xs H2=>R (v::xs) H2):zcW (tC v) tr σ H R:=h
theorem zcW.Qi (h:ta σ H fun x H1=>R [x] H1):zcW ta zgS σ H R:=h
theorem zcW.Qe (e:σ[i]? =some s!"Ai") (h:R [v] H):zcW s!"B," zgS σ H R:=⟨v,e,h⟩
theorem zcW.Qg (e:σ[i]? =some s!"Ai") (h:tr σ H fun xs H2=>R (v::xs) H2):zcW s!"B," tr σ H R:=⟨v,e,h⟩
theorem tOp.Qe (e:σ[i]? =some s!"Ai") (h:r v w H Q):tOp r s!"B," (tC w) σ H Q:=⟨v,e,h⟩
theorem tOp.Qf (e:σ[i]? =some s!"Ai") (f:σ[j]? =some s!"r{w}") (h:r v w H Q):tOp r s!"B," (yP j) σ H Q:=⟨v,e,w,f,h⟩
theorem tOp.Qg (e:σ[i]? =some s!"Ai") (h:tb σ H fun y H2=>r v y H2 Q):tOp r s!"B," tb σ H Q:=⟨v,e,h⟩
theorem tOp.Qh (h:ta σ H fun x H1=>r x w H1 Q):tOp r ta (tC w) σ H Q:=h
theorem zfU.Qh {R:Bool->Hp->Prop} (h:ta σ H fun x H1=>tb σ H1 fun y H2=>r x y H2 fun z H3=>kB z H3 R):zfU s!"D8" σ H R:=h
theorem zfU.Qg {R:Bool->Hp->Prop} (e:σ[i]? =some s!"Ai") (h:tb σ H fun y H2=>r v y H2 fun z H3=>kB z H3 R):zfU (tOp r s!"B," tb) σ H R:=⟨v,e,h⟩
theorem zfU.Qe {R:Bool->Hp->Prop} (e:σ[i]? =some s!"Ai") (h:r v w H fun z H3=>kB z H3 R):zfU (tOp r s!"B," (tC w)) σ H R:=⟨v,e,h⟩
theorem zpN.Qa (h:D.rt v H):zpN (tC v) D σ H:=h
end
end L2
local macro_rules|`(tactic|walk_at "lo")=>`(tactic|first|exact .inl rfl|exact .inr rfl|assumption)
local macro_rules|`(tactic|walk_at "o")=>`(tactic|first|with_reducible assumption|omega)
local macro_rules|`(tactic|walk_at "m")=>`(tactic|first
  | exact PySem.IntMulOk.of_right (PySem.intBits_le_64 (by walk_at "o") (by walk_at "o"))
  | exact PySem.IntMulOk.of_left (PySem.intBits_le_64 (by walk_at "o") (by walk_at "o"))
  | exact L2.Bd.mulOk (m := 2000) (n := 2000) (by walk_at "b") (by walk_at "b") (by decide) (by decide))
local macro_rules|`(tactic|walk_at "b")=>`(tactic|(show Int.natAbs _ < _;walk_at "o"))
local macro_rules|`(tactic|walk_at "h")=>`(tactic|first
  | assumption
  | exact L2.SqL.of (by assumption)
  | exact L2.SqT.of (by assumption)
  | exact L2.zb
  | (refine' L2.Same.seq (by assumption) ?z; (case z => walk_at "h"))
  | (refine' L2.Same.tup (by assumption) ?z; (case z => walk_at "h"))
  | (refine' L2.Same.obj (by assumption) ?z; (case z => walk_at "h")))
local macro_rules|`(tactic|walk_at "lenle")=>`(tactic|first|((with_reducible refine' L2.zcM ?p ?q);(case p=>walk_at "lenle");(case q=>walk_at "lenle"))|with_reducible assumption|exact (show _ ≤ 40 from by decide +kernel)|assumption)
local macro_rules|`(tactic|walk_at "g")=>`(tactic|first|decide +kernel|(refine' L2.zsp ?a ?b;(case a=>walk_at "lenle");(case b=>decide)))
local macro_rules|`(tactic|walk_at "t")=>`(tactic|first|assumption|decide +kernel|(exact Nat.le_trans (by assumption) (by decide))|(exact Nat.le_of_lt (L2.zf (by omega))))
local macro_rules|`(tactic|walk_at "f")=>`(tactic|first|assumption|decide +kernel)
local macro_rules|`(tactic|walk_at "sm")=>`(tactic|first
  | exact L2.Same.refl _
  | assumption
  | (refine' L2.Same.trans ?z (by assumption); (case z => walk_at "sm")))
local macro_rules|`(tactic|walk_at "z")=>`(tactic|first|decide|(simp only [List.length_cons, List.length_nil];decide)|(simp;decide))
def rR(w:String):Lean.MacroM (Lean.TSyntax `tactic):=do
 if w.startsWith "*" then return <-`(tactic|walk_at $(Lean.Syntax.mkStrLit (w.drop 1).toString))
 let l:=w.splitOn ":"
 let s:=(l.getD 1 "").toList
 let q:=(s.filter Char.isAlpha).zipIdx
 let i(k:Nat):=Lean.mkIdent (.mkSimple ("q".pushn 'q' k))
 let h<-q.mapM fun x=>`(?$(i x.2))
 let x:=l.getD 0 ""
 let f:Lean.Term<-if x.contains '.' then pure (Lean.mkIdent (`_root_.L2++x.toName)) else `(.$(Lean.mkIdent x.toName))
 let t:=Lean.Syntax.mkApp f (h++[<-`(?_)]).toArray
 let a<-if s.contains '\'' then `(tactic|with_reducible refine' $t) else `(tactic|with_reducible refine $t)
 let a<-q.foldlM (fun a x=>do
  let c<-match x.1 with
   |'a'=>`(tactic|assumption)
   |'r'=>`(tactic|rfl)
   |'d'=>`(tactic|decide)
   |c=>`(tactic|walk_at $(Lean.Syntax.mkStrLit c.toString))
  `(tactic|($a;case $(i x.2):ident=>$c:tactic))) a
 (s.filter Char.isDigit).foldlM (fun a x=>(List.range (x.toNat-48)).foldlM (fun a _=>`(tactic|($a;intro _))) a) a
def rF(w:String):Lean.MacroM Lean.Syntax:=do
 let a<-(w.splitOn " ").toArray.mapM rR
 return (<-`(tactic|first $[|$a:tactic]*)).raw
local macro_rules|`(tactic|walk_at "i")=>`(tactic|first | exact .int _ | exact .bl _ | exact .non | exact .str _ | exact .tup (by walk_at "h") | exact .lst (by walk_at "h") | constructor)

local macro_rules|`(tactic|walk_at "ds")=>`(tactic|try dsimp only [L2.zbb, L2.Cx.inH, L2.Cx.tried])
def rD:Lean.MacroM (Lean.TSyntax `tactic):=do
 let a<-("Qa Qb:'h Qc:'h Qd:'hhz5 Qe:'r Qf:'rr Qg:'r Qh Qi Qj Qk Ql Qm Qn Qo Qp Qq Qr Qs Qt Qu:m Qv:'hooz5 Qw:ob Qx:ob Qy:a Qz:a Q0:'hr Q2:'hr Q3:'haar Q4:g Q5:t Q6:f Q7:'h2 Q8:2 Q9:5 Ka:o Kb:6 Kd:z5 Ke:'h5 Kf:'hh Kg:oo Kh:oooo Ki:'ir *rdcall".splitOn " ").toArray.mapM rR
 let e<-`(tactic|((fail_if_success (fail_if_success (with_reducible refine .Kj ?_)));walk_at "en"))
 `(tactic|first $[|$(a.push e):tactic]*)
local macro_rules|`(tactic|walk_at "rd1")=>do return (<-rD).raw
local macro_rules|`(tactic|walk_at "rdcall")=>`(tactic|fail "no call")
local macro_rules|`(tactic|walk_at "rd")=>do `(tactic|repeat $(<-rD):tactic)
local macro_rules|`(tactic|walk_at "en")=>do `(tactic|first $[|$(<-(("zjQ.Qa zjQ.Qh zjQ.Qi zpN.Qa zjQ.Qj zjT.Qa zdA.Qa zpO.Qa zpN.Qh zjR.Qa zri.Qa zrt.Qa ziD.Qa ze6.Qa zpe.Qa zo9.Qa zkG.Qa zoM.Qa ziD.Qh ziD.Qi ziD.Qj ziD.Qk zrj.Qe:'r zg0.Qy:a zg0.Qz:a Ends.nx.Kj".splitOn " ").toArray.mapM rR)):tactic]*)
local macro_rules|`(tactic|left)=>`(tactic|walk_at "rd")
local macro_rules|`(tactic|walk_at "ite")=>`(tactic|first
  | (with_reducible refine L2.zqe (fun _ => ?_) (fun _ => ?_))
  | (with_reducible refine L2.zmQ (fun _ => ?_) (fun _ => ?_))
  | (with_reducible refine L2.zkp (fun _ => ?_) (fun _ => ?_))
  | (with_reducible refine L2.zmT (fun _ => ?_) (fun _ => ?_)))
local macro_rules|`(tactic|walk_at "rdi")=>`(tactic|repeat' (first|walk_at "rd1"|(walk_at "ite" <;> (try (exfalso;omega)))))
namespace My
open PySem L2
abbrev zaW:Stmt:=top 14
theorem zcp:FnScope ["thing"] ["thing"] (za zaW):=s!"w"
abbrev yb:Stmt:=top 15
theorem yH:FnScope ["thing"] ["thing"] (za yb):=s!"w"
abbrev wR:Stmt:=top 16
theorem zbo:FnScope ["least","number"] ["least","number"] (za wR):=s!"w"
abbrev zb4:Stmt:=top 18
theorem zdj:FnScope ["most","number"] ["most","number"] (za zb4):=s!"w"
abbrev zdk:Stmt:=top 20
theorem zeC:FnScope ["a","b","high","low","rest"] ["a","b"] (za zdk):=s!"w"
abbrev zaX:Stmt:=top 32
theorem zcq:FnScope ["a","m","steps","high","low","rest"] ["a","m"] (za zaX):=s!"w"
abbrev xh:Stmt:=top 37
theorem wv:FnScope ["a","m","numbers","told","place","low","high"] ["a","m"] (za xh):=s!"w"
abbrev zdl:Stmt:=top 38
theorem zeD:FnScope ["a","m","part"] ["a","m"] (za zdl):=s!"w"
abbrev zaY:Stmt:=top 41
theorem zcr:FnScope ["table"] ["table"] (za zaY):=s!"w"
abbrev x8:Stmt:=top 42
theorem zaC:FnScope ["table"] ["table"] (za x8):=s!"w"
abbrev xi:Stmt:=top 43
theorem ww:FnScope ["row","table"] ["row","table"] (za xi):=s!"w"
abbrev zaZ:Stmt:=top 44
theorem zcs:FnScope ["one","other"] ["one","other"] (za zaZ):=s!"w"
abbrev zb5:Stmt:=top 45
theorem zdm:FnScope ["table"] ["table"] (za zb5):=s!"w"
abbrev yJ:Stmt:=top 46
theorem xN:FnScope ["number"] ["number"] (za yJ):=s!"w"
abbrev wS:Stmt:=top 47
theorem zbp:FnScope ["table","c","d"] ["table"] (za wS):=s!"w"
abbrev wT:Stmt:=top 48
theorem zbq:FnScope ["table","number"] ["table"] (za wT):=s!"w"
abbrev zdn:Stmt:=top 51
theorem zeE:FnScope ["thing"] ["thing"] (za zdn):=s!"w"
abbrev zb6:Stmt:=top 52
theorem zdo:FnScope ["word"] ["word"] (za zb6):=s!"w"
abbrev wU:Stmt:=top 53
theorem zbr:FnScope ["word"] ["word"] (za wU):=s!"w"
abbrev za0:Stmt:=top 54
theorem zct:FnScope ["word","a","b","c","d","run"] ["word"] (za za0):=s!"w"
abbrev xj:Stmt:=top 55
theorem wx:FnScope ["row","other"] ["row","other"] (za xj):=s!"w"
abbrev wV:Stmt:=top 56
theorem zbs:FnScope ["row","other","often"] ["row","other","often"] (za wV):=s!"w"
abbrev zb7:Stmt:=top 57
theorem zdp:FnScope ["table","upper","lower","word","often"] ["table"] (za zb7):=s!"w"
abbrev wW:Stmt:=top 62
theorem zbt:FnScope ["text","figures"] ["text"] (za wW):=s!"w"
abbrev xF:Stmt:=top 64
theorem wX:FnScope ["table"] ["table"] (za xF):=s!"w"
abbrev wY:Stmt:=top 65
theorem zbu:FnScope ["run","letter","often"] ["run"] (za wY):=s!"w"
abbrev x9:Stmt:=top 66
theorem zaD:FnScope ["word"] ["word"] (za x9):=s!"w"
abbrev wZ:Stmt:=top 67
theorem zbv:FnScope ["holds"] ["holds"] (za wZ):=s!"w"
abbrev xk:Stmt:=top 68
theorem wy:FnScope ["pieces"] ["pieces"] (za xk):=s!"w"
abbrev wa:Stmt:=top 69
theorem zaE:FnScope ["text","numbers","table"] ["text"] (za wa):=s!"w"
abbrev w6:Stmt:=top 70
theorem zbw:FnScope ["text","pieces","letters","numbers","word"] ["text"] (za w6):=s!"w"
abbrev zb8:Stmt:=top 77
theorem zdq:FnScope ["piece"] ["piece"] (za zb8):=s!"w"
abbrev wc:Stmt:=top 78
theorem zaF:FnScope ["kind","piece"] ["kind","piece"] (za wc):=s!"w"
abbrev za1:Stmt:=top 79
theorem zcu:FnScope ["pieces","form"] ["pieces","form"] (za za1):=s!"w"
abbrev xG:Stmt:=top 80
theorem w9:FnScope ["pieces"] ["pieces"] (za xG):=s!"w"
abbrev zb9:Stmt:=top 81
theorem zdr:FnScope ["pieces","form"] ["pieces"] (za zb9):=s!"w"
abbrev yc:Stmt:=top 82
theorem yI:FnScope ["table","number"] ["table"] (za yc):=s!"w"
abbrev yK:Stmt:=top 83
theorem xO:FnScope ["ask","table"] ["ask","table"] (za yK):=s!"w"
abbrev yq:Stmt:=top 84
theorem za2:FnScope ["ask","numbers","p","m"] ["ask","numbers"] (za yq):=s!"w"
abbrev yL:Stmt:=yA s!"B~" 0
theorem xP:FnScope ["self"] ["self"] (za yL):=s!"w"
abbrev yr:Stmt:=yA s!"B~" 2
theorem xl:FnScope ["self","form","pieces","kind","piece"] ["self","form","pieces"] (za yr):=s!"w"
abbrev yz:Stmt:=yA s!"B~" 3
theorem xz:FnScope ["self","pieces","table"] ["self","pieces"] (za yz):=s!"w"
abbrev zaa:Stmt:=yA s!"B~" 7
theorem zbx:FnScope ["self","name","table"] ["self","name","table"] (za zaa):=s!"w"
abbrev xm:Stmt:=yA s!"B~" 4
theorem wz:FnScope ["self","name","table"] ["self","name","table"] (za xm):=s!"w"
abbrev zab:Stmt:=yA s!"B~" 5
theorem zby:FnScope ["self","deed"] ["self"] (za zab):=s!"w"
abbrev zac:Stmt:=yA s!"B~" 6
theorem zbz:FnScope ["self","deed"] ["self"] (za zac):=s!"w"
abbrev yj:Stmt:=yA s!"B~" 8
theorem yO:FnScope ["self"] ["self"] (za yj):=s!"w"
abbrev zad:Stmt:=yA s!"B~" 1
theorem zbA:FnScope ["self","line","pieces","form","first","table"] ["self","line"] (za zad):=s!"w"
abbrev zae:Stmt:=top 87
theorem zbB:FnScope ["_law_script","_law_k"] ["_law_script","_law_k"] (za zae):=s!"w"
abbrev we:Stmt:=top 88
theorem zaG:FnScope ["_law_cell_here","_law_k","_law_prime","_law_far"] ["_law_cell_here","_law_k","_law_prime"] (za we):=s!"w"
abbrev wg:Stmt:=top 89
theorem zaH:FnScope ["_law_cell_here","_law_widths","_law_prime","_law_left","_law_found","_law_k"] ["_law_cell_here","_law_widths","_law_prime"] (za wg):=s!"w"
abbrev zaf:Stmt:=top 90
theorem zbC:FnScope ["_law_cell_here","_law_prime","_law_draws_here","_law_word_here","_law_k","_law_kind","_law_low","_law_high","_law_more","_law_often"] ["_law_cell_here","_law_prime"] (za zaf):=s!"w"
abbrev wj:Stmt:=top 91
theorem zaI:FnScope ["_law_word_here","_law_a","_law_b","_law_c","_law_d","_law_letter","_law_often"] ["_law_word_here"] (za wj):=s!"w"
abbrev xn:Stmt:=top 92
theorem wA:FnScope ["_law_one","_law_two","_law_a","_law_b","_law_c","_law_d","_law_e","_law_f","_law_g","_law_h"] ["_law_one","_law_two"] (za xn):=s!"w"
abbrev yM:Stmt:=top 93
theorem xQ:FnScope ["_law_table_here","_law_a","_law_b","_law_c","_law_d"] ["_law_table_here"] (za yM):=s!"w"
abbrev wk:Stmt:=top 94
theorem zaJ:FnScope ["_law_table_here"] ["_law_table_here"] (za wk):=s!"w"
abbrev wm:Stmt:=top 95
theorem zaK:FnScope ["_law_state"] ["_law_state"] (za wm):=s!"w"
abbrev zag:Stmt:=top 96
theorem zbD:FnScope ["_law_word_here"] ["_law_word_here"] (za zag):=s!"w"
abbrev zah:Stmt:=top 97
theorem zbE:FnScope ["_law_desk","_law_line_here","_law_word_here","_law_found","_law_e"] ["_law_desk","_law_line_here"] (za zah):=s!"w"
abbrev wo:Stmt:=top 98
theorem zaL:FnScope ["_law_cell_here","_law_width"] ["_law_cell_here","_law_width"] (za wo):=s!"w"
abbrev xo:Stmt:=top 99
theorem wB:FnScope ["_law_cell_here","_law_prime","_law_draws_here","_law_letters"] ["_law_cell_here","_law_prime"] (za xo):=s!"w"
abbrev zai:Stmt:=top 100
theorem zbF:FnScope ["_law_cell_here","_law_some","_law_prime","_law_draws_here","_law_names_here"] ["_law_cell_here","_law_some","_law_prime"] (za zai):=s!"w"
abbrev zaj:Stmt:=top 101
theorem zbG:FnScope ["_law_plan_here","_law_cell_here","_law_prime","_law_kind","_law_name","_law_one","_law_two","_law_word_here","_law_draws_here","_law_a","_law_b","_law_c","_law_d"] ["_law_plan_here","_law_cell_here","_law_prime"] (za zaj):=s!"w"
abbrev wp:Stmt:=top 102
theorem zaM:FnScope ["_law_state","_law_plan_here","_law_made","_law_kind","_law_name","_law_one","_law_two","_law_new","_law_table_here"] ["_law_state","_law_plan_here","_law_made"] (za wp):=s!"w"
abbrev za3:Stmt:=top 103
theorem zcv:FnScope ["_law_state","_law_plan_here","_law_names_here","_law_made","_law_name"] ["_law_state","_law_plan_here","_law_names_here","_law_made"] (za za3):=s!"w"
abbrev wq:Stmt:=top 104
theorem zaN:FnScope ["_law_desk","_law_state","_law_name","_law_dues","_law_table_here","_law_words"] ["_law_desk","_law_state","_law_name"] (za wq):=s!"w"
abbrev wr:Stmt:=top 105
theorem zaO:FnScope ["_law_desk","_law_book","_law_here","_law_word_here","_law_there"] ["_law_desk","_law_book","_law_here","_law_word_here"] (za wr):=s!"w"
abbrev zeF:Stmt:=top 106
theorem zl5:FnScope ["_law_script","_law_desk","_law_some","_law_book","_law_here","_law_k","_law_cell_here","_law_plan_here","_law_right","_law_line_here","_law_names_here","_law_made","_law_due_here","_law_new"] ["_law_script"] (za zeF):=s!"w"
abbrev xR:Stmt:=yA (top 11) 0
theorem zeG:FnScope ["self","name"] ["self","name"] (za xR):=s!"w"
structure Blt (mg:Str->Option Value):Prop where
 abs:mg "abs"=none
 all:mg "all"=none
 bool:mg "bool"=none
 dict:mg "dict"=none
 int:mg "int"=none
 isinstance:mg "isinstance"=none
 len:mg "len"=none
 list:mg "list"=none
 max:mg "max"=none
 min:mg "min"=none
 range:mg "range"=none
 sorted:mg "sorted"=none
 str:mg "str"=none
 tuple:mg "tuple"=none
 zip:mg "zip"=none
structure OCDesk (K:PySem.W.Frag) (mg:Str->Option Value):Type where
 addr:Addr
 gl:mg "Desk"=some s!"Er"
 cl:L2.Cls K addr
 n_tables:yu K addr "tables"
 n_done:yu K addr "done"
 n_taken_back:yu K addr "taken_back"
 f___init__:Addr
 m___init__:Meth K addr "__init__" f___init__
 f_need_known:Addr
 m_need_known:Meth K addr "need_known" f_need_known
 f_new_table:Addr
 m_new_table:Meth K addr "new_table" f_new_table
 f_keep:Addr
 m_keep:Meth K addr "keep" f_keep
 f_do_deed:Addr
 m_do_deed:Meth K addr "do_deed" f_do_deed
 f_undo:Addr
 m_undo:Meth K addr "undo" f_undo
 f_redo:Addr
 m_redo:Meth K addr "redo" f_redo
 f_shown_names:Addr
 m_shown_names:Meth K addr "shown_names" f_shown_names
 f_tell:Addr
 m_tell:Meth K addr "tell" f_tell
 mkk:Mk K addr f___init__
structure Cls (K:PySem.W.Frag) (mg:Str->Option Value) (base:Heap):Type where
 SawError:CG mg "SawError"
 NoCount:CK K mg base "NoCount"
 NotOdd:CK K mg base "NotOdd"
 TooMany:CK K mg base "TooMany"
 NotApart:CK K mg base "NotApart"
 NoTable:CK K mg base "NoTable"
 NoWord:CK K mg base "NoWord"
 NoText:CK K mg base "NoText"
 NoLine:CK K mg base "NoLine"
 NoName:CI K mg base "NoName" "name" "SawError"
 NoDeed:CK K mg base "NoDeed"
 Desk:OCDesk K mg
abbrev K1 (K:PySem.W.Frag) (a b:Addr) (t:Bool):Prop:=PySem.W.kitOne K s!"h" s!"Bw"=some t
structure Rel (K:PySem.W.Frag) (mg:Str->Option Value) (base:Heap) (C:Cls K mg base):Prop where
 r_NoText_NoText:K1 K C.NoText.addr C.NoText.addr true
 r_NoName_NoName:K1 K C.NoName.addr C.NoName.addr true
 r_NoLine_NoName:K1 K C.NoLine.addr C.NoName.addr false
 r_NoLine_NoLine:K1 K C.NoLine.addr C.NoLine.addr true
 r_NoTable_NoName:K1 K C.NoTable.addr C.NoName.addr false
 r_NoTable_NoLine:K1 K C.NoTable.addr C.NoLine.addr false
 r_NoTable_NoTable:K1 K C.NoTable.addr C.NoTable.addr true
 r_NoWord_NoName:K1 K C.NoWord.addr C.NoName.addr false
 r_NoWord_NoLine:K1 K C.NoWord.addr C.NoLine.addr false
 r_NoWord_NoTable:K1 K C.NoWord.addr C.NoTable.addr false
 r_NoWord_NoWord:K1 K C.NoWord.addr C.NoWord.addr true
 r_TooMany_NoName:K1 K C.TooMany.addr C.NoName.addr false
 r_TooMany_NoLine:K1 K C.TooMany.addr C.NoLine.addr false
 r_TooMany_NoTable:K1 K C.TooMany.addr C.NoTable.addr false
 r_TooMany_NoWord:K1 K C.TooMany.addr C.NoWord.addr false
 r_TooMany_TooMany:K1 K C.TooMany.addr C.TooMany.addr true
 r_NoDeed_NoName:K1 K C.NoDeed.addr C.NoName.addr false
 r_NoDeed_NoLine:K1 K C.NoDeed.addr C.NoLine.addr false
 r_NoDeed_NoTable:K1 K C.NoDeed.addr C.NoTable.addr false
 r_NoDeed_NoWord:K1 K C.NoDeed.addr C.NoWord.addr false
 r_NoDeed_TooMany:K1 K C.NoDeed.addr C.TooMany.addr false
 r_NoDeed_NoDeed:K1 K C.NoDeed.addr C.NoDeed.addr true
 r_NotOdd_NoName:K1 K C.NotOdd.addr C.NoName.addr false
 r_NotOdd_NoLine:K1 K C.NotOdd.addr C.NoLine.addr false
 r_NotOdd_NoTable:K1 K C.NotOdd.addr C.NoTable.addr false
 r_NotOdd_NoWord:K1 K C.NotOdd.addr C.NoWord.addr false
 r_NotOdd_TooMany:K1 K C.NotOdd.addr C.TooMany.addr false
 r_NotOdd_NoDeed:K1 K C.NotOdd.addr C.NoDeed.addr false
 r_NotOdd_NotOdd:K1 K C.NotOdd.addr C.NotOdd.addr true
 r_NotApart_NoName:K1 K C.NotApart.addr C.NoName.addr false
 r_NotApart_NoLine:K1 K C.NotApart.addr C.NoLine.addr false
 r_NotApart_NoTable:K1 K C.NotApart.addr C.NoTable.addr false
 r_NotApart_NoWord:K1 K C.NotApart.addr C.NoWord.addr false
 r_NotApart_TooMany:K1 K C.NotApart.addr C.TooMany.addr false
 r_NotApart_NoDeed:K1 K C.NotApart.addr C.NoDeed.addr false
 r_NotApart_NotOdd:K1 K C.NotApart.addr C.NotOdd.addr false
 r_NotApart_NotApart:K1 K C.NotApart.addr C.NotApart.addr true
 r_NoCount_NoName:K1 K C.NoCount.addr C.NoName.addr false
 r_NoCount_NoLine:K1 K C.NoCount.addr C.NoLine.addr false
 r_NoCount_NoTable:K1 K C.NoCount.addr C.NoTable.addr false
 r_NoCount_NoWord:K1 K C.NoCount.addr C.NoWord.addr false
 r_NoCount_TooMany:K1 K C.NoCount.addr C.TooMany.addr false
 r_NoCount_NoDeed:K1 K C.NoCount.addr C.NoDeed.addr false
 r_NoCount_NotOdd:K1 K C.NoCount.addr C.NotOdd.addr false
 r_NoCount_NotApart:K1 K C.NoCount.addr C.NotApart.addr false
 r_NoCount_NoCount:K1 K C.NoCount.addr C.NoCount.addr true
 cat_NoName:CatK K C.NoName.addr
structure TabK (K:PySem.W.Frag) (T r s:Addr) (a b c d:Int):Prop where
 t:∀H,SqT K H T [.ref r,.ref s]
 r:∀H,SqT K H r [.int a,.int b]
 s:∀H,SqT K H s [.int c,.int d]
inductive FormK (K:PySem.W.Frag):List Addr->List s!"E;"->Prop where
 | nil:FormK K [] []
 | cons {a:Addr} {f:List Str} {as:List Addr} {fs:List s!"E;"} (h:∀H,SqT K H a s!"Gj") (r:FormK K as fs):FormK K (a::as) (f::fs)
structure Cst (K:PySem.W.Frag) (mg:Str->Option Value):Prop where
 MOST_FIGURES:∃t,mg "MOST_FIGURES"=some (.int 60 t)
 MOST_LETTERS:∃t,mg "MOST_LETTERS"=some (.int 8 t)
 OWN_TABLE:∃T r s,mg "OWN_TABLE"=some s!"CJ"/\TabK K T r s (1) (0) (0) (1)
 FIGURES:∃t,mg "FIGURES"=some (.str "0123456789" t)
 EMPTY_WORD:∃t,mg "EMPTY_WORD"=some (.str "none" t)
 LETTERS:∃t,mg "LETTERS"=some (.str "abcdefghijklmnopqrstuvwxyz" t)
 NO_NAMES:∃t,mg "NO_NAMES"=some (.str "none" t)
 WORD_FORM:∃T,mg "WORD_FORM"=some s!"CJ"/\∀H,SqT K H T ((["word","NAME"]:List Str).map V.str)
 FORMS:∃(T:Addr) (as:List Addr),mg "FORMS"=some s!"CJ"/\(∀H,SqT K H T s!"D/")/\FormK K as [["table","NAME","NUMBER","NUMBER","NUMBER","NUMBER"],["let","NAME","together","KNOWN","KNOWN"],["let","NAME","back","KNOWN"],["drop","KNOWN"],["undo"],["redo"],["names"],["show","KNOWN"],["number","KNOWN"],["steady","KNOWN"],["spell","KNOWN"],["sign","NUMBER","NUMBER"],["teeth","NUMBER","NUMBER"],["twelve","NUMBER","NUMBER"],["points","NUMBER","NUMBER"],["shuffle","NUMBER","NUMBER"],["parts","NUMBER","NUMBER","NUMBER","NUMBER"]]
def zib (K:PySem.W.Frag):Sp:=fun vs H Q _=>∃(a:Addr) (ns:List Int),vs=[.ref a]/\SqL K H a s!"Ao"/\ns.length<=63/\∀H',Q s!"Bs" H'
variable {K:PySem.W.Frag} {mg:Str->Option Value} {b c d k:Int} {H H' H1 H0:Hp} {Q Q':VK} {E E':XK} {v:V} {ws us:List (Bool×Int)} {D a cW CD T L B bl:Addr} {xs:List V} {t u p1 p3 p4 n ask m:Str} {ns:List Int} {ps:List Str} {x y z:Tb} {kvs:List (Key×V)} {f g:Str->Option Tb} {o:Option Tb} {ds bs:List Addr} {dn:List yf} {st st':DSt} {e:ErrC} {i h:Nat} {fs:List (Str->Option Tb)}
section
variable {P:Program} {w:World} {base:Heap}
structure Hide (p:Prop):Prop where
 out:p
def zl6:Sp:=fun vs H Q _=>∃a b:Int,vs=[.int a,.int b]/\Q s!"It" H
theorem zov {a:Int} (h:Q s!"It" H):zl6 [.int a,.int b] H Q E:=⟨a,b,rfl,h⟩
local macro_rules|`(tactic|walk_at "rdcall")=>`(tactic|(with_reducible refine zov ?_))
theorem zjx {C:Cls K mg base} (F:SrcI K "NoName.__init__" xR C.NoName.f ["self","name"]):DefI P w K mg base s!"v" 1 C.NoName.f ["self","name"] s!"Iu":=by
 refine F.ok (CX:=CXE P w) (k:=0) zeG s!"x" (fun cdv A outer s H vs Q E hr h=>?_)
 ·obtain ⟨_,_,rfl,_⟩:=h;rfl
 have nd:=zeG.nd;obtain ⟨e,v,rfl,⟨i,rfl,il⟩,eE,hQ⟩:=h;refine ⟨_,s!"d@{@zf8 _ _ _ _ _ _ _ _ _ _ _ C.NoName.own rfl C.NoName.ugl C.NoName.u1 C.NoName.u2 C.NoName.u3 s!"byb{@zar _ _ _ _ _ _ s!"DNIvDN={PJ.nil}"}f" s!"c" (by rfl) (by rfl) _ (by rfl)}e{@zn1 _ _ _ _ _ _ _ _ _ C.NoName.ini s!"y" s!"*" (by rfl)}",?_⟩
 walk_at "ds";refine zc [some s!"Ar",some s!"A`"] rfl ?_;left;exact hQ _ (by assumption)
def isI:V->Bool
 | .int _=>true
 | _=>false
def Kn (H:Hp) (v:V):Prop:=(∃i,v=.int i)\/(∃b,v=.bl b)\/(∃s,v=.str s)\/v=.non\/(∃p xs,v=.ref p/\H p=some s!"Ae")\/(∃p xs,v=.ref p/\H p=some s!"6")
def zqY:Sp:=fun vs H Q _=>∃v:V,vs=[v]/\Kn H v/\Q s!"/{isI v}" H
theorem zgs (F:Src K mg "is_whole" zaW ["thing"]) (B:Blt mg) (C:Cls K mg base) (R:Rel K mg base C) (Kc:Cst K mg):Def P w K mg base s!"v" 1 "is_whole" ["thing"] zqY:=by
 refine F.ok (CX:=CXE P w) (k:=0) zcp s!"x" s!"1"
 ·obtain ⟨_,rfl,_⟩:=h;rfl
 have nd:=zcp.nd;obtain ⟨v,rfl,k,q⟩:=h;refine ⟨_,s!"epBEAcB#B$B%bybBB{.ty "int"}FeFffC={@pe_not _ _ _ _ s!"AcB#B$B%bybBB{.ty "bool"}{B.bool}{PyProof.Rows.boot_bool}f"}",?_⟩
 walk_at "ds";refine zc [some v] rfl ?_;rcases k with ⟨i,rfl⟩ | ⟨b,rfl⟩ | ⟨s,rfl⟩ | rfl | ⟨p,xs,rfl,hp⟩ | ⟨p,xs,rfl,hp⟩
 ·left;exact q
 ·left;walk_at "ite"
  ·left;exact q
  ·rename_i c;exact absurd c s!"c"
 ·left;exact q
 ·left;exact q
 ·left;exact q
 ·left;exact q
def zsA:Sp:=fun vs H Q _=>∃(r:Addr) (a b:Int),vs=[.ref r]/\H r=some s!"0{[.int a,.int b]}"/\Q s!"Bs" H
theorem zak (F:Src K mg "is_pair_of_wholes" yb ["thing"]) (B:Blt mg) (C:Cls K mg base) (R:Rel K mg base C) (Kc:Cst K mg) (D_is_whole:s!"m{1}{"is_whole"}{["thing"]}{zqY}"):Def P w K mg base s!"v" 2 "is_pair_of_wholes" ["thing"] zsA:=by
 refine F.ok (CX:=CXE P w) (k:=1) yH s!"x" s!"1"
 ·obtain ⟨_,_,_,rfl,_⟩:=h;rfl
 have nd:=yH.nd;obtain ⟨r,a,b,rfl,e,q⟩:=h;refine ⟨_,s!"epBEAcB#B$B%bybBBFgFhFifBEA.A$CWlBEGkC=Gk",?_⟩
 walk_at "ds";refine zc [some s!"Al"] rfl ?_;left;walk_at "ite"
 ·left;refine ⟨_,rfl,.inl ⟨_,rfl⟩,?_⟩;rw [show isI (V.int a)=true from rfl]
  left;refine ⟨_,rfl,.inl ⟨_,rfl⟩,?_⟩;exact q
 ·rename_i c;exact absurd rfl c
def zhn (c:Addr):Sp:=fun vs H Q E=>∃l n:Int,vs=[.int l,.int n]/\(l=0\/l=1)/\(n<l->E s!"A8" none H)/\(l<=n->Q .non H)
theorem zfl (F:Src K mg "need_from" wR ["least","number"]) (B:Blt mg) (C:Cls K mg base) (R:Rel K mg base C) (Kc:Cst K mg):Def P w K mg base s!"v" 1 "need_from" ["least","number"] (zhn C.NoCount.addr):=by
 refine F.okX (CX:=CXE P w) (k:=0) zbo s!"x" s!"1"
 ·obtain ⟨_,_,rfl,_⟩:=h;rfl
 have nd:=zbo.nd;obtain ⟨l,n,rfl,hl,h1,h2⟩:=h;refine ⟨_,s!"e5_{xV}*ye{@ps_raise _ _ _ _ _ _ _ _ _ _ _ _ _ _ (C.NoCount).own PySem.F.excBase_ValueError rfl rfl xmade_cx s!"Iw" s!"c" (by rfl) (by rfl)}",?_⟩
 walk_at "ds";refine zc [some s!"!{l}",some s!"C2"] rfl ?_;left;walk_at "ite"
 ·rename_i c;rcases hl with rfl | rfl
  ·left;exact h1 c
  ·left;exact h1 c
 ·left;exact h2 s!"a"
def zsB (cT:Addr):Sp:=fun vs H Q E=>∃l n:Int,vs=[.int l,.int n]/\(l=200\/l=60\/l=999999\/l=10^60-1)/\(l<n->E s!"E<" none H)/\(n<=l->Q .non H)
theorem zho (F:Src K mg "need_to" zb4 ["most","number"]) (B:Blt mg) (C:Cls K mg base) (R:Rel K mg base C) (Kc:Cst K mg):Def P w K mg base s!"v" 1 "need_to" ["most","number"] s!"Ix":=by
 refine F.okX (CX:=CXE P w) (k:=0) zdj s!"x" s!"1"
 ·obtain ⟨_,_,rfl,_⟩:=h;rfl
 have nd:=zdj.nd;obtain ⟨l,n,rfl,hl,h1,h2⟩:=h;refine ⟨_,s!"e5_B&*ye{@ps_raise _ _ _ _ _ _ _ _ _ _ _ _ _ _ (C.TooMany).own PySem.F.excBase_ValueError rfl rfl xmade_cx s!"Iw" s!"c" (by rfl) (by rfl)}",?_⟩
 walk_at "ds";refine zc [some s!"!{l}",some s!"C2"] rfl ?_;left;walk_at "ite"
 ·rename_i c;rcases hl with rfl | rfl | rfl | rfl <;> (left;exact h1 c)
 ·rename_i c;left;exact h2 s!"a"
theorem zjy (F:Src K mg "shared" zdk ["a","b"]) (B:Blt mg) (C:Cls K mg base) (R:Rel K mg base C) (Kc:Cst K mg):Def P w K mg base s!"v" 1 "shared" ["a","b"] zl6:=by
 refine F.ok (CX:=CXE P w) (k:=0) zeC s!"x" s!"1"
 ·obtain ⟨_,_,rfl,_⟩:=h;rfl
 have nd:=zeC.nd;obtain ⟨a,b,rfl,q⟩:=h;refine ⟨_,s!"dz{2}Iydz{3}Ac{xJ}{B.abs}{PyProof.Rows.boot_abs}AsdFaB*_D'?ldz{4}gAM[?dz{2}?eIzE=",?_⟩
 walk_at "ds";refine zc [some s!"AE",some s!"CX",none,none,none] rfl ?_;left;rename_i x0 e0 y0 e1;refine zbd (fun m σ H'=>H'=H/\∃(x y:Int) (z:Option V),m=y.natAbs/\σ=[some s!"AE",some s!"CX",some s!"!{x}",some s!"!{y}",z]/\0<=x/\0<=y/\Int.gcd x y=Int.gcd a b) _ ⟨rfl,x0,y0,_,rfl,rfl,by omega,by omega,by rw [e0,e1];simp [Int.gcd]⟩ ?_
 rintro m σ H' ⟨rfl,x,y,z,rfl,rfl,hx,hy,hg⟩;left;walk_at "ite"
 ·rename_i c;left;have h1:=Int.emod_nonneg x c;have h2:=Int.emod_lt_of_pos x (show 0<y by omega)
  exact ⟨_,by omega,rfl,_,_,_,rfl,rfl,hy,h1,(Mth.zbm x y).trans hg⟩
 ·rename_i c;subst c;left;have e:x=(Int.gcd a b:Int):=by
   rw [<-hg,Int.gcd_zero_right];omega
  rw [e];exact q
def zds (H:Hp) (r:Addr) (ps:List (Int×Int)):Prop:=∃as:List Addr,H r=some s!"D."/\as.length=ps.length/\∀(i:Nat) (x:Addr) (p:Int×Int),as[i]? =some x->ps[i]? =some p->H x=some s!"0{[.int p.1,.int p.2]}"
theorem zds.push {r t:Addr} {ps:List (Int×Int)} {p:Int×Int} (h:zds H r ps) (s:Same H H') (e:H' t=some s!"0{[.int p.1,.int p.2]}"):∃as:List Addr,H' r=some s!"D."/\as.length=ps.length/\zds (upd H' r s!"q{(as.map V.ref++[.ref t])}") r (ps++[p]):=by
 obtain ⟨as,e1,hl,hT⟩:=h;have e1':=s.obj e1;refine ⟨as,e1',hl,as++[t],by rw [List.map_append];exact zb,by rw [List.length_append,List.length_append,hl];rfl,fun i x q hx hq=>?_⟩
 have key:H' x=some s!"0{[.int q.1,.int q.2]}":=by
  rcases Nat.lt_or_ge i as.length with hi | hi
  ·rw [List.getElem?_append_left hi] at hx;rw [List.getElem?_append_left s!"a"] at hq
   exact s.obj (hT i x q hx hq)
  ·rw [List.getElem?_append_right hi] at hx;rw [List.getElem?_append_right s!"a",<-hl] at hq
   have hi0:i-as.length=0:=by
    rcases Nat.eq_zero_or_pos (i-as.length) with z | z
    ·exact z
    ·rw [List.getElem?_eq_none (by simp;omega)] at hx
     cases hx
   rw [hi0] at hx hq;cases hx;cases hq;exact e
 have ne:x≠r:=fun z=>by
  rw [z,e1'] at key;cases key
 rw [zd ne];exact key
def zic (cN:Addr):Sp:=fun vs H Q E=>∃a m:Int,vs=[.int a,.int m]/\m<10^190/\(m<1->E s!"4{cN}" none H)/\(1<=m->∀r H' (ps:List (Int×Int)) (h:Int),Same H H'->H r=none->zds H' r ps->Mth.zb3 a m ps h 0->Q s!"Al" H')
theorem zgt (F:Src K mg "steps_of" zaX ["a","m"]) (B:Blt mg) (C:Cls K mg base) (R:Rel K mg base C) (Kc:Cst K mg) (D_need_from:s!"m{1}{"need_from"}{["least","number"]}G["):Def P w K mg base s!"v" 2 "steps_of" ["a","m"] s!"I0":=by
 refine F.okX (CX:=CXE P w) (k:=1) zcq s!"x" s!"1"
 ·obtain ⟨_,_,rfl,_⟩:=h;rfl
 have nd:=zcq.nd;obtain ⟨a,m,rfl,hM,h1,h2⟩:=h;refine ⟨_,s!"d@kG]&blAsdz{2}B'dz{3}ydz{4}*dFaC~_D'<ldz{5}gAM?<d@AwANAOAPAQ[b3bgBn?<D`fdIzez{4}A)E=",?_⟩
 walk_at "ds";refine zc [some s!"AE",some s!"C3",none,none,none,none] rfl ?_;left;refine ⟨_,_,rfl,by omega,h1,fun hm=>?_⟩
 left;rename_i r H1 s1 n1 e1;refine zbd (fun k σ H'=>Same H H'/\∃(hi lo:Int) (ps:List (Int×Int)) (z:Option V),k=lo.natAbs/\σ=[some s!"AE",some s!"C3",some s!"Al",some s!"!{hi}",some s!"!{lo}",z]/\zds H' r ps/\Mth.zb3 a m ps hi lo/\0<=lo/\lo<=m) _
  ⟨s1,a,m,[],_,rfl,rfl,⟨[],e1,rfl,fun i x p h=>by simp at h⟩,⟨rfl,rfl⟩,by omega,by omega⟩ ?_
 rintro k σ H2 ⟨s2,hi,lo,ps,z,rfl,rfl,hR,hP,l0,l1⟩;left;walk_at "ite"
 ·rename_i c;have c1:0<lo:=by omega
  have hlen:=Mth.zpp hP hM;have d1:=Int.emod_nonneg hi (show lo≠0 by omega)
  have d2:=Int.emod_lt_of_pos hi c1;obtain ⟨as0,eR,_,_⟩:=id hR;left;rename_i t H3 s3 n3 e3;obtain ⟨as,e4,hl4,hR4⟩:=hR.push (p:=(hi / lo,hi%lo)) s3 e3;refine zJ e4 (by rw [List.length_map,hl4];exact zf s!"a") ?_
  left;exact ⟨_,by omega,s!"B@".upd n1,_,_,_,_,rfl,rfl,hR4,hP.snoc c1,d1,by omega⟩
 ·rename_i c;have c0:lo=0:=by omega
  subst c0;left;exact h2 hm r _ ps hi s2 n1 hR hP
def zsC:Sp:=fun vs H Q _=>∃a m:Int,vs=[.int a,.int m]/\1<=m/\m<10^190/\Int.gcd a m=1/\∀H',Same H H'->Q s!"!{Mth.D a m}" H'
theorem zcA (F:Src K mg "twelve_apart" xh ["a","m"]) (B:Blt mg) (C:Cls K mg base) (R:Rel K mg base C) (Kc:Cst K mg) (D_steps_of:s!"m{2}{"steps_of"}{["a","m"]}I0"):Def P w K mg base s!"v" 3 "twelve_apart" ["a","m"] zsC:=by
 refine F.ok (CX:=CXE P w) (k:=2) wv s!"x" s!"1"
 ·obtain ⟨_,_,rfl,_⟩:=h;rfl
 have nd:=wv.nd;obtain ⟨a,m,rfl,hm,hM,hg,q⟩:=h;refine ⟨_,s!"dz{2}g'A1AsBfClBDI1B5I1{fun pins cl ex s H=>s!"A&{xE}yl"}dGmdBhB*{@pi_rangeD _ _ _ _ _ _ _ _ rfl B.range s!"bgA:GnlI2" (by rfl) (by rfl)}AJdz{5}A&AR[<dz{6}A&AR[gA:<lez{3}gBngA:gA:g'g'g^A)A)g^A%A%lg^g^lA)A%I3A)Go",?_⟩
 walk_at "ds";refine zc [some s!"AE",some s!"C3",none,none,none,none,none] rfl ?_;left;rename_i l0 H0 s0 n0 e0;refine wJ ?_;left;refine ⟨_,_,rfl,hM,(fun c=>by exfalso;omega),fun _ r H2 ps h s2 n2 hR hP=>?_⟩
 have hlen:=Mth.zpp hP hM;obtain ⟨as,eR,hla,hT⟩:=hR;refine xK (xs:=as.map V.ref) ((ps.map Prod.snd).map V.int) s!"Ad{eR}" (by simp [hla]) (by rw [List.length_map];omega) (fun i x y H' Q' hx hy s q=>?_) (fun D H3 s3 n3 e3=>?_)
 ·rw [List.getElem?_map] at hx;rw [List.getElem?_map,List.getElem?_map] at hy;cases hi:as[i]? with
  | none=>rw [hi] at hx;cases hx
  | some z=>
   cases hj:ps[i]? with
   | none=>rw [hj] at hy;cases hy
   | some p=>
    rw [hi] at hx;rw [hj] at hy;cases hx;cases hy;have e:=s.obj (hT i z p hi hj);left;exact q _ s!"Af"
 have e0':=s3.obj s!"Cn{e0}";refine zhM.Qd e0' e3 (by rw [List.length_map,List.length_map];exact Nat.le_of_lt (zf (show 1+ps.length<=1000 by omega))) fun l4 H4 s4 n4 e4=>?_
 have e5:H4 l4=some s!"q{(s!"Ca".map V.int)}":=e4;have hl5:=Mth.zgo m ps;have hl6:(s!"Ca".map V.int).length=ps.length+1:=by rw [List.length_map,hl5]
 obtain ⟨p1,pz,⟨px,hpx⟩,p2⟩:=Mth.zez hP s!"a"
 left;refine zkT (fun i σ H'=>H'=H4/\∃(told x y:Int) (z1 z2 z3:Option V),σ=[some s!"AE",some s!"C3",some s!"4{l4}",some s!"!{told}",z1,z2,z3]/\s!"Ca"[ps.length-i]? =some x/\s!"Ca"[ps.length-1-i]? =some y/\told=Mth.D x y) ⟨rfl,0,0,px,_,_,_,rfl,pz,hpx,(Mth.zff (Int.zero_emod _)).symm⟩ ?_ ?_
 ·rintro i σ H' hi ⟨rfl,told,x,y,z1,z2,z3,rfl,hx,hy,rfl⟩;have hi':i+1<ps.length:=by omega
  obtain ⟨hh,lo,f1,f2,f3,f4,f5,f6,f7⟩:=Mth.zey (ps.length-2-i) hP s!"a" s!"a"
  rw [show ps.length-2-i+2=ps.length-i by omega,hx] at f3
  rw [show ps.length-2-i+1=ps.length-1-i by omega,hy] at f2
  cases f2;cases f3;have g1:Int.gcd hh y=1:=by rw [f7,hg]
  have b1:=Mth.zqR (a:=hh) f4 g1;have b2:y*y<=hh*hh:=Int.mul_le_mul s!"a" s!"a" s!"a" s!"a"
  have b3:hh*hh<=10^190*10^190:=Int.mul_le_mul s!"a" s!"a" s!"a" s!"c"
  have b4:0<=y*y:=Int.mul_nonneg s!"a" s!"a"
  have eD:Mth.D (hh%y) y=Mth.D hh y:=Mth.zlV f4;rw [eD];left;refine ya (ns:=Mth.nums m ps) (by walk_at "h") s!"a" s!"a" fun v _ hv=>?_
  rw [show (((s!"Ca".map V.int).length:Int)-2-(i:Int)).toNat=ps.length-1-i by omega,hy] at hv
  cases hv;left;refine ya (ns:=Mth.nums m ps) (by walk_at "h") s!"a" s!"a" fun v _ hv=>?_
  rw [show (((s!"Ca".map V.int).length:Int)-2-(i:Int)-1).toNat=ps.length-2-i by omega,f1] at hv
  cases hv;left;refine ⟨rfl,_,y,hh,_,_,_,rfl,by rw [show ps.length-(i+1)=ps.length-1-i by omega];exact hy,by rw [show ps.length-1-(i+1)=ps.length-2-i by omega];exact f1,Mth.zqS f4 f5⟩
 ·rintro σ H' ⟨rfl,told,x,y,z1,z2,z3,rfl,hx,hy,rfl⟩;have hx':s!"Ca"[1]? =some x:=by
   rw [<-hx];congr 1;omega
  have hy':s!"Ca"[0]? =some y:=by
   rw [<-hy];congr 1;omega
  rw [p2] at hx';cases hx';cases hy';rw [Mth.zlV s!"a"]
  left;exact q _ (by walk_at "sm")
theorem zjz {a m:Int} (h:Int.gcd a m=1):(Int.gcd a m:Int)*Mth.D (a / (Int.gcd a m:Int)) (m / (Int.gcd a m:Int))=Mth.D a m:=by
 rw [h];simp
def tw (a m:Int):Int:=(Int.gcd a m:Int)*Mth.D (a / (Int.gcd a m:Int)) (m / (Int.gcd a m:Int))
def zsD (c:Addr):Sp:=fun vs H Q E=>∃a m:Int,vs=[.int a,.int m]/\m<10^190/\(m<1->E s!"A8" none H)/\(1<=m->∀H',Same H H'->Q s!"!{tw a m}" H')
theorem zjA {a m:Int} (hm:1<=m):0<(Int.gcd a m:Int)/\(Int.gcd a m:Int)<=m/\1<=m / (Int.gcd a m:Int)/\m / (Int.gcd a m:Int)<=m/\Int.gcd (a / (Int.gcd a m:Int)) (m / (Int.gcd a m:Int))=1:=by
 have g0:=Int.gcd_pos_of_ne_zero_right a (show m≠0 by omega)
 refine ⟨by omega,Int.le_of_dvd s!"a" s!"I4",?_,Int.ediv_le_self _ s!"a",Int.gcd_ediv_gcd_ediv_gcd g0⟩
 have:=Int.ediv_pos_of_pos_of_dvd (show 0<m by omega) (show (0:Int)<=(Int.gcd a m:Int) by omega) s!"I4"
 omega
theorem zsE {a m:Int} (h:Int.gcd a m=1):tw a m=Mth.D a m:=zjz h
theorem zjB (F:Src K mg "twelve" zdl ["a","m"]) (B:Blt mg) (C:Cls K mg base) (R:Rel K mg base C) (Kc:Cst K mg) (D_need_from:s!"m{1}{"need_from"}{["least","number"]}G[") (D_shared:s!"m{1}{"shared"}{["a","b"]}{zl6}") (D_twelve_apart:s!"m{3}{"twelve_apart"}{["a","m"]}{zsC}"):Def P w K mg base s!"v" 4 "twelve" ["a","m"] s!"I5":=by
 refine F.okX (CX:=CXE P w) (k:=3) zeD s!"x" s!"1"
 ·obtain ⟨_,_,rfl,_⟩:=h;rfl
 have nd:=zeD.nd;obtain ⟨a,m,rfl,hM,h1,h2⟩:=h;refine ⟨_,s!"d@kG]&blAsdz{2}k{D_shared}&Glepg^[k{D_twelve_apart}&bgBny[bgBn*[f",?_⟩
 walk_at "ds";refine zc [some s!"AE",some s!"C3",none] rfl ?_;left;refine ⟨_,_,rfl,by omega,h1,fun hm=>?_⟩
 obtain ⟨g0,g1,g2,g3,g4⟩:=zjA (a:=a) hm;left;refine ⟨_,_,rfl,g2,by omega,g4,fun H1 s1=>?_⟩
 have b1:=Mth.zqR (show 0<m / (Int.gcd a m:Int) by omega) g4
 have b2:m / (Int.gcd a m:Int)*(m / (Int.gcd a m:Int))<=10^190*10^190:=Int.mul_le_mul s!"a" s!"a" s!"a" s!"c"
 have b3:0<=m / (Int.gcd a m:Int)*(m / (Int.gcd a m:Int)):=Int.mul_nonneg s!"a" s!"a"
 left;exact h2 hm H1 s1
def zpu:Sp:=fun vs H Q _=>∃(t:Addr) (a b c d:Int),vs=[.ref t]/\Tab H t a b c d/\a.natAbs<10^190/\b.natAbs<10^190/\c.natAbs<10^190/\d.natAbs<10^190/\Q s!"/{(decide (a*d-b*c=1))}" H
theorem zgu (F:Src K mg "is_table" zaY ["table"]) (B:Blt mg) (C:Cls K mg base) (R:Rel K mg base C) (Kc:Cst K mg) (D_is_pair_of_wholes:s!"m{2}{"is_pair_of_wholes"}{["thing"]}{zsA}"):Def P w K mg base s!"v" 3 "is_table" ["table"] zpu:=by
 refine F.ok (CX:=CXE P w) (k:=2) zcr s!"x" s!"1"
 ·obtain ⟨_,_,_,_,_,rfl,_⟩:=h;rfl
 have nd:=zcr.nd;obtain ⟨t,a,b,c,d,rfl,⟨r,s,e1,e2,e3⟩,b1,b2,b3,b4,q⟩:=h;refine ⟨_,s!"d5BkBFA|A4AcB#B$B%bybBBFgFhFifC?_D'CWlCbd5BkBFA|A4kGA;b{@pe_ix _ _ _ _ _ _ _ ix_A s!"y" pe_int (fun _ _=>rfl)}fC?A|A4kGA;b{@pe_ix _ _ _ _ _ _ _ ix_A s!"y" pe_int (fun _ _=>rfl)}fCbepA.A$gA:I6I6l",?_⟩
 walk_at "ds";refine zc [some s!">"] rfl ?_;left;walk_at "ite"
 ·rename_i c;exact absurd rfl c
 left;refine ⟨_,_,_,rfl,e2,?_⟩;left;refine ⟨_,_,_,rfl,e3,?_⟩;left;exact q
def zdt (cX:Addr):Sp:=fun vs H Q E=>∃(t:Addr) (a b c d:Int),vs=[.ref t]/\Tab H t a b c d/\a.natAbs<10^190/\b.natAbs<10^190/\c.natAbs<10^190/\d.natAbs<10^190/\(a*d-b*c=1->Q .non H)/\(a*d-b*c≠1->E s!"D(" none H)
theorem zdF (F:Src K mg "need_table" x8 ["table"]) (B:Blt mg) (C:Cls K mg base) (R:Rel K mg base C) (Kc:Cst K mg) (D_is_table:s!"m{3}{"is_table"}{["table"]}{zpu}"):Def P w K mg base s!"v" 4 "need_table" ["table"] (zdt C.NoTable.addr):=by
 refine F.okX (CX:=CXE P w) (k:=3) zaC s!"x" s!"1"
 ·obtain ⟨_,_,_,_,_,rfl,_⟩:=h;rfl
 have nd:=zaC.nd;obtain ⟨t,a,b,c,d,rfl,T,b1,b2,b3,b4,q1,q2⟩:=h;refine ⟨_,s!"e5A|A4k{D_is_table}&AkeC-{(C.NoTable).own}",?_⟩
 walk_at "ds";refine zc [some s!">"] rfl ?_;left;refine ⟨_,_,_,_,_,rfl,T,b1,b2,b3,b4,?_⟩
 by_cases z:a*d-b*c=1
 ·rw [decide_eq_true z];left;exact q1 z
 ·rw [decide_eq_false z];left;exact q2 z
def zsF:Sp:=fun vs H Q _=>∃(u t:Addr) (x y a b c d:Int),vs=[.ref u,.ref t]/\H u=some s!"0{[.int x,.int y]}"/\Tab H t a b c d/\x.natAbs<10^190/\y.natAbs<10^190/\a.natAbs<10^190/\b.natAbs<10^190/\c.natAbs<10^190/\d.natAbs<10^190/\∀r H',Same H H'->H' r=some s!"0{[.int (x*a+y*c),.int (x*b+y*d)]}"->Q s!"Al" H'
theorem zcB (F:Src K mg "row_together" xi ["row","table"]) (B:Blt mg) (C:Cls K mg base) (R:Rel K mg base C) (Kc:Cst K mg):Def P w K mg base s!"v" 1 "row_together" ["row","table"] zsF:=by
 refine F.ok (CX:=CXE P w) (k:=0) ww s!"x" s!"1"
 ·obtain ⟨_,_,_,_,_,_,_,_,rfl,_⟩:=h;rfl
 have nd:=ww.nd;obtain ⟨u,t,x,y,a,b,c,d,rfl,e,⟨r,s,e1,e2,e3⟩,b1,b2,b3,b4,b5,b6,q⟩:=h;refine ⟨_,s!"ep3bI7bI7f",?_⟩
 walk_at "ds";refine zc [some s!"C4",some s!">"] rfl ?_;left;rename_i p H1 s1 n1 f1;exact q p H1 s1 f1
def zsG:Sp:=fun vs H Q _=>∃(t u:Addr) (a b c d e f g h:Int),vs=[.ref t,.ref u]/\Tab H t a b c d/\Tab H u e f g h/\a*d-b*c=1/\e*h-f*g=1/\(a.natAbs<10^190/\b.natAbs<10^190/\c.natAbs<10^190/\d.natAbs<10^190)/\(e.natAbs<10^190/\f.natAbs<10^190/\g.natAbs<10^190/\h.natAbs<10^190)/\∀r H',Same H H'->Tab H' r (a*e+b*g) (a*f+b*h) (c*e+d*g) (c*f+d*h)->Q s!"Al" H'
theorem zgv (F:Src K mg "together" zaZ ["one","other"]) (B:Blt mg) (C:Cls K mg base) (R:Rel K mg base C) (Kc:Cst K mg) (D_need_table:s!"m{4}{"need_table"}{["table"]}C'") (D_row_together:s!"m{1}{"row_together"}{["row","table"]}{zsF}"):Def P w K mg base s!"v" 5 "together" ["one","other"] zsG:=by
 refine F.ok (CX:=CXE P w) (k:=4) zcs s!"x" s!"1"
 ·obtain ⟨_,_,_,_,_,_,_,_,_,_,rfl,_⟩:=h;rfl
 have nd:=zcs.nd;obtain ⟨t,u,a,b,c,d,e,f,g,h,rfl,T,U,d1,d2,⟨b1,b2,b3,b4⟩,⟨b5,b6,b7,b8⟩,q⟩:=h;refine ⟨_,s!"dGpd@kDQ;Asep3bI8bI8f",?_⟩
 walk_at "ds";refine zc [some s!">",some s!"C4"] rfl ?_;left;refine ⟨_,_,_,_,_,rfl,T,b1,b2,b3,b4,fun _=>?_,fun z=>absurd d1 z⟩
 left;refine ⟨_,_,_,_,_,rfl,U,b5,b6,b7,b8,fun _=>?_,fun z=>absurd d2 z⟩
 obtain ⟨r,s,e1,e2,e3⟩:=T.ex;left;refine ⟨_,_,_,_,_,_,_,_,rfl,e2,U,b1,b2,b5,b6,b7,b8,fun r1 H1 s1 f1=>?_⟩
 left;refine ⟨_,_,_,_,_,_,_,_,rfl,s1.obj e3,U.same s1,b3,b4,b5,b6,b7,b8,fun r2 H2 s2 f2=>?_⟩
 left;rename_i p H3 s3 n3 f3;exact q p H3 (by walk_at "sm") ⟨r1,r2,f3,s3.obj s!"CY",s3.obj f2⟩
def zsH:Sp:=fun vs H Q _=>∃(t:Addr) (a b c d:Int),vs=[.ref t]/\Tab H t a b c d/\a*d-b*c=1/\a.natAbs<10^190/\b.natAbs<10^190/\c.natAbs<10^190/\d.natAbs<10^190/\∀r H',Same H H'->Tab H' r d (-b) (-c) a->Q s!"Al" H'
theorem zhp (F:Src K mg "back_of" zb5 ["table"]) (B:Blt mg) (C:Cls K mg base) (R:Rel K mg base C) (Kc:Cst K mg) (D_need_table:s!"m{4}{"need_table"}{["table"]}C'"):Def P w K mg base s!"v" 5 "back_of" ["table"] zsH:=by
 refine F.ok (CX:=CXE P w) (k:=4) zdm s!"x" s!"1"
 ·obtain ⟨_,_,_,_,_,rfl,_⟩:=h;rfl
 have nd:=zdm.nd;obtain ⟨t,a,b,c,d,rfl,T,det,b1,b2,b3,b4,q⟩:=h;refine ⟨_,s!"dGpep3b3bAZb{@pe_un _ _ _ _ _ _ un_neg s!"AZ"}fb3b{@pe_un _ _ _ _ _ _ un_neg s!"AZ"}bAZff",?_⟩
 walk_at "ds";refine zc [some s!">"] rfl ?_;left;refine ⟨_,_,_,_,_,rfl,T,b1,b2,b3,b4,fun _=>?_,fun z=>absurd det z⟩
 obtain ⟨r,s,e1,e2,e3⟩:=T.ex;left;rename_i p1 H1 s1 n1 f1 p2 H2 s2 n2 f2 p3 H3 s3 n3 f3;exact q p3 H3 (by walk_at "sm") ⟨p1,p2,f3,s3.obj s!"CY",s3.obj f2⟩
def zqZ:Sp:=fun vs H Q _=>∃n:Int,vs=[.int n]/\Q s!"I9" H
theorem zq0 {n:Int} (h:Q s!"I9" H):zqZ [.int n] H Q E:=⟨n,rfl,h⟩
local macro_rules|`(tactic|walk_at "rdcall")=>`(tactic|(with_reducible refine zq0 ?_))
theorem zca (F:Src K mg "sign_of_whole" yJ ["number"]) (B:Blt mg) (C:Cls K mg base) (R:Rel K mg base C) (Kc:Cst K mg):Def P w K mg base s!"v" 1 "sign_of_whole" ["number"] zqZ:=by
 refine F.ok (CX:=CXE P w) (k:=0) xN s!"x" s!"1"
 ·obtain ⟨_,rfl,_⟩:=h;rfl
 have nd:=xN.nd;obtain ⟨n,rfl,q⟩:=h;refine ⟨_,s!"d5_A$yleplepJ+_B&yl",?_⟩;walk_at "ds";refine zc [some s!"C2"] rfl ?_;left;walk_at "ite"
 ·rename_i c;subst c;left;exact q
 ·rename_i c;left;walk_at "ite"
  ·rename_i c2;rw [Mth.zqT c2] at q;left;exact q
  ·rename_i c2;rw [Mth.zqU s!"a"] at q
   left;exact q
def zid:Sp:=fun vs H Q _=>∃(t:Addr) (a b c d:Int),vs=[.ref t]/\Tab H t a b c d/\a*d-b*c=1/\a.natAbs<10^180/\b.natAbs<10^180/\c.natAbs<10^180/\d.natAbs<10^180/\∀H',Same H H'->Q s!"!{Mth.Ph a b c d}" H'
theorem zfm (F:Src K mg "number_of" wS ["table"]) (B:Blt mg) (C:Cls K mg base) (R:Rel K mg base C) (Kc:Cst K mg) (D_need_table:s!"m{4}{"need_table"}{["table"]}C'") (D_twelve:s!"m{4}{"twelve"}{["a","m"]}I5"):Def P w K mg base s!"v" 5 "number_of" ["table"] zid:=by
 refine F.ok (CX:=CXE P w) (k:=4) zbp s!"x" s!"1"
 ·obtain ⟨_,_,_,_,_,rfl,_⟩:=h;rfl
 have nd:=zbp.nd;obtain ⟨t,a,b,c,d,rfl,T,det,b1,b2,b3,b4,q⟩:=h;refine ⟨_,s!"dGpdz{1}AZdz{2}AZd5_A$*lepg^AZ[epgBngA:g'AZ[k{D_twelve};b[I!*",?_⟩
 walk_at "ds";refine zc [some s!">",none,none] rfl ?_;left;refine ⟨_,_,_,_,_,rfl,T,by omega,by omega,by omega,by omega,fun _=>?_,fun z=>absurd det z⟩
 obtain ⟨r,s,e1,e2,e3⟩:=T.ex;left;walk_at "ite"
 ·rename_i c0;subst c0;left;rw [<-Mth.zs0 a b d];exact q _ s!"Af"
 ·rename_i c0;have sp:=Mth.zoo c0 det;have gg:Int.gcd d (c.natAbs:Int)=1:=by rw [Mth.zh4];exact Mth.zh3 det
  left;rename_i z hz;subst hz;refine ⟨_,_,rfl,by omega,(fun k=>by exfalso;omega),fun _ H1 s1=>?_⟩
  rw [zsE gg]
  by_cases cp:0<c
  ·left;rw [<-sp,Int.mul_ediv_cancel_left _ c0];exact q _ s1
  ·left;rw [<-sp,Int.mul_fdiv_cancel_left _ c0];exact q _ s1
def zq1:Sp:=fun vs H Q _=>∃(t:Addr) (a b c d:Int),vs=[.ref t]/\Tab H t a b c d/\a*d-b*c=1/\a.natAbs<10^180/\b.natAbs<10^180/\c.natAbs<10^180/\d.natAbs<10^180/\∀H',Same H H'->Q s!"!{Mth.Ps a b c d}" H'
theorem zfn (F:Src K mg "steady_of" wT ["table"]) (B:Blt mg) (C:Cls K mg base) (R:Rel K mg base C) (Kc:Cst K mg) (D_number_of:s!"m{5}{"number_of"}{["table"]}{zid}") (D_sign_of_whole:s!"m{1}{"sign_of_whole"}{["number"]}{zqZ}"):Def P w K mg base s!"v" 6 "steady_of" ["table"] zq1:=by
 refine F.ok (CX:=CXE P w) (k:=5) zbq s!"x" s!"1"
 ·obtain ⟨_,_,_,_,_,rfl,_⟩:=h;rfl
 have nd:=zbq.nd;obtain ⟨t,a,b,c,d,rfl,T,det,b1,b2,b3,b4,q⟩:=h;refine ⟨_,s!"dz{1}kFj;AkepgA:*g^lk{D_sign_of_whole};bg^AZg'AZAZf",?_⟩
 walk_at "ds";refine zc [some s!">",none] rfl ?_;left;refine ⟨_,_,_,_,_,rfl,T,det,b1,b2,b3,b4,fun H1 s1=>?_⟩
 obtain ⟨r,s,e1,e2,e3⟩:=(T.same s1).ex;left;exact q _ s1
def zie (H:Hp) (v:V) (b:Bool) (n:Int):Prop:=∃p,v=.ref p/\H p=some s!"0{[.str s!"CS",.int n]}"/\1<=n
def za4 (H:Hp) (v:V):Prop:=∃b n,zie H v b n
def KR (H:Hp) (v:V):Prop:=(zQ v=true)\/(∃p xs,v=.ref p/\H p=some s!"Ae")\/(∃p xs,v=.ref p/\H p=some s!"6"/\(xs.length=2->∀x∈xs,zQ x=true))
theorem zow (h:zQ v=true) (H:Hp):Kn H v:=by
 cases v with
 | int i=>exact .inl ⟨i,rfl⟩
 | bl b=>exact .inr s!"${⟨b,rfl⟩}"
 | str s=>exact .inr s!"u${⟨s,rfl⟩}"
 | non=>exact .inr s!"uuAa"
 | _=>cases h
theorem KR.same (k:KR H v) (s:Same H H'):KR H' v:=by
 rcases k with k | ⟨p,xs,e,h⟩ | ⟨p,xs,e,h,k⟩
 ·exact .inl k
 ·exact .inr s!"${⟨p,xs,e,s.obj h⟩}"
 ·exact .inr s!"u{⟨p,xs,e,s.obj h,k⟩}"
theorem zie.same {b:Bool} {n:Int} (r:zie H v b n) (s:Same H H'):zie H' v b n:=by
 obtain ⟨p,e,h,k⟩:=r;exact ⟨p,e,s.obj h,k⟩
theorem za4.back (k:KR H v) (s:Same H H') (r:za4 H' v):za4 H v:=by
 obtain ⟨b,n,p,rfl,h,n1⟩:=r;rcases k with k | ⟨q,xs,e,h'⟩ | ⟨q,xs,e,h',_⟩
 ·cases k
 ·cases e;rw [s.obj h'] at h;cases h
 ·cases e;have:=s.obj h';rw [this] at h;cases h;exact ⟨b,n,p,rfl,h',n1⟩
def zpv:Sp:=fun vs H Q _=>∃v:V,vs=[v]/\KR H v/\(za4 H v->∀H',Same H H'->Q s!"Bs" H')/\(¬za4 H v->∀H',Same H H'->Q s!"Ct" H')
theorem zal {p:Addr} {o:HO} (h:H p=some o) (n:∀b k,1<=k->o≠.tup [.str s!"CS",.int k]):¬za4 H s!")":=by
 rintro ⟨b,k,q,e,h',k1⟩;cases e;rw [h] at h';exact n b k k1 s!"Hl"
theorem zox {x y x' y':V} (h:HO.tup [x,y]=HO.tup [x',y']):x=x'/\y=y':=by
 injection h with h
 injection h with h1 h2
 injection h2 with h2 _
 exact ⟨h1,h2⟩
theorem zpw {x:V} (f:zQ x=true):inV x [.str "u",.str "v"]=true↔∃b,x=.str s!"CS":=by
 constructor
 ·intro h;cases x with
  | str s=>
   have:s="u"\/s="v":=by
    by_cases h1:s="u"
    ·exact .inl h1
    ·by_cases h2:s="v"
     ·exact .inr h2
     ·exfalso;simp [inV,eqV,Ne.symm h1,Ne.symm h2,h1,h2] at h
   rcases this with rfl | rfl
   ·exact ⟨true,rfl⟩
   ·exact ⟨false,rfl⟩
  | _=>simp [inV,eqV] at h
 ·rintro ⟨b,rfl⟩;cases b <;> rfl
theorem zjC (F:Src K mg "is_run" zdn ["thing"]) (B:Blt mg) (C:Cls K mg base) (R:Rel K mg base C) (Kc:Cst K mg) (D_is_whole:s!"m{1}{"is_whole"}{["thing"]}{zqY}"):Def P w K mg base s!"v" 2 "is_run" ["thing"] zpv:=by
 refine F.ok (CX:=CXE P w) (k:=1) zeE s!"x" s!"1"
 ·obtain ⟨_,rfl,_⟩:=h;rfl
 have nd:=zeE.nd;obtain ⟨v,rfl,k,q1,q2⟩:=h;refine ⟨_,s!"d5BkBFA|A4AcB#B$B%bybBBFgFhFifC?_D'CWlCbepBE{@pe_cmpR _ _ _ _ _ _ _ _ op_in_seq (@pe_ix _ _ _ _ _ _ _ ix_A s!"y" pe_int (fun _ _=>rfl)) s!"Gq" rfl}BEGkC=A.DR{@pe_ix _ _ _ _ _ _ _ ix_A s!"y" pe_int (fun _ _=>rfl)}l",?_⟩
 walk_at "ds";refine zc [some v] rfl ?_;rcases k with k | ⟨p,xs,rfl,e⟩ | ⟨p,xs,rfl,e,k⟩
 ·have q:=q2 (by rintro ⟨b,n,p,rfl,_⟩;cases k) _ s!"Af"
  cases v with
  | int i=>left;exact q
  | bl b=>left;exact q
  | str s=>left;exact q
  | non=>left;exact q
  | _=>cases k
 ·have q:=q2 (zal e fun b k _ z=>by cases z) _ s!"Af"
  left;exact q
 ·left;walk_at "ite"
  ·rename_i c;left;exact q2 (zal e fun b k _ z=>by cases z;exact c rfl) _ s!"Af"
  ·rename_i c
   match xs,c,e,k with
   | [x,y],_,e,k=>
   have fx:=k rfl x s!"j"
   have fy:=k rfl y s!"j"
   left;rename_i t H1 s1 n1 e1;have e':=s1.obj e;refine ⟨t,_,rfl,.inr s!"A5{e1}",fx,rfl,?_⟩;show kB s!"/{inV x [.str "u",.str "v"]}" H1 _;cases hin:inV x [.str "u",.str "v"] with
   | false=>
    left;exact q2 (zal e fun b k _ z=>by cases z;rw [(zpw rfl).mpr ⟨b,rfl⟩] at hin;cases hin) _ s1
   | true=>
    obtain ⟨b,rfl⟩:=(zpw fx).mp hin;left;refine ⟨_,rfl,zow fy _,?_⟩
    by_cases hI:∃i,y=.int i
    ·obtain ⟨i,rfl⟩:=hI;rw [show isI (V.int i)=true from rfl]
     left
     by_cases hi:1<=i
     ·rw [decide_eq_true (show i>=1 from hi)]
      exact q1 ⟨b,i,p,rfl,e,hi⟩ _ s1
     ·rw [decide_eq_false (show ¬i>=1 from hi)]
      exact q2 (zal e fun b k k1 z=>by have:=(zox z).2;cases this;exact hi k1) _ s1
    ·have e0:isI y=false:=by cases y <;> first | rfl | exact absurd ⟨_,rfl⟩ hI
     rw [e0];left;exact q2 (zal e fun b k k1 z=>hI ⟨_,(zox z).2⟩) _ s1
def KW (H:Hp) (v:V):Prop:=(zQ v=true)\/(∃p xs,v=.ref p/\H p=some s!"6")\/(∃p xs,v=.ref p/\H p=some s!"Ae"/\xs.length<=900/\∀x∈xs,KR H x)
def xS (H:Hp) (v:V) (ws:List (Bool×Int)):Prop:=∃D,v=.ref D/\WordL H D ws/\Mth.Alt ws/\(∀p∈ws,1<=p.2)/\ws.length<=900
def zgw (H:Hp) (v:V):Prop:=∃ws,xS H v ws
theorem xS.same (g:xS H v ws) (s:Same H H'):xS H' v ws:=by
 obtain ⟨D,e,W,k⟩:=g;exact ⟨D,e,W.same s,k⟩
theorem zeH:∀{xs:List V},(∀x∈xs,za4 H x)->∃(as:List Addr) (ws:List (Bool×Int)),xs=as.map V.ref/\as.length=ws.length/\(∀(i:Nat) (x:Addr) (p:Bool×Int),as[i]? =some x->ws[i]? =some p->H x=some s!"0{[.str (ltr p.1),.int p.2]}")/\∀p∈ws,1<=p.2
 | [],_=>⟨[],[],rfl,rfl,fun i x p h=>by simp at h,fun p h=>by simp at h⟩
 | x::r,h=>by
  obtain ⟨b,n,p,rfl,e,n1⟩:=h x (List.mem_cons_self ..);obtain ⟨as,ws,rfl,l,T,P⟩:=zeH (xs:=r) fun y hy=>h y s!"Eu"
  refine ⟨p::as,(b,n)::ws,rfl,by simp [l],fun i x q hx hq=>?_,fun q hq=>?_⟩
  ·cases i with
   | zero=>cases hx;cases hq;exact e
   | succ j=>exact T j x q hx hq
  ·rcases List.mem_cons.mp hq with rfl | hq
   ·exact n1
   ·exact P q hq
theorem WordL.runs (W:WordL H D ws) (P:∀p∈ws,1<=p.2) (e:H D=some s!"Ae"):∀x∈xs,za4 H x:=by
 obtain ⟨as,eD,la,T⟩:=W.ex;rw [e] at eD;cases eD;intro x hx;obtain ⟨u,hu,rfl⟩:=List.mem_map.mp hx;obtain ⟨i,hi⟩:=List.getElem?_of_mem hu;obtain ⟨p,hp⟩:∃p,ws[i]? =some p:=⟨_,List.getElem?_eq_getElem (by have:=s!"C[".1;omega)⟩
 exact ⟨p.1,p.2,u,rfl,T i u p hi hp,P p s!"BR"⟩
theorem WordL.uniq (W:WordL H D ws) (U:WordL H D us):ws=us:=by
 obtain ⟨as,eD,la,T⟩:=W.ex;obtain ⟨bs,eB,lb,S⟩:=U.ex;rw [eD] at eB;have hab:as=bs:=by
  have h:=HO.lst.inj s!"C.{eB}";exact (List.map_inj_right (f:=V.ref) (fun a b h=>by cases h;rfl)).mp h
 subst hab;apply List.ext_getElem?;intro i
 by_cases hi:i<as.length
 ·obtain ⟨x,hx⟩:∃x,as[i]? =some x:=⟨_,List.getElem?_eq_getElem hi⟩;obtain ⟨p,hp⟩:∃p,ws[i]? =some p:=⟨_,List.getElem?_eq_getElem s!"a"⟩
  obtain ⟨q,hq⟩:∃q,us[i]? =some q:=⟨_,List.getElem?_eq_getElem s!"a"⟩
  have e1:=T i x p hx hp;rw [S i x q hx hq] at e1;have h2:=zox s!"C.{e1}";rw [hp,hq];obtain ⟨b,n⟩:=p;obtain ⟨c,m⟩:=q;have en:m=n:=by have:=h2.2;cases this;rfl
  have eb:c=b:=by
   have h3:ltr c=ltr b:=V.str.inj h2.1;cases c <;> cases b <;> first | rfl | exact absurd h3 s!"c"
  rw [en,eb]
 ·rw [List.getElem?_eq_none s!"a",List.getElem?_eq_none s!"a"]
theorem zl7 {i:Int} {v:V} (h1:SqL K H a xs) (h0:0<=i) (hv:xs[i.toNat]? =some v) (h:Q v H):zeW K s!"h" s!"]" H Q:=by
 refine zeW.Q0 (v:=v) h1 ?_ h;have e:=yS (xs:=xs) (j:=i.toNat) (v:=v) hv;rw [show ((i.toNat:Nat):Int)=i by omega] at e
 exact e
def zfo (ws:List (Bool×Int)) (k:Nat):Bool:=!decide (ltr ((ws.getD (k-1) (true,0)).1)=ltr ((ws.getD k (true,0)).1))
theorem zif (ws:List (Bool×Int)):(s!"A/{(ws.length-1)}".all fun i=>zfo ws (1+i))=true↔Mth.Alt ws:=by
 rw [List.all_eq_true];constructor
 ·intro h i p q hp hq;have hl:=s!"Dk{hq}".1;have:=h i (List.mem_range.mpr s!"a")
  unfold zfo at this;rw [show 1+i-1=i by omega,show 1+i=i+1 by omega,List.getD_eq_getElem?_getD,List.getD_eq_getElem?_getD,hp,hq] at this
  intro e;rw [show (s!"r{p}".getD (true,0)).1=p.1 from rfl,show (s!"r{q}".getD (true,0)).1=q.1 from rfl,e,decide_eq_true rfl] at this
  cases this
 ·intro h i hi;have hl:=List.mem_range.mp hi;obtain ⟨p,hp⟩:∃p,ws[i]? =some p:=⟨_,List.getElem?_eq_getElem s!"a"⟩
  obtain ⟨q,hq⟩:∃q,ws[i+1]? =some q:=⟨_,List.getElem?_eq_getElem s!"a"⟩
  unfold zfo;rw [show 1+i-1=i by omega,show 1+i=i+1 by omega,List.getD_eq_getElem?_getD,List.getD_eq_getElem?_getD,hp,hq]
  show (!decide (ltr p.1=ltr q.1))=true;rw [decide_eq_false fun e=>h i p q hp hq (by cases hb:p.1 <;> cases hc:q.1 <;> rw [hb,hc] at e <;> first | rfl | exact absurd e s!"c")]
  rfl
def zq2:Sp:=fun vs H Q _=>∃v:V,vs=[v]/\KW H v/\(zgw H v->∀H',Same H H'->Q s!"Bs" H')/\(¬zgw H v->∀H',Same H H'->Q s!"Ct" H')
open Classical in
theorem zhq (F:Src K mg "is_word" zb6 ["word"]) (B:Blt mg) (C:Cls K mg base) (R:Rel K mg base C) (Kc:Cst K mg) (D_is_run:s!"m{2}{"is_run"}{["thing"]}{zpv}"):Def P w K mg base s!"v" 3 "is_word" ["word"] zq2:=by
 refine F.ok (CX:=CXE P w) (k:=2) zdo s!"x" s!"1"
 ·obtain ⟨_,rfl,_⟩:=h;rfl
 have nd:=zdo.nd;obtain ⟨v,rfl,k,q1,q2⟩:=h;refine ⟨_,s!"d5BkBFA|A4AcB#B$B%bybBB{.ty "list"}{B.list}GBfC?A|A4AcC$CoCpbBfE>{fun pins cl ex s H=>s!"k{D_is_run}{yZ}Ak"}fCbepAcC$CoCpb{@pe_compF2 _ _ _ _ _ _ _ _ _ [0] ["word"] rfl (@pi_range2 _ _ _ _ _ _ _ rfl B.range s!"I#" (by rfl) (by rfl)) (fun pins cl ex s H=>s!"A.{zoO}A&{xE}A&{xE}*gA:yllA&{xE}E?l") rfl rfl rfl s!"n" s!"n" rfl s!"n" rfl s!"n" (by intro _;rfl)}f",?_⟩
 walk_at "ds";refine zc [some v] rfl ?_;rcases k with k | ⟨p,xs,rfl,e⟩ | ⟨p,xs,rfl,e,l,k⟩
 ·have q:=q2 (by rintro ⟨ws,D,rfl,_⟩;cases k) _ s!"Af"
  cases v with
  | int i=>left;exact q
  | bl b=>left;exact q
  | str s=>left;exact q
  | non=>left;exact q
  | _=>cases k
 ·have q:=q2 (by rintro ⟨ws,D,hD,W,_⟩;cases hD;obtain ⟨as,eD,_⟩:=W.ex;rw [e] at eD;cases eD) _ s!"Af"
  left;exact q
 ·left;refine wJ ?_;left;refine xK (xs.map fun x=>V.bl (decide s!"E@")) s!"Ad{e}" (List.length_map _) s!"a" (fun i x y H' Q' hx hy s' hQ=>?_) fun D H1 s1 n1 e1=>?_
  ·rw [List.getElem?_map,hx] at hy;cases hy;have kx:=s!"I$".same s';change ∀H2,Same H' H2->Q' s!"/{(decide s!"E@")}" H2 at hQ;left;refine ⟨_,rfl,kx,fun r H2 s2=>?_,fun r H2 s2=>?_⟩
   ·rw [decide_eq_true (r.back s!"I$" s')] at hQ;exact hQ _ s2
   ·rw [decide_eq_false (p:=za4 H x) (fun z=>r (by obtain ⟨b,n,z⟩:=z;exact ⟨b,n,z.same s'⟩))] at hQ
    exact hQ _ s2
  left;refine ⟨D,xs.map fun x=>decide s!"E@",rfl,SqL.of (by rw [e1,List.map_map];rfl),?_⟩
  by_cases all:∀x∈xs,za4 H x
  ·rw [show (xs.map fun x=>decide s!"E@").all id=true by rw [List.all_map];exact List.all_eq_true.mpr fun x hx=>decide_eq_true (all x hx)]
   obtain ⟨as,ws,rfl,la,T,P⟩:=zeH all;have W:WordL H p ws:=⟨as,e,la,T⟩;rw [List.length_map] at l;have e':=s1.obj e;have hlm:s!"D/".length=as.length:=List.length_map _;left;refine ziP [some s!")"] rfl ?_;left;rw [hlm];refine ziQ (fun k=>.bl (zfo ws k.toNat)) s!"a" (fun i k H' Q' hi hk s' hQ=>?_) fun D2 H2 s2 n2 e2=>?_
   ·obtain ⟨x,hx⟩:∃x,as[i]? =some x:=⟨_,List.getElem?_eq_getElem s!"a"⟩
    obtain ⟨y,hy⟩:∃y,as[i+1]? =some y:=⟨_,List.getElem?_eq_getElem s!"a"⟩
    obtain ⟨a,ha⟩:∃a,ws[i]? =some a:=⟨_,List.getElem?_eq_getElem s!"a"⟩
    obtain ⟨b,hb⟩:∃b,ws[i+1]? =some b:=⟨_,List.getElem?_eq_getElem s!"a"⟩
    have ep:=s'.obj e';have ex:=s'.obj s!"B8{T i x a hx ha}";have ey:=s'.obj s!"B8{T (i+1) y b hy hb}";have ek:zfo ws k.toNat=!decide (ltr a.1=ltr b.1):=by
     unfold zfo;rw [show k.toNat-1=i by omega,show k.toNat=i+1 by omega,List.getD_eq_getElem?_getD,List.getD_eq_getElem?_getD,ha,hb]
     rfl
    rw [ek] at hQ;left;refine zl7 (v:=.ref x) s!"Ad{ep}" s!"a" (by rw [List.getElem?_map,show (k-1).toNat=i by omega,hx];rfl) ?_
    left;refine zl7 (v:=.ref y) s!"Ad{ep}" s!"a" (by rw [List.getElem?_map,show k.toNat=i+1 by omega,hy];rfl) ?_
    left;exact hQ _ s!"Af"
   ·left;refine ⟨D2,s!"A/{(ws.length-1)}".map fun i=>zfo ws (1+i),rfl,SqL.of (by rw [e2,List.map_map,show ((as.length:Int)-1).toNat=ws.length-1 by omega];exact congrArg (fun l=>some (HO.lst l)) (List.map_congr_left fun i _=>by show V.bl _=V.bl _;rw [show (1+(i:Int)).toNat=1+i by omega])),?_⟩
    rw [show (s!"A/{(ws.length-1)}".map fun i=>zfo ws (1+i)).all id=s!"A/{(ws.length-1)}".all fun i=>zfo ws (1+i) by rw [List.all_map];rfl]
    by_cases al:Mth.Alt ws
    ·rw [(zif ws).mpr al];exact q1 ⟨ws,p,rfl,W,al,P,by omega⟩ _ s!"At"
    ·rw [Bool.eq_false_iff.mpr fun z=>al ((zif ws).mp z)]
     refine q2 ?_ _ s!"At";rintro ⟨us,D',hD',U,au,_⟩;cases hD';rw [<-WordL.uniq W U] at au;exact al au
  ·rw [show (xs.map fun x=>decide (za4 H x)).all id=false by
    rw [List.all_map];exact Bool.eq_false_iff.mpr fun z=>all fun x hx=>of_decide_eq_true (List.all_eq_true.mp z x hx)]
   left;refine q2 ?_ _ s1;rintro ⟨ws,D',hD',W,_,P,_⟩;cases hD';exact all (WordL.runs W P e)
def zq3 (c:Addr):Sp:=fun vs H Q E=>∃v:V,vs=[v]/\KW H v/\(zgw H v->∀H',Same H H'->Q .non H')/\(¬zgw H v->∀H',Same H H'->E s!"A8" none H')
theorem zfp (F:Src K mg "need_word" wU ["word"]) (B:Blt mg) (C:Cls K mg base) (R:Rel K mg base C) (Kc:Cst K mg) (D_is_word:s!"m{3}{"is_word"}{["word"]}{zq2}"):Def P w K mg base s!"v" 4 "need_word" ["word"] (zq3 C.NoWord.addr):=by
 refine F.okX (CX:=CXE P w) (k:=3) zbr s!"x" s!"1"
 ·obtain ⟨_,rfl,_⟩:=h;rfl
 have nd:=zbr.nd;obtain ⟨v,rfl,k,q1,q2⟩:=h;refine ⟨_,s!"e5A|A4kGC&AkeC-{(C.NoWord).own}",?_⟩
 walk_at "ds";refine zc [some v] rfl ?_;left;refine ⟨_,rfl,k,fun b H1 s1=>?_,fun b H1 s1=>?_⟩
 ·left;exact q1 b _ s1
 ·left;exact q2 b _ s1
def Big (ws:List (Bool×Int)):Prop:=s!"`".1<10^140/\s!"`".2.1<10^140/\s!"`".2.2.1<10^140/\s!"`".2.2.2<10^140
def zpx (c:Addr):Sp:=fun vs H Q E=>∃v:V,vs=[v]/\KW H v/\(∀ws,xS H v ws->Big ws/\∀r H',Same H H'->Tab H' r s!"`".1 s!"`".2.1 s!"`".2.2.1 s!"`".2.2.2->Q s!"Al" H')/\(¬zgw H v->∀H',Same H H'->E s!"A8" none H')
theorem zgx (F:Src K mg "table_of" za0 ["word"]) (B:Blt mg) (C:Cls K mg base) (R:Rel K mg base C) (Kc:Cst K mg) (D_need_word:s!"m{4}{"need_word"}{["word"]}GD"):Def P w K mg base s!"v" 5 "table_of" ["word"] s!"I%":=by
 refine F.okX (CX:=CXE P w) (k:=4) zct s!"x" s!"1"
 ·obtain ⟨_,rfl,_⟩:=h;rfl
 have nd:=zct.nd;obtain ⟨v,rfl,k,q1,q2⟩:=h;refine ⟨_,s!"d@kGE&Akdz{1}ldz{2}ldGmdI&dBhC~GrCceC:_A$D[=dDK{2}g^D[*eDK{4}g^D[?dDK{1}g^D[[eDK{3}g^D[<ep3b3CZb3b?A=f",?_⟩
 walk_at "ds";refine zc [some v,none,none,none,none,none] rfl ?_;left;refine ⟨_,rfl,k,fun b H1 s1=>?_,fun b H1 s1=>q2 b _ s1⟩
 obtain ⟨ws,g⟩:=b;obtain ⟨⟨B1,B2,B3,B4⟩,q⟩:=q1 ws g;obtain ⟨D,rfl,W,al,hw,hN⟩:=g.same s1;obtain ⟨as,eD,la,T⟩:=W.ex;left;refine zcU (xs:=as.map V.ref) (fun i σ H'=>Same H1 H'/\i<=ws.length/\∃(z:Option V) (a b c d:Int),σ=[some s!"%",some s!"AE",some s!"CX",some s!"A>",some s!"!{d}",z]/\Mth.fw s!"Io"=(a,b,c,d)) ⟨Same.refl _,Nat.zero_le _,_,1,0,0,1,rfl,rfl⟩ (fun i σ H' _ h=>SqL.of (h.1.obj eD)) ?_ ?_
 ·rintro i v σ Ha hv ⟨sa,hi',z,a,b,c,d,rfl,wi⟩;rw [List.getElem?_map] at hv;cases hx:as[i]? with
  | none=>rw [hx] at hv;cases hv
  | some u=>
   rw [hx] at hv;cases hv;have hil:i<ws.length:=by have:=s!"Da".1;omega
   obtain ⟨p,hp⟩:∃p,ws[i]? =some p:=⟨_,List.getElem?_eq_getElem hil⟩;have eu:=sa.obj (T i u p hx hp);have p1:=hw p s!"BR";have nx:=Mth.zh6 hp;rw [wi] at nx;obtain ⟨w1,w2,w3,w4⟩:=Mth.zdi (ws:=ws.take i) fun p hp=>hw p s!"Gi"
   obtain ⟨l1,l2,l3,l4⟩:=Mth.zh8 hw i;obtain ⟨m1,m2,m3,m4⟩:=Mth.zh8 hw (i+1);rw [wi] at w1 w2 w3 w4 l1 l2 l3 l4;change 1<=a at w1;change 0<=b at w2;change 0<=c at w3;change 1<=d at w4;change a<=_ at l1;change b<=_ at l2;change c<=_ at l3;change d<=_ at l4;rw [nx] at m1 m2 m3 m4;obtain ⟨pb,pn⟩:=p;change 1<=pn at p1;have g1:pn*1<=pn*a:=Int.mul_le_mul_of_nonneg_left w1 s!"a"
   have g4:pn*1<=pn*d:=Int.mul_le_mul_of_nonneg_left w4 s!"a"
   cases pb with
   | true=>
    change Ha u=some s!"0{[.str "u",.int pn]}" at eu;change b+pn*a<=_ at m2;clear m1 m3 m4;have bn:pn<10^140:=by omega
    left;walk_at "ite"
    rotate_left
    ·rename_i k;exact absurd rfl k
    left;exact ⟨sa,by omega,_,a,b+pn*a,c,d+pn*c,rfl,nx⟩
   | false=>
    change Ha u=some s!"0{[.str "v",.int pn]}" at eu;change c+pn*d<=_ at m3;clear m1 m2 m4;have bn:pn<10^140:=by omega
    left;walk_at "ite"
    ·rename_i k;exact absurd k s!"c"
    left;exact ⟨sa,by omega,_,a+pn*b,b,c+pn*d,d,rfl,nx⟩
 ·rintro σ Ha ⟨sa,_,z,a,b,c,d,rfl,wi⟩;rw [List.length_map,la,List.take_length] at wi;left;rename_i p1 H1' s1' n1 f1 p2 H2 s2 n2 f2 p3 H3 s3 n3 f3;rw [wi] at q;exact q p3 H3 ((((s1.trans sa).trans s1').trans s2).trans s3) ⟨p1,p2,f3,s3.obj s!"CY",s3.obj f2⟩
def zsI:Sp:=fun vs H Q _=>∃(u t:Addr) (c d a b:Int),vs=[.ref u,.ref t]/\H u=some s!"0{[.int c,.int d]}"/\H t=some s!"0{[.int a,.int b]}"/\0<=c/\0<=d/\0<c+d/\c.natAbs<10^190/\d.natAbs<10^190/\∀H',Same H H'->Q s!"!{Mth.tw c d a b}" H'
theorem zcC (F:Src K mg "times_within" xj ["row","other"]) (B:Blt mg) (C:Cls K mg base) (R:Rel K mg base C) (Kc:Cst K mg):Def P w K mg base s!"v" 1 "times_within" ["row","other"] zsI:=by
 refine F.ok (CX:=CXE P w) (k:=0) wx s!"x" s!"1"
 ·obtain ⟨_,_,_,_,_,_,rfl,_⟩:=h;rfl
 have nd:=wx.nd;obtain ⟨u,t,c,d,a,b,rfl,e1,e2,h1,h2,h3,b1,b2,q⟩:=h;refine ⟨_,s!"epAc{ziZ rfl}DSDTb{@zhj _ _ _ _ _ _ _ _ _ _ _ [0,1] ["row","other"] rfl s!"ClBD3blBaB53blBa" (fun pins cl ex s H=>s!"_B&E?l") (fun pins cl ex s H=>s!"gBnI*E?") rfl rfl rfl s!"n" s!"n" rfl s!"n" rfl s!"n" (by intro _;rfl)}f",?_⟩
 walk_at "ds";refine zc [some s!"C4",some s!">"] rfl ?_;left;refine ziV [some s!"C4",some s!">"] rfl ?_;left;rename_i p H1 s1 n1 f1;refine zfZ (fun v=>match v with | .int n=>decide (0<(if n=0 then c else d)) | _=>false) (fun v=>match v with | .int n=>.int (if n=0 then a / c else b / d) | v=>v) s!"A5{f1}" s!"c" (fun x H' Q' hx s' hQ=>?_) (fun x H' Q' hx hp s' hQ=>?_) fun D H2 s2 n2 f2=>?_
 ·have e1':=s'.obj s!"B8{e1}";rcases List.mem_cons.mp hx with rfl | hx
  ·left;exact hQ
  ·rcases List.mem_cons.mp hx with rfl | hx
   ·left;exact hQ
   ·cases hx
 ·have e1':=s'.obj s!"B8{e1}";have e2':=s'.obj s!"B8{e2}";rcases List.mem_cons.mp hx with rfl | hx
  ·have c0:0<c:=of_decide_eq_true hp;left;exact hQ
  ·rcases List.mem_cons.mp hx with rfl | hx
   ·have c0:0<d:=of_decide_eq_true hp;left;exact hQ
   ·cases hx
 left
 by_cases c0:0<c
 ·by_cases d0:0<d
  ·refine ze1 (ns:=[a / c,b / d]) s!"Ad{by rw [f2];simp [c0,d0]}" s!"j" fun M hM hm=>?_
   have e:M=Mth.tw c d a b:=by
    unfold Mth.tw;rw [if_pos c0,if_pos d0];have k1:=hm (a / c) s!"j"
    have k2:=hm (b / d) s!"j"
    simp at hM;omega
   rw [e];left;exact q _ s!"At"
  ·refine ze1 (ns:=[a / c]) s!"Ad{by rw [f2];simp [c0,d0]}" s!"j" fun M hM hm=>?_
   have e:M=Mth.tw c d a b:=by
    unfold Mth.tw;rw [if_pos c0,if_neg d0];simpa using hM
   rw [e];left;exact q _ s!"At"
 ·have d0:0<d:=by omega
  refine ze1 (ns:=[b / d]) s!"Ad{by rw [f2];simp [c0,d0]}" s!"j" fun M hM hm=>?_
  have e:M=Mth.tw c d a b:=by
   unfold Mth.tw;rw [if_neg c0];simpa using hM
  rw [e];left;exact q _ s!"At"
def zsJ:Sp:=fun vs H Q _=>∃(u t:Addr) (c d a b n:Int),vs=[.ref u,.ref t,.int n]/\H u=some s!"0{[.int c,.int d]}"/\H t=some s!"0{[.int a,.int b]}"/\c.natAbs<10^190/\d.natAbs<10^190/\n.natAbs<10^190/\∀r H',Same H H'->H' r=some s!"0{[.int (a-n*c),.int (b-n*d)]}"->Q s!"Al" H'
theorem zfq (F:Src K mg "taken_off" wV ["row","other","often"]) (B:Blt mg) (C:Cls K mg base) (R:Rel K mg base C) (Kc:Cst K mg):Def P w K mg base s!"v" 1 "taken_off" ["row","other","often"] zsJ:=by
 refine F.ok (CX:=CXE P w) (k:=0) zbs s!"x" s!"1"
 ·obtain ⟨_,_,_,_,_,_,_,rfl,_⟩:=h;rfl
 have nd:=zbs.nd;obtain ⟨u,t,c,d,a,b,n,rfl,e1,e2,b1,b2,b3,q⟩:=h;refine ⟨_,s!"ep3bI+bI+f",?_⟩
 walk_at "ds";refine zc [some s!"C4",some s!">",some s!"C2"] rfl ?_;left;rename_i p H1 s1 n1 f1;exact q p H1 s1 f1
structure WGood (a b c d:Int) (ws:List (Bool×Int)):Prop where
 eq:ws=Mth.zhm a b c d
 alt:Mth.Alt ws
 pos:∀p∈ws,1<=p.2
 fw:Mth.fw ws=(a,b,c,d)
 len:ws.length<=940
 len60:a<10^60->b<10^60->c<10^60->d<10^60->ws.length<=410
def zl8 (cW:Addr):Sp:=fun vs H Q E=>∃(t:Addr) (a b c d:Int),vs=[.ref t]/\Tab H t a b c d/\a*d-b*c=1/\a.natAbs<10^180/\b.natAbs<10^180/\c.natAbs<10^180/\d.natAbs<10^180/\((a<0\/b<0\/c<0\/d<0)->E s!"4{cW}" none H)/\(0<=a->0<=b->0<=c->0<=d->a<10^140/\b<10^140/\c<10^140/\d<10^140/\∀D H' ws,Same H H'->H D=none->WordL H' D ws->WGood a b c d ws->Q s!"%" H')
theorem zl9 {t:Addr} {a:Int} (T:Tab H t a b c d) (det:a*d-b*c=1) (a0:0<=a) (b0:0<=b) (c0:0<=c) (d0:0<=d) (a1:a<10^140) (b1:b<10^140) (c1:c<10^140) (d1:d<10^140) (h:∀D H' ws,Same H H'->H D=none->WordL H' D ws->WGood a b c d ws->Q s!"%" H'):zl8 cW [.ref t] H Q E:=
 ⟨t,a,b,c,d,rfl,T,det,by omega,by omega,by omega,by omega,fun z=>by omega,fun _ _ _ _=>⟨a1,b1,c1,d1,h⟩⟩
theorem zoy {t:Addr} {a:Int} (T:Tab H t a b c d) (det:a*d-b*c=1) (n1:a.natAbs<10^180) (n2:b.natAbs<10^180) (n3:c.natAbs<10^180) (n4:d.natAbs<10^180) (ng:a<0\/b<0\/c<0\/d<0) (h:E s!"4{cW}" none H):zl8 cW [.ref t] H Q E:=
 ⟨t,a,b,c,d,rfl,T,det,n1,n2,n3,n4,fun _=>h,fun _ _ _ _=>by omega⟩
theorem zhr (F:Src K mg "word_of" zb7 ["table"]) (B:Blt mg) (C:Cls K mg base) (R:Rel K mg base C) (Kc:Cst K mg) (D_need_table:s!"m{4}{"need_table"}{["table"]}C'") (D_times_within:s!"m{1}{"times_within"}{["row","other"]}{zsI}") (D_taken_off:s!"m{1}{"taken_off"}{["row","other","often"]}{zsJ}"):Def P w K mg base s!"v" 5 "word_of" ["table"] (zl8 C.NoWord.addr):=by
 refine F.okX (CX:=CXE P w) (k:=4) zdp s!"x" s!"1"
 ·obtain ⟨_,_,_,_,_,rfl,_⟩:=h;rfl
 have nd:=zdp.nd;obtain ⟨t,a,b,c,d,rfl,T,det,n1,n2,n3,n4,qe,qg⟩:=h;obtain ⟨tOWN_TABLE,r0,s0,mOWN_TABLE,kT⟩:=Kc.OWN_TABLE;refine ⟨_,s!"d@kDQ&AkdI,dI-d5_{xV}Ac{zi2 rfl}DSDTbA[bA[bCdI.leC-{(C.NoWord).own}dGsdFaC~_GF3CZBC4{tOWN_TABLE}{mOWN_TABLE}Aydz{4}kGG&b[AseC:I/dz{1}kGH&b[b*A=e@AwANAOAPAQ?b3b=A=fdz{4}kGG&CZdz{2}kGH&b*b[A=e@AwANAOAPAQ?b3b=A=fGo",?_⟩
 walk_at "ds";refine zc [some s!">",none,none,none,none] rfl ?_;left;refine ⟨_,_,_,_,_,rfl,T,by omega,by omega,by omega,by omega,fun _=>?_,fun z=>absurd det z⟩
 obtain ⟨r,s,e1,e2,e3⟩:=T.ex;left;rename_i M hM m1 m2 m3 m4;walk_at "ite"
 ·left;exact qe s!"a"
 have a0:0<=a:=by omega
 have b0:0<=b:=by omega
 have c0:0<=c:=by omega
 have d0:0<=d:=by omega
 obtain ⟨a1,b1,c1,d1,q⟩:=qg a0 b0 c0 d0;left;rename_i D H1 sD nD eD;refine zbd (fun m σ H'=>Same H H'/\∃(x y z w:Int) (p q:Addr) (o:Option V) (ws:List (Bool×Int)),m=(x+y+z+w).toNat/\σ=[some s!">",some s!")",some s!"4{q}",some s!"%",o]/\H' p=some s!"0{[.int x,.int y]}"/\H' q=some s!"0{[.int z,.int w]}"/\WordL H' D ws/\Mth.WS a b c d x y z w ws) _ ⟨sD,a,b,c,d,r,s,_,[],rfl,rfl,sD.obj e2,sD.obj e3,WordL.nil eD,Mth.WS.start det a0 b0 c0 d0⟩ ?_
 rintro m σ H2 ⟨s2,x,y,z,w,p,q',o,ws,rfl,rfl,ep,eq',W,S⟩;have x0:=S.pa;have y0:=S.pb;have z0:=S.pc;have w0:=S.pd;have x1:=S.sma;have y1:=S.smb;have z1:=S.smc;have w1:=S.smd;obtain ⟨g1,g2⟩:=Mth.zat S.det x0 y0 z0 w0;have ln:=S.len a1 b1 c1 d1;obtain ⟨as,eW,la,TW⟩:=W.ex;left;rename_i pr H3 s3 n3 e3';have ep3:=s3.obj ep;have eq3:=s3.obj eq';refine zkX (Cmp.tabs s!"A5{e3'}" (kT.t _) s!"A5{ep3}" s!"A5{eq3}" (kT.r _) (kT.s _)) ?_;left;walk_at "ite"
 ·rename_i no;have no:¬(x=1/\y=0/\z=0/\w=1):=no;obtain ⟨t0,t1,t2,_⟩:=Mth.x5 z0 w0 x0 y0 g2;left;refine ⟨_,_,_,_,_,_,rfl,eq3,ep3,z0,w0,g2,by omega,by omega,fun H4 s4=>?_⟩
  left;walk_at "ite"
  ·rename_i hn;have S':=S.u no hn;generalize hN:Mth.tw z w x y=n at*;have nb:n<10^190:=by
    have k1:n*1<=n*(z+w):=Int.mul_le_mul_of_nonneg_left s!"a" s!"a"
    rw [Int.mul_add] at k1;omega
   left;refine ⟨_,_,_,_,_,_,_,rfl,s4.obj eq3,s4.obj ep3,by omega,by omega,by omega,fun p5 H5 s5 e5=>?_⟩
   left;rename_i pt Ht st nt et;have s35:=s!"C%".trans s!"DP{st}";refine zJ (xs:=as.map V.ref) s!"E^" (by rw [List.length_map,la];exact zf s!"a") ?_
   left;have hm1:0<n*z+n*w:=by
    have:0<n*(z+w):=Int.mul_pos hn g2;rw [Int.mul_add] at this;omega
   refine ⟨_,?_,(s2.trans s35).upd nD,x-n*z,y-n*w,z,w,p5,q',_,ws++[(true,n)],rfl,rfl,?_,?_,?_,S'⟩
   ·omega
   ·have k:=st.obj e5;rw [zd (fun z=>by rw [z,s35.obj eW] at k;cases k)]
    exact k
   ·have k:=s35.obj eq';rw [zd (fun z=>by rw [z,s35.obj eW] at k;cases k)]
    exact k
   ·have:=WordL.snoc (p:=(true,n)) s!"E^" la (fun i x p hx hp=>s35.obj (TW i x p hx hp)) et
    rw [List.map_append] at this;exact this
  ·rename_i hn;have S':=S.v no hn;have hl:=S.low no hn;obtain ⟨u0,u1,u2,_⟩:=Mth.x5 x0 y0 z0 w0 g1;left;refine ⟨_,_,_,_,_,_,rfl,s4.obj ep3,s4.obj eq3,x0,y0,g1,by omega,by omega,fun H6 s6=>?_⟩
   left;generalize hN:Mth.tw x y z w=n at*;have nb:n<10^190:=by
    have k1:n*1<=n*(x+y):=Int.mul_le_mul_of_nonneg_left s!"a" s!"a"
    rw [Int.mul_add] at k1;omega
   refine ⟨_,_,_,_,_,_,_,rfl,s6.obj (s4.obj ep3),s6.obj (s4.obj eq3),by omega,by omega,by omega,fun p5 H5 s5 e5=>?_⟩
   left;rename_i pt Ht st nt et;have s35:=(s!"C%".trans s6).trans s!"DP{st}";refine zJ (xs:=as.map V.ref) s!"E^" (by rw [List.length_map,la];exact zf s!"a") ?_
   left;have hm1:0<n*x+n*y:=by
    have:0<n*(x+y):=Int.mul_pos hl g1;rw [Int.mul_add] at this;omega
   refine ⟨_,?_,(s2.trans s35).upd nD,x,y,z-n*x,w-n*y,p,p5,_,ws++[(false,n)],rfl,rfl,?_,?_,?_,S'⟩
   ·omega
   ·have k:=s35.obj ep;rw [zd (fun z=>by rw [z,s35.obj eW] at k;cases k)]
    exact k
   ·have k:=st.obj e5;rw [zd (fun z=>by rw [z,s35.obj eW] at k;cases k)]
    exact k
   ·have:=WordL.snoc (p:=(false,n)) s!"E^" la (fun i x p hx hp=>s35.obj (TW i x p hx hp)) et
    rw [List.map_append] at this;exact this
 ·rename_i yes;have yes:x=1/\y=0/\z=0/\w=1:=yes;obtain ⟨rfl,rfl,rfl,rfl⟩:=yes;obtain ⟨f1,f2⟩:=S.fin;left;exact q D H3 ws s!"B@" nD (W.same s3) ⟨f2,S.alt,S.pos,f1,ln,fun h1 h2 h3 h4=>S.len60 h1 h2 h3 h4⟩
def zfr:Sp:=fun vs H Q _=>∃t:Str,vs=[.str t]/\Asc t/\t.length<=10000/\∀H',Same H H'->Q s!"/{zn t}" H'
theorem zfs (F:Src K mg "is_number" wW ["text"]) (B:Blt mg) (C:Cls K mg base) (R:Rel K mg base C) (Kc:Cst K mg):Def P w K mg base s!"v" 1 "is_number" ["text"] zfr:=by
 refine F.ok (CX:=CXE P w) (k:=0) zbt s!"x" s!"1"
 ·obtain ⟨_,rfl,_⟩:=h;rfl
 have nd:=zbt.nd;obtain ⟨t,rfl,ta,tl,q⟩:=h;have tz:t.length<=sizeLine:=Nat.le_trans tl s!"c"
 have fa:=zlq ta;have fl:=zlr t;have fz:s!"Aj".length<=sizeLine:=Nat.le_trans fl tz;refine ⟨_,s!"dz{1}{@zba _ _ _ _ _ _ _ _ s!"A4AwASGIGJGKyD)" s!"Dn{sl_str}yE_Dr" s!"y"}d5BkBF_A$*=BF_B&AcGLDsDtAsBC!{60}{Kc.MOST_FIGURES.choose_spec}{⟨_,rfl⟩}C?A|A4AcC$CoCpbBf{@pi_str _ _ _ _ s!"*"}{fun pins cl ex s H=>(@pe_cmpR _ _ _ _ _ _ _ _ zlo s!"y" s!"BCo{"0123456789"}{Kc.FIGURES.choose_spec}{⟨_,rfl⟩}" rfl)}fCbep{@pe_or _ _ _ _ _ _ _ s!"A.A$y=" s!"C={@pe_not _ _ _ _ s!"AwASGIGJGK*D)"}"}",?_⟩
 walk_at "ds";refine zc [some s!"|",none] rfl ?_;left;refine (fun (hX:Hide (?hXX:Prop))=>?hXa) ⟨?hXb⟩
 case hXa=>
  walk_at "ite"
  ·rename_i c;have e:Txt.slice t s!"BW" none=zF t:=(if_pos c).symm;left;rw [e];exact hX.out
  ·rename_i c;have e:t=zF t:=(if_neg (by rw [c];decide)).symm
   left;have z:=hX.out;rw [<-e] at z;exact z
 walk_at "ite"
 ·rename_i c;left;have z:=q _ s!"Af";rw [show zn t=false by unfold zn;rw [decide_eq_true c];rfl] at z
  exact z
 rename_i c1;left;walk_at "ite"
 ·rename_i c;left;have z:=q _ s!"Af";rw [show zn t=false by unfold zn;rw [decide_eq_false (show ¬s!"Aj".length<=60 by omega),Bool.and_false];rfl] at z
  exact z
 rename_i c2;have l60:s!"Aj".length<=60:=by omega
 left;refine zeh (fun c=>.bl (decide (48<=c) && decide (c<=57))) fa (by show s!"Aj".length<=1000;omega) (fun i c H' Q' hc s' hQ=>?_) fun D H2 s2 n2 e2=>?_
 ·left;rw [zn9 (fa.at hc)];exact hQ _ s!"Af"
 left;refine ⟨D,s!"Aj".cps.toList.map (fun c=>decide (48<=c) && decide (c<=57)),rfl,SqL.of (by rw [List.map_map];exact e2),?_⟩
 have ea:(s!"Aj".cps.toList.map (fun c=>decide (48<=c) && decide (c<=57))).all id=zaT s!"Aj":=by
  unfold zaT;rw [List.all_map];rfl
 rw [ea];have z:=q _ s2;have ez:zn t=(zaT s!"Aj" && (decide (t="0") || !Txt.startswith s!"Aj" "0")):=by
  unfold zn;rw [decide_eq_false c1,decide_eq_true l60];rfl
 rw [ez] at z;cases hf:zaT s!"Aj"
 ·rw [hf] at z;left;exact z
 ·rw [hf] at z;left;walk_at "ite"
  ·rename_i c;rw [decide_eq_true c] at z;exact z
  ·rename_i c;rw [decide_eq_false c] at z;left;exact z
def zma:Sp:=fun vs H Q _=>∃(t:Addr) (a b c d:Int),vs=[.ref t]/\Tab H t a b c d/\a*d-b*c=1/\a.natAbs<10^190/\b.natAbs<10^190/\c.natAbs<10^190/\d.natAbs<10^190/\∀H',Same H H'->Q s!"I:" H'
theorem zdu (F:Src K mg "shown_table" xF ["table"]) (B:Blt mg) (C:Cls K mg base) (R:Rel K mg base C) (Kc:Cst K mg) (D_need_table:s!"m{4}{"need_table"}{["table"]}C'"):Def P w K mg base s!"v" 5 "shown_table" ["table"] zma:=by
 refine F.okX (CX:=CXE P w) (k:=4) wX s!"x" s!"1"
 ·obtain ⟨_,_,_,_,_,rfl,_⟩:=h;rfl
 have nd:=wX.nd;obtain ⟨t,a,b,c,d,rfl,T,det,b1,b2,b3,b4,q⟩:=h;refine ⟨_,s!"d@kDQ&AkepAwASBKBLBM=bBfClBDg{xu}{@pe_ix _ _ _ _ _ _ _ ix_A s!"y" pe_int (fun _ _=>rfl)}{@pe_ix _ _ _ _ _ _ _ ix_A s!"y" pe_int (fun _ _=>rfl)}B5g{xu}{@pe_ix _ _ _ _ _ _ _ ix_A s!"y" pe_int (fun _ _=>rfl)}{@pe_ix _ _ _ _ _ _ _ ix_A s!"y" pe_int (fun _ _=>rfl)}{fun pins cl ex s H=>s!"Bg{yx}BoBpAk"}f",?_⟩
 walk_at "ds";refine zc [some s!">"] rfl ?_;left;refine ⟨_,_,_,_,_,rfl,T,b1,b2,b3,b4,fun _=>?_,fun z=>absurd det z⟩
 obtain ⟨r,s',e1,e2,e3⟩:=T;have sm:∀n∈[a,b,c,d],yN n:=fun n hn=>by
  have k:(10:Nat)^190<10^570:=by decide
  simp only [List.mem_cons,List.not_mem_nil,or_false] at hn;unfold yN;rcases hn with rfl | rfl | rfl | rfl <;> omega
 left;refine zcZ ?_;left;refine zbf e2 e3 (show 2+2<=1000 by decide) fun u H1 s1 eu=>?_
 left;refine zc7 ([a,b,c,d].map fun n=>V.str (zx n)) (SqT.of (xs:=[a,b,c,d].map V.int) eu) rfl (by show 4<=1000;decide) (fun i x y H' Q' hx hy s2 hQ=>?_) fun D H2 s2 n2 e2=>?_
 ·rw [List.getElem?_map] at hx hy;cases hw:[a,b,c,d][i]? with
  | none=>rw [hw] at hx;cases hx
  | some n=>
  rw [hw] at hx hy;cases hx;cases hy;have ln:=s!"I;".log;left;exact hQ _ s!"Af"
 left;refine yo [zx a,zx b,zx c,zx d] s!"B`" (yV (k:=571) s!"c" (by show 4<=1000;decide) (fun w hw=>?_) s!"c") ?_
 ·obtain ⟨n,hn,rfl⟩:=List.mem_map.mp (show w∈[a,b,c,d].map zx from hw)
  exact (sm n hn).len
 exact q _ s!"At"
def zpy:Sp:=fun vs H Q _=>∃(r:Addr) (p:Bool×Int),vs=[.ref r]/\H r=some s!"0{[.str (ltr p.1),.int p.2]}"/\yN p.2/\Q s!"o{yE p}" H
theorem zft (F:Src K mg "shown_run" wY ["run"]) (B:Blt mg) (C:Cls K mg base) (R:Rel K mg base C) (Kc:Cst K mg):Def P w K mg base s!"v" 1 "shown_run" ["run"] zpy:=by
 refine F.ok (CX:=CXE P w) (k:=0) zbu s!"x" s!"1"
 ·obtain ⟨_,_,rfl,_⟩:=h;rfl
 have nd:=zbu.nd;obtain ⟨r,p,rfl,er,hp,q⟩:=h;refine ⟨_,s!"dI,dI-ep{@zar _ _ _ _ _ _ s!"DNIvDN=DN{@zeY _ _ _ _ s!"["}{PJ.nil}"}",?_⟩
 walk_at "ds";refine zc [some s!"Al",none,none] rfl ?_;have lp:=hp.log;have zp:s!"BA{toString p.2}".length<=571:=hp.len;have zl:=zcN p.1;left;rw [Str.empty_append];exact q
def zpz:Sp:=fun vs H Q _=>∃(D:Addr) (ws:List (Bool×Int)),vs=[.ref D]/\xS H s!"%" ws/\(∀p∈ws,yN p.2)/\∀H',Same H H'->Q s!"Gt" H'
theorem xS.kw (g:xS H v ws):KW H v:=by
 obtain ⟨D,rfl,⟨as,e,l,T⟩,_,_,hl⟩:=g;refine .inr s!"u{⟨D,_,rfl,e,by rw [List.length_map,l];exact hl,fun x hx=>?_⟩}"
 obtain ⟨u,hu,rfl⟩:=List.mem_map.mp hx;obtain ⟨i,hi⟩:=List.getElem?_of_mem hu;obtain ⟨p,hp⟩:∃p,ws[i]? =some p:=⟨_,List.getElem?_eq_getElem (by have:=s!"C[".1;omega)⟩
 refine .inr s!"u{⟨u,_,rfl,T i u p hi hp,fun _ y hy=>?_⟩}"
 simp only [List.mem_cons,List.not_mem_nil,or_false] at hy;rcases hy with rfl | rfl <;> rfl
theorem zdG (F:Src K mg "shown_word" x9 ["word"]) (B:Blt mg) (C:Cls K mg base) (R:Rel K mg base C) (Kc:Cst K mg) (D_need_word:s!"m{4}{"need_word"}{["word"]}GD") (D_shown_run:s!"m{1}{"shown_run"}{["run"]}{zpy}"):Def P w K mg base s!"v" 5 "shown_word" ["word"] zpz:=by
 refine F.okX (CX:=CXE P w) (k:=4) zaD s!"x" s!"1"
 ·obtain ⟨_,_,rfl,_⟩:=h;rfl
 have nd:=zaD.nd;obtain ⟨D,ws,rfl,g,sm,q⟩:=h;refine ⟨_,s!"d@kGE&Akd5_ByyB'epBCo{"none"}GM{⟨_,rfl⟩}epAwASBKBLBM=bBfE>{fun pins cl ex s H=>s!"k{D_shown_run}{yZ}Ak"}f",?_⟩
 walk_at "ds";refine zc [some s!"%"] rfl ?_;left;refine ⟨_,rfl,g.kw,fun _ H1 s1=>?_,fun z=>absurd ⟨ws,g⟩ z⟩
 have g1:=g.same s1;obtain ⟨D',eD,⟨as,e,l,T⟩,_,_,hl⟩:=id g1;cases eD;left;rename_i L2 H2 s2 n2 e2;have s12:=s1.trans s2
 by_cases hw:ws=[]
 ·subst hw;obtain rfl:as=[]:=List.length_eq_zero_iff.mp l;refine yi (b:=true) ((Cmp.lst (d:=3) (fun _=>true) s!"Gu" s!"B`" rfl (fun i x y h=>by simp at h)).to (zi0 fun _ _=>rfl)) ?_
  left;exact q _ s12
 ·have ne:as≠[]:=fun z=>hw s!"C/{by rw [<-l,z];rfl}"
  refine yi (b:=false) (Cmp.lens (d:=3) s!"Gu" s!"B`" (by rw [List.length_map];exact fun z=>ne s!"C/{z}")) ?_
  left;refine wJ ?_;left;refine xK (s!"AX".map V.str) s!"Gu" (by rw [List.length_map,List.length_map,List.length_map,l]) (by rw [List.length_map,l];omega) (fun i x y H' Q' hx hy s' hQ=>?_) fun D3 H3 s3 n3 e3=>?_
  ·rw [List.getElem?_map] at hx hy;rw [List.getElem?_map] at hy;cases hu:as[i]? with
   | none=>rw [hu] at hx;cases hx
   | some u=>
   rw [hu] at hx;cases hx;obtain ⟨p,hp⟩:∃p,ws[i]? =some p:=⟨_,List.getElem?_eq_getElem (by have:=s!"Il".1;omega)⟩
   rw [hp] at hy;cases hy;have eu:=s'.obj s!"Cn{T i u p hu hp}";left;exact ⟨_,_,rfl,eu,sm p s!"BR",hQ _ s!"Af"⟩
  left;refine yo s!"AX" s!"Bz" (yV (k:=600) s!"c" (by rw [List.length_map];omega) (fun w hw=>?_) s!"c") ?_
  ·obtain ⟨p,hp,rfl⟩:=List.mem_map.mp hw;exact zgb (sm p hp)
  have z:=q _ s!"Db";rw [show yp ws=Txt.join " " s!"AX" from if_neg hw] at z
  exact z
def zcP (cX:Addr):Sp:=fun vs H Q E=>∃b:Bool,vs=[.bl b]/\(b=false->E s!"D(" none H)/\(b=true->Q .non H)
theorem zfu (F:Src K mg "need_text" wZ ["holds"]) (B:Blt mg) (C:Cls K mg base) (R:Rel K mg base C) (Kc:Cst K mg):Def P w K mg base s!"v" 1 "need_text" ["holds"] (zcP C.NoText.addr):=by
 refine F.okX (CX:=CXE P w) (k:=0) zbv s!"x" s!"1"
 ·obtain ⟨_,rfl,_⟩:=h;rfl
 have nd:=zbv.nd;obtain ⟨b,rfl,q0,q1⟩:=h;refine ⟨_,s!"e5A|A4yeC-{(C.NoText).own}",?_⟩
 walk_at "ds";refine zc [some s!"Br"] rfl ?_;cases b
 ·left;exact q0 rfl
 ·left;exact q1 rfl
def zcw (ws:List Str):Prop:=ws.length<=1000/\∀w∈ws,Asc w/\w.length<=10000
def zfv (K:PySem.W.Frag) (cX:Addr):Sp:=fun vs H Q E=>∃(l:Addr) (ws:List Str),vs=[.ref l]/\SqL K H l s!"D="/\zcw ws/\(ws.all zn=false->∀H',Same H H'->E s!"D(" none H')/\(ws.all zn=true->∀D H',Same H H'->H D=none->H' D=some s!"q{((ws.map ye).map V.int)}"->Q s!"%" H')
def Tx (t:Str):Prop:=Asc t/\t.length<=900
theorem Tx.sz (h:Tx t):t.length<=sizeLine:=Nat.le_trans h.2 s!"c"
theorem Tx.ok (h:Tx t) (c:Nat):zcw (Txt.split t ⟨#[c]⟩):=⟨Nat.le_trans (zen t c) (by have:=h.2;omega),fun w hw=>⟨h.1.split hw,Nat.le_trans (wO hw).1 (by have:=h.2;omega)⟩⟩
theorem zoz {ws:List Str} (al:ws.all zn=true) (e:ws.map ye=ns):∀n∈ns,n.natAbs<10^60:=fun n hn=>by
 subst e;obtain ⟨w,hw,rfl⟩:=List.mem_map.mp hn;exact zga (List.all_eq_true.mp al w hw)
theorem zcD (F:Src K mg "read_numbers" xk ["pieces"]) (B:Blt mg) (C:Cls K mg base) (R:Rel K mg base C) (Kc:Cst K mg) (D_is_number:s!"m{1}{"is_number"}{["text"]}{zfr}") (D_need_text:s!"m{1}{"need_text"}{["holds"]}Fk"):Def P w K mg base s!"v" 2 "read_numbers" ["pieces"] (zfv K C.NoText.addr):=by
 refine F.okX (CX:=CXE P w) (k:=1) wy s!"x" s!"1"
 ·obtain ⟨_,_,rfl,_⟩:=h;rfl
 have nd:=wy.nd;obtain ⟨l,ws,rfl,hl,⟨w1,w2⟩,q0,q1⟩:=h;refine ⟨_,s!"d@kC`&bAcC$CoCpbBfE>{fun pins cl ex s H=>s!"kGN{yZ}Ak"}ffepBfE>{fun pins cl ex s H=>s!"Bg{zei}FeFfAk"}",?_⟩
 walk_at "ds";refine zc [some s!"~"] rfl ?_;left;refine wJ ?_;left;refine xK (ws.map fun w=>V.bl (zn w)) hl (by rw [List.length_map,List.length_map]) (by rw [List.length_map];exact w1) (fun i x y H' Q' hx hy s' hQ=>?_) fun D H1 s1 n1 e1=>?_
 ·rw [List.getElem?_map] at hx hy;cases hw:ws[i]? with
  | none=>rw [hw] at hx;cases hx
  | some w=>
  rw [hw] at hx hy;cases hx;cases hy;obtain ⟨a1,a2⟩:=w2 w s!"I<";left;exact ⟨_,rfl,a1,a2,fun H2 s2=>hQ _ s2⟩
 left;refine ⟨D,ws.map zn,rfl,SqL.of (by rw [List.map_map];exact e1),?_⟩
 rw [show (ws.map zn).all id=ws.all zn by rw [List.all_map];rfl]
 left;refine ⟨_,rfl,fun z=>q0 z _ s1,fun z=>?_⟩
 left;refine wJ ?_;left;refine xK ((ws.map ye).map V.int) (s1.seq hl) (by rw [List.length_map,List.length_map,List.length_map]) (by rw [List.length_map];exact w1) (fun i x y H' Q' hx hy s' hQ=>?_) fun D2 H2 s2 n2 e2=>?_
 ·rw [List.getElem?_map] at hx hy;rw [List.getElem?_map] at hy;cases hw:ws[i]? with
  | none=>rw [hw] at hx;cases hx
  | some w=>
  rw [hw] at hx hy;cases hx;cases hy;obtain ⟨a1,a2⟩:=zf9 (List.all_eq_true.mp z w s!"I<");left;refine zn6 a1 s!"DL{a2}" ?_
  exact hQ _ s!"Af"
 exact q1 z D2 H2 s!"At" (s1.none n2) e2
def zbH (t:Str) (a b c d:Int):Prop:=s!"Bb".all zn=true/\s!"Bb".map ye=[a,b,c,d]
def zpA (cX cT:Addr):Sp:=fun vs H Q E=>∃t:Str,vs=[.str t]/\Tx t/\(∀a b c d,zbH t a b c d->a*d-b*c=1->∀D H',Same H H'->Tab H' D a b c d->Q s!"%" H')/\(∀a b c d,zbH t a b c d->a*d-b*c≠1->∀H',Same H H'->E s!"E<" none H')/\((∀a b c d,¬zbH t a b c d)->∀H',Same H H'->E s!"D(" none H')
theorem zbH.lt {a:Int} (h:zbH t a b c d):a.natAbs<10^60/\b.natAbs<10^60/\c.natAbs<10^60/\d.natAbs<10^60:=by
 have k:=zoz h.1 h.2;exact ⟨k a s!"j",k b s!"j",k c s!"j",k d s!"j"⟩
theorem zcQ {n:Int} (h:n.natAbs<10^60):n.natAbs<10^190:=Nat.lt_trans h s!"c"
theorem zdH (F:Src K mg "read_table" wa ["text"]) (B:Blt mg) (C:Cls K mg base) (R:Rel K mg base C) (Kc:Cst K mg) (D_need_text:s!"m{1}{"need_text"}{["holds"]}Fk") (D_read_numbers:s!"m{2}{"read_numbers"}{["pieces"]}GO") (D_need_table:s!"m{4}{"need_table"}{["table"]}C'"):Def P w K mg base s!"v" 5 "read_table" ["text"] s!"I=":=by
 refine F.okX (CX:=CXE P w) (k:=4) zaE s!"x" s!"1"
 ·obtain ⟨_,rfl,_⟩:=h;rfl
 have nd:=zaE.nd;obtain ⟨t,rfl,tx,q1,q2,q0⟩:=h;have tz:=tx.sz;have ok:=tx.ok 32;rw [<-zaB] at ok;refine ⟨_,s!"d@kC`&bAcB#B$B%bybBBFlBoBpffdz{1}kGP&bI>fd@kC`&bA.A$E|lfdz{2}3b3bA[bA[fb3bA[bA[ffd@kDQ&AYE=",?_⟩
 walk_at "ds";refine zc [some s!"|",none,none] rfl ?_;left;refine ⟨_,rfl,(fun z=>by cases z),fun _=>?_⟩
 left;refine zc9 s!"n" tz _ rfl s!"DL{ok.1}" fun D H1 s1 n1 e1=>?_
 left;refine ⟨_,_,rfl,SqL.of e1,ok,(fun z H2 s2=>q0 (fun a b c d f=>by rw [f.1] at z;cases z) H2 s!"At"),fun al D2 H2 s2 n2 e2=>?_⟩
 have s12:=s1.trans s2;generalize hns:s!"Bb".map ye=ns at*;have hl:s!"Ao".length=ns.length:=List.length_map _;left;refine ⟨_,rfl,fun z=>q0 (fun a b c d f=>?_) _ s12,fun z=>?_⟩
 ·have f:=f.2;rw [hns] at f;rw [f] at z;cases z
 obtain ⟨a,b,c,d,rfl⟩:∃a b c d,ns=[a,b,c,d]:=by
  have z:=of_decide_eq_true z
  match ns,(show ns.length=4 by omega) with
  | [a,b,c,d],_=>exact ⟨a,b,c,d,rfl⟩
 have F:zbH t a b c d:=⟨al,hns⟩;obtain ⟨k1,k2,k3,k4⟩:=F.lt;left;rename_i p1 H3 s3 n3 e3 p2 H4 s4 n4 e4 p3 H5 s5 n5 e5;have T:Tab H5 p3 a b c d:=⟨p1,p2,e5,s!"C&".obj e3,s5.obj e4⟩;have s15:=s12.trans s!"Ce";refine ⟨_,_,_,_,_,rfl,T,zcQ k1,zcQ k2,zcQ k3,zcQ k4,fun det=>?_,fun det=>q2 a b c d F det H5 s15⟩
 left;exact q1 a b c d F det p3 H5 s15 T
def zjD (ps:List Str) (ws:List (Bool×Int)):Prop:=ps.length=2*ws.length/\∀(i:Nat) (p:Bool×Int),ws[i]? =some p->ps[2*i]? =some (ltr p.1)/\∃n,ps[2*i+1]? =some n/\zn n=true/\ye n=p.2/\1<=p.2
def RW (t:Str) (ws:List (Bool×Int)):Prop:=(t=Str.ofString "none"/\ws=[])\/(t≠Str.ofString "none"/\zjD s!"Bb" ws/\Mth.Alt ws)
theorem zjD.small (h:zjD ps ws):∀p∈ws,1<=p.2/\p.2.natAbs<10^60:=fun p hp=>by
 obtain ⟨i,hi⟩:=List.getElem?_of_mem hp;obtain ⟨_,n,_,h1,h2,h3⟩:=h.2 i p hi;exact ⟨h3,by rw [<-h2];exact zga h1⟩
def zpB (cX:Addr):Sp:=fun vs H Q E=>∃t:Str,vs=[.str t]/\Tx t/\(∀ws,RW t ws->ws.length<=460->∀D H',Same H H'->H D=none->xS H' s!"%" ws->Q s!"%" H')/\((∀ws,¬RW t ws)->∀H',Same H H'->E s!"D(" none H')
theorem zjD.nums (h:zjD ps ws):s!"Cf".all zn=true:=by
 rw [List.all_eq_true];intro w hw;obtain ⟨i,hi⟩:=List.getElem?_of_mem hw;rw [wP,List.getElem?_drop] at hi;have hl:=s!"C[".1;have h0:=h.1;obtain ⟨p,hp⟩:∃p,ws[i]? =some p:=⟨_,List.getElem?_eq_getElem s!"a"⟩
 obtain ⟨_,n,h1,h2,_⟩:=h.2 i p hp;rw [show 1+2*i=2*i+1 by omega,h1] at hi
 cases hi;exact h2
theorem zfw (F:Src K mg "read_word" w6 ["text"]) (B:Blt mg) (C:Cls K mg base) (R:Rel K mg base C) (Kc:Cst K mg) (D_need_text:s!"m{1}{"need_text"}{["holds"]}Fk") (D_read_numbers:s!"m{2}{"read_numbers"}{["pieces"]}GO") (D_is_word:s!"m{3}{"is_word"}{["word"]}{zq2}"):Def P w K mg base s!"v" 4 "read_word" ["text"] s!"I?":=by
 refine F.okX (CX:=CXE P w) (k:=3) zbw s!"x" s!"1"
 ·obtain ⟨_,rfl,_⟩:=h;rfl
 have nd:=zbw.nd;obtain ⟨t,rfl,tx,q1,q0⟩:=h;have tz:=tx.sz;have ok:=tx.ok 32;have pl:=zen t 32;rw [<-zaB] at ok pl;have tl:=tx.2;refine ⟨_,s!"d@kC`&bAcB#B$B%bybBBFlBoBpffd5_A$yBCo{"none"}GM{⟨_,rfl⟩}epB'dz{1}I>dG<{2}I@dG<{3}kGP&bI@fd@kC`&bA.A$GnAc{call_lenA}DsDtE~fd{@zgn _ 4 _ _ _ _ _ _ _ _ _ _ _ [2,3] ["letters","numbers"] rfl s!"DMbGnf" (fun pins cl ex s H=>s!"3bE?bI*f") rfl rfl rfl s!"n" s!"n" rfl s!"n" rfl s!"n" nd rfl s!"Ag" (by rfl) (by walk_at "lo") (by intro _;rfl)}d@kC`&bkGC&A=fep<",?_⟩
 walk_at "ds";refine zc [some s!"|",none,none,none,none] rfl ?_;left;refine ⟨_,rfl,(fun z=>by cases z),fun _=>?_⟩
 left;walk_at "ite"
 ·rename_i c;left;rename_i L H1 s1 n1 e1;exact q1 [] s!"${⟨c,rfl⟩}" s!"c" L H1 s1 n1 ⟨L,rfl,WordL.nil e1,fun i x y h=>by simp at h,fun p hp=>s!"Ir".elim,by decide⟩
 rename_i cn;left;refine zc9 s!"n" tz _ rfl s!"DL{ok.1}" fun D H1 s1 n1 e1=>?_
 generalize hps:Txt.split t " "=ps at*;left;refine zhX 0 rfl s!"c" s!"B0" fun D2 H2 s2 n2 e2=>?_
 have e2:H2 D2=some s!"q{(s!"Dc".map V.str)}":=by
  rw [List.drop_zero,zda] at e2;exact e2
 left;refine zhX 1 rfl s!"c" s!"AdE'" fun D3 H3 s3 n3 e3=>?_
 have e3:H3 D3=some s!"q{(s!"Cf".map V.str)}":=by
  rw [<-List.map_drop,zda] at e3;exact e3
 have s13:=s1.trans s!"B@";have ok3:zcw s!"Cf":=by
  refine ⟨Nat.le_trans (zdb _) (by rw [List.length_drop];have:=ok.1;omega),fun w hw=>?_⟩
  obtain ⟨i,hi⟩:=List.getElem?_of_mem hw;rw [wP,List.getElem?_drop] at hi;exact ok.2 w s!"B3{hi}"
 left;refine ⟨_,_,rfl,SqL.of e3,ok3,fun z H4 s4=>q0 (fun ws r=>?_) H4 (s13.trans s4),fun al D4 H4 s4 n4 e4=>?_⟩
 ·rcases r with ⟨r,_⟩ | ⟨_,r,_⟩
  ·exact cn r
  ·rw [hps] at r;rw [r.nums] at z;cases z
 have s14:=s13.trans s4;have e2:=s!"C%".obj e2;have l2:(s!"Dc".map V.str).length=(ps.length+1) / 2:=by rw [List.length_map,zW]
 have l4:((s!"Cf".map ye).map V.int).length=ps.length / 2:=by
  rw [List.length_map,List.length_map,zW,List.length_drop];have:1<=ps.length:=by
   cases hz:ps with
   | nil=>
    rw [hz,zaB] at hps;exact absurd hps (xL t 32)
   | cons _ _=>simp
  omega
 left;refine ⟨_,rfl,fun z=>q0 (fun ws r=>?_) H4 s14,fun z=>?_⟩
 ·rw [l2,l4] at z;rcases r with ⟨r,_⟩ | ⟨_,r,_⟩
  ·exact cn r
  ·rw [hps] at r;have:=r.1;exact of_decide_eq_false z s!"a"
 rw [l2,l4] at z;have z:=of_decide_eq_true z;obtain ⟨m,hm⟩:∃m,ps.length=2*m:=⟨ps.length / 2,by omega⟩
 left;refine zkQ [some s!"4{D2}",some s!"4{D4}"] rfl ?_;left;refine ze8 (fun k=>[.str ((s!"Dc"[k.toNat]?).getD ""),.int (ye ((s!"Cf"[k.toNat]?).getD ""))]) (by rw [l2];omega) (fun i k H' Q' hi hk s' hQ=>?_) fun D5 H5 as s5 n5 e5 la T=>?_
 ·rw [l2] at hi;have hk':k=(i:Int):=by omega
  subst hk';obtain ⟨u,hu⟩:∃u,s!"Dc"[i]? =some u:=⟨_,List.getElem?_eq_getElem (by rw [zW];omega)⟩
  obtain ⟨v,hv⟩:∃v,s!"Cf"[i]? =some v:=⟨_,List.getElem?_eq_getElem (by rw [zW,List.length_drop];omega)⟩
  have x2:=s'.obj e2;have x4:=s'.obj e4;have a2:atI (s!"Dc".map V.str) (i:Int)=some s!"o{u}":=yS (by rw [List.getElem?_map,hu];rfl)
  have a4:atI ((s!"Cf".map ye).map V.int) (i:Int)=some s!"!{ye v}":=yS (by rw [List.getElem?_map,List.getElem?_map,hv];rfl)
  left;refine zeW.Q0 s!"Ad{x2}" a2 ?_;left;refine zeW.Q0 s!"Ad{x4}" a4 ?_;left;rename_i t6 H6 s6 n6 e6;refine hQ t6 H6 s6 ?_;rw [show ((i:Int)).toNat=i from rfl,hu,hv]
  exact e6
 have la:as.length=m:=by rw [la,l2];omega
 have at_:∀(j:Nat) (x:Addr),as[j]? =some x->∃u v,ps[2*j]? =some u/\ps[2*j+1]? =some v/\zn v=true/\H5 x=some s!"0{[.str u,.int (ye v)]}":=fun j x hx=>by
  have hj:=s!"Da".1;obtain ⟨u,hu⟩:∃u,s!"Dc"[j]? =some u:=⟨_,List.getElem?_eq_getElem (by rw [zW];omega)⟩
  obtain ⟨v,hv⟩:∃v,s!"Cf"[j]? =some v:=⟨_,List.getElem?_eq_getElem (by rw [zW,List.length_drop];omega)⟩
  have tx:=T j x hx;rw [show (0+(j:Int)).toNat=j by omega,hu,hv] at tx
  have nv:=List.all_eq_true.mp al v s!"B3{hv}";rw [wP] at hu;rw [wP,List.getElem?_drop,show 1+2*j=2*j+1 by omega] at hv
  exact ⟨u,v,hu,hv,nv,tx⟩
 have kw:KW H5 (.ref D5):=.inr (.inr ⟨D5,_,rfl,e5,by rw [List.length_map];omega,fun x hx=>by
  obtain ⟨y,hy,rfl⟩:=List.mem_map.mp hx;obtain ⟨j,hj⟩:=List.getElem?_of_mem hy;obtain ⟨u,v,_,_,_,ey⟩:=at_ j y hj;exact .inr (.inr ⟨y,_,rfl,ey,fun _ z hz=>by
   simp only [List.mem_cons,List.not_mem_nil,or_false] at hz;rcases hz with rfl | rfl <;> rfl⟩)⟩)
 have s15:=s14.trans s5;left;refine ⟨_,rfl,kw,fun wb H6 s6=>?_,fun wb H6 s6=>?_⟩
 ·left;refine ⟨_,rfl,(fun z=>by cases z),fun _=>?_⟩
  left;obtain ⟨ws,g⟩:=wb;obtain ⟨D',eD,⟨bs,eb,lb,U⟩,alt,pos,lw⟩:=id g;cases eD;rw [e5] at eb;have hab:as=bs:=(List.map_inj_right (f:=V.ref) (fun a b h=>by cases h;rfl)).mp (HO.lst.inj s!"C.{eb}")
  subst hab;refine q1 ws s!"u{⟨cn,?_,alt⟩}" s!"a" D5 H6 (s15.trans s6) (s14.none n5) (g.same s6)
  rw [hps];refine ⟨by omega,fun i p hp=>?_⟩
  have hi:=s!"Dk{hp}".1;obtain ⟨x,hx⟩:∃x,as[i]? =some x:=⟨_,List.getElem?_eq_getElem s!"a"⟩
  obtain ⟨u,v,hu,hv,nv,ex⟩:=at_ i x hx;have ex2:=U i x p hx hp;rw [ex] at ex2;obtain ⟨k1,k2⟩:=zox s!"C.{ex2}";rw [hu,V.str.inj k1];exact ⟨rfl,v,hv,nv,V.int.inj k2,pos p s!"BR"⟩
 ·left;refine ⟨_,rfl,fun _=>q0 (fun ws r=>wb ⟨ws,?_⟩) H6 (s15.trans s6),fun z=>by cases z⟩
  rcases r with ⟨r,_⟩ | ⟨_,r,alt⟩
  ·exact absurd r cn
  rw [hps] at r;have r1:=r.1;refine ⟨D5,rfl,⟨as,e5,by omega,fun i x p hx hp=>?_⟩,alt,fun p hp=>(r.small p hp).1,by omega⟩
  obtain ⟨u,v,hu,hv,nv,ex⟩:=at_ i x hx;obtain ⟨h1,n,h2,h3,h4,h5⟩:=r.2 i p hp;rw [hu] at h1;rw [hv] at h2;cases h1;cases h2;rw [ex,h4]
def zh (t:Str):Bool:=decide (1<=t.length) && decide (t.length<=8) && t.cps.toList.all (fun c=>decide (97<=c) && decide (c<=122))
theorem zoA {c:Nat} (h:c<128):inS ⟨#[c]⟩ "abcdefghijklmnopqrstuvwxyz"=(decide (97<=c) && decide (c<=122)):=by
 have key:s!"A/{128}".all (fun c=>inS ⟨#[c]⟩ "abcdefghijklmnopqrstuvwxyz"==(decide (97<=c) && decide (c<=122)))=true:=by decide+kernel
 have:=List.all_eq_true.mp key c s!"HV";simpa using this
def zgy:Sp:=fun vs H Q _=>∃t:Str,vs=[.str t]/\Asc t/\t.length<=10000/\∀H',Same H H'->Q s!"/{zh t}" H'
theorem zhs (F:Src K mg "is_name" zb8 ["piece"]) (B:Blt mg) (C:Cls K mg base) (R:Rel K mg base C) (Kc:Cst K mg):Def P w K mg base s!"v" 1 "is_name" ["piece"] zgy:=by
 refine F.ok (CX:=CXE P w) (k:=0) zdq s!"x" s!"1"
 ·obtain ⟨_,rfl,_⟩:=h;rfl
 have nd:=zdq.nd;obtain ⟨t,rfl,ta,tl,q⟩:=h;have tz:t.length<=sizeLine:=Nat.le_trans tl s!"c"
 have ta':t.cps.all (·<128)=true:=ta
 refine ⟨_,s!"epBE{@zj0 _ _ _ _ _ _ _ _ _ _ _ _ zki zki pe_int s!"AcGLDsDtAk" s!"BC!{8}{Kc.MOST_LETTERS.choose_spec}{⟨_,rfl⟩}" (by with_unfolding_all rfl)}C=AcC$CoCpbBf{@pi_str _ _ _ _ s!"y"}{fun pins cl ex s H=>(@pe_cmpR _ _ _ _ _ _ _ _ zlo s!"y" s!"BCo{"abcdefghijklmnopqrstuvwxyz"}{Kc.LETTERS.choose_spec}{⟨_,rfl⟩}" rfl)}f",?_⟩
 walk_at "ds";refine zc [some s!"|"] rfl ?_;left;walk_at "ite"
 rotate_left
 ·rename_i c1;left;have z:=q _ s!"Af";rw [show zh t=false by unfold zh;rw [decide_eq_false (show ¬1<=t.length by omega)];rfl] at z
  exact z
 rename_i c1;left;walk_at "ite"
 rotate_left
 ·rename_i c2;left;have z:=q _ s!"Af";rw [show zh t=false by unfold zh;rw [decide_eq_false (show ¬t.length<=8 by omega),Bool.and_false];rfl] at z
  exact z
 rename_i c2;left;refine zeh (fun c=>.bl (decide (97<=c) && decide (c<=122))) ta (by show t.length<=1000;omega) (fun i c H' Q' hc s' hQ=>?_) fun D H2 s2 n2 e2=>?_
 ·left;rw [zoA (Asc.at ta hc)];exact hQ _ s!"Af"
 left;refine ⟨D,t.cps.toList.map (fun c=>decide (97<=c) && decide (c<=122)),rfl,SqL.of (by rw [List.map_map];exact e2),?_⟩
 have z:=q _ s2;rw [show zh t=(t.cps.toList.map (fun c=>decide (97<=c) && decide (c<=122))).all id by
  unfold zh;rw [decide_eq_true (show 1<=t.length by omega),decide_eq_true (show t.length<=8 by omega),List.all_map]
  rfl] at z
 exact z
def fit (k p:Str):Bool:=if k="NUMBER" then zn p else if k="NAME"\/k="KNOWN" then zh p else decide (p=k)
def zpC:Sp:=fun vs H Q _=>∃k p:Str,vs=[.str k,.str p]/\Asc p/\p.length<=10000/\∀H',Same H H'->Q s!"/{fit k p}" H'
theorem zdI (F:Src K mg "piece_fits" wc ["kind","piece"]) (B:Blt mg) (C:Cls K mg base) (R:Rel K mg base C) (Kc:Cst K mg) (D_is_number:s!"m{1}{"is_number"}{["text"]}{zfr}") (D_is_name:s!"m{1}{"is_name"}{["piece"]}{zgy}"):Def P w K mg base s!"v" 2 "piece_fits" ["kind","piece"] zpC:=by
 refine F.ok (CX:=CXE P w) (k:=1) zaF s!"x" s!"1"
 ·obtain ⟨_,_,rfl,_⟩:=h;rfl
 have nd:=zaF.nd;obtain ⟨k,p,rfl,pa,pl,q⟩:=h;refine ⟨_,s!"d5E`epkGN;Asd5EQyGqepk{D_is_name};AsepA.A$*y",?_⟩
 walk_at "ds";refine zc [some s!"o{k}",some s!"o{p}"] rfl ?_;left;walk_at "ite"
 ·rename_i c;left;refine ⟨_,rfl,pa,pl,fun H1 s1=>?_⟩
  have:=q H1 s1;rw [show fit k p=zn p from if_pos c] at this
  exact this
 rename_i c;left;rename_i T H1 s1 nT eT;refine zY ["NAME","KNOWN"] s!"A5{eT}" ?_
 by_cases c2:k="NAME"\/k="KNOWN"
 ·rw [decide_eq_true (show k∈([Str.ofString "NAME",Str.ofString "KNOWN"]:List Str) by simp [c2])]
  left;refine ⟨_,rfl,pa,pl,fun H2 s2=>?_⟩
  have:=q H2 s!"At";rw [show fit k p=zh p by unfold fit;rw [if_neg c,if_pos c2]] at this
  exact this
 ·rw [decide_eq_false (show ¬k∈([Str.ofString "NAME",Str.ofString "KNOWN"]:List Str) by simpa using c2)]
  left;have:=q H1 s1;rw [show fit k p=decide (p=k) by unfold fit;rw [if_neg c,if_neg c2]] at this
  exact this
def xr (fs ps:List Str):Bool:=decide (ps.length=fs.length) && s!"Gv".all id
def zpD (K:PySem.W.Frag):Sp:=fun vs H Q _=>∃(l a:Addr) (ps fs:List Str),vs=[.ref l,.ref a]/\SqL K H l s!"A-"/\SqT K H a s!"D]"/\zcw ps/\∀H',Same H H'->Q s!"/{xr fs ps}" H'
theorem zgz (F:Src K mg "has_form" za1 ["pieces","form"]) (B:Blt mg) (C:Cls K mg base) (R:Rel K mg base C) (Kc:Cst K mg) (D_piece_fits:s!"m{2}{"piece_fits"}{["kind","piece"]}{zpC}"):Def P w K mg base s!"v" 3 "has_form" ["pieces","form"] (zpD K):=by
 refine F.ok (CX:=CXE P w) (k:=2) zcu s!"x" s!"1"
 ·obtain ⟨_,_,_,_,rfl,_⟩:=h;rfl
 have nd:=zcu.nd;obtain ⟨l,a,ps,fs,rfl,hl,ha,ok,q⟩:=h;refine ⟨_,s!"epBEA.A$CWE|C=AcC$CoCpb{@zdg _ _ _ _ _ _ _ _ _ _ _ ["kind","piece"] rfl (zh1 rfl B.zip s!"b*Ak") (fun pins cl ex s H=>s!"G>2Dl{0}{by exact (show (["kind","piece"]:List Str).Nodup from by decide+kernel)}2Dl{1}{by exact (show (["kind","piece"]:List Str).Nodup from by decide+kernel)}Ab") (fun pins cl ex s H=>s!"k{D_piece_fits}{yZ}Gl") s!"n" s!"n" rfl s!"n" (by intro _;rfl)}f",?_⟩
 walk_at "ds";refine zc [some s!"~",some s!"h"] rfl ?_;have l1:s!"A-".length=ps.length:=List.length_map _;have l2:s!"D]".length=fs.length:=List.length_map _;left;walk_at "ite"
 rotate_left
 ·rename_i c;left;have z:=q _ s!"Af";rw [show xr fs ps=false by unfold xr;rw [decide_eq_false s!"a"];rfl] at z
  exact z
 rename_i c;have ok1:=ok.1;left;try refine zc0.Qa ?_
 left;refine zgk ha hl ?_;refine zhd (fun x y=>match x,y with | .str k,.str p=>.bl (fit k p) | _,_=>.non) ha hl s!"a" s!"a" (fun i x y H' R hx hy s' hR=>?_) fun D H2 s2 n2 e2=>?_
 ·rw [List.getElem?_map] at hx hy;obtain ⟨k,hk,rfl⟩:=Option.map_eq_some_iff.mp hx;obtain ⟨p,hp,rfl⟩:=Option.map_eq_some_iff.mp hy;obtain ⟨a1,a2⟩:=ok.2 p s!"BR";left;exact ⟨_,_,rfl,a1,a2,hR⟩
 left;have ez:List.zipWith (fun x y=>match x,y with | V.str k,V.str p=>V.bl (fit k p) | _,_=>V.non) s!"D]" s!"A-"=s!"Gv".map V.bl:=by
  rw [List.map_zipWith,List.zipWith_map]
 refine ⟨D,List.zipWith fit fs ps,rfl,SqL.of (by rw [<-ez];exact e2),?_⟩
 have z:=q _ s2;rw [show xr fs ps=s!"Gv".all id by unfold xr;rw [decide_eq_true s!"a"];rfl] at z
 exact z
theorem zgA (xs:List V) (i:Nat):zaz xs none s!"r{(i:Int)}"=xs.take i:=by
 have e:HT.sIx xs.length xs.length s!"r{(i:Int)}"=min i xs.length:=by unfold HT.sIx;simp only [];rw [if_neg s!"a"];omega
 unfold zaz;rw [e];simp only [HT.sIx,List.drop_zero,Nat.sub_zero];rw [<-List.take_eq_take_min]
theorem zmb (xs:List V) (i:Nat):zaz xs s!"r{(i:Int)}" none=xs.drop i:=by
 have e:HT.sIx xs.length 0 s!"r{(i:Int)}"=min i xs.length:=by unfold HT.sIx;simp only [];rw [if_neg s!"a"];omega
 unfold zaz;rw [e];simp only [HT.sIx];rw [List.take_of_length_le (by rw [List.length_drop];omega)]
 rcases Nat.le_total i xs.length with h | h
 ·rw [Nat.min_eq_left h]
 ·rw [Nat.min_eq_right h,List.drop_of_length_le s!",",List.drop_of_length_le h]
theorem zeI (ps:List Str):zaz s!"A-" s!"C7" none=s!"Dd".map V.str:=by
 have e:=zmb s!"A-" 2;rw [<-List.map_drop] at e;exact e
def zdv (ps:List Str):Str:=Txt.join " " s!"Dd"
def zmc (K:PySem.W.Frag) (cL:Addr):Sp:=fun vs H Q E=>∃(l:Addr) (ps:List Str),vs=[.ref l]/\SqL K H l s!"A-"/\zcw ps/\Tx s!"B("/\(∀ws,RW s!"B(" ws->ws.length<=460->∀D H',Same H H'->H D=none->xS H' s!"%" ws->Q s!"%" H')/\((∀ws,¬RW s!"B(" ws)->∀H',Same H H'->E s!"4{cL}" s!"E#" H')
theorem zdw (F:Src K mg "word_behind" xG ["pieces"]) (B:Blt mg) (C:Cls K mg base) (R:Rel K mg base C) (Kc:Cst K mg) (D_read_word:s!"m{4}{"read_word"}{["text"]}I?"):Def P w K mg base s!"v" 5 "word_behind" ["pieces"] (zmc K C.NoLine.addr):=by
 refine F.okX (CX:=CXE P w) (k:=4) w9 s!"x" s!"1"
 ·obtain ⟨_,_,rfl,_⟩:=h;rfl
 have nd:=w9.nd;obtain ⟨l,ps,rfl,hl,ok,tx,q1,q0⟩:=h;have ok1:=ok.1;refine ⟨_,s!"e{@zkL _ _ _ _ _ _ _ rfl rfl (fun pins W=>s!"epk{D_read_word}{zd4}b{@zqQ _ _ _ _ _ _ _ _ _ _ _ _ _ _ PySem.F.plainAttrs_str PySem.F.slot_str_join PySem.F.type_str_join zlP pe_str s!"bDn{zst}yE_Drf" rfl rfl rfl rfl rfl}f") (zg9 rfl C.NoText.gl C.NoText.cat (C.NoLine).own PySem.F.excBase_ValueError rfl zlz)}",?_⟩
 walk_at "ds";refine zc [some s!"~"] rfl ?_;left;refine zkM (fun cls dx σ' H'=>Same H H'/\σ'=[some s!"~"]/\cls=.ref C.NoText.addr/\dx=none/\∀ws,¬RW s!"B(" ws) ?_ ?_
 ·left;rename_i D1 H1 s1 n1 e1;rw [zeI] at e1;refine yo s!"Dd" s!"B0" (yV (k:=10000) s!"n" (by rw [List.length_drop];omega) (fun w hw=>(ok.2 w (List.mem_of_mem_drop hw)).2) s!",") ?_
  left;refine ⟨_,rfl,tx,fun ws r lw D H2 s2 n2 g=>?_,fun n H2 s2=>⟨s1.trans s2,rfl,rfl,rfl,n⟩⟩
  left;exact q1 ws r lw D H2 s!"At" (s1.none n2) g
 ·rintro cls dx ad σ' H' ⟨s',rfl,rfl,rfl,n⟩;exact zsr R.r_NoText_NoText (q0 n H' s')
def zfx:List s!"E;":=[[Str.ofString "table",Str.ofString "NAME",Str.ofString "NUMBER",Str.ofString "NUMBER",Str.ofString "NUMBER",Str.ofString "NUMBER"],[Str.ofString "let",Str.ofString "NAME",Str.ofString "together",Str.ofString "KNOWN",Str.ofString "KNOWN"],[Str.ofString "let",Str.ofString "NAME",Str.ofString "back",Str.ofString "KNOWN"],[Str.ofString "drop",Str.ofString "KNOWN"],[Str.ofString "undo"],[Str.ofString "redo"],[Str.ofString "names"],[Str.ofString "show",Str.ofString "KNOWN"],[Str.ofString "number",Str.ofString "KNOWN"],[Str.ofString "steady",Str.ofString "KNOWN"],[Str.ofString "spell",Str.ofString "KNOWN"],[Str.ofString "sign",Str.ofString "NUMBER",Str.ofString "NUMBER"],[Str.ofString "teeth",Str.ofString "NUMBER",Str.ofString "NUMBER"],[Str.ofString "twelve",Str.ofString "NUMBER",Str.ofString "NUMBER"],[Str.ofString "points",Str.ofString "NUMBER",Str.ofString "NUMBER"],[Str.ofString "shuffle",Str.ofString "NUMBER",Str.ofString "NUMBER"],[Str.ofString "parts",Str.ofString "NUMBER",Str.ofString "NUMBER",Str.ofString "NUMBER",Str.ofString "NUMBER"]]
def zbI:List Str:=[Str.ofString "word",Str.ofString "NAME"]
def zo (ps:List Str) (f:List Str):Prop:=(xr zbI s!"Bc"=true/\f=zbI/\∃ws,RW s!"B(" ws)\/(xr zbI s!"Bc"=false/\zfx.find? (fun f=>xr f ps)=some f)
theorem zjE (ps:List Str):zaz s!"A-" none s!"C7"=s!"Bc".map V.str:=by
 have e:=zgA s!"A-" 2;rw [<-List.map_take] at e;exact e
theorem FormK.get {as:List Addr} {fs:List s!"E;"} (h:FormK K as fs):as.length=fs.length/\∀(i:Nat) (a:Addr),as[i]? =some a->∃f,fs[i]? =some f/\∀H,SqT K H a s!"Gj":=by
 induction h with
 | nil=>exact ⟨rfl,fun i a h=>by simp at h⟩
 | cons h r ih=>
  refine ⟨by simp [ih.1],fun i a hi=>?_⟩
  cases i with
  | zero=>
   cases hi;exact ⟨_,rfl,h⟩
  | succ j=>exact ih.2 j a hi
theorem zig {α:Type} {p:α->Bool}:∀{l:List α} {i:Nat} {f:α},(∀j,j<i->∀g,l[j]? =some g->p g=false)->l[i]? =some f->p f=true->l.find? p=some f
 | [],i,f,_,h,_=>by simp at h
 | x::l,0,f,_,h,hp=>by
  cases h;rw [List.find?_cons,hp]
 | x::l,i+1,f,hb,h,hp=>by
  rw [List.find?_cons,hb 0 s!"a" x rfl]
  exact zig (fun j hj g hg=>hb (j+1) s!"a" g hg) h hp
def zmd (K:PySem.W.Frag) (cL:Addr):Sp:=fun vs H Q E=>∃(l:Addr) (ps:List Str),vs=[.ref l]/\SqL K H l s!"A-"/\zcw ps/\Tx s!"B("/\(∀f,zo ps f->∀a H',Same H H'->(∀H,SqT K H a s!"Gj")->Q s!"h" H')/\((∀f,¬zo ps f)->∀dx H',(dx=none\/dx=some mainGlobals)->Same H H'->E s!"4{cL}" dx H')
theorem zht (F:Src K mg "form_of" zb9 ["pieces"]) (B:Blt mg) (C:Cls K mg base) (R:Rel K mg base C) (Kc:Cst K mg) (D_has_form:s!"m{3}{"has_form"}{["pieces","form"]}{zpD K}") (D_word_behind:s!"m{5}{"word_behind"}{["pieces"]}GQ"):Def P w K mg base s!"v" 6 "form_of" ["pieces"] s!"I^":=by
 refine F.okX (CX:=CXE P w) (k:=5) zdr s!"x" s!"1"
 ·obtain ⟨_,_,rfl,_⟩:=h;rfl
 have nd:=zdr.nd;obtain ⟨l,ps,rfl,hl,ok,tx,q1,q0⟩:=h;obtain ⟨tWORD_FORM,mWORD_FORM,kW⟩:=Kc.WORD_FORM;obtain ⟨tFORMS,asF,mFORMS,kF,kFs⟩:=Kc.FORMS;obtain ⟨lF,gF⟩:=kFs.get;have ok1:=ok.1;have okT:zcw s!"Bc":=⟨by rw [List.length_take];omega,fun w hw=>ok.2 w s!"G={hw}"⟩
 refine ⟨_,s!"d5A4kGR&bDnDUyDrE_bI_fd@kGS&AkepI_dBhC~B5BC4{tFORMS}{mFORMS}AyE(e5A4kGR&Glep*eC-{(C.NoLine).own}",?_⟩
 walk_at "ds";refine zc [some s!"~",none] rfl ?_;left;rename_i D1 H1 s1 n1 e1;rw [zjE] at e1;refine ⟨_,_,_,_,rfl,SqL.of e1,kW _,okT,fun H2 s2=>?_⟩
 have s12:=s1.trans s2;cases hf:xr zbI s!"Bc"
 ·rw [show xr [Str.ofString "word",Str.ofString "NAME"] s!"Bc"=false from hf]
  left;refine znM.Qb (kF _) ?_;refine zhC (xs:=asF.map V.ref) (fun i σ H'=>Same H2 H'/\(∃z:Option V,σ=[some s!"~",z])/\∀j,j<i->∀f,zfx[j]? =some f->xr f ps=false) ⟨Same.refl _,⟨_,rfl⟩,fun j hj=>by omega⟩ (fun i σ H' _ _=>kF H') ?_ ?_
  ·rintro i x σ H3 hx ⟨s3,⟨z,rfl⟩,hb⟩;rw [List.getElem?_map] at hx;obtain ⟨a,ha,rfl⟩:=Option.map_eq_some_iff.mp hx;obtain ⟨f,hfi,kf⟩:=gF i a ha;have hfi:zfx[i]? =some f:=hfi;left;refine ⟨_,_,_,_,rfl,s!"Db".seq hl,kf _,ok,fun H4 s4=>?_⟩
   cases hff:xr f ps
   ·left;refine ⟨s3.trans s4,⟨_,rfl⟩,fun j hj g hg=>?_⟩
    rcases Nat.lt_or_ge j i with z | z
    ·exact hb j z g hg
    ·rw [show j=i by omega,hfi] at hg
     cases hg;exact hff
   ·left;exact q1 f s!"u{⟨hf,zig hb hfi hff⟩}" a H4 s!"J*C%" kf
  ·rintro σ H3 ⟨s3,⟨z,rfl⟩,hb⟩;left;refine q0 (fun f hF=>?_) none H3 s!"Aa" s!"Db"
   rcases hF with ⟨h,_⟩ | ⟨_,h⟩
   ·rw [hf] at h;cases h
   ·have hm:=List.mem_of_find?_eq_some h;have hp:xr f ps=true:=List.find?_some (p:=fun f=>xr f ps) h
    obtain ⟨j,hj⟩:=List.getElem?_of_mem hm;have hjl:=s!"CN".1;rw [hb j (by rw [List.length_map,lF];exact hjl) f hj] at hp
    cases hp
 ·rw [show xr [Str.ofString "word",Str.ofString "NAME"] s!"Bc"=true from hf]
  left;refine ⟨_,_,rfl,s12.seq hl,ok,tx,fun ws r _ D H3 s3 _ _=>?_,fun n H3 s3=>q0 (fun f hF=>?_) _ H3 s!"uAy" s!"Db"⟩
  ·left;exact q1 zbI s!"${⟨hf,rfl,ws,r⟩}" _ H3 s!"Db" kW
  ·rcases hF with ⟨_,_,ws,r⟩ | ⟨h,_⟩
   ·exact n ws r
   ·rw [hf] at h;cases h
abbrev Tb:=Int×Int×Int×Int
def wD (H:Hp) (t:Addr) (x:Tb):Prop:=Tab H t x.1 x.2.1 x.2.2.1 x.2.2.2
def zZ (x:Tb):Prop:=x.1.natAbs<10^60/\x.2.1.natAbs<10^60/\x.2.2.1.natAbs<10^60/\x.2.2.2.natAbs<10^60
def xD (x:Tb):Prop:=x.1*x.2.2.2-x.2.1*x.2.2.1=1/\zZ x
def zih (cT:Addr):Sp:=fun vs H Q E=>∃(t:Addr) (x:Tb),vs=[.ref t]/\wD H t x/\(zZ x->∀H',Same H H'->Q .non H')/\(¬zZ x->∀H',Same H H'->E s!"E<" none H')
theorem zau:zZ x↔∀n∈[x.1,x.2.1,x.2.2.1,x.2.2.2],n.natAbs<10^60:=by
 simp only [List.mem_cons,List.not_mem_nil,or_false,forall_eq_or_imp,forall_eq];exact Iff.rfl
theorem zam (F:Src K mg "need_short_places" yc ["table"]) (B:Blt mg) (C:Cls K mg base) (R:Rel K mg base C) (Kc:Cst K mg) (D_need_to:s!"m{1}{"need_to"}{["most","number"]}Ix"):Def P w K mg base s!"v" 2 "need_short_places" ["table"] s!"I|":=by
 refine F.okX (CX:=CXE P w) (k:=1) yI s!"x" s!"1"
 ·obtain ⟨_,_,rfl,_⟩:=h;rfl
 have nd:=yI.nd;obtain ⟨t,⟨a,b,c,d⟩,rfl,⟨r,s',e1,e2,e3⟩,q1,q0⟩:=h;dsimp only at e2 e3;refine ⟨_,s!"eBhC~B5g{xu}{@pe_ix _ _ _ _ _ _ _ ix_A s!"y" pe_int (fun _ _=>rfl)}{@pe_ix _ _ _ _ _ _ _ ix_A s!"y" pe_int (fun _ _=>rfl)}E(e@k{D_need_to}&bgA:I~lI!",?_⟩
 walk_at "ds";refine zc [some s!">",none] rfl ?_;left;refine zbf e2 e3 (show 2+2<=1000 by decide) fun u H1 s1 eu=>?_
 left;refine zhC (xs:=[a,b,c,d].map V.int) (fun i σ H'=>H'=H1/\(∃z:Option V,σ=[some s!">",z])/\∀j,j<i->∀n,[a,b,c,d][j]? =some n->n.natAbs<10^60) ⟨rfl,⟨_,rfl⟩,fun j hj=>by omega⟩ (fun i σ H' _ h=>by rw [h.1];exact SqT.of eu) ?_ ?_
 ·rintro i x σ H3 hx ⟨rfl,⟨z,rfl⟩,hb⟩;rw [List.getElem?_map] at hx;obtain ⟨n,hn,rfl⟩:=Option.map_eq_some_iff.mp hx;left;rename_i j hj;refine ⟨_,_,rfl,.inr s!"HA",fun h=>q0 (fun S=>?_) _ s1,fun h=>?_⟩
  ·have:=zau.mp S n s!"B3{hn}";omega
  left;refine ⟨rfl,⟨_,rfl⟩,fun k hk m hm=>?_⟩
  rcases Nat.lt_or_ge k i with z | z
  ·exact hb k z m hm
  ·rw [show k=i by omega,hn] at hm
   cases hm;omega
 ·rintro σ H3 ⟨rfl,⟨z,rfl⟩,hb⟩;left;refine q1 (zau.mpr fun n hn=>?_) _ s1
  obtain ⟨j,hj⟩:=List.getElem?_of_mem hn;exact hb j (by have:=s!"CN".1;exact this) n hj
def zgB (cW:Addr) (ask:Str) (x:Tb) (H:Hp) (Q:VK) (E:XK):Prop:=
 (ask=Str.ofString "show"->∀H',Same H H'->Q s!"o{zaU x.1 x.2.1 x.2.2.1 x.2.2.2}" H')/\
 (ask=Str.ofString "number"->∀H',Same H H'->Q s!"o{zx (Mth.Ph x.1 x.2.1 x.2.2.1 x.2.2.2)}" H')/\
 (ask=Str.ofString "steady"->∀H',Same H H'->Q s!"o{zx (Mth.Ps x.1 x.2.1 x.2.2.1 x.2.2.2)}" H')/\
 (ask=Str.ofString "spell"->(x.1<0\/x.2.1<0\/x.2.2.1<0\/x.2.2.2<0->∀H',Same H H'->E s!"4{cW}" none H')/\(0<=x.1->0<=x.2.1->0<=x.2.2.1->0<=x.2.2.2->∀H',Same H H'->Q s!"o{yp (Mth.zhm x.1 x.2.1 x.2.2.1 x.2.2.2)}" H'))
def zaP:List Str:=[Str.ofString "show",Str.ofString "number",Str.ofString "steady",Str.ofString "spell"]
def zii (cW:Addr):Sp:=fun vs H Q E=>∃(ask:Str) (t:Addr) (x:Tb),vs=[.str ask,.ref t]/\ask∈zaP/\wD H t x/\xD x/\zgB cW ask x H Q E
theorem zcx {n:Int} (h:n.natAbs<10^60):n<10^140:=by omega
theorem zgC {n:Int} (h:n.natAbs<10^60):n<10^60:=by omega
theorem yl {n:Int} (h:n.natAbs<10^60):n.natAbs<10^180:=Nat.lt_trans h s!"c"
theorem up190 {n:Int} (h:n.natAbs<10^60):n.natAbs<10^190:=Nat.lt_trans h s!"c"
theorem upS {n:Int} {k:Nat} (h:n.natAbs<10^k) (hk:k<=570):yN n:=Nat.lt_of_lt_of_le h (Nat.pow_le_pow_right s!"c" hk)
theorem zcb (F:Src K mg "told_of_table" yK ["ask","table"]) (B:Blt mg) (C:Cls K mg base) (R:Rel K mg base C) (Kc:Cst K mg) (D_shown_table:s!"m{5}{"shown_table"}{["table"]}{zma}") (D_number_of:s!"m{5}{"number_of"}{["table"]}{zid}") (D_steady_of:s!"m{6}{"steady_of"}{["table"]}{zq1}") (D_shown_word:s!"m{5}{"shown_word"}{["word"]}{zpz}") (D_word_of:s!"m{5}{"word_of"}{["table"]}GT"):Def P w K mg base s!"v" 7 "told_of_table" ["ask","table"] s!"I'":=by
 refine F.okX (CX:=CXE P w) (k:=6) xO s!"x" s!"1"
 ·obtain ⟨_,_,_,rfl,_⟩:=h;rfl
 have nd:=xO.nd;obtain ⟨ask,t,⟨a,b,c,d⟩,rfl,ha,T,⟨det,b1,b2,b3,b4⟩,q1,q2,q3,q4⟩:=h;dsimp only at det b1 b2 b3 b4 q1 q2 q3 q4;have T:Tab H t a b c d:=T;refine ⟨_,s!"d5E`epkGU&Asd5E`epBg{yx}BoBpbkFj&Asfd5E`epBg{yx}BoBpbkGV&Asfepk{D_shown_word}&bkGW&Asf",?_⟩
 walk_at "ds";refine zc [some s!"oDV",some s!">"] rfl ?_;left;walk_at "ite"
 ·rename_i e;left;exact ⟨_,_,_,_,_,rfl,T,det,up190 b1,up190 b2,up190 b3,up190 b4,fun H1 s1=>q1 e H1 s1⟩
 rename_i n1;left;walk_at "ite"
 ·rename_i e;left;refine ⟨_,_,_,_,_,rfl,T,det,yl b1,yl b2,yl b3,yl b4,fun H1 s1=>?_⟩
  have lg:=s!"CkGX".log
  left;exact q2 e H1 s1
 rename_i n2;left;walk_at "ite"
 ·rename_i e;left;refine ⟨_,_,_,_,_,rfl,T,det,yl b1,yl b2,yl b3,yl b4,fun H1 s1=>?_⟩
  have lg:=s!"CkGY".log
  left;exact q3 e H1 s1
 rename_i n3;have e:ask=Str.ofString "spell":=by
  unfold zaP at ha;simp only [List.mem_cons,List.not_mem_nil,or_false] at ha;rcases ha with h | h | h | h
  ·exact absurd h n1
  ·exact absurd h n2
  ·exact absurd h n3
  ·exact h
 obtain ⟨q5,q6⟩:=q4 e;left
 by_cases ng:a<0\/b<0\/c<0\/d<0
 ·exact zoy T det (yl b1) (yl b2) (yl b3) (yl b4) ng (q5 ng H s!"Af")
 ·have a0:0<=a:=Int.not_lt.mp fun z=>ng s!"DA"
  have b0:0<=b:=Int.not_lt.mp fun z=>ng s!"uDA"
  have c0:0<=c:=Int.not_lt.mp fun z=>ng s!"uuDA"
  have d0:0<=d:=Int.not_lt.mp fun z=>ng s!"uuu{z}"
  refine zl9 T det a0 b0 c0 d0 (zcx b1) (zcx b2) (zcx b3) (zcx b4) fun D H1 ws s1 n1 W g=>?_
  have g60:=g.len60 (zgC b1) (zgC b2) (zgC b3) (zgC b4);left;refine ⟨_,_,rfl,⟨D,rfl,W,g.alt,g.pos,by omega⟩,fun p hp=>?_,fun H2 s2=>?_⟩
  ·have k:=Mth.zia g.pos p hp;rw [g.fw] at k;have p1:=g.pos p hp;unfold Mth.S4 at k;dsimp only at k;exact upS (k:=62) s!"a" s!"c"
  ·have:=q6 a0 b0 c0 d0 H2 s!"At";rw [<-g.eq] at this;exact this
theorem za5 (F:Src K mg "told_of_numbers" yq ["ask","numbers"]) (_:Blt mg) (C:Cls K mg base) (_:Rel K mg base C) (_:Cst K mg):Def P w K mg base s!"v" 1 "told_of_numbers" ["ask","numbers"] zhe:=F.void za2
abbrev yf:=Str×Option Tb×Option Tb
structure DSt where
 f:Str->Option Tb
 dn:List yf
 bk:List yf
def zk (f:Str->Option Tb) (n:Str) (o:Option Tb):Str->Option Tb:=fun m=>if m=n then o else f m
def za6 (H:Hp) (v:V):Option Tb->Prop
 | none=>v=.non
 | some x=>∃t,v=.ref t/\wD H t x
structure KvOk (H:Hp) (kvs:List (Key×V)) (f:Str->Option Tb):Prop where
 nd:(kvs.map (·.1)).Nodup
 txt:∀k∈kvs.map (·.1),∃n,k=Sum.inr n
 vals:∀n x,f n=some x->∃t,zC kvs s!"C*"=some s!">"/\wD H t x
 no:∀n,f n=none->zC kvs s!"C*"=none
def zH (H:Hp) (ds:List Addr) (dn:List yf):Prop:=ds.length=dn.length/\∀(i:Nat) (x:Addr) (d:yf),ds[i]? =some x->dn[i]? =some d->∃v w,H x=some s!"0{[.str d.1,v,w]}"/\za6 H v d.2.1/\za6 H w d.2.2
def zhu:(Str->Option Tb)->List yf->Prop
 | f,[]=>f=fun _=>none
 | f,(n,a,b)::r=>f n=b/\zhu (zk f n a) r
def Fut:(Str->Option Tb)->List yf->Prop
 | _,[]=>True
 | f,(n,a,b)::r=>f n=a/\Fut (zk f n b) r
structure Fine (st:DSt):Prop where
 tabs:∀n x,st.f n=some x->xD x
 dds:∀d∈st.dn++st.bk,(∀x,d.2.1=some x->xD x)/\(∀x,d.2.2=some x->xD x)/\¬(d.2.1=none/\d.2.2=none)/\d.1.length<=8
 hist:zhu st.f st.dn.reverse
 fut:Fut st.f st.bk.reverse
 few:st.dn.length+st.bk.length<=60
structure DeskAt (CD:Addr) (H:Hp) (a T L B:Addr) (st:DSt):Prop where
 ins:∃dx,H a=some s!"A~{CD}{[("tables",.ref T),("done",.ref L),("taken_back",.ref B)]}"
 dict:∃kvs,H T=some s!":"/\KvOk H kvs st.f
 done:∃ds,H L=some s!"E)"/\zH H ds st.dn
 back:∃ds,H B=some s!"E)"/\zH H ds st.bk
 ne:L≠B
theorem KvOk.move (k:KvOk H kvs f) (m:∀t x,wD H t x->wD H' t x):KvOk H' kvs f:=⟨k.nd,k.txt,fun n x h=>by
 obtain ⟨t,e,T⟩:=k.vals n x h;exact ⟨t,e,m t x T⟩,k.no⟩
theorem KvOk.names (k:KvOk H kvs f):∃ns:List Str,kvs.map Prod.fst=ns.map Sum.inr/\ns.Nodup/\∀n,n∈ns↔f n≠none:=by
 have key:∀l:List Key,(∀x∈l,∃n,x=Sum.inr n)->∃ns:List Str,l=ns.map Sum.inr:=fun l=>by
  induction l with
  | nil=>exact fun _=>⟨[],rfl⟩
  | cons x l ih=>
   intro h;obtain ⟨n,rfl⟩:=h x List.mem_cons_self;obtain ⟨ns,e⟩:=ih fun y hy=>h y s!"Eu"
   exact ⟨n::ns,by rw [e];rfl⟩
 obtain ⟨ns,e⟩:=key _ k.txt;have nd:=k.nd;have e':kvs.map Prod.fst=ns.map Sum.inr:=e;rw [e] at nd;refine ⟨ns,e',(List.pairwise_map.mp nd).imp (fun h e=>h (congrArg _ e)),fun n=>⟨fun h z=>?_,fun h=>?_⟩⟩
 ·have:=zf4 (k.no n z);exact this (by rw [e];exact List.mem_map.mpr ⟨n,h,rfl⟩)
 ·cases hf:f n with
  | none=>exact absurd hf h
  | some x=>
   obtain ⟨t,hv,_⟩:=k.vals n x hf;have:=znU hv;rw [e] at this;obtain ⟨m,hm,em⟩:=List.mem_map.mp this;cases em;exact hm
theorem KvOk.put {n:Str} {t:Addr} (k:KvOk H kvs f) (T:wD H t x):KvOk H (xq kvs s!"C*" s!">") (zk f n s!"CA"):=by
 have hv:=fun j=>zkZ kvs s!"I`" j s!">"
 refine ⟨?_,fun j hj=>?_,fun m y h=>?_,fun m h=>?_⟩
 ·rcases keys_put (kvs:=kvs) (k:=Sum.inr n) (v:=.ref t) with e | ⟨e0,e⟩
  ·rw [e];exact k.nd
  ·exact znV _ k.nd e0
 ·rcases keys_put (kvs:=kvs) (k:=Sum.inr n) (v:=.ref t) with e | ⟨e0,e⟩
  ·rw [e] at hj;exact k.txt j hj
  ·rw [e] at hj;rcases List.mem_append.mp hj with z | z
   ·exact k.txt j z
   ·exact ⟨n,List.mem_singleton.mp z⟩
 ·unfold zk at h;rw [hv]
  by_cases e:m=n
  ·rw [if_pos e] at h;cases h;rw [if_pos (by rw [e])]
   exact ⟨t,rfl,T⟩
  ·rw [if_neg e] at h;rw [if_neg (fun z=>e (Sum.inr.inj z))]
   exact k.vals m y h
 ·unfold zk at h;rw [hv]
  by_cases e:m=n
  ·rw [if_pos e] at h;cases h
  ·rw [if_neg e] at h;rw [if_neg (fun z=>e (Sum.inr.inj z))]
   exact k.no m h
theorem KvOk.drop {H:Hp} {kvs:List (Key×V)} {f:Str->Option Tb} {n:Str} (k:KvOk H kvs f):KvOk H (yd kvs s!"C*") (zk f n none):=by
 have hv:=fun j=>zex s!"I`" j kvs
 refine ⟨zc6 k.nd,fun j hj=>k.txt j (zjr j hj),fun m y h=>?_,fun m h=>?_⟩
 ·unfold zk at h;rw [hv]
  by_cases e:m=n
  ·rw [if_pos e] at h;cases h
  ·rw [if_neg e] at h;rw [if_neg (fun z=>e (Sum.inr.inj z))]
   exact k.vals m y h
 ·unfold zk at h;rw [hv]
  by_cases e:m=n
  ·rw [if_pos (by rw [e])]
  ·rw [if_neg e] at h;rw [if_neg (fun z=>e (Sum.inr.inj z))]
   exact k.no m h
theorem wD.move {t:Addr} (h:wD H t x) (m:∀q xs,H q=some s!"6"->H' q=some s!"6"):wD H' t x:=by
 obtain ⟨r,s,e1,e2,e3⟩:=h.ex;exact ⟨r,s,m _ _ e1,m _ _ e2,m _ _ e3⟩
theorem za6.move (h:za6 H v o) (m:∀q xs,H q=some s!"6"->H' q=some s!"6"):za6 H' v o:=by
 cases o with
 | none=>exact h
 | some x=>
  obtain ⟨t,e,T⟩:=h;exact ⟨t,e,T.move m⟩
theorem zH.move (h:zH H ds dn) (m:∀q xs,H q=some (.tup xs)->H' q=some (.tup xs)):zH H' ds dn:=⟨h.1,fun i x d hx hd=>by
 obtain ⟨v,w,e,a,b⟩:=h.2 i x d hx hd;exact ⟨v,w,m _ _ e,a.move m,b.move m⟩⟩
def zme (CD:Addr):Sp:=fun vs H Q _=>∃(x dx:Addr),vs=[.ref x]/\H x=some s!"A~{CD}{[]}"/\H dx=some s!"C)"/\∀T L B H',(∀q o,H q=some o->q≠x->H' q=some o)->H T=none->H L=none->H B=none->DeskAt CD H' x T L B ⟨fun _=>none,[],[]⟩->Q .non H'
theorem zcc (C:Cls K mg base) (F:SrcM K "__init__" "Desk.__init__" yL C.Desk.f___init__ ["self"]) (B:Blt mg) (R:Rel K mg base C) (Kc:Cst K mg):DefM P w K mg base s!"v" 1 C.Desk.f___init__ ["self"] s!"I(":=by
 refine F.ok (CX:=CXE P w) (k:=0) xP s!"x" s!"1"
 ·obtain ⟨_,_,rfl,_⟩:=h;rfl
 have nd:=xP.nd;obtain ⟨x,dx,rfl,ex,ed,q⟩:=h;refine ⟨_,s!"d{@zeQ _ _ _ _ _ _ _ _ s!"y" pe_dnewK rfl}dGweGw",?_⟩;walk_at "ds";refine zc [some s!"A6"] rfl ?_;left;rename_i T H1 s1 nT eT;have nx:∀q,H q=none->q≠x:=fun q z e=>by rw [e,ex] at z;cases z
 refine zbk s!"B8{ex}" C.Desk.cl C.Desk.n_tables s!"c" ?_
 generalize hA:upd H1 x s!"A~C({yR "tables" s!"CJ" []}"=HA;have xA:HA x=some s!"A~C({[("tables",.ref T)]}":=by rw [<-hA];exact zb
 have kA:∀q o,q≠x->H1 q=some o->HA q=some o:=fun q o n e=>by rw [<-hA,zd n];exact e
 have TA:=kA T _ (nx T nT) eT;left;rename_i L H2 s2 nL eL;refine zbk s!"Cn{xA}" C.Desk.cl C.Desk.n_done (by show 1<1000;decide) ?_
 generalize hB:upd H2 x s!"A~C({yR "done" s!"4{L}" [("tables",.ref T)]}"=HB;have xB:HB x=some s!"A~C({[("tables",.ref T),("done",.ref L)]}":=by rw [<-hB];exact zb
 have kB:∀q o,q≠x->H2 q=some o->HB q=some o:=fun q o n e=>by rw [<-hB,zd n];exact e
 have nLx:L≠x:=fun e=>by rw [e,xA] at nL;cases nL
 have LB:=kB L _ nLx eL;have TB:=kB T _ (nx T nT) s!"Cn{TA}";left;rename_i B H3 s3 nB eB;refine zbk (s3.obj xB) C.Desk.cl C.Desk.n_taken_back (by show 2<1000;decide) ?_
 generalize hC:upd H3 x s!"A~C({yR "taken_back" s!"4{B}" [("tables",.ref T),("done",.ref L)]}"=HC;have xC:HC x=some s!"A~C({[("tables",.ref T),("done",.ref L),("taken_back",.ref B)]}":=by rw [<-hC];exact zb
 have kC:∀q o,q≠x->H3 q=some o->HC q=some o:=fun q o n e=>by rw [<-hC,zd n];exact e
 have nBx:B≠x:=fun e=>by rw [e,xB] at nB;cases nB
 have all:∀q o,H q=some o->q≠x->HC q=some o:=fun q o e n=>kC q o n (s3.obj (kB q o n s!"Cn{kA q o n s!"E["}"))
 have nO:∀q,HA q=none->H q=none:=fun q z=>by
  cases e:H q with
  | none=>rfl
  | some o=>
   by_cases n:q=x
   ·rw [n,xA] at z;cases z
   ·rw [kA q o n s!"E["] at z;cases z
 have nO2:∀q,HB q=none->H q=none:=fun q z=>by
  cases e:H q with
  | none=>rfl
  | some o=>
   by_cases n:q=x
   ·rw [n,xB] at z;cases z
   ·rw [kB q o n s!"Cn{kA q o n s!"E["}"] at z;cases z
 refine q T L B HC all nT (nO L nL) (nO2 B nB) ⟨⟨dx,xC⟩,⟨[],kC T _ (nx T nT) (s3.obj TB),List.nodup_nil,fun k hk=>(List.not_mem_nil hk).elim,fun n x h=>(by cases h),fun n _=>rfl⟩,⟨[],kC L _ nLx (s3.obj LB),rfl,fun i x d h=>by simp at h⟩,⟨[],kC B _ nBx eB,rfl,fun i x d h=>by simp at h⟩,fun e=>?_⟩
 rw [<-e,LB] at nB;cases nB
def yX (f:Str->Option Tb) (fs ps:List Str) (n:Str):Prop:=∃i:Nat,fs[i]? =some s!"DB"/\ps[i]? =some n/\f n=none/\∀j:Nat,j<i->∀m:Str,fs[j]? =some s!"DB"->ps[j]? =some m->f m≠none
def zan (f:Str->Option Tb) (fs ps:List Str):Prop:=∀(j:Nat) (m:Str),fs[j]? =some s!"DB"->ps[j]? =some m->f m≠none
def zij (K:PySem.W.Frag) (CD cN:Addr):Sp:=fun vs H Q E=>∃(a T L B fa l:Addr) (st:DSt) (fs ps:List Str),vs=[.ref a,.ref fa,.ref l]/\DeskAt CD H a T L B st/\(∀H,SqT K H fa s!"D]")/\SqL K H l s!"A-"/\fs.length<=ps.length/\(∀p∈ps,p.length<=1000)/\(zan st.f fs ps->∀H',Same H H'->Q .non H')/\∀n,yX st.f fs ps n->∀d H1,Same H H1->H1 d=none->E s!"4{cN}" s!"CQ" (upd H1 d (.xd [("name",.str n)]))
theorem za7 (C:Cls K mg base) (F:SrcM K "need_known" "Desk.need_known" yr C.Desk.f_need_known ["self","form","pieces"]) (B:Blt mg) (R:Rel K mg base C) (Kc:Cst K mg) (D_NoName:(DefI P w K mg base s!"v" 1 C.NoName.f ["self","name"] s!"Iu")):DefM P w K mg base s!"v" 3 C.Desk.f_need_known ["self","form","pieces"] s!"I)":=by
 refine F.okX (CX:=CXE P w) (k:=2) xl s!"x" s!"1"
 ·obtain ⟨_,_,_,_,_,_,_,_,_,rfl,_⟩:=h;rfl
 have nd:=xl.nd;obtain ⟨a,T,L,Bk,fa,l,st,fs,ps,rfl,D,hfa,hl,hlen,hp,q1,q0⟩:=h;obtain ⟨dx,ei⟩:=D.ins;obtain ⟨kvs,ek,kv⟩:=D.dict;have dc:=C.Desk.cl;have dt:=C.Desk.n_tables;have l1:s!"D]".length=fs.length:=List.length_map _;have l2:s!"A-".length=ps.length:=List.length_map _;refine ⟨_,s!"eBhC~{zh1 rfl B.zip s!"CZ"}Am2{@pg_name _ _ 3 _ nd rfl s!"Ag" (by walk_at "lo")}2AJAbe5Bk{@zeN _ _ _ _ _ _ _ s!"_A$?=" (@zcH _ _ _ _ (@zgK _ _ _ _ _ _ (@zeb _ _ _ _ _ hr.units2 s!"<" s!"A]") (by first | exact za9 _ s!"c" s!"c" | rfl)))}e{@zjg _ _ _ _ _ _ _ _ _ _ _ _ _ _ _ D_NoName C.NoName.own C.NoName.gl (hr.mono s!"c") rfl rfl xmade_cx s!"A=" s!"c" (by rfl) (by rfl)}",?_⟩
 walk_at "ds";refine zc [some s!"h",some s!"Aq",some s!"~",none,none] rfl ?_;left;refine zgk (hfa _) hl ?_;refine zlN (xs:=fs.map V.str) (ys:=ps.map V.str) (fun i σ H'=>Same H H'/\(∃z1 z2:Option V,σ=[some s!"h",some s!"Aq",some s!"~",z1,z2])/\∀j,j<i->∀m,fs[j]? =some s!"DB"->ps[j]? =some m->st.f m≠none) ⟨Same.refl _,⟨_,_,rfl⟩,fun j hj=>by omega⟩ (fun i σ H' h=>⟨hfa _,h.1.seq hl⟩) s!"a" ?_ ?_
 ·rintro i x y σ H1 hx hy ⟨s1,⟨z1,z2,rfl⟩,hb⟩ t nt;rw [List.getElem?_map] at hx hy;obtain ⟨k,hk,rfl⟩:=Option.map_eq_some_iff.mp hx;obtain ⟨p,hpp,rfl⟩:=Option.map_eq_some_iff.mp hy;have s2:Same H (upd H1 t s!"0{[.str k,.str p]}"):=s1.trans s!"ER{nt}";have e2:upd H1 t s!"0{[.str k,.str p]}" t=some s!"0{[.str k,.str p]}":=zb;generalize upd H1 t s!"0{[.str k,.str p]}"=H2 at*;have ei2:=s2.obj ei;have ek2:=s2.obj ek;left;have fin:∀P:Prop,(k=Str.ofString "KNOWN"->st.f p≠none)->(∀j,j<i+1->∀m,fs[j]? =some s!"DB"->ps[j]? =some m->st.f m≠none):=fun P h j hj m h1 h2=>by
   rcases Nat.lt_or_ge j i with z | z
   ·exact hb j z m h1 h2
   ·have e:j=i:=by omega
    rw [e,hk] at h1;rw [e,hpp] at h2;cases h2;exact h s!"A9"
  walk_at "ite"
  ·rename_i c;left;cases hv:st.f p with
   | none=>
    rw [show s!"I[".isSome=false by rw [kv.no p hv];rfl]
    left;exact zg7 (show zlK s!"o{p}" from ⟨p,rfl,hp p s!"B3{hpp}"⟩) fun d hd=>q0 p ⟨i,by rw [hk,c],hpp,hv,hb⟩ d H2 s2 hd
   | some x=>
    obtain ⟨tt,hvv,_⟩:=kv.vals p x hv;rw [show s!"I[".isSome=true by rw [hvv];rfl]
    left;exact ⟨s2,⟨_,_,rfl⟩,fin True fun _=>by rw [hv];simp⟩
  ·rename_i c;left;exact ⟨s2,⟨_,_,rfl⟩,fin True fun z=>absurd z c⟩
 ·rintro σ H1 ⟨s1,⟨z1,z2,rfl⟩,hb⟩;left;refine q1 (fun j m h1 h2=>hb j ?_ m h1 h2) H1 s1
  have:=s!"Dk{h1}".1;omega
def wE (y z:Tb):Tb:=(y.1*z.1+y.2.1*z.2.2.1,y.1*z.2.1+y.2.1*z.2.2.2,y.2.2.1*z.1+y.2.2.2*z.2.2.1,y.2.2.1*z.2.1+y.2.2.2*z.2.2.2)
def xp (y:Tb):Tb:=(y.2.2.2,-y.2.1,-y.2.2.1,y.1)
def zbJ (x:Tb):Int:=x.1*x.2.2.2-x.2.1*x.2.2.1
def zmf (f:Str->Option Tb) (ps:List Str) (x:Tb):Prop:=
 (ps[0]? =some s!"Cg"/\zbH s!"B(" x.1 x.2.1 x.2.2.1 x.2.2.2)\/
 (ps[0]? =some s!"Gx"/\∃ws,RW s!"B(" ws/\Big ws/\x=Mth.fw ws)\/
 (ps[0]? =some s!"I]"/\ps[2]? =some s!"BA{"together"}"/\∃n m y z,ps[3]? =some n/\ps[4]? =some m/\f n=some y/\f m=some z/\x=wE y z)\/
 (ps[0]? =some s!"I]"/\ps[2]? =some s!"BA{"back"}"/\∃n y,ps[3]? =some n/\f n=some y/\x=xp y)
theorem RW.uniq (h1:RW t ws) (h2:RW t us):ws=us:=by
 rcases h1 with ⟨e,rfl⟩ | ⟨n1,r1,_⟩
 ·rcases h2 with ⟨_,rfl⟩ | ⟨n2,_⟩
  ·rfl
  ·exact absurd e n2
 ·rcases h2 with ⟨e,_⟩ | ⟨_,r2,_⟩
  ·exact absurd e n1
  ·have l1:=r1.1;have l2:=r2.1;apply List.ext_getElem?;intro i
   by_cases hi:i<ws.length
   ·obtain ⟨p,hp⟩:∃p,ws[i]? =some p:=⟨_,List.getElem?_eq_getElem hi⟩;obtain ⟨q,hq⟩:∃q,us[i]? =some q:=⟨_,List.getElem?_eq_getElem s!"a"⟩
    obtain ⟨a1,n,a2,_,a3,_⟩:=r1.2 i p hp;obtain ⟨b1,m,b2,_,b3,_⟩:=r2.2 i q hq;rw [a1] at b1;rw [a2] at b2;cases b2;rw [hp,hq];obtain ⟨x,y⟩:=p;obtain ⟨x',y'⟩:=q;have ex:ltr x=ltr x':=Option.some.inj b1;have e:x=x':=by cases x <;> cases x' <;> first | rfl | exact absurd ex s!"c"
    have e2:y=y':=a3.symm.trans b3;rw [e,e2]
   ·rw [List.getElem?_eq_none s!"a",List.getElem?_eq_none s!"a"]
theorem zbH.uniq {a a' b' c' d':Int} (h1:zbH t a b c d) (h2:zbH t a' b' c' d'):a=a'/\b=b'/\c=c'/\d=d':=by
 have e:=h1.2;rw [h2.2] at e;cases e;exact ⟨rfl,rfl,rfl,rfl⟩
theorem xS.uniq (h1:xS H v ws) (h2:xS H v us):ws=us:=by
 obtain ⟨D,rfl,W,_⟩:=h1;obtain ⟨D',e,U,_⟩:=h2;cases e;exact WordL.uniq W U
def zpE (K:PySem.W.Frag) (CD cT cM:Addr):Sp:=fun vs H Q E=>∃(a T L B l:Addr) (st:DSt) (ps:List Str) (x:Tb),vs=[.ref a,.ref l]/\DeskAt CD H a T L B st/\SqL K H l s!"A-"/\zcw ps/\Tx s!"B("/\(∀n y,st.f n=some y->xD y)/\zmf st.f ps x/\(ps[0]? =some s!"Cg"->zbJ x≠1->∀H',Same H H'->E s!"E<" none H')/\(ps[0]?≠some s!"Cg"->¬zZ x->∀H',Same H H'->E s!"4{cM}" none H')/\(xD x->∀t H',Same H H'->wD H' t x->Q s!">" H')
theorem zjF {t:Addr} (h:wD H t x) (s:Same H H'):wD H' t x:=h.move fun q xs e=>s.obj e
theorem zik (hy:zbJ y=1) (hz:zbJ z=1):zbJ s!"A?"=1:=by
 obtain ⟨a,b,c,d⟩:=y;obtain ⟨e,f,g,h⟩:=z;unfold zbJ at*;unfold wE;dsimp only at*;grind
theorem zbK (C:Cls K mg base) (F:SrcM K "new_table" "Desk.new_table" yz C.Desk.f_new_table ["self","pieces"]) (B:Blt mg) (R:Rel K mg base C) (Kc:Cst K mg) (D_read_table:s!"m{5}{"read_table"}{["text"]}I=") (D_table_of:s!"m{5}{"table_of"}{["word"]}I%") (D_word_behind:s!"m{5}{"word_behind"}{["pieces"]}GQ") (D_together:s!"m{5}{"together"}{["one","other"]}{zsG}") (D_back_of:s!"m{5}{"back_of"}{["table"]}{zsH}") (D_need_short_places:s!"m{2}{"need_short_places"}{["table"]}I|"):DefM P w K mg base s!"v" 6 C.Desk.f_new_table ["self","pieces"] s!"IA":=by
 refine F.okX (CX:=CXE P w) (k:=5) xz s!"x" s!"1"
 ·obtain ⟨_,_,_,_,_,_,_,_,rfl,_⟩:=h;rfl
 have nd:=xz.nd;obtain ⟨a,T,L,Bk,l,st,ps,x,rfl,D,hl,ok,tx,gd,md,qT,qM,q⟩:=h;obtain ⟨dx,ei⟩:=D.ins;obtain ⟨kvs,ek,kv⟩:=D.dict;have dc:=C.Desk.cl;have dt:=C.Desk.n_tables;have ok1:=ok.1;have lm:s!"A-".length=ps.length:=List.length_map _;have at0:∀{i:Nat} {w:Str},ps[i]? =some w->atI s!"A-" (i:Int)=some s!"o{w}":=fun h=>yS (by rw [List.getElem?_map,h];rfl)
 refine ⟨_,s!"d5Gyepk{D_read_table}&bAwASBKBLBM=bDnDU*E_DrffAAC:Gyez{2}k{D_table_of}&bkGS&AsfeC:Gyez{2}k{D_together}&bDmA]A[IBez{2}k{D_back_of}&IBd@k{D_need_short_places}&AYE=",?_⟩
 walk_at "ds";refine zc [some s!"h",some s!"~",none] rfl ?_;left;rcases md with ⟨h0,F⟩ | md
 ·refine zeW.Q0 hl (at0 (i:=0) h0) ?_;left;walk_at "ite"
  rotate_left
  ·rename_i c;exact absurd rfl c
  left;rename_i D1 H1 s1 n1 e1;rw [zeI] at e1;refine yo s!"Dd" s!"B0" (yV (k:=10000) s!"n" (by rw [List.length_drop];omega) (fun w hw=>(ok.2 w (List.mem_of_mem_drop hw)).2) s!",") ?_
  left;refine ⟨_,rfl,tx,fun a' b' c' d' F' det D2 H2 s2 T2=>?_,fun a' b' c' d' F' det H2 s2=>?_,fun n=>absurd F (n _ _ _ _)⟩
  ·obtain ⟨rfl,rfl,rfl,rfl⟩:=F.uniq F';exact q ⟨det,F.lt⟩ D2 H2 s!"At" T2
  ·obtain ⟨rfl,rfl,rfl,rfl⟩:=F.uniq F';exact qT h0 det H2 s!"At"
 have n0:ps[0]?≠some s!"Cg":=by
  rcases md with ⟨h,_⟩ | ⟨h,_⟩ | ⟨h,_⟩ <;> (rw [h];decide+kernel)
 obtain ⟨w0,h0⟩:∃w,ps[0]? =some w:=by
  rcases md with ⟨h,_⟩ | ⟨h,_⟩ | ⟨h,_⟩ <;> exact ⟨_,h⟩
 have nw:¬w0=Str.ofString "table":=fun z=>n0 (by rw [h0,z])
 refine zeW.Q0 hl (at0 (i:=0) h0) ?_;left;walk_at "ite"
 ·rename_i c;exact absurd c nw
 left;refine zr (fun σ H'=>Same H H'/\zbJ x=1/\∃t,σ=[some s!"h",some s!"~",some s!">"]/\wD H' t x) ?_ ?_
 ·left;refine zeW.Q0 hl (at0 (i:=0) h0) ?_;left;rcases md with ⟨h,ws,r,big,rfl⟩ | ⟨h,h2,n,m,y,z,h3,h4,hy,hz,rfl⟩ | ⟨h,h2,n,y,h3,hy,rfl⟩
  ·rw [h0] at h;cases h;walk_at "ite"
   rotate_left
   ·rename_i c;exact absurd rfl c
   left;refine ⟨_,_,rfl,hl,ok,tx,fun ws' r' lw D1 H1 s1 n1 g=>?_,fun n=>absurd r (n ws)⟩
   obtain rfl:=r.uniq r';left;refine ⟨_,rfl,g.kw,fun us g'=>?_,fun z=>absurd ⟨ws,g⟩ z⟩
   obtain rfl:=g.uniq g';refine ⟨big,fun t H2 s2 T2=>?_⟩
   left;exact ⟨s1.trans s2,Mth.zlY ws,t,rfl,T2⟩
  ·rw [h0] at h;cases h;walk_at "ite"
   ·rename_i c;exact absurd c s!"n"
   left;refine zeW.Q0 hl (at0 (i:=2) h2) ?_;left;walk_at "ite"
   rotate_left
   ·rename_i c;exact absurd rfl c
   obtain ⟨t1,v1,X1⟩:=kv.vals n y hy;obtain ⟨t2,v2,X2⟩:=kv.vals m z hz;left;refine zeW.Q0 hl (at0 (i:=3) h3) ?_;refine yk ek v1 ?_;left;refine zeW.Q0 hl (at0 (i:=4) h4) ?_;refine yk ek v2 ?_;left;obtain ⟨d1,b1,b2,b3,b4⟩:=gd n y hy;obtain ⟨d2,b5,b6,b7,b8⟩:=gd m z hz;refine ⟨_,_,_,_,_,_,_,_,_,_,rfl,X1,X2,d1,d2,⟨up190 b1,up190 b2,up190 b3,up190 b4⟩,⟨up190 b5,up190 b6,up190 b7,up190 b8⟩,fun t H2 s2 T2=>?_⟩
   left;exact ⟨s2,zik d1 d2,t,rfl,T2⟩
  ·rw [h0] at h;cases h;walk_at "ite"
   ·rename_i c;exact absurd c s!"n"
   left;refine zeW.Q0 hl (at0 (i:=2) h2) ?_;left;walk_at "ite"
   ·rename_i c;exact absurd c s!"n"
   obtain ⟨t1,v1,X1⟩:=kv.vals n y hy;left;refine zeW.Q0 hl (at0 (i:=3) h3) ?_;refine yk ek v1 ?_;left;obtain ⟨d1,b1,b2,b3,b4⟩:=gd n y hy;refine ⟨_,_,_,_,_,rfl,X1,d1,up190 b1,up190 b2,up190 b3,up190 b4,fun t H2 s2 T2=>?_⟩
   left;refine ⟨s2,?_,t,rfl,T2⟩;unfold zbJ xp;dsimp only;rw [<-d1];grind
 rintro σ H1 ⟨s1,det,t,rfl,X⟩;left;refine ⟨_,_,rfl,X,fun sh H2 s2=>?_,fun ns H2 s2=>qM n0 ns H2 s!"At"⟩
 left;exact q ⟨det,sh⟩ t H2 s!"At" (zjF X s2)
def Few (f:Str->Option Tb):Prop:=∀ns:List Str,ns.Nodup->(∀n∈ns,f n≠none)->ns.length<=62
def zfy (CD:Addr):Sp:=fun vs H Q _=>∃(a T L B:Addr) (st:DSt) (n:Str) (v:V) (o:Option Tb),vs=[.ref a,.str n,v]/\DeskAt CD H a T L B st/\za6 H v o/\(o=none->st.f n≠none)/\Few st.f/\∀H',(∀q o,q≠T->H q=some o->H' q=some o)->DeskAt CD H' a T L B ⟨zk st.f n o,st.dn,st.bk⟩->Q .non H'
theorem DeskAt.put (D:DeskAt CD H a T L B st) (k:KvOk H kvs f):DeskAt CD s!".{T}:" a T L B ⟨f,st.dn,st.bk⟩:=by
 obtain ⟨⟨dx,i⟩,⟨kv0,e0,_⟩,⟨ds,e1,d1⟩,⟨bs,e2,d2⟩,ne⟩:=D;have m:∀q xs,H q=some s!"6"->upd H T s!":" q=some s!"6":=fun q xs h=>by
  rw [zd (fun z=>by rw [z,e0] at h;cases h)]
  exact h
 refine ⟨⟨dx,by rw [zd (fun z=>by rw [z,e0] at i;cases i)];exact i⟩,⟨kvs,zb,k.move fun t x h=>h.move m⟩,⟨ds,by rw [zd (fun z=>by rw [z,e0] at e1;cases e1)];exact e1,d1.move m⟩,⟨bs,by rw [zd (fun z=>by rw [z,e0] at e2;cases e2)];exact e2,d2.move m⟩,ne⟩
theorem zfz (C:Cls K mg base) (F:SrcM K "keep" "Desk.keep" zaa C.Desk.f_keep ["self","name","table"]) (B:Blt mg) (R:Rel K mg base C) (Kc:Cst K mg):DefM P w K mg base s!"v" 1 C.Desk.f_keep ["self","name","table"] (zfy C.Desk.addr):=by
 refine F.ok (CX:=CXE P w) (k:=0) zbx s!"x" s!"1"
 ·obtain ⟨_,_,_,_,_,_,_,_,rfl,_⟩:=h;rfl
 have nd:=zbx.nd;obtain ⟨a,T,L,Bk,st,n,v,o,rfl,D,hv,ho,few,q⟩:=h;obtain ⟨dx,ei⟩:=D.ins;obtain ⟨kvs,ek,kv⟩:=D.dict;have dc:=C.Desk.cl;have dt:=C.Desk.n_tables;have kl:kvs.length<sizeLine:=by
  obtain ⟨ns,e,nd,mem⟩:=kv.names;have h1:=few ns nd fun n hn=>s!"De".mp hn
  have h2:=congrArg List.length e;rw [List.length_map,List.length_map] at h2;exact zf s!"a"
 refine ⟨_,s!"eC:_{znJ}[{pe_non}e@{@zf3 _ _ _ _ _ _ _ s!"A]" s!"*" ⟨rfl,rfl,rfl,rfl⟩}e{@ps_dput _ _ _ _ _ _ _ _ _ hr.units2 s!"A]" s!"*" s!"[" rfl}",?_⟩
 walk_at "ds";refine zc [some s!"h",some s!"B)",some v] rfl ?_;cases o with
 | none=>
  obtain rfl:v=.non:=hv;left;obtain ⟨x,hx⟩:∃x,st.f n=some x:=Option.ne_none_iff_exists'.mp (ho rfl);obtain ⟨t,hv,_⟩:=kv.vals n x hx;refine zes ek hv ?_;left;exact q _ (fun q o n e=>by rw [zd n];exact e) (D.put kv.drop)
 | some x=>
  obtain ⟨t,rfl,TX⟩:=hv;left;refine zer ek kl ?_;left;exact q _ (fun q o n e=>by rw [zd n];exact e) (D.put (kv.put TX))
theorem DeskAt.same (D:DeskAt CD H a T L B st) (s:Same H H'):DeskAt CD H' a T L B st:=by
 obtain ⟨⟨dx,i⟩,⟨kvs,e0,k⟩,⟨ds,e1,d1⟩,⟨bs,e2,d2⟩,ne⟩:=D;have m:∀q xs,H q=some s!"6"->H' q=some s!"6":=fun q xs h=>s.obj h
 exact ⟨⟨dx,s.obj i⟩,⟨kvs,s.obj e0,k.move fun t x h=>h.move m⟩,⟨ds,s.obj e1,d1.move m⟩,⟨bs,s.obj e2,d2.move m⟩,ne⟩
theorem DeskAt.setL (D:DeskAt CD H a T L B st) (h:zH H ds dn):DeskAt CD s!".{L}E)" a T L B ⟨st.f,dn,st.bk⟩:=by
 obtain ⟨⟨dx,i⟩,⟨kvs,e0,k⟩,⟨ds0,e1,d1⟩,⟨bs,e2,d2⟩,ne⟩:=D;have m:∀q xs,H q=some s!"6"->upd H L s!"E)" q=some s!"6":=fun q xs h=>by
  rw [zd (fun z=>by rw [z,e1] at h;cases h)]
  exact h
 exact ⟨⟨dx,by rw [zd (fun z=>by rw [z,e1] at i;cases i)];exact i⟩,⟨kvs,by rw [zd (fun z=>by rw [z,e1] at e0;cases e0)];exact e0,k.move fun t x h=>h.move m⟩,⟨ds,zb,h.move m⟩,⟨bs,by rw [zd (fun z=>ne z.symm)];exact e2,d2.move m⟩,ne⟩
theorem DeskAt.setB (D:DeskAt CD H a T L B st) {bk:List yf} (h:zH H bs bk):DeskAt CD s!".{B}Gz" a T L B ⟨st.f,st.dn,bk⟩:=by
 obtain ⟨⟨dx,i⟩,⟨kvs,e0,k⟩,⟨ds,e1,d1⟩,⟨bs0,e2,d2⟩,ne⟩:=D;have m:∀q xs,H q=some s!"6"->upd H B s!"Gz" q=some s!"6":=fun q xs h=>by
  rw [zd (fun z=>by rw [z,e2] at h;cases h)]
  exact h
 exact ⟨⟨dx,by rw [zd (fun z=>by rw [z,e2] at i;cases i)];exact i⟩,⟨kvs,by rw [zd (fun z=>by rw [z,e2] at e0;cases e0)];exact e0,k.move fun t x h=>h.move m⟩,⟨ds,by rw [zd ne];exact e1,d1.move m⟩,⟨bs,zb,h.move m⟩,ne⟩
theorem zH.snoc {t:Addr} {d:yf} {w:V} (h:zH H ds dn) (e:H t=some s!"0{[.str d.1,v,w]}") (h1:za6 H v d.2.1) (h2:za6 H w d.2.2):zH H (ds++[t]) (dn++[d]):=by
 refine ⟨by simp [h.1],fun i x d' hx hd=>?_⟩
 rcases Nat.lt_or_ge i ds.length with z | z
 ·rw [List.getElem?_append_left z] at hx;rw [List.getElem?_append_left (by rw [<-h.1];exact z)] at hd
  exact h.2 i x d' hx hd
 ·have hi:=s!"Da".1;rw [List.length_append] at hi;simp only [List.length_cons,List.length_nil] at hi;rw [List.getElem?_append_right z,show i-ds.length=0 by omega] at hx
  rw [List.getElem?_append_right (by rw [<-h.1];exact z),show i-dn.length=0 by rw [<-h.1];omega] at hd
  cases hx;cases hd;exact ⟨v,w,e,h1,h2⟩
def yg (a T L B:Addr) (H H':Hp):Prop:=∀q o,H q=some o->q≠a->q≠T->q≠L->q≠B->H' q=some o
def zmg (CD:Addr):Sp:=fun vs H Q _=>∃(a T L B:Addr) (st:DSt) (n:Str) (v:V) (o:Option Tb),vs=[.ref a,.str n,v]/\DeskAt CD H a T L B st/\za6 H v o/\(o=none->st.f n≠none)/\Few st.f/\st.dn.length<=900/\∀B' H',yg a T L B H H'->H B'=none->DeskAt CD H' a T L B' ⟨zk st.f n o,st.dn++[(n,st.f n,o)],[]⟩->(∀q xs,H q=some s!"6"->H' q=some s!"6")->Q .non H'
theorem zcE (C:Cls K mg base) (F:SrcM K "do_deed" "Desk.do_deed" xm C.Desk.f_do_deed ["self","name","table"]) (B:Blt mg) (R:Rel K mg base C) (Kc:Cst K mg) (D_Desk_keep:s!"Bi{1}Fm{["self","name","table"]}Fn"):DefM P w K mg base s!"v" 2 C.Desk.f_do_deed ["self","name","table"] s!"IC":=by
 refine F.ok (CX:=CXE P w) (k:=1) wz s!"x" s!"1"
 ·obtain ⟨_,_,_,_,_,_,_,_,rfl,_⟩:=h;rfl
 have nd:=wz.nd;obtain ⟨a,T,L,Bk,st,n,v,o,rfl,D,hv,ho,few,dl,q⟩:=h;obtain ⟨dx,ei⟩:=D.ins;obtain ⟨kvs,ek,kv⟩:=D.dict;obtain ⟨ds,eL,dL⟩:=D.done;obtain ⟨bs,eB,dB⟩:=D.back;have dc:=C.Desk.cl;have dt:=C.Desk.n_tables;have dd:=C.Desk.n_done;have db:=C.Desk.n_taken_back;refine ⟨_,s!"d@AwANAOAPAQA]b3b*b{@zk6 _ _ _ _ _ _ _ hr.units2 s!"A]" s!"*" ⟨rfl,rfl,rfl,rfl⟩}AYfdGwe@CjFoFp;CZ",?_⟩
 walk_at "ds";refine zc [some s!"h",some s!"B)",some v] rfl ?_;left;refine ⟨_,xY.k (k:=Sum.inr n) ek,?_⟩;left;rename_i t H1 s1 nt et;have hw:za6 H ((zC kvs s!"C*").getD .non) (st.f n):=by
  cases hf:st.f n with
  | none=>
   rw [kv.no n hf];rfl
  | some x=>
   obtain ⟨tt,e,TX⟩:=kv.vals n x hf;rw [e];exact ⟨tt,rfl,TX⟩
 have m1:∀q xs,H q=some s!"6"->H1 q=some s!"6":=fun q xs h=>s1.obj h
 have D1:=D.same s1;refine zJ (xs:=ds.map V.ref) s!"B8{eL}" (by rw [List.length_map,dL.1];exact zf s!"a") ?_
 have d2:zH H1 (ds++[t]) (st.dn++[(n,st.f n,o)]):=(dL.move m1).snoc (d:=(n,st.f n,o)) et (hw.move m1) (hv.move m1);have D2:=D1.setL d2;have eL1:=s1.obj eL;have e2:(ds++[t]).map V.ref=ds.map V.ref++[.ref t]:=by rw [List.map_append];rfl
 rw [e2] at D2;have k2:∀q o,q≠L->H1 q=some o->upd H1 L s!"q{(ds.map V.ref++[.ref t])}" q=some o:=fun q o n e=>by rw [zd n];exact e
 generalize upd H1 L s!"q{(ds.map V.ref++[.ref t])}"=H2 at*;left;rename_i B' H3 s3 nB' eB';have D3:=D2.same s3;obtain ⟨dx3,ei3⟩:=D3.ins;refine zbk ei3 C.Desk.cl C.Desk.n_taken_back (by show 3<1000;decide) ?_
 obtain ⟨kvs3,ek3,kv3⟩:=D3.dict;obtain ⟨ds3,eL3,dL3⟩:=D3.done;have neB:B'≠a/\B'≠T/\B'≠L:=by
  obtain ⟨dx2,i2⟩:=D2.ins;obtain ⟨_,k2,_⟩:=D2.dict;obtain ⟨_,l2,_⟩:=D2.done;exact ⟨(fun e=>by rw [e,i2] at nB';cases nB'),(fun e=>by rw [e,k2] at nB';cases nB'),(fun e=>by rw [e,l2] at nB';cases nB')⟩
 have k4:∀q o,q≠a->H3 q=some o->upd H3 a (.ins C.Desk.addr dx3 (yR "taken_back" s!"4{B'}" [("tables",.ref T),("done",.ref L),("taken_back",.ref Bk)])) q=some o:=fun q o n e=>by rw [zd n];exact e
 have a4:upd H3 a (.ins C.Desk.addr dx3 (yR "taken_back" s!"4{B'}" [("tables",.ref T),("done",.ref L),("taken_back",.ref Bk)])) a=some (.ins C.Desk.addr dx3 [("tables",.ref T),("done",.ref L),("taken_back",.ref B')]):=zb;generalize upd H3 a (.ins C.Desk.addr dx3 (yR "taken_back" s!"4{B'}" [("tables",.ref T),("done",.ref L),("taken_back",.ref Bk)]))=H4 at*;have m4:∀q xs,H3 q=some s!"6"->H4 q=some s!"6":=fun q xs h=>k4 q _ (fun z=>by rw [z,ei3] at h;cases h) h
 have D4:DeskAt C.Desk.addr H4 a T L B' ⟨st.f,st.dn++[(n,st.f n,o)],[]⟩:=⟨⟨dx3,a4⟩,⟨kvs3,k4 T _ (fun z=>by rw [z,ei3] at ek3;cases ek3) ek3,kv3.move fun t x h=>h.move m4⟩,⟨ds3,k4 L _ (fun z=>by rw [z,ei3] at eL3;cases eL3) eL3,dL3.move m4⟩,⟨[],k4 B' _ neB.1 eB',rfl,fun i x d h=>by simp at h⟩,Ne.symm neB.2.2⟩
 have mm:∀q xs,H q=some s!"6"->H4 q=some s!"6":=fun q xs h=>m4 q xs (s3.obj (k2 q _ (fun z=>by rw [z,eL] at h;cases h) (m1 q xs h)))
 left;refine ⟨_,_,_,_,_,_,_,o,rfl,D4,hv.move mm,ho,few,fun H5 k5 D5=>?_⟩
 left;refine q B' H5 (fun q o e n1 n2 n3 n4=>k5 q o n2 (k4 q o n1 (s3.obj s!"ID"))) ?_ D5 (fun q xs h=>?_)
 ·cases z:H B' with
  | none=>rfl
  | some o'=>
   have:=k2 B' o' neB.2.2 s!"B8{z}";rw [nB'] at this;cases this
 ·have h4:=mm q xs h;obtain ⟨kv4,e4,_⟩:=D4.dict;exact k5 q _ (fun z=>by rw [z,e4] at h4;cases h4) h4
theorem zH.split {dn0:List yf} {d:yf} (h:zH H ds (dn0++[d])):∃ds0 t v w,ds=ds0++[t]/\zH H ds0 dn0/\H t=some s!"0{[.str d.1,v,w]}"/\za6 H v d.2.1/\za6 H w d.2.2:=by
 have hl:=h.1;rw [List.length_append] at hl;simp only [List.length_cons,List.length_nil] at hl;have ne:ds≠[]:=fun z=>by rw [z] at hl;simp at hl
 obtain ⟨ds0,t,e⟩:∃ds0 t,ds=ds0++[t]:=⟨ds.dropLast,ds.getLast ne,(List.dropLast_concat_getLast ne).symm⟩;subst e;rw [List.length_append] at hl;simp only [List.length_cons,List.length_nil] at hl;have l0:ds0.length=dn0.length:=by omega
 obtain ⟨v,w,e,h1,h2⟩:=h.2 ds0.length t d (by rw [List.getElem?_append_right s!","];simp) (by rw [l0,List.getElem?_append_right s!","];simp)
 refine ⟨ds0,t,v,w,rfl,⟨l0,fun i x d' hx hd=>?_⟩,e,h1,h2⟩
 have hi:=s!"Da".1;exact h.2 i x d' (by rw [List.getElem?_append_left hi];exact hx) (by rw [List.getElem?_append_left s!"a"];exact hd)
theorem zil {l:Addr} {y:V} (e:H l=some s!"q{(xs++[y])}") (h:Q y s!".{l}Ae"):zrC s!"~" [] H Q:=⟨l,xs++[y],y,rfl,rfl,e,by simp,by simpa using h⟩
def zmh (CD cD:Addr):Sp:=fun vs H Q E=>∃(a T L B:Addr) (st:DSt),vs=[.ref a]/\DeskAt CD H a T L B st/\Few st.f/\st.bk.length<=900/\(st.dn=[]->∀H',Same H H'->E s!"4{cD}" none H')/\∀dn0 d,st.dn=dn0++[d]->(d.2.1=none->st.f d.1≠none)/\∀H',yg a T L B H H'->DeskAt CD H' a T L B ⟨zk st.f d.1 d.2.1,dn0,st.bk++[d]⟩->(∀q xs,H q=some s!"6"->H' q=some s!"6")->Q .non H'
theorem zfA (C:Cls K mg base) (F:SrcM K "undo" "Desk.undo" zab C.Desk.f_undo ["self"]) (B:Blt mg) (R:Rel K mg base C) (Kc:Cst K mg) (D_Desk_keep:s!"Bi{1}Fm{["self","name","table"]}Fn"):DefM P w K mg base s!"v" 2 C.Desk.f_undo ["self"] s!"IE":=by
 refine F.okX (CX:=CXE P w) (k:=1) zby s!"x" s!"1"
 ·obtain ⟨_,_,_,_,_,rfl,_⟩:=h;rfl
 have nd:=zby.nd;obtain ⟨a,T,L,Bk,st,rfl,D,few,bl,q0,q1⟩:=h;obtain ⟨dx,ei⟩:=D.ins;obtain ⟨ds,eL,dL⟩:=D.done;have dc:=C.Desk.cl;have dt:=C.Desk.n_tables;have dd:=C.Desk.n_done;have db:=C.Desk.n_taken_back;refine ⟨_,s!"d5_ByA]B'eC-{(C.NoDeed).own}dz{1}{@zkb _ _ _ _ _ _ _ _ _ PySem.F.plainAttrs_list PySem.F.slot_list_pop PySem.F.type_list_pop zkd s!"A]" (by rfl) (by rfl)}d@AwANAOAPAQA]Ase@CjFoFp&bA[bA[f",?_⟩
 walk_at "ds";refine zc [some s!"h",none] rfl ?_;left;rename_i l1 H1 s1 n1 e1
 by_cases hd:st.dn=[]
 ·obtain rfl:ds=[]:=List.length_eq_zero_iff.mp (by rw [dL.1,hd];rfl)
  refine yi (b:=true) ((Cmp.lst (d:=3) (fun _=>true) s!"E]" s!"B0" rfl (fun i x y h=>by simp at h)).to (zi0 fun _ _=>rfl)) ?_
  left;exact q0 hd H1 s1
 have nds:ds≠[]:=fun z=>hd s!"C/{by rw [<-dL.1,z];rfl}"
 refine yi (b:=false) (Cmp.lens (d:=3) s!"E]" s!"B0" (by rw [List.length_map];exact fun z=>nds s!"C/{z}")) ?_
 left;obtain ⟨dn0,d,ed⟩:∃dn0 d,st.dn=dn0++[d]:=⟨st.dn.dropLast,st.dn.getLast hd,s!"IF".symm⟩;obtain ⟨qn,q⟩:=q1 dn0 d ed;have D1:=D.same s1;obtain ⟨ds1,eL1,dL1⟩:=D1.done;rw [ed] at dL1;obtain ⟨ds0,t,v,w,eds,dk0,et,hv,hw⟩:=dL1.split;rw [eds,List.map_append] at eL1;refine zil (y:=.ref t) eL1 ?_;have D2:=D1.setL dk0;have k2:∀q o,q≠L->H1 q=some o->upd H1 L s!"Df" q=some o:=fun q o n e=>by rw [zd n];exact e
 have m2:∀q xs,H1 q=some s!"6"->upd H1 L s!"Df" q=some s!"6":=fun q xs h=>k2 q _ (fun z=>by rw [z,eL1] at h;cases h) h
 have et2:=m2 t _ et;have hv2:=hv.move m2;have hw2:=hw.move m2;generalize upd H1 L s!"Df"=H2 at*;obtain ⟨dx2,ei2⟩:=D2.ins;obtain ⟨bs,eB2,dB2⟩:=D2.back;left;refine zJ (xs:=bs.map V.ref) eB2 (by rw [List.length_map,dB2.1];exact zf (by show st.bk.length<=1000;omega)) ?_
 have d3:zH H2 (bs++[t]) (st.bk++[d]):=dB2.snoc (d:=d) et2 hv2 hw2;have D3:=D2.setB d3;have e3:(bs++[t]).map V.ref=bs.map V.ref++[.ref t]:=by rw [List.map_append];rfl
 rw [e3] at D3;have k3:∀q o,q≠Bk->H2 q=some o->upd H2 Bk s!"q{(bs.map V.ref++[.ref t])}" q=some o:=fun q o n e=>by rw [zd n];exact e
 have m3:∀q xs,H2 q=some s!"6"->upd H2 Bk s!"q{(bs.map V.ref++[.ref t])}" q=some s!"6":=fun q xs h=>k3 q _ (fun z=>by rw [z,eB2] at h;cases h) h
 have et3:=m3 t _ et2;have hv3:=hv2.move m3;have hw3:=hw2.move m3;generalize upd H2 Bk s!"q{(bs.map V.ref++[.ref t])}"=H3 at*;obtain ⟨dx3,ei3⟩:=D3.ins;left;refine ⟨_,_,_,_,_,_,_,d.2.1,rfl,D3,hv3,qn,few,fun H4 k4 D4=>?_⟩
 left;refine q H4 (fun q o e n1 n2 n3 n4=>k4 q o n2 (k3 q o n4 s!"ID")) D4 (fun q xs h=>?_)
 have h3:=m3 q xs s!"IG";obtain ⟨kv4,e4,_⟩:=D3.dict;exact k4 q _ (fun z=>by rw [z,e4] at h3;cases h3) h3
def zmi (CD cD:Addr):Sp:=fun vs H Q E=>∃(a T L B:Addr) (st:DSt),vs=[.ref a]/\DeskAt CD H a T L B st/\Few st.f/\st.dn.length<=900/\(st.bk=[]->∀H',Same H H'->E s!"4{cD}" none H')/\∀bk0 d,st.bk=bk0++[d]->(d.2.2=none->st.f d.1≠none)/\∀H',yg a T L B H H'->DeskAt CD H' a T L B ⟨zk st.f d.1 d.2.2,st.dn++[d],bk0⟩->(∀q xs,H q=some s!"6"->H' q=some s!"6")->Q .non H'
theorem zfB (C:Cls K mg base) (F:SrcM K "redo" "Desk.redo" zac C.Desk.f_redo ["self"]) (B:Blt mg) (R:Rel K mg base C) (Kc:Cst K mg) (D_Desk_keep:s!"Bi{1}Fm{["self","name","table"]}Fn"):DefM P w K mg base s!"v" 2 C.Desk.f_redo ["self"] s!"IH":=by
 refine F.okX (CX:=CXE P w) (k:=1) zbz s!"x" s!"1"
 ·obtain ⟨_,_,_,_,_,rfl,_⟩:=h;rfl
 have nd:=zbz.nd;obtain ⟨a,T,L,Bk,st,rfl,D,few,bl,q0,q1⟩:=h;obtain ⟨dx,ei⟩:=D.ins;obtain ⟨ds,eL,dL⟩:=D.back;have dc:=C.Desk.cl;have dt:=C.Desk.n_tables;have dd:=C.Desk.n_done;have db:=C.Desk.n_taken_back;refine ⟨_,s!"d5_ByA]B'eC-{(C.NoDeed).own}dz{1}{@zkb _ _ _ _ _ _ _ _ _ PySem.F.plainAttrs_list PySem.F.slot_list_pop PySem.F.type_list_pop zkd s!"A]" (by rfl) (by rfl)}d@AwANAOAPAQA]Ase@CjFoFp&bA[bA[f",?_⟩
 walk_at "ds";refine zc [some s!"h",none] rfl ?_;left;rename_i l1 H1 s1 n1 e1
 by_cases hd:st.bk=[]
 ·obtain rfl:ds=[]:=List.length_eq_zero_iff.mp (by rw [dL.1,hd];rfl)
  refine yi (b:=true) ((Cmp.lst (d:=3) (fun _=>true) s!"E]" s!"B0" rfl (fun i x y h=>by simp at h)).to (zi0 fun _ _=>rfl)) ?_
  left;exact q0 hd H1 s1
 have nds:ds≠[]:=fun z=>hd s!"C/{by rw [<-dL.1,z];rfl}"
 refine yi (b:=false) (Cmp.lens (d:=3) s!"E]" s!"B0" (by rw [List.length_map];exact fun z=>nds s!"C/{z}")) ?_
 left;obtain ⟨bk0,d,ed⟩:∃bk0 d,st.bk=bk0++[d]:=⟨st.bk.dropLast,st.bk.getLast hd,s!"IF".symm⟩;obtain ⟨qn,q⟩:=q1 bk0 d ed;have D1:=D.same s1;obtain ⟨ds1,eL1,dL1⟩:=D1.back;rw [ed] at dL1;obtain ⟨ds0,t,v,w,eds,dk0,et,hv,hw⟩:=dL1.split;rw [eds,List.map_append] at eL1;refine zil (y:=.ref t) eL1 ?_;have D2:=D1.setB dk0;have k2:∀q o,q≠Bk->H1 q=some o->upd H1 Bk s!"Df" q=some o:=fun q o n e=>by rw [zd n];exact e
 have m2:∀q xs,H1 q=some s!"6"->upd H1 Bk s!"Df" q=some s!"6":=fun q xs h=>k2 q _ (fun z=>by rw [z,eL1] at h;cases h) h
 have et2:=m2 t _ et;have hv2:=hv.move m2;have hw2:=hw.move m2;generalize upd H1 Bk s!"Df"=H2 at*;obtain ⟨dx2,ei2⟩:=D2.ins;obtain ⟨bs,eB2,dB2⟩:=D2.done;left;refine zJ (xs:=bs.map V.ref) eB2 (by rw [List.length_map,dB2.1];exact zf (by show st.dn.length<=1000;omega)) ?_
 have d3:zH H2 (bs++[t]) (st.dn++[d]):=dB2.snoc (d:=d) et2 hv2 hw2;have D3:=D2.setL d3;have e3:(bs++[t]).map V.ref=bs.map V.ref++[.ref t]:=by rw [List.map_append];rfl
 rw [e3] at D3;have k3:∀q o,q≠L->H2 q=some o->upd H2 L s!"q{(bs.map V.ref++[.ref t])}" q=some o:=fun q o n e=>by rw [zd n];exact e
 have m3:∀q xs,H2 q=some s!"6"->upd H2 L s!"q{(bs.map V.ref++[.ref t])}" q=some s!"6":=fun q xs h=>k3 q _ (fun z=>by rw [z,eB2] at h;cases h) h
 have et3:=m3 t _ et2;have hv3:=hv2.move m3;have hw3:=hw2.move m3;generalize upd H2 L s!"q{(bs.map V.ref++[.ref t])}"=H3 at*;obtain ⟨dx3,ei3⟩:=D3.ins;left;refine ⟨_,_,_,_,_,_,_,d.2.2,rfl,D3,hw3,qn,few,fun H4 k4 D4=>?_⟩
 left;refine q H4 (fun q o e n1 n2 n3 n4=>k4 q o n2 (k3 q o n3 (k2 q o n4 s!"E["))) D4 (fun q xs h=>?_)
 have h3:=m3 q xs s!"IG";obtain ⟨kv4,e4,_⟩:=D3.dict;exact k4 q _ (fun z=>by rw [z,e4] at h3;cases h3) h3
def NmT (f:Str->Option Tb) (t:Str):Prop:=∃ms,Names (fun n=>f n≠none) ms/\t=if ms=[] then Str.ofString "none" else Txt.join " " ms
theorem NmT.uniq (h1:NmT f t) (h2:NmT f u):t=u:=by
 obtain ⟨ms,n1,rfl⟩:=h1;obtain ⟨ns,n2,rfl⟩:=h2;rw [n1.uniq n2]
def zim (CD:Addr):Sp:=fun vs H Q _=>∃(a T L B:Addr) (st:DSt),vs=[.ref a]/\DeskAt CD H a T L B st/\Few st.f/\(∀n,st.f n≠none->n.length<=1000)/\∀t H',Same H H'->NmT st.f t->Q s!"|" H'
theorem zaA (C:Cls K mg base) (F:SrcM K "shown_names" "Desk.shown_names" yj C.Desk.f_shown_names ["self"]) (B:Blt mg) (R:Rel K mg base C) (Kc:Cst K mg):DefM P w K mg base s!"v" 1 C.Desk.f_shown_names ["self"] s!"II":=by
 refine F.ok (CX:=CXE P w) (k:=0) yO s!"x" s!"1"
 ·obtain ⟨_,_,_,_,_,rfl,_⟩:=h;rfl
 have nd:=yO.nd;obtain ⟨a,T,L,Bk,st,rfl,D,few,len,q⟩:=h;obtain ⟨dx,ei⟩:=D.ins;obtain ⟨kvs,ek,kv⟩:=D.dict;have dc:=C.Desk.cl;have dt:=C.Desk.n_tables;obtain ⟨ns,e,nd,mem⟩:=kv.names;have h1:=few ns nd fun n hn=>s!"De".mp hn
 have h2:=congrArg List.length e;rw [List.length_map,List.length_map] at h2;refine ⟨_,s!"d5_A$Ac{zde}DsDtIJlepBCo{"none"}{Kc.NO_NAMES.choose_spec}{⟨_,rfl⟩}epAwASBKBLBM=bAc{zfb rfl}GZHaIJf",?_⟩
 walk_at "ds";refine zc [some s!"h"] rfl ?_;left;walk_at "ite"
 ·rename_i c;obtain rfl:ns=[]:=List.length_eq_zero_iff.mp s!"a"
  left;exact q _ H s!"Af" ⟨[],⟨mem,nd,rfl⟩,rfl⟩
 rename_i c;left;refine zhb ns ek e s!"a" fun p H1 ms s1 n1 pm so e1=>?_
 have ml:=pm.length_eq;left;refine yo ms s!"B0" (yV (k:=1000) s!"n" s!"a" (fun w hw=>len w ((mem w).mp (pm.mem_iff.mp hw))) s!"c") ?_
 refine q _ H1 s1 ⟨ms,⟨fun n=>(pm.mem_iff).trans s!"De",(pm.nodup_iff).mpr nd,so⟩,(if_neg fun z=>?_).symm⟩
 rw [z] at ml;simp at ml;omega
theorem yt {f:List Str} {b:Bool} (h0:xr zbI s!"Bc"=false) (h:zfx.find? (fun f=>xr f ps)=cond b s!"r{f}" none) (hb:b=true):zo ps f:=.inr ⟨h0,by rw [h,hb];rfl⟩
theorem zdx {p2:Str} {p5:Str} (h1:zh p1=true) (h2:zn p2=true) (h3:zn p3=true) (h4:zn p4=true) (h5:zn p5=true):zo [Str.ofString "table",p1,p2,p3,p4,p5] [Str.ofString "table",Str.ofString "NAME",Str.ofString "NUMBER",Str.ofString "NUMBER",Str.ofString "NUMBER",Str.ofString "NUMBER"]:=yt (b:=(true && (zh p1 && (zn p2 && (zn p3 && (zn p4 && (zn p5 && true))))))) s!"Ah" s!"Ah" (by rw [h1,h2,h3,h4,h5];rfl)
theorem zR (h1:zh p1=true) (h3:zh p3=true) (h4:zh p4=true):zo [Str.ofString "let",p1,Str.ofString "together",p3,p4] [Str.ofString "let",Str.ofString "NAME",Str.ofString "together",Str.ofString "KNOWN",Str.ofString "KNOWN"]:=yt (b:=(true && (zh p1 && (true && (zh p3 && (zh p4 && true)))))) s!"Ah" s!"Ah" (by rw [h1,h3,h4];rfl)
theorem zaQ (h1:zh p1=true) (h3:zh p3=true):zo [Str.ofString "let",p1,Str.ofString "back",p3] [Str.ofString "let",Str.ofString "NAME",Str.ofString "back",Str.ofString "KNOWN"]:=yt (b:=(true && (zh p1 && (true && (zh p3 && true))))) s!"Ah" s!"Ah" (by rw [h1,h3];rfl)
theorem zav (h1:zh p1=true):zo [Str.ofString "drop",p1] [Str.ofString "drop",Str.ofString "KNOWN"]:=yt (b:=(true && (zh p1 && true))) s!"Ah" s!"Ah" (by rw [h1];rfl)
theorem zcd:zo [Str.ofString "undo"] [Str.ofString "undo"]:=yt (b:=(true && true)) s!"Ah" s!"Ah" rfl
theorem zce:zo [Str.ofString "redo"] [Str.ofString "redo"]:=yt (b:=(true && true)) s!"Ah" s!"Ah" rfl
theorem za8:zo [Str.ofString "names"] [Str.ofString "names"]:=yt (b:=(true && true)) s!"Ah" s!"Ah" rfl
theorem zjG (h1:zh p1=true):zo [Str.ofString "show",p1] [Str.ofString "show",Str.ofString "KNOWN"]:=yt (b:=(true && (zh p1 && true))) s!"Ah" s!"Ah" (by rw [h1];rfl)
theorem zgD (h1:zh p1=true):zo [Str.ofString "number",p1] [Str.ofString "number",Str.ofString "KNOWN"]:=yt (b:=(true && (zh p1 && true))) s!"Ah" s!"Ah" (by rw [h1];rfl)
theorem zgE (h1:zh p1=true):zo [Str.ofString "steady",p1] [Str.ofString "steady",Str.ofString "KNOWN"]:=yt (b:=(true && (zh p1 && true))) s!"Ah" s!"Ah" (by rw [h1];rfl)
theorem zhv (h1:zh p1=true):zo [Str.ofString "spell",p1] [Str.ofString "spell",Str.ofString "KNOWN"]:=yt (b:=(true && (zh p1 && true))) s!"Ah" s!"Ah" (by rw [h1];rfl)
theorem zeJ {qs:List Str} (h1:zh n=true) (h2:RW s!"B9{" "}{qs}" ws):zo (Str.ofString "word"::n::qs) zbI:=by
 refine .inl ⟨?_,rfl,ws,h2⟩;have e:xr zbI ((Str.ofString "word"::n::qs).take 2)=(true && (zh n && true)):=by kernel_rfl
 rw [e,h1];rfl
theorem zo.uniq {f g:List Str} (h1:zo ps f) (h2:zo ps g):f=g:=by
 rcases h1 with ⟨a,rfl,_⟩ | ⟨a,b⟩ <;> rcases h2 with ⟨c,rfl,_⟩ | ⟨c,d⟩
 ·rfl
 ·rw [a] at c;cases c
 ·rw [a] at c;cases c
 ·rw [b] at d;exact Option.some.inj d
theorem zo.len {f:List Str} (h:zo ps f):f.length<=ps.length:=by
 rcases h with ⟨a,rfl,_⟩ | ⟨_,b⟩
 ·unfold xr at a;have:=of_decide_eq_true s!"J,{a}".1;rw [List.length_take] at this;have e:zbI.length=2:=rfl;omega
 ·have hp:xr f ps=true:=List.find?_some (p:=fun f=>xr f ps) b
  unfold xr at hp;have:=of_decide_eq_true s!"J,{hp}".1;omega
theorem zhu.names:∀{dn:List yf} {f:Str->Option Tb},zhu f dn->∀n,f n≠none->n∈dn.map (·.1)
 | [],f,h,n,hn=>by
  have h:f=fun _=>none:=h
  rw [h] at hn;exact absurd rfl hn
 | (m,a,b)::r,f,h,n,hn=>by
  obtain ⟨h1,h2⟩:=h
  by_cases e:n=m
  ·rw [e];exact List.mem_cons_self
  ·refine List.mem_cons_of_mem _ (zhu.names h2 n ?_);unfold zk;rw [if_neg e];exact hn
theorem Fine.fewN (F:Fine st):Few st.f:=fun ns nd h=>by
 have k:=zew nd (m:=st.dn.reverse.map (·.1)) fun n hn=>F.hist.names n (h n hn)
 rw [List.length_map,List.length_reverse] at k;have:=F.few;omega
theorem Fine.nmlen (F:Fine st):∀n,st.f n≠none->n.length<=8:=fun n hn=>by
 obtain ⟨d,hd,rfl⟩:=List.mem_map.mp (F.hist.names n hn);exact (F.dds d s!"EP{List.mem_reverse.mp hd}").2.2.2
theorem zaw (f:Str->Option Tb) (n:Str) (o:Option Tb):zk (zk f n o) n (f n)=f:=by
 funext m;unfold zk
 by_cases e:m=n
 ·rw [if_pos e,e]
 ·rw [if_neg e,if_neg e]
theorem zfC (f:Str->Option Tb) (n:Str) (o:Option Tb):zk f n o n=o:=by
 unfold zk;rw [if_pos rfl]
theorem Fine.deed (F:Fine st) (h1:∀x,o=some x->xD x) (h2:o=none->st.f n≠none) (h3:n.length<=8) (h4:st.dn.length+1<=60):Fine ⟨zk st.f n o,st.dn++[(n,st.f n,o)],[]⟩:=by
 refine ⟨fun m x h=>?_,fun d hd=>?_,?_,trivial,by rw [List.length_append];exact h4⟩
 ·unfold zk at h;dsimp only at h;split at h
  ·exact h1 x h
  ·exact F.tabs m x h
 ·rw [List.append_nil] at hd;rcases List.mem_append.mp hd with z | z
  ·exact F.dds d s!"Hq"
  ·rw [List.mem_singleton.mp z];exact ⟨fun x hx=>F.tabs n x hx,h1,fun z=>h2 z.2 z.1,h3⟩
 ·show zhu _ (st.dn++[(n,st.f n,o)]).reverse;rw [List.reverse_append];refine ⟨zfC _ _ _,?_⟩;rw [zaw];exact F.hist
theorem Fine.undo {st:DSt} (F:Fine st) {dn0:List yf} {d:yf} (e:st.dn=dn0++[d]):Fine ⟨zk st.f d.1 d.2.1,dn0,st.bk++[d]⟩:=by
 have fd:=F.dds d s!"EP{by rw [e];exact List.mem_append_right _ (List.mem_singleton.mpr rfl)}"
 have h:=F.hist;rw [e,List.reverse_append] at h;obtain ⟨h1,h2⟩:=h;refine ⟨fun m x h=>?_,fun c hc=>F.dds c ?_,h2,?_,?_⟩
 ·unfold zk at h;dsimp only at h;split at h
  ·exact fd.1 x h
  ·exact F.tabs m x h
 ·rw [e];simp only [List.mem_append,List.mem_singleton] at hc ⊢;rcases hc with z | z | z
  ·exact .inl s!"DA"
  ·exact .inr z
  ·exact .inl s!"u{z}"
 ·show Fut _ (st.bk++[d]).reverse;rw [List.reverse_append];refine ⟨zfC _ _ _,?_⟩;have:zk (zk st.f d.1 d.2.1) d.1 d.2.2=st.f:=by
   rw [<-h1];exact zaw st.f d.1 d.2.1
  rw [this];exact F.fut
 ·have:=F.few;rw [e,List.length_append] at this;show dn0.length+(st.bk++[d]).length<=60;rw [List.length_append];simp only [List.length_cons,List.length_nil] at this ⊢;omega
theorem Fine.redo {st:DSt} (F:Fine st) {bk0:List yf} {d:yf} (e:st.bk=bk0++[d]):Fine ⟨zk st.f d.1 d.2.2,st.dn++[d],bk0⟩:=by
 have fd:=F.dds d s!"EV{by rw [e];exact List.mem_append_right _ (List.mem_singleton.mpr rfl)}"
 have h:=F.fut;rw [e,List.reverse_append] at h;obtain ⟨h1,h2⟩:=h;refine ⟨fun m x h=>?_,fun c hc=>F.dds c ?_,?_,h2,?_⟩
 ·unfold zk at h;dsimp only at h;split at h
  ·exact fd.2.1 x h
  ·exact F.tabs m x h
 ·rw [e];simp only [List.mem_append,List.mem_singleton] at hc ⊢;rcases hc with (z | z) | z
  ·exact .inl z
  ·exact .inr s!"u{z}"
  ·exact .inr s!"DA"
 ·show zhu _ (st.dn++[d]).reverse;rw [List.reverse_append];refine ⟨zfC _ _ _,?_⟩;have:zk (zk st.f d.1 d.2.2) d.1 d.2.1=st.f:=by
   rw [<-h1];exact zaw st.f d.1 d.2.2
  rw [this];exact F.hist
 ·have:=F.few;rw [e,List.length_append] at this;show (st.dn++[d]).length+bk0.length<=60;rw [List.length_append];simp only [List.length_cons,List.length_nil] at this ⊢;omega
theorem zgB.same (h:zgB cW ask x H Q E) (s:Same H H1):zgB cW ask x H1 Q E:=by
 obtain ⟨h1,h2,h3,h4⟩:=h;exact ⟨fun z H' s'=>h1 z H' s!"DC",fun z H' s'=>h2 z H' s!"DC",fun z H' s'=>h3 z H' s!"DC",fun z=>⟨fun y H' s'=>(h4 z).1 y H' s!"DC",fun b1 b2 b3 b4 H' s'=>(h4 z).2 b1 b2 b3 b4 H' s!"DC"⟩⟩
structure ErrC where
 ln:Addr
 nm:Addr
 tb:Addr
 mn:Addr
 dd:Addr
 wd:Addr
 ct:Addr
 od:Addr
 ap:Addr
inductive TellC (e:ErrC) (CD:Addr) (st:DSt) (ps:List Str) (a T L B:Addr) (H:Hp) (Q:VK) (E:XK):Prop where
 | line (h:∀f,¬zo ps f) (q:∀dx H',(dx=none\/dx=some mainGlobals)->Same H H'->E s!"4{e.ln}" dx H')
 | name {f:List Str} {n:Str} (hf:zo ps f) (h:yX st.f f ps n) (q:∀d H1,Same H H1->H1 d=none->E s!"4{e.nm}" s!"CQ" (upd H1 d (.xd [("name",.str n)])))
 | new {f:List Str} {x:Tb} {n:Str} (hf:zo ps f) (hk:zan st.f f ps) (h1:ps[1]? =some n) (hm:zmf st.f ps x) (hb:∀k∈[x.1,x.2.1,x.2.2.1,x.2.2.2],k.natAbs<10^190) (qT:ps[0]? =some s!"Cg"->zbJ x≠1->∀H',Same H H'->E s!"4{e.tb}" none H') (qM:ps[0]?≠some s!"Cg"->¬zZ x->∀H',Same H H'->E s!"4{e.mn}" none H') (q:xD x->∀B' H',yg a T L B H H'->H B'=none->DeskAt CD H' a T L B' ⟨zk st.f n s!"CA",st.dn++[(n,st.f n,some x)],[]⟩->Q s!"o{zaU x.1 x.2.1 x.2.2.1 x.2.2.2}" H')
 | drop {n:Str} (hp:ps=[Str.ofString "drop",n]) (hn:zh n=true) (hk:st.f n≠none) (q:∀B' H' t,yg a T L B H H'->H B'=none->DeskAt CD H' a T L B' ⟨zk st.f n none,st.dn++[(n,st.f n,none)],[]⟩->NmT (zk st.f n none) t->Q s!"|" H')
 | undo (hp:ps=[Str.ofString "undo"]) (q0:st.dn=[]->∀H',Same H H'->E s!"4{e.dd}" none H') (q:∀dn0 d,st.dn=dn0++[d]->∀H' t,yg a T L B H H'->DeskAt CD H' a T L B ⟨zk st.f d.1 d.2.1,dn0,st.bk++[d]⟩->NmT (zk st.f d.1 d.2.1) t->Q s!"|" H')
 | redo (hp:ps=[Str.ofString "redo"]) (q0:st.bk=[]->∀H',Same H H'->E s!"4{e.dd}" none H') (q:∀bk0 d,st.bk=bk0++[d]->∀H' t,yg a T L B H H'->DeskAt CD H' a T L B ⟨zk st.f d.1 d.2.2,st.dn++[d],bk0⟩->NmT (zk st.f d.1 d.2.2) t->Q s!"|" H')
 | names (hp:ps=[Str.ofString "names"]) (q:∀H' t,Same H H'->NmT st.f t->Q s!"|" H')
 | askT {ask n:Str} {x:Tb} (hp:ps=[ask,n]) (ha:ask∈zaP) (hn:zh n=true) (hx:st.f n=some x) (q:zgB e.wd ask x H Q E)
theorem zfD {w:Str} (hn:f n≠none) (hw:¬w=Str.ofString "KNOWN"):zan f [w,Str.ofString "KNOWN"] [w,n]:=fun j m h1 h2=>by
 match j,h1,h2 with
 | 0,h1,_=>exact absurd s!"A9" hw
 | 1,_,h2=>cases h2;exact hn
 | k+2,h1,_=>simp at h1
theorem yD {fs:List Str} (h:Str.ofString "KNOWN"∉fs):zan f fs ps:=fun j m h1 _=>absurd s!"B3{h1}" h
theorem xT (ha:ask∈zaP) (hn:zh n=true):zo [ask,n] [ask,Str.ofString "KNOWN"]:=by
 unfold zaP at ha;simp only [List.mem_cons,List.not_mem_nil,or_false] at ha;rcases ha with rfl | rfl | rfl | rfl
 ·exact zjG hn
 ·exact zgD hn
 ·exact zgE hn
 ·exact zhv hn
theorem zbL (ha:ask∈zaP):¬ask=Str.ofString "KNOWN"/\ask∉[Str.ofString "table",Str.ofString "word",Str.ofString "let"]/\¬ask=Str.ofString "drop"/\¬ask=Str.ofString "undo"/\¬ask=Str.ofString "redo"/\ask∉[Str.ofString "drop",Str.ofString "undo",Str.ofString "redo",Str.ofString "names"]:=by
 unfold zaP at ha;simp only [List.mem_cons,List.not_mem_nil,or_false] at ha;rcases ha with rfl | rfl | rfl | rfl <;> decide+kernel
theorem yX.not {fs:List Str} (h:yX f fs ps n) (k:zan f fs ps):False:=by
 obtain ⟨i,h1,h2,h3,_⟩:=h;exact k i n h1 h2 h3
theorem yX.uniq {fs:List Str} (h:yX f fs ps n) (k:yX f fs ps m):n=m:=by
 obtain ⟨i,h1,h2,h3,h4⟩:=h;obtain ⟨j,k1,k2,k3,k4⟩:=k;rcases Nat.lt_trichotomy i j with z | z | z
 ·exact absurd h3 (k4 i z n h1 h2)
 ·subst z;rw [h2] at k2;exact Option.some.inj k2
 ·exact absurd k3 (h4 j z m k1 k2)
theorem TellC.known (c:TellC e CD st ps a T L B H Q E):(∀f,¬zo ps f)\/(∃f n,zo ps f/\yX st.f f ps n)\/∃f,zo ps f/\zan st.f f ps:=by
 cases c with
 | line h q=>exact .inl h
 | name hf h q=>exact .inr s!"${⟨_,_,hf,h⟩}"
 | new hf hk=>exact .inr s!"u{⟨_,hf,hk⟩}"
 | drop hp hn hk q=>subst hp;exact .inr s!"u{⟨_,zav hn,zfD hk s!"n"⟩}"
 | undo hp q0 q=>subst hp;exact .inr s!"u{⟨_,zcd,yD s!"n"⟩}"
 | redo hp q0 q=>subst hp;exact .inr s!"u{⟨_,zce,yD s!"n"⟩}"
 | names hp q=>subst hp;exact .inr s!"u{⟨_,za8,yD s!"n"⟩}"
 | askT hp ha hn hx q=>subst hp;exact .inr s!"u{⟨_,xT ha hn,zfD (by rw [hx];simp) (zbL ha).1⟩}"
theorem zgB.mono (hq:∀v H',Q v H'->Q' v H') (he:∀c d H',E c d H'->E' c d H') (h:zgB cW ask x H Q E):zgB cW ask x H Q' E':=by
 obtain ⟨h1,h2,h3,h4⟩:=h;exact ⟨fun z H' s'=>hq _ _ (h1 z H' s'),fun z H' s'=>hq _ _ (h2 z H' s'),fun z H' s'=>hq _ _ (h3 z H' s'),fun z=>⟨fun y H' s'=>he _ _ _ ((h4 z).1 y H' s'),fun b1 b2 b3 b4 H' s'=>hq _ _ ((h4 z).2 b1 b2 b3 b4 H' s')⟩⟩
theorem TellC.mono (hq:∀v H',Q v H'->Q' v H') (he:∀c d H',E c d H'->E' c d H') (c:TellC e CD st ps a T L B H Q E):TellC e CD st ps a T L B H Q' E':=by
 cases c with
 | line h q=>exact .line h fun dx H' h1 h2=>he _ _ _ (q dx H' h1 h2)
 | name hf h q=>exact .name hf h fun d H1 h1 h2=>he _ _ _ (q d H1 h1 h2)
 | new hf hk h1 hm hb qT qM q=>exact .new hf hk h1 hm hb (fun z1 z2 H' s=>he _ _ _ (qT z1 z2 H' s)) (fun z1 z2 H' s=>he _ _ _ (qM z1 z2 H' s)) fun g B' H' r n d=>hq _ _ (q g B' H' r n d)
 | drop hp hn hk q=>exact .drop hp hn hk fun B' H' t r n d m=>hq _ _ (q B' H' t r n d m)
 | undo hp q0 q=>exact .undo hp (fun z H' s=>he _ _ _ (q0 z H' s)) fun dn0 d z H' t r k m=>hq _ _ s!"IK"
 | redo hp q0 q=>exact .redo hp (fun z H' s=>he _ _ _ (q0 z H' s)) fun dn0 d z H' t r k m=>hq _ _ s!"IK"
 | names hp q=>exact .names hp fun H' t s m=>hq _ _ (q H' t s m)
 | askT hp ha hn hx q=>exact .askT hp ha hn hx (q.mono hq he)
def Pc (w:Str):Prop:=Asc w/\w.length<=62/\32∉w.cps.toList
theorem zhw {w:Str} (h1:w.cps.all (·<128)=true) (h2:w.length<=62) (h3:32∉w.cps.toList):Pc w:=⟨zbi h1,h2,h3⟩
theorem wt {n:Int} (h:n.natAbs<10^60):Pc (zx n):=⟨zob n,Nat.le_trans (xg s!"c" h) s!"c",zgc s!"Aa"⟩
theorem zbM (h:zh n=true):Pc n:=by
 unfold zh at h;simp only [Bool.and_eq_true,decide_eq_true_eq,List.all_eq_true] at h;obtain ⟨⟨h1,h2⟩,h3⟩:=h;refine ⟨zbi ?_,by omega,fun z=>?_⟩
 ·rw [Array.all_eq_true_iff_forall_mem];intro c hc;have:=h3 c s!"Ia";simp only [decide_eq_true_eq];omega
 ·have:=h3 32 z;omega
theorem zao (h:zh n=true):n.length<=8:=by
 unfold zh at h;simp only [Bool.and_eq_true,decide_eq_true_eq] at h;exact h.1.2
theorem zmj {ws:List Str} (ne:ws≠[]) (hl:ws.length<=14) (h:∀w∈ws,Pc w):Tx s!"IL"/\Txt.split s!"IL" " "=ws:=by
 refine ⟨⟨Asc.join zg8 fun w hw=>(h w hw).1,?_⟩,?_⟩
 ·exact Nat.le_trans (wQ (m:=1) (k:=62) (n:=14) s!"n" hl fun w hw=>(h w hw).2.1) s!"c"
 ·rw [zaB];exact zaS ne fun w hw=>(h w hw).2.2
theorem zfE (ws:List Str):Txt.join " " ws=Str.join " " ws:=StrLaws.glued_eq_join _ _
def zmk (e:ErrC) (CD:Addr):Sp:=fun vs H Q E=>∃(a T L B:Addr) (st:DSt) (t:Str),vs=[.ref a,.str t]/\DeskAt CD H a T L B st/\Fine st/\Tx t/\TellC e CD st s!"Bb" a T L B H Q E
theorem zq4 (h:Tx t):Tx (zdv s!"Bb"):=by
 have sm:=zjm t 32;rw [<-zaB] at sm;refine ⟨Asc.join zg8 fun w hw=>?_,?_⟩
 ·have hw:=List.mem_of_mem_drop hw;rw [zaB] at hw;exact h.1.split hw
 ·unfold zdv;rw [show Txt.join " " (s!"Bb".drop 2)=Str.join " " (s!"Bb".drop 2) from StrLaws.glued_eq_join _ _]
  have k:=StrLaws.join_length_le s!"CT" (s!"Bb".drop 2);rw [show s!"CT".length=1 by decide+kernel,Nat.mul_one] at k
  generalize Txt.split t " "=ps at*;have e1:(ps.map fun x=>x.length).sum=(s!"Bc".map fun x=>x.length).sum+(s!"Dd".map fun x=>x.length).sum:=by
   rw [<-List.sum_append_nat,<-List.map_append,List.take_append_drop]
  have e2:ps.length=s!"Bc".length+s!"Dd".length:=by rw [<-List.length_append,List.take_append_drop]
  have:=h.2;have e3:1<=s!"Bc".length\/ps=[]:=by
   cases ps with
   | nil=>exact .inr rfl
   | cons _ _=>apply Or.inl;simp
  rcases e3 with z | z
  ·omega
  ·rw [z] at k ⊢;simp at k ⊢;omega
theorem zfF (C:Cls K mg base) (F:SrcM K "tell" "Desk.tell" zad C.Desk.f_tell ["self","line"]) (B:Blt mg) (R:Rel K mg base C) (Kc:Cst K mg) (D_form_of:s!"m{6}{"form_of"}{["pieces"]}I^") (D_Desk_need_known:s!"Bi{3}{C.Desk.f_need_known}{["self","form","pieces"]}I)") (D_Desk_new_table:s!"Bi{6}{C.Desk.f_new_table}{["self","pieces"]}IA") (D_Desk_do_deed:s!"Bi{2}{C.Desk.f_do_deed}{["self","name","table"]}IC") (D_shown_table:s!"m{5}{"shown_table"}{["table"]}{zma}") (D_Desk_undo:s!"Bi{2}{C.Desk.f_undo}{["self"]}IE") (D_Desk_redo:s!"Bi{2}{C.Desk.f_redo}{["self"]}IH") (D_Desk_shown_names:s!"Bi{1}{C.Desk.f_shown_names}{["self"]}II") (D_told_of_table:s!"m{7}{"told_of_table"}{["ask","table"]}I'") (D_told_of_numbers:s!"m{1}{"told_of_numbers"}{["ask","numbers"]}{zhe}"):DefM P w K mg base s!"v" 8 C.Desk.f_tell ["self","line"] (zmk ⟨C.NoLine.addr,C.NoName.addr,C.NoTable.addr,C.TooMany.addr,C.NoDeed.addr,C.NoWord.addr,C.NoCount.addr,C.NotOdd.addr,C.NotApart.addr⟩ C.Desk.addr):=by
 refine F.okX (CX:=CXE P w) (k:=7) zbA s!"x" s!"1"
 ·obtain ⟨_,_,_,_,_,_,rfl,_⟩:=h;rfl
 have nd:=zbA.nd;obtain ⟨a,T,L,Bk,st,t,rfl,D,F,tx,tc⟩:=h;have tz:=tx.sz;have ok:=tx.ok 32;rw [<-zaB] at ok;have bx:=zq4 tx;have pl:∀p∈Txt.split t " ",p.length<=1000:=fun p hp=>by
  rw [zaB] at hp;have:=(wO hp).1;have:=tx.2;omega
 obtain ⟨dx,ei⟩:=D.ins;have dc:=C.Desk.cl;have dt:=C.Desk.n_tables;refine ⟨_,s!"dz{2}{@zba _ _ _ _ _ _ _ _ s!"A4AcB#B$B%b*bBBFlBoBpf" s!"AwAS{PySem.F.slot_str_split}{PySem.F.type_str_split}{mt_split}*D)" s!"B'"}dz{3}k{D_form_of}&AYd@Cj{D_Desk_need_known}{C.Desk.m_need_known}&b?AYdz{4}Cdd5EQ<3IMdz{5}Cj{D_Desk_new_table}{C.Desk.m_new_table}&AYd@CjHbHc&bCdD`epkGU&D`AA5G1e@CjHbHc&bCdEAAA5G1e@G?{D_Desk_undo}{C.Desk.m_undo}AA5G1e@G?{D_Desk_redo}{C.Desk.m_redo}d5EQ<3INepG?{D_Desk_shown_names}{C.Desk.m_shown_names}d5EQ=?epk{D_told_of_table}&b<bDmA]Cdfepk{D_told_of_numbers}&b<bBfClBDIOB5IO{fun pins cl ex s H=>s!"Bg{zei}FeFfAk"}f",?_⟩
 walk_at "ds";refine zc [some s!"h",some s!"|",none,none,none,none] rfl ?_;left;refine zc9 s!"n" tz _ rfl s!"DL{ok.1}" fun l H1 s1 n1 e1=>?_
 generalize hps:Txt.split t " "=ps at*;have ok1:=ok.1;have at0:∀{i:Nat} {w:Str},ps[i]? =some w->atI s!"A-" (i:Int)=some s!"o{w}":=fun h=>yS (by rw [List.getElem?_map,h];rfl)
 have few:=F.fewN;have nml:∀n,st.f n≠none->n.length<=1000:=fun n hn=>Nat.le_trans (F.nmlen n hn) s!"c"
 have dl:=F.few;left;rcases tc.known with hL | hK
 ·cases tc with
  | line h q=>exact ⟨_,_,rfl,SqL.of e1,ok,bx,fun f hf=>absurd hf (h f),fun _ dx H2 hd s2=>q dx H2 hd s!"At"⟩
  | name hf h q=>exact absurd hf (hL _)
  | new hf hk=>exact absurd hf (hL _)
  | drop hp hn hk q=>subst hp;exact absurd (zav hn) (hL _)
  | undo hp q0 q=>subst hp;exact absurd zcd (hL _)
  | redo hp q0 q=>subst hp;exact absurd zce (hL _)
  | names hp q=>subst hp;exact absurd za8 (hL _)
  | askT hp ha hn hx q=>subst hp;exact absurd (xT ha hn) (hL _)
 obtain ⟨f,hf⟩:∃f,zo ps f:=by
  rcases hK with ⟨f,_,hf,_⟩ | ⟨f,hf,_⟩ <;> exact ⟨f,hf⟩
 refine ⟨_,_,rfl,SqL.of e1,ok,bx,fun g hg fa H2 s2 kf=>?_,fun n=>absurd hf (n f)⟩
 obtain rfl:=hf.uniq hg;have s12:=s1.trans s2;have ei2:=s12.obj ei;have e2:=s2.obj e1;have D2:=D.same s12;left;refine ⟨_,_,_,_,_,_,_,_,_,rfl,D2,kf,SqL.of e2,hf.len,pl,fun ak H3 s3=>?_,fun n fu d H3 s3 hd=>?_⟩
 rotate_left
 ·rcases hK with ⟨g,m,hg',fm⟩ | ⟨g,hg',ak⟩
  ·cases tc with
   | name hf' h q=>
    obtain rfl:=hf.uniq hf';obtain rfl:=h.uniq fu;exact q d H3 s!"Db" hd
   | line h q=>exact absurd hf (h _)
   | new hf' hk=>obtain rfl:=hf.uniq hf';exact (fu.not hk).elim
   | drop hp hn hk q=>subst hp;obtain rfl:=hf.uniq (zav hn);exact (fu.not (zfD hk s!"n")).elim
   | undo hp q0 q=>subst hp;obtain rfl:=hf.uniq zcd;exact s!"G2".elim
   | redo hp q0 q=>subst hp;obtain rfl:=hf.uniq zce;exact s!"G2".elim
   | names hp q=>subst hp;obtain rfl:=hf.uniq za8;exact s!"G2".elim
   | askT hp ha hn hx q=>subst hp;obtain rfl:=hf.uniq (xT ha hn);exact (fu.not (zfD (by rw [hx];simp) (zbL ha).1)).elim
  ·obtain rfl:=hf.uniq hg';exact (fu.not ak).elim
 have s13:=s12.trans s3;have D3:=D.same s13;have ei3:=s13.obj ei;have e3:=s3.obj e2;clear s2 s3 e2 ei2 D2;left;cases tc with
 | line h q=>exact absurd hf (h _)
 | name hf' h q=>obtain rfl:=hf.uniq hf';exact (h.not ak).elim
 | new hf' hk h1 hm hb qT qM q=>
  obtain ⟨w0,h0,hw⟩:∃w,ps[0]? =some w/\w∈[Str.ofString "table",Str.ofString "word",Str.ofString "let"]:=by
   rcases hm with ⟨h,_⟩ | ⟨h,_⟩ | ⟨h,_⟩ | ⟨h,_⟩ <;> exact ⟨_,h,by decide+kernel⟩
  refine zeW.Q0 s!"Bz" (at0 (i:=0) h0) ?_;left;rename_i T4 H4 s4 n4 e4;refine zY [Str.ofString "table",Str.ofString "word",Str.ofString "let"] s!"B1" ?_;rw [decide_eq_true hw];have ei4:=s4.obj ei3;have e34:=s4.obj e3;left;refine ⟨_,_,_,_,_,_,_,_,rfl,D3.same s4,SqL.of e34,ok,bx,F.tabs,hm,fun z1 z2 H5 s5=>qT z1 z2 H5 s!"IP",fun z1 z2 H5 s5=>qM z1 z2 H5 s!"IP",fun gd tb H5 s5 X5=>?_⟩
  have s15:=s13.trans s!"C&";have D5:=D.same s15;have ei5:=s15.obj ei;have e35:=s!"C&".obj e3;left;refine zeW.Q0 s!"Ad{e35}" (at0 (i:=1) h1) ?_;left;refine ⟨_,_,_,_,_,_,_,some _,rfl,D5,⟨tb,rfl,X5⟩,(fun z=>by cases z),few,by omega,fun B' H6 r6 nB D6 m6=>?_⟩
  left;have X6:=X5.move m6;refine ⟨_,_,_,_,_,rfl,X6,gd.1,s!"EB",s!"EB",s!"EB",s!"EB",fun H7 s7=>?_⟩
  refine q gd B' H7 (fun q o h1 h2 h3 h4 h5=>s7.obj (r6 q o (s15.obj h1) h2 h3 h4 h5)) ?_ (D6.same s7)
  cases z:H B' with
  | none=>rfl
  | some o=>rw [s15.obj z] at nB;cases nB
 | @drop n hp hn hk q=>
  subst hp;refine zeW.Q0 s!"Bz" (at0 (i:=0) rfl) ?_;left;rename_i T4 H4 s4 n4 e4;refine zY [Str.ofString "table",Str.ofString "word",Str.ofString "let"] s!"B1" ?_;rw [decide_eq_false s!"n"]
  left;have ei4:=s4.obj ei3;have e34:=s4.obj e3;have s14:=s13.trans s4;have D4:=D.same s14;refine zr (fun σ H'=>σ=[some s!"h",some s!"|",some s!"~",some s!"Aq",some s!"oBA{"drop"}",none]/\yg a T L Bk H H'/\∃B',H B'=none/\DeskAt C.Desk.addr H' a T L B' ⟨zk st.f n none,st.dn++[(n,st.f n,none)],[]⟩) ?_ ?_
  ·left;walk_at "ite"
   rotate_left
   ·rename_i c;exact absurd rfl c
   left;refine ⟨_,_,_,_,_,_,_,none,rfl,D4,rfl,fun _=>hk,few,by omega,fun B' H6 r6 nB D6 m6=>?_⟩
   left;refine ⟨rfl,fun q o h1 h2 h3 h4 h5=>r6 q o s!"G3" h2 h3 h4 h5,B',?_,D6⟩
   cases z:H B' with
   | none=>rfl
   | some o=>rw [s14.obj z] at nB;cases nB
  rintro _ H6 ⟨rfl,r6,B',nB,D6⟩;left;refine zr (fun σ H'=>σ=[some s!"h",some s!"|",some s!"~",some s!"Aq",some s!"oBA{"drop"}",none]/\H6=H') ?_ ?_
  ·left;walk_at "ite"
   ·rename_i c;exact absurd c s!"n"
   left;exact ⟨rfl,rfl⟩
  rintro _ _ ⟨rfl,rfl⟩;left;refine zr (fun σ H'=>σ=[some s!"h",some s!"|",some s!"~",some s!"Aq",some s!"oBA{"drop"}",none]/\H6=H') ?_ ?_
  ·left;walk_at "ite"
   ·rename_i c;exact absurd c s!"n"
   left;exact ⟨rfl,rfl⟩
  rintro _ _ ⟨rfl,rfl⟩;left;obtain ⟨dx6,ei6⟩:=D6.ins;rename_i T5 H5 s5 n5 e5;refine zY [Str.ofString "drop",Str.ofString "undo",Str.ofString "redo",Str.ofString "names"] s!"C+" ?_;rw [decide_eq_true s!"n"]
  left;refine ⟨_,_,_,_,_,rfl,D6.same s5,fun ns nd h=>?_,fun n hn=>?_,fun t7 H7 s7 nm=>?_⟩
  ·refine few ns nd fun n hn=>?_
   have:=h n hn;unfold zk at this;dsimp only at this;split at this
   ·exact absurd rfl this
   ·exact this
  ·refine nml n ?_;unfold zk at hn;dsimp only at hn;split at hn
   ·exact absurd rfl hn
   ·exact hn
  ·exact q B' H7 t7 (fun q o h1 h2 h3 h4 h5=>s7.obj (s5.obj (r6 q o h1 h2 h3 h4 h5))) nB s!"G4" nm
 | undo hp q0 q=>
  subst hp;refine zeW.Q0 s!"Bz" (at0 (i:=0) rfl) ?_;left;rename_i T4 H4 s4 n4 e4;refine zY [Str.ofString "table",Str.ofString "word",Str.ofString "let"] s!"B1" ?_;rw [decide_eq_false s!"n"]
  left;have s14:=s13.trans s4;have D4:=D.same s14;refine zr (fun σ H'=>σ=[some s!"h",some s!"|",some s!"~",some s!"Aq",some s!"G5",none]/\H4=H') ?_ ?_
  ·left;walk_at "ite"
   ·rename_i c;exact absurd c s!"n"
   left;exact ⟨rfl,rfl⟩
  rintro _ _ ⟨rfl,rfl⟩;left;refine zr (fun σ H'=>σ=[some s!"h",some s!"|",some s!"~",some s!"Aq",some s!"G5",none]/\yg a T L Bk H H'/\∃xs d,st.dn=xs++[d]/\DeskAt C.Desk.addr H' a T L Bk ⟨zk st.f d.1 d.2.1,xs,st.bk++[d]⟩) ?_ ?_
  ·left;walk_at "ite"
   rotate_left
   ·rename_i c;exact absurd rfl c
   left;refine ⟨_,_,_,_,_,rfl,D4,few,by omega,fun z H6 s6=>q0 z H6 (s14.trans s6),fun xs d e=>⟨fun z=>?_,fun H6 r6 D6 _=>?_⟩⟩
   ·have fd:=F.dds d (by rw [e];simp)
    have hh:=F.hist;rw [e,List.reverse_append] at hh;rw [hh.1];exact fun y=>fd.2.2.1 ⟨z,y⟩
   ·left;exact ⟨rfl,fun q o h1 h2 h3 h4 h5=>r6 q o s!"G3" h2 h3 h4 h5,xs,d,e,D6⟩
  rintro _ H6 ⟨rfl,r6,xs,d,e,D6⟩;left;refine zr (fun σ H'=>σ=[some s!"h",some s!"|",some s!"~",some s!"Aq",some s!"G5",none]/\H6=H') ?_ ?_
  ·left;walk_at "ite"
   ·rename_i c;exact absurd c s!"n"
   left;exact ⟨rfl,rfl⟩
  rintro _ _ ⟨rfl,rfl⟩;left;obtain ⟨dx6,ei6⟩:=D6.ins;rename_i T5 H5 s5 n5 e5;refine zY [Str.ofString "drop",Str.ofString "undo",Str.ofString "redo",Str.ofString "names"] s!"C+" ?_;rw [decide_eq_true s!"n"]
  left;have F2:=F.undo e;refine ⟨_,_,_,_,_,rfl,D6.same s5,F2.fewN,(fun n hn=>Nat.le_trans (F2.nmlen n hn) s!"c"),fun t7 H7 s7 nm=>?_⟩
  exact q xs d e H7 t7 (fun q o h1 h2 h3 h4 h5=>s7.obj (s5.obj (r6 q o h1 h2 h3 h4 h5))) s!"G4" nm
 | redo hp q0 q=>
  subst hp;refine zeW.Q0 s!"Bz" (at0 (i:=0) rfl) ?_;left;rename_i T4 H4 s4 n4 e4;refine zY [Str.ofString "table",Str.ofString "word",Str.ofString "let"] s!"B1" ?_;rw [decide_eq_false s!"n"]
  left;have s14:=s13.trans s4;have D4:=D.same s14;refine zr (fun σ H'=>σ=[some s!"h",some s!"|",some s!"~",some s!"Aq",some s!"oDg",none]/\H4=H') ?_ ?_
  ·left;walk_at "ite"
   ·rename_i c;exact absurd c s!"n"
   left;exact ⟨rfl,rfl⟩
  rintro _ _ ⟨rfl,rfl⟩;left;refine zr (fun σ H'=>σ=[some s!"h",some s!"|",some s!"~",some s!"Aq",some s!"oDg",none]/\H4=H') ?_ ?_
  ·left;walk_at "ite"
   ·rename_i c;exact absurd c s!"n"
   left;exact ⟨rfl,rfl⟩
  rintro _ _ ⟨rfl,rfl⟩;left;refine zr (fun σ H'=>σ=[some s!"h",some s!"|",some s!"~",some s!"Aq",some s!"oDg",none]/\yg a T L Bk H H'/\∃xs d,st.bk=xs++[d]/\DeskAt C.Desk.addr H' a T L Bk ⟨zk st.f d.1 d.2.2,st.dn++[d],xs⟩) ?_ ?_
  ·left;walk_at "ite"
   rotate_left
   ·rename_i c;exact absurd rfl c
   left;refine ⟨_,_,_,_,_,rfl,D4,few,by omega,fun z H6 s6=>q0 z H6 (s14.trans s6),fun xs d e=>⟨fun z=>?_,fun H6 r6 D6 _=>?_⟩⟩
   ·have fd:=F.dds d (by rw [e];simp)
    have hh:=F.fut;rw [e,List.reverse_append] at hh;rw [hh.1];exact fun y=>fd.2.2.1 ⟨y,z⟩
   ·left;exact ⟨rfl,fun q o h1 h2 h3 h4 h5=>r6 q o s!"G3" h2 h3 h4 h5,xs,d,e,D6⟩
  rintro _ H6 ⟨rfl,r6,xs,d,e,D6⟩;left;obtain ⟨dx6,ei6⟩:=D6.ins;rename_i T5 H5 s5 n5 e5;refine zY [Str.ofString "drop",Str.ofString "undo",Str.ofString "redo",Str.ofString "names"] s!"C+" ?_;rw [decide_eq_true s!"n"]
  left;have F2:=F.redo e;refine ⟨_,_,_,_,_,rfl,D6.same s5,F2.fewN,(fun n hn=>Nat.le_trans (F2.nmlen n hn) s!"c"),fun t7 H7 s7 nm=>?_⟩
  exact q xs d e H7 t7 (fun q o h1 h2 h3 h4 h5=>s7.obj (s5.obj (r6 q o h1 h2 h3 h4 h5))) s!"G4" nm
 | names hp q=>
  subst hp;refine zeW.Q0 s!"Bz" (at0 (i:=0) rfl) ?_;left;rename_i T4 H4 s4 n4 e4;refine zY [Str.ofString "table",Str.ofString "word",Str.ofString "let"] s!"B1" ?_;rw [decide_eq_false s!"n"]
  left;have s14:=s13.trans s4;have D4:=D.same s14;have ei4:=s4.obj ei3;refine zr (fun σ H'=>σ=[some s!"h",some s!"|",some s!"~",some s!"Aq",some s!"oC,",none]/\H4=H') ?_ ?_
  ·left;walk_at "ite"
   ·rename_i c;exact absurd c s!"n"
   left;exact ⟨rfl,rfl⟩
  rintro _ _ ⟨rfl,rfl⟩;left;refine zr (fun σ H'=>σ=[some s!"h",some s!"|",some s!"~",some s!"Aq",some s!"oC,",none]/\H4=H') ?_ ?_
  ·left;walk_at "ite"
   ·rename_i c;exact absurd c s!"n"
   left;exact ⟨rfl,rfl⟩
  rintro _ _ ⟨rfl,rfl⟩;left;refine zr (fun σ H'=>σ=[some s!"h",some s!"|",some s!"~",some s!"Aq",some s!"oC,",none]/\H4=H') ?_ ?_
  ·left;walk_at "ite"
   ·rename_i c;exact absurd c s!"n"
   left;exact ⟨rfl,rfl⟩
  rintro _ _ ⟨rfl,rfl⟩;left;rename_i T5 H5 s5 n5 e5;refine zY [Str.ofString "drop",Str.ofString "undo",Str.ofString "redo",Str.ofString "names"] s!"C+" ?_;rw [decide_eq_true s!"n"]
  left;exact ⟨_,_,_,_,_,rfl,D4.same s5,few,nml,fun t7 H7 s7 nm=>q H7 t7 (s14.trans s!"DP{s7}") nm⟩
 | @askT ask n x hp ha hn hx q=>
  obtain ⟨a0,a1,a2,a3,a4,a5⟩:=zbL ha;subst hp;refine zeW.Q0 s!"Bz" (at0 (i:=0) rfl) ?_;left;rename_i T4 H4 s4 n4 e4;refine zY [Str.ofString "table",Str.ofString "word",Str.ofString "let"] s!"B1" ?_;rw [decide_eq_false (a1)];left;have s14:=s13.trans s4;have D4:=D.same s14;have ei4:=s4.obj ei3;have e34:=s4.obj e3;refine zr (fun σ H'=>σ=[some s!"h",some s!"|",some s!"~",some s!"Aq",some s!"oDV",none]/\H4=H') ?_ ?_
  ·left;walk_at "ite"
   ·rename_i c;exact absurd c (a2)
   left;exact ⟨rfl,rfl⟩
  rintro _ _ ⟨rfl,rfl⟩;left;refine zr (fun σ H'=>σ=[some s!"h",some s!"|",some s!"~",some s!"Aq",some s!"oDV",none]/\H4=H') ?_ ?_
  ·left;walk_at "ite"
   ·rename_i c;exact absurd c (a3)
   left;exact ⟨rfl,rfl⟩
  rintro _ _ ⟨rfl,rfl⟩;left;refine zr (fun σ H'=>σ=[some s!"h",some s!"|",some s!"~",some s!"Aq",some s!"oDV",none]/\H4=H') ?_ ?_
  ·left;walk_at "ite"
   ·rename_i c;exact absurd c (a4)
   left;exact ⟨rfl,rfl⟩
  rintro _ _ ⟨rfl,rfl⟩;left;rename_i T5 H5 s5 n5 e5;refine zY [Str.ofString "drop",Str.ofString "undo",Str.ofString "redo",Str.ofString "names"] s!"C+" ?_;rw [decide_eq_false (a5)];left;have s15:=s14.trans s5;have D5:=D.same s15;have ei5:=s5.obj ei4;have e35:=s5.obj e34;obtain rfl:=hf.uniq (xT ha hn);refine zY _ (kf H5) ?_;rw [decide_eq_true s!"j"]
  obtain ⟨kvs,ek,kv⟩:=D5.dict;obtain ⟨tb,v1,X1⟩:=kv.vals n x hx;left;refine yk ek v1 ?_;left;exact ⟨_,_,_,rfl,ha,X1,F.tabs n x hx,q.same s15⟩
def zhx (K:PySem.W.Frag):Sp:=fun vs H Q _=>∃(a:Addr) (ns:List Int) (k:Int),vs=[.ref a,.int k]/\SqL K H a s!"Ao"/\0<=k/\k<=1000/\∀v:Int,Q s!"Cz" H
theorem zml (h1:SqL K H a s!"Ao") (h0:0<=k) (h2:k<=1000) (h:∀v:Int,Q s!"Cz" H):zhx K [.ref a,.int k] H Q E:=⟨a,ns,k,rfl,h1,h0,h2,h⟩
local macro_rules|`(tactic|walk_at "rdcall")=>`(tactic|((with_reducible refine' zml ?a ?b ?c ?_);(case a=>walk_at "h");(case b=>omega);(case c=>omega);intro _))
theorem zfG (F:Src K mg "_law_cell" zae ["_law_script","_law_k"]) (B:Blt mg) (C:Cls K mg base) (R:Rel K mg base C) (Kc:Cst K mg):Def P w K mg base s!"v" 1 "_law_cell" ["_law_script","_law_k"] (zhx K):=by
 refine F.ok (CX:=CXE P w) (k:=0) zbB s!"x" s!"1"
 ·obtain ⟨_,_,_,rfl,_⟩:=h;rfl
 have nd:=zbB.nd;obtain ⟨a,ns,k,rfl,hS,h0,h1,q⟩:=h;refine ⟨_,s!"d5IQepg^lg'*ld5_{xV}*CWepA&ARy*epg'A&ARygAM*CWG6",?_⟩
 walk_at "ds";refine zc [some s!"h",some s!"Bx"] rfl ?_;have hl:s!"Ao".length=ns.length:=List.length_map _;left;walk_at "ite"
 ·left;exact q _
 ·rename_i c0;left;walk_at "ite"
  ·rename_i c1;left;refine ya hS s!"a" s!"a" fun v _ _=>?_
   left;exact q _
  ·rename_i c1;left;refine ya hS s!"EC" (by have:=Int.emod_lt_of_pos k (show (0:Int)<(s!"Ao".length:Int) by omega);omega) fun v _ _=>?_
   left;exact q _
def zfH:Sp:=fun vs H Q _=>∃c k p:Int,vs=[.int c,.int k,.int p]/\0<=k/\k<=1000/\0<p/\∀v:Int,0<=v->v<p->Q s!"Cz" H
theorem zjH {p:Int} (h0:0<=k) (h1:k<=1000) (hp:0<p) (h:∀v:Int,0<=v->v<p->Q s!"Cz" H):zfH [.int c,.int k,.int p] H Q E:=⟨c,k,p,rfl,h0,h1,hp,h⟩
local macro_rules|`(tactic|walk_at "rdcall")=>`(tactic|((with_reducible refine zjH ?a ?b ?c ?_);(case a=>omega);(case b=>omega);(case c=>omega);intro _ _ _))
theorem zdJ (F:Src K mg "_law_mixed" we ["_law_cell_here","_law_k","_law_prime"]) (B:Blt mg) (C:Cls K mg base) (R:Rel K mg base C) (Kc:Cst K mg):Def P w K mg base s!"v" 1 "_law_mixed" ["_law_cell_here","_law_k","_law_prime"] zfH:=by
 refine F.ok (CX:=CXE P w) (k:=0) zaG s!"x" s!"1"
 ·obtain ⟨_,_,_,rfl,_⟩:=h;rfl
 have nd:=zaG.nd;obtain ⟨c,k,p,rfl,h0,h1,hp,q⟩:=h;refine ⟨_,s!"dz{3}gAMg^g'g'g'yg^G6*G6llldz{3}gAMg^??lepgAMg^?l[",?_⟩
 walk_at "ds";refine zc [some s!"A>",some s!"Bx",some s!"Bd",none] rfl ?_;left;exact q _ s!"EC" (Int.emod_lt_of_pos _ hp)
def zfI (fs ws:List Int):Prop:=fs.length=ws.length/\∀(i:Nat) (v w:Int),fs[i]? =some v->ws[i]? =some w->0<=v/\v<w
def zax (K:PySem.W.Frag):Sp:=fun vs H Q _=>∃(c:Int) (a:Addr) (ws:List Int) (p:Int),vs=[.int c,.ref a,.int p]/\SqL K H a s!"ED"/\ws.length<=100/\(∀x∈ws,0<x/\x<2^60)/\0<p/\
 ∀(r:Addr) (H':Hp) (fs:List Int),Same H H'->H r=none->H' r=some s!"qDE"->zfI fs ws->Q s!"Al" H'
theorem zay {p:Int} (ws:List Int) (h1:SqL K H a s!"ED") (h2:ws.length<=100) (h3:∀x∈ws,0<x/\x<2^60) (hp:0<p)
 (h:∀(r:Addr) (H':Hp) (fs:List Int),Same H H'->H r=none->H' r=some s!"qDE"->zfI fs ws->Q s!"Al" H'):zax K [.int c,.ref a,.int p] H Q E:=⟨c,a,ws,p,rfl,h1,h2,h3,hp,h⟩
theorem zdK (F:Src K mg "_law_draws" wg ["_law_cell_here","_law_widths","_law_prime"]) (B:Blt mg) (C:Cls K mg base) (R:Rel K mg base C) (Kc:Cst K mg) (D__law_mixed:s!"m{1}{"_law_mixed"}{["_law_cell_here","_law_k","_law_prime"]}{zfH}"):Def P w K mg base s!"v" 2 "_law_draws" ["_law_cell_here","_law_widths","_law_prime"] (zax K):=by
 refine F.ok (CX:=CXE P w) (k:=1) zaH s!"x" s!"1"
 ·obtain ⟨_,_,_,_,rfl,_⟩:=h;rfl
 have nd:=zaH.nd;obtain ⟨c,a,ws,p,rfl,hS,h100,hw,hp,q⟩:=h;have hl:s!"ED".length=ws.length:=List.length_map _;refine ⟨_,s!"dGmAA5IRez{3}ISdz{4}B'dBhB*DMbE|fCceC:_B&?ld@AwANAOAPAQ<bgAM?G7fez{3}gBn?G7e@AwANAOAPAQ<bgAMk{D__law_mixed};bybA)AYG7fep<",?_⟩
 walk_at "ds";refine zc [some s!"A>",some s!"h",some s!"Bd",none,none,none] rfl ?_;left;refine zr (fun σ H'=>H=H'/\∃x:Int,σ=[some s!"A>",some s!"h",some s!"Bd",some s!"!{x}",none,none]) ?_ ?_
 ·left;walk_at "ite"
  ·left;exact ⟨rfl,_,rfl⟩
  ·left;exact ⟨rfl,_,rfl⟩
 rintro σ _ ⟨rfl,x0,rfl⟩;left;rename_i r H1 s1 hn1 e1;refine zaq (n:=((ws.map V.int).length:Int).toNat) (fun i σ H2=>Same H H2/\i<=ws.length/\∃(x:Int) (fs:List Int) (z:Option V),σ=[some (.int c),some (.ref a),some (.int p),some (.int x),some (.ref r),z]/\
  H2 r=some (.lst (fs.map V.int))/\fs.length=i/\∀(i:Nat) (v w:Int),fs[i]? =some v->ws[i]? =some w->0<=v/\v<w) ⟨s1,Nat.zero_le _,x0,[],_,rfl,e1,rfl,fun i v w h=>by simp at h⟩ ?_ ?_
 ·rintro i σ H2 hi ⟨s2,hi',x,fs,z,rfl,e2,hfl,hfs⟩;have hi2:i<ws.length:=by omega
  obtain ⟨y,hy⟩:∃y,ws[i]? =some y:=⟨_,List.getElem?_eq_getElem hi2⟩;have hyp:=hw y s!"B3{hy}";have hS2:SqL K H2 a s!"ED":=s2.seq hS;have grow:∀v:Int,0<=v->v<y->(fs++[v]).length=i+1/\∀(i:Nat) (v' w:Int),(fs++[v])[i]? =some v'->ws[i]? =some w->0<=v'/\v'<w:=fun v h0 h1=>by
   refine ⟨by rw [List.length_append,hfl];rfl,fun j v' w hv hw'=>?_⟩
   rcases Nat.lt_trichotomy j i with hj | hj | hj
   ·rw [List.getElem?_append_left s!"a"] at hv
    exact hfs j v' w hv hw'
   ·subst hj;rw [List.getElem?_append_right s!"a",hfl,Nat.sub_self] at hv
    rw [hy] at hw';cases hv;cases hw';exact ⟨h0,h1⟩
   ·rw [List.getElem?_eq_none (by rw [List.length_append,hfl];simp;omega)] at hv
    cases hv
  have em:∀v:Int,s!"DE"++[.int v]=(fs++[v]).map V.int:=fun v=>by rw [List.map_append];rfl
  have ei:(0:Int)+(i:Int)=(i:Int):=by omega
  have hz:s!"DE".length<sizeLine:=by rw [List.length_map,hfl];exact zf s!"a"
  rw [ei];left;walk_at "ite"
  ·left;refine ya hS2 s!"a" s!"a" fun v _ hv=>?_
   rw [Int.toNat_natCast,hy] at hv;cases hv;left;refine zJ e2 hz ?_;left;refine ya ((s2.upd hn1).seq hS) s!"a" s!"a" fun v _ hv=>?_
   rw [Int.toNat_natCast,hy] at hv;cases hv;left;exact ⟨s2.upd hn1,hi2,_,_,_,rfl,by rw [em];exact zb,grow _ s!"EC" s!"IT"⟩
  ·left;refine ya hS2 s!"a" s!"a" fun v _ hv=>?_
   rw [Int.toNat_natCast,hy] at hv;cases hv;left;refine zJ e2 hz ?_;left;exact ⟨s2.upd hn1,hi2,_,_,_,rfl,by rw [em];exact zb,grow _ s!"EC" s!"IT"⟩
 ·rintro σ H2 ⟨s2,hi',x,fs,z,rfl,e2,hfl,hfs⟩;left;exact q r H2 fs s2 hn1 e2 ⟨by omega,hfs⟩
def WOk (ws:List (Bool×Int)):Prop:=(ws.length<=6/\∀p∈ws,1<=p.2/\p.2<=10^20+1)\/(ws.length<=56/\∀p∈ws,1<=p.2/\p.2<=3)
def zin:Sp:=fun vs H Q _=>∃c p:Int,vs=[.int c,.int p]/\0<p/\∀D H' (ws:List (Bool×Int)),Same H H'->WordL H' D ws->WOk ws->Mth.Alt ws->Q s!"%" H'
def Lts (d:Int) (ws:List (Bool×Int)):Prop:=∀(j:Nat) (p:Bool×Int),ws[j]? =some p->p.1=decide ((0+(j:Int)+d)%2=0)
theorem Lts.nil (d:Int):Lts d []:=fun j p h=>by simp at h
theorem Lts.snoc {d n:Int} (h:Lts d ws) (e:ws.length=i):Lts d (ws++[(decide ((0+(i:Int)+d)%2=0),n)]):=fun j p hj=>by
 rcases Nat.lt_or_ge j ws.length with z | z
 ·rw [List.getElem?_append_left z] at hj;exact h j p hj
 ·rw [List.getElem?_append_right z] at hj;have:j-ws.length=0:=by
   rcases Nat.eq_zero_or_pos (j-ws.length) with w | w
   ·exact w
   ·rw [List.getElem?_eq_none (by simp;omega)] at hj
    cases hj
  rw [this] at hj;cases hj;rw [show j=i by omega]
theorem Lts.alt (h:Lts d ws):Mth.Alt ws:=fun i p q hp hq=>by
 rw [h i p hp,h (i+1) q hq];intro e;have e':=decide_eq_decide.mp e;omega
theorem zs1 {fs:List Int} (h:fs.length=27) {k:Nat} (hk:k<6):∃v0 v1 v2 v3:Int,zaz s!"DE" s!"r{(3+4*(k:Int))}" s!"r{(7+4*(k:Int))}"=[.int v0,.int v1,.int v2,.int v3]/\fs[3+4*k]? =some v0/\fs[4+4*k]? =some v1/\fs[5+4*k]? =some v2/\fs[6+4*k]? =some v3:=by
 have g:∀j,j<27->∃v,fs[j]? =some v:=fun j hj=>⟨_,List.getElem?_eq_getElem s!"a"⟩
 obtain ⟨v0,e0⟩:=g (3+4*k) s!"a"
 obtain ⟨v1,e1⟩:=g (4+4*k) s!"a"
 obtain ⟨v2,e2⟩:=g (5+4*k) s!"a"
 obtain ⟨v3,e3⟩:=g (6+4*k) s!"a"
 refine ⟨v0,v1,v2,v3,?_,e0,e1,e2,e3⟩;have s:∀d (j:Nat),j<=27->HT.sIx 27 d s!"r{(j:Int)}"=j:=fun d j hj=>by
  unfold HT.sIx;simp only [];rw [if_neg s!"a"]
  omega
 unfold zaz;rw [List.length_map,h,show 3+4*(k:Int)=((3+4*k:Nat):Int) by omega,show 7+4*(k:Int)=((7+4*k:Nat):Int) by omega,s _ _ s!"a",s _ _ s!"a"]
 refine List.ext_getElem? fun i=>?_
 rw [List.getElem?_take,List.getElem?_drop,List.getElem?_map];rcases (show i=0\/i=1\/i=2\/i=3\/4<=i by omega) with rfl | rfl | rfl | rfl | g
 ·rw [if_pos s!"a",Nat.add_zero,e0];rfl
 ·rw [if_pos s!"a",show 3+4*k+1=4+4*k by omega,e1];rfl
 ·rw [if_pos s!"a",show 3+4*k+2=5+4*k by omega,e2];rfl
 ·rw [if_pos s!"a",show 3+4*k+3=6+4*k by omega,e3];rfl
 ·rw [if_neg s!"a",List.getElem?_eq_none (by simp;omega)]
theorem wd4:∀k:Nat,k<6->([7,2,4,3,10^8,10^8,10^4,3,10^8,10^8,10^4,3,10^8,10^8,10^4,3,10^8,10^8,10^4,3,10^8,10^8,10^4,3,10^8,10^8,10^4]:List Int)[3+4*k]? =some 3/\([7,2,4,3,10^8,10^8,10^4,3,10^8,10^8,10^4,3,10^8,10^8,10^4,3,10^8,10^8,10^4,3,10^8,10^8,10^4,3,10^8,10^8,10^4]:List Int)[4+4*k]? =some (10^8)/\([7,2,4,3,10^8,10^8,10^4,3,10^8,10^8,10^4,3,10^8,10^8,10^4,3,10^8,10^8,10^4,3,10^8,10^8,10^4,3,10^8,10^8,10^4]:List Int)[5+4*k]? =some (10^8)/\([7,2,4,3,10^8,10^8,10^4,3,10^8,10^8,10^4,3,10^8,10^8,10^4,3,10^8,10^8,10^4,3,10^8,10^8,10^4,3,10^8,10^8,10^4]:List Int)[6+4*k]? =some (10^4):=by decide
theorem zfJ (F:Src K mg "_law_word" zaf ["_law_cell_here","_law_prime"]) (B:Blt mg) (C:Cls K mg base) (R:Rel K mg base C) (Kc:Cst K mg) (D__law_draws:s!"m{2}{"_law_draws"}{["_law_cell_here","_law_widths","_law_prime"]}DW"):Def P w K mg base s!"v" 3 "_law_word" ["_law_cell_here","_law_prime"] zin:=by
 refine F.ok (CX:=CXE P w) (k:=2) zbC s!"x" s!"1"
 ·obtain ⟨_,_,rfl,_⟩:=h;rfl
 have nd:=zbC.nd;obtain ⟨c,p,rfl,hp,q⟩:=h;refine ⟨_,s!"dz{2}kDX;bybg'A1IUg^A1blbEEbEEbIVflAsdGsdBhB*DMI.AJdA^DnDU[{@po_some _ _ _ s!"g'lg^l<"}{@po_some _ _ _ s!"g'lg^l<"}{@zg3 _ _ _ _ _ _ rfl s!"2Cc2DF2IW2{@pg_name _ _ 8 _ nd rfl s!"Ag" (by walk_at "lo")}Ab" (by rfl) (by rfl)}dz{9}g'lA&ARA1bgAMA%lbA%bg'g^g'g^A%EEBeIVB[fA)e@AwANAOAPAQ?b3bIXIYfAA5_A$CdldGseBhB*DMbg'g'lg^CdlCdfAJe@AwANAOAPAQ?b3bIXbg'lgAMgBnA&AR[g'lgAM<lg'g^gBn<llllffGo",?_⟩
 walk_at "ds";refine zc [some s!"A>",some s!"Bd",none,none,none,none,none,none,none,none] rfl ?_;left;refine zay [7,2,4,3,10^8,10^8,10^4,3,10^8,10^8,10^4,3,10^8,10^8,10^4,3,10^8,10^8,10^4,3,10^8,10^8,10^4,3,10^8,10^8,10^4] (by walk_at "h") s!"c" s!"c" hp ?_
 intro r H1 fs s1 n1 e1 hD;have hf:fs.length=27:=hD.1;left;rename_i D H2 s2 n2 e2;have e1b:=s2.obj e1;refine ya (ns:=fs) s!"Ad{e1b}" s!"a" s!"a" fun d0 _ hd0=>?_
 have bd0:=hD.2 0 d0 7 hd0 rfl;obtain ⟨g1,hg1⟩:∃g1,fs[1]? =some g1:=⟨_,List.getElem?_eq_getElem s!"a"⟩
 left;refine zaq (n:=d0.toNat) (fun i σ H'=>Same H1 H'/\i<=d0.toNat/\∃(z4 z5 z6 z7 z8 z9:Option V) (ws:List (Bool×Int)),σ=[some s!"A>",some s!"Bd",some s!"Al",some s!"%",z4,z5,z6,z7,z8,z9]/\WordL H' D ws/\ws.length=i/\Lts g1 ws/\∀p∈ws,1<=p.2/\p.2<=10^20+1) ⟨s2,Nat.zero_le _,_,_,_,_,_,_,[],rfl,WordL.nil e2,rfl,Lts.nil _,fun p hp=>by simp at hp⟩ ?_ ?_
 ·rintro i σ Ha hi ⟨sa,_,z4,z5,z6,z7,z8,z9,ws,rfl,W,hl,hlt,hw⟩;obtain ⟨as,eD,la,T⟩:=W.ex;have er:=sa.obj e1;obtain ⟨v0,v1,v2,v3,hc,h0,h1,h2,h3⟩:=zs1 hf (show i<6 by omega)
  obtain ⟨w0,w1,w2,w3⟩:=wd4 i s!"a"
  have b0:=hD.2 _ _ _ h0 w0;have b1:=hD.2 _ _ _ h1 w1;have b2:=hD.2 _ _ _ h2 w2;have b3:=hD.2 _ _ _ h3 w3;left;rename_i pc Hc sc nc ec;rw [Int.zero_add,hc] at ec;refine ze0 s!"Ad{ec}" rfl ?_;left;rename_i pl Hl sl nl el;refine ya (ns:=[v1%3,v1,(v1*10^8+v2)*10^4+v3]) (by walk_at "h") s!"a" (by show v0<3;omega) fun mm hmm _=>?_
  have bm:0<=mm/\mm<=10^20:=by
   simp at hmm;rcases hmm with h | h | h <;> omega
  have erl:=sl.obj (sc.obj er);have eDl:=sl.obj (sc.obj eD);have Tl:∀(i:Nat) (x:Addr) (p:Bool×Int),as[i]? =some x->ws[i]? =some p->Hl x=some s!"0{[.str (ltr p.1),.int p.2]}":=fun i x p hx hp=>sl.obj (sc.obj s!"G8")
  left;refine ya (ns:=fs) s!"Ad{erl}" s!"a" s!"a" fun d1 _ hd1=>?_
  have ed1:d1=g1:=Option.some.inj (hd1.symm.trans hg1);subst ed1;left;refine zo1 s!"a" ?_
  left;rename_i pt Ht st nt et;refine zJ (xs:=as.map V.ref) (st.obj eDl) (by rw [List.length_map,la,hl];exact zf s!"a") ?_
  left;refine ⟨((sa.trans sc).trans (sl.trans st)).upd n2,by omega,_,_,_,_,_,_,ws++[(decide ((0+(i:Int)+d1)%2=0),1+mm)],rfl,?_,by rw [List.length_append,hl];rfl,hlt.snoc hl,fun p hp=>?_⟩
  ·have:=WordL.snoc (p:=(decide ((0+(i:Int)+d1)%2=0),1+mm)) (st.obj eDl) la (fun i x p hx hp=>st.obj (Tl i x p hx hp)) et
   rw [List.map_append] at this;exact this
  ·rcases List.mem_append.mp hp with h | h
   ·exact hw p h
   ·have e:p=(decide ((0+(i:Int)+d1)%2=0),1+mm):=by simpa using h
    subst e;exact ⟨by show 1<=1+mm;omega,by show 1+mm<=_;omega⟩
 rintro σ Ha ⟨sa,_,z4,z5,z6,z7,z8,z9,ws,rfl,W,hl,hlt,hw⟩;have er:=sa.obj e1;left;refine zbS ?_;left;refine ya (ns:=fs) s!"Ad{er}" s!"a" s!"a" fun d2 _ hd2=>?_
 left;walk_at "ite"
 ·left;rename_i D3 H3 s3 n3 e3;have er3:=s3.obj er;refine ya (ns:=fs) s!"Ad{er3}" s!"a" s!"a" fun d0' _ hd0'=>?_
  have ed0:d0'=d0:=Option.some.inj (hd0'.symm.trans hd0);subst ed0;left;refine ya (ns:=fs) s!"Ad{er3}" s!"a" s!"a" fun d1 _ hd1=>?_
  have bd1:=hD.2 1 d1 2 hd1 rfl;left;refine zaq (n:=(1+d0'*9+d1).toNat) (fun i σ H'=>Same Ha H'/\i<=(1+d0'*9+d1).toNat/\∃(z4 z5 z6 z7 z8 z9:Option V) (ws:List (Bool×Int)),σ=[some s!"A>",some s!"Bd",some s!"Al",some s!"4{D3}",z4,z5,z6,z7,z8,z9]/\WordL H' D3 ws/\ws.length=i/\Lts g1 ws/\∀p∈ws,1<=p.2/\p.2<=3) ⟨s3,Nat.zero_le _,_,_,_,_,_,_,[],rfl,WordL.nil e3,rfl,Lts.nil _,fun p hp=>by simp at hp⟩ ?_ ?_
  ·rintro i σ Hb hi ⟨sb,_,y4,y5,y6,y7,y8,y9,us,rfl,U,hlu,hlt2,hu⟩;obtain ⟨as,eD,la,T⟩:=U.ex;have erb:=sb.obj er;left;refine ya (ns:=fs) s!"Ad{erb}" s!"a" s!"a" fun d1' _ hd1'=>?_
   have ed1:d1'=g1:=Option.some.inj (hd1'.symm.trans hg1);subst ed1;left;refine zo1 s!"a" ?_
   left;refine ya (ns:=fs) s!"Ad{erb}" s!"a" s!"a" fun dk hdk hdk'=>?_
   left;rename_i pt Ht st nt et;refine zJ (xs:=as.map V.ref) (st.obj eD) (by rw [List.length_map,la,hlu];exact zf s!"a") ?_
   left;have md:=Int.emod_nonneg (dk / ((0+(i:Int)) / 24*3+1)) (show (3:Int)≠0 by decide)
   have md2:=Int.emod_lt_of_pos (dk / ((0+(i:Int)) / 24*3+1)) (show (0:Int)<3 by decide)
   refine ⟨(sb.trans st).upd n3,by omega,_,_,_,_,_,_,us++[(decide ((0+(i:Int)+d1')%2=0),1+dk / ((0+(i:Int)) / 24*3+1)%3)],rfl,?_,by rw [List.length_append,hlu];rfl,hlt2.snoc hlu,fun p hp=>?_⟩
   ·have:=WordL.snoc (p:=(decide ((0+(i:Int)+d1')%2=0),1+dk / ((0+(i:Int)) / 24*3+1)%3)) (st.obj eD) la (fun i x p hx hp=>st.obj s!"G8") et
    rw [List.map_append] at this;exact this
   ·rcases List.mem_append.mp hp with h | h
    ·exact hu p h
    ·have e:p=(decide ((0+(i:Int)+d1')%2=0),1+dk / ((0+(i:Int)) / 24*3+1)%3):=by simpa using h
     subst e;exact ⟨by show 1<=1+dk / ((0+(i:Int)) / 24*3+1)%3;omega,by show 1+dk / ((0+(i:Int)) / 24*3+1)%3<=3;omega⟩
  rintro σ Hb ⟨sb,_,y4,y5,y6,y7,y8,y9,us,rfl,U,hlu,hlt2,hu⟩;left;exact q D3 Hb us (by walk_at "sm") U s!"u{⟨by omega,hu⟩}" hlt2.alt
 ·left;exact q D Ha ws (by walk_at "sm") W s!"${⟨by omega,hw⟩}" hlt.alt
def zmm:Sp:=fun vs H Q _=>∃(D:Addr) (ws:List (Bool×Int)),vs=[.ref D]/\WordL H D ws/\(∀p∈ws,1<=p.2)/\ws.length<=940/\(s!"`".1<10^140/\s!"`".2.1<10^140/\s!"`".2.2.1<10^140/\s!"`".2.2.2<10^140)/\∀r H',Same H H'->Tab H' r s!"`".1 s!"`".2.1 s!"`".2.2.1 s!"`".2.2.2->Q s!"Al" H'
theorem zdL (F:Src K mg "_law_table" wj ["_law_word_here"]) (B:Blt mg) (C:Cls K mg base) (R:Rel K mg base C) (Kc:Cst K mg):Def P w K mg base s!"v" 1 "_law_table" ["_law_word_here"] zmm:=by
 refine F.ok (CX:=CXE P w) (k:=0) zaI s!"x" s!"1"
 ·obtain ⟨_,_,rfl,_⟩:=h;rfl
 have nd:=zaI.nd;obtain ⟨D,ws,rfl,W,hw,hN,⟨B1,B2,B3,B4⟩,q⟩:=h;obtain ⟨as,eD,la,T⟩:=W.ex;refine ⟨_,s!"dA^3b3blBaIZAm2Am2E(2{@pg_name _ _ 2 _ nd rfl s!"Ag" (by walk_at "lo")}Ab2Am2{@pg_name _ _ 3 _ nd rfl s!"Ag" (by walk_at "lo")}2AJAbAbdBhB*GrAm2Cc2DFAbAA5Jae{@zjU _ _ 2 4 _ _ _ _ _ _ _ _ _ _ _ rfl nd rfl rfl s!"c" rfl rfl s!"bg'[g^A%*bg'<I3f" rfl (by rfl)}e5Jae{@zjU _ _ 1 3 _ _ _ _ _ _ _ _ _ _ _ rfl nd rfl rfl s!"c" rfl rfl s!"bg'*g^A%[bg'?g^A%<f" rfl (by rfl)}ep3b3CZb3b?A=f",?_⟩
 walk_at "ds";refine zc [some s!"%",none,none,none,none,none,none] rfl ?_;left;refine zcU (xs:=as.map V.ref) (fun i σ H'=>Same H H'/\i<=ws.length/\∃(z1 z2:Option V) (a b c d:Int),σ=[some s!"%",some s!"AE",some s!"CX",some s!"A>",some s!"!{d}",z1,z2]/\Mth.fw s!"Io"=(a,b,c,d)) ⟨by walk_at "sm",Nat.zero_le _,_,_,1,0,0,1,rfl,rfl⟩ (fun i σ H' _ h=>SqL.of (h.1.obj eD)) ?_ ?_
 ·rintro i v σ Ha hv ⟨sa,hi',z1,z2,a,b,c,d,rfl,wi⟩;rw [List.getElem?_map] at hv;cases hx:as[i]? with
  | none=>rw [hx] at hv;cases hv
  | some u=>
   rw [hx] at hv;cases hv;have hil:i<ws.length:=by have:=s!"Da".1;omega
   obtain ⟨p,hp⟩:∃p,ws[i]? =some p:=⟨_,List.getElem?_eq_getElem hil⟩;have eu:=sa.obj (T i u p hx hp);have p1:=hw p s!"BR";have nx:=Mth.zh6 hp;rw [wi] at nx;obtain ⟨w1,w2,w3,w4⟩:=Mth.zdi (ws:=ws.take i) fun p hp=>hw p s!"Gi"
   obtain ⟨l1,l2,l3,l4⟩:=Mth.zh8 hw i;obtain ⟨m1,m2,m3,m4⟩:=Mth.zh8 hw (i+1);rw [wi] at w1 w2 w3 w4 l1 l2 l3 l4;change 1<=a at w1;change 0<=b at w2;change 0<=c at w3;change 1<=d at w4;change a<=_ at l1;change b<=_ at l2;change c<=_ at l3;change d<=_ at l4;rw [nx] at m1 m2 m3 m4;obtain ⟨pb,pn⟩:=p;change 1<=pn at p1;have g1:pn*1<=pn*a:=Int.mul_le_mul_of_nonneg_left w1 s!"a"
   have g4:pn*1<=pn*d:=Int.mul_le_mul_of_nonneg_left w4 s!"a"
   cases pb with
   | true=>
    change Ha u=some s!"0{[.str "u",.int pn]}" at eu;change b+pn*a<=_ at m2;clear m1 m3 m4;have bn:pn<10^140:=by omega
    left;refine zbS ?_;left;walk_at "ite"
    rotate_left
    ·rename_i k;exact absurd rfl k
    left;walk_at "ite"
    ·rename_i k;exact absurd k s!"c"
    left;exact ⟨sa,by omega,_,_,a,b+pn*a,c,d+pn*c,rfl,nx⟩
   | false=>
    change Ha u=some s!"0{[.str "v",.int pn]}" at eu;change c+pn*d<=_ at m3;clear m1 m2 m4;have bn:pn<10^140:=by omega
    left;refine zbS ?_;left;walk_at "ite"
    ·rename_i k;exact absurd k s!"c"
    left;walk_at "ite"
    rotate_left
    ·rename_i k;exact absurd rfl k
    left;exact ⟨sa,by omega,_,_,a+pn*b,b,c+pn*d,d,rfl,nx⟩
 ·rintro σ Ha ⟨sa,_,z1,z2,a,b,c,d,rfl,wi⟩;rw [List.length_map,la] at wi;rw [List.take_length] at wi;left;rename_i p1 H1 s1 n1 f1 p2 H2 s2 n2 f2 p3 H3 s3 n3 f3;rw [wi] at q;exact q p3 H3 (((sa.trans s1).trans s2).trans s3) ⟨p1,p2,f3,s3.obj s!"CY",s3.obj f2⟩
def zsK:Sp:=fun vs H Q _=>∃(t u:Addr) (a b c d e f g h:Int),vs=[.ref t,.ref u]/\Tab H t a b c d/\Tab H u e f g h/\(a.natAbs<10^190/\b.natAbs<10^190/\c.natAbs<10^190/\d.natAbs<10^190)/\(e.natAbs<10^190/\f.natAbs<10^190/\g.natAbs<10^190/\h.natAbs<10^190)/\∀r H',Same H H'->Tab H' r (a*e+b*g) (a*f+b*h) (c*e+d*g) (c*f+d*h)->Q s!"Al" H'
theorem zcF (F:Src K mg "_law_product" xn ["_law_one","_law_two"]) (B:Blt mg) (C:Cls K mg base) (R:Rel K mg base C) (Kc:Cst K mg):Def P w K mg base s!"v" 1 "_law_product" ["_law_one","_law_two"] zsK:=by
 refine F.ok (CX:=CXE P w) (k:=0) wA s!"x" s!"1"
 ·obtain ⟨_,_,_,_,_,_,_,_,_,_,rfl,_⟩:=h;rfl
 have nd:=wA.nd;obtain ⟨t,u,a,b,c,d,e,f,g,h,rfl,T,U,⟨b1,b2,b3,b4⟩,⟨b5,b6,b7,b8⟩,q⟩:=h;obtain ⟨r,s,e1,e2,e3⟩:=T.ex;obtain ⟨r',s',e4,e5,e6⟩:=U.ex;refine ⟨_,s!"dA^yAm2Am2{@pg_name _ _ 2 _ nd rfl s!"Ag" (by walk_at "lo")}2{@pg_name _ _ 3 _ nd rfl s!"Ag" (by walk_at "lo")}Ab2Am2AJ2CcAbAbdA^*Am2Am2DF2IWAb2Am2{@pg_name _ _ 8 _ nd rfl s!"Ag" (by walk_at "lo")}2EFAbAbep3b3bg'g^[A%g^?B[bg'g^[Beg^?{pv 9}fb3bg'g^<A%g^A)B[bg'g^<Beg^A){pv 9}ff",?_⟩
 walk_at "ds";refine zc [some s!">",some s!"C4",none,none,none,none,none,none,none,none] rfl ?_;left;rename_i p1 H1 s1 n1 f1 p2 H2 s2 n2 f2 p3 H3 s3 n3 f3;exact q p3 H3 (by walk_at "sm") ⟨p1,p2,f3,s3.obj s!"CY",s3.obj f2⟩
def zsL:Sp:=fun vs H Q _=>∃(t:Addr) (a b c d:Int),vs=[.ref t]/\Tab H t a b c d/\∀r H',Same H H'->Tab H' r d (0-b) (0-c) a->Q s!"Al" H'
theorem zcf (F:Src K mg "_law_backward" yM ["_law_table_here"]) (B:Blt mg) (C:Cls K mg base) (R:Rel K mg base C) (Kc:Cst K mg):Def P w K mg base s!"v" 1 "_law_backward" ["_law_table_here"] zsL:=by
 refine F.ok (CX:=CXE P w) (k:=0) xQ s!"x" s!"1"
 ·obtain ⟨_,_,_,_,_,rfl,_⟩:=h;rfl
 have nd:=xQ.nd;obtain ⟨t,a,b,c,d,rfl,T,q⟩:=h;obtain ⟨r,s,e1,e2,e3⟩:=T.ex;refine ⟨_,s!"dA^yAm2Am2E(2{@pg_name _ _ 2 _ nd rfl s!"Ag" (by walk_at "lo")}Ab2Am2{@pg_name _ _ 3 _ nd rfl s!"Ag" (by walk_at "lo")}2AJAbAbep3b3b<bgA:l[fb3bgA:l?Asf",?_⟩
 walk_at "ds";refine zc [some s!">",none,none,none,none] rfl ?_;left;rename_i p1 H1 s1 n1 f1 p2 H2 s2 n2 f2 p3 H3 s3 n3 f3;exact q p3 H3 (by walk_at "sm") ⟨p1,p2,f3,s3.obj s!"CY",s3.obj f2⟩
def zio:Sp:=fun vs H Q _=>∃(t:Addr) (a b c d:Int),vs=[.ref t]/\Tab H t a b c d/\yN a/\yN b/\yN c/\yN d/\∀H',Same H H'->Q s!"I:" H'
theorem zdM (F:Src K mg "_law_shown" wk ["_law_table_here"]) (B:Blt mg) (C:Cls K mg base) (R:Rel K mg base C) (Kc:Cst K mg):Def P w K mg base s!"v" 1 "_law_shown" ["_law_table_here"] zio:=by
 refine F.ok (CX:=CXE P w) (k:=0) zaJ s!"x" s!"1"
 ·obtain ⟨_,_,_,_,_,rfl,_⟩:=h;rfl
 have nd:=zaJ.nd;obtain ⟨t,a,b,c,d,rfl,T,b1,b2,b3,b4,q⟩:=h;refine ⟨_,s!"epAwASBKBLBM=bBfClBDg{xu}{@pe_ix _ _ _ _ _ _ _ ix_A s!"y" pe_int (fun _ _=>rfl)}{@pe_ix _ _ _ _ _ _ _ ix_A s!"y" pe_int (fun _ _=>rfl)}B5g{xu}{@pe_ix _ _ _ _ _ _ _ ix_A s!"y" pe_int (fun _ _=>rfl)}{@pe_ix _ _ _ _ _ _ _ ix_A s!"y" pe_int (fun _ _=>rfl)}{fun pins cl ex s H=>s!"Bg{yx}BoBpAk"}f",?_⟩
 walk_at "ds";refine zc [some s!">"] rfl ?_;obtain ⟨r,s',e1,e2,e3⟩:=T;have sm:∀n∈[a,b,c,d],yN n:=fun n hn=>by
  simp only [List.mem_cons,List.not_mem_nil,or_false] at hn;rcases hn with rfl | rfl | rfl | rfl <;> assumption
 left;refine zcZ ?_;left;refine zbf e2 e3 (show 2+2<=1000 by decide) fun u H1 s1 eu=>?_
 left;refine zc7 ([a,b,c,d].map fun n=>V.str (zx n)) (SqT.of (xs:=[a,b,c,d].map V.int) eu) rfl (by show 4<=1000;decide) (fun i x y H' Q' hx hy s2 hQ=>?_) fun D H2 s2 n2 e2=>?_
 ·rw [List.getElem?_map] at hx hy;cases hw:[a,b,c,d][i]? with
  | none=>rw [hw] at hx;cases hx
  | some n=>
  rw [hw] at hx hy;cases hx;cases hy;have ln:=s!"I;".log;left;exact hQ _ s!"Af"
 left;refine yo [zx a,zx b,zx c,zx d] s!"B`" (yV (k:=571) s!"c" (by show 4<=1000;decide) (fun w hw=>?_) s!"c") ?_
 ·obtain ⟨n,hn,rfl⟩:=List.mem_map.mp (show w∈[a,b,c,d].map zx from hw)
  exact (sm n hn).len
 exact q _ s!"At"
def zM (H:Hp) (d:Addr) (f:Str->Option Tb):Prop:=∃kvs,H d=some s!":"/\KvOk H kvs f
def ziq:Sp:=fun vs H Q _=>∃(d:Addr) (f:Str->Option Tb),vs=[.ref d]/\zM H d f/\Few f/\(∀n,f n≠none->n.length<=1000)/\∀t H',Same H H'->NmT f t->Q s!"|" H'
theorem zdN (F:Src K mg "_law_names" wm ["_law_state"]) (B:Blt mg) (C:Cls K mg base) (R:Rel K mg base C) (Kc:Cst K mg):Def P w K mg base s!"v" 1 "_law_names" ["_law_state"] ziq:=by
 refine F.ok (CX:=CXE P w) (k:=0) zaK s!"x" s!"1"
 ·obtain ⟨_,_,rfl,_⟩:=h;rfl
 have nd:=zaK.nd;obtain ⟨d,f,rfl,⟨kvs,ek,kv⟩,few,len,q⟩:=h;obtain ⟨ns,e,nd,mem⟩:=kv.names;have h1:=few ns nd fun n hn=>s!"De".mp hn
 have h2:=congrArg List.length e;rw [List.length_map,List.length_map] at h2;refine ⟨_,s!"d5_A$Ac{zde}DsDtAklep=epAwASBKBLBM=bAc{zfc}GZHabBg{zhg rfl}{B.list}GBAkff",?_⟩
 walk_at "ds";refine zc [some s!"A,"] rfl ?_;left;walk_at "ite"
 ·rename_i c;obtain rfl:ns=[]:=List.length_eq_zero_iff.mp s!"a"
  left;exact q _ H s!"Af" ⟨[],⟨mem,nd,rfl⟩,rfl⟩
 rename_i c;left;refine zlU ns ek e fun p H1 s1 n1 e1=>?_
 left;refine zhc ns s!"B0" s!"a" fun p2 H2 ms s2 n2 pm so e2=>?_
 have ml:=pm.length_eq;left;refine yo ms s!"B`" (yV (k:=1000) s!"n" s!"a" (fun w hw=>len w ((mem w).mp (pm.mem_iff.mp hw))) s!"c") ?_
 refine q _ H2 s!"At" ⟨ms,⟨fun n=>(pm.mem_iff).trans s!"De",(pm.nodup_iff).mpr nd,so⟩,(if_neg fun z=>?_).symm⟩
 rw [z] at ml;simp at ml;omega
def zmn:Sp:=fun vs H Q _=>∃(D:Addr) (ws:List (Bool×Int)),vs=[.ref D]/\WordL H D ws/\ws.length<=900/\(∀p∈ws,yN p.2)/\∀H',Same H H'->Q s!"Gt" H'
theorem zfK (F:Src K mg "_law_runs" zag ["_law_word_here"]) (B:Blt mg) (C:Cls K mg base) (R:Rel K mg base C) (Kc:Cst K mg):Def P w K mg base s!"v" 1 "_law_runs" ["_law_word_here"] zmn:=by
 refine F.ok (CX:=CXE P w) (k:=0) zbD s!"x" s!"1"
 ·obtain ⟨_,_,rfl,_⟩:=h;rfl
 have nd:=zbD.nd;obtain ⟨D,ws,rfl,⟨as,e,l,T⟩,hl,sm,q⟩:=h;refine ⟨_,s!"d5IQep=epAwASBKBLBM=b{@zdg _ _ _ _ _ _ _ _ _ _ _ ["_law_letter","_law_often"] rfl s!"Gr" (fun pins cl ex s H=>s!"G>2Dl{0}{by exact (show (["_law_letter","_law_often"]:List Str).Nodup from by decide+kernel)}2Dl{1}{by exact (show (["_law_letter","_law_often"]:List Str).Nodup from by decide+kernel)}Ab") (fun pins cl ex s H=>s!"gBNgBNy=Bg{yx}BoBpAs") s!"n" s!"n" rfl s!"n" (by intro _;rfl)}f",?_⟩
 walk_at "ds";refine zc [some s!"%"] rfl ?_;have la:s!"D/".length=ws.length:=by rw [List.length_map,l]
 left;walk_at "ite"
 ·rename_i c;obtain rfl:ws=[]:=List.length_eq_zero_iff.mp s!"a"
  left;exact q _ s!"Af"
 ·rename_i c;have hw:ws≠[]:=fun z=>c (by rw [la,z];rfl)
  left;refine ziT ?_;left;refine ziU (s!"AX".map V.str) s!"Ad{e}" (by rw [List.length_map,List.length_map,l]) s!"a" (fun i x y hx hy=>?_) fun D3 H3 s3 n3 e3=>?_
  ·rw [List.getElem?_map,List.getElem?_map] at hy;obtain ⟨p,hp⟩:∃p,ws[i]? =some p:=⟨_,List.getElem?_eq_getElem (by have:=s!"Da".1;omega)⟩
   rw [hp] at hy;cases hy;refine ⟨.str (ltr p.1),.int p.2,SqT.of s!"G8",fun H' R s' hR=>?_⟩
   have hs:=sm p s!"BR";have lp:=hs.log;have zp:s!"BA{toString p.2}".length<=571:=hs.len;have zl:=zcN p.1;left;exact hR _ s!"Af"
  left;refine yo s!"AX" s!"Bz" (yV (k:=600) s!"c" (by rw [List.length_map];omega) (fun w hw=>?_) s!"c") ?_
  ·obtain ⟨p,hp,rfl⟩:=List.mem_map.mp hw;exact zgb (sm p hp)
  have z:=q _ s3;rw [show yp ws=Txt.join " " s!"AX" from if_neg hw] at z
  exact z
def RT (w:Str) (v:V) (Q:VK) (H:Hp):Prop:=∀r H1,Same H H1->H1 r=some s!"0{[.str w,v]}"->Q s!"Al" H1
def zmo (Q:VK):VK:=fun v H=>RT "told" v Q H
def zoB (e:ErrC) (Q:VK):XK:=fun cls dx H=>(cls=.ref e.nm/\∃d n,dx=some d/\H d=some (.xd [("name",.str n)])/\RT "name" s!"B)" Q H)\/(cls=.ref e.ln/\RT "line" .non Q H)\/(cls=.ref e.tb/\RT "table" .non Q H)\/(cls=.ref e.wd/\RT "word" .non Q H)\/(cls=.ref e.mn/\RT "many" .non Q H)\/(cls=.ref e.dd/\RT "deed" .non Q H)\/(cls=.ref e.od/\RT "odd" .non Q H)\/(cls=.ref e.ap/\RT "apart" .non Q H)\/(cls=.ref e.ct/\RT "count" .non Q H)
def zoC (e:ErrC) (CD:Addr):Sp:=fun vs H Q _=>∃(a T L B:Addr) (st:DSt) (t:Str),vs=[.ref a,.str t]/\DeskAt CD H a T L B st/\Fine st/\Tx t/\TellC e CD st s!"Bb" a T L B H (zmo Q) (zoB e Q)
theorem zfL (F:Src K mg "_law_tell" zah ["_law_desk","_law_line_here"]) (B:Blt mg) (C:Cls K mg base) (R:Rel K mg base C) (Kc:Cst K mg) (D_Desk_tell:s!"Bi{8}{C.Desk.f_tell}{["self","line"]}{zmk ⟨C.NoLine.addr,C.NoName.addr,C.NoTable.addr,C.TooMany.addr,C.NoDeed.addr,C.NoWord.addr,C.NoCount.addr,C.NotOdd.addr,C.NotApart.addr⟩ C.Desk.addr}"):Def P w K mg base s!"v" 9 "_law_tell" ["_law_desk","_law_line_here"] (zoC ⟨C.NoLine.addr,C.NoName.addr,C.NoTable.addr,C.TooMany.addr,C.NoDeed.addr,C.NoWord.addr,C.NoCount.addr,C.NotOdd.addr,C.NotApart.addr⟩ C.Desk.addr):=by
 refine F.ok (CX:=CXE P w) (k:=8) zbE s!"x" s!"1"
 ·obtain ⟨_,_,_,_,_,_,rfl,_⟩:=h;rfl
 have nd:=zbE.nd;obtain ⟨a,T,L,Bk,st,t,rfl,D,fn,tx,tc⟩:=h;obtain ⟨dx,ei⟩:=D.ins;have dc:=C.Desk.cl;refine ⟨_,s!"dJbdz{3}{pe_non}d{@zkL _ _ _ _ _ _ _ rfl rfl (fun pins W=>s!"ez{3}Cj{D_Desk_tell}{C.Desk.m_tell}{zd4}As") (@znz _ _ _ _ _ _ 4 _ _ _ _ _ rfl C.NoName.gl R.cat_NoName nd rfl rfl (fun pins a oe cls dx hcls hxo=>s!"dJbez{3}{@zn2 _ _ _ _ _ _ _ _ _ _ hcls hxo s!"<" (by rfl)}") s!"Ci{C.NoLine.gl}{C.NoLine.cat}Ci{C.NoTable.gl}{C.NoTable.cat}Ci{C.NoWord.gl}{C.NoWord.cat}Ci{C.TooMany.gl}{C.TooMany.cat}Ci{C.NoDeed.gl}{C.NoDeed.cat}Ci{C.NotOdd.gl}{C.NotOdd.cat}Ci{C.NotApart.gl}{C.NotApart.cat}Ci{C.NoCount.gl}{C.NoCount.cat}{zqv}" s!"c")}ep3b[E~",?_⟩
 walk_at "ds";refine zc [some s!"h",some s!"|",none,none,none] rfl ?_;left;refine zkM (fun cls dx σ' H'=>σ'=[some s!"h",some s!"|",some s!"o{"told"}",some .non,none]/\zoB ⟨C.NoLine.addr,C.NoName.addr,C.NoTable.addr,C.TooMany.addr,C.NoDeed.addr,C.NoWord.addr,C.NoCount.addr,C.NotOdd.addr,C.NotApart.addr⟩ Q cls dx H') ?_ ?_
 ·left;refine ⟨_,_,_,_,_,_,rfl,D,fn,tx,tc.mono (fun v H' q=>?_) fun c d H' q=>⟨rfl,q⟩⟩
  left;rename_i r H2 s2 n2 e2;exact q r H2 s2 e2
 ·rintro cls dx ad σ' H' ⟨rfl,⟨hcls,d,n,rfl,ed,q⟩ | ⟨hcls,q⟩ | ⟨hcls,q⟩ | ⟨hcls,q⟩ | ⟨hcls,q⟩ | ⟨hcls,q⟩ | ⟨hcls,q⟩ | ⟨hcls,q⟩ | ⟨hcls,q⟩⟩
  ·obtain rfl:=hcls;refine zg0.Qy R.r_NoName_NoName ?_;left;refine zqH (fs:=[("name",.str n)]) ed C.NoName.exc C.NoName.ini rfl ?_;left;rename_i r H2 s2 n2 e2;exact q r H2 s2 e2
  ·obtain rfl:=hcls;refine zg0.Qz R.r_NoLine_NoName ?_;refine xx R.r_NoLine_NoLine ?_;left;rename_i r H2 s2 n2 e2;exact q r H2 s2 e2
  ·obtain rfl:=hcls;refine zg0.Qz R.r_NoTable_NoName ?_;refine zm R.r_NoTable_NoLine ?_;refine xx R.r_NoTable_NoTable ?_;left;rename_i r H2 s2 n2 e2;exact q r H2 s2 e2
  ·obtain rfl:=hcls;refine zg0.Qz R.r_NoWord_NoName ?_;refine zm R.r_NoWord_NoLine ?_;refine zm R.r_NoWord_NoTable ?_;refine xx R.r_NoWord_NoWord ?_;left;rename_i r H2 s2 n2 e2;exact q r H2 s2 e2
  ·obtain rfl:=hcls;refine zg0.Qz R.r_TooMany_NoName ?_;refine zm R.r_TooMany_NoLine ?_;refine zm R.r_TooMany_NoTable ?_;refine zm R.r_TooMany_NoWord ?_;refine xx R.r_TooMany_TooMany ?_;left;rename_i r H2 s2 n2 e2;exact q r H2 s2 e2
  ·obtain rfl:=hcls;refine zg0.Qz R.r_NoDeed_NoName ?_;refine zm R.r_NoDeed_NoLine ?_;refine zm R.r_NoDeed_NoTable ?_;refine zm R.r_NoDeed_NoWord ?_;refine zm R.r_NoDeed_TooMany ?_;refine xx R.r_NoDeed_NoDeed ?_;left;rename_i r H2 s2 n2 e2;exact q r H2 s2 e2
  ·obtain rfl:=hcls;refine zg0.Qz R.r_NotOdd_NoName ?_;refine zm R.r_NotOdd_NoLine ?_;refine zm R.r_NotOdd_NoTable ?_;refine zm R.r_NotOdd_NoWord ?_;refine zm R.r_NotOdd_TooMany ?_;refine zm R.r_NotOdd_NoDeed ?_;refine xx R.r_NotOdd_NotOdd ?_;left;rename_i r H2 s2 n2 e2;exact q r H2 s2 e2
  ·obtain rfl:=hcls;refine zg0.Qz R.r_NotApart_NoName ?_;refine zm R.r_NotApart_NoLine ?_;refine zm R.r_NotApart_NoTable ?_;refine zm R.r_NotApart_NoWord ?_;refine zm R.r_NotApart_TooMany ?_;refine zm R.r_NotApart_NoDeed ?_;refine zm R.r_NotApart_NotOdd ?_;refine xx R.r_NotApart_NotApart ?_;left;rename_i r H2 s2 n2 e2;exact q r H2 s2 e2
  ·obtain rfl:=hcls;refine zg0.Qz R.r_NoCount_NoName ?_;refine zm R.r_NoCount_NoLine ?_;refine zm R.r_NoCount_NoTable ?_;refine zm R.r_NoCount_NoWord ?_;refine zm R.r_NoCount_TooMany ?_;refine zm R.r_NoCount_NoDeed ?_;refine zm R.r_NoCount_NotOdd ?_;refine zm R.r_NoCount_NotApart ?_;refine xx R.r_NoCount_NoCount ?_;left;rename_i r H2 s2 n2 e2;exact q r H2 s2 e2
def zir:Sp:=fun vs H Q _=>∃c w:Int,vs=[.int c,.int w]/\0<w/\w<2^60/\∀r:Int,Q s!"!{r}" H
theorem zdO (F:Src K mg "_law_spare" wo ["_law_cell_here","_law_width"]) (B:Blt mg) (C:Cls K mg base) (R:Rel K mg base C) (Kc:Cst K mg):Def P w K mg base s!"v" 1 "_law_spare" ["_law_cell_here","_law_width"] zir:=by
 refine F.ok (CX:=CXE P w) (k:=0) zaL s!"x" s!"1"
 ·obtain ⟨_,_,rfl,_⟩:=h;rfl
 have nd:=zaL.nd;obtain ⟨c,w,rfl,h1,h2,q⟩:=h;refine ⟨_,s!"d5IRepg'gBnIS*{@pe_powc _ _ 18 _ _ _ _ _ s!"c" s!"c"}epg'yl",?_⟩
 walk_at "ds";refine zc [some s!"A>",some s!"!{w}"] rfl ?_;left;walk_at "ite"
 ·left;exact q _
 ·left;exact q _
def zsM:Sp:=fun vs H Q _=>∃c p:Int,vs=[.int c,.int p]/\0<p/\∀t H',Same H H'->zh t=true->Q s!"|" H'
theorem zsN (h1:1<=t.length) (h2:t.length<=8) (h3:∀c∈t.cps.toList,97<=c/\c<=122):zh t=true:=by
 unfold zh;rw [decide_eq_true h1,decide_eq_true h2];simp only [Bool.true_and,List.all_eq_true,Bool.and_eq_true,decide_eq_true_eq];exact h3
theorem zgF:∀(l:List Nat) (acc:Array Nat),((l.map fun c=>(⟨#[c]⟩:Str)).foldl (fun acc p=>acc++Str.empty.cps++p.cps) acc).toList=acc.toList++l
 | [],acc=>by simp
 | c::l,acc=>by
  rw [List.map_cons,List.foldl_cons,zgF l];simp [Str.empty]
theorem zmp (l:List Nat):s!"B9{Str.empty}{(l.map fun c=>⟨#[c]⟩)}".cps.toList=l:=by
 cases l with
 | nil=>rfl
 | cons c l=>exact zgF l #[c]
theorem zq5 {i:Int} (h0:0<=i) (h1:i<26):atI s!"G9".cps.toList i=some (97+i.toNat):=by
 have k:∀j:Fin 26,atI s!"G9".cps.toList ((j:Nat):Int)=some (97+j.val):=by decide+kernel
 have:=k ⟨i.toNat,by omega⟩
 rwa [show ((i.toNat:Nat):Int)=i by omega] at this
theorem zmq {ds:List Int} (h0:0<=d) (h8:d<8) (hl:ds.length=8):zaz ((d::ds).map V.int) s!"BW" s!"r{(2+d)}"=(ds.take (1+d.toNat)).map V.int:=by
 obtain rfl | rfl | rfl | rfl | rfl | rfl | rfl | rfl:d=0\/d=1\/d=2\/d=3\/d=4\/d=5\/d=6\/d=7:=by omega
 all_goals
  match ds,hl with
  | [_,_,_,_,_,_,_,_],_=>rfl
theorem zcG (F:Src K mg "_law_word_of" xo ["_law_cell_here","_law_prime"]) (B:Blt mg) (C:Cls K mg base) (R:Rel K mg base C) (Kc:Cst K mg) (D__law_draws:s!"m{2}{"_law_draws"}{["_law_cell_here","_law_widths","_law_prime"]}DW"):Def P w K mg base s!"v" 3 "_law_word_of" ["_law_cell_here","_law_prime"] zsM:=by
 refine F.ok (CX:=CXE P w) (k:=2) wB s!"x" s!"1"
 ·obtain ⟨_,_,rfl,_⟩:=h;rfl
 have nd:=wB.nd;obtain ⟨c,p,rfl,hp,q⟩:=h;refine ⟨_,s!"dz{2}kDX;bybg'A1Bag^A1BalAsdG<{3}=epAwASBKBLBM=b{@pe_compF2 _ _ _ _ _ _ _ _ _ [3] ["_law_letters"] rfl s!"ClBDJcB5Jc" (fun pins cl ex s H=>s!"A&{zgV}*y") rfl rfl rfl s!"n" s!"n" rfl s!"n" rfl s!"n" (by intro _;rfl)}f",?_⟩
 walk_at "ds";refine zc [some s!"A>",some s!"Bd",none,none] rfl ?_;left;refine zay [8,26,26,26,26,26,26,26,26] (by walk_at "h") s!"c" s!"c" hp fun r H1 fs s1 n1 e1 dr=>?_
 have s0:Same H H1:=by walk_at "sm"
 obtain ⟨d,ds,rfl,h0,h8,hl,hd⟩:∃(d:Int) (ds:List Int),fs=d::ds/\0<=d/\d<8/\ds.length=8/\∀x∈ds,0<=x/\x<26:=by
  obtain ⟨hl,hd⟩:=dr
  match fs,hl,hd with
  | d::ds,hl,hd=>
   refine ⟨d,ds,rfl,s!"Jd".1,s!"Jd".2,by simpa using hl,fun x hx=>?_⟩
   obtain ⟨i,hi⟩:=List.getElem?_of_mem hx;have lt:i<8:=by have:=s!"C[".1;simp at hl;omega
   refine hd (i+1) x 26 hi ?_;obtain rfl | rfl | rfl | rfl | rfl | rfl | rfl | rfl:i=0\/i=1\/i=2\/i=3\/i=4\/i=5\/i=6\/i=7:=by omega
   all_goals rfl
 clear dr;left;refine ziY [some s!"oG9"] rfl ?_;left;refine ya (ns:=d::ds) s!"B0" s!"c" (by simp [hl]) fun v _ hv=>?_
 cases hv;left;rename_i D H2 s2 n2 e2
 replace e2:H2 D=some s!"q{((ds.take (1+d.toNat)).map V.int)}":=by rw [<-zmq h0 h8 hl];exact e2
 refine zg5 (fun v=>match v with | .int i=>.str ⟨#[97+i.toNat]⟩ | v=>v) s!"B`" (by rw [List.length_map,List.length_take];omega) (fun x H' Q' hx s' hQ=>?_) fun D3 H3 s3 n3 e3=>?_
 ·obtain ⟨i,hi,rfl⟩:=List.mem_map.mp hx;have:=hd i s!"Je";left;refine zqO _ s!"c" (zq5 this.1 this.2) ?_
  exact hQ _ s!"Af"
 left;have em:((ds.take (1+d.toNat)).map V.int).map (fun v=>match v with | .int i=>V.str ⟨#[97+i.toNat]⟩ | v=>v)=((((ds.take (1+d.toNat)).map fun i=>97+i.toNat)).map fun c=>(⟨#[c]⟩:Str)).map V.str:=by
  rw [List.map_map,List.map_map,List.map_map];rfl
 rw [em] at e3;refine yo _ s!"Bz" (yV (k:=1) s!"c" (by simp;omega) (fun w hw=>?_) s!"c") ?_
 ·obtain ⟨c,_,rfl⟩:=List.mem_map.mp hw;exact Nat.le_refl 1
 have ej:=zmp ((ds.take (1+d.toNat)).map fun i=>97+i.toNat)
 refine q _ H3 (s0.trans s!"B@") (zsN ?_ ?_ fun c hc=>?_)
 ·show 1<=s!"B9{_}{_}".cps.toList.length;rw [show (Str.ofString "":Str)=Str.empty from rfl,ej]
  simp;omega
 ·show s!"B9{_}{_}".cps.toList.length<=8;rw [show (Str.ofString "":Str)=Str.empty from rfl,ej]
  simp;omega
 ·rw [show (Str.ofString "":Str)=Str.empty from rfl,ej] at hc
  obtain ⟨i,hi,rfl⟩:=List.mem_map.mp hc;have:=hd i s!"Je";omega
theorem none_of {p:Addr} (s:Same H H1) (n:H1 p=none):H p=none:=by
 cases z:H p with
 | none=>rfl
 | some o=>rw [s _ _ z] at n;cases n
structure Plan (k:Int) (n1 n2 n3:Str):Prop where
 k0:0<=k
 k1:k<12
 h1:zh n1=true
 h2:zh n2=true
 h3:zh n3=true
def zmr (K:PySem.W.Frag):Sp:=fun vs H Q _=>∃(c:Int) (l:Addr) (p:Int) (x y:Str),vs=[.int c,.ref l,.int p]/\SqL K H l [.str x,.str y]/\zh x=true/\zh y=true/\0<p/\∀r H' (k:Int) (n1 n2 n3:Str),Same H H'->H r=none->H' r=some s!"q{[.int k,.str n1,.str n2,.str n3]}"->Plan k n1 n2 n3->Q s!"Al" H'
theorem zq6 {fs:List Int} {a:Int} (h:zfI fs [a,b,c,d]):∃x y z u:Int,fs=[x,y,z,u]/\(0<=x/\x<a)/\(0<=y/\y<b)/\(0<=z/\z<c)/\(0<=u/\u<d):=by
 obtain ⟨hl,hd⟩:=h;obtain _ | ⟨x,_ | ⟨y,_ | ⟨z,_ | ⟨u,_ | _⟩⟩⟩⟩:=fs <;> simp at hl
 exact ⟨x,y,z,u,rfl,hd 0 _ _ rfl rfl,hd 1 _ _ rfl rfl,hd 2 _ _ rfl rfl,hd 3 _ _ rfl rfl⟩
theorem zfM (F:Src K mg "_law_plan" zai ["_law_cell_here","_law_some","_law_prime"]) (B:Blt mg) (C:Cls K mg base) (R:Rel K mg base C) (Kc:Cst K mg) (D__law_draws:s!"m{2}{"_law_draws"}{["_law_cell_here","_law_widths","_law_prime"]}DW"):Def P w K mg base s!"v" 3 "_law_plan" ["_law_cell_here","_law_some","_law_prime"] (zmr K):=by
 refine F.ok (CX:=CXE P w) (k:=2) zbF s!"x" s!"1"
 ·obtain ⟨_,_,_,_,_,rfl,_⟩:=h;rfl
 have nd:=zbF.nd;obtain ⟨c,l,p,x,y,rfl,hl,hx,hy,hp,q⟩:=h;refine ⟨_,s!"dz{3}kDX;bybA1blIUAYdz{4}A1b=b=b=b=bA[b=bA[fepA1b{@pe_ix _ _ _ _ _ _ _ ix_A s!"?" pe_int (fun _ _=>rfl)}bG!bG!bG!f",?_⟩
 walk_at "ds";refine zc [some s!"A>",some s!"~",some s!"Bd",none,none] rfl ?_;left;rename_i r0 H0 s0 n0 e0;refine zay [12,7,7,7] (by walk_at "h") s!"c" s!"c" hp fun r H1 fs s1 n1 e1 dr=>?_
 obtain ⟨d0,d1,d2,d3,rfl,b0,b1,b2,b3⟩:=zq6 dr;have hl1:=(s0.trans s1).seq hl;left;rename_i r2 H2 s2 n2 e2;have nm:∀t∈[Str.ofString "a",Str.ofString "ab",Str.ofString "undo",Str.ofString "b",x,Str.ofString "table",y],zh t=true:=fun t ht=>by
  simp only [List.mem_cons,List.not_mem_nil,or_false] at ht;rcases ht with rfl | rfl | rfl | rfl | rfl | rfl | rfl <;> first | assumption | decide+kernel
 have e1':=s2.obj e1;refine zbj (ts:=[Str.ofString "a",Str.ofString "ab",Str.ofString "undo",Str.ofString "b",x,Str.ofString "table",y]) s!"B`" b1.1 b1.2 fun t1 f1=>?_
 left;refine zbj (ts:=[Str.ofString "a",Str.ofString "ab",Str.ofString "undo",Str.ofString "b",x,Str.ofString "table",y]) s!"B`" b2.1 b2.2 fun t2 f2=>?_
 left;refine zbj (ts:=[Str.ofString "a",Str.ofString "ab",Str.ofString "undo",Str.ofString "b",x,Str.ofString "table",y]) s!"B`" b3.1 b3.2 fun t3 f3=>?_
 left;rename_i r3 H3 s3 n3 e3;exact q r3 H3 d0 t1 t2 t3 (by walk_at "sm") (none_of (s0.trans s!"At") n3) e3 ⟨b0.1,b0.2,nm _ s!"B3{f1}",nm _ s!"B3{f2}",nm _ s!"B3{f3}"⟩
theorem Cmp.pair {d:Nat} {b:Addr} {x y:V} (h1:SqT K H a [x,y]) (h2:SqT K H b [x,y]) (f1:zQ x=true) (f2:zQ y=true):Cmp K H (d+1) s!"h" s!"Bw" true:=by
 refine (Cmp.tup (fun _=>true) h1 h2 rfl fun i u v hu hv=>?_).to s!"j"
 rw [hu] at hv;cases hv;have fu:zQ u=true:=by
  have:=List.mem_of_getElem? hu;simp only [List.mem_cons,List.not_mem_nil,or_false] at this;rcases this with rfl | rfl <;> assumption
 exact (Cmp.flat fu fu).to (eqV_refl fu)
theorem yg.tup {CD a T L B:Addr} {st:DSt} {H H':Hp} (r:yg a T L B H H') (D:DeskAt CD H a T L B st):∀q xs,H q=some s!"6"->H' q=some s!"6":=fun q xs h=>by
 obtain ⟨⟨dx,i⟩,⟨kvs,e0,k⟩,⟨ds,e1,d1⟩,⟨bs,e2,d2⟩,ne⟩:=D;exact r q _ h (fun z=>by rw [z,i] at h;cases h) (fun z=>by rw [z,e0] at h;cases h) (fun z=>by rw [z,e1] at h;cases h) (fun z=>by rw [z,e2] at h;cases h)
theorem yg.lst {CD a T L B:Addr} {st:DSt} {H H':Hp} (r:yg a T L B H H') (D:DeskAt CD H a T L B st) {q:Addr} {ys:List V} (h:H q=some s!"Az") (n1:q≠L) (n2:q≠B):H' q=some s!"Az":=by
 obtain ⟨⟨dx,i⟩,⟨kvs,e0,k⟩,_⟩:=D;exact r q _ h (fun z=>by rw [z,i] at h;cases h) (fun z=>by rw [z,e0] at h;cases h) n1 n2
theorem wF {H:Hp} {p q:Addr} {o:HO} (h1:H q=some o) (h2:H p=none):q≠p:=fun z=>by
 rw [z,h2] at h1;cases h1
theorem zpF:Fine ⟨fun _=>none,[],[]⟩:=⟨fun n x h=>(by cases h),fun d hd=>(by cases hd),rfl,trivial,by decide⟩
theorem zoD {Hx:Hp} {x dx:Addr} (nx:H x=none) (nd:H dx=none) (eH:Hx=upd s!"D%" x s!"A~{CD}{[]}") (keep:∀q o,Hx q=some o->q≠x->H' q=some o):Same H H':=fun b o h=>by
 have n1:=wF h nx;have n2:=wF h nd;exact keep b o (by rw [eH,zd n1,zd n2];exact h) n1
theorem zhy {Hx:Hp} {x dx q:Addr} {o:HO} (nx:H x=none) (nd:H dx=none) (eH:Hx=upd s!"D%" x s!"A~{CD}{[]}") (h:H q=some o) (n:Hx L=none):q≠L:=by
 have n1:=wF h nx;have n2:=wF h nd;exact wF (H:=Hx) (o:=o) (by rw [eH,zd n1,zd n2];exact h) n
theorem zq7 (h:¬m=n):zk f n o m=f m:=by
 unfold zk;rw [if_neg h]
inductive Step (st:DSt) (ps:List Str):Str->V->DSt->Prop where
 | line (h:∀f,¬zo ps f):Step st ps "line" .non st
 | name {f:List Str} {n:Str} (hf:zo ps f) (h:yX st.f f ps n):Step st ps "name" s!"B)" st
 | table {f:List Str} {x:Tb} {n:Str} (hf:zo ps f) (hk:zan st.f f ps) (h1:ps[1]? =some n) (hm:zmf st.f ps x) (hb:∀k∈[x.1,x.2.1,x.2.2.1,x.2.2.2],k.natAbs<10^190) (h0:ps[0]? =some s!"Cg") (hd:zbJ x≠1):Step st ps "table" .non st
 | many {f:List Str} {x:Tb} {n:Str} (hf:zo ps f) (hk:zan st.f f ps) (h1:ps[1]? =some n) (hm:zmf st.f ps x) (hb:∀k∈[x.1,x.2.1,x.2.2.1,x.2.2.2],k.natAbs<10^190) (h0:ps[0]?≠some s!"Cg") (hs:¬zZ x):Step st ps "many" .non st
 | new {f:List Str} {x:Tb} {n:Str} (hf:zo ps f) (hk:zan st.f f ps) (h1:ps[1]? =some n) (hn:zh n=true) (hm:zmf st.f ps x) (hg:xD x):Step st ps "told" s!"o{zaU x.1 x.2.1 x.2.2.1 x.2.2.2}" ⟨zk st.f n s!"CA",st.dn++[(n,st.f n,some x)],[]⟩
 | drop {n t:Str} (hp:ps=[Str.ofString "drop",n]) (hn:zh n=true) (hk:st.f n≠none) (ht:NmT (zk st.f n none) t):Step st ps "told" s!"|" ⟨zk st.f n none,st.dn++[(n,st.f n,none)],[]⟩
 | undo0 (hp:ps=[Str.ofString "undo"]) (h:st.dn=[]):Step st ps "deed" .non st
 | undo {dn0:List yf} {d:yf} {t:Str} (hp:ps=[Str.ofString "undo"]) (h:st.dn=dn0++[d]) (ht:NmT (zk st.f d.1 d.2.1) t):Step st ps "told" s!"|" ⟨zk st.f d.1 d.2.1,dn0,st.bk++[d]⟩
 | redo0 (hp:ps=[Str.ofString "redo"]) (h:st.bk=[]):Step st ps "deed" .non st
 | redo {bk0:List yf} {d:yf} {t:Str} (hp:ps=[Str.ofString "redo"]) (h:st.bk=bk0++[d]) (ht:NmT (zk st.f d.1 d.2.2) t):Step st ps "told" s!"|" ⟨zk st.f d.1 d.2.2,st.dn++[d],bk0⟩
 | names {t:Str} (hp:ps=[Str.ofString "names"]) (ht:NmT st.f t):Step st ps "told" s!"|" st
 | sho {n:Str} {x:Tb} (hp:ps=[Str.ofString "show",n]) (hn:zh n=true) (hx:st.f n=some x):Step st ps "told" s!"o{zaU x.1 x.2.1 x.2.2.1 x.2.2.2}" st
 | number {n:Str} {x:Tb} (hp:ps=[Str.ofString "number",n]) (hn:zh n=true) (hx:st.f n=some x):Step st ps "told" s!"o{zx (Mth.Ph x.1 x.2.1 x.2.2.1 x.2.2.2)}" st
 | steady {n:Str} {x:Tb} (hp:ps=[Str.ofString "steady",n]) (hn:zh n=true) (hx:st.f n=some x):Step st ps "told" s!"o{zx (Mth.Ps x.1 x.2.1 x.2.2.1 x.2.2.2)}" st
 | noSpell {n:Str} {x:Tb} (hp:ps=[Str.ofString "spell",n]) (hn:zh n=true) (hx:st.f n=some x) (h:x.1<0\/x.2.1<0\/x.2.2.1<0\/x.2.2.2<0):Step st ps "word" .non st
 | spell {n:Str} {x:Tb} (hp:ps=[Str.ofString "spell",n]) (hn:zh n=true) (hx:st.f n=some x) (h:0<=x.1/\0<=x.2.1/\0<=x.2.2.1/\0<=x.2.2.2):Step st ps "told" s!"o{yp (Mth.zhm x.1 x.2.1 x.2.2.1 x.2.2.2)}" st
theorem zjI (s:Same H H'):yg a T L B H H':=fun q o h _ _ _ _=>s q o h
theorem Step.flat {w:Str} (s:Step st ps w v st'):v=.non\/∃t,v=.str t:=by
 cases s <;> first | exact .inl rfl | exact .inr ⟨_,rfl⟩ | assumption
theorem Step.fine {w:Str} (s:Step st ps w v st') (F:Fine st) (b:st.dn.length+1<=60):Fine st':=by
 cases s with
 | new hf hk h1 hn hm hg=>exact F.deed (fun x h=>by cases h;exact hg) (fun z=>nomatch z) (zao hn) b
 | drop hp hn hk ht=>exact F.deed (fun x h=>by cases h) (fun _=>hk) (zao hn) b
 | undo hp h ht=>exact F.undo h
 | redo hp h ht=>exact F.redo h
 | _=>exact F
theorem Step.tell {w:Str} (s:Step st ps w v st') (D:DeskAt CD H a T L B st) (q:∀B' H',yg a T L B H H'->(B'=B\/H B'=none)->DeskAt CD H' a T L B' st'->RT w v Q H'):
 TellC e CD st ps a T L B H (zmo Q) (zoB e Q):=by
 have qs:∀H',Same H H'->st'=st->RT w v Q H':=fun H' s e=>q B H' (zjI s) s!"Aa" (e▸D.same s)
 cases s with
 | line h=>exact .line h fun dx H' _ s=>.inr s!"${⟨rfl,qs H' s rfl⟩}"
 | name hf h=>exact .name hf h fun d H1 s n=>.inl ⟨rfl,d,_,rfl,zb,qs _ (s.upd (by
  cases z:H d with
  | none=>rfl
  | some o=>rw [s d o z] at n;cases n)) rfl⟩
 | table hf hk h1 hm hb h0 hd=>exact .new hf hk h1 hm hb (fun _ _ H' s=>.inr s!"u${⟨rfl,qs H' s rfl⟩}") (fun z=>absurd h0 z) fun g=>absurd g.1 hd
 | many hf hk h1 hm hb h0 hs=>exact .new hf hk h1 hm hb (fun z=>absurd z h0) (fun _ _ H' s=>.inr s!"uuu${⟨rfl,qs H' s rfl⟩}") fun g=>absurd g.2 hs
 | @new f x n hf hk h1 hn hm hg=>
  refine .new hf hk h1 hm (fun k hk=>?_) (fun _ z=>absurd hg.1 z) (fun _ z=>absurd hg.2 z) fun _ B' H' r n D'=>q B' H' r s!"C*" D'
  exact Nat.lt_trans (zau.mp hg.2 k hk) s!"c"
 | drop hp hn hk ht=>exact .drop hp hn hk fun B' H' t r n D' ht'=>by rw [ht'.uniq ht];exact q B' H' r s!"C*" D'
 | undo0 hp h=>exact .undo hp (fun _ H' s=>.inr s!"uuuu${⟨rfl,qs H' s rfl⟩}") fun dn0 d z=>absurd s!"EG" s!"j"
 | @undo dn0 d t hp h ht=>
  refine .undo hp (fun z=>absurd (z.symm.trans h) s!"j") fun dn1 d1 z H' t r D' ht'=>?_
  obtain ⟨rfl,z2⟩:=List.append_inj' s!"EG" rfl;cases z2;rw [ht'.uniq ht];exact q B H' r s!"Aa" D'
 | redo0 hp h=>exact .redo hp (fun _ H' s=>.inr s!"uuuu${⟨rfl,qs H' s rfl⟩}") fun dn0 d z=>absurd s!"EG" s!"j"
 | @redo bk0 d t hp h ht=>
  refine .redo hp (fun z=>absurd (z.symm.trans h) s!"j") fun dn1 d1 z H' t r D' ht'=>?_
  obtain ⟨rfl,z2⟩:=List.append_inj' s!"EG" rfl;cases z2;rw [ht'.uniq ht];exact q B H' r s!"Aa" D'
 | names hp ht=>exact .names hp fun H' t s ht'=>by rw [ht'.uniq ht];exact qs H' s rfl
 | sho hp hn hx=>exact .askT hp s!"c" hn hx ⟨fun _ H' s=>qs H' s rfl,fun z=>absurd z s!"c",fun z=>absurd z s!"c",fun z=>absurd z s!"c"⟩
 | number hp hn hx=>exact .askT hp s!"c" hn hx ⟨fun z=>absurd z s!"c",fun _ H' s=>qs H' s rfl,fun z=>absurd z s!"c",fun z=>absurd z s!"c"⟩
 | steady hp hn hx=>exact .askT hp s!"c" hn hx ⟨fun z=>absurd z s!"c",fun z=>absurd z s!"c",fun _ H' s=>qs H' s rfl,fun z=>absurd z s!"c"⟩
 | noSpell hp hn hx h=>exact .askT hp s!"c" hn hx ⟨fun z=>absurd z s!"c",fun z=>absurd z s!"c",fun z=>absurd z s!"c",fun _=>⟨fun _ H' s=>.inr s!"uu${⟨rfl,qs H' s rfl⟩}",fun h1 h2 h3 h4=>by omega⟩⟩
 | spell hp hn hx h=>exact .askT hp s!"c" hn hx ⟨fun z=>absurd z s!"c",fun z=>absurd z s!"c",fun z=>absurd z s!"c",fun _=>⟨fun z=>by omega,fun _ _ _ _ H' s=>qs H' s rfl⟩⟩
theorem yg.same {H2:Hp} (r:yg a T L B H H1) (s:Same H1 H2):yg a T L B H H2:=fun q o e n1 n2 n3 n4=>s q o (r q o e n1 n2 n3 n4)
def Row (H:Hp) (x:Addr) (r:Str×Str×V):Prop:=∃d,H x=some s!"0{[.str r.1,.ref d]}"/\H d=some s!"0{[.str r.2.1,r.2.2]}"
def Rows (H:Hp) (l:Addr) (rs:List (Str×Str×V)):Prop:=∃xs:List Addr,H l=some s!"q{xs.map V.ref}"/\xs.length=rs.length/\∀(i:Nat) (x:Addr) (r:Str×Str×V),xs[i]? =some x->rs[i]? =some r->Row H x r
theorem zeK:∀{ws:List (Bool×Int)},(∀p∈ws,1<=p.2/\p.2.natAbs<10^60)->zjD s!"C8" ws
 | [],_=>⟨rfl,fun i p hp=>by simp at hp⟩
 | q::ws,h=>by
  obtain ⟨l,k⟩:=zeK (ws:=ws) fun p hp=>h p s!"Jf"
  refine ⟨by show s!"C8".length+1+1=2*(ws.length+1);omega,fun i p hp=>?_⟩
  match i,hp with
  | 0,hp=>
   cases hp;obtain ⟨h1,h2⟩:=h q (List.mem_cons_self ..);exact ⟨rfl,zx q.2,rfl,zO h2,zem (Nat.lt_trans h2 s!"c"),h1⟩
  | i+1,hp=>
   have:=k i p hp
   rwa [show 2*(i+1)=2*i+1+1 by omega]
def qsW (ws:List (Bool×Int)):List Str:=if ws=[] then [Str.ofString "none"] else flat ws
theorem zis (ws:List (Bool×Int)):Txt.join " " (qsW ws)=yp ws:=by
 unfold qsW;split
 ·rename_i e;subst e;decide+kernel
 ·rename_i e;rw [show yp ws=Txt.join " " s!"AX" from if_neg e]
  show Builtin.Str.glued _ _=Builtin.Str.glued _ _;rw [StrLaws.glued_eq_join,StrLaws.glued_eq_join,zb1]
structure WG (ws:List (Bool×Int)):Prop where
 pos:∀p∈ws,1<=p.2/\p.2.natAbs<10^60
 alt:Mth.Alt ws
theorem WG.rw (h:WG ws):RW s!"B9{" "}{qsW ws}" ws:=by
 rw [zis]
 by_cases e:ws=[]
 ·subst e;exact .inl ⟨rfl,rfl⟩
 ·refine .inr ⟨fun z=>?_,?_,h.alt⟩
  ·have k:=zdd e;rw [z] at k;have k2:s!"C8".length=1:=by
    rw [<-k];decide+kernel
   rw [zdc] at k2;omega
  ·rw [zdd e];exact zeK h.pos
theorem zq8 (b:Bool):Pc s!"CS":=by cases b <;> exact zhw s!"n" s!"n" s!"n"
theorem WG.pcs (h:WG ws):∀w∈qsW ws,Pc w:=by
 unfold qsW;split
 ·intro w hw;rw [List.mem_singleton.mp hw];exact zhw s!"n" s!"n" s!"n"
 ·have k:∀{ws:List (Bool×Int)},(∀p∈ws,1<=p.2/\p.2.natAbs<10^60)->∀w∈flat ws,Pc w:=by
   intro ws
   induction ws with
   | nil=>intro _ w hw;cases hw
   | cons p r ih=>
    intro h w hw;have hw:w∈ltr p.1::zx p.2::flat r:=hw;rcases List.mem_cons.mp hw with rfl | hw
    ·exact zq8 _
    rcases List.mem_cons.mp hw with rfl | hw
    ·exact wt (h p (List.mem_cons_self ..)).2
    ·exact ih (fun p hp=>h p s!"Jf") w hw
  exact k h.pos
theorem zjJ (hn:zh n=true) (h:WG ws) (b:Big ws) (g:xD s!"`"):Step st (Str.ofString "word"::n::qsW ws) "told" s!"o{zaU s!"`".1 s!"`".2.1 s!"`".2.2.1 s!"`".2.2.2}" ⟨zk st.f n s!"G#",st.dn++[(n,st.f n,some s!"`")],[]⟩:=
 .new (zeJ hn h.rw) s!"EH" rfl hn s!"u${⟨rfl,ws,h.rw,b,rfl⟩}" g
theorem zhz (hn:zh n=true) (h:WG ws) (b:Big ws) (hb:∀k∈[s!"`".1,s!"`".2.1,s!"`".2.2.1,s!"`".2.2.2],k.natAbs<10^190) (g:¬zZ s!"`"):Step st (Str.ofString "word"::n::qsW ws) "many" .non st:=
 .many (zeJ hn h.rw) s!"EH" rfl s!"u${⟨rfl,ws,h.rw,b,rfl⟩}" hb (fun z=>absurd s!"C.{z}" s!"c") g
theorem zoE (hm:f m≠none):zan f [Str.ofString "let",Str.ofString "NAME",Str.ofString "back",Str.ofString "KNOWN"] [Str.ofString "let",n,Str.ofString "back",m]:=fun j k h1 h2=>by
 match j,h1,h2 with
 | 0,h1,_=>exact absurd s!"A9" s!"c"
 | 1,h1,_=>exact absurd s!"A9" s!"c"
 | 2,h1,_=>exact absurd s!"A9" s!"c"
 | 3,_,h2=>cases h2;exact hm
 | _+4,h1,_=>cases h1
theorem zit {k:Str} (hm:f m≠none) (hk:f k≠none):zan f [Str.ofString "let",Str.ofString "NAME",Str.ofString "together",Str.ofString "KNOWN",Str.ofString "KNOWN"] [Str.ofString "let",n,Str.ofString "together",m,k]:=fun j k h1 h2=>by
 match j,h1,h2 with
 | 0,h1,_=>exact absurd s!"A9" s!"c"
 | 1,h1,_=>exact absurd s!"A9" s!"c"
 | 2,h1,_=>exact absurd s!"A9" s!"c"
 | 3,_,h2=>cases h2;exact hm
 | 4,_,h2=>cases h2;exact hk
 | _+5,h1,_=>cases h1
theorem zjK (hn:zh n=true) (hm:zh m=true) (hy:st.f m=some y) (g:xD (xp y)):Step st [Str.ofString "let",n,Str.ofString "back",m] "told" s!"o{zaU (xp y).1 (xp y).2.1 (xp y).2.2.1 (xp y).2.2.2}" ⟨zk st.f n s!"r{xp y}",st.dn++[(n,st.f n,some (xp y))],[]⟩:=
 .new (zaQ hn hm) (zoE (by rw [hy];exact fun z=>nomatch z)) rfl hn s!"uuu{⟨rfl,rfl,m,y,rfl,hy,rfl⟩}" g
theorem zms {k:Str} (hn:zh n=true) (hm:zh m=true) (hk:zh k=true) (hy:st.f m=some y) (hz:st.f k=some z) (g:xD s!"A?"):Step st [Str.ofString "let",n,Str.ofString "together",m,k] "told" s!"o{zaU s!"A?".1 s!"A?".2.1 s!"A?".2.2.1 s!"A?".2.2.2}" ⟨zk st.f n s!"rA?",st.dn++[(n,st.f n,some s!"A?")],[]⟩:=
 .new (zR hn hm hk) (zit (by rw [hy];exact fun z=>nomatch z) (by rw [hz];exact fun z=>nomatch z)) rfl hn s!"uu${⟨rfl,rfl,m,k,y,z,rfl,rfl,hy,hz,rfl⟩}" g
theorem mul_lt1 {a:Int} (ha:a.natAbs<10^60) (hb:b.natAbs<10^60) (hc:c.natAbs<10^60) (hd:d.natAbs<10^60):(a*b+c*d).natAbs<10^190:=by
 have h1:(a*b).natAbs<=10^60*10^60:=by rw [Int.natAbs_mul];exact Nat.mul_le_mul s!"B6{ha}" s!"B6BI"
 have h2:(c*d).natAbs<=10^60*10^60:=by rw [Int.natAbs_mul];exact Nat.mul_le_mul s!"B6{hc}" s!"B6{hd}"
 have h3:=Int.natAbs_add_le (a*b) (c*d);exact Nat.lt_of_le_of_lt s!"B7{h3}{Nat.add_le_add h1 h2}" s!"c"
theorem zmt (gy:zZ y) (gz:zZ z):∀k∈[s!"A?".1,s!"A?".2.1,s!"A?".2.2.1,s!"A?".2.2.2],k.natAbs<10^190:=by
 obtain ⟨a1,b1,c1,d1⟩:=gy;obtain ⟨a2,b2,c2,d2⟩:=gz;intro k hk;simp only [List.mem_cons,List.not_mem_nil,or_false] at hk;rcases hk with rfl | rfl | rfl | rfl <;> exact mul_lt1 (by assumption) (by assumption) (by assumption) (by assumption)
theorem zfN {k:Str} (hn:zh n=true) (hm:zh m=true) (hk:zh k=true) (hy:st.f m=some y) (hz:st.f k=some z) (gy:zZ y) (gz:zZ z) (g:¬zZ s!"A?"):Step st [Str.ofString "let",n,Str.ofString "together",m,k] "many" .non st:=
 .many (zR hn hm hk) (zit (by rw [hy];exact fun z=>nomatch z) (by rw [hz];exact fun z=>nomatch z)) rfl s!"uu${⟨rfl,rfl,m,k,y,z,rfl,rfl,hy,hz,rfl⟩}" (zmt gy gz) (fun z=>absurd s!"C.{z}" s!"c") g
theorem zhA {q1 q2 q3 q4:Str} (hn:zh n=true) (h1:zn q1=true) (h2:zn q2=true) (h3:zn q3=true) (h4:zn q4=true) (hf:zbH s!"B9{" "}{[q1,q2,q3,q4]}" x.1 x.2.1 x.2.2.1 x.2.2.2) (g:xD x):Step st [Str.ofString "table",n,q1,q2,q3,q4] "told" s!"o{zaU x.1 x.2.1 x.2.2.1 x.2.2.2}" ⟨zk st.f n s!"CA",st.dn++[(n,st.f n,some x)],[]⟩:=
 .new s!"Jg" s!"EH" rfl hn s!"${⟨rfl,hf⟩}" g
theorem zjL {q1 q2 q3 q4:Str} (hn:zh n=true) (h1:zn q1=true) (h2:zn q2=true) (h3:zn q3=true) (h4:zn q4=true) (hf:zbH s!"B9{" "}{[q1,q2,q3,q4]}" x.1 x.2.1 x.2.2.1 x.2.2.2) (hb:∀k∈[x.1,x.2.1,x.2.2.1,x.2.2.2],k.natAbs<10^190) (g:zbJ x≠1):Step st [Str.ofString "table",n,q1,q2,q3,q4] "table" .non st:=
 .table s!"Jg" s!"EH" rfl s!"${⟨rfl,hf⟩}" hb rfl g
theorem zoF (hn:zh n=true) (hm:zh m=true) (hy:st.f m=none):Step st [Str.ofString "let",n,Str.ofString "back",m] "name" s!"o{m}" st:=
 .name (zaQ hn hm) ⟨3,rfl,rfl,hy,fun j hj k h1 h2=>by
  match j,h1 with
  | 0,h1=>exact absurd s!"A9" s!"c"
  | 1,h1=>exact absurd s!"A9" s!"c"
  | 2,h1=>exact absurd s!"A9" s!"c"
  | _+3,_=>omega⟩
theorem zoG {k:Str} (hn:zh n=true) (hm:zh m=true) (hk:zh k=true) (hy:st.f m=none):Step st [Str.ofString "let",n,Str.ofString "together",m,k] "name" s!"o{m}" st:=
 .name (zR hn hm hk) ⟨3,rfl,rfl,hy,fun j hj k h1 h2=>by
  match j,h1 with
  | 0,h1=>exact absurd s!"A9" s!"c"
  | 1,h1=>exact absurd s!"A9" s!"c"
  | 2,h1=>exact absurd s!"A9" s!"c"
  | _+3,_=>omega⟩
theorem zoH {k:Str} (hn:zh n=true) (hm:zh m=true) (hk:zh k=true) (hx:st.f m≠none) (hy:st.f k=none):Step st [Str.ofString "let",n,Str.ofString "together",m,k] "name" s!"o{k}" st:=
 .name (zR hn hm hk) ⟨4,rfl,rfl,hy,fun j hj k h1 h2=>by
  match j,h1,h2 with
  | 0,h1,_=>exact absurd s!"A9" s!"c"
  | 1,h1,_=>exact absurd s!"A9" s!"c"
  | 2,h1,_=>exact absurd s!"A9" s!"c"
  | 3,_,h2=>cases h2;exact hx
  | _+4,_,_=>omega⟩
theorem zoI (hm:zh m=true) (hy:st.f m=none):Step st [Str.ofString "drop",m] "name" s!"o{m}" st:=
 .name (zav hm) ⟨1,rfl,rfl,hy,fun j hj k h1 h2=>by
  obtain rfl:j=0:=by omega
  exact absurd (Option.some.inj h1) (by decide)⟩
structure PcL (ws:List Str):Prop where
 ne:ws≠[]
 len:ws.length<=14
 pc:∀w∈ws,Pc w
theorem Pc.one {w:Str} (h:Pc w):PcL [w]:=⟨by simp,by simp,fun x hx=>by rw [List.mem_singleton.mp hx];exact h⟩
theorem PcL.cons {w:Str} {ws:List Str} (h:Pc w) (k:PcL ws) (l:ws.length<=13):PcL (w::ws):=⟨by simp,by simp;omega,fun x hx=>(List.mem_cons.mp hx).elim (fun e=>e▸h) (k.pc x)⟩
def pcB (w:Str):Bool:=w.cps.all (·<128) && decide (w.length<=62) && decide (32∉w.cps.toList)
theorem pc_B {w:Str} (h:pcB w=true):Pc w:=by
 unfold pcB at h;rw [Bool.and_eq_true,Bool.and_eq_true,decide_eq_true_eq,decide_eq_true_eq] at h;exact zhw h.1.1 h.1.2 h.2
theorem j1 (a b:Str) (r:List Str):Txt.join " " (a::b::r)=a++Str.ofString " "++Txt.join " " (b::r):=by
 rw [zfE,zfE];rfl
theorem j0 (a:Str):Txt.join " " [a]=a:=by
 rw [zfE];rfl
inductive LineOk (k:Int) (n1 n2 n3:Str):List Str->List Str->Option Tb->Prop where
 | word {ws:List (Bool×Int)} (hk:k<3) (g:WG ws) (b:Big ws) (hb:∀j∈[s!"`".1,s!"`".2.1,s!"`".2.2.1,s!"`".2.2.2],j.natAbs<10^190):LineOk k n1 n2 n3 (Str.ofString "word"::n1::qsW ws) [] s!"G#"
 | mul (h3:3<=k) (h5:k<5):LineOk k n1 n2 n3 [Str.ofString "let",n1,Str.ofString "together",n2,n3] [n2,n3] none
 | back (h5:5<=k) (h7:k<7):LineOk k n1 n2 n3 [Str.ofString "let",n1,Str.ofString "back",n2] [n2] none
 | drop (hk:k=7):LineOk k n1 n2 n3 [Str.ofString "drop",n1] [n1] none
 | tab {a b c d:Int} (hk:k=8) (hs:zZ (a,b,c,d)):LineOk k n1 n2 n3 [Str.ofString "table",n1,zx a,zx b,zx c,zx d] [] s!"r{(a,b,c,d)}"
theorem zoJ (ws:List (Bool×Int)):∃c r,qsW ws=c::r:=by
 cases ws with
 | nil=>exact ⟨_,_,rfl⟩
 | cons p r=>exact ⟨ltr p.1,zx p.2::flat r,rfl⟩
theorem zjM (ok:WOk ws) (al:Mth.Alt ws) (hn:zh n=true):WG ws/\s!"E9".length<=600/\Tx (Str.ofString "word "++n++Str.ofString " "++yp ws)/\Txt.split (Str.ofString "word "++n++Str.ofString " "++yp ws) " "=Str.ofString "word"::n::qsW ws:=by
 have g:WG ws:=⟨fun p hp=>by rcases ok with ⟨_,h⟩ | ⟨_,h⟩ <;> have:=h p hp <;> omega,al⟩
 have e:Str.ofString "word "++n++Str.ofString " "++yp ws=Txt.join " " (Str.ofString "word"::n::qsW ws):=by
  obtain ⟨c,r,e⟩:=zoJ ws;rw [<-zis,e,j1,j1,show Str.ofString "word "=Str.ofString "word"++Str.ofString " " by decide+kernel]
  simp only [Str.append_assoc]
 have pcs:∀w∈Str.ofString "word"::n::qsW ws,Pc w:=fun w hw=>by
  rcases List.mem_cons.mp hw with rfl | hw
  ·exact pc_B s!"n"
  rcases List.mem_cons.mp hw with rfl | hw
  ·exact zbM hn
  ·exact g.pcs w hw
 have l0:s!"E9".length<=600:=by
  rcases ok with ⟨hl,h⟩ | ⟨hl,h⟩
  ·exact Nat.le_trans (zgd (k:=22) hl fun p hp=>xg s!"c" (by have:=h p hp;omega)) s!"c"
  ·exact Nat.le_trans (zgd (k:=2) hl fun p hp=>xg s!"c" (by have:=h p hp;omega)) s!"c"
 refine ⟨g,l0,⟨by rw [e];exact Asc.join zg8 fun w hw=>(pcs w hw).1,?_⟩,?_⟩
 ·exact Nat.le_trans (zcM (zcM (zcM (i:=5) s!"n" (zao hn)) (j:=1) s!"n") l0) s!"c"
 ·rw [e,zaB];exact zaS s!"j" fun w hw=>(pcs w hw).2.2
theorem WOk.pr (h:WOk ws):Mth.pr ws<10^130/\ws.length<=100/\∀p∈ws,1<=p.2:=by
 rcases h with ⟨h1,h2⟩ | ⟨h1,h2⟩
 ·have a:=Mth.zhl (show (0:Int)<=10^20+1 by decide) h2
  have b:=Mth.zdh (show (0:Int)<=10^20+1 by decide) (i:=ws.length) (6-ws.length)
  rw [show ws.length+(6-ws.length)=6 by omega] at b
  exact ⟨Int.lt_of_le_of_lt s!"Jh" s!"c",by omega,fun p hp=>(h2 p hp).1⟩
 ·have a:=Mth.zhl (show (0:Int)<=3 by decide) h2
  have b:=Mth.zdh (show (0:Int)<=3 by decide) (i:=ws.length) (56-ws.length)
  rw [show ws.length+(56-ws.length)=56 by omega] at b
  exact ⟨Int.lt_of_le_of_lt s!"Jh" s!"c",by omega,fun p hp=>(h2 p hp).1⟩
theorem zq9 {fs:List Int} {a e f:Int} (h:zfI fs [a,b,c,d,e,f]):∃x y z u v w:Int,fs=[x,y,z,u,v,w]/\(0<=w/\w<f):=by
 obtain ⟨hl,hd⟩:=h;obtain _ | ⟨x,_ | ⟨y,_ | ⟨z,_ | ⟨u,_ | ⟨v,_ | ⟨w,_ | _⟩⟩⟩⟩⟩⟩:=fs <;> simp at hl
 exact ⟨x,y,z,u,v,w,rfl,hd 5 _ _ rfl rfl⟩
def zmu (K:PySem.W.Frag):Sp:=fun vs H Q _=>∃(l:Addr) (c p k:Int) (n1 n2 n3:Str),vs=[.ref l,.int c,.int p]/\SqL K H l [.int k,.str n1,.str n2,.str n3]/\Plan k n1 n2 n3/\k<=8/\0<p/\∀r H' t nl ns v m,Same H H'->H' r=some s!"0{[.str t,.ref nl,v]}"->H' nl=some s!"D|"->za6 H' v m->Tx t->LineOk k n1 n2 n3 s!"Bb" ns m->Q s!"Al" H'
theorem zfO (F:Src K mg "_law_line" zaj ["_law_plan_here","_law_cell_here","_law_prime"]) (B:Blt mg) (C:Cls K mg base) (R:Rel K mg base C) (Kc:Cst K mg) (D__law_spare:s!"m{1}{"_law_spare"}{["_law_cell_here","_law_width"]}{zir}") (D__law_word:s!"m{3}{"_law_word"}{["_law_cell_here","_law_prime"]}{zin}") (D__law_runs:s!"m{1}{"_law_runs"}{["_law_word_here"]}{zmn}") (D__law_table:s!"m{1}{"_law_table"}{["_law_word_here"]}{zmm}") (D__law_draws:s!"m{2}{"_law_draws"}{["_law_cell_here","_law_widths","_law_prime"]}DW") (D__law_shown:s!"m{1}{"_law_shown"}{["_law_table_here"]}{zio}"):Def P w K mg base s!"v" 4 "_law_line" ["_law_plan_here","_law_cell_here","_law_prime"] (zmu K):=by
 refine F.ok (CX:=CXE P w) (k:=3) zbG s!"x" s!"1"
 ·obtain ⟨_,_,_,_,_,_,_,rfl,_⟩:=h;rfl
 have nd:=zbG.nd;obtain ⟨l,c,p,k,n1,n2,n3,rfl,hl,P,k8,hp,q⟩:=h;obtain ⟨k0,k12,i1,i2,i3⟩:=P;have z1:=zao i1;have z2:=zao i2;have z3:=zao i3;have fin:∀{r H' t nl v m} (ws:List Str) (ns:List Str),Same H H'->H' r=some s!"0{[.str t,.ref nl,v]}"->H' nl=some s!"D|"->za6 H' v m->t=Txt.join " " ws->PcL ws->LineOk k n1 n2 n3 ws ns m->Q s!"Al" H':=fun {r H' t nl v m} ws ns s e1 e2 h3 ht pl ok=>by
  obtain ⟨tx,sp⟩:=zmj pl.ne pl.len pl.pc;rw [<-ht] at tx sp;exact q r H' t nl ns v m s e1 e2 h3 tx (sp.symm▸ok)
 refine ⟨_,s!"dA^y{@zg3 _ _ _ _ _ _ rfl s!"2{@pg_name _ _ 3 _ nd rfl s!"Ag" (by walk_at "lo")}2AJ2Cc2DFAb" (by rfl) (by rfl)}d5DGdz{7}k{D__law_word};bk{D__law_spare};b*BaAYep3bgBNJikHd;DHbB'bk{D__law_table};DHfd5DGep3bgBNgBNJj=A%bA1bA)bA%fEAd5DGep3bJjbA1D`EAd5Jkep3bgBN=<bA1A=EAdz{8}kDX;b*bA1blblblblblbEEfAYdA^3b3blbgA:{@pe_ix _ _ _ _ _ _ _ ix_A s!"B[" pe_int (fun _ _=>rfl)}g^l{@pe_powc _ _ 7 _ _ _ _ _ s!"c" s!"c"}fIZAm2Am2EF2{@pg_name _ _ 10 _ nd rfl s!"Ag" (by walk_at "lo")}Ab2Am2{@pg_name _ _ 11 _ nd rfl s!"Ag" (by walk_at "lo")}2{@pg_name _ _ 12 _ nd rfl s!"Ag" (by walk_at "lo")}AbAbAA5JleA^3b3I2b3blb{@pe_ix _ _ _ _ _ _ _ ix_A s!"B[" pe_int (fun _ _=>rfl)}ffAm2Am2EF2{@pg_name _ _ 10 _ nd rfl s!"Ag" (by walk_at "lo")}Ab2Am2{@pg_name _ _ 11 _ nd rfl s!"Ag" (by walk_at "lo")}2{@pg_name _ _ 12 _ nd rfl s!"Ag" (by walk_at "lo")}AbAbAA5Jlez{12}lep3bgBNJikFq;JmbB'Jm",?_⟩
 walk_at "ds";refine zc [some s!"~",some s!"A>",some s!"Bd",none,none,none,none,none,none,none,none,none,none] rfl ?_;left;refine ze0 hl rfl ?_;left;walk_at "ite"
 ·left;refine ⟨_,_,rfl,s!"c",s!"c",fun c'=>?_⟩
  left;refine ⟨_,_,rfl,hp,fun D H1 ws s1 W ok al=>?_⟩
  obtain ⟨g,l6,tx,sp⟩:=zjM ok al i1;obtain ⟨hpr,hlen,hpos⟩:=ok.pr;have hB:=Mth.zqV hpos;obtain ⟨w1,w2,w3,w4⟩:=Mth.zdi hpos;have big:Big ws:=⟨by have:=hB.a1;omega,by have:=hB.b1;omega,by have:=hB.c1;omega,by have:=hB.d1;omega⟩
  left;refine ⟨_,_,rfl,W,by omega,(fun p hp=>upS (g.pos p hp).2 s!"c"),fun H2 s2=>?_⟩
  left;rename_i nl H3 s3 n3' e3;refine ⟨_,_,rfl,W.same s!"B@",hpos,by omega,big,fun r3 H4 s4 T4=>?_⟩
  left;rename_i r H5 s5 n5 e5;obtain ⟨b1,b2,b3,b4⟩:=big;have hb:∀j∈[s!"`".1,s!"`".2.1,s!"`".2.2.1,s!"`".2.2.2],j.natAbs<10^190:=fun j hj=>by
   simp only [List.mem_cons,List.not_mem_nil,or_false] at hj;rcases hj with rfl | rfl | rfl | rfl <;> omega
  exact q r H5 _ nl [] _ s!"G#" (s1.trans (s2.trans s!"Ce")) e5 (s!"C&".obj e3) ⟨r3,rfl,T4.same s5⟩ tx (by rw [sp];exact .word (by assumption) g ⟨b1,b2,b3,b4⟩ hb)
 left;walk_at "ite"
 ·left;rename_i nl H1 s1 m1 e1 r H2 s2 m2 e2;refine fin (m:=none) _ [n2,n3] s!"At" e2 s!"E'" rfl ?_ s!"A_DhA_FrA_DhA_{zbM i2}{(zbM i3).one}" (.mul s!"a" (by assumption))
  rw [j1,j1,j1,j1,j0,show Str.ofString "let "=Str.ofString "let"++Str.ofString " " by decide+kernel,show Str.ofString " together "=Str.ofString " "++Str.ofString "together"++Str.ofString " " by decide+kernel]
  simp only [Str.append_assoc]
 left;walk_at "ite"
 ·left;rename_i nl H1 s1 m1 e1 r H2 s2 m2 e2;refine fin (m:=none) _ [n2] s!"At" e2 s!"E'" rfl ?_ s!"A_DhA_FrA_Dh{(zbM i2).one}" (.back s!"a" (by assumption))
  rw [j1,j1,j1,j0,show Str.ofString "let "=Str.ofString "let"++Str.ofString " " by decide+kernel,show Str.ofString " back "=Str.ofString " "++Str.ofString "back"++Str.ofString " " by decide+kernel]
  simp only [Str.append_assoc]
 left;walk_at "ite"
 ·left;rename_i nl H1 s1 m1 e1 r H2 s2 m2 e2;refine fin (m:=none) _ [n1] s!"At" e2 s!"E'" rfl ?_ s!"A_Dh{(zbM i1).one}" (.drop (by assumption))
  rw [j1,j0,show Str.ofString "drop "=Str.ofString "drop"++Str.ofString " " by decide+kernel]
 left;rename_i p0 H0 s0 m0 e0;refine zay [12,7,7,7,3,10^8] (by walk_at "h") s!"c" s!"c" hp fun r1 H1 fs s1 m1 e1 dr=>?_
 obtain ⟨d0,d1,d2,d3,d4,d5,rfl,b5⟩:=zq9 dr;clear dr;left;rename_i p2 H2 s2 m2 e2 p3 H3 s3 m3 e3 p4 H4 s4 m4 e4;have s04:=s0.trans (s1.trans s!"Jn");have e1':=s!"Jn".obj e1;refine zr (fun σ H'=>Same H H'/\H' r1=some s!"q{([d0,d1,d2,d3,d4,d5].map V.int)}"/\∃a b c' d:Int,σ=[some s!"~",some s!"A>",some s!"Bd",some s!"Bx",some s!"EI",some s!"EJ",some s!"EK",none,some s!"4{r1}",some s!"AE",some s!"CX",some s!"!{c'}",some s!"!{d}"]/\zZ (a,b,c',d)) ?_ ?_
 ·walk_at "rdi"
  ·rename_i p5 H5 s5 m5 e5 p6 H6 s6 m6 e6 p7 H7 s7 m7 e7;exact ⟨s04.trans s!"G$",s!"G$".obj e1',_,_,_,_,rfl,by dsimp only [zZ];omega⟩
  ·exact ⟨s04,e1',_,_,_,_,rfl,by dsimp only [zZ];omega⟩
 rintro σ' H5 ⟨s5,e5,a,b,c',d,rfl,sh⟩;left;refine zr (fun σ H'=>Same H H'/\∃a b c' d:Int,σ=[some s!"~",some s!"A>",some s!"Bd",some s!"Bx",some s!"EI",some s!"EJ",some s!"EK",none,some s!"4{r1}",some s!"AE",some s!"CX",some s!"!{c'}",some s!"!{d}"]/\zZ (a,b,c',d)) ?_ ?_
 ·obtain ⟨h1,h2,h3,h4⟩:=sh;walk_at "rdi"
  ·exact ⟨s5,_,_,_,_,rfl,h1,h2,h3,show (2:Int).natAbs<10^60 by decide⟩
  ·exact ⟨s5,_,_,_,_,rfl,h1,h2,h3,h4⟩
 clear e5 s5 sh e1 e1' s04 s4 s3 s2 s1 s0 e2 e3 e4 e0;rintro σ' H5 ⟨s5,a,b,c',d,rfl,sh⟩;obtain ⟨h1,h2,h3,h4⟩:=sh;dsimp only at h1 h2 h3 h4;left;rename_i p2 H2 s2 m2 e2 p3 H3 s3 m3 e3 p4 H4 s4 m4 e4;have pl:PcL [Str.ofString "table",n1,zx a,zx b,zx c',zx d]:=PcL.cons s!"Dh" s!"A_FrA_{wt h1}A_{wt h2}A_{wt h3}{(wt h4).one}" s!"j"
 have tl:(zaU a b c' d).length<=252:=wQ (m:=1) (k:=62) (n:=4) s!"n" s!"j" fun w hw=>(pl.pc w s!"G;D&").2.1
 refine ⟨_,_,_,_,_,rfl,⟨p2,p3,e4,s!"C%".obj e2,s4.obj e3⟩,s!"Ck{h1}",s!"Ck{h2}",s!"Ck{h3}",s!"Ck{h4}",fun H6 s6=>?_⟩
 left;rename_i nl H7 s7 m7 e7 p8 H8 s8 m8 e8 p9 H9 s9 m9 e9 p10 H10 s10 m10 e10 r H11 s11 m11 e11;refine fin (m:=some (a,b,c',d)) _ [] s!"DP{s2.trans (s3.trans (s4.trans s!"EX{s7.trans s!"Jo"}"))}" e11 (s!"Jo".obj e7) ⟨p10,rfl,p8,p9,s11.obj e10,(s9.trans (s10.trans s11)).obj e8,(s10.trans s11).obj e9⟩ ?_ pl (.tab s!"a" ⟨h1,h2,h3,h4⟩)
 rw [j1,j1,show Str.ofString "table "=Str.ofString "table"++Str.ofString " " by decide+kernel]
 unfold zaU;simp only [Str.append_assoc]
structure MapOk (f:Str->Option Tb):Prop where
 good:∀n x,f n=some x->xD x
 few:Few f
 len:∀n,f n≠none->n.length<=8
def Tbl (f:Str->Option Tb) (k:Int) (n2 n3:Str) (m:Option Tb) (x:Tb):Prop:=((k<3\/7<k)/\m=some x)\/(3<=k/\k<5/\∃y z,f n2=some y/\f n3=some z/\x=wE y z)\/(5<=k/\k<7/\∃y,f n2=some y/\x=xp y)
inductive After (f:Str->Option Tb) (k:Int) (n1 n2 n3:Str) (m:Option Tb):Str->V->(Str->Option Tb)->Prop where
 | drop {t:Str} (hk:k=7) (ht:NmT (zk f n1 none) t):After f k n1 n2 n3 m "told" s!"|" (zk f n1 none)
 | bad {x:Tb} (hk:7<k) (hx:m=some x) (hd:zbJ x≠1):After f k n1 n2 n3 m "table" .non f
 | many {x:Tb} (hx:Tbl f k n2 n3 m x) (hd:k<7\/zbJ x=1) (hs:¬zZ x):After f k n1 n2 n3 m "many" .non f
 | new {x:Tb} (hx:Tbl f k n2 n3 m x) (hd:k<7\/zbJ x=1) (hs:zZ x):After f k n1 n2 n3 m "told" s!"o{zaU x.1 x.2.1 x.2.2.1 x.2.2.2}" (zk f n1 s!"CA")
structure PreA (K:PySem.W.Frag) (H:Hp) (d l:Addr) (v:V) (f:Str->Option Tb) (k:Int) (n1 n2 n3:Str) (m:Option Tb):Prop where
 D:zM H d f
 M:MapOk f
 P:SqL K H l [.int k,.str n1,.str n2,.str n3]
 k0:0<=k
 k8:k<=8
 hv:za6 H v m
 hb:∀x,m=some x->∀n∈[x.1,x.2.1,x.2.2.1,x.2.2.2],n.natAbs<10^190
 hm:k<3\/7<k->m≠none
 h2:3<=k->k<7->f n2≠none
 h3:3<=k->k<5->f n3≠none
 h1:k=7->f n1≠none
def zpG (H0:Hp) (d0:Addr) (H:Hp) (r:Addr) (w:Str) (u:V) (f:Str->Option Tb):Prop:=∃e d,H r=some s!"0{[.ref e,.ref d]}"/\H e=some s!"0{[.str w,u]}"/\zM H d f/\(d=d0\/H0 d=none)
def ziu (K:PySem.W.Frag):Sp:=fun vs H Q _=>∃(d l:Addr) (v:V) (f:Str->Option Tb) (k:Int) (n1 n2 n3:Str) (m:Option Tb),vs=[.ref d,.ref l,v]/\PreA K H d l v f k n1 n2 n3 m/\∀r H' w u f',Same H H'->zpG H d H' r w u f'->After f k n1 n2 n3 m w u f'->Q s!"Al" H'
theorem zM.same {d:Addr} (h:zM H d f) (s:Same H H'):zM H' d f:=by
 obtain ⟨kvs,e,kv⟩:=h;exact ⟨kvs,s.obj e,kv.move fun t x T=>T.move fun q xs e=>s.obj e⟩
theorem zM.upd {d:Addr} {kws:List (Key×V)} (e:H d=some s!":") (kv:KvOk H kws g) (h:H'=L2.upd H d (.dK kws)):zM H' d g:=by
 subst h;refine ⟨kws,zb,kv.move fun t x T=>T.move fun q xs z=>?_⟩
 rw [zd fun y=>by rw [y,e] at z;cases z]
 exact z
theorem zdP (F:Src K mg "_law_after" wp ["_law_state","_law_plan_here","_law_made"]) (B:Blt mg) (C:Cls K mg base) (R:Rel K mg base C) (Kc:Cst K mg) (D__law_names:s!"m{1}{"_law_names"}{["_law_state"]}{ziq}") (D__law_product:s!"m{1}{"_law_product"}{["_law_one","_law_two"]}{zsK}") (D__law_backward:s!"m{1}{"_law_backward"}{["_law_table_here"]}{zsL}") (D__law_shown:s!"m{1}{"_law_shown"}{["_law_table_here"]}{zio}"):Def P w K mg base s!"v" 2 "_law_after" ["_law_state","_law_plan_here","_law_made"] (ziu K):=by
 refine F.ok (CX:=CXE P w) (k:=1) zaM s!"x" s!"1"
 ·obtain ⟨_,_,_,_,_,_,_,_,_,rfl,_⟩:=h;rfl
 have nd:=zaM.nd;obtain ⟨d,l,v,f,k,n1,n2,n3,m,rfl,A0,q⟩:=h;obtain ⟨⟨kvs,ek,kv⟩,M,hP,k0,k8,hv,hb,hm,h2,h3,h1⟩:=A0;have kl:kvs.length<sizeLine:=by
  obtain ⟨ns,e,nd,mem⟩:=kv.names;have h1:=M.few ns nd fun n hn=>s!"De".mp hn
  have h2:=congrArg List.length e;rw [List.length_map,List.length_map] at h2;exact zf s!"a"
 refine ⟨_,s!"dA^*{@zg3 _ _ _ _ _ _ rfl s!"2{@pg_name _ _ 3 _ nd rfl s!"Ag" (by walk_at "lo")}2AJ2Cc2DFAb" (by rfl) (by rfl)}dz{7}Bg{zhf}{B.dict}{PyProof.Rows.boot_dict}Akd5Jkd@{@zf3 _ _ _ _ _ _ _ s!"Be" s!"<" ⟨rfl,rfl,rfl,rfl⟩}ep3b3b=bkFs;DHfDHdz{8}[AA5Bk{@zeN _ _ _ _ _ _ _ s!"_B&?l" (@zcH _ _ _ _ s!"DG")}ez{8}k{D__law_product};bDmyA)bDmyA%fAA5Bk{@zeN _ _ _ _ _ _ _ s!"_B&?l" (@zcH _ _ _ _ s!"DG")}ez{8}k{D__law_backward};bDmyA)fd5Bk{@zeN _ _ _ _ _ _ _ s!"_B&?l" (@zcH _ _ _ _ s!"_D'gA:JpJpl")}ep3bDIAkd5_DRAc{zjs rfl}{B.max}HebBfClBDJqB5Jq{fun pins cl ex s H=>s!"Iy"}fI~ep3bDIAkd{@ps_dput _ _ _ _ _ _ _ _ _ hr.units2 s!"Be" s!"<" s!"B[" rfl}ep3b3b=bkFq;bB[ffDH",?_⟩
 walk_at "ds";refine zc [some s!"A,",some s!"~",some v,none,none,none,none,none,none] rfl ?_;left;refine ze0 hP rfl ?_;left;rename_i p H1 s1 np e1;have kv1:KvOk H1 kvs f:=kv.move fun t x T=>T.move fun q xs e=>s1.obj e
 walk_at "ite"
 ·rename_i c;left;obtain ⟨x,hx⟩:∃x,f n1=some x:=Option.ne_none_iff_exists'.mp (h1 c);obtain ⟨t,hvt,_⟩:=kv1.vals n1 x hx;refine zes e1 hvt ?_;left;have le:∀n,zk f n1 none n≠none->f n≠none:=fun n hn=>by
   unfold zk at hn;split at hn
   ·exact absurd rfl hn
   ·exact hn
  refine ⟨_,zk f n1 none,rfl,zM.upd e1 kv1.drop rfl,fun ns nd h=>M.few ns nd fun n hn=>le n (h n hn),(fun n hn=>Nat.le_trans (M.len n (le n hn)) s!"c"),fun t H3 s3 ht=>?_⟩
  left;rename_i e H4 s4 n4 e4 r H5 s5 n5 e5;exact q r H5 _ _ _ ((s1.upd np).trans s!"Ce") ⟨e,p,e5,s5.obj e4,(zM.upd e1 kv1.drop rfl).same s!"Ce",.inr np⟩ (.drop c ht)
 ·rename_i c;left;refine zr (fun σ H'=>Same H H'/\H' p=some s!":"/\∃v1,σ=[some s!"A,",some s!"~",some v,some s!"Bx",some s!"EI",some s!"EJ",some s!"EK",some s!")",some v1]/\(3<=k/\k<5->∃t y z,v1=.ref t/\wD H' t s!"A?"/\f n2=some y/\f n3=some z)/\(¬(3<=k/\k<5)->v1=v)) ?_ ?_
  ·walk_at "rdi"
   ·obtain ⟨y,hy⟩:=Option.ne_none_iff_exists'.mp s!"Jr"
    obtain ⟨z,hz⟩:=Option.ne_none_iff_exists'.mp (h3 s!"a" s!"a")
    obtain ⟨ty,vy,Ty⟩:=kv1.vals n2 y hy;obtain ⟨tz,vz,Tz⟩:=kv1.vals n3 z hz;have by_:=s!"G%".2;have bz_:=(M.good n3 z hz).2;refine yk s!"B8{ek}" vy ?_;left;refine yk s!"B8{ek}" vz ?_;left;refine ⟨_,_,_,_,_,_,_,_,_,_,rfl,Ty,Tz,⟨up190 by_.1,up190 by_.2.1,up190 by_.2.2.1,up190 by_.2.2.2⟩,⟨up190 bz_.1,up190 bz_.2.1,up190 bz_.2.2.1,up190 bz_.2.2.2⟩,fun t H2 s2 T2=>?_⟩
    left;exact ⟨s1.trans s2,s2.obj e1,_,rfl,fun _=>⟨t,y,z,rfl,T2,hy,hz⟩,fun w=>absurd ⟨by omega,by omega⟩ w⟩
   ·exact ⟨s1,e1,_,rfl,fun w=>absurd w s!"a",fun _=>rfl⟩
   ·exact ⟨s1,e1,_,rfl,fun w=>absurd w s!"a",fun _=>rfl⟩
  ·rintro σ' H2 ⟨s2,e2,v1,rfl,a1,a2⟩;have kv2:KvOk H2 kvs f:=kv.move fun t x T=>T.move fun q xs e=>s2.obj e
   left;refine zr (fun σ H'=>Same H H'/\H' p=some s!":"/\∃t x,σ=[some s!"A,",some s!"~",some v,some s!"Bx",some s!"EI",some s!"EJ",some s!"EK",some s!")",some s!">"]/\wD H' t x/\Tbl f k n2 n3 m x/\∀n∈[x.1,x.2.1,x.2.2.1,x.2.2.2],n.natAbs<10^190) ?_ ?_
   ·have fin:¬(5<=k/\k<7)->∃t x,v1=.ref t/\wD H2 t x/\Tbl f k n2 n3 m x/\∀n∈[x.1,x.2.1,x.2.2.1,x.2.2.2],n.natAbs<10^190:=fun w5=>by
     by_cases w:3<=k/\k<5
     ·obtain ⟨t,y,z,rfl,T,hy,hz⟩:=a1 w;exact ⟨t,wE y z,rfl,T,.inr s!"${⟨w.1,w.2,y,z,hy,hz,rfl⟩}",zmt s!"G%".2 (M.good n3 z hz).2⟩
     ·obtain rfl:=a2 w;obtain ⟨x,rfl⟩:=Option.ne_none_iff_exists'.mp (hm s!"a")
      obtain ⟨t,rfl,T⟩:=hv;exact ⟨t,x,rfl,T.move fun q xs e=>s2.obj e,.inl ⟨by omega,rfl⟩,hb x rfl⟩
    walk_at "rdi"
    ·obtain ⟨y,hy⟩:=Option.ne_none_iff_exists'.mp s!"Jr"
     obtain ⟨ty,vy,Ty⟩:=kv2.vals n2 y hy;have by_:=s!"G%".2;refine yk s!"Cn{ek}" vy ?_;left;refine ⟨_,_,_,_,_,rfl,Ty,fun t H3 s3 T3=>?_⟩
     left;rw [Int.zero_sub,Int.zero_sub] at T3;refine ⟨s2.trans s3,s3.obj e2,t,xp y,rfl,T3,.inr s!"u{⟨by omega,by omega,y,hy,rfl⟩}",fun n hn=>?_⟩
     simp only [xp,List.mem_cons,List.not_mem_nil,or_false] at hn;rcases hn with rfl | rfl | rfl | rfl <;> (try rw [Int.natAbs_neg]) <;> first | exact up190 by_.1 | exact up190 by_.2.1 | exact up190 by_.2.2.1 | exact up190 by_.2.2.2
    ·obtain ⟨t,x,rfl,T,tb,bb⟩:=fin s!"a"
     exact ⟨s2,e2,t,x,rfl,T,tb,bb⟩
    ·obtain ⟨t,x,rfl,T,tb,bb⟩:=fin s!"a"
     exact ⟨s2,e2,t,x,rfl,T,tb,bb⟩
   ·rintro σ' H3 ⟨s3,e3,t,x,rfl,T,tb,bb⟩;obtain ⟨r1,r2,t1,t2,t3⟩:=T;obtain ⟨xa,xb,xc,xd⟩:=x
    replace t2:H3 r1=some s!"0{[.int xa,.int xb]}":=t2
    replace t3:H3 r2=some s!"0{[.int xc,.int xd]}":=t3
    have b1:=bb xa s!"j"
    have b2:=bb xb s!"j"
    have b3:=bb xc s!"j"
    have b4:=bb xd s!"j"
    have D0:zM H d f:=⟨kvs,ek,kv⟩;walk_at "rdi"
    ·rename_i g1 g2 e H4 s4 n4 e4 r H5 s5 n5 e5;have hx:m=some (xa,xb,xc,xd):=by
      rcases tb with ⟨_,hx⟩ | ⟨_,z,_⟩ | ⟨_,z,_⟩
      ·exact hx
      ·omega
      ·omega
     exact q r H5 _ _ f s!"Ce" ⟨e,d,e5,s5.obj e4,D0.same s!"Ce",.inl rfl⟩ (.bad s!"a" hx g2)
    all_goals
     have hdt:k<7\/zbJ (xa,xb,xc,xd)=1:=by first | exact .inl s!"a" | exact .inr (by assumption)
     refine zcZ ?_;left;refine zbf t2 t3 (show 2+2<=1000 by decide) fun u H4 s4 e4=>?_
     left;refine ziO (fun v=>match v with | .int i=>.int i.natAbs | v=>v) (SqT.of (xs:=[xa,xb,xc,xd].map V.int) e4) (by show 4<=1000;decide) (fun y H' Q' hy hQ=>?_) fun D5 H5 s5 n5 e5=>?_
     ·obtain ⟨i,hi,rfl⟩:=List.mem_map.mp hy;left;rename_i z hz;rw [hz];exact hQ
     left;refine zok (ns:=[(xa.natAbs:Int),xb.natAbs,xc.natAbs,xd.natAbs]) s!"Ad{e5}" (by show 0<4;decide) fun mx mem le=>?_
     have l1:=le xa.natAbs s!"j"
     have l2:=le xb.natAbs s!"j"
     have l3:=le xc.natAbs s!"j"
     have l4:=le xd.natAbs s!"j"
     simp only [List.mem_cons,List.not_mem_nil,or_false] at mem;have s35:=s3.trans s!"C&";have big:((10^60:Nat):Int)=10^60:=rfl;walk_at "rdi"
     ·rename_i g e H6 s6 n6 e6 r H7 s7 n7 e7;exact q r H7 _ _ f (s35.trans (s6.trans s7)) ⟨e,d,e7,s7.obj e6,D0.same (s35.trans (s6.trans s7)),.inl rfl⟩ (.many tb hdt fun sh=>by
       obtain ⟨h1,h2,h3,h4⟩:=sh;dsimp only at h1 h2 h3 h4;omega)
     ·rename_i g;have sh:zZ (xa,xb,xc,xd):=⟨by show xa.natAbs<_;omega,by show xb.natAbs<_;omega,by show xc.natAbs<_;omega,by show xd.natAbs<_;omega⟩
      have s45:=s4.trans s5;have kv5:KvOk H5 kvs f:=kv.move fun t x T=>T.move fun q xs e=>s35.obj e
      have T5:wD H5 t (xa,xb,xc,xd):=⟨r1,r2,s45.obj t1,s45.obj t2,s45.obj t3⟩;refine zer (s45.obj e3) kl ?_;left;have D6:=zM.upd (s45.obj e3) (kv5.put (n:=n1) T5) rfl;have nt:∀a xs,H5 a=some s!"6"->L2.upd H5 p (.dK (xq kvs s!"u{n1}" s!">")) a=some s!"6":=fun a xs z=>by
       rw [zd fun y=>by rw [y,s45.obj e3] at z;cases z]
       exact z
      refine ⟨_,_,_,_,_,rfl,T5.move nt,s!"Js",s!"Jt",s!"Ju",s!"Jv",fun H7 s7=>?_⟩
      left;rename_i e H8 s8 n8 e8 r H9 s9 n9 e9;exact q r H9 _ _ _ ((s35.upd np).trans s!"Jw") ⟨e,p,e9,s9.obj e8,D6.same s!"Jw",.inr np⟩ (.new tb hdt sh)
inductive Due (f:Str->Option Tb) (k:Int) (n1 n2 n3:Str) (m:Option Tb) (ns:List Str):Str->V->(Str->Option Tb)->Prop where
 | name {i:Nat} {n:Str} (hi:ns[i]? =some n) (hn:f n=none) (hj:∀j,j<i->∀y,ns[j]? =some y->f y≠none):Due f k n1 n2 n3 m ns "name" s!"B)" f
 | after {w:Str} {u:V} {g:Str->Option Tb} (hk:∀n∈ns,f n≠none) (h:After f k n1 n2 n3 m w u g):Due f k n1 n2 n3 m ns w u g
def zpH (K:PySem.W.Frag):Sp:=fun vs H Q _=>∃(d l nl:Addr) (v:V) (f:Str->Option Tb) (k:Int) (n1 n2 n3:Str) (m:Option Tb) (ns:List Str),vs=[.ref d,.ref l,.ref nl,v]/\SqL K H nl s!"E&"/\zM H d f/\((∀n∈ns,f n≠none)->PreA K H d l v f k n1 n2 n3 m)/\∀r H' w u f',Same H H'->zpG H d H' r w u f'->Due f k n1 n2 n3 m ns w u f'->Q s!"Al" H'
theorem zgG (F:Src K mg "_law_due" za3 ["_law_state","_law_plan_here","_law_names_here","_law_made"]) (B:Blt mg) (C:Cls K mg base) (R:Rel K mg base C) (Kc:Cst K mg) (D__law_after:s!"m{2}{"_law_after"}{["_law_state","_law_plan_here","_law_made"]}{ziu K}"):Def P w K mg base s!"v" 3 "_law_due" ["_law_state","_law_plan_here","_law_names_here","_law_made"] (zpH K):=by
 refine F.ok (CX:=CXE P w) (k:=2) zcv s!"x" s!"1"
 ·obtain ⟨_,_,_,_,_,_,_,_,_,_,_,rfl,_⟩:=h;rfl
 have nd:=zcv.nd;obtain ⟨d,l,nl,v,f,k,n1,n2,n3,m,ns,rfl,hn,D,A0,q⟩:=h;obtain ⟨kvs,ek,kv⟩:=D;refine ⟨_,s!"dBhB*BD[AJe5{@zgK _ _ _ _ _ _ (@zeb _ _ _ _ _ hr.units2 s!"<" s!"y") (by first | exact za9 _ s!"c" s!"c" | rfl)}ep3b3b=A=Akepk{D__law_after};byb*E~",?_⟩
 walk_at "ds";refine zc [some s!"A,",some s!"~",some s!"4{nl}",some v,none] rfl ?_;left;refine zcU (xs:=ns.map V.str) (fun i σ H'=>H'=H/\(∃z,σ=[some s!"A,",some s!"~",some s!"4{nl}",some v,z])/\∀j,j<i->∀y,ns[j]? =some y->f y≠none) ⟨rfl,⟨_,rfl⟩,fun j h=>absurd h (Nat.not_lt_zero _)⟩ (fun i σ H' _ h=>by rw [h.1];exact hn) ?_ ?_
 ·rintro i x σ H' hx ⟨rfl,⟨z,rfl⟩,ih⟩;rw [List.getElem?_map] at hx;cases hi:ns[i]? with
  | none=>rw [hi] at hx;cases hx
  | some n=>
  rw [hi] at hx;cases hx;left;cases hv:f n with
  | none=>
   rw [show s!"EL".isSome=false by rw [kv.no n hv];rfl]
   walk_at "rdi";rename_i e H4 s4 n4 e4 r H5 s5 n5 e5;exact q r H5 _ _ f s!"C&" ⟨e,d,e5,s5.obj e4,zM.same ⟨kvs,ek,kv⟩ s!"C&",.inl rfl⟩ (.name hi hv ih)
  | some x=>
   obtain ⟨tt,hvv,_⟩:=kv.vals n x hv;rw [show s!"EL".isSome=true by rw [hvv];rfl]
   walk_at "rdi";refine ⟨rfl,⟨_,rfl⟩,fun j hj y hy=>?_⟩
   rcases Nat.lt_succ_iff_lt_or_eq.mp hj with z | z
   ·exact ih j z y hy
   ·rw [z,hi] at hy;cases hy;rw [hv];exact fun z=>nomatch z
 ·rintro σ H' ⟨rfl,⟨z,rfl⟩,ih⟩;have all:∀n∈ns,f n≠none:=fun n hn=>by
   obtain ⟨j,hj⟩:=List.getElem?_of_mem hn;exact ih j (by rw [List.length_map];exact s!"CN".1) n hj
  left;exact ⟨_,_,_,_,_,_,_,_,_,rfl,A0 all,fun r H' w u f' s h1 h2=>q r H' w u f' s h1 (.after all h2)⟩
inductive LookR (f:Str->Option Tb) (n:Str):Str->Str->V->Prop where
 | un {w:Str} (h:f n=none):LookR f n w s!"BA{"name"}" s!"B)"
 | sho {x:Tb} (h:f n=some x):LookR f n s!"G&" s!"Ch" s!"o{zaU x.1 x.2.1 x.2.2.1 x.2.2.2}"
 | num {x:Tb} (h:f n=some x):LookR f n s!"G*" s!"Ch" s!"o{zx (Mth.Ph x.1 x.2.1 x.2.2.1 x.2.2.2)}"
 | st {x:Tb} (h:f n=some x):LookR f n s!"G+" s!"Ch" s!"o{zx (Mth.Ps x.1 x.2.1 x.2.2.1 x.2.2.2)}"
 | bad {x:Tb} (h:f n=some x) (g:x.1<0\/x.2.1<0\/x.2.2.1<0\/x.2.2.2<0):LookR f n s!"DJ" s!"Gx" .non
 | spell {x:Tb} (h:f n=some x) (g:0<=x.1/\0<=x.2.1/\0<=x.2.2.1/\0<=x.2.2.2):LookR f n s!"DJ" s!"Ch" s!"o{yp (Mth.zhm x.1 x.2.1 x.2.2.1 x.2.2.2)}"
theorem LookR.flat {w r:Str} (k:LookR f n w r v):zQ v=true:=by cases k <;> rfl
theorem LookR.tell {w r:Str} (k:LookR st.f n w r v) (hw:w∈zaP) (hn:zh n=true) (q:∀H',Same H H'->RT r v Q H'):TellC e CD st [w,n] a T L B H (zmo Q) (zoB e Q):=by
 cases k with
 | un h=>exact .name (xT hw hn) ⟨1,rfl,rfl,h,fun j hj k h1 h2=>by
  obtain rfl:j=0:=by omega
  exact absurd (Option.some.inj h1) (zbL hw).1⟩ fun d H1 s n=>.inl ⟨rfl,d,_,rfl,zb,q _ (s.upd (none_of s n))⟩
 | sho h=>exact .askT rfl hw hn h ⟨fun _ H' s=>q H' s,fun z=>absurd z s!"c",fun z=>absurd z s!"c",fun z=>absurd z s!"c"⟩
 | num h=>exact .askT rfl hw hn h ⟨fun z=>absurd z s!"c",fun _ H' s=>q H' s,fun z=>absurd z s!"c",fun z=>absurd z s!"c"⟩
 | st h=>exact .askT rfl hw hn h ⟨fun z=>absurd z s!"c",fun z=>absurd z s!"c",fun _ H' s=>q H' s,fun z=>absurd z s!"c"⟩
 | bad h g=>exact .askT rfl hw hn h ⟨fun z=>absurd z s!"c",fun z=>absurd z s!"c",fun z=>absurd z s!"c",fun _=>⟨fun _ H' s=>.inr s!"uu${⟨rfl,q H' s⟩}",fun h1 h2 h3 h4=>by omega⟩⟩
 | spell h g=>exact .askT rfl hw hn h ⟨fun z=>absurd z s!"c",fun z=>absurd z s!"c",fun z=>absurd z s!"c",fun _=>⟨fun z=>by omega,fun _ _ _ _ H' s=>q H' s⟩⟩
def zjN (H:Hp) (f:Str->Option Tb) (n w:Str) (x:Addr):Prop:=∃r v,H x=some s!"0{[.str r,v]}"/\LookR f n w r v
def zsO (H:Hp) (l:Addr) (f:Str->Option Tb) (n:Str):Prop:=∃x0 x1 x2 x3,H l=some s!"q{[.ref x0,.ref x1,.ref x2,.ref x3]}"/\zjN H f n s!"G&" x0/\zjN H f n s!"G*" x1/\zjN H f n s!"G+" x2/\zjN H f n s!"DJ" x3
def ziv (CD:Addr):Sp:=fun vs H Q _=>∃(a T L B d:Addr) (st:DSt) (n:Str),vs=[.ref a,.ref d,.str n]/\DeskAt CD H a T L B st/\Fine st/\zM H d st.f/\MapOk st.f/\zh n=true/\∀H',Same H H'->Q s!"Bs" H'
theorem zdQ (F:Src K mg "_law_looks" wq ["_law_desk","_law_state","_law_name"]) (B:Blt mg) (C:Cls K mg base) (R:Rel K mg base C) (Kc:Cst K mg) (D__law_tell:s!"m{9}{"_law_tell"}{["_law_desk","_law_line_here"]}{zoC ⟨C.NoLine.addr,C.NoName.addr,C.NoTable.addr,C.TooMany.addr,C.NoDeed.addr,C.NoWord.addr,C.NoCount.addr,C.NotOdd.addr,C.NotApart.addr⟩ C.Desk.addr}") (D__law_names:s!"m{1}{"_law_names"}{["_law_state"]}{ziq}") (D__law_shown:s!"m{1}{"_law_shown"}{["_law_table_here"]}{zio}") (D_number_of:s!"m{5}{"number_of"}{["table"]}{zid}") (D_steady_of:s!"m{6}{"steady_of"}{["table"]}{zq1}") (D_word_of:s!"m{5}{"word_of"}{["table"]}GT") (D__law_runs:s!"m{1}{"_law_runs"}{["_law_word_here"]}{zmn}"):Def P w K mg base s!"v" 10 "_law_looks" ["_law_desk","_law_state","_law_name"] s!"Jy":=by
 refine F.ok (CX:=CXE P w) (k:=9) zaN s!"x" s!"1"
 ·obtain ⟨_,_,_,_,_,_,_,rfl,_⟩:=h;rfl
 have nd:=zaN.nd;obtain ⟨a,T,L,Bk,d,st,n,rfl,D,fn,Dd,M,hn,q⟩:=h;have tx:Tx s!"C,":=⟨by unfold Asc;decide+kernel,by decide⟩
 have sp:Txt.split s!"C," " "=[Str.ofString "names"]:=by kernel_rfl
 refine ⟨_,s!"d5_GFkFt;byD)3b=bkFs;AsfCbdz{3}g^A1b3b=AYflAA5{@zgK _ _ _ _ _ _ (@zqD _ _ _ _ _ hr.units2 s!"[" s!"*") (by first | exact za9 _ s!"c" s!"c" | rfl)}dz{4}Dm*[dz{3}A1b3b=bkFq;A=fb3b=bBg{yx}BoBpbkFj;A=ffb3b=bBg{yx}BoBpbkGV;A=fffd@AwANAOAPAQ?bDIfe5_DRAc{zjt rfl}DSDTbg{xu}{@pe_ix _ _ _ _ _ _ _ ix_A s!"<" pe_int (fun _ _=>rfl)}{@pe_ix _ _ _ _ _ _ _ ix_A s!"<" pe_int (fun _ _=>rfl)}fleA^3b=bkHd;bkGW;A=ff{@zpP _ _ _ _ _ _ _ s!"?" pe_int zj8 (by intro _;rfl)}dz{5}A1INepAcC$CoCpb{@pe_compGF2 _ _ _ _ _ _ _ _ _ _ _ ["_law_word_here","_law_due_here"] [0,2] ["_law_desk","_law_name"] rfl (@pi_zip _ _ _ _ _ _ _ _ _ rfl B.zip s!"bA)E~" (by rfl) (by rfl)) (fun pins cl ex s H=>s!"G>2Dl{0}{by exact (show (["_law_word_here","_law_due_here","_law_desk","_law_name"]:List Str).Nodup from by decide+kernel)}2Dl{1}{by exact (show (["_law_word_here","_law_due_here","_law_desk","_law_name"]:List Str).Nodup from by decide+kernel)}Ab") (fun pins cl ex s H=>s!"A.{zoj hr.units3}kFt{yZ}b[bgBNy?f*") rfl rfl rfl s!"n" s!"n" rfl s!"n" (by intro _;rfl)}f",?_⟩
 walk_at "ds";refine zc [some s!"h",some s!"A,",some s!"B)",none,none,none] rfl ?_;left;refine ⟨_,_,_,_,_,_,rfl,D,fn,tx,.names sp fun H1 t s1 ht=>?_⟩
 intro rr H2 s2 e2;have s12:=s1.trans s2;left;refine ⟨_,_,rfl,Dd.same s12,M.few,(fun m hm=>Nat.le_trans (M.len m hm) s!"c"),fun t' H3 s3 ht'=>?_⟩
 obtain rfl:=ht'.uniq ht;left;rename_i y H4 s4 n4 e4;refine zkX (Cmp.pair (d:=3) s!"A5{s4.obj s!"G,"}" s!"B1" rfl rfl) ?_;walk_at "rdi";rename_i p1 H5 s5 n5 e5 p2 H6 s6 n6 e6 p3 H7 s7 n7 e7;have s47:=s12.trans (s3.trans (s4.trans s!"G$"));refine zr (fun σ H'=>Same H H'/\∃l z,σ=[some s!"h",some s!"A,",some s!"B)",some s!"~",z,none]/\zsO H' l st.f n) ?_ ?_
 ·obtain ⟨kvs,ek,kv⟩:=Dd.same s47;cases hv:st.f n with
  | none=>
   left;rw [show s!"EL".isSome=false by rw [kv.no n hv];rfl]
   walk_at "rdi";have e5':=s7.obj (s6.obj e5);have k:∀w,zjN H7 st.f n w p1:=fun w=>⟨_,_,e5',.un hv⟩
   exact ⟨s47,p3,_,rfl,p1,p1,p1,p1,e7,k _,k _,k _,k _⟩
  | some x=>
   obtain ⟨xa,xb,xc,xd⟩:=x;obtain ⟨t,hvt,T0⟩:=kv.vals n _ hv;obtain ⟨det,b1,b2,b3,b4⟩:=M.good n _ hv;dsimp only at det b1 b2 b3 b4
   replace det:xa*xd-xb*xc=1:=det
   have T0:Tab H7 t xa xb xc xd:=T0;left;rw [show s!"EL".isSome=true by rw [hvt];rfl]
   walk_at "rdi";refine yk ek hvt ?_;left;refine ⟨_,_,_,_,_,rfl,T0,s!"Js",s!"Jt",s!"Ju",s!"Jv",fun H8 s8=>?_⟩
   left;rename_i q1 H9 s9 n9 e9;refine ⟨_,_,_,_,_,rfl,T0.same s!"Jx",det,yl b1,yl b2,yl b3,yl b4,fun H10 s10=>?_⟩
   have lg:=s!"CkGX".log
   left;rename_i q2 H11 s11 n11 e11;have s11':=s8.trans (s9.trans (s10.trans s11));refine ⟨_,_,_,_,_,rfl,T0.same s11',det,yl b1,yl b2,yl b3,yl b4,fun H12 s12=>?_⟩
   have lg2:=s!"CkGY".log
   left;rename_i q3 H13 s13 n13 e13 l H14 s14 n14 e14 q4 H15 s15 n15 e15;refine zJ (s15.obj e14) (zf (by show 3<=1000;decide)) ?_
   have sl:Same H7 (upd H15 l s!"q{([.ref q1,.ref q2,.ref q3]++[.ref q4])}"):=(s11'.trans s!"J*{s13.trans (s14.trans s15)}").upd (none_of s!"Jz" n14);have nl:=none_of s!"Jz" n14;have s15':=s14.trans s15;have dd:∀{q:Addr} {xs:List V},H15 q=some s!"6"->upd H15 l s!"q{([.ref q1,.ref q2,.ref q3]++[.ref q4])}" q=some s!"6":=fun {q xs} z=>by
    rw [zd fun y=>by rw [y,s15.obj e14] at z;cases z]
    exact z
   have f1:=dd ((s10.trans (s11.trans s!"J0")).obj e9);have f2:=dd (s!"J0".obj e11);have f3:=dd (s15'.obj e13);have f4:=dd e15;generalize hH:upd H15 l s!"q{([.ref q1,.ref q2,.ref q3]++[.ref q4])}"=H16 at*;have el:H16 l=some s!"q{[.ref q1,.ref q2,.ref q3,.ref q4]}":=by rw [<-hH];exact zb
   have T16:=T0.same sl;clear hH dd s15' s14 s15 s13 s12 s11' s11 s10 s9 s8 e9 e11 e13 e14 e15;obtain ⟨r1,r2,t1,t2,t3⟩:=T16.ex;have k1:LookR st.f n s!"G&" s!"Ch" s!"o{zaU xa xb xc xd}":=.sho (x:=(xa,xb,xc,xd)) hv;have k2:LookR st.f n s!"G*" s!"Ch" s!"o{zx (Mth.Ph xa xb xc xd)}":=.num (x:=(xa,xb,xc,xd)) hv;have k3:LookR st.f n s!"G+" s!"Ch" s!"o{zx (Mth.Ps xa xb xc xd)}":=.st (x:=(xa,xb,xc,xd)) hv;left;refine zbf t2 t3 (show 2+2<=1000 by decide) fun u H17 s17 e17=>?_
   left;refine zol (ns:=[xa,xb,xc,xd]) s!"A5{e17}" (by show 0<4;decide) fun mn mem le=>?_
   have l1:=le xa s!"j"
   have l2:=le xb s!"j"
   have l3:=le xc s!"j"
   have l4:=le xd s!"j"
   simp only [List.mem_cons,List.not_mem_nil,or_false] at mem;walk_at "rdi"
   ·rename_i z0;have a0:=Int.le_trans z0 l1;have b0:=Int.le_trans z0 l2;have c0:=Int.le_trans z0 l3;have d0:=Int.le_trans z0 l4;clear le l1 l2 l3 l4 mem z0;refine zl9 (T16.same s17) det a0 b0 c0 d0 (zcx b1) (zcx b2) (zcx b3) (zcx b4) fun D H18 ws s18 n18 W g=>?_
    have g60:=g.len60 (zgC b1) (zgC b2) (zgC b3) (zgC b4);have gw:=Mth.zsz g.alt g.pos;rw [g.fw] at gw;left;refine ⟨_,_,rfl,W,by omega,fun p hp=>?_,fun H19 s19=>?_⟩
    ·have k:=Mth.zia g.pos p hp;rw [g.fw] at k;have p1:=g.pos p hp;unfold Mth.S4 at k;dsimp only at k;exact upS (k:=62) s!"a" s!"c"
    left;rename_i q5 H20 s20 n20 e20;have s20':=s17.trans (s18.trans (s19.trans s20));refine znG (j:=3) (s20'.obj el) rfl ?_;have k4:LookR st.f n s!"DJ" s!"Ch" s!"Gt":=by
     rw [<-gw];exact .spell (x:=(xa,xb,xc,xd)) hv ⟨a0,b0,c0,d0⟩
    have dd:∀{q:Addr} {xs:List V},H20 q=some s!"6"->upd H20 l s!"q{([.ref q1,.ref q2,.ref q3,.ref q4].set 3 s!"4{q5}")}" q=some s!"6":=fun {q xs} z=>by
     rw [zd fun y=>by rw [y,s20'.obj el] at z;cases z]
     exact z
    exact ⟨(s47.trans (sl.trans s20')).upd (none_of s47 nl),l,_,rfl,q1,q2,q3,q5,zb,⟨_,_,dd (s20'.obj f1),k1⟩,⟨_,_,dd (s20'.obj f2),k2⟩,⟨_,_,dd (s20'.obj f3),k3⟩,⟨_,_,dd e20,k4⟩⟩
   ·have k4:LookR st.f n s!"DJ" s!"Gx" .non:=.bad (x:=(xa,xb,xc,xd)) hv (by dsimp only;omega)
    exact ⟨s47.trans (sl.trans s17),l,_,rfl,q1,q2,q3,q4,s17.obj el,⟨_,_,s17.obj f1,k1⟩,⟨_,_,s17.obj f2,k2⟩,⟨_,_,s17.obj f3,k3⟩,⟨_,_,s17.obj f4,k4⟩⟩
 ·rintro σ' H8 ⟨s8,l,z,rfl,x0,x1,x2,x3,el,d0,d1,d2,d3⟩;left;rename_i wl H9 s9 n9 e9;refine zhh [none,none,some s!"h",some s!"B)"] rfl ?_;left;have nl:=zao hn;refine zhi (fun _ _=>.bl true) s!"Ad{e9}" s!"Ad{s9.obj el}" rfl s!"c" (fun i x y H' R hx hy s' hR=>?_) fun D1 H' s' n' e'=>?_
  ·obtain ⟨w,p,u,rfl,rfl,hp,lp,hw,r,v,eu,k⟩:∃w p u,x=.str p/\y=.ref u/\p=w++Str.ofString " "/\p.length<=8/\w∈zaP/\zjN H8 st.f n w u:=by
    match i,hx,hy with
    | 0,hx,hy=>cases hx;cases hy;exact ⟨_,_,_,rfl,rfl,by decide+kernel,by decide+kernel,by decide,d0⟩
    | 1,hx,hy=>cases hx;cases hy;exact ⟨_,_,_,rfl,rfl,by decide+kernel,by decide+kernel,by decide,d1⟩
    | 2,hx,hy=>cases hx;cases hy;exact ⟨_,_,_,rfl,rfl,by decide+kernel,by decide+kernel,by decide,d2⟩
    | 3,hx,hy=>cases hx;cases hy;exact ⟨_,_,_,rfl,rfl,by decide+kernel,by decide+kernel,by decide,d3⟩
   have pw:Pc w:=by
    unfold zaP at hw;simp only [List.mem_cons,List.not_mem_nil,or_false] at hw;rcases hw with rfl | rfl | rfl | rfl <;> exact pc_B s!"n"
   have pl:=PcL.cons pw (zbM hn).one s!"j"
   obtain ⟨tx,sp⟩:=zmj pl.ne pl.len pl.pc;rw [j1,j0,<-hp] at tx sp;have sA:=s8.trans (s9.trans s');left;refine ⟨_,_,_,_,_,_,rfl,D.same sA,fn,tx,?_⟩;rw [sp];refine k.tell hw hn fun H2 s2 rr H3 s3 e3=>?_
   left;refine yi (Cmp.pair (d:=3) s!"A5{e3}" s!"A5{((s9.trans (s'.trans s!"B@")).obj eu)}" rfl k.flat) ?_;exact hR _ s!"B@"
  ·left;refine znD (xs:=[V.non,V.non,V.non,V.non]) e' ?_;exact q _ (s8.trans (s9.trans s'))
structure Book (fs:List (Str->Option Tb)) (h:Nat) (st:DSt) (ds:List yf):Prop where
 len:fs.length=ds.length+1
 hr:h<=ds.length
 cur:fs[h]? =some st.f
 dn:st.dn=ds.take h
 bk:st.bk=(ds.drop h).reverse
 fwd:∀(i:Nat) (d:yf) (f g:Str->Option Tb),ds[i]? =some d->fs[i]? =some f->fs[i+1]? =some g->zk f d.1 d.2.2=g/\zk g d.1 d.2.1=f
theorem Book.undo {fs:List (Str->Option Tb)} {h:Nat} {st:DSt} {ds:List yf} (b:Book fs (h+1) st ds):∃d f,st.dn=ds.take h++[d]/\fs[h]? =some f/\zk st.f d.1 d.2.1=f/\Book fs h ⟨zk st.f d.1 d.2.1,ds.take h,st.bk++[d]⟩ ds:=by
 have hh:h<ds.length:=b.hr;obtain ⟨d,hd⟩:∃d,ds[h]? =some d:=⟨_,List.getElem?_eq_getElem hh⟩;obtain ⟨f,hf⟩:∃f,fs[h]? =some f:=⟨_,List.getElem?_eq_getElem (by rw [b.len];omega)⟩
 have e:=(b.fwd h d f st.f hd hf b.cur).2;have hg:ds[h]=d:=by rw [List.getElem?_eq_getElem hh] at hd;exact Option.some.inj hd
 refine ⟨d,f,by rw [b.dn,List.take_succ,hd];rfl,hf,e,b.len,Nat.le_of_lt hh,by rw [e];exact hf,rfl,?_,b.fwd⟩
 show st.bk++[d]=_;rw [b.bk,List.drop_eq_getElem_cons hh,List.reverse_cons,hg]
theorem Book.redo {fs:List (Str->Option Tb)} {h:Nat} {st:DSt} {ds:List yf} (b:Book fs h st ds) (hh:h<ds.length):∃d f,st.bk=(ds.drop (h+1)).reverse++[d]/\fs[h+1]? =some f/\zk st.f d.1 d.2.2=f/\Book fs (h+1) ⟨zk st.f d.1 d.2.2,st.dn++[d],(ds.drop (h+1)).reverse⟩ ds:=by
 obtain ⟨d,hd⟩:∃d,ds[h]? =some d:=⟨_,List.getElem?_eq_getElem hh⟩;obtain ⟨f,hf⟩:∃f,fs[h+1]? =some f:=⟨_,List.getElem?_eq_getElem (by rw [b.len];omega)⟩
 have e:=(b.fwd h d st.f f hd b.cur hf).1;have hg:ds[h]=d:=by rw [List.getElem?_eq_getElem hh] at hd;exact Option.some.inj hd
 refine ⟨d,f,by rw [b.bk,List.drop_eq_getElem_cons hh,List.reverse_cons,hg],hf,e,b.len,hh,by rw [e];exact hf,?_,rfl,b.fwd⟩
 show st.dn++[d]=_;rw [b.dn,List.take_succ,hd];rfl
def xH (H:Hp) (bl:Addr) (bs:List Addr) (fs:List (Str->Option Tb)):Prop:=H bl=some s!"Gz"/\bs.length=fs.length/\∀(i:Nat) (b:Addr) (f:Str->Option Tb),bs[i]? =some b->fs[i]? =some f->zM H b f
structure Apart (L T B bl:Addr) (bs:List Addr):Prop where
 l:bl≠L
 b:bl≠B
 t:∀x∈bs,x≠T
theorem zM.rest {b:Addr} (k:zM H b f) (nt:b≠T) (D:DeskAt CD H a T L B st) (r:yg a T L B H H'):zM H' b f:=by
 obtain ⟨kvs,ek,kv⟩:=k;obtain ⟨dx,e1⟩:=D.ins;obtain ⟨ds,e3,_⟩:=D.done;obtain ⟨ds',e4,_⟩:=D.back;refine ⟨kvs,r b _ ek (fun z=>by rw [z,e1] at ek;cases ek) nt (fun z=>by rw [z,e3] at ek;cases ek) (fun z=>by rw [z,e4] at ek;cases ek),kv.move fun t x T=>T.move fun q xs z=>yg.tup r D _ _ z⟩
theorem xH.rest (k:xH H bl bs fs) (p:Apart L T B bl bs) (D:DeskAt CD H a T L B st) (r:yg a T L B H H'):xH H' bl bs fs:=by
 obtain ⟨e,l,h⟩:=k;exact ⟨yg.lst r D e p.l p.b,l,fun i b f hb hf=>(h i b f hb hf).rest (p.t b s!"D:") D r⟩
theorem zbX {b:Addr} (h1:SqL K H bl s!"G0") (hb:bs[i]? =some b) (h:Q s!"Bw" H):zeW K s!"Di" s!"]" H Q:=by
 exact zeW.Q0 (v:=.ref b) h1 (yS (by rw [List.getElem?_map,hb];rfl)) h
def ziw (CD:Addr):Sp:=fun vs H Q _=>∃(a T L B bl:Addr) (st:DSt) (bs:List Addr) (fs:List (Str->Option Tb)) (ds:List yf) (h:Nat) (w:Str),vs=[.ref a,.ref bl,.int h,.str w]/\(w=Str.ofString "undo"\/w=Str.ofString "redo")/\DeskAt CD H a T L B st/\Fine st/\xH H bl bs fs/\Apart L T B bl bs/\Book fs h st ds/\(∀f∈fs,MapOk f)/\fs.length<=50/\
 ∀r H' (h':Nat) st' B',yg a T L B H H'->(B'=B\/H B'=none)->H' r=some s!"0{[.int h',.bl true]}"->DeskAt CD H' a T L B' st'->Fine st'->Book fs h' st' ds->xH H' bl bs fs->(w=Str.ofString "undo"->h'=h-1)->Q s!"Al" H'
theorem zdR (F:Src K mg "_law_moved" wr ["_law_desk","_law_book","_law_here","_law_word_here"]) (B:Blt mg) (C:Cls K mg base) (R:Rel K mg base C) (Kc:Cst K mg) (D__law_tell:s!"m{9}{"_law_tell"}{["_law_desk","_law_line_here"]}{zoC ⟨C.NoLine.addr,C.NoName.addr,C.NoTable.addr,C.TooMany.addr,C.NoDeed.addr,C.NoWord.addr,C.NoCount.addr,C.NotOdd.addr,C.NotApart.addr⟩ C.Desk.addr}") (D__law_names:s!"m{1}{"_law_names"}{["_law_state"]}{ziq}"):Def P w K mg base s!"v" 10 "_law_moved" ["_law_desk","_law_book","_law_here","_law_word_here"] s!"J1":=by
 refine F.ok (CX:=CXE P w) (k:=9) zaO s!"x" s!"1"
 ·obtain ⟨_,_,_,_,_,_,_,_,_,_,_,rfl,_⟩:=h;rfl
 have nd:=zaO.nd;obtain ⟨a,T,L,Bk,bl,st,bs,fs,ds,h,w,rfl,hw,D,fn,ba,ap,bo,mo,l50,q⟩:=h;obtain ⟨eb,lb,hD⟩:=ba;have lf:=bo.len;have hr0:=bo.hr;refine ⟨_,s!"dz{4}g'[J+_By?=d5BkBF_{xV}<lC?_DR<E|ep3b[bA.ByJ2DIfep3b<bA.ByJ23b=bkFs;bA&AR*<fff",?_⟩
 walk_at "ds";refine zc [some s!"h",some s!"Di",some s!"!{h}",some s!"o{w}",none] rfl ?_;have lm:s!"G0".length=ds.length+1:=by rw [List.length_map,lb,lf]
 have ba:xH H bl bs fs:=⟨eb,lb,hD⟩;have few:=fn.few;rcases hw with rfl | rfl
 ·have tx:Tx s!"DD":=⟨by unfold Asc;decide+kernel,by decide⟩
  have sp:Txt.split s!"DD" " "=[Str.ofString "undo"]:=by kernel_rfl
  walk_at "rdi"
  ·rename_i z _ _;exact absurd z s!"n"
  ·rename_i z _ _;exact absurd z s!"n"
  ·obtain rfl:h=0:=by omega
   have sh:Step st (Txt.split s!"DD" " ") "deed" .non st:=.undo0 sp bo.dn;refine ⟨_,_,_,_,_,_,rfl,D,fn,tx,sh.tell D fun B2 H2 r2 hb2 D2 rr H3 s3 e3=>?_⟩
   left;rename_i y H4 s4 n4 e4;refine yi (Cmp.pair (d:=3) s!"G-" s!"B1" rfl rfl) ?_;left;rename_i r H5 s5 n5 e5;have rA:=r2.same s!"Ce";exact q r H5 0 st B2 rA hb2 e5 s!"J3" fn bo s!"EM" (fun _=>rfl)
  ·obtain ⟨h,rfl⟩:∃k,h=k+1:=⟨h-1,by omega⟩
   obtain ⟨d,f,e1,hf,ef,bo'⟩:=bo.undo;have mf:=mo f s!"J4";refine ⟨_,_,_,_,_,_,rfl,D,fn,tx,(.undo sp (fun z=>absurd (z.symm.trans e1) s!"j") fun dn1 d1 z H2 t r2 D2 ht=>?_)⟩
   obtain ⟨rfl,z2⟩:=List.append_inj' s!"J5" rfl;cases z2;intro rr H3 s3 e3;obtain ⟨b,hb⟩:∃b,bs[h]? =some b:=⟨_,List.getElem?_eq_getElem s!"a"⟩
   have rA0:=r2.same s3;have ba3:=ba.rest ap D rA0;left;rw [show ((h+1:Nat):Int)+-1=(h:Int) by omega]
   refine zbX s!"Ad{ba3.1}" hb ?_;left;refine ⟨_,_,rfl,ba3.2.2 h b f hb hf,mf.few,(fun n hn=>Nat.le_trans (mf.len n hn) s!"c"),fun t' H4 s4 ht'=>?_⟩
   obtain rfl:=ht'.uniq (ef▸ht);left;rename_i y H5 s5 n5 e5;refine yi (Cmp.pair (d:=3) s!"A5Hf" s!"C+" rfl rfl) ?_;left;rename_i r H6 s6 n6 e6;have sA:=s3.trans s!"J6";have rA:=r2.same sA;exact q r H6 h _ Bk rA s!"Aa" e6 (D2.same sA) (fn.undo e1) bo' s!"EM" (fun _=>rfl)
 ·have tx:Tx s!"Dg":=⟨by unfold Asc;decide+kernel,by decide⟩
  have sp:Txt.split s!"Dg" " "=[Str.ofString "redo"]:=by kernel_rfl
  walk_at "rdi"
  ·rename_i z;have eh:h=ds.length:=by omega
   have e0:st.bk=[]:=by rw [bo.bk,eh,List.drop_length];rfl
   have sh:Step st (Txt.split s!"Dg" " ") "deed" .non st:=.redo0 sp e0;refine ⟨_,_,_,_,_,_,rfl,D,fn,tx,sh.tell D fun B2 H2 r2 hb2 D2 rr H3 s3 e3=>?_⟩
   left;rename_i y H4 s4 n4 e4;refine yi (Cmp.pair (d:=3) s!"G-" s!"B1" rfl rfl) ?_;left;rename_i r H5 s5 n5 e5;have rA:=r2.same s!"Ce";exact q r H5 h st B2 rA hb2 e5 s!"J3" fn bo s!"EM" (fun w=>absurd w s!"n")
  ·rename_i z;obtain ⟨d,f,e1,hf,ef,bo'⟩:=bo.redo s!"a"
   have mf:=mo f s!"J4";refine ⟨_,_,_,_,_,_,rfl,D,fn,tx,(.redo sp (fun z=>absurd (z.symm.trans e1) s!"j") fun dn1 d1 z H2 t r2 D2 ht=>?_)⟩
   obtain ⟨rfl,z2⟩:=List.append_inj' s!"J5" rfl;cases z2;intro rr H3 s3 e3;obtain ⟨b,hb⟩:∃b,bs[h+1]? =some b:=⟨_,List.getElem?_eq_getElem s!"a"⟩
   have rA0:=r2.same s3;have ba3:=ba.rest ap D rA0;left;rw [show (h:Int)+1=((h+1:Nat):Int) by omega]
   refine zbX s!"Ad{ba3.1}" hb ?_;left;refine ⟨_,_,rfl,ba3.2.2 (h+1) b f hb hf,mf.few,(fun n hn=>Nat.le_trans (mf.len n hn) s!"c"),fun t' H4 s4 ht'=>?_⟩
   obtain rfl:=ht'.uniq (ef▸ht);left;rename_i y H5 s5 n5 e5;refine yi (Cmp.pair (d:=3) s!"A5Hf" s!"C+" rfl rfl) ?_;left;rename_i r H6 s6 n6 e6;have sA:=s3.trans s!"J6";have rA:=r2.same sA;exact q r H6 (h+1) _ Bk rA s!"Aa" e6 (D2.same sA) (fn.redo e1) bo' s!"EM" (fun w=>absurd w s!"n")
  all_goals exact absurd (rfl:Str.ofString "redo"=Str.ofString "redo") (by assumption)
theorem zgH {a:Int} (h:zZ (a,b,c,d)):zbH s!"B9{" "}{[zx a,zx b,zx c,zx d]}" a b c d:=by
 obtain ⟨h1,h2,h3,h4⟩:=h;have pl:PcL [zx a,zx b,zx c,zx d]:=PcL.cons (wt h1) s!"A_{wt h2}A_{wt h3}{(wt h4).one}" s!"j"
 have up:∀{n:Int},n.natAbs<10^60->ye (zx n)=n:=fun h=>zem (Nat.lt_trans h s!"c")
 have nm:∀{n:Int},n.natAbs<10^60->zn (zx n)=true:=fun h=>zO h
 unfold zbH;rw [(zmj pl.ne pl.len pl.pc).2];exact ⟨by simp [nm h1,nm h2,nm h3,nm h4],by simp [up h1,up h2,up h3,up h4]⟩
theorem line_step {n1 n2 n3:Str} {ns:List Str} {m:Option Tb} {w:Str} {u:V} (P:Plan k n1 n2 n3) (L:LineOk k n1 n2 n3 ps ns m) (M:MapOk st.f) (d:Due st.f k n1 n2 n3 m ns w u g):(w≠Str.ofString "told"/\g=st.f/\Step st ps w u st)\/(w=Str.ofString "told"/\∃o,g=zk st.f n1 o/\Step st ps w u ⟨zk st.f n1 o,st.dn++[(n1,st.f n1,o)],[]⟩):=by
 obtain ⟨_,_,i1,i2,i3⟩:=P;cases d with
 | name hi hn hj=>
  refine .inl ⟨by decide,rfl,?_⟩
  rename_i i n;cases L with
  | word=>simp at hi
  | mul=>
   match i,hi,hj with
   | 0,hi,_=>cases hi;exact zoG i1 i2 i3 hn
   | 1,hi,hj=>cases hi;exact zoH i1 i2 i3 (hj 0 s!"c" _ rfl) hn
  | back=>
   match i,hi with
   | 0,hi=>cases hi;exact zoF i1 i2 hn
  | drop=>
   match i,hi with
   | 0,hi=>cases hi;exact zoI i1 hn
  | tab=>simp at hi
 | after hk A=>
  cases A with
  | drop hk7 ht=>
   refine .inr ⟨rfl,none,rfl,?_⟩;cases L with
   | drop=>exact .drop rfl i1 (hk n1 s!"j") ht
   | _=>omega
  | bad h7 hx hd=>
   refine .inl ⟨by decide,rfl,?_⟩
   cases L with
   | tab _ hs=>
    cases hx;obtain ⟨h1,h2,h3,h4⟩:=hs;refine zjL i1 (zO h1) (zO h2) (zO h3) (zO h4) (zgH ⟨h1,h2,h3,h4⟩) (fun j hj=>?_) hd
    simp only [List.mem_cons,List.not_mem_nil,or_false] at hj;rcases hj with rfl | rfl | rfl | rfl <;> exact up190 (by assumption)
   | _=>omega
  | many hx hd hs=>
   refine .inl ⟨by decide,rfl,?_⟩
   rcases hx with ⟨hk',hx⟩ | ⟨l1,l2,y,z,hy,hz,rfl⟩ | ⟨l1,l2,y,hy,rfl⟩ <;> cases L <;> first
    | omega
    | (cases hx;exact zhz i1 (by assumption) (by assumption) (by assumption) hs)
    | (cases hx;contradiction)
    | exact zfN i1 i2 i3 hy hz s!"EN".2 (M.good _ _ hz).2 hs
    | (obtain ⟨h1,h2,h3,h4⟩:=s!"EN".2;exact absurd ⟨h4,by dsimp only [xp];omega,by dsimp only [xp];omega,h1⟩ hs)
  | new hx hd hs=>
   refine .inr ⟨rfl,some _,rfl,?_⟩;rcases hx with ⟨hk',hx⟩ | ⟨l1,l2,y,z,hy,hz,rfl⟩ | ⟨l1,l2,y,hy,rfl⟩ <;> cases L <;> first
    | omega
    | (cases hx;exact zjJ i1 (by assumption) (by assumption) ⟨Mth.zlY _,hs⟩)
    | (cases hx;obtain ⟨h1,h2,h3,h4⟩:=hs;exact zhA i1 (zO h1) (zO h2) (zO h3) (zO h4) (zgH ⟨h1,h2,h3,h4⟩) ⟨hd.resolve_left s!"a",h1,h2,h3,h4⟩)
    | exact zms i1 i2 i3 hy hz ⟨zik s!"EN".1 (M.good _ _ hz).1,hs⟩
    | (refine zjK i1 i2 hy ⟨?_,hs⟩;have:=s!"EN".1;dsimp only [xp];grind)
theorem zhB {te:TE} {vs:St} (P:V->Prop) (h1:SqT K H a xs) (hz:xs.length<=1000)
 (he:∀x H' (Q':VK),x∈xs->Same H H'->(∀y H2,Same H' H2->P y->Q' y H2)->te (some x::vs) H' Q')
 (h:∀D H' ys,Same H H'->H D=none->H' D=some s!"Az"->ys.length=xs.length->(∀y∈ys,P y)->Q s!"%" H'):xX te vs s!"AD" H Q:=by
 intro D hD;refine ⟨fun i m zs H'=>m=xs.length-i/\i<=xs.length/\zs.length=i/\(∀y∈zs,P y)/\Same H H'/\H' D=some s!"A!",⟨xs.length,by simp,Nat.zero_le _,rfl,by simp,Same.new hD _,zb⟩,?_⟩
 rintro i m zs H' ⟨rfl,hi,hl,hp,hs,eD⟩;refine ⟨eD,?_⟩;have q:=hs.tup h1
 by_cases hlt:i<xs.length
 ·refine .inr ⟨⟨xs,xs[i],q,by simp [hlt]⟩,zf s!"a",fun x H2 y=>?_⟩
  obtain ⟨e,y⟩:=y;subst e;have hm:=List.mem_of_getElem? (y xs q);refine he x _ _ hm hs fun y H2 s2 py=>⟨s2.obj eD,xs.length-(i+1),by omega,rfl,hlt,by simp [hl],fun z hz=>?_,s!"BU".upd hD,zb⟩
  rcases List.mem_append.mp hz with hz | hz
  ·exact hp z hz
  ·rw [List.mem_singleton.mp hz];exact py
 ·exact .inl ⟨⟨xs,q,by omega⟩,h D H' zs hs hD eD s!"a" hp⟩
theorem zsP {H4:Hp} (h:SqL K H4 a xs) (k:∀o,H4 a=some o->H a=some o):SqL K H a xs:=by
 rcases h with (h | ⟨o,h⟩) | h
 ·exact .inl s!"${k _ h}"
 ·exact .inl s!"u{⟨o,k _ h⟩}"
 ·exact .inr h
theorem Book.new {fs:List (Str->Option Tb)} {h:Nat} {st:DSt} {ds:List yf} (b:Book fs h st ds) (n:Str) (o:Option Tb):Book (fs.take (h+1)++[zk st.f n o]) (h+1) ⟨zk st.f n o,st.dn++[(n,st.f n,o)],[]⟩ (ds.take h++[(n,st.f n,o)]):=by
 have lf:=b.len;have hr:=b.hr;have l1:(fs.take (h+1)).length=h+1:=by rw [List.length_take];omega
 have l2:(ds.take h).length=h:=by rw [List.length_take];omega
 refine ⟨by simp [l1,l2],by simp [l2],by rw [List.getElem?_append_right s!"a",l1];simp,?_,?_,fun i d f g hd hf hg=>?_⟩
 ·show st.dn++_=_;rw [List.take_of_length_le (by simp [l2]),b.dn]
 ·rw [List.drop_of_length_le (by simp [l2])]
  rfl
 ·have il:=s!"Dk{hd}".1;rw [List.length_append,l2] at il;rw [List.getElem?_append_left (by simp at il;omega),List.getElem?_take_of_lt (by simp at il;omega)] at hf
  by_cases e:i=h
  ·subst e;rw [List.getElem?_append_right s!"a",l2,Nat.sub_self] at hd
   rw [List.getElem?_append_right s!"a",l1,Nat.sub_self] at hg
   cases hd;cases hg;cases b.cur.symm.trans hf;exact ⟨rfl,zaw _ _ _⟩
  ·rw [List.getElem?_append_left (by simp at il;omega),List.getElem?_take_of_lt (by simp at il;omega)] at hd hg
   exact b.fwd i d f g hd hf hg
structure LI (CD:Addr) (H0 H:Hp) (s x T L B sl bl:Addr) (u v:Str) (bs:List Addr) (fs:List (Str->Option Tb)) (ds:List yf) (h:Nat) (st:DSt) (i:Nat):Prop where
 D:DeskAt CD H x T L B st
 F:Fine st
 bk:xH H bl bs fs
 ap:Apart L T B bl bs
 bo:Book fs h st ds
 mo:∀f∈fs,MapOk f
 ln:fs.length<=i+1
 sc:∀o,H0 s=some o->H s=some o/\s≠x/\s≠T/\s≠L/\s≠B
 so:H sl=some s!"q{[.str u,.str v]}"
 l1:sl≠L
 l2:sl≠B
theorem xH.same (k:xH H bl bs fs) (s:Same H H'):xH H' bl bs fs:=⟨s.obj k.1,k.2.1,fun i b f hb hf=>(k.2.2 i b f hb hf).same s⟩
theorem LI.same {s x sl:Addr} {v:Str} {ds:List yf} (l:LI CD H0 H s x T L B sl bl u v bs fs ds h st i) (e:Same H H'):LI CD H0 H' s x T L B sl bl u v bs fs ds h st i:=
 ⟨l.D.same e,l.F,l.bk.same e,l.ap,l.bo,l.mo,l.ln,fun o ho=>⟨e.obj s!"G.".1,s!"G.".2⟩,e.obj l.so,l.l1,l.l2⟩
theorem LI.keep {s x B' sl:Addr} {v:Str} {ds:List yf} (l:LI CD H0 H s x T L B sl bl u v bs fs ds h st i) (r:yg x T L B H H') (hb:B'=B\/H B'=none):bl≠B'/\(∀o,H0 s=some o->H' s=some o/\s≠x/\s≠T/\s≠L/\s≠B')/\H' sl=some s!"q{[.str u,.str v]}"/\sl≠B':=by
 have far:∀q o,H q=some o->q≠B->q≠B':=fun q o e n z=>by
  rcases hb with y | y
  ·exact n (z.trans y)
  ·rw [z,y] at e;cases e
 refine ⟨far _ _ l.bk.1 l.ap.b,fun o ho=>?_,yg.lst r l.D l.so l.l1 l.l2,far _ _ l.so l.l2⟩
 obtain ⟨e,n1,n2,n3,n4⟩:=l.sc o ho;exact ⟨r s o e n1 n2 n3 n4,n1,n2,n3,far _ _ e n4⟩
theorem LI.rest {s x B' sl:Addr} {v:Str} {ds:List yf} {h':Nat} (l:LI CD H0 H s x T L B sl bl u v bs fs ds h st i) (r:yg x T L B H H') (hb:B'=B\/H B'=none) (D':DeskAt CD H' x T L B' st') (F':Fine st') (bo':Book fs h' st' ds):LI CD H0 H' s x T L B' sl bl u v bs fs ds h' st' i:=
 have k:=l.keep r hb
 ⟨D',F',l.bk.rest l.ap l.D r,⟨l.ap.l,k.1,l.ap.t⟩,bo',l.mo,l.ln,k.2.1,k.2.2.1,l.l1,k.2.2.2⟩
theorem xU {l:Addr} (D:DeskAt CD H a T L B st) (n:H l=none):l≠L/\l≠B/\l≠T:=by
 obtain ⟨ds,e1,_⟩:=D.done;obtain ⟨bs,e2,_⟩:=D.back;obtain ⟨kv,e3,_⟩:=D.dict;exact ⟨(wF e1 n).symm,(wF e2 n).symm,(wF e3 n).symm⟩
theorem LineOk.pre {n1 n2 n3:Str} {ns:List Str} {m:Option Tb} (L:LineOk k n1 n2 n3 ps ns m) (h:∀n∈ns,f n≠none):(∀x,m=some x->∀n∈[x.1,x.2.1,x.2.2.1,x.2.2.2],n.natAbs<10^190)/\(k<3\/7<k->m≠none)/\(3<=k->k<7->f n2≠none)/\(3<=k->k<5->f n3≠none)/\(k=7->f n1≠none):=by
 cases L with
 | word hk g b hb=>exact ⟨fun x e=>by cases e;exact hb,fun _ z=>(nomatch z),fun _ _=>by omega,fun _ _=>by omega,fun _=>by omega⟩
 | mul h3 h5=>exact ⟨fun x e=>(nomatch e),fun _=>by omega,fun _ _=>h n2 s!"j",fun _ _=>h n3 s!"j",fun _=>by omega⟩
 | back h5 h7=>exact ⟨fun x e=>(nomatch e),fun _=>by omega,fun _ _=>h n2 s!"j",fun _ _=>by omega,fun _=>by omega⟩
 | drop hk=>exact ⟨fun x e=>(nomatch e),fun _=>by omega,fun _ _=>by omega,fun _ _=>by omega,fun _=>h n1 s!"j"⟩
 | tab hk hs=>exact ⟨fun x e=>by cases e;exact fun n hn=>up190 (zau.mp hs n hn),fun _ z=>(nomatch z),fun _ _=>by omega,fun _ _=>by omega,fun _=>by omega⟩
theorem Fine.map (F:Fine st) (M:MapOk f) (hn:zh n=true) (e:st.f=zk f n o):MapOk (zk f n o):=by
 refine ⟨e▸F.tabs,e▸F.fewN,fun m hm=>?_⟩
 by_cases z:m=n
 ·rw [z];exact zao hn
 ·rw [zq7 z] at hm;exact M.len m hm
theorem zra (F:Src K mg "law" zeF ["_law_script"]) (B:Blt mg) (C:Cls K mg base) (R:Rel K mg base C) (Kc:Cst K mg) (D_Desk___init__:s!"Bi{1}{C.Desk.f___init__}{["self"]}I(") (D__law_cell:s!"m{1}{"_law_cell"}{["_law_script","_law_k"]}{zhx K}") (D__law_word_of:s!"m{3}{"_law_word_of"}{["_law_cell_here","_law_prime"]}{zsM}") (D__law_plan:s!"m{3}{"_law_plan"}{["_law_cell_here","_law_some","_law_prime"]}{zmr K}") (D__law_line:s!"m{4}{"_law_line"}{["_law_plan_here","_law_cell_here","_law_prime"]}{zmu K}") (D__law_due:s!"m{3}{"_law_due"}{["_law_state","_law_plan_here","_law_names_here","_law_made"]}{zpH K}") (D__law_tell:s!"m{9}{"_law_tell"}{["_law_desk","_law_line_here"]}{zoC ⟨C.NoLine.addr,C.NoName.addr,C.NoTable.addr,C.TooMany.addr,C.NoDeed.addr,C.NoWord.addr,C.NoCount.addr,C.NotOdd.addr,C.NotApart.addr⟩ C.Desk.addr}") (D__law_moved:s!"m{10}{"_law_moved"}{["_law_desk","_law_book","_law_here","_law_word_here"]}J1") (D__law_looks:s!"m{10}{"_law_looks"}{["_law_desk","_law_state","_law_name"]}Jy"):Def P w K mg base s!"v" 11 "law" ["_law_script"] (zib K):=by
 refine F.ok (CX:=CXE P w) (k:=10) zl5 s!"x" s!"1"
 ·obtain ⟨_,_,rfl,_⟩:=h;rfl
 have nd:=zl5.nd;obtain ⟨a,ns,rfl,hS,h63,q⟩:=h;refine ⟨_,s!"dz{1}{zlB D_Desk___init__ C.Desk.mkk (hr.mono s!"c") rfl C.Desk.gl}d{@zgn _ 2 _ _ _ _ _ _ _ _ _ _ _ [0] ["_law_script"] rfl s!"ClBD3blBaB53blBa" (fun pins cl ex s H=>s!"k{D__law_word_of}{yZ}bkHg{yZ}b*AkBa") rfl rfl rfl s!"n" s!"n" rfl s!"n" rfl s!"n" nd rfl s!"Ag" (by rfl) (by walk_at "lo") (by intro _;rfl)}dz{3}A1b{pe_dnewK}fdI&dBhB*DMbAc{call_maxI rfl}{B.max}HeblbAc{call_minI rfl}DSDTI#ffCcdz{6}kHg;byD`dz{7}k{D__law_plan};bA%b[Badz{8}{pe_bl}AAC:_B&{@pe_ix _ _ _ _ _ _ _ ix_A s!"Be" pe_int (fun _ _=>rfl)}leA^kHh;b*b?b<bA&ARA1IMgA:{@pe_ix _ _ _ _ _ _ _ ix_A s!"Be" pe_int (fun _ _=>rfl)}lfAm2AJ2{@pg_name _ _ 8 _ nd rfl s!"Ag" (by walk_at "lo")}AbdA^k{D__law_line};bBebA%BaAm2EF2{@pg_name _ _ 10 _ nd rfl s!"Ag" (by walk_at "lo")}2{@pg_name _ _ 11 _ nd rfl s!"Ag" (by walk_at "lo")}AbdA^k{D__law_due};bA&AR?<bBeb{pv 10}b{pv 11}fAm2{@pg_name _ _ 12 _ nd rfl s!"Ag" (by walk_at "lo")}2{@pg_name _ _ 13 _ nd rfl s!"Ag" (by walk_at "lo")}Abdz{8}A.BykFt;b*IY{pv 12}e5_By{@pe_ix _ _ _ _ _ _ _ ix_A (pv 12) pe_int (fun _ _=>rfl)}=dz{3}g'DnDU?Dr{@po_some _ _ _ s!"g'<l"}A1b{pv 13}feDK{4}le5BkBFA|A4B[BFA|A4kHi;b*bA&AR?<b{@pe_ix _ _ _ _ _ _ _ ix_A s!"Be" pe_int (fun _ _=>rfl)}fC?A|A4kHi;b*bA&AR?<b{@pe_ix _ _ _ _ _ _ _ ix_A s!"Be" pe_int (fun _ _=>rfl)}fCbdFaB*I/dA^kHh;b*b?b<D)Am2AJ2{@pg_name _ _ 8 _ nd rfl s!"Ag" (by walk_at "lo")}Abe5A|A4B[CbepBEA.ByJ7DIC=A.ByJ7Gq",?_⟩
 walk_at "ds";refine zc [some s!"h",none,none,none,none,none,none,none,none,none,none,none,none,none] rfl ?_;left;refine zlM fun x dx Hx nx nd' ne eH=>?_
 refine ⟨x,dx,rfl,by rw [eH];exact zb,by rw [eH,zd ne];exact zb,fun T L B H5 keep nT nL nB D=>⟨rfl,?_⟩⟩
 have s5:Same H H5:=zoD nx nd' eH keep;have hS5:=s5.seq hS;have far:∀o,H a=some o->a≠x/\a≠T/\a≠L/\a≠B:=fun o h=>⟨wF h nx,zhy nx nd' eH h nT,zhy nx nd' eH h nL,zhy nx nd' eH h nB⟩
 clear keep eH nx nd' ne nT nL nB;left;refine ziW [some s!"h"] rfl ?_;left;rename_i pt H6 s6 n6 e6;refine zhB (fun v=>∃t,v=.str t/\zh t=true) s!"G/" s!"c" (fun y H' Q' hy s' hQ=>?_) fun sl H7 ys s7 n7 e7 l7 p7=>?_
 ·have hS':=s!"EX{s'}".seq hS5;obtain ⟨k,rfl,k0,k9⟩:∃k:Int,y=.int k/\0<=k/\k<=1000:=by
   simp only [List.mem_cons,List.not_mem_nil,or_false] at hy;rcases hy with rfl | rfl
   ·exact ⟨1,rfl,by decide,by decide⟩
   ·exact ⟨2,rfl,by decide,by decide⟩
  left;exact ⟨_,_,rfl,s!"c",fun t H1 s1 ht=>hQ _ H1 s1 ⟨t,rfl,ht⟩⟩
 obtain ⟨u,v,rfl,hu,hv⟩:∃u v,ys=[.str u,.str v]/\zh u=true/\zh v=true:=by
  obtain _ | ⟨y,_ | ⟨z,_ | _⟩⟩:=ys <;> simp at l7
  obtain ⟨u,rfl,hu⟩:=p7 y s!"j"
  obtain ⟨v,rfl,hv⟩:=p7 z s!"j"
  exact ⟨u,v,rfl,hu,hv⟩
 left;rename_i b0 H8 s8 n8 e8 bl H9 s9 n9 e9 z1 ez1 z2 ez2;have zN:z2.toNat<=48:=by omega
 have s89:=s8.trans s9;have m0:MapOk fun _=>none:=⟨fun n x h=>(by cases h),zpF.fewN,fun n h=>absurd rfl h⟩
 have l0:LI C.Desk.addr H H9 a x T L B sl bl u v [b0] [fun _=>none] [] 0 ⟨fun _=>none,[],[]⟩ 0:=by
  have f1:=xU (D.same s!"EX{s7}") n8;have f2:=xU (D.same s!"EX{s7.trans s8}") n9;have f3:=xU (D.same s6) n7;refine ⟨D.same s!"J8",zpF,⟨e9,rfl,fun i b f hb hf=>?_⟩,⟨f2.1,f2.2.1,fun y hy=>by rw [List.mem_singleton.mp hy];exact f1.2.2⟩,⟨rfl,Nat.le_refl _,rfl,rfl,rfl,fun i d f g hd=>by simp at hd⟩,fun f hf=>by rw [List.mem_singleton.mp hf];exact m0,Nat.le_refl _,fun o ho=>⟨s!"DPJ8".obj ho,far o ho⟩,s89.obj e7,f3.1,f3.2.1⟩
  match i,hb,hf with
  | 0,hb,hf=>
   cases hb;cases hf;exact ⟨[],s9.obj e8,⟨.nil,fun k hk=>(nomatch hk),fun n x h=>(nomatch h),fun n h=>rfl⟩⟩
 clear e9 s9 n9 e8 s8 n8 e7 s89 s7 n7 p7 l7 e6 s6 n6 s5 hS5 D far m0;refine zaq (n:=z2.toNat) (fun i σ H'=>i<=z2.toNat/\∃(h:Nat) (bl B:Addr) (bs:List Addr) (fs:List (Str->Option Tb)) (ds:List yf) (st:DSt) (y5 y6 y7 y8 y9 y10 y11 y12 y13:Option V),σ=[some s!"h",some s!"A6",some s!"B:",some s!"Di",some s!"!{h}",y5,y6,y7,y8,y9,y10,y11,y12,y13]/\LI C.Desk.addr H H' a x T L B sl bl u v bs fs ds h st i) ⟨Nat.zero_le _,0,bl,B,_,_,_,_,_,_,_,_,_,_,_,_,_,rfl,l0⟩ ?_ ?_
 ·clear l0;rintro i σ H1 hi ⟨_,h,bl,B,bs,fs,ds,st,y5,y6,y7,y8,y9,y10,y11,y12,y13,rfl,l⟩;have hS1:=zsP hS fun o ho=>s!"G.".1
  have lf:=l.bo.len;have ln:=l.ln;have hr0:=l.bo.hr;left;refine ⟨_,_,_,_,_,rfl,SqL.of l.so,hu,hv,s!"c",fun r H2 k n1 n2 n3 s2 nr e2 P=>?_⟩
  obtain ⟨fr1,fr2,fr3⟩:=xU l.D nr
  replace l:=l.same s2
  have M:=l.mo st.f s!"J9";left;refine zr (fun σ H'=>∃(h:Nat) (bl B:Addr) (bs:List Addr) (fs:List (Str->Option Tb)) (ds:List yf) (st:DSt) (y6 y9 y10 y11 y12 y13:Option V),σ=[some s!"h",some s!"A6",some s!"B:",some s!"Di",some s!"!{h}",some s!"!{(0+i)}",y6,some s!"Al",some s!"Bs",y9,y10,y11,y12,y13]/\LI C.Desk.addr H H' a x T L B sl bl u v bs fs ds h st (i+1)/\H' r=some s!"q{[.int k,.str n1,.str n2,.str n3]}") ?_ ?_
  ·left;walk_at "ite"
   ·left;rename_i k8 lw H3 s3 n3' e3;have P12:=P.k1;refine zbj (ts:=[Str.ofString "undo",Str.ofString "undo",Str.ofString "redo"]) s!"Bz" s!"a" (by show k-9<3;omega) fun t ht=>?_
    have hw:t=Str.ofString "undo"\/t=Str.ofString "redo":=by
     have:=List.mem_of_getElem? ht;simp only [List.mem_cons,List.not_mem_nil,or_false] at this;rcases this with z | z | z
     ·exact .inl z
     ·exact .inl z
     ·exact .inr z
    have l3:=l.same s3;left;refine ⟨x,T,L,B,bl,st,bs,fs,ds,h,t,rfl,hw,l3.D,l3.F,l3.bk,l3.ap,l3.bo,l3.mo,by omega,fun r4 H4 h' st' B' rr hb e4 D' F' bo' bk' _=>?_⟩
    have l4:=l3.rest rr hb D' F' bo';left;exact ⟨h',bl,B',bs,fs,ds,st',_,_,_,_,_,_,rfl,⟨l4.D,l4.F,l4.bk,l4.ap,l4.bo,l4.mo,by omega,l4.sc,l4.so,l4.l1,l4.l2⟩,yg.lst rr l3.D s!"G," fr1 fr2⟩
   ·left;rename_i k8;refine ⟨r,_,_,k,n1,n2,n3,rfl,SqL.of e2,P,by omega,by decide,fun r3 H3 t nl nx v m s3 e3 en tv tx ok=>?_⟩
    obtain ⟨b,hb⟩:∃b,bs[h]? =some b:=⟨_,List.getElem?_eq_getElem (by rw [l.bk.2.1];omega)⟩
    have l3:=l.same s3;have db:=l3.bk.2.2 h b st.f hb l3.bo.cur;left;refine zbX s!"Ad{l3.bk.1}" hb ?_;left;refine ⟨b,r,nl,v,st.f,k,n1,n2,n3,m,nx,rfl,SqL.of en,db,fun al=>?_,fun r4 H4 w uu g s4 dA du=>?_⟩
    ·obtain ⟨p1,p2,p3,p4,p5⟩:=ok.pre al;exact ⟨db,M,SqL.of s!"G,",P.k0,by omega,tv,p1,p2,p3,p4,p5⟩
    obtain ⟨e,d',er,ee,dg,hd⟩:=dA;have l4:=l3.same s4;have ndT:d'≠T:=by
     rcases hd with rfl | z
     ·exact l.ap.t _ s!"D:"
     ·exact (xU l3.D z).2.2
    left;rcases line_step P ok M du with ⟨wn,rfl,stp⟩ | ⟨rfl,o,rfl,stp⟩
    ·refine ⟨_,_,_,_,_,_,rfl,l4.D,l4.F,tx,stp.tell l4.D fun B2 H5 r5 hb5 D5 rr H6 s6 e6=>?_⟩
     have ee6:=s6.obj s!"J!";have fl:zQ uu=true:=by rcases stp.flat with rfl | ⟨_,rfl⟩ <;> rfl
     have l6:=(l4.rest r5 hb5 D5 l4.F l4.bo).same s6;have er6:=s6.obj (yg.lst r5 l4.D (s!"C%".obj e2) fr1 fr2);left;refine yi (Cmp.pair (d:=3) s!"G/" s!"A5{ee6}" rfl fl) ?_;left;rw [if_neg (by simpa using wn)]
     left;exact ⟨h,bl,B2,bs,fs,ds,st,_,_,_,_,_,_,rfl,⟨l6.D,l6.F,l6.bk,l6.ap,l6.bo,l6.mo,by omega,l6.sc,l6.so,l6.l1,l6.l2⟩,er6⟩
    ·refine ⟨_,_,_,_,_,_,rfl,l4.D,l4.F,tx,stp.tell l4.D fun B2 H5 r5 hb5 D5 rr H6 s6 e6=>?_⟩
     have ee6:=s6.obj s!"J!";have fl:zQ uu=true:=by rcases stp.flat with rfl | ⟨_,rfl⟩ <;> rfl
     have er6:=s6.obj (yg.lst r5 l4.D (s!"C%".obj e2) fr1 fr2);left;refine yi (Cmp.pair (d:=3) s!"G/" s!"A5{ee6}" rfl fl) ?_;left;rw [if_pos (decide_eq_true rfl)];have dl:st.dn.length+1<=60:=by rw [l.bo.dn,List.length_take];omega
     have F':=stp.fine l4.F dl;have D6:=D5.same s6;have bk6:=(l4.bk.rest l4.ap l4.D r5).same s6;have lbs:=bk6.2.1;have lm:s!"G0".length<=50:=by rw [List.length_map];omega
     left;refine zp2.Ke s!"Ad{bk6.1}" fun p7 H7 s7 n7 e7=>?_
     rw [show (h:Int)+1=((h+1:Nat):Int) by omega,zgA,<-List.map_take] at e7
     have lt:(bs.take (h+1)).length=h+1:=by rw [List.length_take];omega
     left;rename_i p8 H8 s8 n8 e8;refine zhM.Qd (s8.obj e7) e8 s!"B6{zf (by rw [List.length_map,lt];show h+1+1<=1000;omega)}" fun p9 H9 s9 n9 e9=>?_
     left;have s79:=s7.trans s!"Jx";have K4:=l4.keep r5 hb5;have f9:=xU (D6.same (s7.trans s8)) n9;have M':=F'.map M P.h1 rfl;have dg9:=(dg.rest ndT l4.D r5).same s!"G:";have bk9:=bk6.same s79;refine ⟨h+1,p9,B2,bs.take (h+1)++[d'],fs.take (h+1)++[zk st.f n1 o],ds.take h++[(n1,st.f n1,o)],_,_,_,_,_,_,_,rfl,⟨D6.same s79,F',⟨by rw [List.map_append];exact e9,by simp [lbs],fun j y f hy hf=>?_⟩,⟨f9.1,f9.2.1,fun y hy=>?_⟩,l4.bo.new n1 o,fun f hf=>?_,by simp;omega,fun z hz=>⟨s!"G:".obj (K4.2.1 z hz).1,(K4.2.1 z hz).2⟩,s!"G:".obj K4.2.2.1,l.l1,K4.2.2.2⟩,s79.obj er6⟩
     ·have lt2:(fs.take (h+1)).length=h+1:=by rw [List.length_take];omega
      by_cases c:j<h+1
      ·rw [List.getElem?_append_left s!"a",List.getElem?_take_of_lt c] at hy hf
       exact bk9.2.2 j y f hy hf
      ·have jl:=s!"Ip".1;rw [List.length_append,lt] at jl;obtain rfl:j=h+1:=by simp at jl;omega
       rw [List.getElem?_append_right s!"a",lt,Nat.sub_self] at hy
       rw [List.getElem?_append_right s!"a",lt2,Nat.sub_self] at hf
       cases hy;cases hf;exact dg9
     ·rcases List.mem_append.mp hy with hy | hy
      ·exact l.ap.t y s!"G={hy}"
      ·rw [List.mem_singleton.mp hy];exact ndT
     ·rcases List.mem_append.mp hf with hf | hf
      ·exact l.mo f s!"G={hf}"
      ·rw [List.mem_singleton.mp hf];exact M'
  ·rintro σ' H3 ⟨h,bl,B,bs,fs,ds,st,y6,y9,y10,y11,y12,y13,rfl,l,er⟩;obtain ⟨b,hb⟩:∃b,bs[h]? =some b:=⟨_,List.getElem?_eq_getElem (by have:=l.bo.len;have:=l.bo.hr;rw [l.bk.2.1];omega)⟩
   have M:=l.mo st.f s!"J9";have db:=l.bk.2.2 h b st.f hb l.bo.cur;left;refine zbX s!"Ad{l.bk.1}" hb ?_;left;refine ⟨x,T,L,B,b,st,n1,rfl,l.D,l.F,db,M,P.h1,fun H4 s4=>?_⟩
   replace l:=l.same s4
   replace er:=s4.obj er
   left;refine zbX s!"Ad{l.bk.1}" hb ?_;left;refine ⟨x,T,L,B,b,st,n2,rfl,l.D,l.F,db.same s4,M,P.h2,fun H5 s5=>?_⟩
   left;exact ⟨by omega,h,bl,B,bs,fs,ds,st,_,_,_,_,_,_,_,_,_,rfl,l.same s5⟩
 ·clear l0;rintro σ H1 ⟨_,h,bl,B,bs,fs,ds,st,y5,y6,y7,y8,y9,y10,y11,y12,y13,rfl,l⟩;left;refine zbd (fun m σ H'=>∃(B:Addr) (st:DSt) (y8:Option V),σ=[some s!"h",some s!"A6",some s!"B:",some s!"Di",some s!"C3",y5,y6,y7,y8,y9,y10,y11,y12,y13]/\LI C.Desk.addr H H' a x T L B sl bl u v bs fs ds m st z2.toNat) h ⟨B,st,y8,rfl,l⟩ ?_
  clear l;rintro m σ H1 ⟨B,st,y8,rfl,l⟩;left;walk_at "ite"
  ·refine ⟨fun σ' H'=>∃(B:Addr) (st:DSt) (y8:Option V),σ'=[some s!"h",some s!"A6",some s!"B:",some s!"Di",some s!"!{(m-1:Nat)}",y5,y6,y7,y8,y9,y10,y11,y12,y13]/\LI C.Desk.addr H H' a x T L B sl bl u v bs fs ds (m-1) st z2.toNat,fun σ' H' h=>⟨m-1,by omega,h⟩,?_⟩
   left;refine ⟨x,T,L,B,bl,st,bs,fs,ds,m,_,rfl,.inl rfl,l.D,l.F,l.bk,l.ap,l.bo,l.mo,by have:=l.ln;omega,fun r4 H4 h' st' B' rr hb e4 D' F' bo' bk' hh=>?_⟩
   have l4:=l.rest rr hb D' F' bo';obtain rfl:=hh rfl;left;exact ⟨B',st',_,rfl,l4⟩
  ·obtain rfl:m=0:=by omega
   have tx:Tx s!"DD":=⟨by unfold Asc;decide+kernel,by decide⟩
   have sp:Txt.split s!"DD" " "=[Str.ofString "undo"]:=by kernel_rfl
   have tx2:Tx s!"C,":=⟨by unfold Asc;decide+kernel,by decide⟩
   have sp2:Txt.split s!"C," " "=[Str.ofString "names"]:=by kernel_rfl
   have dn:st.dn=[]:=l.bo.dn;have f0:st.f=fun _=>none:=by
    have:=l.F.hist;rw [dn] at this;exact this
   left;refine ⟨_,_,_,_,_,_,rfl,l.D,l.F,tx,(.undo sp (fun _ H2 s2=>.inr s!"uuuu${⟨rfl,fun rr H3 s3 e3=>?_⟩}") fun dn0 d z=>absurd (dn.symm.trans z) s!"j")⟩
   have D3:=l.D.same s!"B@";left;rename_i r4 H4 s4 n4 e4;refine yi (Cmp.pair (d:=3) s!"G-" s!"B1" rfl rfl) ?_;left;refine ⟨_,_,_,_,_,_,rfl,D3.same s4,l.F,tx2,.names sp2 fun H5 t s5 ht=>?_⟩
   intro rr H6 s6 e6;obtain rfl:t=Str.ofString "none":=by
    rw [f0] at ht;exact ht.uniq ⟨[],⟨fun n=>⟨fun z=>(nomatch z),fun z=>absurd rfl z⟩,.nil,rfl⟩,rfl⟩
   left;rename_i r7 H7 s7 n7 e7;refine yi (Cmp.pair (d:=3) s!"A5{s7.obj e6}" s!"A5{e7}" rfl rfl) ?_;exact q _
end
theorem zsQ {D:Option Addr} {its:Array Value} {n:Nat} {L:Array s!"Bv"} (l:K.lookup a=some ⟨.type "tuple",D,.seq its n,L⟩) (c:its.size<=sizeLine) (d:zi xs its.toList):∀H,SqT K H a xs:=fun _=>.inr ⟨_,_,_,l,rfl,rfl,c,d⟩
variable {p:List Value->Prop}
theorem ar1 (h:∀a0,p [a0]):∀us:List Value,us.length=1->p us
 | [a0],_=>h a0
theorem ar2 (h:∀a0 a1,p [a0,a1]):∀us:List Value,us.length=2->p us
 | [a0,a1],_=>h a0 a1
theorem ar3 (h:∀a0 a1 a2,p [a0,a1,a2]):∀us:List Value,us.length=3->p us
 | [a0,a1,a2],_=>h a0 a1 a2
theorem ar4 (h:∀a0 a1 a2 a3,p [a0,a1,a2,a3]):∀us:List Value,us.length=4->p us
 | [a0,a1,a2,a3],_=>h a0 a1 a2 a3
structure FnK (K:PySem.W.Frag) (x q:Str) (st:Stmt) (f:Addr):Type where
 oc:Value
 od:Option Addr
 an:Option Addr
 sl:Array s!"Bv"
 kV:Value
 dc:Value
 pm:Value
 cd:Value
 ct:Value
 l:K.lookup f=some ⟨oc,od,.func s!"J#",sl⟩
 c:PySem.W.codeIn K cd q=true
 k:PySem.W.keepIn K s!"An"=true
structure Fx (K:PySem.W.Frag) (x:Str) (st:Stmt):Type where
 f:Addr
 a:PySem.W.nsIn K mainGlobals x=some s!"AV"
 g:FnK K x x st f
theorem Fx.src {h:Heap} {x:Str} {st:Stmt} (F:Fx K x st) (X:K.In h) (G:h.Ns mainGlobals mg) (hb:∀(kV doc pm:Value) (an:Option Addr) (cdv ct:Value) (us:List Value),us.length=ps.length->bindArgs s!"F`" ⟨us,[]⟩=pure s!"Bu"):Src K mg x st ps:=zp3 X G F.a F.g.l F.g.c F.g.k hb
def Fx.of {K:PySem.W.Frag} {x:Str} {st:Stmt} {f:Addr} {oc kV dc pm cd ct:Value} {od an:Option Addr} {sl:Array s!"Bv"} (a:PySem.W.nsIn K mainGlobals x=some s!"AV") (l:K.lookup f=some ⟨oc,od,.func (PySem.W.fnOf x x (zD st) (zt st) s!"B;" .none kV dc pm an cd ct),sl⟩) (c:PySem.W.codeIn K cd x=true) (k:PySem.W.keepIn K s!"An"=true):Fx K x st:=⟨f,a,⟨oc,od,an,sl,kV,dc,pm,cd,ct,l,c,k⟩⟩
structure Mx (K:PySem.W.Frag) (C:Addr) (x q:Str) (st:Stmt):Type where
 f:Addr
 a:PySem.W.findIn K s!"s" x=some s!"AV"
 i:PySem.W.isFn K s!"An"=true
 g:FnK K x q st f
def Mx.of {K:PySem.W.Frag} {C:Addr} {x q:Str} {st:Stmt} {f:Addr} {oc kV dc pm cd ct:Value} {od an:Option Addr} {sl:Array s!"Bv"} (a:PySem.W.findIn K s!"s" x=some s!"AV") (i:PySem.W.isFn K s!"An"=true) (l:K.lookup f=some ⟨oc,od,.func s!"J#",sl⟩) (c:PySem.W.codeIn K cd q=true) (k:PySem.W.keepIn K s!"An"=true):Mx K C x q st:=⟨f,a,i,⟨oc,od,an,sl,kV,dc,pm,cd,ct,l,c,k⟩⟩
theorem Mx.src {C:Addr} {x q:Str} {st:Stmt} (F:Mx K C x q st) (hb:∀(kV doc pm:Value) (an:Option Addr) (cdv ct:Value) (us:List Value),us.length=ps.length->bindArgs (PySem.W.fnOf x q (zD st) (zt st) s!"B;" .none kV doc pm an cdv ct) ⟨us,[]⟩=pure s!"Bu"):SrcM K x q st F.f ps:=zof F.g.l F.g.c F.g.k hb
structure Lx (K:PySem.W.Frag) (x:Str):Type where
 {c:Addr}
 b:PySem.W.nsIn K mainGlobals x=some s!"rA8"
structure Ex (K:PySem.W.Frag) (x:Str):Type where
 {c:Addr}
 b:PySem.W.nsIn K mainGlobals x=some s!"rA8"
 e:PySem.W.excIn K c [.type "ValueError",.type "Exception",.type "BaseException",.type "object"] "ValueError.__new__"=true
 g:PySem.W.findIn K s!"A8" "__getattribute__"=some s!"Ep"
 h:PySem.W.findIn K s!"A8" "__getattr__"=some none
 fx:PySem.W.findIn K s!"A8" "__class__"=some s!"D$"
 o:PySem.W.mroIn K c s!"Cv"=some true
 v:PySem.W.mroIn K c s!"AF"=some true
 s:PySem.W.mroIn K c s!"A8"=some true
 t:PySem.W.typeIn K s!"A8"=some s!"A("
def Ex.ck {K:PySem.W.Frag} {h base:Heap} {mg:Str->Option Value} {x:Str} (E:Ex K x) (Y:K.In base) (X:K.In h) (G:h.Ns mainGlobals mg):CK K mg base x:=zr7 Y (PySem.W.mg_of X G E.b) E.e E.g E.h E.fx E.o E.v E.s E.t
theorem all_mk {l:PySem.W.OpenLaw} {w:World} {h:Heap} {fa:Addr} (X:K.In h) (G:h.Ns mainGlobals mg) (hfa:mg "law"=some s!"Aq") {tT0 tr0 ts0 Tu0 TF0 T0_0 T0_1 T0_2 T0_3 T0_4 T0_5 T0_6 T0_7 T0_8 T0_9 T0_10 T0_11 T0_12 T0_13 T0_14 T0_15 T0_16 C9 C11 fI9 U9:Addr} {tk0 tk1 tu0 tu1 tu2 tu3:Tok} {odI9 anI9:Option Addr} {slI9:Array s!"Bv"} {kVI9 dcI9 pmI9 cdI9 ctI9:Value}
 (b11x:PySem.W.nsIn K mainGlobals "Desk"=some s!"rDj")
 (y0T:PySem.W.nsIn K mainGlobals "OWN_TABLE"=some s!"r4{tT0}")
 (p0U:PySem.W.nsIn K mainGlobals "WORD_FORM"=some s!"r4{Tu0}")
 (pF0:PySem.W.nsIn K mainGlobals "FORMS"=some s!"r4{TF0}")
 (y0l:∀H,SqT K H tT0 [.ref tr0,.ref ts0])
 (qF0:∀H,SqT K H TF0 [.ref T0_0,.ref T0_1,.ref T0_2,.ref T0_3,.ref T0_4,.ref T0_5,.ref T0_6,.ref T0_7,.ref T0_8,.ref T0_9,.ref T0_10,.ref T0_11,.ref T0_12,.ref T0_13,.ref T0_14,.ref T0_15,.ref T0_16])
 (y0r:∀H,SqT K H tr0 [.int 1,.int 0])
 (y0s:∀H,SqT K H ts0 [.int 0,.int 1])
 (qu0:∀H,SqT K H Tu0 ((["word","NAME"]:List Str).map V.str))
 (q0_0:∀H,SqT K H T0_0 ((["table","NAME","NUMBER","NUMBER","NUMBER","NUMBER"]:List Str).map V.str))
 (q0_1:∀H,SqT K H T0_1 ((["let","NAME","together","KNOWN","KNOWN"]:List Str).map V.str))
 (q0_2:∀H,SqT K H T0_2 ((["let","NAME","back","KNOWN"]:List Str).map V.str))
 (q0_3:∀H,SqT K H T0_3 ((["drop","KNOWN"]:List Str).map V.str))
 (q0_4:∀H,SqT K H T0_4 ((["undo"]:List Str).map V.str))
 (q0_5:∀H,SqT K H T0_5 ((["redo"]:List Str).map V.str))
 (q0_6:∀H,SqT K H T0_6 ((["names"]:List Str).map V.str))
 (q0_7:∀H,SqT K H T0_7 ((["show","KNOWN"]:List Str).map V.str))
 (q0_8:∀H,SqT K H T0_8 ((["number","KNOWN"]:List Str).map V.str))
 (q0_9:∀H,SqT K H T0_9 ((["steady","KNOWN"]:List Str).map V.str))
 (q0_10:∀H,SqT K H T0_10 ((["spell","KNOWN"]:List Str).map V.str))
 (q0_11:∀H,SqT K H T0_11 ((["sign","NUMBER","NUMBER"]:List Str).map V.str))
 (q0_12:∀H,SqT K H T0_12 ((["teeth","NUMBER","NUMBER"]:List Str).map V.str))
 (q0_13:∀H,SqT K H T0_13 ((["twelve","NUMBER","NUMBER"]:List Str).map V.str))
 (q0_14:∀H,SqT K H T0_14 ((["points","NUMBER","NUMBER"]:List Str).map V.str))
 (q0_15:∀H,SqT K H T0_15 ((["shuffle","NUMBER","NUMBER"]:List Str).map V.str))
 (q0_16:∀H,SqT K H T0_16 ((["parts","NUMBER","NUMBER","NUMBER","NUMBER"]:List Str).map V.str))
 (F1:Fx K "is_whole" zaW)
 (F2:Fx K "is_pair_of_wholes" yb)
 (F3:Fx K "need_from" wR)
 (F4:Fx K "need_to" zb4)
 (F5:Fx K "shared" zdk)
 (F6:Fx K "steps_of" zaX)
 (F7:Fx K "twelve_apart" xh)
 (F8:Fx K "twelve" zdl)
 (F9:Fx K "is_table" zaY)
 (F10:Fx K "need_table" x8)
 (F11:Fx K "row_together" xi)
 (F12:Fx K "together" zaZ)
 (F13:Fx K "back_of" zb5)
 (F14:Fx K "sign_of_whole" yJ)
 (F15:Fx K "number_of" wS)
 (F16:Fx K "steady_of" wT)
 (F17:Fx K "is_run" zdn)
 (F18:Fx K "is_word" zb6)
 (F19:Fx K "need_word" wU)
 (F20:Fx K "table_of" za0)
 (F21:Fx K "times_within" xj)
 (F22:Fx K "taken_off" wV)
 (F23:Fx K "word_of" zb7)
 (F24:Fx K "is_number" wW)
 (F25:Fx K "shown_table" xF)
 (F26:Fx K "shown_run" wY)
 (F27:Fx K "shown_word" x9)
 (F28:Fx K "need_text" wZ)
 (F29:Fx K "read_numbers" xk)
 (F30:Fx K "read_table" wa)
 (F31:Fx K "read_word" w6)
 (F32:Fx K "is_name" zb8)
 (F33:Fx K "piece_fits" wc)
 (F34:Fx K "has_form" za1)
 (F35:Fx K "word_behind" xG)
 (F36:Fx K "form_of" zb9)
 (F37:Fx K "need_short_places" yc)
 (F38:Fx K "told_of_table" yK)
 (F39:Fx K "told_of_numbers" yq)
 (F40:Mx K C11 "__init__" "Desk.__init__" yL)
 (F41:Mx K C11 "need_known" "Desk.need_known" yr)
 (F42:Mx K C11 "new_table" "Desk.new_table" yz)
 (F43:Mx K C11 "keep" "Desk.keep" zaa)
 (F44:Mx K C11 "do_deed" "Desk.do_deed" xm)
 (F45:Mx K C11 "undo" "Desk.undo" zab)
 (F46:Mx K C11 "redo" "Desk.redo" zac)
 (F47:Mx K C11 "shown_names" "Desk.shown_names" yj)
 (F48:Mx K C11 "tell" "Desk.tell" zad)
 (F49:Fx K "_law_cell" zae)
 (F50:Fx K "_law_mixed" we)
 (F51:Fx K "_law_draws" wg)
 (F52:Fx K "_law_word" zaf)
 (F53:Fx K "_law_table" wj)
 (F54:Fx K "_law_product" xn)
 (F55:Fx K "_law_backward" yM)
 (F56:Fx K "_law_shown" wk)
 (F57:Fx K "_law_names" wm)
 (F58:Fx K "_law_runs" zag)
 (F59:Fx K "_law_tell" zah)
 (F60:Fx K "_law_spare" wo)
 (F61:Fx K "_law_word_of" xo)
 (F62:Fx K "_law_plan" zai)
 (F63:Fx K "_law_line" zaj)
 (F64:Fx K "_law_after" wp)
 (F65:Fx K "_law_due" za3)
 (F66:Fx K "_law_looks" wq)
 (F67:Fx K "_law_moved" wr)
 (F68:Fx K "law" zeF)
 (z0:PySem.W.nsIn K mainGlobals "abs"=some none)
 (z1:PySem.W.nsIn K mainGlobals "all"=some none)
 (z2:PySem.W.nsIn K mainGlobals "bool"=some none)
 (z3:PySem.W.nsIn K mainGlobals "dict"=some none)
 (z4:PySem.W.nsIn K mainGlobals "int"=some none)
 (z5:PySem.W.nsIn K mainGlobals "isinstance"=some none)
 (z6:PySem.W.nsIn K mainGlobals "len"=some none)
 (z7:PySem.W.nsIn K mainGlobals "list"=some none)
 (z8:PySem.W.nsIn K mainGlobals "max"=some none)
 (z9:PySem.W.nsIn K mainGlobals "min"=some none)
 (z10:PySem.W.nsIn K mainGlobals "range"=some none)
 (z11:PySem.W.nsIn K mainGlobals "sorted"=some none)
 (z12:PySem.W.nsIn K mainGlobals "str"=some none)
 (z13:PySem.W.nsIn K mainGlobals "tuple"=some none)
 (z14:PySem.W.nsIn K mainGlobals "zip"=some none)
 (y0:PySem.W.nsIn K mainGlobals "MOST_FIGURES"=some s!"r{.int 60 tk0}")
 (y1:PySem.W.nsIn K mainGlobals "MOST_LETTERS"=some s!"r{.int 8 tk1}")
 (u0T:PySem.W.nsIn K mainGlobals "FIGURES"=some s!"r{.str "0123456789" tu0}")
 (u1T:PySem.W.nsIn K mainGlobals "EMPTY_WORD"=some s!"r{.str "none" tu1}")
 (u2T:PySem.W.nsIn K mainGlobals "LETTERS"=some s!"r{.str "abcdefghijklmnopqrstuvwxyz" tu2}")
 (u3T:PySem.W.nsIn K mainGlobals "NO_NAMES"=some s!"r{.str "none" tu3}")
 (pg11:PySem.W.plainGet K C11 Str.empty=true)
 (hd11:PySem.W.hasDictIn K C11=true)
 (po11:PySem.W.plainOver K C11=true)
 (sa11:PySem.W.findIn K s!"Dj" "__setattr__"=some s!"D!")
 (mk11:PySem.W.makesIn K C11=true)
 (kc11:PySem.W.keepIn K s!"Dj"=true)
 (na11_0:PySem.W.findIn K s!"Dj" "tables"=some none)
 (na11_1:PySem.W.findIn K s!"Dj" "done"=some none)
 (na11_2:PySem.W.findIn K s!"Dj" "taken_back"=some none)
 (E0:Lx K "SawError")
 (E1:Ex K "NoCount")
 (E2:Ex K "NotOdd")
 (E3:Ex K "TooMany")
 (E4:Ex K "NotApart")
 (E5:Ex K "NoTable")
 (E6:Ex K "NoWord")
 (E7:Ex K "NoText")
 (E8:Ex K "NoLine")
 (E10:Ex K "NoDeed")
 (b9x:PySem.W.nsIn K mainGlobals "NoName"=some s!"rB]")
 (d9x:PySem.W.findIn K s!"B]" "__init__"=some s!"r4{fI9}")
 (e9x:zlc K C9 fI9=true)
 (g9x:PySem.W.findIn K s!"B]" "__getattribute__"=some s!"Ep")
 (h9x:PySem.W.findIn K s!"B]" "__getattr__"=some none)
 (fx9:PySem.W.findIn K s!"B]" "__class__"=some s!"D$")
 (o9x:PySem.W.mroIn K C9 s!"Cv"=some true)
 (v9x:PySem.W.mroIn K C9 s!"AF"=some true)
 (s9x:s!"J$".isSome=true)
 (p9x:PySem.W.findIn K s!"B]" "__setattr__"=some s!"D!")
 (q9x:PySem.W.findIn K s!"B]" "name"=some none)
 (w9x:s!"J$".any (fun cd=>zcn cd.mro && cd.hasDict)=true)
 (m9x:PySem.W.nsIn K mainGlobals "SawError"=some s!"r4{U9}")
 (n9x:PySem.W.specialIn K s!"4{U9}" "__getattribute__"=some s!"FQ")
 (j9x:PySem.W.readsIn K U9 s!"A("=true)
 (k9x:PySem.W.findCls K s!"4{U9}" s!"A(" "__init__"=some s!"FR")
 (lI9:K.lookup fI9=some ⟨.type "function",odI9,.func (PySem.W.fnOf "__init__" "NoName.__init__" (zD xR) (zt xR) (za xR) .none kVI9 dcI9 pmI9 anI9 cdI9 ctI9),slI9⟩)
 (cI9:PySem.W.codeIn K cdI9 "NoName.__init__"=true)
 (kI9:PySem.W.keepIn K s!"4{fI9}"=true)
 (x9x:PySem.W.mroIn K C9 s!"B]"=some true)
 (y9x:PySem.W.typeIn K s!"B]"=some s!"A(")
 (r0:K1 K E7.c E7.c true)
 (r1:K1 K C9 C9 true)
 (r2:K1 K E8.c C9 false)
 (r3:K1 K E8.c E8.c true)
 (r4:K1 K E5.c C9 false)
 (r5:K1 K E5.c E8.c false)
 (r6:K1 K E5.c E5.c true)
 (r7:K1 K E6.c C9 false)
 (r8:K1 K E6.c E8.c false)
 (r9:K1 K E6.c E5.c false)
 (r10:K1 K E6.c E6.c true)
 (r11:K1 K E3.c C9 false)
 (r12:K1 K E3.c E8.c false)
 (r13:K1 K E3.c E5.c false)
 (r14:K1 K E3.c E6.c false)
 (r15:K1 K E3.c E3.c true)
 (r16:K1 K E10.c C9 false)
 (r17:K1 K E10.c E8.c false)
 (r18:K1 K E10.c E5.c false)
 (r19:K1 K E10.c E6.c false)
 (r20:K1 K E10.c E3.c false)
 (r21:K1 K E10.c E10.c true)
 (r22:K1 K E2.c C9 false)
 (r23:K1 K E2.c E8.c false)
 (r24:K1 K E2.c E5.c false)
 (r25:K1 K E2.c E6.c false)
 (r26:K1 K E2.c E3.c false)
 (r27:K1 K E2.c E10.c false)
 (r28:K1 K E2.c E2.c true)
 (r29:K1 K E4.c C9 false)
 (r30:K1 K E4.c E8.c false)
 (r31:K1 K E4.c E5.c false)
 (r32:K1 K E4.c E6.c false)
 (r33:K1 K E4.c E3.c false)
 (r34:K1 K E4.c E10.c false)
 (r35:K1 K E4.c E2.c false)
 (r36:K1 K E4.c E4.c true)
 (r37:K1 K E1.c C9 false)
 (r38:K1 K E1.c E8.c false)
 (r39:K1 K E1.c E5.c false)
 (r40:K1 K E1.c E6.c false)
 (r41:K1 K E1.c E3.c false)
 (r42:K1 K E1.c E10.c false)
 (r43:K1 K E1.c E2.c false)
 (r44:K1 K E1.c E4.c false)
 (r45:K1 K E1.c E1.c true):
  ∃fd:FuncData,(∀(s:Shared) (v:Value),BindsTo s fd ⟨[v],[]⟩ [("_law_script",v)])/\∀base:Heap,K.In base->base.Ns mainGlobals mg->FnOk l.prog w K mg base (CXE l.prog w) 11 fa fd ["_law_script"] (zib K):=by
 have Kc:Cst K mg:=⟨⟨_,PySem.W.mg_of X G y0⟩,⟨_,PySem.W.mg_of X G y1⟩,⟨tT0,tr0,ts0,PySem.W.mg_of X G y0T,y0l,y0r,y0s⟩,⟨_,PySem.W.mg_of X G u0T⟩,⟨_,PySem.W.mg_of X G u1T⟩,⟨_,PySem.W.mg_of X G u2T⟩,⟨_,PySem.W.mg_of X G u3T⟩,⟨_,PySem.W.mg_of X G p0U,qu0⟩,⟨_,[T0_0,T0_1,T0_2,T0_3,T0_4,T0_5,T0_6,T0_7,T0_8,T0_9,T0_10,T0_11,T0_12,T0_13,T0_14,T0_15,T0_16],PySem.W.mg_of X G pF0,qF0,(.cons q0_0 (.cons q0_1 (.cons q0_2 (.cons q0_3 (.cons q0_4 (.cons q0_5 (.cons q0_6 (.cons q0_7 (.cons q0_8 (.cons q0_9 (.cons q0_10 (.cons q0_11 (.cons q0_12 (.cons q0_13 (.cons q0_14 (.cons q0_15 s!"C@{q0_16}"))))))))))))))))⟩⟩;have B:Blt mg:=⟨PySem.W.mg_none_of X G z0,PySem.W.mg_none_of X G z1,PySem.W.mg_none_of X G z2,PySem.W.mg_none_of X G z3,PySem.W.mg_none_of X G z4,PySem.W.mg_none_of X G z5,PySem.W.mg_none_of X G z6,PySem.W.mg_none_of X G z7,PySem.W.mg_none_of X G z8,PySem.W.mg_none_of X G z9,PySem.W.mg_none_of X G z10,PySem.W.mg_none_of X G z11,PySem.W.mg_none_of X G z12,PySem.W.mg_none_of X G z13,PySem.W.mg_none_of X G z14⟩;have e:=hfa.symm.trans s!"J%";cases e;refine ⟨PySem.W.fnOf "law" "law" (zD zeF) (zt zeF) (za zeF) .none F68.g.kV F68.g.dc F68.g.pm F68.g.an F68.g.cd F68.g.ct,fun s v=>.of_eq rfl,fun base hK hG=>?_⟩
 let C:Cls K mg base:=⟨⟨E0.c,PySem.W.mg_of X G E0.b⟩,E1.ck hK X G,E2.ck hK X G,E3.ck hK X G,E4.ck hK X G,E5.ck hK X G,E6.ck hK X G,E7.ck hK X G,E8.ck hK X G,⟨C9,PySem.W.mg_of X G b9x,fI9,zqG hK e9x,⟨s9x,g9x,h9x,fx9,o9x,v9x⟩,⟨p9x,q9x,w9x⟩,U9,PySem.W.mg_of X G m9x,n9x,j9x,k9x⟩,E10.ck hK X G,⟨C11,PySem.W.mg_of X G b11x,⟨pg11,hd11,po11,sa11⟩,na11_0,na11_1,na11_2,F40.f,⟨F40.a,F40.i,F40.g.k⟩,F41.f,⟨F41.a,F41.i,F41.g.k⟩,F42.f,⟨F42.a,F42.i,F42.g.k⟩,F43.f,⟨F43.a,F43.i,F43.g.k⟩,F44.f,⟨F44.a,F44.i,F44.g.k⟩,F45.f,⟨F45.a,F45.i,F45.g.k⟩,F46.f,⟨F46.a,F46.i,F46.g.k⟩,F47.f,⟨F47.a,F47.i,F47.g.k⟩,F48.f,⟨F48.a,F48.i,F48.g.k⟩,⟨mk11,F40.a,F40.i,kc11⟩⟩⟩
 have R:Rel K mg base C:=⟨r0,r1,r2,r3,r4,r5,r6,r7,r8,r9,r10,r11,r12,r13,r14,r15,r16,r17,r18,r19,r20,r21,r22,r23,r24,r25,r26,r27,r28,r29,r30,r31,r32,r33,r34,r35,r36,r37,r38,r39,r40,r41,r42,r43,r44,r45,zqI s9x v9x x9x y9x⟩;have D_NoName:=zjx (P:=l.prog) (w:=w) (base:=base) (C:=C) (zn3 (st:=xR) (ps:=["self","name"]) lI9 cI9 kI9 s!"Au")
 have D_is_whole:=zgs (P:=l.prog) (w:=w) (F1.src X G s!"(") B C R Kc
 have D_is_pair_of_wholes:=zak (F2.src X G s!"(") B C R Kc D_is_whole
 have D_need_from:=zfl (P:=l.prog) (w:=w) (F3.src X G s!"Au") B C R Kc
 have D_need_to:=zho (P:=l.prog) (w:=w) (F4.src X G s!"Au") B C R Kc
 have D_shared:=zjy (P:=l.prog) (w:=w) (F5.src X G s!"Au") B C R Kc
 have D_steps_of:=zgt (F6.src X G s!"Au") B C R Kc D_need_from
 have D_twelve_apart:=zcA (F7.src X G s!"Au") B C R Kc D_steps_of
 have D_twelve:=zjB (F8.src X G s!"Au") B C R Kc D_need_from D_shared D_twelve_apart
 have D_is_table:=zgu (F9.src X G s!"(") B C R Kc D_is_pair_of_wholes
 have D_need_table:=zdF (F10.src X G s!"(") B C R Kc D_is_table
 have D_row_together:=zcB (P:=l.prog) (w:=w) (F11.src X G s!"Au") B C R Kc
 have D_together:=zgv (F12.src X G s!"Au") B C R Kc D_need_table D_row_together
 have D_back_of:=zhp (F13.src X G s!"(") B C R Kc D_need_table
 have D_sign_of_whole:=zca (P:=l.prog) (w:=w) (F14.src X G s!"(") B C R Kc
 have D_number_of:=zfm (F15.src X G s!"(") B C R Kc D_need_table D_twelve
 have D_steady_of:=zfn (F16.src X G s!"(") B C R Kc D_number_of D_sign_of_whole
 have D_is_run:=zjC (F17.src X G s!"(") B C R Kc D_is_whole
 have D_is_word:=zhq (F18.src X G s!"(") B C R Kc D_is_run
 have D_need_word:=zfp (F19.src X G s!"(") B C R Kc D_is_word
 have D_table_of:=zgx (F20.src X G s!"(") B C R Kc D_need_word
 have D_times_within:=zcC (P:=l.prog) (w:=w) (F21.src X G s!"Au") B C R Kc
 have D_taken_off:=zfq (P:=l.prog) (w:=w) (F22.src X G s!"B2") B C R Kc
 have D_word_of:=zhr (F23.src X G s!"(") B C R Kc D_need_table D_times_within D_taken_off
 have D_is_number:=zfs (P:=l.prog) (w:=w) (F24.src X G s!"(") B C R Kc
 have D_shown_table:=zdu (F25.src X G s!"(") B C R Kc D_need_table
 have D_shown_run:=zft (P:=l.prog) (w:=w) (F26.src X G s!"(") B C R Kc
 have D_shown_word:=zdG (F27.src X G s!"(") B C R Kc D_need_word D_shown_run
 have D_need_text:=zfu (P:=l.prog) (w:=w) (F28.src X G s!"(") B C R Kc
 have D_read_numbers:=zcD (F29.src X G s!"(") B C R Kc D_is_number D_need_text
 have D_read_table:=zdH (F30.src X G s!"(") B C R Kc D_need_text D_read_numbers D_need_table
 have D_read_word:=zfw (F31.src X G s!"(") B C R Kc D_need_text D_read_numbers D_is_word
 have D_is_name:=zhs (P:=l.prog) (w:=w) (F32.src X G s!"(") B C R Kc
 have D_piece_fits:=zdI (F33.src X G s!"Au") B C R Kc D_is_number D_is_name
 have D_has_form:=zgz (F34.src X G s!"Au") B C R Kc D_piece_fits
 have D_word_behind:=zdw (F35.src X G s!"(") B C R Kc D_read_word
 have D_form_of:=zht (F36.src X G s!"(") B C R Kc D_has_form D_word_behind
 have D_need_short_places:=zam (F37.src X G s!"(") B C R Kc D_need_to
 have D_told_of_table:=zcb (F38.src X G s!"Au") B C R Kc D_shown_table D_number_of D_steady_of D_shown_word D_word_of
 have D_told_of_numbers:=za5 (P:=l.prog) (w:=w) (F39.src X G s!"Au") B C R Kc
 have D_Desk___init__:=zcc (P:=l.prog) (w:=w) C (F40.src s!"(") B R Kc
 have D_Desk_need_known:=za7 C (F41.src s!"B2") B R Kc D_NoName
 have D_Desk_new_table:=zbK C (F42.src s!"Au") B R Kc D_read_table D_table_of D_word_behind D_together D_back_of D_need_short_places
 have D_Desk_keep:=zfz (P:=l.prog) (w:=w) C (F43.src s!"B2") B R Kc
 have D_Desk_do_deed:=zcE C (F44.src s!"B2") B R Kc D_Desk_keep
 have D_Desk_undo:=zfA C (F45.src s!"(") B R Kc D_Desk_keep
 have D_Desk_redo:=zfB C (F46.src s!"(") B R Kc D_Desk_keep
 have D_Desk_shown_names:=zaA (P:=l.prog) (w:=w) C (F47.src s!"(") B R Kc
 have D_Desk_tell:=zfF C (F48.src s!"Au") B R Kc D_form_of D_Desk_need_known D_Desk_new_table D_Desk_do_deed D_shown_table D_Desk_undo D_Desk_redo D_Desk_shown_names D_told_of_table D_told_of_numbers
 have D__law_cell:=zfG (P:=l.prog) (w:=w) (F49.src X G s!"Au") B C R Kc
 have D__law_mixed:=zdJ (P:=l.prog) (w:=w) (F50.src X G s!"B2") B C R Kc
 have D__law_draws:=zdK (F51.src X G s!"B2") B C R Kc D__law_mixed
 have D__law_word:=zfJ (F52.src X G s!"Au") B C R Kc D__law_draws
 have D__law_table:=zdL (P:=l.prog) (w:=w) (F53.src X G s!"(") B C R Kc
 have D__law_product:=zcF (P:=l.prog) (w:=w) (F54.src X G s!"Au") B C R Kc
 have D__law_backward:=zcf (P:=l.prog) (w:=w) (F55.src X G s!"(") B C R Kc
 have D__law_shown:=zdM (P:=l.prog) (w:=w) (F56.src X G s!"(") B C R Kc
 have D__law_names:=zdN (P:=l.prog) (w:=w) (F57.src X G s!"(") B C R Kc
 have D__law_runs:=zfK (P:=l.prog) (w:=w) (F58.src X G s!"(") B C R Kc
 have D__law_tell:=zfL (F59.src X G s!"Au") B C R Kc D_Desk_tell
 have D__law_spare:=zdO (P:=l.prog) (w:=w) (F60.src X G s!"Au") B C R Kc
 have D__law_word_of:=zcG (F61.src X G s!"Au") B C R Kc D__law_draws
 have D__law_plan:=zfM (F62.src X G s!"B2") B C R Kc D__law_draws
 have D__law_line:=zfO (F63.src X G s!"B2") B C R Kc D__law_spare D__law_word D__law_runs D__law_table D__law_draws D__law_shown
 have D__law_after:=zdP (F64.src X G s!"B2") B C R Kc D__law_names D__law_product D__law_backward D__law_shown
 have D__law_due:=zgG (F65.src X G (fun _ _ _ _ _ _=>ar4 fun _ _ _ _=>by kernel_rfl)) B C R Kc D__law_after
 have D__law_looks:=zdQ (F66.src X G s!"B2") B C R Kc D__law_tell D__law_names D__law_shown D_number_of D_steady_of D_word_of D__law_runs
 have D__law_moved:=zdR (F67.src X G (fun _ _ _ _ _ _=>ar4 fun _ _ _ _=>by kernel_rfl)) B C R Kc D__law_tell D__law_names
 have D_law:=zra (F68.src X G s!"(") B C R Kc D_Desk___init__ D__law_cell D__law_word_of D__law_plan D__law_line D__law_due D__law_tell D__law_moved D__law_looks
 exact D_law.fn s!"J%" F68.g.l
theorem walk {l:PySem.W.OpenLaw} {q:Program} {loose:List Str} {XP:(Str->Option Value)->Heap->Prop} {YP:World->Heap->Prop} {d:DefRec} {K:Params->PySem.W.Frag} (hn:l.most=some 63) (hdf:d.params.defaults=[])
 (hY:∀(w:World) (h:Heap),YP w h->s!"Em".In h)
 (F:∀(w:World) (mg:Str->Option Value) (fa:Addr) (h:Heap),(K w.params).In h->h.Ns mainGlobals mg->mg d.name=some (.ref fa)->
  ∃fd:FuncData,(∀(s:Shared) (u:Value),BindsTo s fd ⟨[u],[]⟩ [("_law_script",u)])/\∀base:Heap,(K w.params).In base->base.Ns mainGlobals mg->FnOk l.prog w (K w.params) mg base (CXE l.prog w) 11 fa fd ["_law_script"] (zib (K w.params))):
 PySem.W.WalkO q loose XP YP l.row.toRowW d [] (fun f vs=>PySem.call f vs):=
 L2.zhL (n:=63) (k:=11) (x:="_law_script") (CX:=fun w=>CXE l.prog w) (sp:=fun w=>zib s!"Em") hn s!"c" hdf ⟨rfl,by decide,by decide⟩ hY F (fun _ _ a ns hl _ hS=>⟨a,ns,rfl,hS,hl,fun _=>rfl⟩) fun _ _ _ _ _ z=>by
  obtain ⟨_,_,_,_,_,_,_,y,_⟩:=z;exact y.elim
end My
open L2
local macro_rules|`(tactic|walk_at "fx")=>`(tactic|(refine' My.Fx.of ?a ?l ?c ?k;(case a=>k_is);(case l=>k_is);(case c=>k_is);(case k=>k_is)))
local macro_rules|`(tactic|walk_at "mx")=>`(tactic|(refine' My.Mx.of ?a ?i ?l ?c ?k;(case a=>k_is);(case i=>k_is);(case l=>k_is);(case c=>k_is);(case k=>k_is)))
local macro_rules|`(tactic|walk_at "kr")=>`(tactic|((try dsimp only [My.K1]);kit_is))
local macro_rules|`(tactic|walk_at "lx")=>`(tactic|(refine' My.Lx.mk ?a;(case a=>k_is)))
local macro_rules|`(tactic|walk_at "ex")=>`(tactic|(refine' My.Ex.mk ?b ?e ?g ?h ?f ?o ?v ?s ?t;(case b=>k_is);(case e=>k_exc);(case g=>k_is);(case h=>k_is);(case f=>k_is);(case o=>k_is);(case v=>k_is);(case s=>k_is);(case t=>k_is)))
local macro_rules|`(tactic|walk_at "sq")=>`(tactic|(refine' My.zsQ ?l ?c ?d;(case l=>k_is);(case c=>decide);(case d=>repeat first|exact .nil|refine .cons rfl ?_|refine .cons ⟨_, rfl⟩ ?_)))
open PySem PySem.W PyProof.Rows
set_option maxRecDepth 100000 in
set_option maxHeartbeats 0 in
theorem PySem.Challenge.cw_sawsign_k67_whole_desk_holds : PySem.Challenge.rw_sawsign_k67_whole_desk.Holds := by
 refine hd ?_
 k_fill
 refine My.walk (l:=PySem.Challenge.rw_sawsign_k67_whole_desk) rfl rfl (fun w h Y=>PySem.W.kIn_of Y) ?F
 case F=>
  intro w mg fa h KX G hmg;exact My.all_mk KX G hmg s!"#" s!"#" s!"#" s!"#" s!"Av" s!"Av" s!"Av" s!"Av" s!"Av" s!"Av" s!"Av" s!"Av" s!"Av" s!"Av" s!"Av" s!"Av" s!"Av" s!"Av" s!"Av" s!"Av" s!"Av" s!"Av" s!"Av" s!"Av" s!"Av" s!"Av" s!"8" s!"8" s!"8" s!"8" s!"8" s!"8" s!"8" s!"8" s!"8" s!"8" s!"8" s!"8" s!"8" s!"8" s!"8" s!"8" s!"8" s!"8" s!"8" s!"8" s!"8" s!"8" s!"8" s!"8" s!"8" s!"8" s!"8" s!"8" s!"8" s!"8" s!"8" s!"8" s!"8" s!"8" s!"8" s!"8" s!"8" s!"8" s!"8" (by walk_at "mx") (by walk_at "mx") (by walk_at "mx") (by walk_at "mx") (by walk_at "mx") (by walk_at "mx") (by walk_at "mx") (by walk_at "mx") (by walk_at "mx") s!"8" s!"8" s!"8" s!"8" s!"8" s!"8" s!"8" s!"8" s!"8" s!"8" s!"8" s!"8" s!"8" s!"8" s!"8" s!"8" s!"8" s!"8" s!"8" s!"8" s!"#" s!"#" s!"#" s!"#" s!"#" s!"#" s!"#" s!"#" s!"#" s!"#" s!"#" s!"#" s!"#" s!"#" s!"#" s!"#" s!"#" s!"#" s!"#" s!"#" s!"#" s!"#" s!"#" s!"#" s!"#" s!"#" s!"#" s!"#" s!"#" s!"#" (by walk_at "lx") (by walk_at "ex") (by walk_at "ex") (by walk_at "ex") (by walk_at "ex") (by walk_at "ex") (by walk_at "ex") (by walk_at "ex") (by walk_at "ex") (by walk_at "ex") s!"#" s!"#" s!"Ah" s!"#" s!"#" s!"#" s!"#" s!"#" s!"Ah" s!"#" s!"#" s!"Ah" s!"#" s!"#" s!"#" s!"#" s!"#" s!"#" s!"#" s!"#" s!"#" s!"-" s!"-" s!"-" s!"-" s!"-" s!"-" s!"-" s!"-" s!"-" s!"-" s!"-" s!"-" s!"-" s!"-" s!"-" s!"-" s!"-" s!"-" s!"-" s!"-" s!"-" s!"-" s!"-" s!"-" s!"-" s!"-" s!"-" s!"-" s!"-" s!"-" s!"-" s!"-" s!"-" s!"-" s!"-" s!"-" s!"-" s!"-" s!"-" s!"-" s!"-" s!"-" s!"-" s!"-" s!"-" s!"-"
