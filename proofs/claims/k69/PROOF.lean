import PyProof.Rows.All
import KE.KTurns
import KE.KLcPair
import KE.KRevIter
import OpenK.KOwn
import KE.RegKIsAll
import KE.KItem
import KE.KxBytes
import PyProof.EqAt
import PyProof.EqKinds
import PyProof.TupleCall
import PyProof.NeKinds
import PyProof.SumAny
import PyProof.LongRange
import PyProof.ZipIter
import PyProof.Rows.Range3
import KE.KStateDown
import PyProof.DictWalks
import PyProof.ListRange
import PyProof.ListNew
import KE.KIntText
import KE.KDictOf
import KE.KDictList
import PySem.Challenge.RW_sawsign_k69_what_is_a_line
set_option compiler.extract_closed false
set_option hygiene false in
def sL(c:String):Lean.MacroM Lean.Term:=match c with
 |"0"=>`(by rfl)
 |"1"=>`(by omega)
 |"2"=>`(by decide)
 |"3"=>`(by decide+kernel)
 |"4"=>`(by walk_at "lo")
 |"5"=>`(⟨rfl,rfl,rfl,by decide+kernel,rfl,by decide+kernel,by decide+kernel⟩)
 |"6"=>`(by simp)
 |"7"=>`(fun vs H Q E h=>?_)
 |"8"=>`(fun f cdv A outer s H vs Q E hr h=>?_)
 |"9"=>`(by walk_at "fx")
 |"10"=>`(by k_is)
 |"11"=>`(by kernel_rfl)
 |"12"=>`(fun _ _ _ _ _ _=>ar1 fun _=>by kernel_rfl)
 |"13"=>`(fun _ _ _ _ _ _=>ar2 fun _ _=>by kernel_rfl)
 |"14"=>`(by walk_at "sq")
 |"15"=>`(by intro _;rfl)
 |"16"=>`(fun z=>nomatch z)
 |"17"=>`(fun _ _=>rfl)
 |"18"=>`((" "))
 |"19"=>`(fun σ H'=>σ=[some (.ref a),some (.str t),some (.ref l),some (.ref fa),some (.str ask),none]/\H4=H')
 |"20"=>`((s₁.heap.objs.size))
 |"21"=>`((s₁.heap))
 |"22"=>`((s₀))
 |"23"=>`((H₀))
 |"24"=>`(("a b"))
 |"25"=>`(("word a u 2 v 3"))
 |"26"=>`(("let b back a"))
 |_=>Lean.Macro.throwUnsupported
def sT:List String:=r#"@pa_cons _ _ _ _ _ $0 $1 #0
@pss_cons _ _ _ _ _ $0 $1
#1
#2
@pss_one _ _ _ $0
#3
pa_nil
.ref a
@pe_op _ _ _ _ _ _ _ _ $0 $1 $2
@ps_set _ _ $0 _ _ _ _ nd rfl ( Or.inl rfl ) $1 #0 #4
.ref $0
Def P w K mg base ( CXE P w ) $0 $1 $2 $3
@pe_defS _ _ _ _ _ _ _ _ _ _ _ $0 ( hr.mono #2 ) rfl $1 $2 #2 #0 #0
some $0
.ref C
CXE P w
model X.prog X.w
#5
#6
#7
.lst $0
pv 0
#8
@ps_ret _ _ _ _ $0
xpass_cx
.str $0
#9
model prog w
.int $0
.tup xs
wpAny_bind $0
pe_int
.tup $0
#10
@ps_if _ _ _ _ _ _ _ _ $0 $1 pss_nil
pv 1
.bl $0
.inr $0
.inl $0
@ps_expr _ _ _ _ $0 #0
rfl
pe_str
Nat.le_refl _
#11
@pt_cmpR _ _ _ _ _ _ _ _ $0 $1 $2 ( nomark _ )
upd H $0 $1
pv 2
Str.ofString $0
.ref D
.dK kvs
.int i
pv 3
#12
Same.refl _
.str t
@pe_callB _ _ _ _ _ _ _ _ _ $0 rfl $1 $2 $3 #2 #2 #0 #0
op_addA
@pe_tup _ _ _ _ _ $0
.ref t
pv 4
#13
@pe_lst _ _ _ _ $0
.inl rfl
.ref p
zz t
.ref l
xpass_nox
.ref f
.lst xs
.ref c
List.mem_append_right _ $0
zn I q #6
ns.map V.int
.ref e
@pe_glob _ _ $0 _ _ rfl $1 $2 #2
wpAny_pure $0
Nat.ne_of_lt $0
.int a
op_mulA
.ref fa
@pa_cons _ _ _ _ _ ( pv 1 ) pa_nil #0
#14
SqL.of $0
.ref r
@pt_val _ _ _ $0 #15
I.ok.hd hc
#16
.lst ys
@pa_cons _ _ _ _ _ ( pv 0 ) pa_nil #0
.ref x
some v
.int j
.str i
@pe_ix _ _ _ _ _ _ _ ix_A ( pv 0 ) pe_int #17
@pe_ix _ _ _ _ _ _ _ ix_A ( pv 1 ) pe_int #17
ps.map V.str
.ins C dx fs
@pe_bm _ _ _ _ _ _ _ _ _ _ _ _ $0 $1 $2 $3 $4 $5 #0 #0 #0 #0 #0
op_modA
@pa_cons _ _ _ _ _ pe_str pa_nil #0
s1.trans s2
Txt.split t #18
@pe_ix _ _ _ _ _ _ _ $0 $1 $2 #17
.builtin $0
@PW.pt _ _ _ $0
List.range $0
.type $0
.ins $0 dx $1
op_divA
boot_heap w.params
Heap.lt_size e
.bl b
f3 b hb
@zK _ _ _ _ _ ( pv 0 ) rfl
B.isinstance
PyProof.Rows.boot_isinstance
frs X.stack
.str j
.int v
.int m
zG n
hr.mono #2
@pe_ix _ _ _ _ _ _ _ ix_A ( pv 2 ) pe_int #17
ps.take 2
Heap.get?_push_of_some _ $0
DefM P w K mg base ( CXE P w ) $0 $1 $2 $3
@pw_or _ _ _ _ _ _ _ $0 $1
@pt_not _ _ _ _ $0
wpAny_field $0 $1 $2 $3
some ( .ref f )
.type "BaseException"
X.tried pins W
@pa_cons _ _ _ _ _ ( pv 2 ) pa_nil #0
@pss_one _ _ _ ( @ps_ret _ _ _ _ pe_bl )
Option.some.inj h1
yO X9
Heap.lt_size $0
compareOp $0
@pw_or1 _ _ _ _ $0
Ne.symm $0
.BoolOp $0 $1 pos
T0 p w os
Itl K a
Itt K a
ps.zip us
Option Value
wpAny_pure ?_
.type "type"
Heap.get?_push_of_some _ e
X.blockF pins scope x ys cl fp s3 H3
fw ws
op_eqA hr.units0
zaQ ps
tx9 #3
@pe_callTy _ _ _ _ _ _ _ _ _ zF rfl B.str PyProof.Rows.boot_str $0 #2 #2 #0 #0
Option.some.inj $0
Nat.le_trans $0 $1
hz
zY
op_neF hr.units3
SA p w os
Nat.lt_irrefl _
.ref it
g i j
.dT kvs
.builtin id
.lst zs
zc st
.int n
ExN C ad
Str.ofString ( toString n )
X.blockM pins scope nm ys cl fp s3 H3
top 89
pv 5
@pt_cmpR _ _ _ _ _ _ _ _ ( op_eqA hr.units0 ) ( pv 0 ) pe_str ( nomark _ )
@ps_raise _ _ _ _ _ _ _ _ _ _ _ _ _ _ $0 PySem.F.excBase_ValueError rfl rfl xmade_cx ( @pa_cons _ _ _ _ _ pe_str pa_nil #0 ) #2 #0 #0
@pe_compZ2 _ _ _ _ _ _ _ _ _ rfl $0 $1 #3 #3 rfl #3 rfl #15
@yq _ _ $0 _ _ rfl $1 $2 rfl #2 #2
Nat.le_trans $0 #2
@zV _ _ _ _ _ _ _ _ $0 $1 $2
zJ hb e
PySem.F.plainAttrs_list
PySem.F.slot_list_append
PySem.F.type_list_append
mt_append
op_subI
importedModules p.main.body
I.tok _
.ref b
backTo cpos ( starEach es X.env )
CXE X.prog X.w
Heap.get?_push_size _ rfl
some d
some 1
.int b
@pa_cons _ _ _ _ _ pe_str ( @pa_cons _ _ _ _ _ pe_str pa_nil #0 ) #0
Mth.fw ws
zL ( ps.drop 1 )
SqL.of e1
hL _
@ps_set _ _ 0 _ _ _ _ nd rfl ( Or.inl rfl ) ( @pe_op _ _ _ _ _ _ _ _ op_addA ( pv 0 ) ( @pe_lst _ _ _ _ ( @pa_cons _ _ _ _ _ pe_str ( @pa_cons _ _ _ _ _ pe_str pa_nil #0 ) #0 ) ) ) #0 #4
.ref C14
@pe_ix _ _ _ _ _ _ _ ix_A $0 pe_int #17
List.mem_of_getElem? $0
@ps_for _ _ _ _ _ _ _ _ $0 rfl $1 $2 $3 #15
pe_methS $0 C.Desk.cl $1 ( hr.mono #2 ) $2 ( pv 0 ) $3
@pe_and _ _ _ _ _ _ _ $0 $1
Nat.lt_of_lt_of_le $0 $1
List.replicate $0 $1
wpAny_holding $0
Nat.le_of_lt $0
ix_A
pv 6
PySem.F.plainAttrs_str
zw P w
upd H a o
.Name x pos
.bl false
.bl true
binaryOp .Add
.type "object"
eqU x
.builtin "len"
Same.new hp _
rawInt L
yQ kvs k v
.ref d
some 2
flat ws
zfh K a b
relabel scope X.env
@pe_callB _ _ _ _ _ _ _ _ _ call_lenA rfl B.len PySem.boot_len ( @pa_cons _ _ _ _ _ ( pv 0 ) pa_nil #0 ) #2 #2 #0 #0
.int c
SqL.of e3
SqT.of e4
Str.ofString "b"
@pe_cmpR _ _ _ _ _ _ _ _ ( op_eqA hr.units0 ) $0 $1 ( nomark _ )
@pe_slice _ _ _ _ _ _ _ _ _ _ $0 $1 $2 $3
binaryOp $0
Txt.split $0 #18
h1.objs.size
pv 7
B.all
PyProof.Rows.boot_all
po_none
D_need_text
C.Desk.addr
.own x
List.getElem?_eq_some_iff.mp hi
backTo pos ( starEach es X.env )
model P w
Itr lo n
.ref s.heap.objs.size
.str ( toString i )
wE xs lo hi
.bool true
hs.trans s2
.lst ( as.map V.ref )
X.blockM pins scope nm ys cl ex s H
List.cons.inj h
fpB fr'
op_neA hr.units0
@pa_cons _ _ _ _ _ ( pv 0 ) ( @pa_cons _ _ _ _ _ ( pv 1 ) pa_nil #0 ) #0
@pa_cons _ _ _ _ _ pe_int pa_nil #0
List.getElem?_eq_some_iff.mp hx
call_allB rfl
zL ps
ps.drop 2
Str.ofString "table"
.lst ( ds0.map V.ref )
SqT.of e5
Str.ofString "names"
#19
.int p
@pe_op _ _ _ _ _ _ _ _ zg pe_str ( pv 3 )
@pe_op _ _ _ _ _ _ _ _ zg ( @pe_op _ _ _ _ _ _ _ _ zg pe_str ( pv 3 ) ) pe_str
hd 0 _ _ rfl rfl
.ref C16
@pi_list _ _ _ _ $0
@pi_tup _ _ _ _ $0
eval $0 X.env
@pe_cmpR _ _ _ _ _ _ _ _ $0 $1 $2 $3
Txt.join #18 $0
@pe_one _ _ _ _ _ $0
wpAny_seqItems $0 rfl $1
.cons $0 .nil
.And
.Or
s.heap.objs.size
zbe C.NoCount.addr
pv 8
D_need_table
B.len
PySem.boot_len
zeY
D__law_told
zcF p w os n pos
Hd.T0 PySem.Challenge.pw_sawsign_k69_what_is_a_line w os
tupleKind ( zw P w )
.own a
zS q hn
.frz o u
Nat.lt_of_lt_of_le ( Heap.lt_size e ) I.ok.above
.str x
X.wish E
hf b hb
I1.hok.fresh ( Nat.le_refl _ )
compareOp .Eq
some ( .builtin "object.__setattr__" )
s.heap.push PySem.W.emptyDict
some ( .builtin "object.__class__" )
upd H dx ( .own x )
I.hok.fresh ( Nat.le_refl _ )
List.mem_cons_of_mem _ hw
envOfC qual scope s.heap.objs.size f cd
List.mem_of_getElem? hp
.ref sl
List.getElem?_eq_getElem hi
.ref T
.str y
X.inH pins a oe
.ref i1
.ref i2
h1.trans z
zQ kvs k
zdc ry
ws.map V.str
.ref fI
upd H2 ad ( ExN C ad )
.str a
List Nat
zz ( Str.ofString ( toString n ) )
ws.map wS
zm5 s.heap t u
s2.trans s3
.inr i
.Name x px
.Name tv py
ws.foldl yK t
List Str
@pss_one _ _ _ ( @ps_ret _ _ _ _ ( pv 2 ) )
@pe_lst _ _ _ _ pa_nil
@pa_cons _ _ _ _ _ ( pv 2 ) ( @pa_cons _ _ _ _ _ ( pv 3 ) pa_nil #0 ) #0
.ref cX
@pe_ix _ _ _ _ _ _ _ ix_A ( pv 5 ) pe_int #17
fs.map V.str
s12.trans s3
.inr n
Str.ofString "KNOWN"
Str.ofString "redo"
Str.ofString "a"
List.getElem?_eq_some_iff.mp $0
List.mem_cons_of_mem _ $0
List.mem_append_left _ $0
@PJ.cons _ _ _ _ _ $0 $1
@pt_cmpR _ _ _ _ _ _ _ _ op_in_seq $0 $1 rfl
.Attribute o $0 apos
wpAny_standAt $0
s1.obj $0
@yW _ _ _ _ _ $0 $1
List.mem_singleton.mpr rfl
hxr
op_gtI
op_geI
PassesOwn.never
zfu C.NoTable.addr
PassesOwn.leaving
PySem.F.slot_str_join
PySem.F.type_str_join
zar
wA K
D__law_draws
zdO p w n pos T
zdP h H
I.ok.bs b o e
neC b o e hx
eval e X.env
T.obj _ _ st5
tOp r ta tb
compareOp .NotEq
yr f v fs
.builtin "object.__class__"
List.nodup_cons.mp nd
yJ N vs
.type T
eval o X.env
binaryOp .Mult
envOfC d.name d.scope #20 fa cd
zdP #21 H
K w.params
h1.push ob
clsIn K C
some ( .builtin "BaseException.__getattribute__" )
I8.unH I6.ok
.ref addr
ms.map V.int
List.mem_cons_of_mem _ hy
Itd hi n
wpAny_field hi rfl rfl ?_
.tup ys
he i x y hx hy
zE kvs k
atKey xs k
rel.val k
o.getD .non
Str.ofString "0"
List.mem_cons_of_mem _ hx
Str.ofString #18
ts.map V.str
some mainGlobals
Value.bool true
hcl _ _ e
.Tuple elts x1 tp
@pt_cmpR _ _ _ _ _ _ _ _ ( op_eqA hr.units0 ) ( @pe_op _ _ _ _ _ _ _ _ op_modA ( pv 0 ) pe_int ) pe_int ( nomark _ )
.ref cT
@pe_defS _ _ _ _ _ _ _ _ _ _ _ D_shared ( hr.mono #2 ) rfl xpass_cx ( @pa_cons _ _ _ _ _ ( pv 0 ) ( @pa_cons _ _ _ _ _ ( pv 1 ) pa_nil #0 ) #0 ) #2 #0 #0
@pa_cons _ _ _ _ _ ( pv 1 ) ( @pa_cons _ _ _ _ _ ( pv 2 ) pa_nil #0 ) #0
s3.trans s4
@ps_expr _ _ _ _ ( @pe_defS _ _ _ _ _ _ _ _ _ _ _ D_need_from ( hr.mono #2 ) rfl xpass_cx ( @pa_cons _ _ _ _ _ pe_int ( @pa_cons _ _ _ _ _ ( pv 1 ) pa_nil #0 ) #0 ) #2 #0 #0 ) #0
@pe_op _ _ _ _ _ _ _ _ op_mulA pe_int ( pv 1 )
zaf H x
@po_some _ _ _ pe_int
List.mem_of_getElem? hw
.lst ( ds.map V.ref )
SqL.of ( s1.obj eL )
hb _ #6
Int.emod_nonneg _ #1
ws.map V.int
fs.map V.int
E9 e.ln e.nm e.od e.ct e.ap Q
Str.ofString "9"
@pa_cons _ _ _ _ _ ( @pe_op _ _ _ _ _ _ _ _ zg ( @pe_op _ _ _ _ _ _ _ _ zg pe_str ( pv 3 ) ) pe_str ) pa_nil #0
zR #2
f.a o h
h _ _ e3
h _ _ e4
@zdQ _ _ $0 _ _ _ _ _ _ nd rfl ( Or.inl rfl ) $1 zdR #4
PySem.mem_of_lookup $0
wpAny_newObj_type $0 htake
@zak _ _ _ _ _ $0 $1 #0
@pw_and _ _ _ _ _ _ _ $0 $1
Calls.evalArgs_plain $0
Array.toList_inj.mp $0
name
its.toArray
.ty "tuple"
B.tuple
PyProof.Rows.boot_tuple
call_lenS
zb1 C.NoText.addr
.ty "str"
B.str
PyProof.Rows.boot_str
C.Desk.f_keep
zeC C.Desk.addr
D_Desk_keep
C.Desk.m_keep
op_eqF hr.units3
za1 hcls
cE p
wS p w os n
blockOf ( behindTheImports p ) ( env p ) ( cE p ) P0 BB
.int i t
PySem.W.instObj C dx
fs.lookup f
upd H x o
I.freeC x c e
I.base.keep b o e n hb hx
I.base.free b o e n hx
Ne.symm hj
SP X pins D
assignEach es X.env
Itr 0 j.toNat
.Name "range" p
f ( .int i t ) ( .int j u )
compareOp .In
compareOp op
.type "str"
PySem.W.plainGet_of hg
wpAny_bind ?_
PySem.W.instObj C s.heap.objs.size
.type "tuple"
.builtin "isinstance"
frs outer
PySem.F.args_tuple_add_2 _ _
wpAny_bind ( wpAny_pure ?_ )
items.toList.drop ( sIx items.size 0 lo )
sliceBounds lo hi none n
.int z.length
.type "method_descriptor"
docDef d.name d.params d.body d.scope pm cd doc
fd_plain hd
if_neg hb
PySem.W.fnOf x qual ( zx st ) ( zp st ) ( zc st ) .none kV doc pm an cdv ct
Or.inr rfl
PySem.W.fnOf x x ( zx st ) ( zp st ) ( zc st ) .none kV doc pm an cdv ct
Heap.get?_push_of_some _ q
wpAny_field y1 y2 y3 ?_
Array.getElem?_eq_some_iff.mp t3
leaving env ( .ref e )
I.hok b u q
zan ( CXE P w ) P w K mg base N qual scope f cd A outer #22 #23 E
T.hasType FB.hasBase
some ( .ref a )
some ( .Name x np )
relabel scope env
X.blockF pins scope x ys cl ex s H
yQ kvs k y
.tup ( k.map kV )
tupleKind_room_in1 hu
zcf I.hok eb
zw X.prog X.w
upd H2 a ( .dK ( zQ kvs k ) )
.int kvs.length
wpAt_of_wpAny ?_
excClassObj nm qn C N bs tl hd0 sn sb ab col dd k0 k1 k2 k3 k5 nI
wpAny_standAt ?_
Ne.symm nd
some ( .builtin "type.__getattribute__" )
.val ( .builtin "ValueError.__init__" )
Txt.split a b
typeIs_str _ _ _
F.args_str_split_2 _ _
Str.ofString "-"
Heap.get?_update_other _ _ ( Ne.symm n )
I6.bk _ _ hC
seqObj "list" vs.toArray 0
.lst ( ms.map V.str )
zm4 s.heap t u
zt1 s.heap t
zm2 s.heap t u
zm3 s.heap t u
List.zipWith f xs ys
.inl ( hyk _ ( hfree y hy e ) )
.cons r8 .nil
T.self X.A 0 _ _ _ st4 loop
fw ( ws.take i )
f.map V.str
nomark _
@pe_defS _ _ _ _ _ _ _ _ _ _ _ D_is_whole ( hr.mono #2 ) rfl xpass_nox ( @pa_cons _ _ _ _ _ ( @pe_ix _ _ _ _ _ _ _ ix_A ( pv 0 ) pe_int #17 ) pa_nil #0 ) #2 #0 #0
@pa_cons _ _ _ _ _ pe_int ( @pa_cons _ _ _ _ _ pe_int pa_nil #0 ) #0
@pt_cmpR _ _ _ _ _ _ _ _ ( op_eqA hr.units0 ) ( @pe_op _ _ _ _ _ _ _ _ op_modA ( pv 1 ) pe_int ) pe_int ( nomark _ )
@pe_un _ _ _ _ _ _ un_neg pe_int
@pss_one _ _ _ ( @ps_ret _ _ _ _ ( pv 4 ) )
@pa_cons _ _ _ _ _ ( pv 5 ) pa_nil #0
@ps_set _ _ 3 _ _ _ _ nd rfl ( Or.inl rfl ) pe_int #0 #4
@pe_callB _ _ _ _ _ _ _ _ _ call_lenA rfl B.len PySem.boot_len ( @pa_cons _ _ _ _ _ ( pv 2 ) pa_nil #0 ) #2 #2 #0 #0
s2.obj f1
@PI.or _ _ _ _ _ ( @pi_list _ _ _ _ ( pv 0 ) ) ( @pi_tup _ _ _ _ ( pv 0 ) )
@pa_cons _ _ _ _ _ ( pv 4 ) pa_nil #0
@pe_bm _ _ _ _ _ _ _ _ _ _ _ _ PySem.F.plainAttrs_str PySem.F.slot_str_split PySem.F.type_str_split mt_split ( pv 0 ) ( @pa_cons _ _ _ _ _ pe_str pa_nil #0 ) #0 #0 #0 #0 #0
@pe_callB _ _ _ _ _ _ _ _ _ call_lenA rfl B.len PySem.boot_len ( @pa_cons _ _ _ _ _ ( pv 1 ) pa_nil #0 ) #2 #2 #0 #0
s4.trans s5
List.zipWith fit fs ps
s.trans s'
@zdU _ _ _ _ _ _ _ _ ( pv 0 ) ( @pe_lst _ _ _ _ pa_nil ) rfl
Txt.join #18 qs
qs.map zo
@pt_cmpR _ _ _ _ _ _ _ _ ( op_eqA hr.units0 ) ( pv 4 ) pe_str ( nomark _ )
@pa_cons _ _ _ _ _ pe_str ( @pa_cons _ _ _ _ _ pe_str ( @pa_cons _ _ _ _ _ pe_str ( @pa_cons _ _ _ _ _ pe_str pa_nil #0 ) #0 ) #0 ) #0
fu.not ( zR #3 )
s14.obj h1
D6.same ( s5.trans s7 )
.str ( Str.ofString "undo" )
@pe_ix _ _ _ _ _ _ _ ix_A ( pv 1 ) ( pv 5 ) #17
@ps_set _ _ 2 _ _ _ _ nd rfl ( Or.inl rfl ) pe_str #0 #4
@ps_set _ _ 0 _ _ _ _ nd rfl ( Or.inl rfl ) ( @pe_op _ _ _ _ _ _ _ _ op_addA ( pv 0 ) ( @pe_lst _ _ _ _ ( @pa_cons _ _ _ _ _ pe_str pa_nil #0 ) ) ) #0 #4
SqL.of e0
@po_some _ _ _ ( pv 5 )
Nat.lt_of_le_of_lt h #2
zie #3
r.same s1
zbk #3 r0
pe_makeS D_Desk___init__ C.Desk.mkk ( hr.mono #2 ) rfl C.Desk.gl
s21.trans s22
s23.trans s24
@pg_name _ _ $0 _ nd rfl ( Or.inl rfl ) #4
za7 $0 C.Desk.cl $1 ( hr.mono #2 ) xpass_cx ( pv 0 )
@zal _ _ _ _ _ _ PassesOwn.leaving $0 $1
Nat.pow_le_pow_right #2 $0
ws.map $0
ys.length
k.toNat
e _ _ h
xs.length
ks.map kV
Txt.join sep ws
ExD C d ad
Txt.startswith a b
Txt.slice a lo hi
zL ( xs.drop n )
inS i j
D_need_from
zkg C.NoCount.addr C.NotOdd.addr
D_need_odd
zoF C.NoCount.addr C.NotOdd.addr
D_exchanged
zgf C.NoCount.addr
D_whole_sum
zoH C.NoCount.addr
D_twelve
D_is_pair_of_wholes
D_is_word
PySem.F.slot_str_startswith
PySem.F.type_str_startswith
mt_starts
D_is_number
zez K C.NoText.addr
D_read_numbers
zkl K C.NoLine.addr
D_has_form
D_word_behind
D_shown_table
D_Desk_do_deed
C.Desk.m_do_deed
C.Desk.f_tell
D__law_cell
piecesOf ( behindTheImports p ) ( env p ) ( cE p ) P0 BB
Hd.cE PySem.Challenge.pw_sawsign_k69_what_is_a_line
Option.some.inj h'
PySem.W.methodObj ( .ref f ) ( .ref y )
List.range h.objs.size
I.ok.noex b o e
List.mem_append.mp hp
List.mem_append_left _ z
storeName X.env x u
.UnaryOp .Not a pos
.Tuple es k pos
eval iter X.env
pyIter ( .ref s.heap.objs.size )
List.mem_append_left _ hp
.int ( g i j ) s.toks
Builtin.Str.occurrences j i 0 j.length 1
upd H a ( .ins C dx ( yr f y fs ) )
Nat.lt_succ_self _
.Attribute e f pos
upd H2 a ( .ins C dx ( yr f y fs ) )
.frz o ( .lst xs )
.builtin "getset_descriptor.__get__"
call ( .ref C ) us
List.of_mem_zip hv
zan CX P w K mg base N qual scope f cd A outer s H E
x.above y c ( PySem.mem_of_lookup h )
zan CX P w K mg base N qual scope f cdv A outer s H E
wT I hg hm hv ?_ hn hdb
binaryOp .Add ( .ref t ) ( .ref b )
.Slice lo hi none p2
.ref s3.heap.objs.size
r.drop ( HT.sIx xs.length 0 lo )
tBM X.K T r to t
List.replicate k xs
List.replicate k its
ns.map WData.int
pre_splitW hpre
binaryOp .FloorDiv
k.old b o e n f
xf I hg m ?_ hdb
wpAny_pyIter_list pl.isList ?_
List.getElem?_eq_some_iff.mp hP
Builtin.SmallTypes.nextOf ( .ref it )
wpAny_callSpecial?_slot hi.ti.typeIs slot_tupleiter_next ( wpAny_call_entry slot_tupleiter_next hi.ti.typeIs entry_tupleiter_next ?_ ( args_tupleiter_next _ ) )
wpAny_seqItems e2 d2 ?_
wpAny_newTuple ?_
Array.getElem?_eq_getElem hi
List.range xs.length
rawInt s.heap.objs.size
zi k1 Z.zTO.symm hO
yd D2 Z.fo2 ( yd D2 Z.f12 ( yd D2 Z.fz2 st2 k1 ) k2 ) k3
zi k3 Z.zTO ( zi k2 Z.z1 z1' )
rawInt g5.objs.size
pyNext ( .ref z )
F.args_zip_next_1 _
h1.symm.trans e
.dK ( yQ kvs k v )
upd H a ( .dK ( zQ kvs k ) )
PySem.F.args_dict_get_2 _ _
wpAny_typeOf hT ?_
wpAny_newList ?_
Heap.get?_push_at rfl rfl
.str fld s.toks
Option.some.inj q
zec C fld ok W t
PySem.W.fnOf "__init__" qual ( zx st ) ( zp st ) ( zc st ) .none kV doc pm an cdv ct
if_neg ( ne_true_of_eq_false h1 )
.Slice ( some lo ) none ( some st ) p2
List.mem_range.mpr h
Bool.and_eq_true_iff.mp h
List.mem_cons_of_mem _ z
fa a List.mem_cons_self
fb b List.mem_cons_self
Nat.le_trans hl #2
Nat.le_trans lt #2
Nat.le_trans h2 #2
.str ( Txt.mul a n )
ws.map List.length
wpAny_field y1 y2 y6 ?_
Heap.get?_update_other _ _ ( Ne.symm neC )
PySem.W.fnOf nm qual ( zx st ) ( zp st ) ( zc st ) .none kV doc pm an cdv ct
getMethod ov m pl
.Attribute o m apos
.builtin "sorted"
.Tuple elts kt tp
.inl ( hyk y hy )
List.mem_of_mem_take hp
.ref C.NoLine.addr
.ref C.NoCount.addr
.ref C.NoDeed.addr
.ref C.NoName.addr
.ref C.NotApart.addr
.ref C.NoTable.addr
.ref C.NotOdd.addr
.ref C.NoWord.addr
.ref C.TooMany.addr
.ref C.NoPaper.addr
.ref C.NoPrime.addr
.ref C.NoRow.addr
.ref C.NoShuffle.addr
.ref C.NoText.addr
.ref C.NoFraction.addr
.int ( Int.gcd a b )
ze8 C.NoName.addr "name" zj5
@pa_cons _ _ _ _ _ ( @wu _ _ _ _ _ _ ( @PJ.cons _ _ _ _ _ pe_str ( @PJ.cons _ _ _ _ _ ( @zbU _ _ _ _ ( pv 0 ) ) ( @PJ.cons _ _ _ _ _ pe_str PJ.nil ) ) ) ) pa_nil #0
zqj C.TooMany.addr
@pe_callB _ _ _ _ _ _ _ _ _ zaZ rfl B.abs PyProof.Rows.boot_abs ( @pa_cons _ _ _ _ _ ( pv 1 ) pa_nil #0 ) #2 #2 #0 #0
@ps_set _ _ 3 _ _ _ _ nd rfl ( Or.inl rfl ) ( pv 4 ) #0 #4
zqk C.NotApart.addr
zql C.NoCount.addr C.NotOdd.addr
zqm C.NoCount.addr C.NotApart.addr
zdF C.NoCount.addr
@ps_set _ _ 4 _ _ _ _ nd rfl ( Or.inl rfl ) ( @pe_lst _ _ _ _ pa_nil ) #0 #4
@pe_op _ _ _ _ _ _ _ _ op_subI ( pv 0 ) pe_int
@pe_defS _ _ _ _ _ _ _ _ _ _ _ D_sum_rows ( hr.mono #2 ) rfl xpass_cx ( @pa_cons _ _ _ _ _ ( pv 0 ) ( @pa_cons _ _ _ _ _ ( pv 1 ) ( @pa_cons _ _ _ _ _ ( pv 2 ) ( @pa_cons _ _ _ _ _ ( pv 3 ) pa_nil #0 ) #0 ) #0 ) #0 ) #2 #0 #0
@pa_cons _ _ _ _ _ ( pv 3 ) pa_nil #0
znf C.NoCount.addr C.NotOdd.addr
@pe_op _ _ _ _ _ _ _ _ op_addA ( pv 1 ) pe_int
zgZ C.NoCount.addr
List.getElem?_eq_some_iff.mp hp
zqo C.NoFraction.addr
zki C.NoFraction.addr
@pe_defS _ _ _ _ _ _ _ _ _ _ _ D_steps_of ( hr.mono #2 ) rfl xpass_nox ( @pa_cons _ _ _ _ _ ( pv 0 ) ( @pa_cons _ _ _ _ _ ( pv 1 ) pa_nil #0 ) #0 ) #2 #0 #0
@pg_name _ _ 4 _ nd rfl ( Or.inl rfl ) #4
Nat.le_trans ht t1
Int.gcd_dvd_right a m
zqq C.NoCount.addr
@pe_op _ _ _ _ _ _ _ _ op_mulA ( @pe_ix _ _ _ _ _ _ _ ix_A ( @pe_ix _ _ _ _ _ _ _ ix_A ( pv 0 ) pe_int #17 ) pe_int #17 ) ( @pe_ix _ _ _ _ _ _ _ ix_A ( @pe_ix _ _ _ _ _ _ _ ix_A ( pv 0 ) pe_int #17 ) pe_int #17 )
@pe_op _ _ _ _ _ _ _ _ op_addA ( @pe_op _ _ _ _ _ _ _ _ op_mulA ( @pe_ix _ _ _ _ _ _ _ ix_A ( pv 0 ) pe_int #17 ) ( @pe_ix _ _ _ _ _ _ _ ix_A ( @pe_ix _ _ _ _ _ _ _ ix_A ( pv 1 ) pe_int #17 ) pe_int #17 ) ) ( @pe_op _ _ _ _ _ _ _ _ op_mulA ( @pe_ix _ _ _ _ _ _ _ ix_A ( pv 0 ) pe_int #17 ) ( @pe_ix _ _ _ _ _ _ _ ix_A ( @pe_ix _ _ _ _ _ _ _ ix_A ( pv 1 ) pe_int #17 ) pe_int #17 ) )
@pe_defS _ _ _ _ _ _ _ _ _ _ _ D_row_together ( hr.mono #2 ) rfl xpass_nox ( @pa_cons _ _ _ _ _ ( @pe_ix _ _ _ _ _ _ _ ix_A ( pv 0 ) pe_int #17 ) ( @pa_cons _ _ _ _ _ ( pv 1 ) pa_nil #0 ) #0 ) #2 #0 #0
@pa_cons _ _ _ _ _ pe_int ( @pa_cons _ _ _ _ _ ( @pe_callB _ _ _ _ _ _ _ _ _ call_lenA rfl B.len PySem.boot_len ( @pa_cons _ _ _ _ _ ( pv 0 ) pa_nil #0 ) #2 #2 #0 #0 ) pa_nil #0 ) #0
@pe_ix _ _ _ _ _ _ _ xM ( pv 1 ) ( pv 0 ) #17
k x ( List.mem_of_getElem? hx )
zqu C.NoWord.addr
znj C.NoWord.addr
@pg_name _ _ 5 _ nd rfl ( Or.inl rfl ) #4
znl C.NoText.addr C.NoTable.addr
s3.trans ( s4.trans s5 )
znm C.NoText.addr
@zbu _ _ _ _ _ _ _ _ _ ( pv 1 ) ( @po_some _ _ _ pe_int ) ( @po_some _ _ _ pe_int )
zkm K C.NoLine.addr
List.mem_of_mem_take hw
@pe_glob _ _ ( .ref tWORD_FORM ) _ _ rfl mWORD_FORM rfl #2
@pg_name _ _ 1 _ nd rfl ( Or.inl rfl ) #4
List.getElem?_eq_some_iff.mp hj
zg4 C.TooMany.addr
.inr ( .inr rfl )
zg5 C.NoWord.addr
zg6 K C.NoCount.addr C.NotOdd.addr C.NotApart.addr
zkn C.Desk.addr
s2.obj ( kA q o n ( s1.obj e ) )
s1.obj e
zg7 K C.Desk.addr C.NoName.addr
zE kvs ( Sum.inr p )
Str.ofString "let"
znp K C.Desk.addr C.NoTable.addr C.TooMany.addr
@pa_cons _ _ _ _ _ ( @zbW _ _ _ _ _ _ hr.units2 ( @zK _ _ _ _ _ ( pv 0 ) rfl ) ( @pe_ix _ _ _ _ _ _ _ ix_A ( pv 1 ) pe_int #17 ) #17 ) pa_nil #0
.lst ( bs.map V.ref )
zko C.Desk.addr
k2 q o n3 ( s1.obj e )
zkp C.Desk.addr C.NoDeed.addr
List.dropLast_concat_getLast hd
m2 q xs ( s1.obj h )
zkq C.Desk.addr C.NoDeed.addr
zg9 C.Desk.addr
@pa_cons _ _ _ _ _ ( @zK _ _ _ _ _ ( pv 0 ) rfl ) pa_nil #0
q dn0 d z H' t r k m
Txt.join #18 ws
@pe_slice _ _ _ _ _ _ _ _ _ _ zeY ( pv 2 ) ( @po_some _ _ _ pe_int ) po_none
s13.trans ( s4.trans s5 )
Str.ofString "undo"
@zd0 _ _ 18 _ _ _ _ _ #2 #2
Int.emod_lt_of_pos _ #1
@pa_cons _ _ _ _ _ pe_str ( @pa_cons _ _ _ _ _ pe_str ( @pa_cons _ _ _ _ _ pe_str ( @pa_cons _ _ _ _ _ pe_str ( @pa_cons _ _ _ _ _ pe_str ( @pa_cons _ _ _ _ _ pe_str ( @pa_cons _ _ _ _ _ pe_str pa_nil #0 ) #0 ) #0 ) #0 ) #0 ) #0 ) #0
@ps_set _ _ 0 _ _ _ _ nd rfl ( Or.inl rfl ) ( @pe_op _ _ _ _ _ _ _ _ op_addA ( pv 0 ) ( @pe_lst _ _ _ _ ( @pa_cons _ _ _ _ _ pe_str ( @pa_cons _ _ _ _ _ pe_str ( @pa_cons _ _ _ _ _ pe_str pa_nil #0 ) #0 ) #0 ) ) ) #0 #4
@ps_set _ _ 0 _ _ _ _ nd rfl ( Or.inl rfl ) ( @pe_op _ _ _ _ _ _ _ _ op_addA ( pv 0 ) ( @pe_lst _ _ _ _ ( @pa_cons _ _ _ _ _ pe_str ( @pa_cons _ _ _ _ _ pe_str ( @pa_cons _ _ _ _ _ pe_str ( @pa_cons _ _ _ _ _ pe_str pa_nil #0 ) #0 ) #0 ) #0 ) ) ) #0 #4
@pe_op _ _ _ _ _ _ _ _ zg ( @pe_op _ _ _ _ _ _ _ _ zg pe_str ( @pe_op _ _ _ _ _ _ _ _ zbY pe_str pe_int ) ) pe_str
@pe_op _ _ _ _ _ _ _ _ zg pe_str ( @pe_op _ _ _ _ _ _ _ _ zbY pe_str pe_int )
@ps_set _ _ 0 _ _ _ _ nd rfl ( Or.inl rfl ) ( @pe_op _ _ _ _ _ _ _ _ op_addA ( pv 0 ) ( @pe_lst _ _ _ _ ( @pa_cons _ _ _ _ _ pe_str ( @pa_cons _ _ _ _ _ pe_str ( @pa_cons _ _ _ _ _ pe_str ( @pa_cons _ _ _ _ _ pe_str ( @pa_cons _ _ _ _ _ pe_str pa_nil #0 ) #0 ) #0 ) #0 ) #0 ) ) ) #0 #4
@ps_set _ _ 0 _ _ _ _ nd rfl ( Or.inl rfl ) ( @pe_op _ _ _ _ _ _ _ _ op_addA ( pv 0 ) ( @pe_lst _ _ _ _ ( @pa_cons _ _ _ _ _ pe_str ( @pa_cons _ _ _ _ _ pe_str ( @pa_cons _ _ _ _ _ pe_str ( @pa_cons _ _ _ _ _ pe_str ( @pa_cons _ _ _ _ _ pe_str ( @pa_cons _ _ _ _ _ pe_str pa_nil #0 ) #0 ) #0 ) #0 ) #0 ) #0 ) ) ) #0 #4
@pe_op _ _ _ _ _ _ _ _ op_addA ( pv 4 ) ( @pe_lst _ _ _ _ ( @pa_cons _ _ _ _ _ ( @pe_op _ _ _ _ _ _ _ _ zg ( @pe_op _ _ _ _ _ _ _ _ zg pe_str ( pv 3 ) ) pe_str ) ( @pa_cons _ _ _ _ _ ( @pe_op _ _ _ _ _ _ _ _ zg pe_str ( pv 3 ) ) pa_nil #0 ) #0 ) )
hd 1 _ _ rfl rfl
@pe_callB _ _ _ _ _ _ _ _ _ call_lenA rfl B.len PySem.boot_len ( @pa_cons _ _ _ _ _ ( pv 4 ) pa_nil #0 ) #2 #2 #0 #0
@pe_op _ _ _ _ _ _ _ _ zg ( pv 0 ) pe_str
Str.ofString ""
Str.ofString "~"
Str.ofString "none"
zbm ( s.trans s1 )
s.trans s1
Str.ofString "5"
Str.ofString #24
Str.ofString #25
Str.ofString #26
@pe_defS _ _ _ _ _ _ _ _ _ _ _ D__law_cell ( hr.mono #2 ) rfl xpass_nox ( @pa_cons _ _ _ _ _ ( pv 0 ) ( @pa_cons _ _ _ _ _ pe_int pa_nil #0 ) #0 ) #2 #0 #0
PySem.W.fnOf x q ( zx st ) ( zp st ) ( zc st ) .none kV dc pm an cd ct
PySem.W.clsIn K C14
PySem.W.mg_of X G F66.a
@ps_if _ _ _ _ _ _ _ _ ( @pt_cmpR _ _ _ _ _ _ _ _ ( op_eqA hr.units0 ) ( @pe_ix _ _ _ _ _ _ _ ix_A ( pv 1 ) pe_int #17 ) pe_str ( nomark _ ) ) $0 $1
Array.getElem?_eq_some_iff.mp $0
Bool.and_eq_true_iff.mp $0"#.splitOn "\n"
def sA(t:Nat->Lean.Term)(w:String):Lean.MacroM Lean.Term:=do
 let r:=(w.drop 1).toString
 match w.front with
 |'@'=>`(@$(Lean.mkIdent r.toName))
 |'$'=>return t r.toNat!
 |'#'=>sL r
 |'.'=>`(.$(Lean.mkIdent r.toName))
 |'"'=>return Lean.Syntax.mkStrLit (r.dropEnd 1).toString
 |'?'=>`(?_)
 |c=>if w=="_" then `(_) else if c.isDigit then return Lean.Syntax.mkNumLit w else return Lean.mkIdent w.toName
def sO(c:Char):Nat:=("abcdefghijklmnopqrstuvwxyz0123456789!#$%&*+,-./:;<=>?@^_|~'`()[]ABCDEFGHIJKLMNOPQRSTUVWXYZ".toList.findIdx (·==c))
def sJ:List Lean.Term->Lean.Term
 |[f]=>f
 |f::l=>Lean.Syntax.mkApp f l.toArray
 |[]=>⟨.missing⟩
def sP(t:Nat->Lean.Term):Nat->List String->Lean.MacroM (List Lean.Term×List String)
 |0,r=>return ([],r)
 |_,[]=>return ([],[])
 |n+1,w::r=>do
  if w==")" then return ([],r)
  let (a,r)<-if w=="(" then do
    let (l,r)<-sP t n r
    pure (sJ l,r)
   else do
    let a<-sA t w
    pure (a,r)
  let (l,r)<-sP t n r
  return (a::l,r)
def sK:Nat->Nat->List (Nat⊕Lean.Term)->Lean.MacroM (List Lean.Term×List (Nat⊕Lean.Term))
 |n+1,k+1,.inr t::r=>do
  let (l,r)<-sK n k r
  return (t::l,r)
 |n+1,k+1,.inl c::r=>do
  let b:=((sT.getD c "").splitOn " ")
  let (t,r)<-sK n (b.filter (·.startsWith "$")).length r
  let (a,_)<-sP (fun i=>t.getD i ⟨.missing⟩) 999 b
  let (l,r)<-sK n k r
  return (sJ a::l,r)
 |_,_,r=>return ([],r)
def sC:List Char->List Nat
 |a::b::r=>if a.isUpper then (64+90*(a.toNat-65)+sO b)::sC r else sO a::sC (b::r)
 |[a]=>[sO a]
 |[]=>[]
local macro_rules|`(s! $x)=>do
 let (l,_)<-sK 999 1 (x.raw.getArgs.toList.flatMap fun a=>match a.isInterpolatedStrLit? with|some c=>(sC c.toList).map .inl|_=>[.inr ⟨a⟩])
 return l.getD 0 ⟨.missing⟩
local macro_rules|`(tactic|omega)=>`(tactic|lia)
set_option internal.cmdlineSnapshots true
set_option Elab.async false
set_option linter.all false
set_option maxRecDepth 100000
local macro_rules|`(tactic|walk_at "wp")=>`(tactic|first|with_reducible refine PySem.wpAny_pure ?_|with_reducible refine PySem.wpAny_bind ?_|with_reducible refine PySem.wpAny_attempt ?_|((with_reducible refine' PySem.wpAny_mkStr' ?_ ?zb);case zb=>size_fits)|((with_reducible apply PySem.wpAny_ite_false);focus(rfl;done))|((with_reducible apply PySem.wpAny_ite_true);focus(rfl;done))|wp_delta|wp_step)
namespace Hd
open PySem PySem.W PyProof.Rows
noncomputable def s0 (w:World) (os:OsState):Shared:=⟨boot_heap w.params,#[],boot_drawn,boot_toks,os⟩
abbrev ann:Option Value:=some s!"k{6}"
abbrev P0:Pos:=⟨0,0,0,0⟩
abbrev BB:List Frame:=[topFrame P0]
def env (p:Program):Env:={ scope:=p.main.scope,locals:=mainNs,globals:=mainNs,cells:=[],code:=.ref 13,frame:=some 14 }
def cE (p:Program):Code:=.body (behindTheImports p) (env p)
noncomputable def zig (p:Program) (w:World) (os:OsState):=topGo treeTable p w 11 ann 12 (s0 w os) (topStub p)
noncomputable def SA (p:Program) (w:World) (os:OsState):Shared:=((zig p w os).map Prod.fst).getD (s0 w os)
noncomputable def T0 (p:Program) (w:World) (os:OsState):SharedT:=⟨(s!"Bg".heap.objs.toList.foldl (fun (x:BT×Nat) o=>(x.1.ins x.2 o,x.2+1)) (BT.nil,0)).1,s!"Bg".heap.objs.size,s!"Bg".heap.life,s!"Bg".gens,s!"Bg".drawn,s!"Bg".toks,os⟩
noncomputable def wS (p:Program) (w:World) (os:OsState) (n:Nat):=segRunT treeTable p w 11 ann 1 n s!"AN" s!"Gn"
noncomputable def S3 (p:Program) (w:World) (os:OsState) (n:Nat):SharedT:=(s!"E!".map fun x=>x.2.1).getD s!"AN"
noncomputable def zcF (p:Program) (w:World) (os:OsState) (n:Nat) (pos:Pos):Option Shared:=s!"E!".bind fun x=>topRun treeTable p w 11 ann 2 x.2.1.abs ⟨doneF .next,cE p,pos,BB⟩
theorem zo2:∀w:World,(s!"A.".isNs mainGlobals && (#[]:Array GenState).size==0,s!"A.".objs.size,s!"A.".nsMap mainGlobals "__annotations__")=(true,11,ann):=fun w=>by kernel_rfl
variable {p q:Program} {loose:List Str} {Xt:Shared->Bool} {N:Nat} {pos:Pos}
theorem zhd {α:Type} {Yf:Shared->α} {Ya:World->α} {n:Nat}
 (e:opening p=plainProg p.main.scope.names) (hN:Nat.ble 600 N=true) (f:∀s,fenceModules? p s=some s) (le:Nat.ble (12+(1+(n+2))) N=true)
 (h1:∀w os,zig p w os=some (SA p w os,⟨denote treeTable s!"E9",cE p,P0,BB⟩))
 (h2:∀w os,segRun treeTable p w 11 ann 1 1 s!"Bg" s!"E#"=some (.next,s!"AN".abs,cE p,P0))
 (h3:∀w os,(wS p w os n,s!"C?".map fun s=>(staticsOk s!"B6" s!"A." s.heap && namesBound p s.heap && gensDone s && laidKept s!"A." s.heap,openSeen q loose s!"B6" Xt true s,Yf s))=(some (.next,S3 p w os n,cE p,pos),some (true,openGood q loose,Ya w))):
 LeftO p q loose Xt Yf Ya N:=fun w=>by
 obtain ⟨⟨h,gs,d,k,os⟩,e0,e'⟩:=Option.map_eq_some_iff.mp (boot_open e hN f w);obtain ⟨rfl,rfl,rfl,rfl⟩:h=boot_heap w.params/\gs=Array.mk []/\d=boot_drawn/\k=boot_toks:=by simpa using e'
 obtain ⟨z1,z2,z3⟩:_/\_/\_:=by simpa only [Prod.mk.injEq] using zo2 w
 have p3:=congrArg Prod.fst (h3 w os);have l3:=congrArg Prod.snd (h3 w os);dsimp only at p3 l3;obtain ⟨s,hs,hl⟩:=Option.map_eq_some_iff.mp l3;obtain ⟨l1,l2,l4⟩:_/\_/\_:=by simpa only [Prod.mk.injEq] using hl
 unfold zcF at hs;rw [p3] at hs;have run0:=go_top (h1 w os) (piece_block (h2 w os) (r:=s) (N:=n+2) (by
  have:=piece_app (env:=env p) (rest:=[]) (segRun_of p3) (piece_nil hs)
  rwa [List.append_nil] at this))
 have r:=topRun_mono (N-(12+(1+(n+2)))) _ _ _ _ run0;rw [show 12+(1+(n+2))+(N-(12+(1+(n+2))))=N by have:=Nat.le_of_ble_eq_true le;omega] at r
 have t:topFrom treeTable p w N ⟨boot_heap w.params,Array.mk [],boot_drawn,boot_toks,os⟩=some s:=by
  unfold topFrom;dsimp only;rw [z1,z2,z3];have r':topRun treeTable p w 11 ann N ⟨boot_heap w.params,Array.mk [],boot_drawn,boot_toks,os⟩ (topStub p)=some s:=r;rw [r'];show (match staticsOk s!"B6" s!"A." s.heap && namesBound p s.heap && gensDone s && laidKept s!"A." s.heap with | true=>some s | false=>none)=_
  rw [l1]
 unfold openEnds;rw [e0];show (topFrom treeTable p w N ⟨boot_heap w.params,Array.mk [],boot_drawn,boot_toks,os⟩).map _=_;rw [t];show some (_,_)=_;rw [l2,l4]
theorem zfK {α:Type} {Yf:Shared->α} {Ya:World->α} {n:Nat}
 (e:opening p=plainProg p.main.scope.names) (hN:Nat.ble 600 N=true) (f:∀s,fenceModules? p s=some s) (le:Nat.ble (12+(1+(n+2))) N=true)
 (h1:∀w os,zig p w os=some (SA p w os,⟨denote treeTable s!"E9",cE p,P0,BB⟩))
 (h2:∀w os,segRun treeTable p w 11 ann 1 1 s!"Bg" s!"E#"=some (.next,s!"AN".abs,cE p,P0))
 (h3:∀w os,wS p w os n=some (.next,S3 p w os n,cE p,pos))
 (h4:∀w os,s!"C?".map (fun s=>staticsOk s!"B6" s!"A." s.heap && namesBound p s.heap && gensDone s && laidKept s!"A." s.heap)=some true)
 (h5:∀w os,s!"C?".map (openSeen q loose s!"B6" Xt true)=some (openGood q loose))
 (h6:∀w os,s!"C?".map Yf=some (Ya w)):
 LeftO p q loose Xt Yf Ya N:=zhd e hN f le h1 h2 (fun w os=>by
  have a:=h4 w os;have b:=h5 w os;have c:=h6 w os;rw [h3 w os];cases hf:zcF p w os n pos with
  | none=>rw [hf] at a;cases a
  | some s=>
   rw [hf] at a b c;have a':=Option.some.inj a;dsimp only at a';have b':=Option.some.inj b;have c':=Option.some.inj c;show (_,some (_,_,_))=_;rw [a',b',c'])
noncomputable def zo3 (p:Program) (w:World) (n:Nat) (T:SharedT):=segRunT treeTable p w 11 ann 1 n T s!"Gn"
noncomputable def zdO (p:Program) (w:World) (n:Nat) (pos:Pos) (T:SharedT):Option Shared:=(zo3 p w n T).bind fun x=>topRun treeTable p w 11 ann 2 x.2.1.abs ⟨doneF .next,cE p,pos,BB⟩
noncomputable def lk1 (p q:Program) (n:Nat) (pos:Pos) (w:World) (b:Heap) (T:SharedT):=((zo3 p w n T).map fun x=>(x.1,x.2.2),(zdO p w n pos T).map fun s=>((staticsOk (importedModules p.main.body) b s.heap && namesBound p s.heap && gensDone s && laidKept b s.heap,plainSeenE q (looseW q []) s),pinSeenD q (drecsOf q) s,plainSeenD q [] s,clsSeenW q [] s))
noncomputable def lk3 (p q:Program) (n:Nat) (pos:Pos) (w:World) (T:SharedT):=(zdO p w n pos T).map fun s=>(tabsOk q s,wideSeen q s)
noncomputable def lk4 (p q:Program) (rc:WRecords) (n:Nat) (pos:Pos) (w:World) (T:SharedT):=(zdO p w n pos T).map fun s=>((s.heap.bltView,s.heap.keysOk (looseW q []) ((recsOf q).map (·.name)) ((litsOf q).map (·.1)) ((clssOf q (looseW q [])).map (·.name)) && s.heap.accountedOkI s!"B6" && s.heap.isNs mainGlobals && s.heap.isNs builtinsNs && tablesOk q s.heap && (xlAt q [] s && recOk rc s) && (s.gens.size==0)),seen ((recsOf q).map (·.name)) (ownsOf q) [] { s with gens:=#[] })
theorem zfL {rc:WRecords} {α:Type} {Yf:Shared->α} {Ya:World->α} {n:Nat} {pos:Pos} {L1 L3 L4 FN} (e1:lk1=L1) (e3:lk3=L3) (e4:lk4=L4) (eF:zdO=FN)
 (e:opening p=plainProg p.main.scope.names) (hN:Nat.ble 600 N=true) (f:∀s,fenceModules? p s=some s) (le:Nat.ble (12+(1+(n+2))) N=true)
 (h1:∀w os,zig p w os=some (SA p w os,⟨denote treeTable (cE p),cE p,P0,BB⟩))
 (h2:∀w os,segRun treeTable p w 11 ann 1 1 (SA p w os) (blockOf (behindTheImports p) (env p) (cE p) P0 BB)=some (.next,(T0 p w os).abs,cE p,P0))
 (l1:∀w os,L1 p q n pos w (boot_heap w.params) (T0 p w os)=(some (.next,cE p,pos),some ((true,plainGoodE q (looseW q [])),pinGoodD (drecsOf q),plainGoodD q [],clsGoodW q [])))
 (l3:∀w os,L3 p q n pos w (T0 p w os)=some (true,wideGood q))
 (l4:∀w os,L4 p q rc n pos w (T0 p w os)=some ((bltViewBooted,true),expectedOf q))
 (h4:∀w os,(FN p w n pos (T0 p w os)).map Yf=some (Ya w)):
 LeftO p q [] (fun s=>xlAt q [] s && recOk rc s) Yf Ya N:=by
 subst e1 e3 e4 eF
 have r3:∀w os,wS p w os n=some (.next,S3 p w os n,cE p,pos):=fun w os=>by
  have a:(wS p w os n).map (fun x=>(x.1,x.2.2))=some (.next,cE p,pos):=congrArg Prod.fst (l1 w os)
  obtain ⟨⟨a1,a2,a3⟩,ha,hb⟩:=Option.map_eq_some_iff.mp a
  obtain ⟨rfl,rfl⟩:=Prod.mk.inj hb
  unfold S3
  rw [ha]
  rfl
 have z:∀w os,(zcF p w os n pos).map (fun s=>((staticsOk (importedModules p.main.body) (boot_heap w.params) s.heap && namesBound p s.heap && gensDone s && laidKept (boot_heap w.params) s.heap,plainSeenE q (looseW q []) s),pinSeenD q (drecsOf q) s,plainSeenD q [] s,clsSeenW q [] s))=some ((true,plainGoodE q (looseW q [])),pinGoodD (drecsOf q),plainGoodD q [],clsGoodW q []):=fun w os=>congrArg Prod.snd (l1 w os)
 exact zfK e hN f le h1 h2 r3 (fun w os=>by
  obtain ⟨s,hs,hb⟩:=Option.map_eq_some_iff.mp (z w os)
  rw [hs]
  exact congrArg some (Prod.mk.inj (Prod.mk.inj hb).1).1) (fun w os=>by
  obtain ⟨s,hs,hb⟩:=Option.map_eq_some_iff.mp (z w os)
  have a3:(zcF p w os n pos).map _=_:=l3 w os
  have a4:(zcF p w os n pos).map _=_:=l4 w os
  rw [hs] at a3 a4 ⊢
  have b3:=Option.some.inj a3
  have b4:=Option.some.inj a4
  simp only [Prod.mk.injEq] at b3 b4 hb
  show some (_,_,(_ && _),_,_,_,_,_,_)=some (_,_,_,_,_,_,_,_,_)
  refine congrArg some (Prod.ext b4.2 (Prod.ext b4.1.1 (Prod.ext b4.1.2 (Prod.ext b3.1 (Prod.ext hb.2.1 (Prod.ext hb.1.2 (Prod.ext hb.2.2.1 (Prod.ext b3.2 hb.2.2.2))))))))) h4
end Hd
section
namespace My
open PySem
def top (i:Nat):Stmt:=PySem.Challenge.pw_sawsign_k69_what_is_a_line.main.body.getD i (.Pass ⟨0,0,0,0⟩)
end My
def My.view:PySem.Program:={ PySem.Challenge.pw_sawsign_k69_what_is_a_line with main:={ PySem.Challenge.pw_sawsign_k69_what_is_a_line.main with body:=[My.top 1,My.top 2,My.top 3,My.top 4,My.top 5,My.top 6,My.top 7,My.top 8,My.top 9,My.top 10,My.top 11,My.top 12,My.top 13,My.top 14,My.top 15,My.top 16,My.top 18,My.top 19,My.top 20,My.top 21,My.top 22,My.top 24,My.top 25,My.top 27,My.top 28,My.top 29,My.top 30,My.top 32,My.top 33,My.top 34,My.top 36,My.top 38,My.top 39,My.top 41,My.top 42,My.top 43,My.top 45,My.top 46,My.top 47,My.top 48,My.top 49,My.top 50,My.top 51,My.top 52,My.top 54,My.top 55,My.top 56,My.top 57,My.top 58,My.top 59,My.top 60,My.top 61,My.top 63,My.top 64,My.top 65,My.top 66,My.top 67,My.top 68,My.top 69,My.top 70,My.top 71,My.top 72,My.top 73,My.top 74,My.top 76,My.top 77,My.top 78,My.top 79,My.top 80,My.top 81,My.top 82,My.top 83,My.top 84,My.top 85,My.top 86,My.top 87,My.top 88,My.top 89,My.top 91,My.top 92,My.top 93,My.top 94,My.top 95,My.top 96,My.top 97,My.top 98,My.top 99] } }
open PySem PySem.W PyProof.Rows
set_option maxHeartbeats 0
lay_quick Hd.lk1 Hd.lk3 Hd.lk4 Hd.zdO
theorem My.elk1:Hd.lk1=Hd.lk1:=rfl
name_quick lk1Q for Hd.lk1 by My.elk1
theorem My.elk3:Hd.lk3=Hd.lk3:=rfl
name_quick lk3Q for Hd.lk3 by My.elk3
theorem My.elk4:Hd.lk4=Hd.lk4:=rfl
name_quick lk4Q for Hd.lk4 by My.elk4
theorem My.efinS:Hd.zdO=Hd.zdO:=rfl
name_quick finSQ for Hd.zdO by My.efinS
theorem My.h1:∀w os,Hd.zig PySem.Challenge.pw_sawsign_k69_what_is_a_line w os=some (Hd.SA PySem.Challenge.pw_sawsign_k69_what_is_a_line w os,⟨denote treeTable s!"Go",Hd.cE PySem.Challenge.pw_sawsign_k69_what_is_a_line,Hd.P0,Hd.BB⟩):=fun _ _=>by kernel_rfl
theorem My.h2:∀w os,segRun treeTable PySem.Challenge.pw_sawsign_k69_what_is_a_line w 11 Hd.ann 1 1 (Hd.SA PySem.Challenge.pw_sawsign_k69_what_is_a_line w os) (blockOf (behindTheImports PySem.Challenge.pw_sawsign_k69_what_is_a_line) (Hd.env PySem.Challenge.pw_sawsign_k69_what_is_a_line) s!"Go" Hd.P0 Hd.BB)=some (.next,s!"C@".abs,Hd.cE PySem.Challenge.pw_sawsign_k69_what_is_a_line,Hd.P0):=fun _ _=>by kernel_rfl
theorem My.hl1:∀w os,Fast.lk1Q PySem.Challenge.pw_sawsign_k69_what_is_a_line My.view 12000 ⟨492,0,515,15⟩ w (boot_heap w.params) (Hd.T0 PySem.Challenge.pw_sawsign_k69_what_is_a_line w os)=(some (.next,Hd.cE PySem.Challenge.pw_sawsign_k69_what_is_a_line,⟨492,0,515,15⟩),some ((true,plainGoodE My.view (looseW My.view [])),pinGoodD (drecsOf My.view),plainGoodD My.view [],clsGoodW My.view [])):=fun _ _=>by kernel_rfl
theorem My.hl3:∀w os,Fast.lk3Q PySem.Challenge.pw_sawsign_k69_what_is_a_line My.view 12000 ⟨492,0,515,15⟩ w (Hd.T0 PySem.Challenge.pw_sawsign_k69_what_is_a_line w os)=some (true,wideGood My.view):=fun _ _=>by kernel_rfl
theorem My.hl4:∀w os,Fast.lk4Q PySem.Challenge.pw_sawsign_k69_what_is_a_line My.view (RowW.records (OpenRow.toRowW (OpenLaw.row PySem.Challenge.rw_sawsign_k69_what_is_a_line))) 12000 ⟨492,0,515,15⟩ w (Hd.T0 PySem.Challenge.pw_sawsign_k69_what_is_a_line w os)=some ((bltViewBooted,true),expectedOf My.view):=fun _ _=>by kernel_rfl
theorem My.ews:OpenLaw.wellSaid=OpenLaw.wellSaid:=rfl
name_quick wsQ for OpenLaw.wellSaid by My.ews
theorem My.hs:Fast.wsQ PySem.Challenge.rw_sawsign_k69_what_is_a_line=true:=by kernel_rfl
local macro_rules | `(tactic| o_law) => `(tactic| refine holds_law ((congrFun Fast.wsQ_eq PySem.Challenge.rw_sawsign_k69_what_is_a_line).trans My.hs) fun said => ?_)
local macro_rules | `(tactic| o_head $H:term) => `(tactic| (
  refine holds_open (q := My.view) (loose := []) (Xt := fun s => xlAt My.view [] s && recOk (RowW.records (OpenRow.toRowW (OpenLaw.row PySem.Challenge.rw_sawsign_k69_what_is_a_line))) s) (XP := XL My.view []) (Yf := Hook.obs $H) (Ya := Hook.val $H) (YP := Hook.says $H) (N := 13000) ?hl (Hook.of $H) (Hook.keeps $H) (fun s e => xl_of s (Bool.and_eq_true_iff.mp e).1) XL.keeps (by rfl) (by rfl) (by rfl) (fun s e => recFacts_of (Bool.and_eq_true_iff.mp e).2) (by rfl) (by first | assumption | decide +kernel) (by decide +kernel) ⟨rfl, rfl, rfl, rfl, rfl, by decide +kernel⟩ ?hw ?hc
  (case hl => exact Hd.zfL (n := 12000) (pos := ⟨492, 0, 515, 15⟩) Fast.lk1Q_eq Fast.lk3Q_eq Fast.lk4Q_eq Fast.finSQ_eq (by kernel_rfl) (by decide) (fun _ => by kernel_rfl) (by decide) My.h1 My.h2 My.hl1 My.hl3 My.hl4 (fun _ _ => by kernel_rfl))))
set_option maxHeartbeats 0 in
open_top hd for PySem.Challenge.rw_sawsign_k69_what_is_a_line
end
namespace L2
open PySem PySem.Spec PyProof.Rows
abbrev Key:=Sum Int Str
def zcW:Key->Value->Bool
 | .inl k,v=>Value.isInt k v
 | .inr x,v=>Value.isStrOf x v
def zqB (w:World):Key->Int
 | .inl k=>hashInt k
 | .inr x=>hashStr w x
theorem keyIs_shape:∀{k:Key} {v:Value},zcW k v=true->(∃i t,k=Sum.inl i/\v=Value.int i t)\/(∃x t,k=Sum.inr x/\v=Value.str x t)
 | .inl i,v,h=>by
  obtain ⟨t,e⟩:=Value.isInt_shape (k:=i) (v:=v) h;exact .inl ⟨i,t,rfl,e⟩
 | .inr x,v,h=>by
  obtain ⟨t,e⟩:=Value.isStrOf_shape (x:=x) (v:=v) h;exact .inr ⟨x,t,rfl,e⟩
theorem zhe (i:Int) (t:Tok):zcW s!"${i}" s!"E$"=true:=by simp [zcW,Value.isInt]
theorem zhf (x:Str) (t:Tok):zcW s!"#{x}" (.str x t)=true:=by simp [zcW,Value.isStrOf]
theorem znu (a b:Int):decide ((Sum.inl a:Key)=Sum.inl b)=(a==b):=by
 by_cases e:a=b
 ·subst e;simp
 ·have h:¬(Sum.inl a:Key)=Sum.inl b:=fun q=>e (Sum.inl.inj q)
  rw [decide_eq_false h];exact (beq_eq_false_iff_ne.mpr e).symm
theorem znv (a b:Str):decide ((Sum.inr a:Key)=Sum.inr b)=decide (a=b):=by
 by_cases e:a=b
 ·subst e;simp
 ·have h:¬(Sum.inr a:Key)=Sum.inr b:=fun q=>e (Sum.inr.inj q)
  rw [decide_eq_false h,decide_eq_false e]
theorem znw (a:Int) (b:Str):decide ((Sum.inl a:Key)=Sum.inr b)=false:=decide_eq_false (fun q=>nomatch q)
theorem znx (a:Str) (b:Int):decide ((Sum.inr a:Key)=Sum.inl b)=false:=decide_eq_false (fun q=>nomatch q)
def zw (prog:Program) (w:World):PySem.KeyKind prog w Key where
 is:=zcW
 hash:=zqB w
 inj:=fun v a b ha hb=>by
  rcases keyIs_shape ha with ⟨i,t,rfl,rfl⟩ | ⟨x,t,rfl,rfl⟩
  ·rcases keyIs_shape hb with ⟨j,u,rfl,e⟩ | ⟨y,u,rfl,e⟩
   ·injection e with e1 _;rw [e1]
   ·exact nomatch e
  ·rcases keyIs_shape hb with ⟨j,u,rfl,e⟩ | ⟨y,u,rfl,e⟩
   ·exact nomatch e
   ·injection e with e1 _;rw [e1]
 byValue:=fun k v h=>by
  rcases keyIs_shape h with ⟨i,t,rfl,rfl⟩ | ⟨x,t,rfl,rfl⟩ <;> rfl
 pyHash:=fun hv h=>by
  rcases keyIs_shape hv with ⟨i,t,rfl,rfl⟩ | ⟨x,t,rfl,rfl⟩
  ·exact wpAny_pyHash_int h
  ·exact wpAny_pyHash_str h
 eqBool:=fun hu hv h=>by
  rcases keyIs_shape hu with ⟨i,t,rfl,rfl⟩ | ⟨x,t,rfl,rfl⟩
  ·rcases keyIs_shape hv with ⟨j,u,rfl,rfl⟩ | ⟨y,u,rfl,rfl⟩
   ·rw [znu] at h;exact wpAny_eqBool_int h
   ·rw [znw] at h;exact SeqAt.EqAt.int_str i t y u _ _ _ _ h
  ·rcases keyIs_shape hv with ⟨j,u,rfl,rfl⟩ | ⟨y,u,rfl,rfl⟩
   ·rw [znx] at h;exact SeqAt.EqAt.str_int x t j u _ _ _ _ h
   ·rw [znv] at h;exact wpAny_eqBool_str h
 «strs»:=fun k x t v h=>by
  rcases keyIs_shape h with ⟨i,u,rfl,e⟩ | ⟨y,u,rfl,e⟩
  ·exact nomatch e
  ·injection e with e1 _
   subst e1;cases v <;> rfl
theorem zeQ (prog:Program) (w:World) (i:Int) (t:Tok):(zw prog w).is s!"${i}" s!"E$"=true:=zhe i t
theorem zeR (prog:Program) (w:World) (x:Str) (t:Tok):(zw prog w).is s!"#{x}" (.str x t)=true:=zhf x t
inductive V where
 | non | bl (b:Bool) | int (i:Int) | str (x:Str) | byt (b:Array UInt8) | flt (b:UInt64) | ref (a:Addr) | ty (n:String)
 deriving DecidableEq
def zm:V->Value->Prop
 | .non,u=>u=Value.none
 | .bl b,u=>u=Value.bool b
 | .int i,u=>∃t,u=Value.int i t
 | .str x,u=>∃t,u=Value.str x t
 | .byt b,u=>∃t,u=Value.bytes b t
 | .flt b,u=>∃t,u=Value.float b t
 | .ref a,u=>u=Value.ref a
 | .ty n,u=>u=Value.type n
abbrev zl:List V->List Value->Prop:=Paired zm
variable {xs:List V} {us:List Value}
theorem zl.length (r:zl xs us):xs.length=us.length:=Paired.length r
theorem zl.get:∀{xs:List V} {us:List Value} {i:Nat} {x:V},zl xs us->xs[i]? =some x->∃u,us[i]? =some u/\zm x u
 | _,_,_,_,.nil,e=>by simp at e
 | _,_,0,_,.cons r _,e=>by simp at e;subst e;exact ⟨_,rfl,r⟩
 | _,_,i+1,x,.cons _ t,e=>by
  obtain ⟨u,h1,h2⟩:=zl.get (i:=i) (x:=x) t (by simpa using e)
  exact ⟨u,by simpa using h1,h2⟩
theorem zl.append:∀{xs ys:List V} {us ws:List Value},zl xs us->zl ys ws->zl (xs++ys) (us++ws)
 | _,_,_,_,.nil,s=>s
 | _,_,_,_,.cons r t,s=>.cons r (zl.append t s)
theorem zl.take:∀{xs:List V} {us:List Value} (n:Nat),zl xs us->zl (xs.take n) (us.take n)
 | _,_,0,_=>.nil
 | _,_,_+1,.nil=>.nil
 | _,_,n+1,.cons r t=>.cons r (zl.take n t)
theorem zl.drop:∀{xs:List V} {us:List Value} (n:Nat),zl xs us->zl (xs.drop n) (us.drop n)
 | _,_,0,r=>r
 | _,_,_+1,.nil=>.nil
 | _,_,n+1,.cons _ t=>zl.drop n t
def xc:Option V->Option Value->Prop
 | some v,some u=>zm v u
 | none,none=>True
 | _,_=>False
def KV {κ:Type}:List (κ×V)->List (κ×Value)->Prop:=Paired fun (p:κ×V) (q:κ×Value)=>p.1=q.1/\zm p.2 q.2
def kV:Key->V
 | .inl i=>.int i
 | .inr x=>.str x
inductive HO where
 | lst (xs:List V)
 | tup (xs:List V)
 | dK (kvs:List (Key×V)) | dT (kvs:List (List Key×V))
 | set (S:Int->Bool) (n:Nat)
 | ins (C dx:Addr) (fs:List (Str×V))
 | own (x:Addr)
 | xd (fs:List (Str×V))
 | met (f x:Addr)
 | rng (lo hi:Int)
 | frz (o:Obj) (u:HO)
 | tbl (ps:Array Value)
 | ext (φ:Heap->Prop)
abbrev Hp:=Addr->Option HO
def upd (H:Hp) (a:Addr) (o:HO):Hp:=fun b=>if b=a then some o else H b
variable {H:Hp} {a:Addr}
theorem ze {o:HO}:upd H a o a=some o:=by unfold upd;rw [if_pos rfl]
variable {b:Addr}
theorem zf {o:HO} (h:b≠a):upd H a o b=H b:=by unfold upd;rw [if_neg h]
theorem yI {H:Hp} {o u:HO} (h:H a=some o) (h':H b=some u) (d:o≠u):a≠b:=by
 intro e;subst e;rw [h] at h';exact d s!"Gp"
theorem zS {o:HO} (h:H a=some o) (h':H b=none):a≠b:=by
 intro e;subst e;rw [h] at h';cases h'
section
variable (P:Program) (w:World)
def zq (H:Hp) (h:Heap) (a:Addr):HO->Prop
 | .lst xs=>xs.length<=sizeLine/\∃(its:List Value) (n:Nat),zl xs its/\h.get? a=some { cls:=.type "list",data:=.seq its.toArray n }
 | .tup xs=>xs.length<=sizeLine/\∃its:List Value,zl xs its/\IsTup h a its.toArray
 | .dK kvs=>kvs.length<=sizeLine/\(a==sysModules)=false/\∃vs,KV kvs vs/\h.DictOf s!"B(" a vs
 | .dT kvs=>kvs.length<=sizeLine/\(a==sysModules)=false/\∃xs:List (List Key×Addr×Value),
  Paired (fun (p:List Key×V) (q:List Key×Addr×Value)=>p.1=q.1/\H q.2.1=some s!"6{p.1.map kV}"/\zm p.2 q.2.2) kvs xs/\
  ∃o es ep,h.get? a=some o/\o.ExactDict/\o.data=.dict es ep/\es.toList=xs.map (entryOfKey s!"C^")/\(xs.map (·.1)).Nodup
 | .set S n=>h.SetOf (intKind P w) a S n
 | .ins C dx fs=>H dx=some s!"C_"/\fs.length<=1000/\dx≠a/\h.get? a=some s!"E%"/\
  ∃mA,h.Ns1 dx mA/\(∀f,xc s!"E&" (mA f))/\PySem.Within mA (fs.map (·.1))
 | .own _=>∃o,h.get? a=some o
 | .xd fs=>∃mA,h.Ns1 a mA/\∀f,xc s!"E&" (mA f)
 | .rng lo hi=>∃t u v,h.get? a=some { cls:=.type "range",data:=.fields #[.int lo t,.int hi u,.int 1 v] }
 | .frz o u=>h.get? a=some o/\zq H h a u
 | .tbl ps=>h.get? a=some { cls:=.none,data:=.fields ps }
 | .met f x=>h.get? a=some (PySem.W.methodObj s!"Ad" s!"Az")
 | .ext φ=>φ h/\(∃o,h.get? a=some o)/\∀h1 h2:Heap,φ h1->(∀o,h1.get? a=some o->h2.get? a=some o)->φ h2
def HOk (H:Hp) (h:Heap):Prop:=∀a o,H a=some o->zq P w H h a o
end
variable {P:Program} {w:World} {H':Hp} {h h':Heap}
section
variable {o:HO}
theorem zq.lt (x:zq P w H h a o):a<h.objs.size:=by
 cases o with
 | lst xs=>obtain ⟨_,_,_,_,e⟩:=x;exact Heap.lt_size e
 | tup xs=>obtain ⟨_,_,_,p⟩:=x;exact p.lt
 | dK kvs=>obtain ⟨_,_,_,_,o,_,_,e,_⟩:=x;exact Heap.lt_size e
 | dT kvs=>obtain ⟨_,_,_,_,o,_,_,e,_⟩:=x;exact Heap.lt_size e
 | set S n=>obtain ⟨o,_,_,_,e,_⟩:=x;exact Heap.lt_size e
 | ins C dx fs=>obtain ⟨_,_,_,e,_⟩:=x;exact Heap.lt_size e
 | own y=>obtain ⟨_,e⟩:=x;exact Heap.lt_size e
 | xd fs=>obtain ⟨_,⟨_,_,_,e,_⟩,_⟩:=x;exact Heap.lt_size e
 | rng lo hi=>obtain ⟨_,_,_,e⟩:=x;exact Heap.lt_size e
 | frz ob u=>obtain ⟨e,_⟩:=x;exact Heap.lt_size e
 | tbl ps=>exact Heap.lt_size (show h.get? a=some _ from x)
 | met f y=>exact Heap.lt_size (show h.get? a=some _ from x)
 | ext φ=>obtain ⟨_,⟨_,e⟩,_⟩:=x;exact Heap.lt_size e
theorem Paired.mapP {α β:Type} {F G:α->β->Prop}:∀{l₁:List α} {l₂:List β},Paired F l₁ l₂->(∀a b,F a b->G a b)->Paired G l₁ l₂
 | _,_,.nil,_=>.nil
 | _,_,.cons r t,f=>.cons (f _ _ r) (Paired.mapP t f)
theorem zq.stay (x:zq P w H h a o) (k:∀b u,(b=a\/H b=some s!"C_")->h.get? b=some u->h'.get? b=some u)
 (ho:∀b,H b=some s!"C_"->H' b=some s!"C_") (ht:∀b xs,H b=some s!"3"->H' b=some s!"3"):zq P w H' h' a o:=by
 induction o with
 | lst xs=>obtain ⟨z,its,n,r,e⟩:=x;exact ⟨z,its,n,r,k _ _ s!"[" e⟩
 | tup xs=>obtain ⟨z,its,r,ob,e,c⟩:=x;exact ⟨z,its,r,ob,k _ _ s!"[" e,c⟩
 | dK kvs=>obtain ⟨z,y,vs,r,ob,es,ep,e,c⟩:=x;exact ⟨z,y,vs,r,ob,es,ep,k _ _ s!"[" e,c⟩
 | dT kvs=>
  obtain ⟨z,y,xs,r,ob,es,ep,e,c⟩:=x;exact ⟨z,y,xs,Paired.mapP r fun p q z=>⟨z.1,ht _ _ z.2.1,z.2.2⟩,ob,es,ep,k _ _ s!"[" e,c⟩
 | set S n=>obtain ⟨ob,es,ep,t,e,c⟩:=x;exact ⟨ob,es,ep,t,k _ _ s!"[" e,c⟩
 | ins C dx fs=>
  obtain ⟨d,z,ne,e,mA,⟨od,es,ep,e2,c⟩,r⟩:=x;exact ⟨ho _ d,z,ne,k _ _ s!"[" e,mA,⟨od,es,ep,k _ _ s!"#{d}" e2,c⟩,r⟩
 | own y=>obtain ⟨ob,e⟩:=x;exact ⟨ob,k _ _ s!"[" e⟩
 | xd fs=>obtain ⟨mA,⟨od,es,ep,e,c⟩,r⟩:=x;exact ⟨mA,⟨od,es,ep,k _ _ s!"[" e,c⟩,r⟩
 | rng lo hi=>obtain ⟨t,u,v,e⟩:=x;exact ⟨t,u,v,k _ _ s!"[" e⟩
 | frz ob u ih=>obtain ⟨e,q⟩:=x;exact ⟨k _ _ s!"[" e,ih q⟩
 | tbl ps=>
  have e:h.get? a=some { cls:=.none,data:=.fields ps }:=x;show h'.get? a=some { cls:=.none,data:=.fields ps };exact k a _ s!"[" e
 | met f y=>
  have e:h.get? a=some s!"Gq":=x;show h'.get? a=some s!"Gq";exact k a _ s!"[" e
 | ext φ=>obtain ⟨p,⟨o,e⟩,st⟩:=x;exact ⟨st _ _ p fun o q=>k _ _ s!"[" q,⟨o,k _ _ s!"[" e⟩,st⟩
theorem HOk.lt (x:HOk P w H h) (e:H a=some o):a<h.objs.size:=(x a o e).lt
theorem HOk.fresh (x:HOk P w H h) (e:h.objs.size<=a):H a=none:=by
 cases q:H a with
 | none=>rfl
 | some u=>exact absurd s!"B@{x.lt q}{e}" s!"Bh"
theorem HOk.kept (x:HOk P w H h) (k:∀b u,h.get? b=some u->h'.get? b=some u):HOk P w H h':=fun a o e=>
 (x a o e).stay (fun b u _ q=>k b u q) (fun _ q=>q) fun _ _ q=>q
theorem HOk.laid (x:HOk P w H h) (k:∀b u,h.get? b=some u->h'.get? b=some u) (hp:h.objs.size<=a) (new:zq P w s!"B)" h' a o):HOk P w s!"B)" h':=fun b u e=>by
 have hn:=x.fresh hp
 by_cases hb:b=a
 ·subst hb;rw [ze] at e;cases e;exact new
 ·rw [zf hb] at e;exact (x b u e).stay (fun c v _ q=>k c v q) (fun c q=>by rw [zf s!"C|"];exact q) fun c xs q=>by rw [zf s!"C|"];exact q
end
def Rd (H:Hp) (a:Addr) (u:HO):Prop:=H a=some u\/∃o,H a=some s!"C~"
theorem Rd.ok {u:HO} (r:Rd H a u) (x:HOk P w H h):zq P w H h a u:=by
 rcases r with r | ⟨o,r⟩
 ·exact x a u r
 ·obtain ⟨_,q⟩:=x a _ r;exact q
def Mut:Option HO->Prop
 | some s!"u{_}"=>True
 | some (.dK _)=>True
 | some (.dT _)=>True
 | some (.set _ _)=>True
 | some (.ins _ _ _)=>True
 | some (.ext _)=>True
 | _=>False
section
variable {x e:Addr} {o':HO}
theorem HOk.write (ok:HOk P w H h) (mu:Mut (H x)) (he:e=x\/H e=some s!"Cd") (k:∀b u,b≠e->h.get? b=some u->h'.get? b=some u) (heo:∃u,h'.get? e=some u)
 (new:zq P w s!".{x}{o'}" h' x o'):HOk P w s!".{x}{o'}" h':=fun b u q=>by
 have nown:∀c y,H c=some (.own y)->c≠x:=fun c y r z=>by subst z;rw [r] at mu;exact mu
 have ntup:∀c xs,H c=some s!"3"->c≠x:=fun c xs r z=>by subst z;rw [r] at mu;exact mu
 by_cases hb:b=x
 ·subst hb;rw [ze] at q;cases q;exact new
 ·rw [zf hb] at q
  by_cases hbe:b=e
  ·have q':H b=some s!"Cd":=by
    rcases he with z | z
    ·exact absurd (hbe.trans z) hb
    ·rw [hbe];exact z
   rw [q] at q';cases q';obtain ⟨v,hv⟩:=heo;exact ⟨v,by rw [hbe];exact hv⟩
  ·refine (ok b u q).stay (fun c v hc r=>k c v ?_ r) (fun c r=>by rw [zf (nown c b r)];exact r) fun c xs r=>by rw [zf (ntup c xs r)];exact r
   rcases hc with rfl | hc
   ·exact hbe
   ·rintro rfl;rcases he with z | z
    ·exact nown c b hc z
    ·rw [hc] at z;cases z;exact hb rfl
end
structure Un (fs ex:List Addr) (H H':Hp) (h h':Heap):Prop where
 keep:∀b o,h.get? b=some o->H b=none->b∉fs->b∉ex->h'.get? b=some o
 slot:∀b o,h.get? b=some o->H b=none->b∈fs->b∉ex->∃sl,h'.get? b=some { o with slots:=sl }
 free:∀b o,h.get? b=some o->H b=none->b∉ex->H' b=none
 there:∀b o,h.get? b=some o->b∉ex->∃o',h'.get? b=some o'
 tups:∀b xs,H b=some s!"3"->H' b=some s!"3"
 frzs:∀b o u,H b=some s!"C~"->H' b=some s!"C~"
 tbls:∀b ps,H b=some (.tbl ps)->∃more,H' b=some (.tbl (ps++more))
section
variable {fs fs' ex ex':List Addr} {H1 H2:Hp} {h1 h2:Heap} {x e:Addr} {o:HO}
theorem Un.any (u:Un fs ex H H1 h h1) {ob:Obj} (q:h.get? b=some ob) (n:H b=none) (hx:b∉ex):∃sl,h1.get? b=some { ob with slots:=sl }:=by
 by_cases hb:b∈fs
 ·exact u.slot b ob q n hb hx
 ·exact ⟨ob.slots,u.keep b ob q n hb hx⟩
theorem Un.kept (k:∀b u,h.get? b=some u->h'.get? b=some u):Un fs ex H H h h':=
 ⟨fun b ob q _ _ _=>k b ob q,fun b ob q _ _ _=>⟨ob.slots,k b ob q⟩,fun _ _ _ n _=>n,fun b ob q _=>⟨ob,k b ob q⟩,fun _ _ q=>q,fun _ _ _ q=>q,fun _ ps q=>⟨#[],by rw [q];simp⟩⟩
theorem Un.refl:Un fs ex H H h h:=Un.kept fun _ _ q=>q
theorem Un.laid (k:∀b u,h.get? b=some u->h'.get? b=some u) (hp:h.objs.size<=a) (hn:H a=none):Un fs ex H s!"B)" h h' where
 keep:=fun b u q _ _ _=>k b u q
 slot:=fun b u q _ _ _=>⟨u.slots,k b u q⟩
 free:=fun b u q n _=>by rw [zf s!"AmB@AI{q}{hp}"];exact n
 there:=fun b u q _=>⟨u,k b u q⟩
 tups:=fun b xs q=>by rw [zf s!"C|"];exact q
 frzs:=fun b u xs q=>by rw [zf s!"C|"];exact q
 tbls:=fun b ps q=>⟨#[],by rw [zf s!"C|",q];simp⟩
theorem Un.write (mu:Mut (H x)) (he:e=x\/H e=some s!"Cd") (k:∀b u,b≠e->h.get? b=some u->h'.get? b=some u) (heo:∃u,h'.get? e=some u):Un fs ex H s!"E*" h h':=by
 have hx:∀b,H b=none->b≠x:=fun b n z=>by subst z;rw [n] at mu;exact mu
 have hb:∀b,H b=none->b≠e:=fun b n z=>by
  subst z;rcases he with r | r
  ·exact hx b n r
  ·rw [n] at r;cases r
 have hm:∀b u,H b=some u->¬Mut s!"n{u}"->b≠x:=fun b u q nm z=>by subst z;rw [q] at mu;exact nm mu
 refine ⟨fun b u q n _ _=>k b u (hb b n) q,fun b u q n _ _=>⟨u.slots,k b u (hb b n) q⟩,fun b u q n _=>by rw [zf (hx b n)];exact n,fun b u q _=>?_,
  fun b xs q=>by rw [zf (hm b _ q fun z=>z)];exact q,fun b u xs q=>by rw [zf (hm b _ q fun z=>z)];exact q,fun b ps q=>⟨#[],by rw [zf (hm b _ q fun z=>z),q];simp⟩⟩
 by_cases hbe:b=e
 ·subst hbe;exact heo
 ·exact ⟨u,k b u hbe q⟩
end
def trk (h:Heap) (H:Hp):List Addr:=s!"Gr".filter fun a=>(H a).isSome
def zdP (h:Heap) (H:Hp):Heap:=PySem.W.hideAll h (trk h H)
theorem zhg (h:Heap) (H:Hp):s!"D%".objs.size=h.objs.size:=PySem.W.hideAll_size _ _
variable {o:Obj}
theorem zih (e:h.get? b=some o) (n:H b=none):s!"D%".get? b=some o:=
 PySem.W.hideAll_get _ e fun hm=>by
  have q:(H b).isSome=true:=(List.mem_filter.mp hm).2;rw [n] at q;simp at q
theorem zky (e:s!"D%".get? b=some o):h.get? b=some o/\H b=none:=by
 have e':h.get? b=some o:=PySem.W.of_hideAll (trk h H) e;refine ⟨e',?_⟩;cases q:H b with
 | none=>rfl
 | some x=>
  have hm:b∈trk h H:=List.mem_filter.mpr ⟨List.mem_range.mpr s!"AI{e'}",by simp [q]⟩
  have z:s!"D%".get? b=none:=PySem.W.hideAll_none (trk h H) hm;rw [z] at e;cases e
def zkz (g h:Heap) (L:Addr):List (Addr×Obj):=s!"Gr".filterMap fun a=>if a=L\/(g.get? a).isSome=true then none else (h.get? a).map fun o=>(a,o)
def rest (g h:Heap) (L d:Addr):List (Addr×Obj):=(zkz g h L).filter fun p=>decide (p.1≠d)
structure Mod (K:PySem.W.Frag) (mg:Str->Option Value) (base:Heap):Prop where
 kin:K.In base
 glob:base.Ns mainGlobals mg
 blt:∃mb,base.Ns builtinsNs mb/\∀x:Str,x≠"__name__"->mb x=bootBuiltins x
 nolimit:base.NoLimit
structure Cx where
 prog:Program
 w:World
 K:PySem.W.Frag
 mg:Str->Option Value
 base:Heap
 A:Around
 N:List Str
 s₀:Shared
 H₀:Hp
 env:Env
 outer:List Env
 stack:List Env
 ex:List Addr
 fn:Str->Bool
 calm:Bool
 pn:List (Addr×Obj)
 xe:Value->Shared->Prop
def frs (l:List Env):List Addr:=l.filterMap (·.frame)
abbrev Cx.fs (X:Cx):List Addr:=frs X.outer
def Vis (sc:Scope) (x:Str):Prop:=sc.names.lookup x=some .local\/sc.names.lookup x=some .cell\/sc.names.lookup x=some .free
def Loc (sc:Scope) (x:Str):Prop:=sc.names.lookup x=some .local\/sc.names.lookup x=some .cell
def zqC (env:Env) (h:Heap) (m:Str->Option Value) (x:Str) (u:Value):Prop:=
 (env.kindOf x=some .local/\m x=some u)\/((env.kindOf x=some .cell\/env.kindOf x=some .free)/\∃c,env.cells.lookup x=some c/\h.IsCell c s!"n{u}")
structure Cx.Ok (X:Cx):Prop where
 mod:Mod X.K X.mg X.base
 kind:X.env.scope.kind=.function
 glob:X.env.globals=mainGlobals
 blt:X.env.builtins=builtinsNs
 above:X.s₀.heap.objs.size<=X.env.locals
 inj:∀x y c,X.env.cells.lookup x=some c->X.env.cells.lookup y=some c->x=y
 has:∀x,(X.env.kindOf x=some .cell\/X.env.kindOf x=some .free)->∃c,X.env.cells.lookup x=some c
 cab:∀x c,X.fn x=true->X.env.cells.lookup x=some c->X.s₀.heap.objs.size<=c
 hd:X.calm=true->X.A.handled=none
 frames:X.A.frames=some X.stack
 stk:X.stack=X.outer\/(X.stack=X.env::X.outer/\X.env.frame=some X.env.locals)
 exf:∀b∈X.ex,b≠X.env.locals/\∀x c,X.env.cells.lookup x=some c->c≠b
 bs:∀b o,X.base.get? b=some o->X.s₀.heap.get? b=some o/\X.H₀ b=none
 bsz:X.base.objs.size<=X.s₀.heap.objs.size
 noex:∀b o,X.base.get? b=some o->b∉X.ex
 exfs:∀b∈X.ex,b∉X.fs
 funs:X.s₀.heap.FunFrames X.base X.outer
 frf:∀b∈X.fs,X.H₀ b=none
structure Inv (X:Cx) (pins:List (Addr×Obj)) (σ:List (Option V)) (H:Hp) (s:Shared):Prop where
 ok:X.Ok
 os:s.os=X.s₀.os
 bare:AllBare s.gens
 base:Un X.fs X.ex X.H₀ H X.s₀.heap s.heap
 loc:∃m,s.heap.Ns X.env.locals m/\∀(i:Nat) (x:Str) (v:V),X.N[i]? =some x->σ[i]? =some s!"A0"->Vis X.env.scope x->∃u,zm v u/\zqC X.env s.heap m x u
 cell:∀x c,X.env.cells.lookup x=some c->∃v,s.heap.IsCell c v
 free:H X.env.locals=none
 freeC:∀x c,X.env.cells.lookup x=some c->H c=none
 pin:∀p∈X.pn++pins,s.heap.get? p.1=some p.2/\H p.1=none/\p.1≠X.env.locals/\p.1∉X.fs/\∀v,p.2.data≠.cell v
 hok:HOk X.prog X.w H s.heap
 len:σ.length=X.N.length
variable {X:Cx} {pins:List (Addr×Obj)} {s:Shared} {E:Value->Shared->Prop} {A:Around} {x:Str} {it:Addr} {N:List Str} {i:Nat} {M:Model} {u:Value}
section
variable {σ:List (Option V)}
theorem Cx.Ok.nofr (ok:X.Ok) (e:X.base.get? b=some o):b∉X.fs:=fun hb=>by
 have:=(ok.funs.mem hb).1;rw [e] at this;cases this
theorem Inv.bs (I:Inv X pins σ H s):∀b o,X.base.get? b=some o->s.heap.get? b=some o/\H b=none:=fun b o e=>
 ⟨I.base.keep b o s!"D&".1 s!"D&".2 (I.ok.nofr e) s!"Gs",I.base.free b o s!"D&".1 s!"D&".2 s!"Gs"⟩
theorem Inv.bk (I:Inv X pins σ H s):∀b o,X.base.get? b=some o->s.heap.get? b=some o:=fun b o e=>(I.bs b o e).1
theorem Inv.mod (I:Inv X pins σ H s):Mod X.K X.mg X.base:=I.ok.mod
theorem Inv.kIn (I:Inv X pins σ H s):X.K.In s.heap:=I.ok.mod.kin.keeps I.bk
theorem Inv.fr (I:Inv X pins σ H s):∃m,Fr X.base X.env.locals s.heap m:=
 let ⟨m,hn,_⟩:=I.loc
 ⟨m,hn,I.bk,Nat.le_trans I.ok.bsz I.ok.above⟩
theorem Inv.lt (I:Inv X pins σ H s):X.env.locals<s.heap.objs.size:=let ⟨_,hn,_⟩:=I.loc;hn.lt
theorem Inv.sz (I:Inv X pins σ H s):X.s₀.heap.objs.size<=s.heap.objs.size:=Nat.le_trans I.ok.above s!"B|{I.lt}"
theorem Inv.nofs (I:Inv X pins σ H s) (h:s.heap.objs.size<=a):a∉X.fs:=fun hb=>by
 obtain ⟨_,o,ho,_⟩:=I.ok.funs.mem hb;exact absurd s!"B@AI{ho}Bc{I.sz}{h}" s!"Bh"
theorem Inv.cne (I:Inv X pins σ H s):∀x c,X.env.cells.lookup x=some c->c≠X.env.locals:=fun x c e z=>by
 obtain ⟨v,o,ho,hd⟩:=I.cell x c e;obtain ⟨m,⟨o',es,ep,ho',hd',_⟩,_⟩:=I.loc;rw [z,ho'] at ho;cases ho;rw [hd'] at hd;cases hd
theorem Inv.funs (I:Inv X pins σ H s):s.heap.FunFrames X.base X.outer:=by
 have all:∀(l:List Env),(∀b∈frs l,b∈X.fs)->X.s₀.heap.FunFrames X.base l->s.heap.FunFrames X.base l:=by
  intro l
  induction l with
  | nil=>intro _ _;trivial
  | cons env r ih=>
   intro hs hl;obtain ⟨hk,⟨L,o,hf,hn,ho,hd⟩,hr⟩:=hl;have hL:L∈X.fs:=hs L (by unfold frs;rw [List.filterMap_cons,hf];exact List.mem_cons_self)
   obtain ⟨sl,e⟩:=I.base.slot L o ho (I.ok.frf L hL) hL fun z=>I.ok.exfs L z hL
   exact ⟨hk,⟨L,_,hf,hn,e,hd⟩,ih (fun b hb=>hs b (by unfold frs;rw [List.filterMap_cons,hf];exact List.mem_cons_of_mem _ hb)) hr⟩
 exact all X.outer (fun _ hb=>hb) I.ok.funs
theorem Inv.stack (I:Inv X pins σ H s):s.heap.FunFrames X.base X.stack:=by
 rcases I.ok.stk with e | ⟨e,hf⟩
 ·rw [e];exact I.funs
 ·rw [e];obtain ⟨m,hn,_⟩:=I.loc;refine .cons (by rw [I.ok.kind];decide) hf hn ?_ I.funs
  exact Heap.get?_none_of_le s!"Bc{I.ok.bsz}{I.ok.above}"
theorem Inv.stkSub (I:Inv X pins σ H s):∀b∈frs X.stack,b∈X.env.locals::X.fs:=fun b hb=>by
 rcases I.ok.stk with e | ⟨e,hf⟩
 ·rw [e] at hb;exact List.mem_cons_of_mem _ hb
 ·rw [e] at hb;unfold frs at hb;rw [List.filterMap_cons,hf] at hb;exact hb
theorem Inv.stkFree (I:Inv X pins σ H s):∀b∈frs X.stack,H b=none:=fun b hb=>by
 rcases List.mem_cons.mp (I.stkSub b hb) with e | hb
 ·rw [e];exact I.free
 ·obtain ⟨_,o,ho,_⟩:=I.ok.funs.mem hb;exact I.base.free b o ho (I.ok.frf b hb) fun z=>I.ok.exfs b z hb
theorem Inv.step {g':Array GenState} {t':Nat} {d':Drawn} {ch:List Addr} (I:Inv X pins σ H s)
 (hch:∀b∈ch,(b∈X.ex\/X.s₀.heap.objs.size<=b)/\b≠X.env.locals/\(∀x c,X.env.cells.lookup x=some c->c≠b)/\∀p∈X.pn++pins,p.1≠b)
 (keep:∀b o,b≠X.env.locals->b∉X.fs->b∉ch->s.heap.get? b=some o->H b=none->h'.get? b=some o)
 (slot:∀b o,b≠X.env.locals->b∈X.fs->b∉ch->s.heap.get? b=some o->H b=none->∃sl,h'.get? b=some { o with slots:=sl }) (free:∀b o,b∉ch->s.heap.get? b=some o->H b=none->H' b=none)
 (there:∀b o,b∉ch->s.heap.get? b=some o->∃o',h'.get? b=some o')
 (tups:∀b xs,H b=some s!"3"->H' b=some s!"3") (frzs:∀b o u,H b=some s!"C~"->H' b=some s!"C~") (tbls:∀b ps,H b=some (.tbl ps)->∃more,H' b=some (.tbl (ps++more)))
 (ns:∀m,s.heap.Ns X.env.locals m->h'.Ns X.env.locals m) (hok:HOk X.prog X.w H' h') (hg:AllBare g'):
 Inv X pins σ H' { s with heap:=h',gens:=g',drawn:=d',toks:=t' }:=by
 have neL:∀b o,X.s₀.heap.get? b=some o->b≠X.env.locals:=fun b o e=>Nat.ne_of_lt s!"C'"
 have neC:∀b o,X.s₀.heap.get? b=some o->b∉X.ex->b∉ch:=fun b o e hx hb=>by
  rcases (hch b hb).1 with z | z
  ·exact hx z
  ·exact absurd (Nat.lt_of_lt_of_le s!"A/" z) s!"Bh"
 have cellK:∀x c,X.env.cells.lookup x=some c->∀v,s.heap.IsCell c v->h'.IsCell c v:=fun x c e v ⟨o,ho,hd⟩=>by
  have nch:c∉ch:=fun z=>(hch c z).2.2.1 x c e rfl
  by_cases hc:c∈X.fs
  ·obtain ⟨sl,q⟩:=slot c o (I.cne x c e) hc nch ho s!"E+";exact ⟨_,q,hd⟩
  ·exact ⟨o,keep c o (I.cne x c e) hc nch ho s!"E+",hd⟩
 refine ⟨I.ok,I.os,hg,⟨fun b o e n hb hx=>?_,fun b o e n hb hx=>?_,fun b o e n hx=>?_,fun b o e hx=>?_,fun b xs e=>tups b xs (I.base.tups b xs e),fun b o xs e=>frzs b o xs (I.base.frzs b o xs e),fun b ps e=>?_⟩,?_,fun x c e=>?_,?_,fun x c e=>?_,fun p hp=>?_,hok,I.len⟩
 ·exact keep b o (neL b o e) hb s!"D*" s!"E," s!"E-"
 ·obtain ⟨sl,e1⟩:=I.base.slot b o e n hb hx;obtain ⟨sl',e2⟩:=slot b _ (neL b o e) hb s!"D*" e1 s!"E-";exact ⟨sl',e2⟩
 ·obtain ⟨o',e1⟩:=I.base.there b o e hx;exact free b o' s!"D*" e1 s!"E-"
 ·obtain ⟨o',e1⟩:=I.base.there b o e hx;exact there b o' s!"D*" e1
 ·obtain ⟨m1,e1⟩:=I.base.tbls b ps e;obtain ⟨m2,e2⟩:=tbls b _ e1;exact ⟨m1++m2,by rw [e2,Array.append_assoc]⟩
 ·obtain ⟨m,hn,hl⟩:=I.loc;refine ⟨m,ns m hn,fun i x v e1 e2 e3=>?_⟩
  obtain ⟨u,r,l⟩:=hl i x v e1 e2 e3;refine ⟨u,r,?_⟩;rcases l with l | ⟨k,c,e,z⟩
  ·exact .inl l
  ·exact .inr ⟨k,c,e,cellK x c e _ z⟩
 ·obtain ⟨v,z⟩:=I.cell x c e;exact ⟨v,cellK x c e v z⟩
 ·obtain ⟨m,⟨o,_,_,ho,_⟩,_⟩:=I.loc;exact free _ o (fun z=>(hch _ z).2.1 rfl) ho I.free
 ·obtain ⟨v,o,ho,hd⟩:=I.cell x c e;exact free c o (fun z=>(hch c z).2.2.1 x c e rfl) ho s!"E+"
 ·obtain ⟨e,n,ne,nf,d⟩:=I.pin p hp;have nch:p.1∉ch:=fun z=>(hch p.1 z).2.2.2 p hp rfl
  exact ⟨keep p.1 p.2 ne nf nch e n,free p.1 p.2 nch e n,ne,nf,d⟩
theorem Inv.un {t':Nat} (I:Inv X pins σ H s) (u:Un X.fs [] H H' s.heap h') (hok:HOk X.prog X.w H' h'):Inv X pins σ H' { s with heap:=h',toks:=t' }:=by
 obtain ⟨m,⟨o,es,ep,ho,r⟩,_⟩:=id I.loc;obtain ⟨sl,hL⟩:=u.any ho I.free s!"s"
 exact I.step (g':=s.gens) (d':=s.drawn) (ch:=[]) (fun _ z=>nomatch z) (fun b o _ hb _ e n=>u.keep b o e n hb (by simp)) (fun b o _ hb _ e n=>u.slot b o e n hb (by simp)) (fun b o _ e n=>u.free b o e n (by simp)) (fun b o _ e=>u.there b o e (by simp)) u.tups u.frzs u.tbls (fun m' hm=>by
  obtain ⟨o',es',ep',ho',r'⟩:=hm;rw [ho] at ho';cases ho';exact ⟨_,es',ep',hL,r'⟩) hok I.bare
theorem Inv.call {g':Array GenState} {t':Nat} {d':Drawn} {ch:List Addr} (I:Inv X pins σ H s) (u:Un s!"A?" ch H H' s.heap h') (hok:HOk X.prog X.w H' h') (hg:AllBare g')
 (hch:∀b∈ch,(b∈X.ex\/X.s₀.heap.objs.size<=b)/\b≠X.env.locals/\(∀x c,X.env.cells.lookup x=some c->c≠b)/\∀p∈X.pn++pins,p.1≠b):
 Inv X pins σ H' { s with heap:=h',gens:=g',drawn:=d',toks:=t' }:=by
 obtain ⟨m,⟨o,es,ep,ho,r⟩,_⟩:=id I.loc;obtain ⟨sl,hL⟩:=u.any ho I.free fun z=>(hch _ z).2.1 rfl
 exact I.step (ch:=ch) hch (fun b o hL hb hc e n=>u.keep b o e n (fun z=>(List.mem_cons.mp (I.stkSub b z)).elim hL hb) hc) (fun b o _ _ hc e n=>u.any e n hc) (fun b o hc e n=>u.free b o e n hc) (fun b o hc e=>u.there b o e hc) u.tups u.frzs u.tbls (fun m' hm=>by
  obtain ⟨o',es',ep',ho',r'⟩:=hm;rw [ho] at ho';cases ho';exact ⟨_,es',ep',hL,r'⟩) hok hg
theorem Inv.turned {t':Nat} (I:Inv X pins σ H s) (k:∀b o,b≠it->s.heap.get? b=some o->h'.get? b=some o) (hn:H it=none) (hL:it≠X.env.locals)
 (h1:it∈X.ex\/X.s₀.heap.objs.size<=it) (h2:∀x c,X.env.cells.lookup x=some c->c≠it) (h3:∀p∈X.pn++pins,p.1≠it):Inv X pins σ H { s with heap:=h',toks:=t' }:=by
 have nit:∀b u,H b=some u->b≠it:=fun b u e z=>by rw [z,hn] at e;cases e
 refine I.step (g':=s.gens) (d':=s.drawn) (ch:=[it]) (fun b hb=>?_) (fun b o _ _ hc e _=>k b o (fun z=>hc (by simp [z])) e) (fun b o _ _ hc e _=>⟨o.slots,k b o (fun z=>hc (by simp [z])) e⟩) (fun _ _ _ _ n=>n)
  (fun b o hc e=>⟨o,k b o (fun z=>hc (by simp [z])) e⟩) (fun _ _ e=>e) (fun _ _ _ e=>e) (fun b ps e=>⟨#[],by rw [e];simp⟩) (fun m hm=>?_) (fun b u e=>?_) I.bare
 ·have e:b=it:=by simpa using hb
  subst e;exact ⟨h1,hL,h2,h3⟩
 ·obtain ⟨o,es,ep,ho,r⟩:=hm;exact ⟨o,es,ep,k _ o s!"AL{hL}" ho,r⟩
 ·refine (I.hok b u e).stay (fun c v hc q=>k c v ?_ q) (fun _ q=>q) fun _ _ q=>q
  rcases hc with z | z
  ·rw [z];exact nit b u e
  ·exact nit c _ z
theorem Inv.tok (I:Inv X pins σ H s) (t:Nat):Inv X pins σ H { s with toks:=t }:=I.un (h':=s.heap) (t':=t) Un.refl I.hok
theorem Inv.kept {t':Nat} (I:Inv X pins σ H s) (k:∀b u,s.heap.get? b=some u->h'.get? b=some u):Inv X pins σ H { s with heap:=h',toks:=t' }:=I.un (Un.kept k) (I.hok.kept k)
theorem Inv.laid {a:Addr} {o:HO} {t':Nat} (I:Inv X pins σ H s) (k:∀b u,s.heap.get? b=some u->h'.get? b=some u) (hp:s.heap.objs.size<=a) (new:zq X.prog X.w s!"B)" h' a o):
 Inv X pins σ s!"B)" { s with heap:=h',toks:=t' }:=I.un (Un.laid k hp (I.hok.fresh hp)) (I.hok.laid k hp new)
theorem Inv.write {x e:Addr} {o:HO} {t':Nat} (I:Inv X pins σ H s) (mu:Mut (H x)) (he:e=x\/H e=some s!"Cd") (k:∀b u,b≠e->s.heap.get? b=some u->h'.get? b=some u) (heo:∃u,h'.get? e=some u)
 (new:zq X.prog X.w s!"E*" h' x o):Inv X pins σ s!"E*" { s with heap:=h',toks:=t' }:=I.un (Un.write mu he k heo) (I.hok.write mu he k heo new)
theorem Inv.pins_of {pins':List (Addr×Obj)} (I:Inv X pins σ H s) (h:∀p∈pins',s.heap.get? p.1=some p.2/\H p.1=none/\p.1≠X.env.locals/\p.1∉X.fs/\∀v,p.2.data≠.cell v):Inv X pins' σ H s:=
 ⟨I.ok,I.os,I.bare,I.base,I.loc,I.cell,I.free,I.freeC,fun p hp=>s!"Gt".elim (fun z=>I.pin p s!"Gu") (h p),I.hok,I.len⟩
theorem zb3 (hN:N.Nodup) {j:Nat} (a:N[i]? =some x) (b:N[j]? =some x):i=j:=by
 obtain ⟨h1,e1⟩:=List.getElem?_eq_some_iff.mp a;obtain ⟨h2,e2⟩:=List.getElem?_eq_some_iff.mp b;exact (List.getElem_inj hN).mp (e1.trans e2.symm)
theorem zcX {v:V} {Q:Unit->Shared->Prop} (I:Inv X pins σ H s) (hN:X.N.Nodup) (hi:X.N[i]? =some x) (hx:Loc X.env.scope x) (r:zm v u)
 (h:∀s',Inv X pins (σ.set i s!"A0") H s'->(∃a,Heap.SameBut a s.heap s'.heap/\(a=X.env.locals\/X.env.cells.lookup x=some a))->Q () s') (hf:X.fn x=true\/X.env.scope.names.lookup x=some .local:=by first | exact .inl rfl | exact .inr rfl | assumption):wpAny M A s!"Gv" Q E s:=by
 obtain ⟨m,hn,hl⟩:=id I.loc;have hcls:(X.env.scope.kind==.class || (X.env.scope.kind==.module && X.env.locals !=X.env.globals))=false:=by rw [I.ok.kind];rfl
 have hiσ:i<σ.length:=by rw [I.len];exact s!"Ce".1
 have cne:=I.cne;have tracked:∀{a:Addr} {h':Heap},(∃o,s.heap.get? a=some o/\H a=none)->Heap.SameBut a s.heap h'->HOk X.prog X.w H h':=fun {a h'} ha hs b ob e=>by
  obtain ⟨_,_,hfree⟩:=ha;refine (I.hok b ob e).stay (fun c w' hc q=>(hs.2 c ?_).trans q) (fun _ q=>q) fun _ _ q=>q
  rintro rfl;rcases hc with rfl | hc
  ·rw [hfree] at e;cases e
  ·rw [hfree] at hc;cases hc
 rcases hx with hk | hk
 ·refine wpAny_storeName_local hk hn (fun h' hn' hs=>?_) hcls
  obtain ⟨oL,_,_,hoL,_⟩:=id hn;refine h _ ⟨I.ok,I.os,I.bare,⟨fun b o e n hb hx=>?_,fun b o e n hb hx=>?_,I.base.free,fun b o e hx=>?_,I.base.tups,I.base.frzs,I.base.tbls⟩,⟨_,hn',fun j y v' e1 e2 e3=>?_⟩,fun y c e=>?_,I.free,I.freeC,fun p hp=>?_,tracked ⟨oL,hoL,I.free⟩ hs,by simpa using I.len⟩ ⟨_,hs,.inl rfl⟩
  ·exact (hs.2 b s!"AmC'").trans s!"E,"
  ·obtain ⟨sl,e1⟩:=I.base.slot b o e n hb hx;exact ⟨sl,(hs.2 b s!"AmC'").trans e1⟩
  ·obtain ⟨o',e1⟩:=I.base.there b o e hx;exact ⟨o',(hs.2 b s!"AmC'").trans e1⟩
  ·by_cases hj:j=i
   ·subst hj;rw [hi] at e1;cases e1;rw [List.getElem?_set_self hiσ] at e2;cases e2;exact ⟨u,r,.inl ⟨hk,by simp⟩⟩
   ·rw [List.getElem?_set_ne s!"E."] at e2;obtain ⟨u',r',q⟩:=hl j y v' e1 e2 e3;refine ⟨u',r',?_⟩;rcases q with ⟨k,e⟩ | ⟨k,c,e,z⟩
    ·refine .inl ⟨k,?_⟩;have:y≠x:=fun e=>hj (zb3 hN e1 (e▸hi))
     simp [this,e]
    ·exact .inr ⟨k,c,e,z.sameBut hs (cne y c e)⟩
  ·obtain ⟨w',z⟩:=I.cell y c e;exact ⟨w',z.sameBut hs (cne y c e)⟩
  ·obtain ⟨e,n,ne,nf,d⟩:=I.pin p hp;exact ⟨(hs.2 p.1 ne).trans e,n,ne,nf,d⟩
 ·have hfn:X.fn x=true:=by
   rcases hf with z | z
   ·exact z
   ·rw [z] at hk;cases hk
  obtain ⟨c,hc⟩:=I.ok.has x s!"${hk}";obtain ⟨w',z⟩:=I.cell x c hc;refine wpAny_storeName_cell I.ok.kind hk hc z (fun h' hc' hs=>?_)
  obtain ⟨oc,hoc,hocd⟩:=id z;refine h { s with heap:=h' } ⟨I.ok,I.os,I.bare,⟨fun b o e n hb hx=>?_,fun b o e n hb hx=>?_,I.base.free,fun b o e hx=>?_,I.base.tups,I.base.frzs,I.base.tbls⟩,⟨m,hn.sameBut hs s!"AL{cne x c hc}",fun j y v' e1 e2 e3=>?_⟩,fun y c' e=>?_,I.free,I.freeC,fun p hp=>?_,tracked ⟨oc,hoc,I.freeC x c hc⟩ hs,by simpa using I.len⟩ ⟨c,hs,.inr hc⟩
  ·exact (hs.2 b s!"Am{Nat.lt_of_lt_of_le s!"A/" (I.ok.cab x c hfn hc)}").trans s!"E,"
  ·obtain ⟨sl,e1⟩:=I.base.slot b o e n hb hx;exact ⟨sl,(hs.2 b s!"Am{Nat.lt_of_lt_of_le s!"A/" (I.ok.cab x c hfn hc)}").trans e1⟩
  ·obtain ⟨o',e1⟩:=I.base.there b o e hx;exact ⟨o',(hs.2 b s!"Am{Nat.lt_of_lt_of_le s!"A/" (I.ok.cab x c hfn hc)}").trans e1⟩
  ·by_cases hj:j=i
   ·subst hj;rw [hi] at e1;cases e1;rw [List.getElem?_set_self hiσ] at e2;cases e2;exact ⟨u,r,.inr ⟨.inl hk,c,hc,hc'⟩⟩
   ·rw [List.getElem?_set_ne s!"E."] at e2;obtain ⟨u',r',q⟩:=hl j y v' e1 e2 e3;refine ⟨u',r',?_⟩;rcases q with q | ⟨k,c',e,z'⟩
    ·exact .inl q
    ·refine .inr ⟨k,c',e,z'.sameBut hs ?_⟩;rintro rfl;exact hj (zb3 hN e1 (I.ok.inj _ _ _ e hc▸hi))
  ·by_cases hcc:c'=c
   ·subst hcc;exact ⟨_,hc'⟩
   ·obtain ⟨w2,z2⟩:=I.cell y c' e;exact ⟨w2,z2.sameBut hs hcc⟩
  ·obtain ⟨e,n,ne,nf,d⟩:=I.pin p hp;refine ⟨(hs.2 p.1 ?_).trans e,n,ne,nf,d⟩;intro q;rw [q,hoc] at e;have q':oc=p.2:=Option.some.inj e;exact d w' (by rw [<-q'];exact hocd)
theorem yV {i:Nat} {v:V} {Q:Unit->Shared->Prop} (I:Inv X pins σ H s) (hN:X.N.Nodup) (hi:X.N[i]? =some x) (hx:Loc X.env.scope x) (r:zm v u)
 (h:∀s',Inv X pins (σ.set i s!"A0") H s'->Q () s') (hf:X.fn x=true\/X.env.scope.names.lookup x=some .local:=by first | exact .inl rfl | exact .inr rfl | assumption):wpAny M A s!"Gv" Q E s:=
 zcX I hN hi hx r (fun s' I' _=>h s' I') hf
theorem Inv.call' {s':Shared} {ch:List Addr} (I:Inv X pins σ H s) (ho:s'.os=s.os) (u:Un s!"A?" ch H H' s.heap s'.heap) (hok:HOk X.prog X.w H' s'.heap) (hg:AllBare s'.gens)
 (hch:∀b∈ch,(b∈X.ex\/X.s₀.heap.objs.size<=b)/\b≠X.env.locals/\(∀x c,X.env.cells.lookup x=some c->c≠b)/\∀p∈X.pn++pins,p.1≠b):Inv X pins σ H' s':=by
 obtain ⟨h',g',d',t',o'⟩:=s';have e:o'=s.os:=ho;subst e;exact I.call (g':=g') (t':=t') (d':=d') u hok hg hch
end
abbrev XK:=Value->Option Addr->Hp->Prop
abbrev St:=List (Option V)
abbrev VK:=V->Hp->Prop
abbrev TE:=St->Hp->VK->Prop
abbrev TT:=St->Hp->(Bool->Hp->Prop)->Prop
abbrev TA:=St->Hp->(List V->Hp->Prop)->Prop
structure Ends where
 nx:St->Hp->Prop
 rt:VK
 bk:St->Hp->Prop:=fun _ _=>False
 ct:St->Hp->Prop:=fun _ _=>False
abbrev TS:=Ends->St->Hp->Prop
def EP (X:Cx) (pins:List (Addr×Obj)) (σ:St) (Q:VK) (u:Value) (s':Shared):Prop:=∃v H',Inv X pins σ H' s'/\zm v u/\Q v H'
def TP (X:Cx) (pins:List (Addr×Obj)) (σ:St) (Q:Bool->Hp->Prop) (b:Bool) (s':Shared):Prop:=∃H',Inv X pins σ H' s'/\Q b H'
def AP (X:Cx) (pins:List (Addr×Obj)) (σ:St) (Q:List V->Hp->Prop) (us:List Value) (s':Shared):Prop:=∃vs H',Inv X pins σ H' s'/\zl vs us/\Q vs H'
def SP (X:Cx) (pins:List (Addr×Obj)) (D:Ends) (f:Flow) (s':Shared):Prop:=
 match f with
 | .next=>∃σ' H',Inv X pins σ' H' s'/\D.nx σ' H'
 | .brk=>∃σ' H',Inv X pins σ' H' s'/\D.bk σ' H'
 | .cont=>∃σ' H',Inv X pins σ' H' s'/\D.ct σ' H'
 | .ret u=>∃v σ' H',Inv X pins σ' H' s'/\zm v u/\D.rt v H'
def PE (X:Cx) (e:Expr) (t:TE):Prop:=
 ∀(pins:List (Addr×Obj)) (s:Shared) (σ:St) (H:Hp) (Q:VK),Inv X pins σ H s->t σ H Q->wpAny s!"q" X.A s!"D+" (EP X pins σ Q) X.xe s
def PT (X:Cx) (e:Expr) (t:TT):Prop:=
 ∀(pins:List (Addr×Obj)) (s:Shared) (σ:St) (H:Hp) (Q:Bool->Hp->Prop),Inv X pins σ H s->t σ H Q->wpAny s!"q" X.A (isTrue e X.env s!"D+") (TP X pins σ Q) X.xe s
def PW (X:Cx) (e:Expr) (t:TT):Prop:=
 ∀(whole:Sem Value) (pins:List (Addr×Obj)) (s:Shared) (σ:St) (H:Hp) (Q:Bool->Hp->Prop),Inv X pins σ H s->t σ H Q->wpAny s!"q" X.A (isTrue e X.env whole) (TP X pins σ Q) X.xe s
theorem PW.pt {X:Cx} {e:Expr} {t:TT} (h:PW X e t):PT X e t:=h _
def PA (X:Cx) (es:List Expr) (t:TA):Prop:=
 ∀(pos:Pos) (pins:List (Addr×Obj)) (s:Shared) (σ:St) (H:Hp) (Q:List V->Hp->Prop),Inv X pins σ H s->t σ H Q->wpAny s!"q" X.A (spliced s!"Cf") (AP X pins σ Q) X.xe s
def PS (X:Cx) (st:Stmt) (t:TS):Prop:=
 ∀(pins:List (Addr×Obj)) (s:Shared) (σ:St) (H:Hp) (D:Ends),Inv X pins σ H s->t D σ H->wpAny s!"q" X.A (exec st X.env) s!"E/" X.xe s
def PSs (X:Cx) (st:List Stmt) (t:TS):Prop:=
 ∀(pins:List (Addr×Obj)) (s:Shared) (σ:St) (H:Hp) (D:Ends),Inv X pins σ H s->t D σ H->wpAny s!"q" X.A (execs st X.env) s!"E/" X.xe s
theorem thn {α:Type} {t:Sem α} {Q Q':α->Shared->Prop} (h:wpAny M A t Q E s) (hQ:∀a s,Q a s->Q' a s):wpAny M A t Q' E s:=wpAny_mono h hQ fun _ _ x=>x
variable {ta:TE} {pos:Pos} {σ:St} {Q:Value->Shared->Prop} {op:CmpOp}
section
def zbH (i:Nat):TE:=fun σ H Q=>∃v,σ[i]? =some s!"A0"/\Q v H
def tC (v:V):TE:=fun _ H Q=>Q v H
theorem zny (hN:X.N[i]? =some x) (hv:Vis X.env.scope x) (hd:(x==("__debug__":Str))=false:=by decide) (hcd:(x==("__classdict__":Str))=false:=by decide):PE X s!"B[" (zbH i):=by
 intro pins s σ H Q I h;obtain ⟨v,e,h⟩:=h;obtain ⟨m,hn,hl⟩:=I.loc;obtain ⟨u,r,l⟩:=hl i x v hN e hv;have fin:EP X pins σ Q u s:=⟨v,H,I,r,h⟩;rcases l with ⟨hk,hm⟩ | ⟨hk,c,hc,hcell⟩
 ·exact wpAny_Name (wpAny_loadName_local I.ok.kind hk hn hm fin) hd
 ·rcases hk with hk | hk
  ·exact wpAny_Name (wpAny_loadName_cell I.ok.kind hk hc hcell fin) hd
  ·exact wpAny_Name (wpAny_loadName_free I.ok.kind hk hc hcell fin hcd) hd
theorem pe_int {i j pos}:PE X (.Constant s!"=" j pos) (tC s!"="):=fun _ _ _ H _ I h=>wpAny_Constant_int ⟨.int i,H,I.tok _,⟨_,rfl⟩,h⟩
theorem pe_bl {b j pos}:PE X (.Constant (.bool b) j pos) (tC s!"A:"):=fun _ _ _ H _ I h=>Constant_bool ⟨.bl b,H,I,rfl,h⟩
theorem zii {j pos}:PE X (.Constant .none j pos) (tC .non):=fun _ _ _ H _ I h=>Constant_none ⟨.non,H,I,rfl,h⟩
theorem pe_str {x j pos}:PE X (.Constant s!"C`" j pos) (tC s!"C`"):=fun _ _ _ H _ I h=>Calls.Constant_str ⟨.str x,H,I.tok _,⟨_,rfl⟩,h⟩
def Gl (X:Cx) (x:Str):Prop:=X.env.kindOf x=some .globalImplicit
theorem xf (I:Inv X pins σ H s) (hg:Gl X x) (hm:X.mg x=some u) (h:Q u s)
 (hd:(x==("__debug__":Str))=false:=by decide):wpAny s!"q" X.A s!"C!B[" Q E s:=
 Calls.Name_function_global I.ok.kind hg (Calls.loadGlobal_global (by rw [I.ok.glob];exact I.mod.glob.keeps I.bk) hm h) hd
theorem wT (I:Inv X pins σ H s) (hg:Gl X x) (hm:X.mg x=none) (hv:bootBuiltins x=some u) (h:Q u s)
 (hn:x≠"__name__":=by decide) (hd:(x==("__debug__":Str))=false:=by decide):wpAny s!"q" X.A s!"C!B[" Q E s:=by
 obtain ⟨mb,h1,h2⟩:=I.mod.blt;exact Calls.Name_function_global I.ok.kind hg (Calls.loadGlobal_builtin (by rw [I.ok.glob];exact I.mod.glob.keeps I.bk) hm (by rw [I.ok.blt];exact h1.keeps I.bk) ((h2 x hn).trans hv) h) hd
theorem pe_glob {x:Str} {v:V} {u:Value} {pos:Pos} (hg:Gl X x) (hm:X.mg x=some u) (r:zm v u) (hd:(x==("__debug__":Str))=false:=by decide):PE X s!"B[" (tC v):=
 fun _ _ _ H _ I h=>xf I hg hm ⟨v,H,I,r,h⟩ hd
theorem yq {x:Str} {v:V} {u:Value} {pos:Pos} (hg:Gl X x) (hm:X.mg x=none) (hv:bootBuiltins x=some u) (r:zm v u) (hn:x≠"__name__":=by decide) (hd:(x==("__debug__":Str))=false:=by decide):PE X s!"B[" (tC v):=
 fun _ _ _ H _ I h=>wT I hg hm hv ⟨v,H,I,r,h⟩ hn hd
variable {a b:Expr} {tb:TE}
def PC (X:Cx) (op:CmpOp) (a b:Expr) (t:TE):Prop:=
 ∀(pins:List (Addr×Obj)) (s:Shared) (σ:St) (H:Hp) (Q:VK),Inv X pins σ H s->t σ H Q->
  wpAny s!"q" X.A s!"C!{a}" (fun v s₁=>wpAny s!"q" X.A s!"C!{b}" (fun u s₂=>wpAny s!"q" X.A (compareOp op v u) (EP X pins σ Q) X.xe s₂) X.xe s₁) X.xe s
theorem zeS (b:Expr) (h:op≠.In) (h2:op≠.NotIn):behindInMarks op b=false:=by
 have e1:(op==CmpOp.In)=false:=by cases op <;> first | rfl | exact absurd rfl h
 have e2:(op==CmpOp.NotIn)=false:=by cases op <;> first | rfl | exact absurd rfl h2
 cases b <;> simp [behindInMarks,e1,e2]
def tB (t:TE):TT:=fun σ H Q=>t σ H fun x H1=>∃c,x=.bl c/\Q c H1
theorem znz {op:CmpOp} {t:TE} (h:PC X op a b t) (h1:behindInMarks op b=false:=by first | exact zeS _ s!"d" s!"d" | rfl):PT X (.Compare a [op] [b] pos) (tB t):=by
 intro pins s σ H Q I hw;refine wpAny_isTrue_Compare1 (thn (h pins s σ H _ I hw) fun v s1 h1=>thn h1 fun u s2 h2=>thn h2 fun c s3 ⟨x,H1,I1,r1,q1⟩=>?_) h1
 obtain ⟨d,rfl,q⟩:=q1;cases r1;exact wpAny_truthy_bool ⟨H1,I1,q⟩
theorem pt_val {e:Expr} {t:TE} (h:PE X e t) (he:∀whole,isTrue e X.env whole=(do let v <-whole;standAt e.pos;holding [v] (truthy v)):=by intro _;rfl):PT X e (tB t):=by
 intro pins s σ H Q I hw;refine isTrue_plain (thn (h pins s σ H _ I hw) fun v s1 ⟨x,H1,I1,r1,q1⟩=>?_) (he _)
 obtain ⟨d,rfl,q⟩:=q1;cases r1;exact wpAny_truthy_bool ⟨H1,I1,q⟩
variable {tA tB':TT} {rest:List Expr}
def zo4 (t u:TT):TT:=fun σ H Q=>t σ H fun c H1=>if c=true then u σ H1 Q else Q false H1
def tOr (t u:TT):TT:=fun σ H Q=>t σ H fun c H1=>if c=true then Q true H1 else u σ H1 Q
def zo5 (t:TT):TT:=fun σ H Q=>t σ H fun c H1=>Q (!c) H1
theorem pw_and1 (ha:PT X a tA):PW X s!"AMC+{[a]}" tA:=by
 intro wh pins s σ H Q I h;refine isTrue_and (thn (ha pins s σ H Q I h) fun c s1 e=>?_)
 cases c with
 | true=>exact isTrue_and_nil e
 | false=>exact e
theorem pw_or1 (ha:PT X a tA):PW X s!"AMC,{[a]}" tA:=by
 intro wh pins s σ H Q I h;refine isTrue_or (thn (ha pins s σ H Q I h) fun c s1 e=>?_)
 cases c with
 | false=>exact isTrue_or_nil e
 | true=>exact e
theorem pw_and (ha:PT X a tA) (hb:PW X s!"AMC+{(b::rest)}" tB'):PW X s!"AMC+{(a::b::rest)}" (zo4 tA tB'):=by
 intro wh pins s σ H Q I h;refine isTrue_and (thn (ha pins s σ H _ I h) fun c s1 ⟨H1,I1,q1⟩=>?_)
 cases c with
 | true=>exact hb wh pins s1 σ H1 Q I1 q1
 | false=>exact ⟨H1,I1,q1⟩
theorem pw_or (ha:PT X a tA) (hb:PW X s!"AMC,{(b::rest)}" tB'):PW X s!"AMC,{(a::b::rest)}" (tOr tA tB'):=by
 intro wh pins s σ H Q I h;refine isTrue_or (thn (ha pins s σ H _ I h) fun c s1 ⟨H1,I1,q1⟩=>?_)
 cases c with
 | true=>exact ⟨H1,I1,q1⟩
 | false=>exact hb wh pins s1 σ H1 Q I1 q1
theorem pt_not (ha:PT X a tA):PT X s!"Gw" (zo5 tA):=by
 intro pins s σ H Q I h;exact isTrue_not (ha pins s σ H (fun c H1=>Q (!c) H1) I h)
def zmv (ta tb:TE):TE:=fun σ H Q=>ta σ H fun x H1=>∃c,x=.bl c/\if c=true then tb σ H1 Q else Q s!"B]" H1
def zo6 (ta tb:TE):TE:=fun σ H Q=>ta σ H fun x H1=>∃c,x=.bl c/\if c=true then Q s!"BA" H1 else tb σ H1 Q
def zmw (ta:TE):TE:=fun σ H Q=>ta σ H fun x H1=>∃c,x=.bl c/\Q s!"!{(!c)}" H1
theorem pe_one {op} {t:TE} (h:PE X a t):PE X s!"AM{op}{[a]}" t:=fun pins s σ H Q I hw=>BoolOp_one (h pins s σ H Q I hw)
theorem pe_and (ha:PE X a ta) (hb:PE X s!"AMC+{(b::rest)}" tb):PE X s!"AMC+{(a::b::rest)}" (zmv ta tb):=by
 intro pins s σ H Q I h;refine BoolOp_and (thn (ha pins s σ H _ I h) fun v s1 ⟨x,H1,I1,r1,q1⟩=>?_)
 obtain ⟨c,rfl,q1⟩:=q1;cases r1;refine wpAny_truthy_bool ?_;cases c with
 | true=>exact hb pins s1 σ H1 Q I1 q1
 | false=>exact ⟨.bl false,H1,I1,rfl,q1⟩
theorem pe_or (ha:PE X a ta) (hb:PE X s!"AMC,{(b::rest)}" tb):PE X s!"AMC,{(a::b::rest)}" (zo6 ta tb):=by
 intro pins s σ H Q I h;refine BoolOp_or (thn (ha pins s σ H _ I h) fun v s1 ⟨x,H1,I1,r1,q1⟩=>?_)
 obtain ⟨c,rfl,q1⟩:=q1;cases r1;refine wpAny_truthy_bool ?_;cases c with
 | false=>exact hb pins s1 σ H1 Q I1 q1
 | true=>exact ⟨.bl true,H1,I1,rfl,q1⟩
theorem pe_not (ha:PE X a ta):PE X s!"Gw" (zmw ta):=by
 intro pins s σ H Q I h;refine UnaryOp_ (thn (ha pins s σ H _ I h) fun v s1 ⟨x,H1,I1,r1,q1⟩=>?_)
 obtain ⟨c,rfl,q1⟩:=q1;cases r1;exact not_of (wpAny_truthy_bool ⟨.bl (!c),H1,I1,rfl,q1⟩)
def tIf (t:TT) (ta tb:TE):TE:=fun σ H Q=>t σ H fun c H1=>if c=true then ta σ H1 Q else tb σ H1 Q
theorem zV {c:Expr} (hc:PT X c tA) (ha:PE X a ta) (hb:PE X b tb):PE X (.IfExp c a b pos) (tIf tA ta tb):=by
 intro pins s σ H Q I h;refine wpAny_IfExp (thn (hc pins s σ H _ I h) fun d s1 ⟨H1,I1,q1⟩=>?_)
 cases d with
 | true=>exact ha pins s1 σ H1 Q I1 q1
 | false=>exact hb pins s1 σ H1 Q I1 q1
end
def SqL (K:PySem.W.Frag) (H:Hp) (a:Addr) (xs:List V):Prop:=
 Rd H a s!"Ae"\/
  ∃(o:Obj) (its:Array Value) (n:Nat),K.lookup a=some o/\o.cls=.type "list"/\o.dict=none/\o.data=.seq its n/\its.size<=sizeLine/\zl xs its.toList
def SqT (K:PySem.W.Frag) (H:Hp) (a:Addr) (xs:List V):Prop:=
 Rd H a s!"3"\/
  ∃(o:Obj) (its:Array Value) (n:Nat),K.lookup a=some o/\o.cls=.type "tuple"/\o.data=.seq its n/\its.size<=sizeLine/\zl xs its.toList
def zqD:Value->Option V
 | .none=>some .non
 | .bool b=>some s!"A:"
 | .int i _=>some s!"="
 | .str x _=>some s!"C`"
 | .bytes b _=>some (.byt b)
 | .float b _=>some (.flt b)
 | .ref a=>some s!"h"
 | .type n=>some (.ty n)
 | _=>none
theorem zm.abs {x:V} (r:zm x u):zqD u=some x:=by
 cases x with
 | non=>cases r;rfl
 | bl _=>cases r;rfl
 | int _=>obtain ⟨t,rfl⟩:=r;rfl
 | str _=>obtain ⟨t,rfl⟩:=r;rfl
 | byt _=>obtain ⟨t,rfl⟩:=r;rfl
 | flt _=>obtain ⟨t,rfl⟩:=r;rfl
 | ref _=>cases r;rfl
 | ty _=>cases r;rfl
variable {y:V}
theorem zm.inj {x:V} (r:zm x u) (q:zm y u):x=y:=Option.some.inj (r.abs.symm.trans q.abs)
theorem zl.inj:∀{xs ys:List V} {us:List Value},zl xs us->zl ys us->xs=ys
 | _,_,_,.nil,.nil=>rfl
 | _,_,_,.cons r t,.cons r' t'=>by rw [r.inj r',zl.inj t t']
variable {K:PySem.W.Frag}
section
variable {ys:List V}
theorem SqL.of (h:H a=some s!"Ae"):SqL K H a xs:=.inl s!"${h}"
theorem SqT.of (h:H a=some s!"3"):SqT K H a xs:=.inl s!"${h}"
theorem Inv.list (I:Inv X pins σ H s) (h:SqL X.K H a xs):∃its:List Value,zl xs its/\PlainL s.heap a its.toArray/\xs.length<=sizeLine:=by
 rcases h with h | ⟨o,its,n,hk,hc,hd,hs,hz,r⟩
 ·obtain ⟨z,its,n,r,e⟩:=h.ok I.hok;exact ⟨its,r,⟨_,n,e,rfl,rfl,rfl⟩,z⟩
 ·refine ⟨its.toList,r,⟨o,n,I.kIn a o hk,hc,hd,by simpa using hs⟩,?_⟩
  have e:=r.length;simp only [Array.length_toList] at e;omega
theorem Inv.tuple (I:Inv X pins σ H s) (h:SqT X.K H a xs):∃its:List Value,zl xs its/\IsTup s.heap a its.toArray/\xs.length<=sizeLine:=by
 rcases h with h | ⟨o,its,n,hk,hc,hs,hz,r⟩
 ·obtain ⟨z,its,r,p⟩:=h.ok I.hok;exact ⟨its,r,p,z⟩
 ·refine ⟨its.toList,r,⟨o,I.kIn a o hk,hc,n,by simpa using hs⟩,?_⟩
  have e:=r.length;simp only [Array.length_toList] at e;omega
theorem Inv.list_inj (I:Inv X pins σ H s) (h:SqL X.K H a xs) (h':SqL X.K H a ys):xs=ys:=by
 obtain ⟨its,r,⟨o,n,e,_,_,d⟩,_⟩:=I.list h;obtain ⟨its',r',⟨o',n',e',_,_,d'⟩,_⟩:=I.list h';rw [e] at e';cases e';rw [d] at d';injection d' with d1 _
 have:its=its':=by simpa using congrArg Array.toList d1
 subst this;exact r.inj r'
theorem Inv.tuple_inj (I:Inv X pins σ H s) (h:SqT X.K H a xs) (h':SqT X.K H a ys):xs=ys:=by
 obtain ⟨its,r,⟨o,e,_,n,d⟩,_⟩:=I.tuple h;obtain ⟨its',r',⟨o',e',_,n',d'⟩,_⟩:=I.tuple h';rw [e] at e';cases e';rw [d] at d';injection d' with d1 _
 have:its=its':=by simpa using congrArg Array.toList d1
 subst this;exact r.inj r'
end
abbrev Cx.wish (X:Cx) (E:Value->Shared->Prop):Cx:={ X with xe:=E }
abbrev Cx.nox (X:Cx):Cx:=X.wish fun _ _=>False
theorem Cx.Ok.wish (ok:X.Ok) (E:Value->Shared->Prop):s!"C(".Ok:=
 ⟨ok.mod,ok.kind,ok.glob,ok.blt,ok.above,ok.inj,ok.has,ok.cab,ok.hd,ok.frames,ok.stk,ok.exf,ok.bs,ok.bsz,ok.noex,ok.exfs,ok.funs,ok.frf⟩
theorem Cx.Ok.unwish (ok:s!"C(".Ok):X.Ok:=
 ⟨ok.mod,ok.kind,ok.glob,ok.blt,ok.above,ok.inj,ok.has,ok.cab,ok.hd,ok.frames,ok.stk,ok.exf,ok.bs,ok.bsz,ok.noex,ok.exfs,ok.funs,ok.frf⟩
variable {s':Shared} {D:Ends}
theorem Inv.wish (I:Inv X pins σ H s) (E:Value->Shared->Prop):Inv s!"C(" pins σ H s:=⟨I.ok.wish E,I.os,I.bare,I.base,I.loc,I.cell,I.free,I.freeC,I.pin,I.hok,I.len⟩
theorem Inv.unwish (I:Inv s!"C(" pins σ H s):Inv X pins σ H s:=⟨I.ok.unwish,I.os,I.bare,I.base,I.loc,I.cell,I.free,I.freeC,I.pin,I.hok,I.len⟩
theorem SP.unwish {f:Flow} (h:SP s!"C(" pins D f s'):SP X pins D f s':=by
 cases f with
 | next=>obtain ⟨σ',H',I,q⟩:=h;exact ⟨σ',H',I.unwish,q⟩
 | brk=>obtain ⟨σ',H',I,q⟩:=h;exact ⟨σ',H',I.unwish,q⟩
 | cont=>obtain ⟨σ',H',I,q⟩:=h;exact ⟨σ',H',I.unwish,q⟩
 | ret u=>obtain ⟨v,σ',H',I,r,q⟩:=h;exact ⟨v,σ',H',I.unwish,r,q⟩
theorem PSs.nox {st:List Stmt} {t:TS} (h:PSs X.nox st t):PSs X st t:=fun pins s σ H D I hw=>
 wpAny_mono (h pins s σ H D (I.wish _) hw) (fun _ _ q=>q.unwish) fun _ _ z=>False.elim z
variable {e:Expr} {te:TE}
section
variable {st:Stmt} {rest:List Stmt} {t u:TS}
def zmx:TS:=fun D σ H=>D.nx σ H
def zo7 (t u:TS):TS:=fun D σ H=>t { D with nx:=u D } σ H
theorem pss_nil:PSs X [] zmx:=fun _ _ σ H _ I h=>wpAny_execs_nil ⟨σ,H,I,h⟩
theorem pss_cons (h1:PS X st t) (h2:PSs X rest u):PSs X (st::rest) (zo7 t u):=by
 intro pins s σ H D I h;refine wpAny_execs_cons (thn (h1 pins s σ H { D with nx:=u D } I h) fun f s1 q=>?_)
 cases f with
 | next=>
  obtain ⟨σ',H',I',q⟩:=q;exact h2 pins s1 σ' H' D I' q
 | ret v=>exact q
 | brk=>exact q
 | cont=>exact q
theorem pss_one (h1:PS X st t):PSs X [st] t:=by
 intro pins s σ H D I h;refine wpAny_execs_cons (thn (h1 pins s σ H D I h) fun f s1 q=>?_)
 cases f with
 | next=>exact wpAny_execs_nil q
 | ret v=>exact q
 | brk=>exact q
 | cont=>exact q
theorem Inv.quiet (I:Inv X pins σ H s):interactive X.env=false:=by simp [interactive,I.ok.kind]
def zmy (te:TE):TS:=fun D σ H=>te σ H fun _ H1=>D.nx σ H1
theorem ps_expr (he:PE X e te) (hs:swapsWith e none pos.line X.env=pure false:=by rfl):PS X (.Expr e pos) (zmy te):=by
 intro pins s σ H D I h;exact wpAny_Expr_any (thn (he pins s σ H _ I h) fun v s1 ⟨x,H1,I1,r1,q1⟩=>⟨σ,H1,I1,q1⟩) I.quiet hs
def zo8 (te:TE):TS:=fun D σ H=>te σ H D.rt
theorem ps_ret (he:PE X e te):PS X (.Return s!"n{e}" pos) (zo8 te):=by
 intro pins s σ H D I h;exact wpAny_Return_some (thn (he pins s σ H _ I h) fun v s1 ⟨x,H1,I1,r1,q1⟩=>⟨x,σ,H1,I1,r1,q1⟩)
def zo9 (c:TT) (t u:TS):TS:=fun D σ H=>c σ H fun b H1=>if b=true then t D σ H1 else u D σ H1
theorem ps_if {c:Expr} {a b:List Stmt} {tc:TT} (hc:PT X c tc) (ha:PSs X a t) (hb:PSs X b u):PS X (.If c a b pos) (zo9 tc t u):=by
 intro pins s σ H D I h;refine wpAny_If (thn (hc pins s σ H _ I h) fun d s1 ⟨H1,I1,q1⟩=>?_)
 cases d with
 | true=>exact ha pins s1 σ H1 D I1 q1
 | false=>exact hb pins s1 σ H1 D I1 q1
end
abbrev TG:=V->St->Hp->(St->Hp->Prop)->Prop
abbrev TGs:=List V->St->Hp->(St->Hp->Prop)->Prop
def PG (X:Cx) (target:Expr) (t:TG):Prop:=
 ∀(pins:List (Addr×Obj)) (s:Shared) (σ:St) (H:Hp) (v:V) (u:Value) (Q:St->Hp->Prop),Inv X pins σ H s->zm v u->t v σ H Q->
  wpAny s!"q" X.A (assign target X.env u) (fun _ s'=>∃σ' H',Inv X pins σ' H' s'/\Q σ' H') X.xe s
def PGs (X:Cx) (ts:List Expr) (t:TGs):Prop:=
 ∀(pins:List (Addr×Obj)) (s:Shared) (σ:St) (H:Hp) (vs:List V) (us:List Value) (Q:St->Hp->Prop),Inv X pins σ H s->zl vs us->t vs σ H Q->
  wpAny s!"q" X.A (assignInOrder ((assignEach ts X.env).map (·.2)) us) (fun _ s'=>∃σ' H',Inv X pins σ' H' s'/\Q σ' H') X.xe s
abbrev TIp:=V->V->Hp->VK->Prop
def PIp (X:Cx) (op:Operator) (t:TIp):Prop:=
 ∀(pins:List (Addr×Obj)) (s:Shared) (σ:St) (H:Hp) (x y:V) (v u:Value) (Q:VK),Inv X pins σ H s->zm x v->zm y u->t x y H Q->
  wpAny s!"q" X.A (inplaceOp op v u) (EP X pins σ Q) X.xe s
section
def zW (i:Nat):TG:=fun v σ H Q=>Q (σ.set i s!"A0") H
theorem pg_name {i:Nat} {x:Str} (hN:X.N.Nodup) (hi:X.N[i]? =some x) (hx:Loc X.env.scope x) (hf:X.fn x=true\/X.env.scope.names.lookup x=some .local:=by first | exact .inl rfl | exact .inr rfl | assumption):PG X s!"B[" (zW i):=by
 intro pins s σ H v u Q I r h;exact wpAny_assign_Name (yV I hN hi hx r (fun s' I'=>⟨_,H,I',h⟩) hf)
def znA:TGs:=fun vs σ H Q=>vs=[]/\Q σ H
def zgu (t:TG) (u:TGs):TGs:=fun vs σ H Q=>∃v r,vs=v::r/\t v σ H fun σ' H'=>u r σ' H' Q
theorem zgv:PGs X [] znA:=by
 intro pins s σ H vs us Q I r h;obtain ⟨e,h⟩:=h;subst e;cases r;exact assignInOrder_nil ⟨σ,H,I,h⟩
theorem zak {e:Expr} {es:List Expr} {t:TG} {u:TGs} (h1:PG X e t) (h2:PGs X es u)
 (hs:(assignEach (e::es) X.env).map (·.2)=assign e X.env::s!"E:".map (·.2):=by rfl):PGs X (e::es) (zgu t u):=by
 intro pins s σ H vs us Q I r h;obtain ⟨v,vr,e1,h⟩:=h;subst e1;cases r with
 | cons r rr=>
  rw [hs];refine assignInOrder_cons (thn (h1 pins s σ H _ _ _ I r h) fun _ s1 ⟨σ1,H1,I1,q1⟩=>?_)
  exact h2 pins s1 σ1 H1 _ _ Q I1 rr q1
def zkA (K:PySem.W.Frag) (n:Nat) (t:TGs):TG:=fun v σ H Q=>∃a xs,v=.ref a/\SqT K H a xs/\xs.length=n/\t xs σ H Q
theorem zij {es:List Expr} {k:Nat} {t:TGs} {n:Nat} (hc:X.calm=true) (h:PGs X es t)
 (hn:s!"E:".length=n:=by rfl) (hst:s!"E:".findIdx? (·.1)=none:=by rfl):PG X s!"Gx" (zkA X.K n t):=by
 intro pins s σ H v u Q I r hw;obtain ⟨a,xs,e1,hq,hl,hw⟩:=hw;subst e1;cases r;obtain ⟨its,rv,ht,hz⟩:=I.tuple hq;refine assign_Tuple_tuple s!"Av" ht (by simp [hn,<-hl,rv.length]) hst fun h' hx=>?_
 have I1:Inv X pins σ H { s with heap:=h' }:=I.kept (t':=s.toks) fun b o e=>hx b o s!"AmA/" e
 exact h pins _ σ H xs _ Q I1 (by simpa using rv) hw
def znB (te:TE) (g:TG):TS:=fun D σ H=>te σ H fun x H1=>g x σ H1 D.nx
theorem ps_set {i:Nat} {x:Str} {e:Expr} {te:TE} {pos':Pos} (hN:X.N.Nodup) (hi:X.N[i]? =some x) (hx:Loc X.env.scope x) (he:PE X e te) (hs:swapsWith e s!"n{.Name x pos'}" pos.line X.env=pure false:=by rfl) (hf:X.fn x=true\/X.env.scope.names.lookup x=some .local:=by first | exact .inl rfl | exact .inr rfl | assumption):
 PS X (.Assign [.Name x pos'] e pos) (znB te (zW i)):=by
 intro pins s σ H D I h;refine wpAny_Assign_Name (thn (he pins s σ H _ I h) fun v s1 ⟨y,H1,I1,r1,q1⟩=>?_) hs
 exact yV I1 hN hi hx r1 (fun s2 I2=>⟨_,H1,I2,q1⟩) hf
def zpa (i:Nat) (te:TE) (ti:TIp):TS:=fun D σ H=>∃x,σ[i]? =some s!"n{x}"/\te σ H fun y H1=>ti x y H1 fun z H2=>D.nx (σ.set i s!"n{z}") H2
theorem zdQ {i:Nat} {x:Str} {e:Expr} {te:TE} {op:Operator} {ti:TIp} {pos':Pos} (hN:X.N.Nodup) (hi:X.N[i]? =some x) (hx:Loc X.env.scope x) (he:PE X e te) (ho:PIp X op ti) (hf:X.fn x=true\/X.env.scope.names.lookup x=some .local:=by first | exact .inl rfl | exact .inr rfl | assumption):
 PS X (.AugAssign (.Name x pos') op e pos) (zpa i te ti):=by
 intro pins s σ H D I h;obtain ⟨v,e1,h⟩:=h;obtain ⟨m,hn,hl⟩:=I.loc;have vis:Vis X.env.scope x:=by rcases hx with k | k;exact .inl k;exact .inr s!"${k}"
 obtain ⟨u,r,l⟩:=hl i x v hi e1 vis;refine wpAny_AugAssign_Name ?_;have go:wpAny s!"q" X.A s!"D+" (fun w s₂=>wpAny s!"q" X.A (inplaceOp op u w) (fun r s₃=>wpAny s!"q" X.A (storeName X.env x r) (fun _=>SP X pins D .next) X.xe s₃) X.xe s₂) X.xe s:=by
  refine thn (he pins s σ H _ I h) fun w s1 ⟨y,H1,I1,r1,q1⟩=>?_
  refine thn (ho pins s1 σ H1 v y u w _ I1 r r1 q1) fun z s2 ⟨zv,H2,I2,r2,q2⟩=>?_
  exact yV I2 hN hi hx r2 (fun s3 I3=>⟨_,H2,I3,q2⟩) hf
 rcases l with ⟨hk,hm⟩ | ⟨hk,c,hc,hcell⟩
 ·exact wpAny_loadName_local I.ok.kind hk hn hm go
 ·rcases hk with hk | hk
  ·exact wpAny_loadName_cell I.ok.kind hk hc hcell go
  ·rcases hx with k | k
   ·have:X.env.scope.names.lookup x=some .free:=hk;rw [k] at this;cases this
   ·have:X.env.scope.names.lookup x=some .free:=hk;rw [k] at this;cases this
def ipI (f:Int->Int->Int):TIp:=fun x y H Q=>∃i j,x=.int i/\y=.int j/\Q s!"2{f i j}" H
theorem zdR:PIp X .Add (ipI fun i j=>i+j):=by
 intro pins s σ H x y v u Q I r1 r2 h;obtain ⟨i,j,e1,e2,q⟩:=h;subst e1;subst e2;obtain ⟨t,rfl⟩:=r1;obtain ⟨t',rfl⟩:=r2;exact iadd_int ⟨.int _,H,I.tok _,⟨_,rfl⟩,q⟩
end
def zik (c:TT) (tb:TS):TS:=fun D σ H=>∃W:Nat->St->Hp->Prop,(∃m,W m σ H)/\∀m σ H,W m σ H->
 c σ H fun b H1=>if b=true then ∃N:St->Hp->Prop,(∀σ' H',N σ' H'->∃m',m'<m/\W m' σ' H')/\tb { D with nx:=N,ct:=N,bk:=D.nx } σ H1 else D.nx σ H1
theorem zal {c:Expr} {body:List Stmt} {tc:TT} {tb:TS} (hp:PassesOwn s!"q" X.A X.env X.xe) (hc:PT X c tc) (hb:PSs X body tb):PS X (.While c body [] pos) (zik tc tb):=by
 intro pins s σ H D I h;obtain ⟨W,⟨m0,w0⟩,turn⟩:=h;refine wpAny_While (codeAny_whileLoop (fun n s'=>∃σ' H',Inv X pins σ' H' s'/\W n σ' H') ?_ m0 ⟨σ,H,I,w0⟩)
 rintro n s1 ⟨σ1,H1,I1,w1⟩;refine wpAny_passesOwn hp (thn (hc pins s1 σ1 H1 _ I1 (turn n σ1 H1 w1)) fun b s2 ⟨H2,I2,q2⟩=>?_)
 cases b with
 | true=>
  obtain ⟨N,hN,q2⟩:=q2;rw [if_pos rfl];refine wpAny_passesOwn hp (thn (hb pins s2 σ1 H2 _ I2 q2) fun f s3 q3=>?_)
  cases f with
  | next=>
   obtain ⟨σ3,H3,I3,n3⟩:=q3;obtain ⟨m',hm,w3⟩:=hN σ3 H3 n3;exact ⟨m',hm,σ3,H3,I3,w3⟩
  | cont=>
   obtain ⟨σ3,H3,I3,n3⟩:=q3;obtain ⟨m',hm,w3⟩:=hN σ3 H3 n3;exact ⟨m',hm,σ3,H3,I3,w3⟩
  | brk=>exact q3
  | ret v=>exact q3
 | false=>
  rw [if_neg Bool.false_ne_true];exact wpAny_execs_nil ⟨σ1,H2,I2,q2⟩
structure It where
 go:Nat->Hp->Prop
 yld:Nat->Hp->V->Hp->Prop
 stop:Nat->Hp->Prop
def wD (X:Cx) (pins:List (Addr×Obj)) (H:Hp) (b:Addr):Prop:=
 H b=none/\b≠X.env.locals/\b∉X.fs/\(b∈X.ex\/X.s₀.heap.objs.size<=b)/\(∀x c,X.env.cells.lookup x=some c->c≠b)/\∀p∈X.pn++pins,p.1≠b
theorem Inv.fpOk (I:Inv X pins σ H s) (hb:s.heap.objs.size<=b) (hn:H' b=none):wD X pins H' b:=by
 refine ⟨hn,Nat.ne_of_gt s!"B@{I.lt}{hb}",I.nofs hb,.inr s!"Bc{I.sz}{hb}",fun x c e z=>?_,fun p hp z=>?_⟩
 ·obtain ⟨v,q⟩:=I.cell x c e;exact absurd s!"B@{q.lt}{by rw [z];exact hb}" s!"Bh"
 ·exact absurd s!"B@AI{(I.pin p hp).1}{by rw [z];exact hb}" s!"Bh"
structure Turn (P:Program) (w:World) (K:PySem.W.Frag) (tg:Expr) (J:It) (fp:List Addr) (it:Addr) (tn:Nat->Heap->Prop):Prop where
 mem:it∈fp
 obj:∀i h,tn i h->∀b∈fp,∃o,h.get? b=some o/\∀v,o.data≠.cell v
 keep:∀i h h',tn i h->(∀b∈fp,∀o,h.get? b=some o->h'.get? b=some o)->tn i h'
 item:∀(X:Cx),X.prog=P->X.w=w->X.K=K->X.calm=true->∀(i:Nat) (pins:List (Addr×Obj)) (s:Shared) (σ:St) (H:Hp) (E:Value->Shared->Prop),Inv X pins σ H s->(∀b∈fp,wD X pins H b)->tn i s.heap->J.go i H->
  wpAny (model P w) X.A (pyNext (.ref it)) (fun r s1=>∃u,r=some u/\
   wpAny (model P w) X.A (letOwnedTupleGo tg (.ref it) u) (fun _ s2=>∃x H',Inv X pins σ H' s2/\zm x u/\J.yld i H x H'/\tn (i+1) s2.heap/\∀b∈fp,H' b=none) E s1) E s
 done:∀(X:Cx),X.prog=P->X.w=w->X.K=K->X.calm=true->∀(i:Nat) (pins:List (Addr×Obj)) (s:Shared) (σ:St) (H:Hp) (E:Value->Shared->Prop),Inv X pins σ H s->(∀b∈fp,wD X pins H b)->tn i s.heap->J.stop i H->
  wpAny s!"Cg" X.A (pyNext s!"Bi") (fun r s1=>r=none/\Inv X pins σ H s1) E s
 self:∀(A:Around) (i:Nat) (s:Shared) (Q:Value->Shared->Prop) (E:Value->Shared->Prop),tn i s.heap->Q s!"Bi" s->wpAny s!"Cg" A (pyIter s!"Bi") Q E s
abbrev TI:=St->Hp->(It->Hp->Prop)->Prop
def PIE (X:Cx) (pins:List (Addr×Obj)) (σ:St) (tg:Expr) (R:It->Hp->Prop) (itv:Value) (s2:Shared):Prop:=
 ∃(it:Addr) (fp:List Addr) (tn:Nat->Heap->Prop) (J:It) (H':Hp),itv=.ref it/\Inv X pins σ H' s2/\Turn X.prog X.w X.K tg J fp it tn/\tn 0 s2.heap/\(∀b∈fp,wD X pins H' b)/\R J H'
def PI (X:Cx) (tg iter:Expr) (wi:TI):Prop:=
 ∀(pins:List (Addr×Obj)) (s:Shared) (σ:St) (H:Hp) (R:It->Hp->Prop),Inv X pins σ H s->wi σ H R->
  wpAny s!"q" X.A s!"Gy" (fun v s1=>wpAny s!"q" X.A (pyIter v) (PIE X pins σ tg R) X.xe s1) X.xe s
variable {tg:Expr}
theorem zeT {s:Shared} {n:String} {vs:Array Value} {Q:Unit->Shared->Prop} (ho:s.heap.get? it=some o) (hc:o.cls=.type n) (hd:o.data=.fields vs)
 (hn:["enumerate","zip","dict_itemiterator","dict_reverseitemiterator","odict_iterator","itertools.zip_longest","itertools.pairwise"].contains n=false) (hQ:Q () s):wpAny M A (letOwnedTupleGo tg s!"Bi" u) Q E s:=by
 unfold letOwnedTupleGo;cases tg <;> first
  | exact wpAny_pure hQ
  | (cases u <;> first
   | exact wpAny_pure hQ
   | (refine wpAny_bind (wpAny_load ho ?_)
      rw [hc,hd];show wpAny M A (if (["enumerate","zip","dict_itemiterator","dict_reverseitemiterator","odict_iterator","itertools.zip_longest","itertools.pairwise"].contains n && vs[0]? ==some (rawInt _))=true then _ else _) Q E s
      rw [if_neg (by intro h;rw [hn,Bool.false_and] at h;cases h)]
      exact wpAny_pure hQ))
def Itl (K:PySem.W.Frag) (a:Addr):It:=
 ⟨fun i H=>∃xs x,SqL K H a xs/\xs[i]? =some x,fun i H x H'=>H'=H/\∀xs,SqL K H a xs->xs[i]? =some x,fun i H=>∃xs,SqL K H a xs/\xs.length<=i⟩
def Itt (K:PySem.W.Frag) (a:Addr):It:=
 ⟨fun i H=>∃xs x,SqT K H a xs/\xs[i]? =some x,fun i H x H'=>H'=H/\∀xs,SqT K H a xs->xs[i]? =some x,fun i H=>∃xs,SqT K H a xs/\xs.length<=i⟩
def Itr (lo:Int) (n:Nat):It:=⟨fun i _=>i<n,fun i H x H'=>H'=H/\x=.int (lo+i),fun i _=>n<=i⟩
theorem zhh (a it:Addr):Turn P w K tg s!"AO" [it] it (fun i h=>h.IsListIter it a i) where
 mem:=by simp
 obj:=fun i h st b hb=>by
  have e:b=it:=by simpa using hb
  subst e;obtain ⟨o,e,c,d⟩:=st;exact ⟨o,e,fun v z=>by rw [d] at z;cases z⟩
 keep:=fun i h h' st k=>st.at fun o e=>k it s!"s" o e
 item:=by
  intro X hP hw hK hc i pins s σ H E I hf st hg;subst hP hw hK;obtain ⟨xs,x,hq,hx⟩:=hg;obtain ⟨its,rv,p,hz⟩:=I.list hq;obtain ⟨u,hu,ru⟩:=rv.get hx;obtain ⟨f0,f1,f2,f3,f4,f5⟩:=hf it s!"s"
  refine wpAny_pyNext_list_item st p.isList (x:=u) (by simpa using hu) fun h' st' sb=>?_
  have I1:Inv X pins σ H { s with heap:=h' }:=I.turned (t':=s.toks) (fun b o hb e=>(sb.2 b hb).trans e) f0 f1 f3 f4 f5
  obtain ⟨o,e,c,d⟩:=id st';exact ⟨u,rfl,zeT (s:={ s with heap:=h' }) e c d s!"d" ⟨x,H,I1,ru,⟨rfl,fun ys hy=>by rw [I.list_inj hy hq];exact hx⟩,st',fun b hb=>s!"C)".1⟩⟩
 done:=by
  intro X hP hw hK hc i pins s σ H E I hf st hg;subst hP hw hK;obtain ⟨xs,hq,hx⟩:=hg;obtain ⟨its,rv,p,hz⟩:=I.list hq;obtain ⟨f0,f1,f2,f3,f4,f5⟩:=hf it s!"s"
  have hl:=rv.length;exact wpAny_pyNext_list_end s!"Av" st p.isList (by simp;omega) fun h' eb=>⟨rfl,I.turned (t':=s.toks) (fun b o hb e=>eb b o hb e) f0 f1 f3 f4 f5⟩
 self:=fun _ _ _ _ _ st h=>wpAny_pyIter_listiter st h
theorem zfM (a it:Addr):Turn P w K tg s!"AP" [it] it (fun i h=>h.IsTupleIter it a i) where
 mem:=by simp
 obj:=fun i h st b hb=>by
  have e:b=it:=by simpa using hb
  subst e;obtain ⟨o,e,c,d⟩:=st;exact ⟨o,e,fun v z=>by rw [d] at z;cases z⟩
 keep:=fun i h h' st k=>st.at fun o e=>k it s!"s" o e
 item:=by
  intro X hP hw hK hc i pins s σ H E I hf st hg;subst hP hw hK;obtain ⟨xs,x,hq,hx⟩:=hg;obtain ⟨its,rv,p,hz⟩:=I.tuple hq;obtain ⟨u,hu,ru⟩:=rv.get hx;obtain ⟨f0,f1,f2,f3,f4,f5⟩:=hf it s!"s"
  refine wpAny_pyNext_tuple_item st (show s.heap.IsTuple a its.toArray from p) (x:=u) (by simpa using hu) fun h' st' sb=>?_
  have I1:Inv X pins σ H { s with heap:=h' }:=I.turned (t':=s.toks) (fun b o hb e=>(sb.2 b hb).trans e) f0 f1 f3 f4 f5
  obtain ⟨o,e,c,d⟩:=id st';exact ⟨u,rfl,zeT (s:={ s with heap:=h' }) e c d s!"d" ⟨x,H,I1,ru,⟨rfl,fun ys hy=>by rw [I.tuple_inj hy hq];exact hx⟩,st',fun b hb=>s!"C)".1⟩⟩
 done:=by
  intro X hP hw hK hc i pins s σ H E I hf st hg;subst hP hw hK;obtain ⟨xs,hq,hx⟩:=hg;obtain ⟨its,rv,p,hz⟩:=I.tuple hq;obtain ⟨f0,f1,f2,f3,f4,f5⟩:=hf it s!"s"
  have hl:=rv.length;exact wpAny_pyNext_tuple_end s!"Av" st (show s.heap.IsTuple a its.toArray from p) (by simp;omega) fun h' eb=>⟨rfl,I.turned (t':=s.toks) (fun b o hb e=>eb b o hb e) f0 f1 f3 f4 f5⟩
 self:=fun _ _ _ _ _ st h=>wpAny_pyIter_tupleiter st h
theorem zfN (it:Addr) (lo:Int) (n:Nat):Turn P w K tg s!"Ch" [it] it (fun i h=>IsRangeIter h it (lo+(i:Nat)*1) ((n:Int)-(i:Nat)) 1) where
 mem:=by simp
 obj:=fun i h st b hb=>by
  have e:b=it:=by simpa using hb
  subst e;exact ⟨_,st,fun v z=>by
   have z':Data.fields _=Data.cell v:=z;cases z'⟩
 keep:=fun i h h' st k=>k it s!"s" _ st
 item:=by
  intro X hP hw hK hc i pins s σ H E I hf st hg;subst hP hw hK;obtain ⟨f0,f1,f2,f3,f4,f5⟩:=hf it s!"s"
  have W:=Walks.range (prog:=X.prog) (w:=X.w) s!"Av" it lo 1 n;refine W.item i s _ _ hg st fun v h' tk hv st' kk=>?_
  obtain ⟨t,rfl⟩:=hv;have I1:Inv X pins σ H { s with heap:=h',toks:=tk }:=I.turned (fun b o hb e=>kk b o (by simpa using hb) e) f0 f1 f3 f4 f5
  refine ⟨_,rfl,zeT (s:={ s with heap:=h',toks:=tk }) (n:="range_iterator") st' rfl rfl s!"d" ⟨.int (lo+i),H,I1,⟨t,?_⟩,⟨rfl,rfl⟩,st',fun b hb=>s!"C)".1⟩⟩
  rw [Int.mul_one]
 done:=by
  intro X hP hw hK hc i pins s σ H E I hf st hg;subst hP hw hK;obtain ⟨f0,f1,f2,f3,f4,f5⟩:=hf it s!"s"
  exact wpAny_pyNext_range_end s!"Av" st (by have:n<=i:=hg;omega) fun h' eb=>⟨rfl,I.turned (t':=s.toks) (fun b o hb e=>eb b o hb e) f0 f1 f3 f4 f5⟩
 self:=fun _ _ _ _ _ st h=>wpAny_pyIter_rangeiter st h
variable {lo:Int} {fp:List Addr}
def zil (K:PySem.W.Frag) (tl:TE):TI:=fun σ H R=>tl σ H fun x H1=>∃a,x=.ref a/\(∃xs,SqL K H1 a xs)/\R s!"AO" H1
def znC (K:PySem.W.Frag) (tl:TE):TI:=fun σ H R=>tl σ H fun x H1=>∃a,x=.ref a/\(∃xs,SqT K H1 a xs)/\R s!"AP" H1
theorem pi_list {l:Expr} {tl:TE} (hl:PE X l tl):PI X tg l (zil X.K tl):=by
 intro pins s σ H R I h;refine thn (hl pins s σ H _ I h) fun v s1 ⟨x,H1,I1,r1,q1⟩=>?_
 obtain ⟨a,e,⟨xs,hq⟩,q⟩:=q1;subst e;cases r1;obtain ⟨its,rv,p,hz⟩:=I1.list hq;refine wpAny_pyIter_list p.isList ?_;refine ⟨s1.heap.objs.size,[s1.heap.objs.size],_,_,H1,rfl,I1.kept (t':=s1.toks) fun b o e=>Heap.get?_push_of_some _ e,zhh a _,⟨_,Heap.get?_push_size _ rfl,rfl,rfl⟩,fun b hb=>?_,q⟩
 have e:b=s1.heap.objs.size:=by simpa using hb
 subst e;exact I1.fpOk s!"+" s!"C["
theorem pi_tup {l:Expr} {tl:TE} (hl:PE X l tl):PI X tg l (znC X.K tl):=by
 intro pins s σ H R I h;refine thn (hl pins s σ H _ I h) fun v s1 ⟨x,H1,I1,r1,q1⟩=>?_
 obtain ⟨a,e,⟨xs,hq⟩,q⟩:=q1;subst e;cases r1;obtain ⟨its,rv,p,hz⟩:=I1.tuple hq;refine wpAny_pyIter_tuple (show s1.heap.IsTuple a its.toArray from p) ?_
 refine ⟨s1.heap.objs.size,[s1.heap.objs.size],_,_,H1,rfl,I1.kept (t':=s1.toks) fun b o e=>Heap.get?_push_of_some _ e,zfM a _,⟨_,Heap.get?_push_size _ rfl,rfl,rfl⟩,fun b hb=>?_,q⟩
 have e:b=s1.heap.objs.size:=by simpa using hb
 subst e;exact I1.fpOk s!"+" s!"C["
theorem zeU {R:It->Hp->Prop} {hi:Int} {t u v:Tok} {tk:Nat} (I:Inv X pins σ H s) (h1:-(2^62)<=lo) (h2:lo<2^62) (h3:-(2^62)<=hi) (h4:hi<2^62)
 (q:R (Itr lo (hi-lo).toNat) H):wpAny s!"q" X.A s!"Gz" (PIE X pins σ tg R) E { s with heap:=s.heap.push { cls:=.type "range",data:=.fields #[.int lo t,.int hi u,.int 1 v] },toks:=tk }:=by
 refine wpAny_pyIter_range (IsRange.new ..) (small_one h1 h2 h3 h4) ?_;have I1:Inv X pins σ H { s with heap:=s.heap.push { cls:=.type "range",data:=.fields #[.int lo t,.int hi u,.int 1 v] },toks:=tk }:=I.kept fun b o e=>Heap.get?_push_of_some _ e
 refine ⟨(s.heap.push { cls:=.type "range",data:=.fields #[.int lo t,.int hi u,.int 1 v] }).objs.size,[(s.heap.push { cls:=.type "range",data:=.fields #[.int lo t,.int hi u,.int 1 v] }).objs.size],_,_,H,rfl,
  I1.kept (t':=tk) fun b o e=>Heap.get?_push_of_some _ e,zfN _ lo (hi-lo).toNat,?_,fun b hb=>?_,q⟩
 ·have e1:lo+((0:Nat):Int)*1=lo:=by simp
  have e2:(((hi-lo).toNat:Nat):Int)-((0:Nat):Int)=Builtin.Range.rangeSize lo hi 1:=by rw [rangeSize_one];split <;> omega
  show IsRangeIter _ _ (lo+((0:Nat):Int)*1) ((((hi-lo).toNat:Nat):Int)-((0:Nat):Int)) 1;rw [e1,e2];exact Heap.get?_push_size _ rfl
 ·have e:b=(s.heap.push { cls:=.type "range",data:=.fields #[.int lo t,.int hi u,.int 1 v] }).objs.size:=by simpa using hb
  subst e;exact I1.fpOk s!"+" s!"C["
def zim (ta:TA):TI:=fun σ H R=>ta σ H fun vs H1=>∃j:Int,vs=[.int j]/\-(2^62)<=j/\j<2^62/\R s!"E;" H1
def zin (ta:TA):TI:=fun σ H R=>ta σ H fun vs H1=>∃i j:Int,vs=[.int i,.int j]/\(-(2^62)<=i/\i<2^62/\-(2^62)<=j/\j<2^62)/\R (Itr i (j-i).toNat) H1
theorem zcY {a:Expr} {ta:TA} {p pos:Pos} (hg:Gl X "range") (hm:X.mg "range"=none) (ha:PA X [a] ta) (hs:starEach [a] X.env=[(false,eval a X.env)]:=by rfl):PI X tg (.Call s!"E<" [a] [] pos) (zim ta):=by
 intro pins s σ H R I h;refine Call_ (wT I hg hm boot_range (PyProof.Rows.callWith_type1 (thn (ha pos pins s σ H _ I h) fun us s1 ⟨vs,H1,I1,r1,q1⟩=>?_) hs rfl))
 obtain ⟨j,e,q1,q2,q⟩:=q1;subst e;cases r1 with
 | cons r rr=>
  cases rr;obtain ⟨t,rfl⟩:=r;exact call_range_1 (zeU I1 s!"c" s!"c" q1 q2 (by simpa using q))
theorem pi_range2 {a b:Expr} {ta:TA} {p pos:Pos} (hg:Gl X "range") (hm:X.mg "range"=none) (ha:PA X [a,b] ta) (hs:starEach [a,b] X.env=[(false,eval a X.env),(false,eval b X.env)]:=by rfl) (hs2:starEach [b] X.env=[(false,eval b X.env)]:=by rfl):
 PI X tg (.Call s!"E<" [a,b] [] pos) (zin ta):=by
 intro pins s σ H R I h;refine Call_ (wT I hg hm boot_range (PyProof.Rows.callWith_type1 (thn (ha pos pins s σ H _ I h) fun us s1 ⟨vs,H1,I1,r1,q1⟩=>?_) (by rw [hs,hs2]) (by rw [hs2];rfl)))
 obtain ⟨i,j,e,⟨q1,q2,q3,q4⟩,q⟩:=q1;subst e;cases r1 with
 | cons r rr=>
  cases rr with
  | cons r' rr=>
   cases rr;obtain ⟨t,rfl⟩:=r;obtain ⟨t',rfl⟩:=r';exact call_range_2 (zeU I1 q1 q2 q3 q4 q)
def zfO (wi:TI) (g:TG) (tb:TS):TS:=fun D σ H=>wi σ H fun J H1=>∃W:Nat->Nat->St->Hp->Prop,(∃m,W 0 m σ H1)/\∀i m σ H,W i m σ H->
 (J.stop i H/\D.nx σ H)\/(J.go i H/\∃N:St->Hp->Prop,(∀σ' H',N σ' H'->∃m',m'<m/\W (i+1) m' σ' H')/\∀x H',J.yld i H x H'->g x σ H' fun σ2 H2=>tb { D with nx:=N,ct:=N,bk:=D.nx } σ2 H2)
def zdS (fp:List Addr) (h:Heap):List (Addr×Obj):=fp.filterMap fun b=>(h.get? b).map fun o=>(b,o)
theorem zJ (hb:b∈fp) (e:h.get? b=some o):(b,o)∈zdS fp h:=List.mem_filterMap.mpr ⟨b,hb,by rw [e];rfl⟩
theorem zhi {p:Addr×Obj} (hp:p∈zdS fp h):p.1∈fp/\h.get? p.1=some p.2:=by
 obtain ⟨b,hb,e⟩:=List.mem_filterMap.mp hp;cases q:h.get? b with
 | none=>rw [q] at e;cases e
 | some o=>
  rw [q] at e;have e':(b,o)=p:=Option.some.inj e;subst e';exact ⟨hb,q⟩
theorem Inv.pinned (I:Inv X pins σ H s) (hf:∀b∈fp,wD X pins H b) (ho:∀b∈fp,∃o,s.heap.get? b=some o/\∀v,o.data≠.cell v):Inv X (pins++zdS fp s.heap) σ H s:=
 I.pins_of fun p hp=>s!"Gt".elim (fun z=>I.pin p s!"Ag{z}") fun z=>by
  obtain ⟨hb,e⟩:=zhi z;obtain ⟨f0,f1,f2,_⟩:=hf p.1 hb;obtain ⟨o,e',d⟩:=ho p.1 hb;rw [e] at e';cases e';exact ⟨e,f0,f1,f2,d⟩
theorem Inv.unpinned {pl:List (Addr×Obj)} (I:Inv X (pins++pl) σ H s):Inv X pins σ H s:=I.pins_of fun p hp=>I.pin p s!"AgG0"
theorem ps_for {iter:Expr} {body:List Stmt} {wi:TI} {g:TG} {tb:TS} {pos:Pos} (hp:PassesOwn s!"q" X.A X.env X.xe) (hc:X.calm=true) (hi:PI X tg iter wi) (hg:PG X tg g) (hb:PSs X body tb)
 (hs:∀x,foldedSetIterable iter X.env x=pure x:=by intro _;rfl):PS X (.For tg iter body [] pos) (zfO wi g tb):=by
 intro pins s σ H D I h;refine wpAny_For (thn (hi pins s σ H _ I h) fun v s1 h1=>thn h1 fun itv s2 h2=>?_) hs
 obtain ⟨it,fp,tn,J,H2,e,I2,T,st2,f2,W,⟨m0,w0⟩,turn⟩:=h2;subst e;have stat:∀{H':Hp},(∀b∈fp,H' b=none)->∀b∈fp,wD X pins H' b:=fun hn b hb=>⟨hn b hb,(f2 b hb).2⟩
 refine codeAny_forLoop_any (fun n s'=>∃i σ' H',Inv X pins σ' H' s'/\tn i s'.heap/\(∀b∈fp,H' b=none)/\W i n σ' H') ?_ m0 ⟨0,σ,H2,I2,st2,fun b hb=>(f2 b hb).1,w0⟩
 rintro n s3 ⟨i,σ3,H3,I3,st3,fr3,w3⟩;rcases turn i n σ3 H3 w3 with ⟨stop,qn⟩ | ⟨go,N,hN,step⟩
 ·refine wpAny_passesOwn hp (thn (T.done X rfl rfl rfl hc i pins s3 σ3 H3 X.xe I3 (stat fr3) st3 stop) fun r s4 ⟨hr,I4⟩=>?_)
  subst hr;exact wpAny_execs_nil ⟨σ3,H3,I4,qn⟩
 ·refine wpAny_passesOwn hp (thn (T.item X rfl rfl rfl hc i pins s3 σ3 H3 X.xe I3 (stat fr3) st3 go) fun r s4 ⟨u,hr,h4⟩=>?_)
  subst hr;refine wpAny_passesOwn hp (thn h4 fun _ s5 ⟨x,H5,I5,r5,y5,st5,fr5⟩=>?_)
  have I5':=I5.pinned (stat fr5) s!"D,";refine wpAny_passesOwn hp (thn (hg _ s5 σ3 H5 x u _ I5' r5 (step x H5 y5)) fun _ s6 ⟨σ6,H6,I6,q6⟩=>?_)
  refine wpAny_passesOwn hp (thn (hb _ s6 σ6 H6 _ I6 q6) fun f s7 q7=>?_)
  have again:∀{σ7:St} {H7:Hp},Inv X (pins++zdS fp s5.heap) σ7 H7 s7->N σ7 H7->∃m,m<n/\∃i σ' H',Inv X pins σ' H' s7/\tn i s7.heap/\(∀b∈fp,H' b=none)/\W i m σ' H':=fun {σ7 H7} I7 n7=>by
   obtain ⟨m',hm,w7⟩:=hN σ7 H7 n7;refine ⟨m',hm,i+1,σ7,H7,I7.unpinned,T.keep _ _ _ st5 fun b hb o e=>(I7.pin (b,o) s!"AgAgB0").1,fun b hb=>?_,w7⟩
   obtain ⟨o,e,d⟩:=T.obj _ _ st5 b hb;exact (I7.pin (b,o) s!"AgAgB0").2.1
  cases f with
  | next=>obtain ⟨σ7,H7,I7,n7⟩:=q7;exact again I7 n7
  | cont=>obtain ⟨σ7,H7,I7,n7⟩:=q7;exact again I7 n7
  | brk=>obtain ⟨σ7,H7,I7,q7⟩:=q7;exact ⟨σ7,H7,I7.unpinned,q7⟩
  | ret v=>obtain ⟨x7,σ7,H7,I7,r7,q7⟩:=q7;exact ⟨x7,σ7,H7,I7.unpinned,r7,q7⟩
variable {tb:TS}
theorem zeV {xs:List V} {g:TG} (Pv:Nat->St->Hp->Prop) (h0:Pv 0 σ H) (hl:∀i σ H,i<=xs.length->Pv i σ H->SqL K H a xs)
 (hs:∀i x σ H,xs[i]? =some x->Pv i σ H->g x σ H fun σ2 H2=>tb { D with nx:=Pv (i+1),ct:=Pv (i+1),bk:=D.nx } σ2 H2) (hd:∀σ H,Pv xs.length σ H->D.nx σ H):
 ∃W:Nat->Nat->St->Hp->Prop,(∃m,W 0 m σ H)/\∀i m σ H,W i m σ H->
  (s!"AO".stop i H/\D.nx σ H)\/(s!"AO".go i H/\∃N:St->Hp->Prop,(∀σ' H',N σ' H'->∃m',m'<m/\W (i+1) m' σ' H')/\∀x H',s!"AO".yld i H x H'->g x σ H' fun σ2 H2=>tb { D with nx:=N,ct:=N,bk:=D.nx } σ2 H2):=by
 refine ⟨fun i m σ H=>m=xs.length-i/\i<=xs.length/\Pv i σ H,⟨xs.length,by simp,Nat.zero_le _,h0⟩,?_⟩
 rintro i m σ H ⟨rfl,hi,p⟩;have q:=hl i σ H hi p
 by_cases hlt:i<xs.length
 ·refine .inr ⟨⟨xs,xs[i],q,by simp [hlt]⟩,Pv (i+1),fun σ' H' p'=>⟨xs.length-(i+1),by omega,rfl,hlt,p'⟩,fun x H' y=>?_⟩
  obtain ⟨e,y⟩:=y;subst e;exact hs i x σ _ (y xs q) p
 ·have e:i=xs.length:=by omega
  subst e;exact .inl ⟨⟨xs,q,Nat.le_refl _⟩,hd σ H p⟩
theorem zgw {xs:List V} {g:TG} (Pv:Nat->St->Hp->Prop) (h0:Pv 0 σ H) (hl:∀i σ H,i<=xs.length->Pv i σ H->SqT K H a xs)
 (hs:∀i x σ H,xs[i]? =some x->Pv i σ H->g x σ H fun σ2 H2=>tb { D with nx:=Pv (i+1),ct:=Pv (i+1),bk:=D.nx } σ2 H2) (hd:∀σ H,Pv xs.length σ H->D.nx σ H):
 ∃W:Nat->Nat->St->Hp->Prop,(∃m,W 0 m σ H)/\∀i m σ H,W i m σ H->
  (s!"AP".stop i H/\D.nx σ H)\/(s!"AP".go i H/\∃N:St->Hp->Prop,(∀σ' H',N σ' H'->∃m',m'<m/\W (i+1) m' σ' H')/\∀x H',s!"AP".yld i H x H'->g x σ H' fun σ2 H2=>tb { D with nx:=N,ct:=N,bk:=D.nx } σ2 H2):=by
 refine ⟨fun i m σ H=>m=xs.length-i/\i<=xs.length/\Pv i σ H,⟨xs.length,by simp,Nat.zero_le _,h0⟩,?_⟩
 rintro i m σ H ⟨rfl,hi,p⟩;have q:=hl i σ H hi p
 by_cases hlt:i<xs.length
 ·refine .inr ⟨⟨xs,xs[i],q,by simp [hlt]⟩,Pv (i+1),fun σ' H' p'=>⟨xs.length-(i+1),by omega,rfl,hlt,p'⟩,fun x H' y=>?_⟩
  obtain ⟨e,y⟩:=y;subst e;exact hs i x σ _ (y xs q) p
 ·have e:i=xs.length:=by omega
  subst e;exact .inl ⟨⟨xs,q,Nat.le_refl _⟩,hd σ H p⟩
theorem zcZ {n:Nat} {g:TG} (Pv:Nat->St->Hp->Prop) (h0:Pv 0 σ H)
 (hs:∀i σ H,i<n->Pv i σ H->g s!"2{(lo+i)}" σ H fun σ2 H2=>tb { D with nx:=Pv (i+1),ct:=Pv (i+1),bk:=D.nx } σ2 H2) (hd:∀σ H,Pv n σ H->D.nx σ H):
 ∃W:Nat->Nat->St->Hp->Prop,(∃m,W 0 m σ H)/\∀i m σ H,W i m σ H->
  (s!"Ch".stop i H/\D.nx σ H)\/(s!"Ch".go i H/\∃N:St->Hp->Prop,(∀σ' H',N σ' H'->∃m',m'<m/\W (i+1) m' σ' H')/\∀x H',s!"Ch".yld i H x H'->g x σ H' fun σ2 H2=>tb { D with nx:=N,ct:=N,bk:=D.nx } σ2 H2):=by
 refine ⟨fun i m σ H=>m=n-i/\i<=n/\Pv i σ H,⟨n,by simp,Nat.zero_le _,h0⟩,?_⟩
 rintro i m σ H ⟨rfl,hi,p⟩
 by_cases hlt:i<n
 ·refine .inr ⟨hlt,Pv (i+1),fun σ' H' p'=>⟨n-(i+1),by omega,rfl,hlt,p'⟩,fun x H' y=>?_⟩
  obtain ⟨e,y⟩:=y;subst e y;exact hs i σ _ hlt p
 ·have e:i=n:=by omega
  subst e;exact .inl ⟨Nat.le_refl _,hd σ H p⟩
abbrev R2:=V->V->Hp->VK->Prop
def OpR (X:Cx) (f:Value->Value->Sem Value) (r:R2):Prop:=
 ∀(pins:List (Addr×Obj)) (s:Shared) (σ:St) (H:Hp) (x y:V) (v u:Value) (Q:VK),Inv X pins σ H s->zm x v->zm y u->r x y H Q->
  wpAny s!"q" X.A (f v u) (EP X pins σ Q) X.xe s
def UnR (X:Cx) (f:Value->Sem Value) (r:V->Hp->VK->Prop):Prop:=
 ∀(pins:List (Addr×Obj)) (s:Shared) (σ:St) (H:Hp) (x:V) (v:Value) (Q:VK),Inv X pins σ H s->zm x v->r x H Q->
  wpAny s!"q" X.A (f v) (EP X pins σ Q) X.xe s
def zN (X:Cx) (f:Value) (r:List V->Hp->VK->Prop):Prop:=
 ∀(pins:List (Addr×Obj)) (s:Shared) (σ:St) (H:Hp) (xs:List V) (us:List Value) (Q:VK),Inv X pins σ H s->zl xs us->r xs H Q->
  wpAny s!"q" X.A (call f us) (EP X pins σ Q) X.xe s
def tOp (r:R2) (ta tb:TE):TE:=fun σ H Q=>ta σ H fun x H1=>tb σ H1 fun y H2=>r x y H2 Q
def tUn (r:V->Hp->VK->Prop) (ta:TE):TE:=fun σ H Q=>ta σ H fun x H1=>r x H1 Q
def rI (C:Int->Int->Prop) (g:Int->Int->V):R2:=fun x y H Q=>∃i j,x=.int i/\y=.int j/\C i j/\Q s!"Bj" H
def rI0 (g:Int->Int->V):R2:=fun x y H Q=>∃i j,x=.int i/\y=.int j/\Q s!"Bj" H
def rU (g:Int->V):V->Hp->VK->Prop:=fun x H Q=>∃i,x=.int i/\Q (g i) H
variable {f:Value->Value->Sem Value} {g:Int->Int->Int}
section
variable {a b c:Expr} {tb tc:TE}
theorem znD (ha:PE X a ta) (hb:PE X b tb) {R:V->V->Hp->Prop} (I:Inv X pins σ H s)
 (h:ta σ H fun x H1=>tb σ H1 fun y H2=>R x y H2)
 (hf:∀v u s2 x y H2,Inv X pins σ H2 s2->zm x v->zm y u->R x y H2->wpAny s!"q" X.A (f v u) Q X.xe s2):
 wpAny s!"q" X.A s!"C!{a}" (fun v s₁=>wpAny s!"q" X.A s!"C!{b}" (fun u s₂=>wpAny s!"q" X.A (f v u) Q X.xe s₂) X.xe s₁) X.xe s:=by
 refine thn (ha pins s σ H _ I h) fun v s1 ⟨x,H1,I1,r1,q1⟩=>?_
 refine thn (hb pins s1 σ H1 _ I1 q1) fun u s2 ⟨y,H2,I2,r2,q2⟩=>?_
 exact hf v u s2 x y H2 I2 r1 r2 q2
theorem pe_op {op:Operator} {r:R2} (ho:OpR X s!"BU{op}" r) (ha:PE X a ta) (hb:PE X b tb):PE X (.BinOp a op b pos) s!"D-":=by
 intro pins s σ H Q I h;exact wpAny_BinOp (znD ha hb I h fun v u s2 x y H2 I2 rx ry q=>ho pins s2 σ H2 x y v u Q I2 rx ry q)
theorem pe_un {op:UnaryOp} {r:V->Hp->VK->Prop} (ho:UnR X (unaryOp op) r) (ha:PE X a ta):PE X (.UnaryOp op a pos) (tUn r ta):=by
 intro pins s σ H Q I h;exact UnaryOp_ (thn (ha pins s σ H _ I h) fun v s1 ⟨x,H1,I1,r1,q1⟩=>ho pins s1 σ H1 x v Q I1 r1 q1)
theorem opI {C:Int->Int->Prop}
 (rule:∀(i j:Int) (t u:Tok) (s:Shared) (Q:Value->Shared->Prop) (E:Value->Shared->Prop),C i j->Q s!"G1" { s with toks:=s.toks+1 }->wpAny s!"q" X.A s!"E=" Q E s):
 OpR X f (rI C fun i j=>.int s!"Bj"):=by
 intro pins s σ H x y v u Q I rx ry h;obtain ⟨i,j,rfl,rfl,hc,q⟩:=h;obtain ⟨t,rfl⟩:=rx;obtain ⟨t',rfl⟩:=ry;exact rule i j t t' s _ _ hc ⟨.int s!"Bj",H,I.tok _,⟨_,rfl⟩,q⟩
theorem zpb
 (rule:∀(i j:Int) (t u:Tok) (s:Shared) (Q:Value->Shared->Prop) (E:Value->Shared->Prop),Q s!"G1" { s with toks:=s.toks+1 }->wpAny s!"q" X.A s!"E=" Q E s):
 OpR X f (rI0 fun i j=>.int s!"Bj"):=by
 intro pins s σ H x y v u Q I rx ry h;obtain ⟨i,j,rfl,rfl,q⟩:=h;obtain ⟨t,rfl⟩:=rx;obtain ⟨t',rfl⟩:=ry;exact rule i j t t' s _ _ ⟨.int s!"Bj",H,I.tok _,⟨_,rfl⟩,q⟩
theorem zkB {g:Int->Int->Bool}
 (rule:∀(i j:Int) (t u:Tok) (s:Shared) (Q:Value->Shared->Prop) (E:Value->Shared->Prop),Q (.bool s!"Bj") s->wpAny s!"q" X.A s!"E=" Q E s):
 OpR X f (rI0 fun i j=>.bl s!"Bj"):=by
 intro pins s σ H x y v u Q I rx ry h;obtain ⟨i,j,rfl,rfl,q⟩:=h;obtain ⟨t,rfl⟩:=rx;obtain ⟨t',rfl⟩:=ry;exact rule i j t t' s _ _ ⟨.bl s!"Bj",H,I,rfl,q⟩
def zpc (i j:Int):Prop:=0<=j/\j<=1000000/\i.natAbs<2^64
theorem znE:OpR X s!"BB" (rI0 fun i j=>.int (i+j)):=zpb fun _ _ _ _ _ _ _ q=>add_int q
theorem znF:OpR X s!"BU{.Sub}" (rI0 fun i j=>.int (i-j)):=zpb fun _ _ _ _ _ _ _ q=>sub_int q
theorem zkC:OpR X s!"BU{.Mod}" (rI (fun _ j=>j≠0) fun i j=>.int (i.fmod j)):=opI fun _ _ _ _ _ _ _ hc q=>mod_int' hc q
theorem znG:OpR X s!"BU{.Pow}" (rI zpc fun i j=>.int (i^j.toNat)):=opI fun _ _ _ _ _ _ _ hc q=>pow_int_small hc.1 hc.2.1 hc.2.2 q
theorem unI {f:Value->Sem Value} {g:Int->Int}
 (rule:∀(i:Int) (t:Tok) (s:Shared) (Q:Value->Shared->Prop) (E:Value->Shared->Prop),Q (.int (g i) s.toks) { s with toks:=s.toks+1 }->wpAny s!"q" X.A (f s!"E$") Q E s):
 UnR X f (rU fun i=>.int (g i)):=by
 intro pins s σ H x v Q I rx h;obtain ⟨i,rfl,q⟩:=h;obtain ⟨t,rfl⟩:=rx;exact rule i t s _ _ ⟨.int (g i),H,I.tok _,⟨_,rfl⟩,q⟩
theorem un_neg:UnR X (unaryOp .USub) (rU fun i=>.int (-i)):=unI fun _ _ _ _ _ q=>neg_int q
end
def zpd:V->V->Bool
 | .non,.non=>true | .non,.int _=>true | .int _,.non=>true | .non,.bl _=>true | .bl _,.non=>true | .non,.str _=>true | .str _,.non=>true
 | .int _,.int _=>true | .bl _,.bl _=>true | .str _,.str _=>true | .byt _,.byt _=>true
 | .int _,.str _=>true | .str _,.int _=>true | .bl _,.str _=>true | .str _,.bl _=>true
 | _,_=>false
def rEq:R2:=fun x y H Q=>zpd x y=true/\Q s!"!{(decide (x=y))}" H
def rNe:R2:=fun x y H Q=>zpd x y=true/\Q s!"!{(!decide (x=y))}" H
theorem zgx {i j:Int}:decide (V.int i=V.int j)=(i==j):=by
 rw [Bool.eq_iff_iff];simp
theorem zio {i j:Bool}:decide (V.bl i=V.bl j)=(i==j):=by
 rw [Bool.eq_iff_iff];simp
theorem zgy {i j:Str}:decide (V.str i=V.str j)=(i==j):=by
 rw [Bool.eq_iff_iff];simp
theorem zgz {i j:Array UInt8}:decide (V.byt i=V.byt j)=(i.toList==j.toList):=by
 rw [Bool.eq_iff_iff];cases i;cases j;simp
section
variable {a b c:Expr} {tb tc:TE}
theorem zn {Q:VK} {k k':Bool} (I:Inv X pins σ H s) (q:Q s!"!{k}" H) (e:k=k'):EP X pins σ Q (.bool k') s:=by
 subst e;exact ⟨.bl k,H,I,rfl,q⟩
theorem zpe:OpR X s!"C]" rEq:=by
 intro pins s σ H x y v u Q I rx ry h;obtain ⟨hs,q⟩:=h;cases x with
 | non=>
  cases rx;cases y with
  | non=>cases ry;exact PySem.EqNone.eq_none_none s!"Ah"
  | bl j=>cases ry;exact PySem.EqNone.eq_none_bool s!"Ah"
  | int j=>obtain ⟨t',rfl⟩:=ry;exact PySem.EqNone.eq_none_int s!"Ah"
  | str j=>obtain ⟨t',rfl⟩:=ry;exact PySem.EqNone.eq_none_str s!"Ah"
  | _=>exact absurd (show false=true from hs) Bool.false_ne_true
 | bl i=>
  cases rx;cases y with
  | non=>cases ry;exact PySem.EqNone.eq_bool_none s!"Ah"
  | bl j=>cases ry;exact eq_bool (zn I q zio)
  | str j=>obtain ⟨t',rfl⟩:=ry;exact PySem.EqMixed.eq_bool_str s!"Ah"
  | _=>exact absurd (show false=true from hs) Bool.false_ne_true
 | int i=>
  obtain ⟨t,rfl⟩:=rx;cases y with
  | non=>cases ry;exact PySem.EqNone.eq_int_none s!"Ah"
  | int j=>obtain ⟨t',rfl⟩:=ry;exact eq_int (zn I q zgx)
  | str j=>obtain ⟨t',rfl⟩:=ry;exact PySem.EqMixed.eq_int_str s!"Ah"
  | _=>exact absurd (show false=true from hs) Bool.false_ne_true
 | str i=>
  obtain ⟨t,rfl⟩:=rx;cases y with
  | non=>cases ry;exact PySem.EqNone.eq_str_none s!"Ah"
  | bl j=>cases ry;exact PySem.EqMixed.eq_str_bool s!"Ah"
  | int j=>obtain ⟨t',rfl⟩:=ry;exact PySem.EqMixed.eq_str_int s!"Ah"
  | str j=>obtain ⟨t',rfl⟩:=ry;exact eq_str (zn I q zgy)
  | _=>exact absurd (show false=true from hs) Bool.false_ne_true
 | byt i=>
  obtain ⟨t,rfl⟩:=rx;cases y with
  | byt j=>obtain ⟨t',rfl⟩:=ry;exact PySem.W.eq_bytes (zn I q zgz)
  | _=>exact absurd (show false=true from hs) Bool.false_ne_true
 | _=>cases y <;> exact absurd (show false=true from hs) Bool.false_ne_true
theorem zmz:OpR X s!"D." rNe:=by
 intro pins s σ H x y v u Q I rx ry h;obtain ⟨hs,q⟩:=h;cases x with
 | non=>
  cases rx;cases y with
  | non=>cases ry;exact PySem.EqNone.ne_none_none s!"Ah"
  | bl j=>cases ry;exact PySem.EqNone.ne_none_bool s!"Ah"
  | int j=>obtain ⟨t',rfl⟩:=ry;exact PySem.EqNone.ne_none_int s!"Ah"
  | str j=>obtain ⟨t',rfl⟩:=ry;exact PySem.EqNone.ne_none_str s!"Ah"
  | _=>exact absurd (show false=true from hs) Bool.false_ne_true
 | bl i=>
  cases rx;cases y with
  | non=>cases ry;exact PySem.EqNone.ne_bool_none s!"Ah"
  | bl j=>cases ry;exact ne_bool (zn I q (congrArg not zio))
  | str j=>obtain ⟨t',rfl⟩:=ry;exact PySem.EqMixed.ne_bool_str s!"Ah"
  | _=>exact absurd (show false=true from hs) Bool.false_ne_true
 | int i=>
  obtain ⟨t,rfl⟩:=rx;cases y with
  | non=>cases ry;exact PySem.EqNone.ne_int_none s!"Ah"
  | int j=>obtain ⟨t',rfl⟩:=ry;exact ne_int (zn I q (congrArg not zgx))
  | str j=>obtain ⟨t',rfl⟩:=ry;exact PySem.EqMixed.ne_int_str s!"Ah"
  | _=>exact absurd (show false=true from hs) Bool.false_ne_true
 | str i=>
  obtain ⟨t,rfl⟩:=rx;cases y with
  | non=>cases ry;exact PySem.EqNone.ne_str_none s!"Ah"
  | bl j=>cases ry;exact PySem.EqMixed.ne_str_bool s!"Ah"
  | int j=>obtain ⟨t',rfl⟩:=ry;exact PySem.EqMixed.ne_str_int s!"Ah"
  | str j=>obtain ⟨t',rfl⟩:=ry;exact ne_str (zn I q (congrArg not zgy))
  | _=>exact absurd (show false=true from hs) Bool.false_ne_true
 | byt i=>
  obtain ⟨t,rfl⟩:=rx;cases y with
  | byt j=>obtain ⟨t',rfl⟩:=ry;exact PySem.W.ne_bytes (zn I q (congrArg not zgz))
  | _=>exact absurd (show false=true from hs) Bool.false_ne_true
 | _=>cases y <;> exact absurd (show false=true from hs) Bool.false_ne_true
theorem zpf:OpR X s!"AJ{.Lt}" (rI0 fun i j=>.bl (decide (i<j))):=zkB fun _ _ _ _ _ _ _ q=>lt_int q
theorem zpg:OpR X s!"AJ{.LtE}" (rI0 fun i j=>.bl (decide (i<=j))):=zkB fun _ _ _ _ _ _ _ q=>le_int q
theorem zph:OpR X s!"AJ{.Gt}" (rI0 fun i j=>.bl (decide (j<i))):=zkB fun _ _ _ _ _ _ _ q=>gt_int q
theorem zpi:OpR X s!"AJ{.GtE}" (rI0 fun i j=>.bl (decide (j<=i))):=zkB fun _ _ _ _ _ _ _ q=>ge_int q
theorem zhj:OpR X s!"E>" (fun x y H Q=>∃i j,x=.str i/\y=.str j/\Q s!"!{(!s!"G2".isEmpty)}" H):=by
 intro pins s σ H x y v u Q I rx ry h;obtain ⟨i,j,rfl,rfl,q⟩:=h;obtain ⟨t,rfl⟩:=rx;obtain ⟨t',rfl⟩:=ry;exact in_str (zn I q rfl)
theorem znH:OpR X s!"AJ{.Is}" (fun x y H Q=>y=.non/\Q s!"!{(decide (x=.non))}" H):=by
 intro pins s σ H x y v u Q I rx ry h;obtain ⟨rfl,q⟩:=h;cases ry;refine is_none_gen (zn I q ?_);cases x <;> first
  | (cases rx;rfl)
  | (obtain ⟨t,rfl⟩:=rx;rfl)
theorem OpR.or {r r':R2} (h:OpR X f r) (h':OpR X f r'):OpR X f (fun x y H Q=>r x y H Q\/r' x y H Q):=by
 intro pins s σ H x y v u Q I rx ry q;rcases q with q | q
 ·exact h pins s σ H x y v u Q I rx ry q
 ·exact h' pins s σ H x y v u Q I rx ry q
theorem nomark (b:Expr) (h:op≠.In:=by decide) (h2:op≠.NotIn:=by decide):behindInMarks op b=false:=by
 have e1:(op==CmpOp.In)=false:=by cases op <;> first | rfl | exact absurd rfl h
 have e2:(op==CmpOp.NotIn)=false:=by cases op <;> first | rfl | exact absurd rfl h2
 cases b <;> simp [behindInMarks,e1,e2]
theorem pe_cmpR {op:CmpOp} {r:R2} (ho:OpR X s!"E?" r) (ha:PE X a ta) (hb:PE X b tb) (hm:behindInMarks op b=false):PE X (.Compare a [op] [b] pos) s!"D-":=by
 intro pins s σ H Q I h;exact wpAny_Compare1 (znD ha hb I h fun v u s2 x y H2 I2 rx ry q=>ho pins s2 σ H2 x y v u Q I2 rx ry q) hm
def zmA (t:TE):TT:=fun σ H Q=>t σ H fun x H'=>∃k,x=.bl k/\Q k H'
theorem pt_cmpR {op:CmpOp} {r:R2} (ho:OpR X s!"E?" r) (ha:PE X a ta) (hb:PE X b tb) (hm:behindInMarks op b=false):PT X (.Compare a [op] [b] pos) (zmA s!"D-"):=by
 intro pins s σ H Q I h;refine wpAny_isTrue_Compare1 (thn (ha pins s σ H _ I h) fun v s1 ⟨x,H1,I1,r1,q1⟩=>thn (hb pins s1 σ H1 _ I1 q1) fun u s2 ⟨y,H2,I2,r2,q2⟩=>
  thn (ho pins s2 σ H2 x y v u _ I2 r1 r2 q2) fun c s3 ⟨z,H3,I3,r3,k,e,q3⟩=>?_) hm
 subst e;cases r3;exact wpAny_truthy_bool ⟨H3,I3,q3⟩
def ziq (r r':R2) (ta tb tc:TE):TE:=fun σ H Q=>ta σ H fun x H1=>tb σ H1 fun y H2=>r x y H2 fun z H3=>∃k,z=.bl k/\
 (if k=true then tc σ H3 fun w' H4=>r' y w' H4 Q else Q s!"B]" H3)
theorem zir {op op':CmpOp} {r r':R2} (ho:OpR X s!"E?" r) (ho':OpR X s!"AJ{op'}" r') (ha:PE X a ta) (hb:PE X b tb) (hc:PE X c tc)
 (hm:lastMarks [op,op'] [b,c]=false:=by with_unfolding_all rfl):PE X (.Compare a [op,op'] [b,c] pos) (ziq r r' ta tb tc):=by
 intro pins s σ H Q I h;refine Compare_chain (thn (ha pins s σ H _ I h) fun v s1 ⟨x,H1,I1,r1,q1⟩=>chain_link (thn (hb pins s1 σ H1 _ I1 q1) fun u s2 ⟨y,H2,I2,r2,q2⟩=>
  thn (ho pins s2 σ H2 x y v u _ I2 r1 r2 q2) fun d s3 ⟨z,H3,I3,r3,k,e,q3⟩=>?_)) hm
 subst e;cases r3;refine wpAny_truthy_bool ?_;cases k with
 | false=>exact ite_ff ⟨.bl false,H3,I3,rfl,q3⟩
 | true=>exact ite_tt (chain_last (thn (hc pins s3 σ H3 _ I3 q3) fun w' s4 ⟨z',H4,I4,r4,q4⟩=>ho' pins s4 σ H4 y z' u w' Q I4 r2 r4 q4))
theorem zb4:(sizeLine:Nat)<2^63:=by rw [sizeLine_eq];decide
theorem zfP:OpR X s!"BB" (fun x y H Q=>∃i j,x=.str i/\y=.str j/\i.length+j.length<=sizeLine/\Q s!"z{(i++j)}" H):=by
 intro pins s σ H x y v u Q I rx ry h;obtain ⟨i,j,rfl,rfl,hz,q⟩:=h;obtain ⟨t,rfl⟩:=rx;obtain ⟨t',rfl⟩:=ry;exact add_str (fun t' tk=>⟨.str (i++j),H,I.tok _,⟨_,rfl⟩,q⟩) hz
theorem zam {x:V} (r:zl [x] us):∃u,us=[u]/\zm x u:=by
 cases r with
 | cons r1 r2=>cases r2;exact ⟨_,rfl,r1⟩
theorem zb5 {x:V} (r:zl [x,y] us):∃u w',us=[u,w']/\zm x u/\zm y w':=by
 cases r with
 | cons r1 r2=>
  cases r2 with
  | cons r3 r4=>cases r4;exact ⟨_,_,rfl,r1,r3⟩
theorem zis:zN X s!"A%{"abs"}" (fun xs H Q=>∃i,xs=[.int i]/\Q s!"2{(if i<0 then -i else i)}" H):=by
 intro pins s σ H xs us Q I r h;obtain ⟨i,rfl,q⟩:=h;obtain ⟨u,rfl,t,rfl⟩:=zam r;exact call_abs_int fun u tk=>⟨.int (if i<0 then -i else i),H,I.tok _,⟨_,rfl⟩,q⟩
theorem zhk (hc:X.calm=true):zN X s!"A%{"max"}" (fun xs H Q=>∃i j,xs=[.int i,.int j]/\Q s!"2{(if j > i then j else i)}" H):=by
 intro pins s σ H xs us Q I r h;obtain ⟨i,j,rfl,q⟩:=h;obtain ⟨u,w',rfl,⟨t,rfl⟩,⟨t',rfl⟩⟩:=zb5 r;refine max_two_ints s!"Av" fun h' tk k=>⟨_,H,I.kept k,?_,q⟩
 by_cases hj:j > i
 ·rw [if_pos hj,if_pos hj];exact ⟨_,rfl⟩
 ·rw [if_neg hj,if_neg hj];exact ⟨_,rfl⟩
theorem zhl (hc:X.calm=true):zN X s!"A%{"min"}" (fun xs H Q=>∃i j,xs=[.int i,.int j]/\Q s!"2{(if j<i then j else i)}" H):=by
 intro pins s σ H xs us Q I r h;obtain ⟨i,j,rfl,q⟩:=h;obtain ⟨u,w',rfl,⟨t,rfl⟩,⟨t',rfl⟩⟩:=zb5 r;refine min_two_ints s!"Av" fun h' tk k=>⟨_,H,I.kept k,?_,q⟩
 by_cases hj:j<i
 ·rw [if_pos hj,if_pos hj];exact ⟨_,rfl⟩
 ·rw [if_neg hj,if_neg hj];exact ⟨_,rfl⟩
theorem zdT:zN X s!"E@" (fun xs H Q=>∃i,xs=[.int i]/\i.natAbs.log2<1920/\Q s!"Cj" H):=by
 intro pins s σ H xs us Q I r h;obtain ⟨i,rfl,hz,q⟩:=h;obtain ⟨u,rfl,t,rfl⟩:=zam r;exact PySem.P.str_of_int hz ⟨.str _,H,I.tok _,⟨_,rfl⟩,q⟩
end
structure ObjM (h:Heap) (x dx C:Addr) (mA:Str->Option Value):Prop where
 obj:h.get? x=some s!"E%"
 ns:h.Ns1 dx mA
 ne:dx≠x
variable {dx:Addr} {mA:Str->Option Value}
theorem zhm (n:h.Ns1 dx mA):∃od,h.get? dx=some od/\∀name,PySem.W.lookIn name od=some (mA name):=by
 obtain ⟨o,es,ep,ho,hd,hk,_,hm⟩:=n;refine ⟨o,ho,fun name=>?_⟩
 have e:=hm name;unfold nsFind findBy at e;rw [<-Array.find?_toList] at e;unfold PySem.W.lookIn;rw [hd];dsimp only;split
 ·rename_i y q;rw [q] at e;exact congrArg some e
 ·rename_i q;rw [q] at e;have a:es.toList.any (·.refKey)=false:=by
   rw [List.any_eq_false];intro y hy;obtain ⟨z,t,hkey⟩:=hk y (Array.mem_toList_iff.mp hy);simp [DictEntry.refKey,hkey]
  have a':¬es.toList.any (·.refKey)=true:=by rw [a];exact Bool.false_ne_true
  rw [if_neg a'];exact congrArg some e
variable {C:Addr}
theorem ObjM.look {x:Addr} (I:ObjM h x dx C mA):∃od,PySem.W.InstAt h x s!"E%" C s!"n{od}"/\∀name,PySem.W.lookIn name od=some (mA name):=
 let ⟨od,ho,hl⟩:=zhm I.ns
 ⟨od,⟨I.obj,rfl,rfl,ho⟩,hl⟩
variable {prog:Program} {name:Str} {v:Value} {pl:Sem Bool} {kw:List (Str×Value)}
section
variable {x f:Addr}
theorem zkD {expr:Bool} (X:K.In s.heap) (I:ObjM s.heap x dx C mA) (hg:PySem.W.plainGet K C name=true) (hh:PySem.W.hasDictIn K C=true)
 (ha:PySem.W.findIn K s!"o" name=some none) (hv:mA name=some v) (hv':PySem.W.handedIn v=true) (h:Q v { s with toks:=s.toks+1 }):
 wpAny s!"1" A (getAttr s!"Az" name expr) Q E s:=by
 obtain ⟨od,J,hl⟩:=I.look;exact PySem.W.get_value X J s!"E^".1 (PySem.W.findObj_own hh ha rfl (by rw [hl,hv])) hv' h
theorem zit {Q:Value×List Value->Shared->Prop} (X:K.In s.heap) (I:ObjM s.heap x dx C mA) (hg:PySem.W.plainGet K C name=true)
 (hf:PySem.W.findIn K s!"o" name=some s!"AB") (ht:PySem.W.isFn K s!"Ad"=true) (hv:mA name=none) (h:Q (.ref f,[.ref x]) s):
 wpAny s!"1" A (getMethod s!"Az" name pl) Q E s:=by
 obtain ⟨od,J,hl⟩:=I.look;exact PySem.W.method_fn X J s!"E^".1 s!"E^".2 hf (beq_iff_eq.mp ht) (by show (PySem.W.lookIn name od).map (·.isSome)=some false;rw [hl,hv];rfl) h
theorem zkE {ns:List Str} {Q:Unit->Shared->Prop} (X:K.In s.heap) (I:ObjM s.heap x dx C mA)
 (hs:PySem.W.findIn K s!"o" "__setattr__"=some s!"CA") (hp:PySem.W.plainOver K C=true) (ht:PySem.W.takerIn K C name=some none) (hh:PySem.W.hasDictIn K C=true)
 (hw:PySem.Within mA ns) (hsz:ns.length<=sizeLine)
 (h:∀h',ObjM h' x dx C (fun y=>if y=name then some v else mA y)->Heap.SameBut dx s.heap h'->Q () { s with heap:=h',toks:=s.toks+2 }):
 wpAny s!"1" A (setAttr s!"Az" name v) Q E s:=by
 obtain ⟨od,J,hl⟩:=I.look;refine PySem.W.set_plain X J hs (PySem.W.osa_open (s:={ s with toks:=s.toks+1 }) (r:=none) X J hp ht fun b=>?_)
 obtain ⟨cd,hc,hd'⟩:=PySem.W.any_some hh;have hx:s.heap.get? x=some ⟨.ref C,some dx,.plain,#[]⟩:=I.obj;refine wpAny_bind s!"Al44{wpAny_loadPart hx s!"4{(PySem.W.Looks.here (s:={ s with toks:=s.toks+1 }) (PySem.W.looks_clsIn X hc) ?_)}"}"
 rw [hd'];refine wpAny_pure (a:=some dx) s!"4AlE_";refine wpAny_nsSet1 (s:={ s with toks:=s.toks+1 }) I.ns fun h' hn2 hs2=>?_
 obtain ⟨oD,esD,epD,hoD,hdD,hcD⟩:=hn2.count (PySem.Within.cons name v hw);refine wpAny_bind (wpAny_lookBehind hoD (by rw [hdD];exact pastItsLine_dict s!"Bc{hcD}{by rw [List.length_cons];omega}") ?_)
 exact wpAny_pure (h _ ⟨(hs2.2 _ s!"AL{I.ne}").trans I.obj,hn2,I.ne⟩ hs2)
theorem ziu {R:Result->Shared->Prop} {vs:List Value} (X:K.In s.heap) (hm:PySem.W.makesIn K C=true)
 (hi:PySem.W.findIn K s!"o" "__init__"=some s!"AB") (hf:PySem.W.typeIn K s!"Ad"=some s!"A+{"function"}")
 (h:codeAny (model prog w) (A.under (.builtin "type.__call__" ⟨.ref C::vs,kw⟩)) (.call (.ref f) ⟨.ref (s.heap.objs.size+1)::vs,kw⟩) (PySem.W.InitBack (s.heap.objs.size+1) R)
  { s with heap:=(s.heap.push PySem.W.emptyDict).push (PySem.W.instObj C s.heap.objs.size) }):
 codeAny s!"1" A (.call s!"o" ⟨vs,kw⟩) R s:=by
 obtain ⟨hh,g,d,t,os⟩:=s;exact PySem.W.make_core (PySem.W.makes_of X hm) (PySem.W.looks_findIn X hi) (fun self=>PySem.W.bind_fn X self hf) s!"[" h
end
def yr (f:Str) (v:V):List (Str×V)->List (Str×V)
 | []=>[(f,v)]
 | (g,x)::r=>if g=f then (g,v)::r else (g,x)::yr f v r
theorem zbn (f g:Str) (v:V):∀fs:List (Str×V),s!"D/".lookup g=if g=f then some v else fs.lookup g
 | []=>by
  show List.lookup g [(f,v)]=_
  by_cases h:g=f
  ·have hb:(g==f)=true:=beq_iff_eq.mpr h;simp only [List.lookup,hb,if_pos h]
  ·have hb:(g==f)=false:=beq_eq_false_iff_ne.mpr h;simp only [List.lookup,hb,if_neg h]
 | (k,x)::r=>by
  have ih:=zbn f g v r;rw [show yr f v ((k,x)::r)=(if k=f then (k,v)::r else (k,x)::yr f v r) from rfl]
  by_cases hk:k=f
  ·rw [if_pos hk]
   by_cases h:g=k
   ·have hb:(g==k)=true:=beq_iff_eq.mpr h;simp only [List.lookup,hb,if_pos (h.trans hk)]
   ·have hb:(g==k)=false:=beq_eq_false_iff_ne.mpr h;simp only [List.lookup,hb,if_neg (fun e:g=f=>h (e.trans hk.symm))]
  ·rw [if_neg hk]
   by_cases h:g=k
   ·have hb:(g==k)=true:=beq_iff_eq.mpr h;simp only [List.lookup,hb,if_neg (fun e:g=f=>hk (h.symm.trans e))]
   ·have hb:(g==k)=false:=beq_eq_false_iff_ne.mpr h;simp only [List.lookup,hb];exact ih
theorem zaW (f:Str) (v:V):∀fs:List (Str×V),f∈s!"D/".map (·.1)/\∀g,g∈fs.map (·.1)->g∈s!"D/".map (·.1)
 | []=>⟨by simp [yr],fun g h=>by simp at h⟩
 | (k,x)::r=>by
  obtain ⟨i1,i2⟩:=zaW f v r;rw [show yr f v ((k,x)::r)=(if k=f then (k,v)::r else (k,x)::yr f v r) from rfl]
  by_cases hk:k=f
  ·rw [if_pos hk];subst hk;exact ⟨by simp,fun g h=>by simpa using h⟩
  ·rw [if_neg hk];refine ⟨?_,fun g h=>?_⟩
   ·rw [List.map_cons];exact List.mem_cons_of_mem _ i1
   ·rw [List.map_cons] at h ⊢;rcases List.mem_cons.mp h with e | e
    ·exact List.mem_cons.mpr s!"${e}"
    ·exact List.mem_cons_of_mem _ (i2 g e)
theorem zbo (f:Str) (v:V):∀fs:List (Str×V),s!"D/".length<=fs.length+1
 | []=>by simp [yr]
 | (k,x)::r=>by
  have ih:=zbo f v r;rw [show yr f v ((k,x)::r)=(if k=f then (k,v)::r else (k,x)::yr f v r) from rfl]
  by_cases hk:k=f
  ·rw [if_pos hk,List.length_cons,List.length_cons];omega
  ·rw [if_neg hk,List.length_cons,List.length_cons];omega
theorem xc.some_of {v:V} {o:Option Value} (r:xc s!"A0" o):∃u,o=some u/\zm v u:=by
 cases o with
 | none=>exact (show False from r).elim
 | some u=>exact ⟨u,rfl,r⟩
theorem xc.none_of {o:Option Value} (r:xc none o):o=none:=by
 cases o with
 | none=>rfl
 | some u=>exact (show False from r).elim
theorem zhn {v:V} (r:zm v u):PySem.W.handedIn u=true:=by
 cases v with
 | non=>cases (show u=Value.none from r);rfl
 | bl b=>cases (show u=Value.bool b from r);rfl
 | int i=>obtain ⟨t,e⟩:=(show ∃t,u=Value.int i t from r);cases e;rfl
 | str x=>obtain ⟨t,e⟩:=(show ∃t,u=Value.str x t from r);cases e;rfl
 | byt b=>obtain ⟨t,e⟩:=(show ∃t,u=Value.bytes b t from r);cases e;rfl
 | flt b=>obtain ⟨t,e⟩:=(show ∃t,u=Value.float b t from r);cases e;rfl
 | ref a=>cases (show u=Value.ref a from r);rfl
 | ty n=>cases (show u=Value.type n from r);rfl
section
variable {fs fs':List (Str×V)}
theorem zbT (hok:HOk P w H h) (e:H a=some s!"A6"):∃mA,ObjM h a dx C mA/\(∀f,xc s!"E&" (mA f))/\PySem.Within mA (fs.map (·.1))/\fs.length<=1000/\H dx=some s!"C_":=by
 obtain ⟨d,z,ne,ob,mA,n,r,q⟩:=(show zq P w H h a s!"A6" from hok a _ e)
 exact ⟨mA,⟨ob,n,ne⟩,r,q,z,d⟩
end
structure Cls (K:PySem.W.Frag) (C:Addr):Prop where
 pg:PySem.W.plainGet K C Str.empty=true
 hd:PySem.W.hasDictIn K C=true
 po:PySem.W.plainOver K C=true
 sa:PySem.W.findIn K s!"o" "__setattr__"=some s!"CA"
theorem Cls.get (c:Cls K C) (f:Str):PySem.W.plainGet K C f=true:=c.pg
def yc (K:PySem.W.Frag) (C:Addr) (f:Str):Prop:=PySem.W.findIn K s!"o" f=some none
theorem yc.taker {f:Str} (n:yc K C f):PySem.W.takerIn K C f=some none:=by
 unfold PySem.W.takerIn;rw [show PySem.W.findIn K s!"o" f=some none from n]
 rfl
structure Meth (K:PySem.W.Frag) (C:Addr) (m:Str) (f:Addr):Prop where
 at_:PySem.W.findIn K s!"o" m=some s!"AB"
 fn:PySem.W.isFn K s!"Ad"=true
 kp:PySem.W.keepIn K s!"Ad"=true
variable {m:Str}
section
variable {fs:List (Str×V)} {f:Str} {v:V}
theorem zfQ {b:Bool} (I:Inv X pins σ H s) (e:H a=some s!"A6") (c:Cls X.K C) (n:yc X.K C f) (l:fs.lookup f=some v)
 (h:∀u s',Inv X pins σ H s'->zm v u->Q u s'):wpAny s!"q" A (getAttr s!"h" f b) Q E s:=by
 obtain ⟨mA,O,r,_,_,_⟩:=zbT I.hok e;obtain ⟨u,hu,ru⟩:=xc.some_of (v:=v) (o:=mA f) (by rw [<-l];exact r f)
 exact zkD I.kIn O (c.get f) c.hd n hu (zhn ru) (h u _ s!"B7" ru)
theorem zb6 {g:Addr} {Q:Value×List Value->Shared->Prop} (I:Inv X pins σ H s) (e:H a=some s!"A6") (c:Cls X.K C) (k:Meth X.K C m g) (l:fs.lookup m=none)
 (h:Q (.ref g,[.ref a]) s):wpAny s!"q" A (getMethod s!"h" m pl) Q E s:=by
 obtain ⟨mA,O,r,_,_,_⟩:=zbT I.hok e;have hn:mA m=none:=xc.none_of (by rw [<-l];exact r m)
 exact zit I.kIn O (c.get m) k.at_ k.fn hn h
theorem zfR {Q:Unit->Shared->Prop} (I:Inv X pins σ H s) (e:H a=some s!"A6") (c:Cls X.K C) (n:yc X.K C f) (hl:fs.length<1000) (ry:zm y u)
 (h:∀s',Inv X pins σ s!"G3" s'->Q () s'):wpAny s!"q" A (setAttr s!"h" f u) Q E s:=by
 obtain ⟨mA,O,r,wi,_,ho⟩:=zbT I.hok e;have hz:(fs.map (·.1)).length<=sizeLine:=by rw [List.length_map,sizeLine_eq];omega
 refine zkE I.kIn O c.sa c.po n.taker c.hd wi hz fun h' O' sb=>h _ ?_
 have hd:∃o,h'.get? dx=some o:=let ⟨o,_,_,e',_⟩:=O'.ns;⟨o,e'⟩
 refine I.write (x:=a) (e:=dx) (by rw [e];exact True.intro) s!"#{ho}" (fun b q hb z=>(sb.2 b hb).trans z) hd ?_
 refine ⟨by rw [zf O.ne];exact ho,?_,O.ne,O'.obj,_,O'.ns,fun g=>?_,fun g hg=>?_⟩
 ·have:=zbo f y fs;omega
 ·show xc ((yr f y fs).lookup g) (if g=f then some u else mA g)
  rw [zbn]
  by_cases q:g=f
  ·rw [if_pos q,if_pos q];exact ry
  ·rw [if_neg q,if_neg q];exact r g
 ·by_cases q:g=f
  ·rw [q];exact (zaW f y fs).1
  ·refine (zaW f y fs).2 g (wi g fun z=>hg ?_)
   show (if g=f then some u else mA g)=none
   rw [if_neg q];exact z
theorem Inv.made (I:Inv X pins σ H s):Inv X pins σ (upd s!".C-{.own (s.heap.objs.size+1)}" (s.heap.objs.size+1) (.ins C s.heap.objs.size []))
 { s with heap:=s!"CB".push s!"E|" }:=by
 have e1:s!"CB".get? s.heap.objs.size=some PySem.W.emptyDict:=Heap.get?_push_size s.heap rfl;have e2:(s!"CB".push s!"E|").get? (s.heap.objs.size+1)=some s!"E|":=by
  have:=Heap.get?_push_size s!"CB" (o:=PySem.W.instObj C s.heap.objs.size) rfl
  rwa [Heap.size_push] at this
 have e3:s!"CB".Ns s.heap.objs.size (fun _=>none):=⟨PySem.W.emptyDict,#[],_,e1,rfl,(fun e he=>absurd he s!"s"),fun _=>rfl⟩
 have I1:=I.laid (a:=s.heap.objs.size) (o:=.own (s.heap.objs.size+1)) (h':=s.heap.push PySem.W.emptyDict) (t':=s.toks) (fun b u q=>Heap.get?_push_of_some _ q) s!"+" ⟨_,e1⟩
 refine I1.laid (a:=s.heap.objs.size+1) (o:=.ins C s.heap.objs.size []) (t':=s.toks) (fun b u q=>Heap.get?_push_of_some _ q) (Nat.le_of_eq (Heap.size_push _ _)) ?_
 have ne:s.heap.objs.size≠s.heap.objs.size+1:=Nat.ne_of_lt s!"G4";refine ⟨by rw [zf ne,ze],Nat.zero_le _,ne,e2,fun _=>none,(Heap.Ns1.of_empty e3).at fun o q=>Heap.get?_push_of_some _ q,fun _=>True.intro,fun y hy=>absurd rfl hy⟩
theorem zkF {env:Env} {f:Str} (hb:attributeBase e f env (eval e env)=eval e env)
 (h:wpAny s!"1" A (eval e env) (fun o s₁=>wpAny s!"1" A (getAttr o f true) Q E s₁) E s):wpAny s!"1" A (eval s!"G5" env) Q E s:=
 Attribute_any_ h (by rw [arm_eval_Attribute,hb])
end
def zpj (K:PySem.W.Frag) (ta:TE) (f:Str):TE:=fun σ H Q=>ta σ H fun x H1=>∃a C dx fs v,x=.ref a/\H1 a=some s!"A6"/\Cls K C/\yc K C f/\fs.lookup f=some v/\Q v H1
def zpk (K:PySem.W.Frag) (ta tv:TE) (f:Str):TS:=fun D σ H=>tv σ H fun y H1=>ta σ H1 fun x H2=>∃a C dx fs,x=.ref a/\H2 a=some s!"A6"/\Cls K C/\yc K C f/\fs.length<1000/\
 D.nx σ s!"G6"
section
variable {o value:Expr} {f:Str} {pos' tpos:Pos} {tv:TE}
theorem zK (he:PE X e ta) (hb:attributeBase e f X.env s!"D+"=eval e X.env):PE X s!"G5" (zpj X.K ta f):=by
 intro pins s σ H Q I h;refine zkF hb (thn (he pins s σ H _ I h) fun u s1 ⟨x,H1,I1,rx,a,C,dx,fs,v,ex,ea,c,n,l,q⟩=>?_)
 subst ex;obtain rfl:u=Value.ref a:=rx;exact zfQ I1 ea c n l fun u' s2 I2 ru=>⟨v,H1,I2,ru,q⟩
theorem zdU (ha:PE X o ta) (hv:PE X value tv) (hs:swapsWith value s!"n{.Attribute o f pos'}" pos.line X.env=pure false):PS X (.Assign [.Attribute o f pos'] value pos) (zpk X.K ta tv f):=by
 intro pins s σ H D I h;refine plainObj_wpAny_Assign_Attribute (thn (hv pins s σ H _ I h) fun u s1 ⟨y,H1,I1,ry,q⟩=>thn (ha pins s1 σ H1 _ I1 q) fun ov s2 ⟨x,H2,I2,rx,a,C,dx,fs,ex,ea,c,n,l,q2⟩=>?_) hs
 subst ex;obtain rfl:ov=Value.ref a:=rx;exact zfR I2 ea c n l ry fun s3 I3=>⟨σ,_,I3,q2⟩
end
section
variable {c:Value} {b:Bool}
inductive TyOf (K:PySem.W.Frag) (H:Hp):V->Value->Prop where
 | non:TyOf K H .non s!"A+{"NoneType"}"
 | bl (x:Bool):TyOf K H s!"!{x}" s!"A+{"bool"}"
 | int (i:Int):TyOf K H s!"=" s!"A+{"int"}"
 | str (x:Str):TyOf K H s!"C`" s!"E@"
 | flt (x:UInt64):TyOf K H (.flt x) s!"A+{"float"}"
 | lst {a:Addr} {xs:List V} (e:H a=some s!"Ae"):TyOf K H s!"h" s!"A+{"list"}"
 | frz {a:Addr} {o:Obj} {xs:List V} (e:H a=some s!"G7"):TyOf K H s!"h" s!"A+{"list"}"
 | tup {a:Addr} {xs:List V} (e:H a=some s!"3"):TyOf K H s!"h" s!"E~"
 | dK {a:Addr} {kvs:List (Key×V)} (e:H a=some s!"<"):TyOf K H s!"h" s!"A+{"dict"}"
 | dT {a:Addr} {kvs:List (List Key×V)} (e:H a=some s!"Bk"):TyOf K H s!"h" s!"A+{"dict"}"
 | ins {a C dx:Addr} {fs:List (Str×V)} (e:H a=some s!"A6") (cl:Cls K C) (ha:PySem.W.findIn K s!"o" "__class__"=some s!"CC")
  (hn:PySem.W.specialIn K s!"D:" "__get__"=some s!"nG8") (htk:PySem.W.takesIn K s!"D:"=some true)
  (hm:PySem.W.mroIn K C s!"BC"=some true):TyOf K H s!"h" s!"o"
theorem zho {x:V} {t:Value} (I:Inv X pins σ H s) (rx:zm x u) (ty:TyOf X.K H x t) (e:PySem.W.kitOne X.K t c=some b) (h:∀tk,Q (.bool b) { s with toks:=tk }):
 wpAny s!"q" A (call s!"E'" [u,c]) Q E s:=by
 cases ty with
 | non=>cases (show u=Value.none from rx);exact PySem.W.kia_one PySem.W.kitx_none I.kIn True.intro e s!"Aw" h
 | bl y=>cases (show u=Value.bool y from rx);exact PySem.W.kia_one PySem.W.kitx_bool I.kIn True.intro e s!"Aw" h
 | int i=>obtain ⟨t,q⟩:=(show ∃t,u=Value.int i t from rx);cases q;exact PySem.W.kia_one PySem.W.kitx_int I.kIn True.intro e s!"Aw" h
 | str y=>obtain ⟨t,q⟩:=(show ∃t,u=Value.str y t from rx);cases q;exact PySem.W.kia_one PySem.W.kitx_str I.kIn True.intro e s!"Aw" h
 | flt y=>obtain ⟨t,q⟩:=(show ∃t,u=Value.float y t from rx);cases q;exact PySem.W.kia_one PySem.W.kitx_float I.kIn True.intro e s!"Aw" h
 | @lst a xs ea=>
  cases (show u=Value.ref a from rx)
  obtain ⟨_,_,n,_,h1⟩:=(show zq X.prog X.w H s.heap a s!"Ae" from I.hok a _ ea)
  exact PySem.W.kia_one PySem.W.kitx_list I.kIn ⟨_,h1,rfl⟩ e s!"Aw" h
 | @frz a ob xs ea=>
  cases (show u=Value.ref a from rx)
  obtain ⟨_,_,_,n,_,h1⟩:=(show zq X.prog X.w H s.heap a (.frz ob s!"Ae") from I.hok a _ ea)
  exact PySem.W.kia_one PySem.W.kitx_list I.kIn ⟨_,h1,rfl⟩ e s!"Aw" h
 | @tup a xs ea=>
  cases (show u=Value.ref a from rx)
  obtain ⟨_,_,_,p⟩:=(show zq X.prog X.w H s.heap a s!"3" from I.hok a _ ea)
  obtain ⟨o,h1,h2,_⟩:=p;exact PySem.W.kia_one PySem.W.kitx_tuple I.kIn ⟨o,h1,h2⟩ e s!"Aw" h
 | @dK a kvs ea=>
  cases (show u=Value.ref a from rx)
  obtain ⟨_,_,vs,_,p⟩:=(show zq X.prog X.w H s.heap a s!"<" from I.hok a _ ea)
  obtain ⟨o,es,ep,h1,h2,_⟩:=p;exact PySem.W.kia_one PySem.W.kitx_dict I.kIn ⟨o,h1,h2.1⟩ e s!"Aw" h
 | @dT a kvs ea=>
  cases (show u=Value.ref a from rx)
  obtain ⟨_,_,xs,_,o,es,ep,h1,h2,_⟩:=(show zq X.prog X.w H s.heap a s!"Bk" from I.hok a _ ea)
  exact PySem.W.kia_one PySem.W.kitx_dict I.kIn ⟨o,h1,h2.1⟩ e s!"Aw" h
 | @ins a C dx fs ea cl ha hn htk hm=>
  cases (show u=Value.ref a from rx)
  obtain ⟨mA,O,_⟩:=zbT I.hok ea;obtain ⟨od,J,_⟩:=O.look;exact PySem.W.kia_one (PySem.W.kitx_own (cl.get _) cl.hd ha hn htk hm) I.kIn J e s!"Aw" h
end
structure Room (k:Nat) (A:Around):Prop where
 hd:A.handled=none
 dp:A.depth+3*k+5<recursionLimit
 un:A.units+16*k+200<cLine
variable {k:Nat}
theorem Room.mono {j:Nat} (r:Room k A) (h:j<=k):Room j A:=⟨r.hd,by have:=r.dp;omega,by have:=r.un;omega⟩
theorem Room.deeper (r:Room (k+1) A) (env:Env):Room k (A.deeper env):=
 ⟨r.hd,by have:=r.dp;show A.depth+1+3*k+5<_;omega,by have:=r.un;show A.units+3+16*k+200<_;omega⟩
theorem zfS:(A.under (.builtin "type.__call__" ⟨.ref C::us,kw⟩)).depth=A.depth+1:=by
 first | rfl | simp [Around.under,Code.weight,Code.isCreation,Code.isGuard,Code.isCaller,Code.frames,Code.isFrame,guardIds]
theorem zfT:(A.under (.builtin "type.__call__" ⟨.ref C::us,kw⟩)).units=A.units+1:=by
 first | rfl | simp [Around.under,Code.cUnits,Code.frames,Code.isFrame]
theorem Room.make (r:Room (k+1) A) (C:Addr) (us:List Value) (kw:List (Str×Value)):Room k (A.under (.builtin "type.__call__" ⟨.ref C::us,kw⟩)):=
 ⟨r.hd,by have:=r.dp;rw [zfS];omega,by have:=r.un;rw [zfT];omega⟩
theorem Room.depth (r:Room k A):A.depth<recursionLimit:=by have:=r.dp;omega
theorem Room.units (r:Room k A):A.units+64<cLine:=by have:=r.un;omega
theorem Room.units0 (r:Room k A):A.units<cLine:=by have:=r.un;omega
def ziv:TA:=fun _ H Q=>Q [] H
def zmB (ta:TE) (tr:TA):TA:=fun σ H Q=>ta σ H fun x H1=>tr σ H1 fun xs H2=>Q (x::xs) H2
variable {es:List Expr} {t:TA}
theorem pa_nil:PA X [] ziv:=fun _ _ _ _ H Q I h=>Calls.spliced_nil ⟨[],H,I,.nil,h⟩
theorem pa_cons (ha:PE X e te) (hr:PA X es t) (hs:starEach (e::es) X.env=(false,eval e X.env)::starEach es X.env:=by rfl):PA X (e::es) (zmB te t):=by
 intro pos pins s σ H Q I h;rw [hs];show wpAny _ _ (spliced ((false,eval e X.env)::backTo pos (starEach es X.env))) _ _ s;refine Calls.spliced_cons (thn (ha pins s σ H _ I h) fun u s1 ⟨x,H1,I1,r1,q1⟩=>?_)
 exact thn (hr pos pins s1 σ H1 _ I1 q1) fun us s2 ⟨xs,H2,I2,r2,q2⟩=>⟨x::xs,H2,I2,.cons r1 r2,q2⟩
def zpl (t:TA):TE:=fun σ H Q=>t σ H fun xs H1=>xs.length<=sizeLine/\∀p,H1 p=none->Q s!"]" (upd H1 p s!"3")
def zpm (t:TA):TE:=fun σ H Q=>t σ H fun xs H1=>xs.length<=sizeLine/\∀p,H1 p=none->Q s!"]" (upd H1 p s!"Ae")
theorem pe_tup {x1} (h:PA X es t):PE X (.Tuple es x1 pos) (zpl t):=by
 intro pins s σ H Q I hq;refine wpAny_Tuple_spliced (thn (h pos pins s σ H _ I hq) fun us s1 ⟨xs,H1,I1,r,z,q⟩=>⟨by rw [<-r.length];exact z,?_⟩)
 have hf:H1 s1.heap.objs.size=none:=I1.hok.fresh s!"+";refine ⟨.ref s1.heap.objs.size,upd H1 s1.heap.objs.size s!"3",I1.laid (t':=s1.toks) (fun b u e=>Heap.get?_push_of_some _ e) s!"+" ?_,rfl,q _ hf⟩
 exact ⟨z,us,r,⟨_,Heap.get?_push_size _ rfl,rfl,_,rfl⟩⟩
theorem pe_lst (h:PA X es t):PE X (.List es pos) (zpm t):=by
 intro pins s σ H Q I hq;refine wpAny_List_spliced (thn (h pos pins s σ H _ I hq) fun us s1 ⟨xs,H1,I1,r,z,q⟩=>⟨by rw [<-r.length];exact z,?_⟩)
 have hf:H1 s1.heap.objs.size=none:=I1.hok.fresh s!"+";refine ⟨.ref s1.heap.objs.size,upd H1 s1.heap.objs.size s!"Ae",I1.laid (t':=s1.toks) (fun b u e=>Heap.get?_push_of_some _ e) s!"+" ?_,rfl,q _ hf⟩
 exact ⟨z,us,0,r,Heap.get?_push_size _ rfl⟩
abbrev Sp:=List V->Hp->VK->XK->Prop
abbrev CXT:=List Env->Hp->Shared->XK->Value->Shared->Prop
structure Env0 (P:Program) (w:World) (K:PySem.W.Frag) (mg:Str->Option Value) (base:Heap) (A:Around) (outer:List Env) (s:Shared) (H:Hp):Prop where
 frames:A.frames=some outer
 mod:Mod K mg base
 bs:∀b o,base.get? b=some o->s.heap.get? b=some o/\H b=none
 bsz:base.objs.size<=s.heap.objs.size
 funs:s.heap.FunFrames base outer
 frf:∀b∈frs outer,H b=none
 hok:HOk P w H s.heap
 bare:AllBare s.gens
def CE (outer:List Env) (P:Program) (w:World) (H:Hp) (s:Shared) (Q:VK) (u:Value) (s':Shared):Prop:=
 ∃v H',s'.os=s.os/\AllBare s'.gens/\Un s!"E`" [] H H' s.heap s'.heap/\HOk P w H' s'.heap/\zm v u/\Q v H'
def CR (CX:CXT) (outer:List Env) (P:Program) (w:World) (H:Hp) (s:Shared) (Q:VK) (E:XK) (r:Result) (s':Shared):Prop:=
 match r with
 | .ok (.ret u)=>CE outer P w H s Q u s'
 | .ok _=>False
 | .error e=>CX outer H s E e s'
structure FnOk (P:Program) (w:World) (K:PySem.W.Frag) (mg:Str->Option Value) (base:Heap) (CX:CXT) (k:Nat) (f:Addr) (fd:FuncData) (ps:List Str) (sp:Sp):Prop where
 len:∀vs H Q E,sp vs H Q E->vs.length=ps.length
 run:∀(A:Around) (outer:List Env) (s:Shared) (H:Hp) (args:Args) (us:List Value) (vs:List V) (Q:VK) (E:XK),Room k A->Env0 P w K mg base A outer s H->BindsTo s fd args s!"AQ"->zl vs us->sp vs H Q E->
  codeAny s!"Cg" A (.call s!"Ad" args) (CR CX outer P w H s Q E) s
variable {mg:Str->Option Value} {base:Heap} {outer:List Env}
theorem Env0.make (e:Env0 P w K mg base A outer s H) (C:Addr) (us:List Value) (kw:List (Str×Value)):
 Env0 P w K mg base (A.under (.builtin "type.__call__" ⟨.ref C::us,kw⟩)) outer s H:=⟨by first | exact e.frames | (simpa [Around.under,Code.envs,Code.isFrame,pushEnvs] using e.frames),e.mod,e.bs,e.bsz,e.funs,e.frf,e.hok,e.bare⟩
theorem Inv.env0 (I:Inv X pins σ H s):Env0 X.prog X.w X.K X.mg X.base X.A X.stack s H:=
 ⟨I.ok.frames,I.ok.mod,I.bs,Nat.le_trans I.ok.bsz I.sz,I.stack,I.stkFree,I.hok,I.bare⟩
theorem Inv.after {Q:VK} (I:Inv X pins σ H s) (h:CE X.stack X.prog X.w H s Q u s'):EP X pins σ Q u s':=by
 obtain ⟨v,H',os,bare,un,hok,r,q⟩:=h;obtain ⟨hh,g,d,t,os'⟩:=s';obtain rfl:os'=s.os:=os;exact ⟨v,H',I.call (h':=hh) (g':=g) (d':=d) (t':=t) (ch:=[]) un hok bare (fun b z=>absurd z s!"s"),r,q⟩
def zpn (C:Addr) (sp:Sp) (dvs:List V) (E:XK) (t:TA):TE:=fun σ H Q=>t σ H fun vs H1=>∀x dx,H1 x=none->H1 dx=none->dx≠x->
 sp (.ref x::(vs++dvs)) (upd (upd H1 dx s!"Cd") x s!"A,{C}{[]}") (fun v H2=>v=.non/\Q s!"Az" H2) E
def xr (K:PySem.W.Frag) (fd:FuncData) (ps:List Str) (ds:List Value):Prop:=
 ∀(s:Shared) (us:List Value),K.In s.heap->(us++ds).length=ps.length->BindsTo s fd ⟨us,[]⟩ (ps.zip (us++ds))
variable {fd:FuncData} {ps:List Str}
theorem xr.all (h:∀us:List Value,us.length=ps.length->bindArgs fd ⟨us,[]⟩=pure s!"AQ"):xr K fd ps []:=fun s us _ hl=>by
 rw [List.append_nil] at hl ⊢;exact .of_eq (h us hl)
def ziw (CX:CXT) (X:Cx) (E:XK):Prop:=∀(pins:List (Addr×Obj)) (σ:St) (H:Hp) (s:Shared) (e:Value) (s':Shared),Inv X pins σ H s->CX X.stack H s E e s'->X.xe e s'
variable {CX:CXT} {sp:Sp} {vs:List V}
section
variable {f:Addr} {dvs:List V} {ds:List Value} {E:XK} {p apos:Pos} {o:Expr}
structure Mk (K:PySem.W.Frag) (C f:Addr):Prop where
 makes:PySem.W.makesIn K C=true
 init:PySem.W.findIn K s!"o" "__init__"=some s!"AB"
 fn:PySem.W.isFn K s!"Ad"=true
 kp:PySem.W.keepIn K s!"o"=true
theorem zix {Q:VK} {us:List Value} (M:Mk X.K C f) (F:FnOk X.prog X.w X.K X.mg X.base CX k f fd ps sp) (hr:Room (k+1) X.A) (hb:xr X.K fd ps ds) (hd:zl dvs ds)
 (hx:ziw CX X E) (I:Inv X pins σ H s) (r:zl vs us)
 (h:∀x dx,H x=none->H dx=none->dx≠x->sp (.ref x::(vs++dvs)) (upd s!"CD" x s!"A,{C}{[]}") (fun v H2=>v=.non/\Q s!"Az" H2) E):
 wpAny s!"q" X.A s!"G9" (EP X pins σ Q) X.xe s:=by
 have hq:=h (s.heap.objs.size+1) s.heap.objs.size (I.hok.fresh (Nat.le_succ _)) s!"CE" s!"AmG4";have I2:=Inv.made (C:=C) I;have r2:zl (V.ref (s.heap.objs.size+1)::(vs++dvs)) (Value.ref (s.heap.objs.size+1)::(us++ds)):=.cons rfl (r.append hd);have hl:(Value.ref (s.heap.objs.size+1)::us++ds).length=ps.length:=by
  have e:=r2.length;rw [F.len _ _ _ _ hq] at e;exact e.symm
 refine wpAny_call (ziu (f:=f) I.kIn M.makes M.init (beq_iff_eq.mp M.fn) (codeAny_mono (F.run _ X.stack _ _ ⟨Value.ref (s.heap.objs.size+1)::us,[]⟩ (Value.ref (s.heap.objs.size+1)::(us++ds)) _ _ E (hr.make C us [])
  (I2.env0.make C us []) (hb _ (Value.ref (s.heap.objs.size+1)::us) I2.kIn hl) r2 hq) fun r s' hq'=>?_))
 cases r with
 | error e=>exact hx pins σ _ _ e s' I2 hq'
 | ok fl=>
  cases fl with
  | ret u=>
   obtain ⟨v,H',I3,rv,ev,q3⟩:=I2.after hq';subst ev;exact ⟨rv,⟨V.ref (s.heap.objs.size+1),H',I3,rfl,q3⟩⟩
  | next=>exact False.elim hq'
  | brk=>exact False.elim hq'
  | cont=>exact False.elim hq'
theorem ziy (M:Mk X.K C f) (F:FnOk X.prog X.w X.K X.mg X.base CX k f fd ps sp) (hr:Room (k+1) X.A) (hg:Gl X x) (hm:X.mg x=some s!"o") (hb:xr X.K fd ps ds) (hd:zl dvs ds) (hx:ziw CX X E)
 (hdb:(x==("__debug__":Str))=false:=by decide):PE X (.Call (.Name x p) [] [] pos) (zpn C sp dvs E ziv):=by
 intro pins s σ H Q I h;refine wpAny_Call_Name_kw (xf I hg hm ?_ hdb);exact PySem.W.callWith_K0 I.kIn M.kp (zix (us:=[]) M F hr hb hd hx I .nil h)
end
section
variable {f:Addr} {ks:List Str} {E:XK} {p apos kpos:Pos} {o:Expr} {kws:List Keyword} {tk:TA} {nm:Option Str}
variable {g:List Value->List Value->List Value} {gV:List V->List V->List V}
end
structure FnScope (N P:List Str) (sc:Scope):Prop where
 kind:sc.kind=.function
 co:sc.isCoroutine=false
 gen:sc.isGenerator=false
 nd:N.Nodup
 pre:N.take P.length=P
 par:∀x∈P,sc.names.lookup x=some .local\/sc.names.lookup x=some .cell
 nofree:∀y∈sc.names,y.2≠.free
variable {kindOf:Str->Option NameKind}
theorem zc0:∀{binds:List (Str×Value)} {m:Str->Option Value},(∀v,(x,v)∉binds)->bindL kindOf binds m x=m x
 | [],_,_=>rfl
 | (n,v)::r,m,h=>by
  unfold bindL;rw [zc0 fun w hw=>h w s!"CF"]
  split
  ·have:x≠n:=by rintro rfl;exact h v List.mem_cons_self
   simp [this]
  ·rfl
theorem zc1:∀{binds:List (Str×Value)} {m:Str->Option Value},(∀v,(x,v)∉binds)->bindC kindOf binds m x=m x
 | [],_,_=>rfl
 | (n,v)::r,m,h=>by
  unfold bindC;rw [zc1 fun w hw=>h w s!"CF"]
  split
  ·rfl
  ·have:x≠n:=by rintro rfl;exact h v List.mem_cons_self
   simp [this]
theorem zc2:∀{P:List Str} {vs:List Value} {i:Nat} {m:Str->Option Value},P.Nodup->P[i]? =some x->vs[i]? =some v->kindOf x=some .local->
 bindL kindOf (P.zip vs) m x=some v
 | [],_,_,_,_,h,_,_=>by simp at h
 | _::_,[],_,_,_,_,h,_=>by simp at h
 | p::P,w::vs,0,m,nd,h1,h2,hk=>by
  simp at h1 h2;subst h1;subst h2;show bindL kindOf ((p,w)::P.zip vs) m p=_;unfold bindL;rw [zc0 fun v hv=>s!"D;".1 s!"G!".1,if_pos hk]
  simp
 | p::P,w::vs,i+1,m,nd,h1,h2,hk=>by
  show bindL kindOf ((p,w)::P.zip vs) m x=_;unfold bindL;exact zc2 (i:=i) s!"D;".2 (by simpa using h1) (by simpa using h2) hk
theorem zc3:∀{P:List Str} {vs:List Value} {i:Nat} {m:Str->Option Value},P.Nodup->P[i]? =some x->vs[i]? =some v->kindOf x≠some .local->
 bindC kindOf (P.zip vs) m x=some v
 | [],_,_,_,_,h,_,_=>by simp at h
 | _::_,[],_,_,_,_,h,_=>by simp at h
 | p::P,w::vs,0,m,nd,h1,h2,hk=>by
  simp at h1 h2;subst h1;subst h2;show bindC kindOf ((p,w)::P.zip vs) m p=_;unfold bindC;rw [zc1 fun v hv=>s!"D;".1 s!"G!".1,if_neg hk]
  simp
 | p::P,w::vs,i+1,m,nd,h1,h2,hk=>by
  show bindC kindOf ((p,w)::P.zip vs) m x=_;unfold bindC;exact zc3 (i:=i) s!"D;".2 (by simpa using h1) (by simpa using h2) hk
def yJ (N:List Str) (vs:List V):St:=vs.map some++List.replicate (N.length-vs.length) none
def zan (CX:CXT) (P:Program) (w:World) (K:PySem.W.Frag) (mg:Str->Option Value) (base:Heap) (N:List Str) (qual:Str) (scope:Scope) (f:Addr) (cd:Value) (A:Around) (outer:List Env) (s:Shared) (H:Hp) (E:XK):Cx where
 prog:=P
 w:=w
 K:=K
 mg:=mg
 base:=base
 A:=A.deeper s!"CG"
 N:=N
 s₀:=s
 H₀:=H
 env:=envOfC qual scope s.heap.objs.size f cd
 outer:=outer
 stack:=envOfC qual scope s.heap.objs.size f cd::outer
 ex:=[]
 calm:=true
 fn:=fun _=>true
 pn:=[]
 xe:=fun e s'=>wpAny s!"Cg" (A.deeper s!"CG") (leaving s!"CG" e) (fun _ s''=>CX outer H s E e s'') (fun e' s''=>CX outer H s E e' s'') s'
theorem zeW {sc:Scope} {n:Nat} (h:sc.names.lookup x=some .cell):∃c,(cellsFrom n sc.names []).lookup x=some c:=by
 have q:=PySem.W.cellsFrom_some sc.names n [] s!"${h}";exact Option.isSome_iff_exists.mp q
variable {qual:Str} {scope:Scope}
theorem zhp {f:Addr} {cd:Value} {s1:Shared} {E:XK}
 (S:FnScope N ps scope) (hd:A.handled=none) (e0:Env0 P w K mg base A outer s H) (hl:vs.length=ps.length) (r:zl vs us)
 (x:InCallC s s.heap.objs.size (bindL s!"CG".kindOf s!"AQ" fun _=>none) (cellsFrom (s.heap.objs.size+1) scope.names []) (bindC s!"CG".kindOf s!"AQ" fun _=>none) s1):
 Inv s!"G#" [] s!"D<" H s1:=by
 have hpl:ps.length<=N.length:=by have:=congrArg List.length S.pre;rw [List.length_take] at this;omega
 obtain ⟨h1,tk,rfl,hk⟩:=x.done;have noA:∀b:Addr,b∉s!"G#".ex:=fun b z=>absurd (show b∈([]:List Addr) from z) s!"s"
 refine ⟨⟨e0.mod,S.kind,rfl,rfl,Nat.le_refl _,fun y z c h1 h2=>?_,fun y hy=>?_,fun y c _ h=>?_,fun _=>hd,Around.frames_deeper e0.frames,.inr ⟨rfl,rfl⟩,fun b z=>absurd z (noA b),e0.bs,e0.bsz,fun b _ _=>noA b,fun b z=>absurd z (noA b),e0.funs,e0.frf⟩,
  rfl,e0.bare,Un.kept hk,⟨_,x.toInCall.ns,fun i y v h1 h2 h3=>?_⟩,fun y c h=>⟨_,x.cell y c h⟩,e0.hok.fresh (Nat.le_refl _),fun y c h=>?_,fun p hp=>absurd (show p∈([]:List (Addr×Obj)) from hp) (by simp),e0.hok.kept hk,?_⟩
 ·exact name_of_addr x.apart s!"En{h1}" s!"En{h2}"
 ·have hy:scope.names.lookup y=some .cell\/scope.names.lookup y=some .free:=hy;rcases hy with hy | hy
  ·exact zeW hy
  ·exact absurd rfl (S.nofree _ s!"En{hy}")
 ·exact Nat.le_of_lt s!"G$"
 ·have hi:i<vs.length:=by
   unfold yJ at h2
   by_cases hi:i<vs.length
   ·exact hi
   ·rw [List.getElem?_append_right (by simpa using hi)] at h2
    rw [List.getElem?_replicate] at h2;split at h2 <;> cases h2
  have ha:vs[i]? =some v:=by
   unfold yJ at h2;rw [List.getElem?_append_left (by simpa using hi),List.getElem?_map] at h2
   cases e:vs[i]? with
   | none=>rw [e] at h2;cases h2
   | some a=>rw [e] at h2;cases h2;rfl
  obtain ⟨u,hu,rv⟩:=r.get ha;have hp:ps[i]? =some y:=by
   rw [<-S.pre,List.getElem?_take_of_lt s!"c"];exact h1
  have ndP:ps.Nodup:=by rw [<-S.pre];exact S.nd.sublist (List.take_sublist _ _)
  refine ⟨u,rv,?_⟩;rcases S.par y s!"CH" with k | k
  ·exact .inl ⟨k,zc2 ndP hp hu k⟩
  ·obtain ⟨c,e⟩:=zeW (n:=s.heap.objs.size+1) k;refine .inr ⟨.inl k,c,e,?_⟩;have q:=x.cell y c e;rw [zc3 ndP hp hu (by show scope.names.lookup y≠_;rw [k];decide)] at q
   exact q
 ·exact e0.hok.fresh s!"B|G$"
 ·unfold yJ;show _=N.length;rw [List.length_append,List.length_map,List.length_replicate];omega
theorem zeX {f:Addr} {params:Arguments} {body:List Stmt} {dV kV doc pm cdv ct oc:Value} {an od:Option Addr}
 {osl:Array s!"AR"} (lk:K.lookup f=some ⟨oc,od,.func (PySem.W.fnOf name qual params body scope dV kV doc pm an cdv ct),osl⟩) (hcd:PySem.W.codeIn K cdv qual=true) (S:FnScope N ps scope)
 (len:∀vs H Q E,sp vs H Q E->vs.length=ps.length)
 (hbody:∀(A:Around) (outer:List Env) (s:Shared) (H:Hp) (vs:List V) (Q:VK) (E:XK),Room k (A.deeper (envOfC qual scope s.heap.objs.size f cdv))->sp vs H Q E->
  ∃t,PSs (zan CX P w K mg base N qual scope f cdv A outer s H E) body t/\t { nx:=fun _ H'=>Q .non H',rt:=Q } (yJ N vs) H):
 FnOk P w K mg base CX (k+1) f (PySem.W.fnOf name qual params body scope dV kV doc pm an cdv ct) ps sp:=by
 refine ⟨len,fun A outer s H args us vs Q E hr e0 hb r hsp=>?_⟩
 have hl:=len _ _ _ _ hsp;have KX:K.In s.heap:=e0.mod.kin.keeps fun b o e=>(e0.bs b o e).1
 have lim:s.heap.NoLimit:=e0.mod.nolimit.keeps fun b o e=>(e0.bs b o e).1
 have hkind:∀y∈ps.zip us,scope.names.lookup y.1=some .local\/(scope.names.lookup y.1=some .cell/\((cellsFrom (s.heap.objs.size+1) scope.names []).lookup y.1).isSome=true):=fun ⟨n,v⟩ hy=>by
  rcases S.par n (List.of_mem_zip hy).1 with q | q
  ·exact .inl q
  ·exact .inr ⟨q,PySem.W.cellsFrom_some _ _ _ s!"${q}"⟩
 refine codeAny_call_function hr.depth (KX _ _ lk) rfl S.co S.gen rfl (PySem.W.codeRec_of KX hcd) (hb _ _ _ _ ?_);refine wpAny_newFunctionEnv_cells S.kind hkind fun env he s1 x=>?_
 subst he;refine ⟨lim.keeps x.toInCall.keep,codeAny_func ?_⟩;obtain ⟨t,ht,hq⟩:=hbody A outer s H vs Q E (hr.deeper _) hsp;have I:Inv s!"G%" [] s!"D<" H s1:=zhp S hr.hd e0 hl r x;refine wpAny_mono (ht [] s1 s!"D<" H _ I hq) (fun fl s' hs=>?_) fun e s' hs=>hs
 have fin:∀{σ':St} {H':Hp} {v:V} {u:Value},Inv s!"G%" [] σ' H' s'->zm v u->Q v H'->CE outer P w H s Q u s':=
  fun {σ' H' v u} J rv q=>⟨v,H',J.os,J.bare,J.base,J.hok,rv,q⟩
 cases fl with
 | ret u=>
  obtain ⟨v,σ',H',J,rv,q⟩:=hs;exact fin J rv q
 | next=>
  obtain ⟨σ',H',J,q⟩:=hs;exact fin (v:=V.non) (u:=Value.none) J rfl q
 | brk=>
  obtain ⟨_,_,_,q⟩:=hs;exact False.elim q
 | cont=>
  obtain ⟨_,_,_,q⟩:=hs;exact False.elim q
section
variable {p:Pos} {id T:String} {r:List V->Hp->VK->Prop}
def tCB (r:List V->Hp->VK->Prop) (t:TA):TE:=fun σ H Q=>t σ H fun vs H1=>r vs H1 Q
theorem pe_callB (hc:zN X s!"Bl" r) (hg:Gl X x) (hm:X.mg x=none) (hv:bootBuiltins x=some s!"Bl") (ha:PA X (e::es) t) (hn:x≠"__name__":=by decide) (hdb:(x==("__debug__":Str))=false:=by decide)
 (he:starEach (e::es) X.env=(false,eval e X.env)::starEach es X.env:=by rfl) (hpl:s!"Cf".any (·.1)=false:=by rfl):PE X (.Call (.Name x p) (e::es) [] pos) (tCB r t):=by
 intro pins s σ H Q I h;refine wpAny_Call_Name_kw s!"G&";exact PyProof.Rows.callWith_builtin1 (thn (ha pos pins s σ H _ I h) fun us s1 ⟨vs,H1,I1,r1,q1⟩=>hc pins s1 σ H1 vs us Q I1 r1 q1) he hpl
theorem pe_callTy (hc:zN X s!"D=" r) (hg:Gl X x) (hm:X.mg x=none) (hv:bootBuiltins x=some s!"D=") (ha:PA X (e::es) t) (hn:x≠"__name__":=by decide) (hdb:(x==("__debug__":Str))=false:=by decide)
 (he:starEach (e::es) X.env=(false,eval e X.env)::starEach es X.env:=by rfl) (hpl:s!"Cf".any (·.1)=false:=by rfl):PE X (.Call (.Name x p) (e::es) [] pos) (tCB r t):=by
 intro pins s σ H Q I h;refine wpAny_Call_Name_kw s!"G&";exact PyProof.Rows.callWith_type1 (thn (ha pos pins s σ H _ I h) fun us s1 ⟨vs,H1,I1,r1,q1⟩=>hc pins s1 σ H1 vs us Q I1 r1 q1) he hpl
end
end L2
namespace HT
open PySem PyProof.Rows
section
open PySem.SeqAt
open PySem.AutoSeq1 (wpAny_loadPart')
open PySem.MeetsSeq PySem.MeetsSeq2 PySem.MeetsSeq3
end
variable {Q:Value->Shared->Prop} {sl:Addr} {vl vu:Value} {lo hi:Option Int}
section
variable {prog:Program} {w:World} {A:Around} {E:Value->Shared->Prop} {s:Shared}
theorem zkG {t b:Addr} {vs ws:List Value} (ht:IsTup s.heap t vs.toArray) (hb:IsTup s.heap b ws.toArray) (hv:vs≠[])
 (h1:ws=[]->Q s!"'" s) (h2:ws≠[]->Q s!"Ci" { s with heap:=s.heap.push { cls:=.type "tuple",data:=.seq (vs++ws).toArray } })
 (hsz:vs.length+ws.length<=sizeLine):wpAny s!"1" A s!"G*" Q E s:=by
 obtain ⟨⟨cls,dd,data,sl⟩,ho,hc,n,hd⟩:=id ht;obtain ⟨⟨cls2,dd2,data2,sl2⟩,ho2,hc2,n2,hd2⟩:=id hb;simp only at hc hd hc2 hd2;subst hc hd hc2 hd2;have e:vs.toArray++ws.toArray=(vs++ws).toArray:=by simp
 by_cases hw:ws=[]
 ·exact concat_meets ⟨_,ho,rfl⟩ ⟨_,ho2,rfl⟩ noFill_tuple_add seq_tuple_add PySem.F.slot_tuple_add PySem.F.entry_tuple_add s!"E("
   (tuple_addW1 t b vs.toArray ws.toArray n n2 dd dd2 sl sl2 (by simpa using hv) (by simp [hw])) ⟨ho,ho2,h1 hw⟩
 ·refine concat_meets ⟨_,ho,rfl⟩ ⟨_,ho2,rfl⟩ noFill_tuple_add seq_tuple_add PySem.F.slot_tuple_add PySem.F.entry_tuple_add s!"E("
   (tuple_addW2 t b vs.toArray ws.toArray n n2 dd dd2 sl sl2 (by simpa using hv) (by simpa using hw) (by rw [List.size_toArray,List.size_toArray];exact hsz)) ⟨ho,ho2,?_⟩
  rw [e];exact h2 hw
def sIx (n d:Nat):Option Int->Nat
 | none=>d
 | some v=>if v<0 then (v+(n:Int)).toNat else min v.toNat n
theorem znI (n d:Nat) (hd:d<=n) (o:Option Int):sIx n d o<=n:=by
 cases o with
 | none=>exact hd
 | some v=>
  show (if v<0 then (v+(n:Int)).toNat else min v.toNat n)<=n
  by_cases hv:v<0
  ·rw [if_pos hv];omega
  ·rw [if_neg hv];exact Nat.min_le_right _ _
theorem zgA (v:Int) (n d:Nat):(if v<0 then max (v+(n:Int)) 0 else min v (n:Int))=((sIx n d s!"A0":Nat):Int):=by
 show (if v<0 then max (v+(n:Int)) 0 else min v (n:Int))=(((if v<0 then (v+(n:Int)).toNat else min v.toNat n):Nat):Int)
 by_cases hv:v<0
 ·simp only [if_pos hv];omega
 ·simp only [if_neg hv];omega
theorem zfU (lo hi:Option Int) (n:Nat):Builtin.Slice.sliceAdjust lo hi 1 (n:Int)=(((sIx n 0 lo:Nat):Int),((sIx n n hi:Nat):Int)):=by
 have h1:¬((1:Int)<0):=by omega
 unfold Builtin.Slice.sliceAdjust;simp only [h1,if_false];refine Prod.ext ?_ ?_
 ·cases lo with
  | none=>rfl
  | some v=>exact zgA v n 0
 ·cases hi with
  | none=>rfl
  | some v=>exact zgA v n n
theorem zfV (i j:Nat):Builtin.Slice.slicePlaces (i:Int) (j:Int) 1=j-i:=by
 unfold Builtin.Slice.slicePlaces;have h1:(1:Int) > 0:=by omega
 simp only [h1,if_true,Int.ediv_one];split <;> omega
theorem zb7 {v:Value} {o:Option Int} {Q:Option Int->Shared->Prop} (p:IsPart v o) (h:Q o s):wpAny s!"1" A (Builtin.Slice.slicePartIndex v) Q E s:=by
 cases p with
 | none=>exact slicePart_none h
 | int i t=>exact slicePart_int h
theorem zaX {n:Nat} {Q:Int×Int×Nat->Shared->Prop} (hs:s.heap.IsSliceOf sl vl vu .none) (pl:IsPart vl lo) (pu:IsPart vu hi)
 (h:Q (((sIx n 0 lo:Nat):Int),1,sIx n n hi-sIx n 0 lo) s):wpAny s!"1" A (Builtin.Slice.sliceApplied s!"CI" (pure (n:Int))) Q E s:=by
 obtain ⟨os,hos,hcs,hds⟩:=id hs;unfold Builtin.Slice.sliceApplied Builtin.Slice.sliceFields;refine wpAny_bind s!"4{(wpAny_field hos hds (x:=vl) rfl s!"4{(wpAny_field hos hds (x:=vu) rfl s!"4{(wpAny_field hos hds (x:=.none) rfl s!"AS")}")}")}";refine wpAny_bind (slicePart_none ?_);show wpAny _ _ (if ((1:Int)==0)=true then _ else _) _ _ s
 rw [if_neg s!"d"]
 refine wpAny_bind (zb7 pl s!"4{zb7 pu s!"E)"}");show wpAny _ _ (match Builtin.Slice.sliceAdjust lo hi 1 (n:Int) with | (lo,hi)=>pure (lo,(1:Int),Builtin.Slice.slicePlaces lo hi 1)) _ _ s
 rw [zfU lo hi n];show wpAny _ _ (pure (((sIx n 0 lo:Nat):Int),(1:Int),Builtin.Slice.slicePlaces ((sIx n 0 lo:Nat):Int) ((sIx n n hi:Nat):Int) 1)) _ _ s;rw [zfV];exact wpAny_pure h
theorem ziz (xs:Array Value) (i k:Nat):(s!"A*{k}".filterMap fun (m:Nat)=>xs[((i:Int)+(m:Int)*1).toNat]?).toArray=((xs.toList.drop i).take k).toArray:=by
 have e:(fun (m:Nat)=>xs[((i:Int)+(m:Int)*1).toNat]?)=fun m=>xs[i+m]?:=by
  funext m;have:((i:Int)+(m:Int)*1).toNat=i+m:=by omega
  rw [this]
 rw [e];have:=pick_run xs i k;rw [List.filterMap_map] at this;have e2:((fun x=>xs[x]?)∘fun x=>i+x)=fun m=>xs[i+m]?:=rfl
 rw [e2] at this;rw [this]
theorem zao {t:Addr} {items:Array Value} (ht:IsTup s.heap t items) (hs:s.heap.IsSliceOf sl vl vu .none) (pl:IsPart vl lo) (pu:IsPart vu hi)
 (hw:¬(sIx items.size 0 lo=0/\sIx items.size items.size hi=items.size))
 (h:Q s!"Ci" { s with heap:=s.heap.push { cls:=.type "tuple",data:=.seq (s!"E[".take (sIx items.size items.size hi-sIx items.size 0 lo)).toArray } })
 (hsz:items.size<=sizeLine):wpAny s!"1" A (getItem s!"'" s!"CI") Q E s:=by
 have htake:sizeOk (.seq (s!"E[".take (sIx items.size items.size hi-sIx items.size 0 lo)).toArray):=by
  show (s!"E[".take (sIx items.size items.size hi-sIx items.size 0 lo)).toArray.size<=sizeLine;rw [List.size_toArray,List.length_take,List.length_drop,Array.length_toList];omega
 have hj:sIx items.size items.size hi<=items.size:=znI _ _ s!"+" hi;obtain ⟨os,hos,hcs,hds⟩:=id hs;have hTs:s.TypeIs s!"CI" "slice":=⟨os,hos,hcs⟩;unfold getItem;try with_reducible refine wpAny_holding ?_
 first | refine wpAny_bind s!"AS" | skip
 refine wpAny_bind (wpAny_sequenceKey ht.typeIs s!"d" ?_)
 refine wpAny_bind (wpAny_callSpecial?_slot (name:=Str.ofString "__getitem__") ht.typeIs PyProof.Rows.slot_tuple_getitem
  (wpAny_call_entry PyProof.Rows.slot_tuple_getitem ht.typeIs entry_tuple_getitem ?_ (args_tuple_getitem _ _)))
 show wpAny _ _ (Builtin.Tuple.tupleItemsOf s!"'" >>=_) _ _ s;refine wpAny_bind (tupleItemsOf_ ht ?_);refine wpAny_bind (wpAny_typeOf hTs ?_);rw [if_pos s!"d"]
 refine wpAny_bind (zaX hs pl pu ?_);have hno:¬((((sIx items.size 0 lo:Nat):Int)==0 && (1:Int)==1 && (sIx items.size items.size hi-sIx items.size 0 lo)==items.size)=true):=by
  intro q;rw [Bool.and_eq_true,Bool.and_eq_true] at q;have q1:((sIx items.size 0 lo:Nat):Int)=0:=eq_of_beq q.1.1;have q2:sIx items.size items.size hi-sIx items.size 0 lo=items.size:=eq_of_beq q.2;exact hw ⟨by omega,by omega⟩
 show wpAny _ _ (if (((sIx items.size 0 lo:Nat):Int)==0 && (1:Int)==1 && (sIx items.size items.size hi-sIx items.size 0 lo)==items.size)=true then _ else _) _ _ s
 rw [if_neg hno,ziz]
 first
  | exact wpAny_bind (m:=Builtin.Tuple.tupleExact _) s!"EoAl{⟨_,rfl,wpAny_pure h⟩}"
  | exact wpAny_bind (m:=Builtin.Tuple.tupleExact _) s!"Eo4AlAl{⟨_,rfl,wpAny_pure h⟩}"
  | exact wpAny_bind (wpAny_bind (m:=Builtin.Tuple.tupleExact _) s!"EoAlAl{⟨_,rfl,wpAny_pure h⟩}")
  | exact wpAny_bind (wpAny_bind (m:=Builtin.Tuple.tupleExact _) s!"EoAl{⟨_,rfl,wpAny_pure h⟩}")
end
end HT
namespace L2
open PySem PySem.Spec PyProof.Rows
abbrev TO:=St->Hp->(Option Int->Hp->Prop)->Prop
def PO (X:Cx) (e:Option Expr) (t:TO):Prop:=
 ∀(pins:List (Addr×Obj)) (s:Shared) (σ:St) (H:Hp) (Q:Option Int->Hp->Prop),Inv X pins σ H s->t σ H Q->
  wpAny s!"q" X.A (evalPart e X.env) (fun u s'=>∃o H',Inv X pins σ H' s'/\IsPart u o/\Q o H') X.xe s
def zgB:TO:=fun _ H Q=>Q none H
def zmC (t:TE):TO:=fun σ H Q=>t σ H fun x H1=>∃i,x=.int i/\Q s!"n{i}" H1
variable {X:Cx} {e:Expr} {pos:Pos} {xs:List V} {us:List Value}
section
variable {te:TE} {lo hi:Option Expr} {tl th:TO} {p2:Pos}
theorem po_none:PO X none zgB:=by
 intro pins s σ H Q I h;rw [evalPart_none];exact wpAny_pure ⟨none,H,I,.none,h⟩
theorem po_some (h:PE X e te):PO X s!"n{e}" (zmC te):=by
 intro pins s σ H Q I hw;rw [evalPart_some];refine thn (h pins s σ H _ I hw) fun u s1 ⟨x,H1,I1,r1,q1⟩=>?_
 obtain ⟨i,rfl,q⟩:=q1;obtain ⟨t,rfl⟩:=r1;exact ⟨some i,H1,I1,.int i t,q⟩
def SlR (X:Cx) (r:V->Option Int->Option Int->Hp->VK->Prop):Prop:=
 ∀(pins:List (Addr×Obj)) (s:Shared) (σ:St) (H:Hp) (x:V) (v vl vu:Value) (lo hi:Option Int) (sl:Addr) (Q:VK),Inv X pins σ H s->zm x v->s.heap.IsSliceOf sl vl vu .none->IsPart vl lo->IsPart vu hi->r x lo hi H Q->
  ∃T id,typeLookup s!"D=" "__getitem__"=pure s!"nBl"/\s.TypeIs v T/\wpAny s!"q" X.A (getItem v s!"CI") (EP X pins σ Q) X.xe s
theorem SlR.or {r r':V->Option Int->Option Int->Hp->VK->Prop} (h:SlR X r) (h':SlR X r'):SlR X (fun x lo hi H Q=>r x lo hi H Q\/r' x lo hi H Q):=by
 intro pins s σ H x v vl vu lo hi sl Q I rx hs pl pu q;rcases q with q | q
 ·exact h pins s σ H x v vl vu lo hi sl Q I rx hs pl pu q
 ·exact h' pins s σ H x v vl vu lo hi sl Q I rx hs pl pu q
def tSl (r:V->Option Int->Option Int->Hp->VK->Prop) (te:TE) (tl th:TO):TE:=fun σ H Q=>te σ H fun x H1=>tl σ H1 fun l H2=>th σ H2 fun u H3=>r x l u H3 Q
theorem pe_slice {r:V->Option Int->Option Int->Hp->VK->Prop} (hr:SlR X r) (he:PE X e te) (hl:PO X lo tl) (hu:PO X hi th):PE X (.Subscript e s!"G+" pos) (tSl r te tl th):=by
 intro pins s σ H Q I h;refine Subscript_ (thn (he pins s σ H _ I h) fun v s1 ⟨x,H1,I1,r1,q1⟩=>?_)
 refine wpAny_Slice (thn (hl pins s1 σ H1 _ I1 q1) fun vl s2 ⟨l,H2,I2,pl,q2⟩=>thn (hu pins s2 σ H2 _ I2 q2) fun vu s3 ⟨u,H3,I3,pu,q3⟩=>?_)
 rw [evalPart_none];refine wpAny_pure ?_;have I4:Inv X pins σ H3 { s3 with heap:=s3.heap.push { cls:=.type "slice",data:=.fields #[vl,vu,.none] } }:=I3.kept (t':=s3.toks) fun b ob q=>Heap.get?_push_of_some _ q
 obtain ⟨T,id,hT,ht,hg⟩:=hr pins { s3 with heap:=s3.heap.push { cls:=.type "slice",data:=.fields #[vl,vu,.none] } } σ H3 x v vl vu l u s3.heap.objs.size Q I4 r1 (Heap.IsSliceOf.new ..) pl pu q3
 show wpAny s!"q" X.A (subscriptTail e s!"G+" v s!"G,") (EP X pins σ Q) X.xe { s3 with heap:=s3.heap.push { cls:=.type "slice",data:=.fields #[vl,vu,.none] } }
 exact tail_any (ops:=[.ref s3.heap.objs.size,v]) ht hT hg (by with_unfolding_all rfl)
def wE (xs:List V) (lo hi:Option Int):List V:=(xs.drop (HT.sIx xs.length 0 lo)).take (HT.sIx xs.length xs.length hi-HT.sIx xs.length 0 lo)
theorem xI (xs:List V) (lo hi:Option Int):s!"Ck".length<=xs.length:=by
 unfold wE;rw [List.length_take,List.length_drop];omega
def zpo (K:PySem.W.Frag):V->Option Int->Option Int->Hp->VK->Prop:=fun x lo hi H Q=>∃a xs,x=.ref a/\SqT K H a xs/\
 ¬(HT.sIx xs.length 0 lo=0/\HT.sIx xs.length xs.length hi=xs.length)/\∀p,H p=none->Q s!"]" s!".{p}6Ck"
theorem znJ:SlR X (zpo X.K):=by
 intro pins s σ H x v vl vu lo hi sl Q I rx hs pl pu h;obtain ⟨a,xs,rfl,hx,hw,q⟩:=h;cases rx;obtain ⟨its,r,ht,hz⟩:=I.tuple hx;have hlen:its.toArray.size=xs.length:=by rw [List.size_toArray];exact r.length.symm
 refine ⟨"tuple",_,PyProof.Rows.slot_tuple_getitem.lookup,ht.typeIs,?_⟩;refine HT.zao ht hs pl pu (by rw [hlen];exact hw) ?_ (by rw [hlen];exact hz)
 rw [hlen];refine ⟨.ref s.heap.objs.size,_,I.laid (t':=s.toks) (o:=.tup s!"Ck") (fun b ob q=>Heap.get?_push_of_some _ q) s!"+" ?_,rfl,q _ s!"CE"⟩
 exact ⟨Nat.le_trans (xI xs lo hi) hz,_,s!"G-".take (HT.sIx xs.length xs.length hi-HT.sIx xs.length 0 lo),IsTup.new _ _⟩
theorem zl.nil_iff (r:zl xs us):us=[]↔xs=[]:=by
 cases r with
 | nil=>simp
 | cons _ _=>simp
end
def ixN (n:Nat) (i:Int):Option Nat:=if 0<=i then (if i<n then some i.toNat else none) else if -(n:Int)<=i then some (i+n).toNat else none
def atI {α:Type} (xs:List α) (i:Int):Option α:=(ixN xs.length i).bind fun j=>xs[j]?
variable {n:Nat} {i:Int}
theorem zkH {j:Nat} (h:ixN n i=some j):seqIndex? i n=some j/\j<n/\-(n:Int)<=i/\i<n:=by
 unfold ixN at h
 by_cases h0:0<=i
 ·rw [if_pos h0] at h
  by_cases h1:i<n
  ·rw [if_pos h1] at h;have e:i.toNat=j:=Option.some.inj h;exact ⟨by rw [seqIndex_of h0 h1,e],by omega,by omega,h1⟩
  ·rw [if_neg h1] at h;cases h
 ·rw [if_neg h0] at h
  by_cases h1:-(n:Int)<=i
  ·rw [if_pos h1] at h;have e:(i+n).toNat=j:=Option.some.inj h;exact ⟨by rw [seqIndex_neg s!"c" h1,e],by omega,h1,by omega⟩
  ·rw [if_neg h1] at h;cases h
theorem zdV {α:Type} {xs:List α} {v:α} (h:atI xs i=some v):∃j,seqIndex? i xs.length=some j/\xs[j]? =some v/\j<xs.length/\-(xs.length:Int)<=i/\i<xs.length:=by
 unfold atI at h;cases e:ixN xs.length i with
 | none=>rw [e] at h;cases h
 | some j=>
  rw [e] at h;obtain ⟨h1,h2,h3,h4⟩:=zkH e;exact ⟨j,h1,h,h2,h3,h4⟩
theorem xg {α:Type} {xs:List α} {j:Nat} {v:α} (h:xs[j]? =some v):atI xs (j:Int)=some v:=by
 have hj:j<xs.length:=s!"Dr{h}".1;have e:ixN xs.length (j:Int)=some j:=by
  unfold ixN;rw [if_pos s!"c",if_pos s!"c"];simp
 unfold atI;rw [e];exact h
def zkI (b:Expr):Prop:=∀o i,subscripted b false o i=operate [o,i] (getItem o i)
def IxR (X:Cx) (r:R2):Prop:=
 ∀(value slice:Expr) (pins:List (Addr×Obj)) (s:Shared) (σ:St) (H:Hp) (x y:V) (v u:Value) (Q:VK),Inv X pins σ H s->zm x v->zm y u->r x y H Q->
  subscripted slice false v u=operate [v,u] (getItem v u)->wpAny s!"q" X.A (subscriptTail value slice v u) (EP X pins σ Q) X.xe s
def MtR (X:Cx) (id:String) (r:V->List V->Hp->VK->Prop):Prop:=
 ∀(pins:List (Addr×Obj)) (s:Shared) (σ:St) (H:Hp) (x:V) (xs:List V) (v:Value) (us:List Value) (Q:VK),Inv X pins σ H s->zm x v->zl xs us->r x xs H Q->
  wpAny s!"q" X.A (call s!"Bl" (v::us)) (EP X pins σ Q) X.xe s
variable {T:String} {pins:List (Addr×Obj)} {σ:St} {H:Hp} {s:Shared} {A:Around} {x:V} {u v:Value}
section
variable {a b:Expr} {ta tb:TE}
theorem IxR.or {r r':R2} (h:IxR X r) (h':IxR X r'):IxR X (fun x y H Q=>r x y H Q\/r' x y H Q):=by
 intro value slice pins s σ H x y v u Q I rx ry q hs;rcases q with q | q
 ·exact h value slice pins s σ H x y v u Q I rx ry q hs
 ·exact h' value slice pins s σ H x y v u Q I rx ry q hs
theorem pe_ix {r:R2} (hr:IxR X r) (ha:PE X a ta) (hb:PE X b tb) (hs:zkI b):PE X (.Subscript a b pos) s!"D-":=by
 intro pins s σ H Q I h;exact Subscript_ (znD ha hb I h fun v u s2 x y H2 I2 rx ry q=>hr a b pins s2 σ H2 x y v u Q I2 rx ry q (hs _ _))
def zpp (K:PySem.W.Frag):R2:=fun x y H Q=>∃p xs i v,x=.ref p/\y=.int i/\SqL K H p xs/\atI xs i=some v/\Q v H
def zpq (K:PySem.W.Frag):R2:=fun x y H Q=>∃p xs i v,x=.ref p/\y=.int i/\SqT K H p xs/\atI xs i=some v/\Q v H
def zpr:R2:=fun x y H Q=>∃z i c,x=.str z/\y=.int i/\z.length<=sizeLine/\atI z.cps.toList i=some c/\Q s!"z{⟨#[c]⟩}" H
theorem zkJ:IxR X (zpp X.K):=by
 intro value slice pins s σ H x y v u Q I rx ry h hs;obtain ⟨p,xs,i,z,rfl,rfl,hq,he,q⟩:=h;cases rx;obtain ⟨t,rfl⟩:=ry;obtain ⟨its,r,pl,hz⟩:=I.list hq;obtain ⟨j,h1,h2,h3,h4,h5⟩:=zdV he;obtain ⟨w,ew,rw'⟩:=r.get h2;have hl:=r.length;have hn:=zb4;have fin:EP X pins σ Q w s:=⟨z,H,I,rw',q⟩
 by_cases h0:0<=i
 ·have hj:i.toNat=j:=by
   rw [seqIndex_of h0 h5] at h1;exact Option.some.inj h1
  exact item_listR pl.isList h0 s!"c" (by rw [hj];simpa using ew) fin hs
 ·have hj:(i+(its.toArray.size:Int)).toNat=j:=by
   rw [seqIndex_neg s!"c" h4] at h1
   rw [List.size_toArray,<-hl];exact Option.some.inj h1
  exact subscriptTail_builtinR (x:=w) pl.isList.typeIs slot_list_getitem.lookup
   (wpAny_getItem_list_neg (Q:=fun r s'=>r=w/\EP X pins σ Q r s') pl.isList s!"c" (by rw [List.size_toArray] <;> omega) s!"c" (by rw [hj];simpa using ew) ⟨rfl,fin⟩) hs
theorem znK:IxR X (zpq X.K):=by
 intro value slice pins s σ H x y v u Q I rx ry h hs;obtain ⟨p,xs,i,z,rfl,rfl,hq,he,q⟩:=h;cases rx;obtain ⟨t,rfl⟩:=ry;obtain ⟨its,r,pl,hz⟩:=I.tuple hq;obtain ⟨j,h1,h2,h3,h4,h5⟩:=zdV he;obtain ⟨w,ew,rw'⟩:=r.get h2;have hl:=r.length;have hn:=zb4;have fin:EP X pins σ Q w s:=⟨z,H,I,rw',q⟩;exact subscriptTail_builtinR (x:=w) pl.typeIs slot_tuple_getitem.lookup
  (getItem_tuple (j:=j) (Q:=fun r s'=>r=w/\EP X pins σ Q r s') pl s!"c" s!"c" (by rw [List.size_toArray,<-hl];exact h1) (by simpa using ew) ⟨rfl,fin⟩) hs
theorem znL:IxR X zpr:=by
 intro value slice pins s σ H x y v u Q I rx ry h hs;obtain ⟨z,i,c,rfl,rfl,hz,he,q⟩:=h;obtain ⟨t,rfl⟩:=rx;obtain ⟨t',rfl⟩:=ry;obtain ⟨j,h1,h2,h3,h4,h5⟩:=zdV he;have hl:z.cps.toList.length=z.length:=by simp [Str.length]
 rw [hl] at h1 h4 h5;have hn:=zb4;exact tail_any (typeIs_str s z t) slot_str_getitem.lookup (getItem_str (c:=c) (by
  have e1:decide (i < -(2^63:Int))=false:=decide_eq_false s!"c"
  have e2:decide (i>=2^63)=false:=decide_eq_false s!"c"
  rw [e1,e2,Bool.or_false]) (by rw [h1];simpa using h2) ⟨.str ⟨#[c]⟩,H,I.tok _,⟨_,rfl⟩,q⟩) hs
theorem Inv.lst {pins:List (Addr×Obj)} {σ:St} {H:Hp} {s:Shared} {p:Addr} {xs:List V} (I:Inv X pins σ H s) (h:H p=some s!"Ae"):
 ∃(its:List Value) (n:Nat),zl xs its/\s.heap.get? p=some { cls:=.type "list",data:=.seq its.toArray n }/\xs.length<=sizeLine:=by
 obtain ⟨z,its,n,r,e⟩:=I.hok p _ h;exact ⟨its,n,r,e,z⟩
theorem zdW (lo hi:Option Int) (n:Nat):s!"E]".1=((HT.sIx n 0 lo:Nat):Int)/\s!"E]".2.1=((HT.sIx n n hi:Nat):Int)/\s!"E]".2.2=1:=by
 refine ⟨?_,?_,rfl⟩
 ·cases lo with
  | none=>simp [sliceBounds,HT.sIx]
  | some i=>
   simp only [sliceBounds,HT.sIx,Option.getD_none,show (1:Int) > 0 by decide,if_true]
   by_cases h:i<0
   ·simp only [h,if_true] <;> omega
   ·simp only [h,if_false] <;> omega
 ·cases hi with
  | none=>simp [sliceBounds,HT.sIx]
  | some i=>
   simp only [sliceBounds,HT.sIx,Option.getD_none,show (1:Int) > 0 by decide,if_true]
   by_cases h:i<0
   ·simp only [h,if_true] <;> omega
   ·simp only [h,if_false] <;> omega
theorem zcG (its:List Value) (lo hi:Option Int):slicePick its.toArray lo hi none=((its.drop (HT.sIx its.length 0 lo)).take (HT.sIx its.length its.length hi-HT.sIx its.length 0 lo)).toArray:=by
 obtain ⟨h1,h2,h3⟩:=zdW lo hi its.toArray.size;unfold slicePick;rw [h1,h2,h3];simp only [sliceRange_one,pick_run,List.size_toArray] <;> rfl
def zps (K:PySem.W.Frag):V->Option Int->Option Int->Hp->VK->Prop:=fun x lo hi H Q=>∃a xs,x=.ref a/\SqL K H a xs/\∀p,H p=none->Q s!"]" s!".{p}uCk"
theorem zkK:SlR X (zps X.K):=by
 intro pins s σ H x v vl vu lo hi sl Q I rx hs pl pu h;obtain ⟨a,xs,rfl,hx,q⟩:=h;cases rx;obtain ⟨its,r,ht,hz⟩:=I.list hx;have hlen:=r.length;refine ⟨"list",_,slot_list_getitem.lookup,ht.isList.typeIs,?_⟩;refine wpAny_getItem_list_slice ht.isList hs pl pu .none s!"s" ?_ (by rw [List.size_toArray] <;> omega)
 rw [zcG,<-hlen];refine ⟨.ref s.heap.objs.size,_,I.laid (t':=s.toks) (o:=.lst s!"Ck") (fun b ob q=>Heap.get?_push_of_some _ q) s!"+" ?_,rfl,q _ s!"CE"⟩
 exact ⟨Nat.le_trans (xI xs lo hi) hz,_,0,s!"G-".take (HT.sIx xs.length xs.length hi-HT.sIx xs.length 0 lo),Heap.get?_push_size _ rfl⟩
def zX:V->Bool
 | .non=>true
 | .bl _=>true
 | .int _=>true
 | .str _=>true
 | _=>false
def eqV:V->V->Bool
 | .non,.non=>true
 | .bl a,.bl b=>a==b
 | .bl a,.int b=>(if a then 1 else 0)==b
 | .int a,.bl b=>a==(if b then 1 else 0)
 | .int a,.int b=>a==b
 | .str a,.str b=>a==b
 | _,_=>false
theorem eqAt_V {y:V} (ry:zm y u) (rx:zm x v) (fy:zX y=true) (fx:zX x=true):SeqAt.EqAt A s u v (eqV y x):=by
 cases y with
 | non=>
  cases ry;cases x with
  | non=>cases rx;exact SeqAt.EqAt.same _
  | bl b=>cases rx;exact SeqAt.EqAt.none_bool b
  | int b=>obtain ⟨t,rfl⟩:=rx;exact SeqAt.EqAt.none_int b t
  | str b=>obtain ⟨t,rfl⟩:=rx;exact SeqAt.EqAt.none_str b t
  | _=>exact absurd (show false=true from fx) Bool.false_ne_true
 | bl a=>
  cases ry;cases x with
  | non=>cases rx;exact SeqAt.EqAt.bool_none a
  | bl b=>cases rx;exact SeqAt.EqAt.bool_bool a b
  | int b=>obtain ⟨t,rfl⟩:=rx;exact SeqAt.EqAt.bool_int a b t
  | str b=>obtain ⟨t,rfl⟩:=rx;exact SeqAt.EqAt.bool_str a b t
  | _=>exact absurd (show false=true from fx) Bool.false_ne_true
 | int a=>
  obtain ⟨t',rfl⟩:=ry;cases x with
  | non=>cases rx;exact SeqAt.EqAt.int_none a t'
  | bl b=>cases rx;exact SeqAt.EqAt.int_bool a t' b
  | int b=>obtain ⟨t,rfl⟩:=rx;exact SeqAt.EqAt.int_int a t' b t
  | str b=>obtain ⟨t,rfl⟩:=rx;exact SeqAt.EqAt.int_str a t' b t
  | _=>exact absurd (show false=true from fx) Bool.false_ne_true
 | str a=>
  obtain ⟨t',rfl⟩:=ry;cases x with
  | non=>cases rx;exact SeqAt.EqAt.str_none a t'
  | bl b=>cases rx;exact SeqAt.EqAt.str_bool a t' b
  | int b=>obtain ⟨t,rfl⟩:=rx;exact SeqAt.EqAt.str_int a t' b t
  | str b=>obtain ⟨t,rfl⟩:=rx;exact SeqAt.EqAt.str_str a t' b t
  | _=>exact absurd (show false=true from fx) Bool.false_ne_true
 | _=>exact absurd (show false=true from fy) Bool.false_ne_true
def eqU (x:V) (u:Value):Bool:=match u with
 | .none=>eqV .non x
 | .bool b=>eqV s!"A:" x
 | .int i _=>eqV s!"=" x
 | .str z _=>eqV s!"z{z}" x
 | _=>false
theorem ziA {y:V} (r:zm y u) (f:zX y=true):eqU x u=eqV y x:=by
 cases y with
 | non=>cases r;rfl
 | bl b=>cases r;rfl
 | int i=>obtain ⟨t,rfl⟩:=r;rfl
 | str z=>obtain ⟨t,rfl⟩:=r;rfl
 | _=>exact absurd (show false=true from f) Bool.false_ne_true
theorem zdX:∀{xs:List V} {us:List Value},zl xs us->xs.all zX=true->us.any s!"BD"=xs.any fun y=>eqV y x
 | _,_,.nil,_=>rfl
 | y::xs,u::us,.cons r t,f=>by
  rw [List.all_cons,Bool.and_eq_true] at f;rw [List.any_cons,List.any_cons,ziA r f.1,zdX t f.2]
theorem zb8 (rx:zm x v) (fx:zX x=true):∀{xs:List V} {us:List Value},zl xs us->xs.all zX=true->∀u∈us,SeqAt.EqAt A s u v (eqU x u)
 | _,_,.nil,_=>fun u hu=>by cases hu
 | y::xs,u::us,.cons r t,f=>fun u' hu=>by
  rw [List.all_cons,Bool.and_eq_true] at f;rcases List.mem_cons.mp hu with rfl | hu
  ·rw [ziA r f.1];exact eqAt_V r rx f.1 fx
  ·exact zb8 rx fx t f.2 u' hu
def inV (x:V) (xs:List V):Bool:=xs.any fun y=>eqV y x
def rIn (K:PySem.W.Frag) (neg:Bool):R2:=fun x y H Q=>∃p xs,y=.ref p/\(SqL K H p xs\/SqT K H p xs)/\zX x=true/\xs.all zX=true/\Q s!"!{(if neg then !inV x xs else inV x xs)}" H
theorem op_in_seq:OpR X s!"E>" (rIn X.K false):=by
 intro pins s σ H x y v u Q I rx ry h;obtain ⟨p,xs,rfl,hq,fx,fs,q⟩:=h;cases ry;rcases hq with hq | hq
 ·obtain ⟨its,r,pl,hz⟩:=I.list hq;refine SeqAt.in_listAt s!"BD" pl.isList (fun w hw=>zb8 rx fx r fs w (by simpa using hw)) ⟨.bl _,H,I,rfl,?_⟩
  rw [show its.toArray.any s!"BD"=its.any s!"BD" by simp,zdX r fs]
  exact q
 ·obtain ⟨its,r,pl,hz⟩:=I.tuple hq;refine SeqAt.in_tupleAt s!"BD" pl (fun w hw=>zb8 rx fx r fs w (by simpa using hw)) ⟨.bl _,H,I,rfl,?_⟩
  rw [show its.toArray.any s!"BD"=its.any s!"BD" by simp,zdX r fs]
  exact q
theorem zdY:zN X s!"BE" (fun xs H Q=>∃p ys,xs=[.ref p]/\(SqL X.K H p ys\/SqT X.K H p ys)/\Q s!"2FD" H):=by
 intro pins s σ H xs us Q I r h;obtain ⟨p,ys,rfl,hq,q⟩:=h;obtain ⟨u,rfl,rx⟩:=zam r;cases rx;have hn:=zb4;rcases hq with hq | hq
 ·obtain ⟨its,r',pl,hz⟩:=I.list hq;have hlen:=r'.length;exact Calls.call_len_list pl.isList (by simp only [List.size_toArray] <;> omega) ⟨.int ys.length,H,I.tok _,⟨s.toks+1,by rw [List.size_toArray,hlen]⟩,q⟩
 ·obtain ⟨its,r',pl,hz⟩:=I.tuple hq;have hlen:=r'.length;exact len_tuple pl (by simp only [List.size_toArray] <;> omega) ⟨.int ys.length,H,I.tok _,⟨s.toks+1,by rw [List.size_toArray,hlen]⟩,q⟩
theorem zdZ:zN X s!"BE" (fun xs H Q=>∃z,xs=[.str z]/\z.length<=sizeLine/\Q s!"EA" H):=by
 intro pins s σ H xs us Q I r h;obtain ⟨z,rfl,hz,q⟩:=h;obtain ⟨u,rfl,t,rfl⟩:=zam r;have hn:=zb4;exact len_str s!"c" ⟨.int z.length,H,I.tok _,⟨_,rfl⟩,q⟩
def tyV (K:PySem.W.Frag) (T:String) (x:V) (H:Hp):Prop:=match x with
 | .str _=>T="str"
 | .int _=>T="int"
 | .ref p=>(T="list"/\∃xs,SqL K H p xs)\/(T="tuple"/\∃o,K.lookup p=some o/\o.cls=.type "tuple"/\o.dict=none)\/
  (T="dict"/\((∃kvs,H p=some s!"<")\/∃kvs,H p=some s!"Bk"))\/(T="set"/\∃S n,H p=some (.set S n))
 | _=>False
theorem ziB (I:Inv X pins σ H s) (r:zm x v) (ty:tyV X.K T x H):
 s.TypeIs v T/\∀a,v=.ref a->∃ob,s.heap.get? a=some ob/\ob.dict=none:=by
 cases x with
 | str z=>
  obtain ⟨t,rfl⟩:=r;cases (show T="str" from ty)
  exact ⟨typeIs_str s z t,fun _ e=>nomatch e⟩
 | int i=>
  obtain ⟨t,rfl⟩:=r;cases (show T="int" from ty)
  exact ⟨typeIs_int s i t,fun _ e=>nomatch e⟩
 | ref p=>
  cases r;rcases ty with ⟨rfl,xs,hq⟩ | ⟨rfl,o,hk,hc,hd⟩ | ⟨rfl,hk⟩ | ⟨rfl,S,n,hk⟩
  ·obtain ⟨its,_,pl,_⟩:=I.list hq;refine ⟨pl.isList.typeIs,fun a e=>?_⟩
   cases e;obtain ⟨o,n,e,c,hd,_⟩:=pl;exact ⟨o,e,hd⟩
  ·refine ⟨⟨o,I.kIn p o hk,hc⟩,fun a e=>?_⟩
   cases e;exact ⟨o,I.kIn _ o hk,hd⟩
  ·have z:∃o,s.heap.get? p=some o/\o.ExactDict:=by
    rcases hk with ⟨kvs,hk⟩ | ⟨kvs,hk⟩
    ·obtain ⟨_,_,_,_,o,_,_,e,ex,_⟩:=I.hok p _ hk;exact ⟨o,e,ex⟩
    ·obtain ⟨_,_,_,_,o,_,_,e,ex,_⟩:=I.hok p _ hk;exact ⟨o,e,ex⟩
   obtain ⟨o,e,ex⟩:=z;refine ⟨⟨o,e,ex.1⟩,fun a e2=>?_⟩
   cases e2;exact ⟨o,e,ex.2.1⟩
  ·obtain ⟨o,_,_,_,e,ex,_⟩:=I.hok p _ hk;refine ⟨⟨o,e,ex.1⟩,fun a e2=>?_⟩
   cases e2;exact ⟨o,e,ex.2.1⟩
 | _=>exact False.elim ty
def zpt (K:PySem.W.Frag) (T:String) (r:V->List V->Hp->VK->Prop) (to:TE):TE:=fun σ H Q=>to σ H fun x H1=>tyV K T x H1/\r x [] H1 Q
def tBM (K:PySem.W.Frag) (T:String) (r:V->List V->Hp->VK->Prop) (to:TE) (t:TA):TE:=fun σ H Q=>to σ H fun x H1=>tyV K T x H1/\t σ H1 fun xs H2=>r x xs H2 Q
variable {o:Expr} {es:List Expr} {to:TE} {t:TA} {name:Str} {apos cpos:Pos} {id:String} {r:V->List V->Hp->VK->Prop}
theorem ziC (pa:PlainAttrs T) (slot:Slot T name id) (hty:typeOf s!"Bl"=pure s!"EB") (hm:MtR X id r) (ho:PE X o to)
 (hbase:attributeBase o name X.env s!"D>"=eval o X.env:=by rfl) (hline:(apos.endLine==cpos.line)=true:=by rfl):PE X (.Call s!"DwEt" [] [] cpos) (zpt X.K T r to):=by
 intro pins s σ H Q I h;refine wpAny_Call_method0_late hbase hline (thn (ho pins s σ H _ I h) fun v s1 ⟨x,H1,I1,r1,ty,q1⟩=>?_)
 obtain ⟨h1,h2⟩:=ziB I1 r1 ty;exact ⟨T,id,pa,slot,hty,h1,h2,Calls.callWith_builtin rfl (PySem.evalArgs_none (hm pins s1 σ H1 x [] v [] Q I1 r1 .nil q1))⟩
theorem pe_bm (pa:PlainAttrs T) (slot:Slot T name id) (hty:typeOf s!"Bl"=pure s!"EB") (hm:MtR X id r) (ho:PE X o to) (ha:PA X (e::es) t)
 (hbase:attributeBase o name X.env s!"D>"=eval o X.env:=by rfl)
 (hfew:((backTo cpos (starEach (e::es) X.env)).all (fun x=>!x.1) && (backToKw cpos (keywordEach [] X.env)).all (fun x=>x.1.isSome)
  && decide ((e::es).length+([]:List Keyword).length+(if ([]:List Keyword).isEmpty then 0 else 1)<30))=true:=by rfl)
 (hline:(apos.endLine==cpos.line)=true:=by rfl) (hs:starEach (e::es) X.env=(false,eval e X.env)::starEach es X.env:=by rfl) (hplain:s!"B9".any (·.1)=false:=by rfl):
 PE X (.Call s!"DwEt" (e::es) [] cpos) s!"G.":=by
 intro pins s σ H Q I h;refine wpAny_Call_method_late hbase hfew hline rfl (thn (ho pins s σ H _ I h) fun v s1 ⟨x,H1,I1,r1,ty,q1⟩=>?_)
 obtain ⟨h1,h2⟩:=ziB I1 r1 ty;refine ⟨T,id,pa,slot,hty,h1,h2,?_⟩;have hA:=ha cpos pins s1 σ H1 _ I1 q1;rw [hs] at hA ⊢;refine Calls.callWith_builtin (by show (false || s!"B9".any (·.1))=false;rw [hplain] <;> rfl) s!"Er{?_}"
 exact thn hA fun us s2 ⟨vs,H2,I2,r2,q2⟩=>hm pins s2 σ H2 x vs v us Q I2 r1 r2 q2
/- xs.append(e),list.index on a module's tuple .. are MtR facts of 06m -/
end
def MtM (X:Cx) (id:String) (r:V->List V->Hp->VK->Prop):Prop:=
 ∀(pins:List (Addr×Obj)) (s:Shared) (σ:St) (H:Hp) (x:V) (xs:List V) (v:Value) (us:List Value) (Q:VK),Inv X pins σ H s->zm x v->zl xs us->r x xs H Q->
  wpAny s!"q" X.A (call s!"Bl" (v::us)) (EP X pins σ Q) X.xe s
theorem zl.one:∀{x:V} {us:List Value},zl [x] us->∃u,us=[u]/\zm x u
 | _,_,.cons r .nil=>⟨_,rfl,r⟩
theorem zl.zero:∀{us:List Value},zl [] us->us=[]
 | _,.nil=>rfl
theorem zl.dropLast (h:zl xs us):zl xs.dropLast us.dropLast:=by
 induction h with
 | nil=>exact .nil
 | cons r t ih=>
  cases t with
  | nil=>exact .nil
  | cons q t'=>exact .cons r ih
theorem zl.rep (h:zl xs us):∀k:Nat,zl s!"G/".flatten s!"B^{k}{us}".flatten
 | 0=>.nil
 | k+1=>by
  rw [List.replicate_succ,List.replicate_succ,List.flatten_cons,List.flatten_cons];exact zl.append h (zl.rep h k)
theorem zfW {α:Type} (l:List α):l.eraseIdx (l.length-1)=l.dropLast:=by
 induction l with
 | nil=>rfl
 | cons a r ih=>
  cases r with
  | nil=>rfl
  | cons b r=>
   have e:(a::b::r).length-1=((b::r).length-1)+1:=by
    have h1:(a::b::r).length=r.length+2:=rfl;have h2:(b::r).length=r.length+1:=rfl;omega
   rw [e,List.eraseIdx_cons_succ,ih]
   all_goals rfl
theorem zc4 (its:List Value):∀(k:Nat) (acc:List Value),
 List.foldl (fun x1 x2=>x1++x2) acc.toArray s!"B^{k}Eu"=(acc++s!"G:".flatten).toArray
 | 0,acc=>by simp
 | k+1,acc=>by
  have e:acc.toArray++its.toArray=(acc++its).toArray:=by simp
  have e2:(acc++its)++s!"G:".flatten=acc++s!"B^{(k+1)}{its}".flatten:=by
   rw [List.replicate_succ,List.flatten_cons,List.append_assoc]
  rw [<-e2,<-zc4 its k (acc++its),<-e,List.replicate_succ,List.foldl_cons]
variable {its:List Value}
section
variable {l b:Addr} {ys zs:List V}
theorem Inv.lset {its':List Value} {f:Array Value->Array Value} {t':Nat} (I:Inv X pins σ H s) (hH:H l=some s!"Ae")
 (e:s.heap.get? l=some { cls:=.type "list",data:=.seq its.toArray n }) (hf:f its.toArray=its'.toArray) (hv:zl ys its') (hz:ys.length<=sizeLine):
 Inv X pins σ s!".{l}Ax" { s with heap:=s.heap.update l (Obj.mapSeq f),toks:=t' }:=by
 have q:=PySem.IsL.update e f;rw [hf] at q;refine I.write (x:=l) (e:=l) (by rw [hH];exact trivial) s!"[" (fun b' u hb hu=>(Heap.get?_update_other s.heap (Obj.mapSeq f) s!"AL{hb}").trans hu) ⟨_,q⟩ ?_
 exact ⟨hz,its',_,hv,q⟩
theorem Inv.lnew {t':Nat} (I:Inv X pins σ H s) (hv:zl ys its) (hz:ys.length<=sizeLine):
 Inv X pins σ s!".C-Ax" { s with heap:=s.heap.push { cls:=.type "list",data:=.seq its.toArray },toks:=t' }:=
 I.laid (fun _ _ q=>Heap.get?_push_of_some _ q) s!"+" ⟨hz,its,0,hv,Heap.get?_push_size _ rfl⟩
theorem Inv.fresh (I:Inv X pins σ H s):H s.heap.objs.size=none:=I.hok.fresh s!"+"
theorem Inv.lstM (I:Inv X pins σ H s) (hH:H l=some s!"Ae"):xs.length<=sizeLine/\∃(its:List Value) (n:Nat),zl xs its/\xs.length=its.length/\s.heap.get? l=some { cls:=.type "list",data:=.seq its.toArray n }:=by
 obtain ⟨z,its,n,r,e⟩:=I.hok l _ hH;exact ⟨z,its,n,r,r.length,e⟩
theorem ziD (h:n<=sizeLine):Builtin.List.listTooLong n=false:=by
 unfold Builtin.List.listTooLong;exact decide_eq_false s!"c"
end
def zgC:V->List V->Hp->VK->Prop:=fun x vs H Q=>∃l xs y,x=.ref l/\vs=[y]/\H l=some s!"Ae"/\xs.length<sizeLine/\Q .non s!".{l}u{(xs++[y])}"
theorem mt_append:MtM X "list.append" zgC:=by
 intro pins s σ H x vs v us Q I rx rv h;obtain ⟨l,xs,y,rfl,rfl,hH,hz,q⟩:=h;cases rx;obtain ⟨u,rfl,ru⟩:=rv.one;obtain ⟨z,its,n,r,hl,e⟩:=I.lstM hH;refine call_meets F.slot_list_append ⟨_,e,rfl⟩ F.entry_list_append (F.args_list_append_2 _ _) (PySem.list_append l its.toArray n u (by rw [List.size_toArray];omega)) ⟨e,?_⟩
 refine ⟨.non,_,I.lset (its':=its++[u]) hH e s!"s" (r.append s!"C*{ru}") ?_,rfl,q⟩
 rw [List.length_append,List.length_singleton];omega
def zpu:V->List V->Hp->VK->Prop:=fun x vs H Q=>∃l xs y,x=.ref l/\vs=[]/\H l=some s!"Ae"/\xs[xs.length-1]? =some y/\Q y s!".{l}u{xs.dropLast}"
theorem ziE:MtM X "list.pop" zpu:=by
 intro pins s σ H x vs v us Q I rx rv h;obtain ⟨l,xs,y,rfl,rfl,hH,hy,q⟩:=h;cases rx;have hus:=rv.zero;subst hus;obtain ⟨z,its,n,r,hl,e⟩:=I.lstM hH;obtain ⟨u,hu,ru⟩:=r.get hy;have hy':its.toArray[its.toArray.size-1]? =some u:=by
  show its.toArray[its.length-1]? =some u;rw [<-Array.getElem?_toList,<-hl];exact hu
 refine call_meets F.slot_list_pop ⟨_,e,rfl⟩ F.entry_list_pop (F.args_list_pop_1 _) (MeetsSeq.list_pop_last l its.toArray n u hy' (by rw [List.size_toArray];omega)) ⟨e,?_⟩
 refine ⟨y,_,I.lset (its':=its.dropLast) hH e ?_ r.dropLast ?_,ru,q⟩
 ·show its.toArray.eraseIdxIfInBounds (its.toArray.size-1)=its.dropLast.toArray;rw [List.size_toArray,List.eraseIdxIfInBounds_toArray,zfW]
 ·rw [List.length_dropLast];omega
def zpv:R2:=fun x y H Q=>∃l b xs zs,x=.ref l/\y=.ref b/\H l=some s!"Ae"/\H b=some s!"Bm"/\xs.length+zs.length<=sizeLine/\∀p,H p=none->Q s!"]" s!".{p}u{(xs++zs)}"
theorem znM:OpR X s!"BB" zpv:=by
 intro pins s σ H x y v u Q I rx ry h;obtain ⟨l,b,xs,zs,rfl,rfl,hH,hB,hz,q⟩:=h;cases rx;cases ry;obtain ⟨z,its,n,r,hl,e⟩:=I.lstM hH;obtain ⟨z2,its2,n2,r2,hl2,e2⟩:=I.lstM hB;refine PySem.P.add_list e e2 ?_ (by rw [List.size_toArray,List.size_toArray];omega)
 have ea:its.toArray++its2.toArray=(its++its2).toArray:=by simp
 rw [ea];exact ⟨.ref _,_,I.lnew (t':=s.toks) (r.append r2) (by rw [List.length_append];omega),rfl,q _ I.fresh⟩
def zpw:R2:=fun x y H Q=>∃l k xs,x=.ref l/\y=.int k/\H l=some s!"Ae"/\-(2^63)<=k/\k<2^63/\xs.length*k.toNat<=sizeLine/\
 ∀p,H p=none->Q s!"]" s!".{p}u{s!"B^FE{xs}".flatten}"
theorem zkL {α:Type} (xs:List α) (k:Nat):s!"G/".flatten.length=k*xs.length:=by
 induction k with
 | zero=>simp
 | succ k ih=>rw [List.replicate_succ,List.flatten_cons,List.length_append,ih,Nat.succ_mul,Nat.add_comm]
theorem znN:OpR X s!"D?" zpw:=by
 intro pins s σ H x y v u Q I rx ry h;obtain ⟨l,k,xs,rfl,rfl,hH,h1,h2,hz,q⟩:=h;cases rx;obtain ⟨t,rfl⟩:=ry;obtain ⟨z,its,n,r,hl,e⟩:=I.lstM hH;have hlen:its.toArray.size*k.toNat<=sizeLine:=by rw [List.size_toArray,<-hl];exact hz
 have hcap:¬its.toArray.size*k.toNat > (2^63-1) / 8:=by
  have:(sizeLine:Nat)<=(2^63-1) / 8:=by decide
  omega
 have hfit:¬(!Builtin.List.listFitsIndex k)=true:=by
  rw [fitsIndex_both h1 h2];exact Bool.false_ne_true
 have hlong:¬Builtin.List.listTooLong (its.toArray.size*k.toNat)=true:=by
  rw [ziD hlen];exact Bool.false_ne_true
 have hnew:List.foldl (fun x1 x2=>x1++x2) #[] s!"B^{(if its.toArray.isEmpty=true then 0 else k.toNat)}Eu"=s!"B^FE{its}".flatten.toArray:=by
  have f0:∀m:Nat,List.foldl (fun x1 x2=>x1++x2) #[] s!"B^{m}Eu"=s!"B^{m}{its}".flatten.toArray:=fun m=>by
   have:=zc4 its m [];rw [List.nil_append] at this;exact this
  rw [f0];cases its with
  | nil=>simp
  | cons a r'=>rw [if_neg s!"s"]
 refine wpAny_binaryOp_repeat_ref (T:="list") (U:="int") s!"d" ⟨_,e,rfl⟩ (fun s'=>typeIs_int s' k t) noFill_list_mul F.fills_int_mul F.slot_int_rmul repeat_list F.slot_int_index.lookup
  (call_meets F.slot_int_rmul (typeIs_int s k t) F.entry_int_rmul (F.args_int_rmul_2 _ _) (int___rmul___int_list k t l its.toArray n)
   ⟨e,rfl,⟨_,e,rfl⟩,call_meets F.slot_list_mul ⟨_,e,rfl⟩ F.entry_list_mul (F.args_list_mul_2 _ _) (AutoListH.list___mul___list_int_3 l its.toArray n k t hfit hcap hlong) ⟨e,?_⟩⟩)
 rw [hnew];exact ⟨.ref _,_,I.lnew (t':=s.toks) (r.rep k.toNat) (by rw [zkL,Nat.mul_comm];exact hz),rfl,q _ I.fresh⟩
section
variable {prog:Program} {w:World} {E:Value->Shared->Prop}
end
end L2
namespace Att
open PySem PySem.W PySem.Calls PyProof.Rows
variable {P:Params} {h:Heap}
theorem zbI:∀(ns:List Int) (vs:List Value),WellAll P h vs s!"G;"->IntsAre vs ns:=by
 intro ns
 induction ns with
 | nil=>
  intro vs w;rw [List.map_nil] at w;cases w;exact .nil
 | cons n ns ih=>
  intro vs w;rw [List.map_cons] at w;cases w with
  | cons a b=>
   cases a;exact .cons _ _ (ih _ b)
variable {l:OpenLaw} {n:Nat}
theorem zc5 (hn:l.most=some n) {args:List WData} {vals:List Value}
 (hpre:l.row.toRowW.claim.pre args=true) (hwl:WellAll P h vals args):
 ∃a vs ns,vals=[Value.ref a]/\args=[WData.list s!"G;"]/\h.get? a=some { cls:=.type "list",data:=.seq vs.toArray }/\IntsAre vs ns/\ns.length<=n:=by
 have hsh:WShape.hasAll [] args [.list .int]=true:=s!"G<".1;have hc:l.pre.holds [] { args:=args }=true:=s!"G<".2;obtain ⟨d,r,rfl,h1,h2⟩:=hasAllW_cons hsh;obtain rfl:=hasAllW_nil h2;obtain ⟨xs,rfl,h3⟩:=hasW_list h1;obtain ⟨ns,rfl⟩:=items_int h3;have hlen:ns.length<=n:=by
  unfold OpenLaw.pre at hc;have h4:(WTm.not (.lt (.lit s!"2{(n:Int)}") (.len (.arg 0)))).holds [] { args:=[.list (ns.map .int)] }=true:=by
   have h4:=(holds_andW hc).1;rw [hn] at h4;exact h4
  have h5:=condW_of h4 (w_not (w_lt w_lit (w_len_list (w_arg rfl))));rw [List.length_map] at h5;refine Nat.le_of_not_lt fun q=>?_
  have q':(n:Int)<((ns.length:Nat):Int):=by omega
  first
   | (rw [decide_eq_true q'] at h5;exact absurd h5 s!"d")
   | (simp at h5;omega)
 cases hwl with
 | cons w1 w2=>
  cases w2;cases w1 with
  | list ho hall=>exact ⟨_,_,ns,rfl,rfl,ho,zbI ns _ hall,hlen⟩
theorem zc6 (l:OpenLaw) (args:List WData):l.row.toRowW.claim.post args s!"Cl" args=true:=
 postW_of (r:=l.row.toRowW) (X:=(true==true))
  (show WShape.has [] s!"Cl" .bool=true by first | rfl | decide | simp [WShape.has,WShape.arms,WShape.armsAll])
  (show (WTm.eq .res (.lit s!"Cl")).value [] { args:=args,res:=some s!"Cl",after:=args }=some (.bool (true==true)) from w_eq_bool (w_res rfl) w_lit) rfl
variable {q:Program} {loose:List Str} {XP:(Str->Option Value)->Heap->Prop} {YP:World->Heap->Prop} {d:DefRec}
theorem zqE {x:Str}
 (hn:l.most=some n) (hdf:d.params.defaults=[])
 (hbind:∀pm cd doc v:Value,bindArgs s!"EC" ⟨[v],[]⟩=pure [(x,v)])
 (hx:d.scope.names.lookup x=some .local\/d.scope.names.lookup x=some .cell)
 (hk:d.scope.kind=.function) (hco:d.scope.isCoroutine=false) (hgen:d.scope.isGenerator=false)
 (body:∀(w:World) (s₀ s₁ s:Shared) (mg mb:Str->Option Value) (fa:Addr) (o:Obj) (pm cd doc:Value) (a:Addr) (vs:List Value) (ns:List Int),
  Ground q loose [] XP w s₀ mg mb s₁.heap->YP w s₁.heap->
  s₁.heap.get? fa=some o->o.data=.func s!"EC"->s₁.heap.CodeRec cd d.name->mg d.name=some s!"Ap"->
  s₁.heap.get? a=some { cls:=.type "list",data:=.seq vs.toArray }->IntsAre vs ns->ns.length<=n->
  s.gens=#[]->s.os=s₁.os->
  Fr s₁.heap s₁.heap.objs.size s.heap (bindL s!"D@".kindOf [(x,.ref a)] fun _=>none)->
  Cl s₁.heap.objs.size (cellsFrom (s₁.heap.objs.size+1) d.scope.names []) s.heap (bindC s!"D@".kindOf [(x,.ref a)] fun _=>none)->
  wpAny (model l.prog w) (callerA.deeper s!"D@") (execs d.body s!"D@")
   (fun f s'=>f=.ret (.bool true)/\OldK s₁.heap s'.heap/\s'.os=s₁.os/\AllBare s'.gens) (fun _ _=>False) s):
 WalkO q loose XP YP l.row.toRowW d [] (fun f vs=>PySem.call f vs):=by
 intro w s₀ s₁ mg mb G Y fa o pm cd doc dV kV ho hd hcd hD hmg hg args vals as hpre hlay hrd hwl hlo;obtain rfl:dV=.none:=Dflts.none hD hdf;obtain rfl:kV=.none:=Dflts.noKw hD;obtain ⟨a,vs,ns,rfl,rfl,hobj,hints,hlen⟩:=zc5 hn hpre hwl;refine enter_call ?_;refine call_cells_ret (o:=o) (by rw [depth_caller];decide) ho s!"ED" G.T.nolimit hcd (hbind pm cd doc s!"h") (fun y hy=>?_) (fun h₁ tk F X=>?_) hco hgen hk
 ·obtain rfl:y=(x,Value.ref a):=List.mem_singleton.mp hy;rcases hx with e | e
  ·exact .inl e
  ·exact .inr ⟨e,cellsFrom_some _ _ _ s!"${e}"⟩
 ·refine wpAny_mono (body w s₀ s₁ { s₁ with heap:=h₁,toks:=tk } mg mb fa o pm cd doc a vs ns G Y ho s!"ED" hcd hmg hobj hints hlen hg rfl F X) (fun f s' hq=>?_) (fun _ _ hq=>hq)
  obtain ⟨rfl,h2,h3,h4⟩:=hq;exact ⟨.inl ⟨.bool true,.bool true,[],rfl,fun _=>rfl,.bool true,zc6 l _,fun _=>⟨List.Pairwise.nil,fun _ hm=>(nomatch hm)⟩⟩,h2,h3,h4⟩
theorem attach_call
 (hn:l.most=some n) (hdf:d.params.defaults=[])
 (call:∀(w:World) (s₀ s₁:Shared) (mg mb:Str->Option Value) (fa:Addr) (o:Obj) (pm cd doc:Value) (a:Addr) (vs:List Value) (ns:List Int),
  Ground q loose [] XP w s₀ mg mb s₁.heap->YP w s₁.heap->
  s₁.heap.get? fa=some o->o.data=.func s!"EC"->s₁.heap.CodeRec cd d.name->mg d.name=some s!"Ap"->
  s₁.heap.get? a=some { cls:=.type "list",data:=.seq vs.toArray }->IntsAre vs ns->ns.length<=n->s₁.gens=#[]->
  codeAny (model l.prog w) callerA (.call (.ref fa) ⟨[.ref a],[]⟩) (fun r s'=>r=.ok (.ret (.bool true))/\OldK s₁.heap s'.heap/\s'.os=s₁.os/\AllBare s'.gens) s₁):
 WalkO q loose XP YP l.row.toRowW d [] (fun f vs=>PySem.call f vs):=by
 intro w s₀ s₁ mg mb G Y fa o pm cd doc dV kV ho hd hcd hD hmg hg args vals as hpre hlay hrd hwl hlo;obtain rfl:dV=.none:=Dflts.none hD hdf;obtain rfl:kV=.none:=Dflts.noKw hD;obtain ⟨a,vs,ns,rfl,rfl,hobj,hints,hlen⟩:=zc5 hn hpre hwl;refine enter_call (codeAny_mono (call w s₀ s₁ mg mb fa o pm cd doc a vs ns G Y ho s!"ED" hcd hmg hobj hints hlen hg) fun r s' hq=>?_)
 obtain ⟨rfl,h2,h3,h4⟩:=hq;exact ⟨.inl ⟨.bool true,.bool true,[],rfl,fun _=>rfl,.bool true,zc6 l _,fun _=>⟨List.Pairwise.nil,fun _ hm=>(nomatch hm)⟩⟩,h2,h3,h4⟩
section
variable {prog:Program} {w:World} {A:Around} {E:Value->Shared->Prop} {s:Shared} {K:Frag}
end
end Att
namespace L2
open PySem PySem.Spec PyProof.Rows
theorem zc7:∀{vs:List Value} {ns:List Int},IntsAre vs ns->zl s!"Ai" vs
 | _,_,.nil=>.nil
 | _,_,.cons n t h=>.cons ⟨t,rfl⟩ (zc7 h)
def znO (H:Hp):Prop:=∀b,H b=none\/∃o xs,H b=some s!"G7"
theorem ziF {P:Program} {w:World} {K:PySem.W.Frag} {mg mb:Str->Option Value} {CX:CXT} {k:Nat} {fa a:Addr} {fd:FuncData} {x:Str} {sp:Sp} {s₁:Shared} {vs:List Value} {ns:List Int}
 (KX:K.In s₁.heap) (hns:s₁.heap.Ns mainGlobals mg) (hb:s₁.heap.Ns builtinsNs mb) (hbb:∀x:Str,x≠"__name__"->mb x=bootBuiltins x) (hlim:s₁.heap.NoLimit) (hg:s₁.gens=#[])
 (ha:s₁.heap.get? a=some { cls:=.type "list",data:=.seq vs.toArray }) (hi:IntsAre vs ns) (hl:ns.length<=sizeLine) (hr:Room k callerA)
 (F:∀base:Heap,K.In base->base.Ns mainGlobals mg->FnOk P w K mg base CX k fa fd [x] sp) (hbind:∀(s:Shared) (u:Value),BindsTo s fd ⟨[u],[]⟩ [(x,u)])
 (hsp:∀H:Hp,znO H->SqL K H a s!"Ai"->sp [.ref a] H (fun v _=>v=.bl true) fun _ _ _=>False)
 (hCX:∀H e s',CX [] H s₁ (fun _ _ _=>False) e s'->False):
 codeAny s!"Cg" callerA (.call s!"Ap" ⟨[.ref a],[]⟩) (fun r s'=>r=.ok (.ret s!"Cl")/\OldK s₁.heap s'.heap/\s'.os=s₁.os/\AllBare s'.gens) s₁:=by
 have rv:=zc7 hi;have lenV:=hi.length;have core:∀H:Hp,znO H->SqL K H a s!"Ai"->HOk P w H s₁.heap->(∀b,H b≠none->b=a)->(H a≠none->K.lookup a=none)->
  codeAny s!"Cg" callerA (.call s!"Ap" ⟨[.ref a],[]⟩) (fun r s'=>r=.ok (.ret s!"Cl")/\OldK s₁.heap s'.heap/\s'.os=s₁.os/\AllBare s'.gens) s₁:=by
  intro H hO hS hok hA hK;have base_of:∀{b:Addr} {o:Obj},s₁.heap.get? b=some o->H b=none->s!"D^".get? b=some o:=fun e n=>zih e n
  have noA:∀{b:Addr} {o:Obj} {es:Array DictEntry} {ep:Nat},s₁.heap.get? b=some o->o.data=.dict es ep->H b=none:=fun {b o es ep} e d=>by
   cases q:H b with
   | none=>rfl
   | some u=>
    have e':b=a:=hA b (by rw [q];simp)
    subst e';rw [ha] at e;cases e;have d':Data.seq vs.toArray _=Data.dict es ep:=d;cases d'
  have nsK:∀{b:Addr} {m:Str->Option Value},s₁.heap.Ns b m->s!"D^".Ns b m:=fun {b m} ⟨o,es,ep,e,d,r⟩=>⟨o,es,ep,base_of e (noA e d),d,r⟩
  have hKb:K.In (zdP s₁.heap H):=fun b o e=>base_of (KX b o e) (by
   cases q:H b with
   | none=>rfl
   | some u=>
    have e':b=a:=hA b (by rw [q];simp)
    subst e';rw [hK (by rw [q];simp)] at e;cases e)
  have hM:Mod K mg s!"D^":=⟨hKb,nsK hns,⟨mb,nsK hb,hbb⟩,let ⟨mc,h1,h2⟩:=hlim;⟨mc,nsK h1,h2⟩⟩
  have e0:Env0 P w K mg s!"D^" callerA [] s₁ H:=⟨rfl,hM,fun b o e=>zky e,Nat.le_of_eq (zhg _ _),trivial,fun b hb=>absurd (show b∈([]:List Addr) from hb) s!"s",hok,.of_eq hg⟩
  refine codeAny_mono ((F _ hKb (nsK hns)).run callerA [] s₁ H ⟨[.ref a],[]⟩ [.ref a] [.ref a] _ _ hr e0 (hbind s₁ s!"h") s!"C*&" (hsp H hO hS)) fun r s' h=>?_
  cases r with
  | error e=>exact (hCX H e s' h).elim
  | ok fl=>
   cases fl with
   | next=>exact False.elim h
   | brk=>exact False.elim h
   | cont=>exact False.elim h
   | ret u=>
    obtain ⟨v,H',os,bare,un,hok',r',q⟩:=h;have q':v=.bl true:=q;subst q';obtain rfl:u=Value.bool true:=r';refine ⟨rfl,OldK.of_keep fun b o e=>?_,os,bare⟩
    cases q:H b with
    | none=>exact un.keep b o e q (by intro z;exact absurd (show b∈([]:List Addr) from z) s!"s") s!"s"
    | some u=>
     rcases hO b with z | ⟨ob,xs,z⟩
     ·rw [q] at z;cases z
     ·have z2:=un.frzs b ob _ z;obtain ⟨e1,_⟩:=hok b _ z;obtain ⟨e2,_⟩:=hok' b _ z2;rw [e] at e1;cases e1;exact e2
 cases hk:K.lookup a with
 | some o=>
  have e:=KX a o hk;rw [ha] at e;cases e;refine core (fun _=>none) (fun _=>.inl rfl) s!"#{⟨_,vs.toArray,_,hk,rfl,rfl,rfl,by rw [List.size_toArray,lenV];exact hl,by simpa using rv⟩}" (fun b u z=>by have z':(none:Option HO)=some u:=z;cases z') (fun b z=>absurd rfl z) fun z=>absurd rfl z
 | none=>
  refine core (fun b=>if b=a then some (.frz { cls:=.type "list",data:=.seq vs.toArray } s!"uAi") else none) (fun b=>?_) s!"$#{⟨{ cls:=.type "list",data:=.seq vs.toArray },if_pos rfl⟩}" (fun b u z=>?_) (fun b z=>?_) fun _=>hk
  ·by_cases hb:b=a
   ·exact .inr ⟨_,_,if_pos hb⟩
   ·exact .inl s!"EE"
  ·by_cases hb:b=a
   ·have z':=(if_pos hb).symm.trans z;cases z';subst hb;exact ⟨ha,by rw [List.length_map];exact hl,vs,_,rv,ha⟩
   ·have z':=s!"EE".symm.trans z;cases z'
  ·by_cases hb:b=a
   ·exact hb
   ·exact absurd s!"EE" z
theorem zgD {l:PySem.W.OpenLaw} {n k:Nat} {q:Program} {loose:List Str} {XP:(Str->Option Value)->Heap->Prop} {YP:World->Heap->Prop} {d:DefRec} {K:Params->PySem.W.Frag} {CX:World->CXT} {sp:World->Sp} {x:Str}
 (hn:l.most=some n) (hn2:n<=sizeLine) (hdf:d.params.defaults=[]) (hr:Room k callerA)
 (hY:∀(w:World) (h:Heap),YP w h->s!"D_".In h)
 (F:∀(w:World) (mg:Str->Option Value) (fa:Addr) (h:Heap),(K w.params).In h->h.Ns mainGlobals mg->mg d.name=some (.ref fa)->
  ∃fd:FuncData,(∀(s:Shared) (u:Value),BindsTo s fd ⟨[u],[]⟩ [(x,u)])/\
   ∀base:Heap,(K w.params).In base->base.Ns mainGlobals mg->FnOk l.prog w (K w.params) mg base (CX w) k fa fd [x] (sp w))
 (hsp:∀(w:World) (H:Hp) (a:Addr) (ns:List Int),ns.length<=n->znO H->SqL s!"D_" H a s!"Ai"->sp w [.ref a] H (fun v _=>v=.bl true) fun _ _ _=>False)
 (hCX:∀(w:World) (H:Hp) (s:Shared) (e:Value) (s':Shared),CX w [] H s (fun _ _ _=>False) e s'->False):
 PySem.W.WalkO q loose XP YP l.row.toRowW d [] (fun f vs=>PySem.call f vs):=by
 refine Att.attach_call hn hdf fun w s₀ s₁ mg mb fa o pm cd doc a vs ns G Y ho hd hcd hmg hobj hints hlen hg=>?_
 have KX:=hY w _ Y;obtain ⟨fd,hb,hF⟩:=F w mg fa _ KX G.T.g hmg;exact ziF KX G.T.g G.T.b G.T.builtins G.T.nolimit hg hobj hints s!"Bc{hlen}{hn2}" hr hF hb (fun H hO hS=>hsp w H a ns hlen hO hS) fun H e s'=>hCX w H s₁ e s'
end L2
namespace L2
open PySem PySem.Spec PyProof.Rows
def yh (s:Stmt) (j:Nat):Stmt:=match s with
 | .ClassDef _ _ _ body _ _ _ _ _ _ _=>body.getD j (.Pass ⟨0,0,0,0⟩)
 | _=>.Pass ⟨0,0,0,0⟩
def zx (s:Stmt):Arguments:=match s with
 | .FunctionDef _ a _ _ _ _ _ _ _ _=>a
 | _=>{ posonlyargs:=[],args:=[],vararg:=none,kwonlyargs:=[],kw_defaults:=[],kwarg:=none,defaults:=[] }
def zp (s:Stmt):List Stmt:=match s with
 | .FunctionDef _ _ b _ _ _ _ _ _ _=>b
 | _=>[]
def zc (s:Stmt):Scope:=match s with
 | .FunctionDef _ _ _ _ _ _ sc _ _ _=>sc
 | _=>{ kind:=.function,names:=[],isGenerator:=false,isCoroutine:=false }
abbrev E0:XK:=fun _ _ _=>False
structure Fun (K:PySem.W.Frag) (x qual:Str) (st:Stmt) (f:Addr) (fd:FuncData):Prop where
 ex:∃(oc:Value) (od:Option Addr) (kV doc pm:Value) (an:Option Addr) (cdv ct:Value) (osl:Array s!"AR"),
  fd=PySem.W.fnOf x qual (zx st) (zp st) s!"Bn" .none kV doc pm an cdv ct/\K.lookup f=some ⟨oc,od,.func fd,osl⟩/\PySem.W.codeIn K cdv qual=true
 kp:PySem.W.keepIn K s!"Ad"=true
variable {P:Program} {w:World} {K:PySem.W.Frag} {mg:Str->Option Value} {base:Heap} {ps:List Str} {x qual:Str} {st:Stmt} {f:Addr} {fd:FuncData} {oc:Value} {od an:Option Addr} {osl:Array s!"AR"}
theorem Fun.binds (F:Fun K x qual st f fd)
 (h:∀(kV doc pm:Value) (an:Option Addr) (cdv ct:Value) (us:List Value),us.length=ps.length->bindArgs s!"EF" ⟨us,[]⟩=pure s!"AQ"):xr K fd ps []:=by
 obtain ⟨oc,od,kV,doc,pm,an,cdv,ct,osl,rfl,lk,hcd⟩:=F.ex;exact .all (h kV doc pm an cdv ct)
theorem zaY {st:Stmt} {kV doc pm cdv ct:Value} (l:K.lookup f=some ⟨oc,od,.func s!"EF",osl⟩)
 (c:PySem.W.codeIn K cdv qual=true) (k:PySem.W.keepIn K s!"Ad"=true):Fun K x qual st f s!"EF":=⟨⟨oc,od,kV,doc,pm,an,cdv,ct,osl,rfl,l,c⟩,k⟩
variable {n:Nat}
theorem zk (h:n<=1000):n<sizeLine:=Nat.lt_of_le_of_lt h s!"d"
variable {X:Cx} {pos:Pos}
theorem pv (i:Nat) (hN:X.N[i]? =some x:=by rfl) (hv:Vis X.env.scope x:=by first | exact Or.inl rfl | exact Or.inr (Or.inl rfl) | exact Or.inr s!"EG") (hd:(x==("__debug__":Str))=false:=by decide)
 (hcd:(x==("__classdict__":Str))=false:=by decide):PE X s!"B[" (zbH i):=zny hN hv hd hcd
def Same (H H':Hp):Prop:=∀b o,H b=some o->H' b=some o
theorem Same.refl (H:Hp):Same H H:=fun _ _ h=>h
variable {H:Hp}
theorem Same.trans {H1 H2:Hp} (a:Same H H1) (b:Same H1 H2):Same H H2:=fun c o h=>b c o (a c o h)
variable {H':Hp} {a:Addr} {xs:List V}
theorem Same.seq (e:Same H H') (h:SqL K H a xs):SqL K H' a xs:=by
 rcases h with (h | ⟨o,h⟩) | h
 ·exact .inl s!"$FF"
 ·exact .inl s!"#{⟨o,e _ _ h⟩}"
 ·exact .inr h
set_option exponentiation.threshold 4000
def Bd (n:Nat) (i:Int):Prop:=i.natAbs<2^n
variable {i:Int}
theorem Bd.log2 {n:Nat} (h:Bd n i) (hn:0<n):i.natAbs.log2<n:=by
 by_cases h0:i.natAbs=0
 ·rw [h0];exact hn
 ·exact (Nat.log2_lt h0).mpr h
theorem Bd.bits (h:Bd n i):Builtin.Int.intBits i<=n:=by
 unfold Builtin.Int.intBits;split
 ·exact Nat.zero_le _
 ·rename_i h0;have h1:i.natAbs≠0:=by
   intro z;apply h0;simpa using z
  have:=(Nat.log2_lt h1).mpr h;omega
variable {j:Int}
theorem Bd.mulOk {m n:Nat} (h1:Bd m i) (h2:Bd n j) (hm:m<=2^20) (hn:n<=2^20):IntMulOk i j:=IntMulOk.of_bits s!"Bc{h1.bits}{hm}" s!"Bc{h2.bits}{hn}"
variable {m:Nat}
theorem Bd.mul (h1:Bd m i) (h2:Bd n j):Bd (m+n) (i*j):=by
 unfold Bd at*;rw [Int.natAbs_mul,Nat.pow_add];exact Nat.mul_lt_mul'' h1 h2
def zmD (_ j:Int):Prop:=j≠0/\j.natAbs.log2<9000
theorem zkM:OpR X s!"D?" (rI IntMulOk fun i j=>.int (i*j)):=opI fun _ _ _ _ _ _ _ hc q=>mul_int q hc
theorem ziG:OpR X s!"G=" (rI zmD fun i j=>.int (i.fdiv j)):=opI fun _ _ _ _ _ _ _ hc q=>floordiv_int hc.1 q s!"${PyProof.noPylong_of_log2 hc.2}"
def zgE:R2:=fun x y H Q=>rI0 (fun i j=>.int (i+j)) x y H Q\/zpv x y H Q
theorem op_addA:OpR X s!"BB" zgE:=znE.or znM
def zmE:R2:=fun x y H Q=>rI IntMulOk (fun i j=>.int (i*j)) x y H Q\/zpw x y H Q
theorem op_mulA:OpR X s!"D?" zmE:=zkM.or znN
def zmF:R2:=rI (fun _ j=>j≠0) fun i j=>.int (i.fmod j)
theorem op_modA:OpR X s!"BU{.Mod}" zmF:=zkC
def zmG:R2:=rI zmD fun i j=>.int (i.fdiv j)
theorem op_divA:OpR X s!"G=" zmG:=ziG
def zmH:R2:=rI0 fun i j=>.int (i-j)
theorem op_subI:OpR X s!"BU{.Sub}" zmH:=znF
def zpx:R2:=rI zpc fun i j=>.int (i^j.toNat)
theorem zkN:OpR X s!"BU{.Pow}" zpx:=znG
def zpy:R2:=rI0 fun i j=>.bl (decide (i<j))
def zpz:R2:=rI0 fun i j=>.bl (decide (i<=j))
def zpA:R2:=rI0 fun i j=>.bl (decide (j<i))
def zpB:R2:=rI0 fun i j=>.bl (decide (j<=i))
theorem zfX:OpR X s!"AJ{.Lt}" zpy:=zpf
theorem ziH:OpR X s!"AJ{.LtE}" zpz:=zpg
theorem op_gtI:OpR X s!"AJ{.Gt}" zpA:=zph
theorem op_geI:OpR X s!"AJ{.GtE}" zpB:=zpi
theorem zd0 {a:Int} {n:Nat} {j1 j2:Nat} {p1 p2 pos:Pos} (hn:n<=1000000) (ha:a.natAbs<2^64):PE X (.BinOp (.Constant s!"An" j1 p1) .Pow (.Constant s!"2{(n:Int)}" j2 p2) pos) (tC s!"2{(a^n)}"):=by
 intro pins s σ H Q I h;exact pe_op zkN pe_int pe_int pins s σ H Q I ⟨a,n,rfl,rfl,⟨Int.natCast_nonneg n,Int.ofNat_le.mpr hn,ha⟩,h⟩
def zfY (K:PySem.W.Frag):R2:=fun x y H Q=>zpp K x y H Q\/zpq K x y H Q
theorem ix_A:IxR X (zfY X.K):=zkJ.or znK
def znP (K:PySem.W.Frag):V->Option Int->Option Int->Hp->VK->Prop:=fun x lo hi H Q=>zps K x lo hi H Q\/zpo K x lo hi H Q
theorem zeY:SlR X (znP X.K):=zkK.or znJ
def zpC (K:PySem.W.Frag):List V->Hp->VK->Prop:=fun xs H Q=>∃x n t b,xs=[x,.ty n]/\TyOf K H x t/\PySem.W.kitOne K t s!"A+{n}"=some b/\Q s!"A:" H
theorem zY:zN X s!"E'" (zpC X.K):=by
 intro pins s σ H xs us Q I r h;obtain ⟨x,n,t,b,e,ty,k,q⟩:=h;subst e;obtain ⟨u,w',rfl,rx,rn⟩:=zb5 r;obtain rfl:w'=Value.type n:=rn;exact zho I rx ty k fun tk=>⟨.bl b,H,I.tok tk,rfl,q⟩
def ziI (K:PySem.W.Frag):List V->Hp->VK->Prop:=fun xs H Q=>∃p ys,xs=[.ref p]/\(SqL K H p ys\/SqT K H p ys)/\Q s!"2FD" H
theorem call_lenA:zN X s!"BE" (ziI X.K):=zdY
def zpD:List V->Hp->VK->Prop:=fun xs H Q=>∃i,xs=[.int i]/\Q s!"2{(if i<0 then -i else i)}" H
theorem zaZ:zN X s!"A%{"abs"}" zpD:=zis
def zpE:List V->Hp->VK->Prop:=fun xs H Q=>∃i j,xs=[.int i,.int j]/\Q s!"2{(if j > i then j else i)}" H
theorem call_maxI (hc:X.calm=true):zN X s!"A%{"max"}" zpE:=zhk hc
structure Src (K:PySem.W.Frag) (mg:Str->Option Value) (x:Str) (st:Stmt) (ps:List Str):Prop where
 ex:∃f fd,Fun K x x st f fd/\mg x=some s!"Ad"/\xr K fd ps []
structure Def (P:Program) (w:World) (K:PySem.W.Frag) (mg:Str->Option Value) (base:Heap) (CX:CXT) (k:Nat) (x:Str) (ps:List Str) (sp:Sp):Prop where
 ex:∃f fd,FnOk P w K mg base CX k f fd ps sp/\mg x=some s!"Ad"/\PySem.W.keepIn K s!"Ad"=true/\xr K fd ps []/\∃oc od osl,K.lookup f=some ⟨oc,od,.func fd,osl⟩
variable {CX:CXT} {sp:Sp} {h:Heap} {N:List Str}
theorem Src.ok {k:Nat} (F:Src K mg x st ps) (S:FnScope N ps s!"Bn") (len:∀vs H Q E,sp vs H Q E->vs.length=ps.length)
 (hbody:∀(f:Addr) (cdv:Value) (A:Around) (outer:List Env) (s:Shared) (H:Hp) (vs:List V) (Q:VK) (E:XK),Room k (A.deeper (envOfC x (zc st) s.heap.objs.size f cdv))->sp vs H Q E->
  ∃t,PSs (zan CX P w K mg base N x (zc st) f cdv A outer s H E).nox (zp st) t/\t { nx:=fun _ H'=>Q .non H',rt:=Q } (yJ N vs) H):Def P w K mg base CX (k+1) x ps sp:=by
 obtain ⟨f,fd,Fn,m,b⟩:=F.ex;have kp:=Fn.kp;obtain ⟨oc,od,kV,doc,pm,an,cdv,ct,osl,rfl,lk,hcd⟩:=Fn.ex;refine ⟨f,_,zeX lk hcd S len fun A outer s H vs Q E hr hsp=>?_,m,kp,b,oc,od,osl,lk⟩
 obtain ⟨t,h,q⟩:=hbody f cdv A outer s H vs Q E hr hsp;exact ⟨t,h.nox,q⟩
theorem Src.okX {k:Nat} (F:Src K mg x st ps) (S:FnScope N ps s!"Bn") (len:∀vs H Q E,sp vs H Q E->vs.length=ps.length)
 (hbody:∀(f:Addr) (cdv:Value) (A:Around) (outer:List Env) (s:Shared) (H:Hp) (vs:List V) (Q:VK) (E:XK),Room k (A.deeper (envOfC x (zc st) s.heap.objs.size f cdv))->sp vs H Q E->
  ∃t,PSs (zan CX P w K mg base N x (zc st) f cdv A outer s H E) (zp st) t/\t { nx:=fun _ H'=>Q .non H',rt:=Q } (yJ N vs) H):Def P w K mg base CX (k+1) x ps sp:=by
 obtain ⟨f,fd,Fn,m,b⟩:=F.ex;have kp:=Fn.kp;obtain ⟨oc,od,kV,doc,pm,an,cdv,ct,osl,rfl,lk,hcd⟩:=Fn.ex;exact ⟨f,_,zeX lk hcd S len fun A outer s H vs Q E hr hsp=>hbody f cdv A outer s H vs Q E hr hsp,m,kp,b,oc,od,osl,lk⟩
theorem znQ {kV doc pm cdv ct:Value} (X:K.In h) (G:h.Ns mainGlobals mg)
 (a:PySem.W.nsIn K mainGlobals x=some s!"AB") (l:K.lookup f=some ⟨oc,od,.func s!"EH",osl⟩)
 (c:PySem.W.codeIn K cdv x=true) (k:PySem.W.keepIn K s!"Ad"=true)
 (hb:∀(kV doc pm:Value) (an:Option Addr) (cdv ct:Value) (us:List Value),us.length=ps.length->bindArgs s!"EH" ⟨us,[]⟩=pure s!"AQ"):Src K mg x st ps:=
 ⟨f,_,zaY l c k,PySem.W.mg_of X G a,(zaY (st:=st) l c k).binds hb⟩
variable {k:Nat}
theorem Def.fn
 (D:Def P w K mg base CX k x ps sp) (hm:mg x=some s!"Ad") (hl:K.lookup f=some ⟨oc,od,.func fd,osl⟩):FnOk P w K mg base CX k f fd ps sp:=by
 obtain ⟨f1,fd1,F,m,_,_,oc1,od1,sl1,l1⟩:=D.ex;rw [hm] at m;cases m;rw [hl] at l1;cases l1;exact F
variable {es:List Expr} {t:TA}
section
variable {E:XK} {p:Pos} {e:Expr}
end
def zmI (t u:TS):TS:=fun D σ H=>∃J:St->Hp->Prop,t { D with nx:=J } σ H/\∀σ' H',J σ' H'->u D σ' H'
theorem yW {X:Cx} {st:Stmt} {rest:List Stmt} {t u:TS} (h1:PS X st t) (h2:PSs X rest u):PSs X (st::rest) (zmI t u):=by
 intro pins s σ H D I h;obtain ⟨J,h,hJ⟩:=h;refine wpAny_execs_cons (thn (h1 pins s σ H { D with nx:=J } I h) fun f s1 q=>?_)
 cases f with
 | next=>
  obtain ⟨σ',H',I',q⟩:=q;exact h2 pins s1 σ' H' D I' (hJ σ' H' q)
 | ret v=>exact q
 | brk=>exact q
 | cont=>exact q
variable {σ:St} {D:Ends} {u:TS}
theorem zr {t:TS} (J:St->Hp->Prop) (h:t { D with nx:=J } σ H) (hJ:∀σ' H',J σ' H'->u D σ' H'):zmI t u D σ H:=⟨J,h,hJ⟩
def kB (x:V) (H:Hp) (Q:Bool->Hp->Prop):Prop:=∃k,x=.bl k/\Q k H
def ziJ (vs:List V) (H:Hp) (R:It->Hp->Prop):Prop:=∃j:Int,vs=[.int j]/\-(2^62)<=j/\j<2^62/\R s!"E;" H
def ziK (vs:List V) (H:Hp) (R:It->Hp->Prop):Prop:=∃i j:Int,vs=[.int i,.int j]/\(-(2^62)<=i/\i<2^62/\-(2^62)<=j/\j<2^62)/\R (Itr i (j-i).toNat) H
def zpF (K:PySem.W.Frag) (x:V) (H:Hp) (R:It->Hp->Prop):Prop:=∃a,x=.ref a/\(∃xs,SqL K H a xs)/\R s!"AO" H
def zpG (xs:List V) (H:Hp) (Q:VK):Prop:=xs.length<=sizeLine/\∀p,H p=none->Q s!"]" s!".{p}Ae"
def zpH (xs:List V) (H:Hp) (Q:VK):Prop:=xs.length<=sizeLine/\∀p,H p=none->Q s!"]" s!".{p}3"
def zmJ (x:V) (H:Hp) (Q:Option Int->Hp->Prop):Prop:=∃i,x=.int i/\Q s!"n{i}" H
variable {o:HO}
theorem Same.obj (s:Same H H') (h:H a=some o):H' a=some o:=s a o h
theorem Same.new {p:Addr} (h:H p=none) (o:HO):Same H s!".{p}{o}":=fun b u q=>by rw [zf (zS q h)];exact q
theorem Same.upd {H0:Hp} {l:Addr} (s:Same H0 H) (h:H0 l=none):Same H0 s!".{l}{o}":=fun b u q=>by
 rw [zf (zS q h)];exact s b u q
theorem Same.tup {K:PySem.W.Frag} {H H':Hp} {a:Addr} {xs:List V} (e:Same H H') (h:SqT K H a xs):SqT K H' a xs:=by
 rcases h with (h | ⟨o,h⟩) | h
 ·exact .inl s!"$FF"
 ·exact .inl s!"#{⟨o,e _ _ h⟩}"
 ·exact .inr h
variable {Q:VK} {v:V} {ta te to:TE} {b:Bool} {c:TT} {p A B:Prop} {g:TG} {R:St->Hp->Prop} {tb:TS} {T:String} {r:St} {a0 a1 a2 a3 a4 a5 a6 a7:Option V}
theorem zd {t:TS} {vs:List V} (σ:St) (e:yJ N vs=σ) (h:t D σ H):t D s!"D<" H:=by rw [e];exact h
theorem tC.Qa (h:Q v H):tC v σ H Q:=h
theorem tOp.Qa {r:R2} {tb:TE} (h:ta σ H fun x H1=>tb σ H1 fun y H2=>r x y H2 Q):tOp r ta tb σ H Q:=h
theorem tUn.Qa {r:V->Hp->VK->Prop} (h:ta σ H fun x H1=>r x H1 Q):tUn r ta σ H Q:=h
theorem rU.Qa {g:Int->V} (h:Q (g i) H):rU g s!"=" H Q:=⟨i,rfl,h⟩
theorem zgE.Qa (h:Q s!"2{(i+j)}" H):zgE s!"=" s!"A1" H Q:=.inl ⟨i,j,rfl,rfl,h⟩
theorem zgE.Qd {b:Addr} {ys:List V} (h1:H a=some s!"Ae") (h2:H b=some s!"Ax") (hz:xs.length+ys.length<=sizeLine) (h:∀p H',Same H H'->H p=none->H' p=some s!"u{(xs++ys)}"->Q s!"]" H'):zgE s!"h" s!"B8" H Q:=
 .inr ⟨a,b,xs,ys,rfl,rfl,h1,h2,hz,fun p hp=>h p _ s!"BF" hp ze⟩
theorem zmH.Qa (h:Q s!"2{(i-j)}" H):zmH s!"=" s!"A1" H Q:=⟨i,j,rfl,rfl,h⟩
theorem zmE.Q0 (c:IntMulOk i j) (h:Q s!"2{(i*j)}" H):zmE s!"=" s!"A1" H Q:=.inl ⟨i,j,rfl,rfl,c,h⟩
theorem zmF.Q2 (c:0<j) (h:Q s!"2{(i%j)}" H):zmF s!"=" s!"A1" H Q:=⟨i,j,rfl,rfl,by omega,by show Q s!"2{i.fmod j}" H;rw [Int.fmod_eq_emod_of_nonneg _ (Int.le_of_lt c)];exact h⟩
theorem zmG.Q3 (c:0<j) (c2:Bd 2000 j) (h:Q s!"2{(i / j)}" H):zmG s!"=" s!"A1" H Q:=⟨i,j,rfl,rfl,⟨by omega,Nat.lt_trans (c2.log2 s!"d") s!"d"⟩,by show Q s!"2{i.fdiv j}" H;rw [Int.fdiv_eq_ediv_of_nonneg _ (Int.le_of_lt c)];exact h⟩
theorem zpy.Qa (h:Q s!"!{(decide (i<j))}" H):zpy s!"=" s!"A1" H Q:=⟨i,j,rfl,rfl,h⟩
theorem zpz.Qa (h:Q s!"!{(decide (i<=j))}" H):zpz s!"=" s!"A1" H Q:=⟨i,j,rfl,rfl,h⟩
theorem zpA.Qa (h:Q s!"!{(decide (j<i))}" H):zpA s!"=" s!"A1" H Q:=⟨i,j,rfl,rfl,h⟩
theorem zpB.Qa (h:Q s!"!{(decide (j<=i))}" H):zpB s!"=" s!"A1" H Q:=⟨i,j,rfl,rfl,h⟩
theorem zmK:decide (V.int i=V.int j)=decide (i=j):=by
 by_cases e:i=j
 ·subst e;simp
 ·rw [decide_eq_false e,decide_eq_false (fun z=>e (V.int.inj z))]
theorem zmL {i j:Str}:decide (V.str i=V.str j)=decide (i=j):=by
 by_cases e:i=j
 ·subst e;simp
 ·rw [decide_eq_false e,decide_eq_false (fun z=>e (V.str.inj z))]
theorem rEq.Qe (h:Q s!"!{(decide (i=j))}" H):rEq s!"=" s!"A1" H Q:=⟨rfl,by rw [zmK];exact h⟩
theorem rNe.Qe (h:Q s!"!{(!decide (i=j))}" H):rNe s!"=" s!"A1" H Q:=⟨rfl,by rw [zmK];exact h⟩
theorem rEq.Qa {i j:Str} (h:Q s!"!{(decide (i=j))}" H):rEq s!"A2" s!"A@" H Q:=⟨rfl,by rw [zmL];exact h⟩
theorem rNe.Qa {i j:Str} (h:Q s!"!{(!decide (i=j))}" H):rNe s!"A2" s!"A@" H Q:=⟨rfl,by rw [zmL];exact h⟩
theorem zmA.Qa {t:TE} {R:Bool->Hp->Prop} (h:t σ H fun x H1=>kB x H1 R):zmA t σ H R:=h
theorem tB.Qa {t:TE} {R:Bool->Hp->Prop} (h:t σ H fun x H1=>kB x H1 R):tB t σ H R:=h
theorem kB.Qa {R:Bool->Hp->Prop} (h:R b H):kB s!"A:" H R:=⟨b,rfl,h⟩
theorem zo4.Qa {t u:TT} {R:Bool->Hp->Prop} (h:t σ H fun c H1=>if c=true then u σ H1 R else R false H1):zo4 t u σ H R:=h
theorem tOr.Qa {t u:TT} {R:Bool->Hp->Prop} (h:t σ H fun c H1=>if c=true then R true H1 else u σ H1 R):tOr t u σ H R:=h
theorem zo5.Qa {t:TT} {R:Bool->Hp->Prop} (h:t σ H fun c H1=>R (!c) H1):zo5 t σ H R:=h
theorem zmv.Qa {tb:TE} (h:ta σ H fun x H1=>kB x H1 fun c H2=>if c=true then tb σ H2 Q else Q s!"B]" H2):zmv ta tb σ H Q:=h
theorem zo6.Qa {tb:TE} (h:ta σ H fun x H1=>kB x H1 fun c H2=>if c=true then Q s!"BA" H2 else tb σ H2 Q):zo6 ta tb σ H Q:=h
theorem zmw.Qa (h:ta σ H fun x H1=>kB x H1 fun c H2=>Q s!"!{(!c)}" H2):zmw ta σ H Q:=h
theorem tIf.Qa {tb:TE} (h:c σ H fun b H1=>if b=true then ta σ H1 Q else tb σ H1 Q):tIf c ta tb σ H Q:=h
theorem ziq.Qa {r r':R2} {tb tc:TE} (h:ta σ H fun x H1=>tb σ H1 fun y H2=>r x y H2 fun z H3=>kB z H3 fun k H4=>if k=true then tc σ H4 (fun w' H5=>r' y w' H5 Q) else Q s!"B]" H4):ziq r r' ta tb tc σ H Q:=h
theorem Ends.nx.Ka {f:St->Hp->Prop} {rt:VK} {bk ct:St->Hp->Prop} (h:f σ H):Ends.nx { nx:=f,rt:=rt,bk:=bk,ct:=ct } σ H:=h
theorem zn0 [Decidable p] (h1:p->A) (h2:¬p->B):if decide p=true then A else B:=by
 by_cases h:p
 ·rw [decide_eq_true h];exact h1 h
 ·rw [decide_eq_false h];exact h2 h
theorem zkT [Decidable p] (h1:¬p->A) (h2:p->B):if (!decide p)=true then A else B:=by
 by_cases h:p
 ·rw [decide_eq_true h];exact h2 h
 ·rw [decide_eq_false h];exact h1 h
theorem ziO [Decidable p] (h1:p->A) (h2:¬p->B):if (!(!decide p))=true then A else B:=by
 by_cases h:p
 ·rw [decide_eq_true h];exact h1 h
 ·rw [decide_eq_false h];exact h2 h
theorem _root_.ite.Qa (h:A):if true=true then A else B:=h
theorem _root_.ite.Qe (h:B):if false=true then A else B:=h
theorem _root_.ite.Qf (h:B):if (!true)=true then A else B:=h
theorem _root_.ite.Qg (h:A):if (!false)=true then A else B:=h
theorem zkW (h1:b=true->A) (h2:b=false->B):if b=true then A else B:=by
 cases b with
 | true=>exact h1 rfl
 | false=>exact h2 rfl
theorem ziv.Qa {R:List V->Hp->Prop} (h:R [] H):ziv σ H R:=h
theorem zmB.Qa {tr:TA} {R:List V->Hp->Prop} (h:ta σ H fun x H1=>tr σ H1 fun xs H2=>R (x::xs) H2):zmB ta tr σ H R:=h
theorem zpm.Qa (h:t σ H fun xs H1=>zpG xs H1 Q):zpm t σ H Q:=h
theorem zpl.Qa (h:t σ H fun xs H1=>zpH xs H1 Q):zpl t σ H Q:=h
theorem zpG.Q4 (hz:xs.length<=sizeLine) (h:∀p H',Same H H'->H p=none->H' p=some s!"Ae"->Q s!"]" H'):zpG xs H Q:=⟨hz,fun p hp=>h p _ s!"BF" hp ze⟩
theorem zpH.Q4 (hz:xs.length<=sizeLine) (h:∀p H',Same H H'->H p=none->H' p=some s!"3"->Q s!"]" H'):zpH xs H Q:=⟨hz,fun p hp=>h p _ s!"BF" hp ze⟩
theorem tCB.Qa {r:List V->Hp->VK->Prop} (h:t σ H fun vs H1=>r vs H1 Q):tCB r t σ H Q:=h
theorem zpC.Q9 {x:V} {n:String} {t:Value} (ty:TyOf K H x t) (k:PySem.W.kitOne K t s!"A+{n}"=some b) (h:Q s!"A:" H):zpC K [x,.ty n] H Q:=⟨x,n,t,b,rfl,ty,k,h⟩
theorem ziI.Qb (h1:SqL K H a xs) (h:Q s!"2FG" H):ziI K [.ref a] H Q:=⟨a,xs,rfl,.inl h1,h⟩
theorem ziI.Qc (h1:SqT K H a xs) (h:Q s!"2FG" H):ziI K [.ref a] H Q:=⟨a,xs,rfl,.inr h1,h⟩
theorem zpD.Qy (h:∀j:Int,j=(i.natAbs:Int)->Q s!"A1" H):zpD [.int i] H Q:=⟨i,rfl,h _ (by split <;> omega)⟩
theorem zpE.Qy (h:∀z:Int,z=max i j->Q s!"2{z}" H):zpE [.int i,.int j] H Q:=⟨i,j,rfl,h _ (by split <;> omega)⟩
theorem zfY.Qr {v:V} (h1:SqL K H a xs) (e:atI xs i=some v) (h:Q v H):zfY K s!"h" s!"=" H Q:=.inl ⟨a,xs,i,v,rfl,rfl,h1,e,h⟩
theorem zfY.Qs (h1:SqT K H a xs) (e:atI xs i=some v) (h:Q v H):zfY K s!"h" s!"=" H Q:=.inr ⟨a,xs,i,v,rfl,rfl,h1,e,h⟩
theorem tSl.Qa {r:V->Option Int->Option Int->Hp->VK->Prop} {tl th:TO} (h:te σ H fun x H1=>tl σ H1 fun l H2=>th σ H2 fun u H3=>r x l u H3 Q):tSl r te tl th σ H Q:=h
theorem zgB.Qa {R:Option Int->Hp->Prop} (h:R none H):zgB σ H R:=h
theorem zmC.Qa {t:TE} {R:Option Int->Hp->Prop} (h:t σ H fun x H1=>zmJ x H1 R):zmC t σ H R:=h
theorem zmJ.Qa {R:Option Int->Hp->Prop} (h:R s!"n{i}" H):zmJ s!"=" H R:=⟨i,rfl,h⟩
theorem znP.Q5 {lo hi:Option Int} (h1:SqL K H a xs) (h:∀p H',Same H H'->H p=none->H' p=some s!"uCk"->Q s!"]" H'):znP K s!"h" lo hi H Q:=.inl ⟨a,xs,rfl,h1,fun p hp=>h p _ s!"BF" hp ze⟩
theorem zmx.Qa (h:D.nx σ H):zmx D σ H:=h
theorem zo8.Qa (h:te σ H D.rt):zo8 te D σ H:=h
theorem zmy.Qa (h:te σ H fun _ H1=>D.nx σ H1):zmy te D σ H:=h
theorem zo7.Qa {t:TS} (h:t { D with nx:=u D } σ H):zo7 t u D σ H:=h
theorem zo9.Qa {t:TS} (h:c σ H fun b H1=>if b=true then t D σ H1 else u D σ H1):zo9 c t u D σ H:=h
theorem znB.Qa (h:te σ H fun x H1=>g x σ H1 D.nx):znB te g D σ H:=h
theorem zkA.Qr {t:TGs} (h1:SqT K H a xs) (hn:xs.length=n) (h:t xs σ H R):zkA K n t s!"h" σ H R:=⟨a,xs,rfl,h1,hn,h⟩
theorem znA.Qa (h:R σ H):znA [] σ H R:=⟨rfl,h⟩
theorem zgu.Qa {t:TG} {u:TGs} {r:List V} (h:t v σ H fun σ' H'=>u r σ' H' R):zgu t u (v::r) σ H R:=⟨v,r,rfl,h⟩
theorem zap (W:Nat->St->Hp->Prop) (m:Nat) (h0:W m σ H) (hs:∀m σ H,W m σ H->c σ H fun b H1=>if b=true then ∃N:St->Hp->Prop,(∀σ' H',N σ' H'->∃m',m'<m/\W m' σ' H')/\tb { D with nx:=N,ct:=N,bk:=D.nx } σ H1 else D.nx σ H1):zik c tb D σ H:=⟨W,⟨m,h0⟩,hs⟩
theorem _root_.Exists.Qa {W:Nat->St->Hp->Prop} (h:tb { D with nx:=fun σ' H'=>∃m',m'<m/\W m' σ' H',ct:=fun σ' H'=>∃m',m'<m/\W m' σ' H',bk:=D.nx } σ H):∃N:St->Hp->Prop,(∀σ' H',N σ' H'->∃m',m'<m/\W m' σ' H')/\tb { D with nx:=N,ct:=N,bk:=D.nx } σ H:=⟨_,fun _ _ h=>h,h⟩
theorem zfO.Qe {ta:TA} (h:ta σ H fun vs H1=>ziJ vs H1 fun J H2=>∃W:Nat->Nat->St->Hp->Prop,(∃m,W 0 m σ H2)/\∀i m σ H,W i m σ H->
 (J.stop i H/\D.nx σ H)\/(J.go i H/\∃N:St->Hp->Prop,(∀σ' H',N σ' H'->∃m',m'<m/\W (i+1) m' σ' H')/\∀x H',J.yld i H x H'->g x σ H' fun σ2 H2=>tb { D with nx:=N,ct:=N,bk:=D.nx } σ2 H2)):zfO (zim ta) g tb D σ H:=h
theorem ziJ.Q7 {R:It->Hp->Prop} (h1:-(2^62)<=j) (h2:j<2^62) (h:R s!"E;" H):ziJ [.int j] H R:=⟨j,rfl,h1,h2,h⟩
theorem zfO.Qf {ta:TA} (h:ta σ H fun vs H1=>ziK vs H1 fun J H2=>∃W:Nat->Nat->St->Hp->Prop,(∃m,W 0 m σ H2)/\∀i m σ H,W i m σ H->
 (J.stop i H/\D.nx σ H)\/(J.go i H/\∃N:St->Hp->Prop,(∀σ' H',N σ' H'->∃m',m'<m/\W (i+1) m' σ' H')/\∀x H',J.yld i H x H'->g x σ H' fun σ2 H2=>tb { D with nx:=N,ct:=N,bk:=D.nx } σ2 H2)):zfO (zin ta) g tb D σ H:=h
theorem ziK.Q8 {R:It->Hp->Prop} (h1:-(2^62)<=i) (h2:i<2^62) (h3:-(2^62)<=j) (h4:j<2^62) (h:R (Itr i (j-i).toNat) H):ziK [.int i,.int j] H R:=⟨i,j,rfl,⟨h1,h2,h3,h4⟩,h⟩
theorem zfO.Qh {tl:TE} (h:tl σ H fun x H1=>zpF K x H1 fun J H2=>∃W:Nat->Nat->St->Hp->Prop,(∃m,W 0 m σ H2)/\∀i m σ H,W i m σ H->
 (J.stop i H/\D.nx σ H)\/(J.go i H/\∃N:St->Hp->Prop,(∀σ' H',N σ' H'->∃m',m'<m/\W (i+1) m' σ' H')/\∀x H',J.yld i H x H'->g x σ H' fun σ2 H2=>tb { D with nx:=N,ct:=N,bk:=D.nx } σ2 H2)):zfO (zil K tl) g tb D σ H:=h
theorem zpF.Qb {R:It->Hp->Prop} (h1:SqL K H a xs) (h:R s!"AO" H):zpF K s!"h" H R:=⟨a,rfl,⟨xs,h1⟩,h⟩
theorem tBM.Qa {r:V->List V->Hp->VK->Prop} (h:to σ H fun x H1=>tyV K T x H1/\t σ H1 fun xs H2=>r x xs H2 Q):tBM K T r to t σ H Q:=h
theorem zpt.Qa {r:V->List V->Hp->VK->Prop} (h:to σ H fun x H1=>tyV K T x H1/\r x [] H1 Q):zpt K T r to σ H Q:=h
theorem _root_.And.Qb (h1:SqL K H a xs) (h:B):tyV K "list" s!"h" H/\B:=⟨.inl ⟨rfl,xs,h1⟩,h⟩
theorem zU {xs:List V} {y:V} (h1:H a=some s!"Ae") (hz:xs.length<sizeLine) (h:Q .non s!".{a}u{(xs++[y])}"):zgC s!"h" [y] H Q:=⟨a,xs,y,rfl,rfl,h1,hz,h⟩
theorem zbH.Qa (h:Q v H):zbH 0 (some v::r) H Q:=⟨v,rfl,h⟩
theorem zbH.Qe (h:Q v H):zbH 1 (a0::some v::r) H Q:=⟨v,rfl,h⟩
theorem zbH.Qf (h:Q v H):zbH 2 (a0::a1::some v::r) H Q:=⟨v,rfl,h⟩
theorem zbH.Qg (h:Q v H):zbH 3 (a0::a1::a2::some v::r) H Q:=⟨v,rfl,h⟩
theorem zbH.Qh (h:Q v H):zbH 4 (a0::a1::a2::a3::some v::r) H Q:=⟨v,rfl,h⟩
theorem zbH.Qi (h:Q v H):zbH 5 (a0::a1::a2::a3::a4::some v::r) H Q:=⟨v,rfl,h⟩
theorem zbH.Qj (h:Q v H):zbH 6 (a0::a1::a2::a3::a4::a5::some v::r) H Q:=⟨v,rfl,h⟩
theorem zbH.Qk (h:Q v H):zbH 7 (a0::a1::a2::a3::a4::a5::a6::some v::r) H Q:=⟨v,rfl,h⟩
theorem zbH.Ql (h:Q v H):zbH 8 (a0::a1::a2::a3::a4::a5::a6::a7::some v::r) H Q:=⟨v,rfl,h⟩
theorem zbH.Qm {a8:Option V} (h:Q v H):zbH 9 (a0::a1::a2::a3::a4::a5::a6::a7::a8::some v::r) H Q:=⟨v,rfl,h⟩
theorem zW.Qa (h:R (some v::r) H):zW 0 v (a0::r) H R:=h
theorem zW.Qe (h:R (a0::some v::r) H):zW 1 v (a0::a1::r) H R:=h
theorem zW.Qf (h:R (a0::a1::some v::r) H):zW 2 v (a0::a1::a2::r) H R:=h
theorem zW.Qg (h:R (a0::a1::a2::some v::r) H):zW 3 v (a0::a1::a2::a3::r) H R:=h
theorem zW.Qh (h:R (a0::a1::a2::a3::some v::r) H):zW 4 v (a0::a1::a2::a3::a4::r) H R:=h
theorem zW.Qi (h:R (a0::a1::a2::a3::a4::some v::r) H):zW 5 v (a0::a1::a2::a3::a4::a5::r) H R:=h
theorem zW.Qj (h:R (a0::a1::a2::a3::a4::a5::some v::r) H):zW 6 v (a0::a1::a2::a3::a4::a5::a6::r) H R:=h
theorem zW.Qk (h:R (a0::a1::a2::a3::a4::a5::a6::some v::r) H):zW 7 v (a0::a1::a2::a3::a4::a5::a6::a7::r) H R:=h
theorem zW.Ql {a8:Option V} (h:R (a0::a1::a2::a3::a4::a5::a6::a7::some v::r) H):zW 8 v (a0::a1::a2::a3::a4::a5::a6::a7::a8::r) H R:=h
theorem zW.Qm {a8 a9:Option V} (h:R (a0::a1::a2::a3::a4::a5::a6::a7::a8::some v::r) H):zW 9 v (a0::a1::a2::a3::a4::a5::a6::a7::a8::a9::r) H R:=h
theorem wU {ns:List Int} (h1:SqL K H a s!"Ai") (h0:0<=i) (hl:i<ns.length) (h:∀v:Int,v∈ns->ns[i.toNat]? =some v->Q s!"A^" H):zfY K s!"h" s!"=" H Q:=by
 have hi:i.toNat<ns.length:=by omega
 refine zfY.Qr (v:=.int ns[i.toNat]) h1 ?_ (h _ (List.getElem_mem hi) s!"CJ");have e:=xg (xs:=ns.map V.int) (j:=i.toNat) (v:=.int ns[i.toNat]) (by rw [List.getElem?_map,List.getElem?_eq_getElem hi];rfl)
 have ei:((i.toNat:Nat):Int)=i:=by omega
 rw [ei] at e;exact e
def XD (oe:Obj) (vs:Array Value) (dx:Option Addr):Prop:=(oe.dict=dx/\vs[2]? =some .none)\/(dx=some mainGlobals/\oe.dict=none)
def XTr (h B:Heap) (e:Addr) (c a0:Value) (dx:Option Addr) (T:Addr) (fl:Value):Prop:=
 ∃(oe:Obj) (vs:Array Value) (oT:Obj) (ts:Array Value),(h.get? e=some oe/\oe.data=.fields vs/\oe.cls=c/\XD oe vs dx/\vs[0]? =some a0/\vs[1]? =some s!"CK"/\True)/\T≠e/\B.get? T=none/\h.get? T=some oT/\oT.data=.fields ts/\ts[3]? =some fl
def zI (B:Heap) (l:List Env) (e:Addr) (c a0:Value) (dx:Option Addr) (fl:Value) (h:Heap):Prop:=(B.StaysIn h/\B.get? e=none)/\h.FunFrames B l/\∃T,XTr h B e c a0 dx T fl
variable {s:Shared} {outer:List Env} {e:Addr}
section
variable {M:Model} {A:Around} {E:Value->Shared->Prop} {B h1:Heap} {l:List Env} {env:Env} {L T:Addr} {c a0 fl:Value} {dx:Option Addr} {oe ob:Obj} {vs ts:Array Value} {Q:Unit->Shared->Prop} {P:Prop}
theorem zI.stays (x:zI B l e c a0 dx fl h):∀b o,B.get? b=some o->h.get? b=some o:=x.1.1
theorem zI.obj (x:zI B l e c a0 dx fl h):∃oe vs,h.get? e=some oe/\oe.data=.fields vs/\oe.cls=c/\XD oe vs dx:=by
 obtain ⟨_,_,T,oe,vs,_,_,⟨y1,y2,y3,y4,_,_,y5⟩,_⟩:=x;exact ⟨oe,vs,y1,y2,y3,y4⟩
theorem zI.tail (x:zI B (env::l) e c a0 dx fl h):zI B l e c a0 dx fl h:=⟨x.1,x.2.1.2.2,x.2.2⟩
theorem zI.mark (x:zI B l e c a0 dx fl h) (v:Value) (k:∀(T:Addr) (oe:Obj) (vs:Array Value) (oT:Obj) (ts:Array Value),h.get? e=some oe->oe.data=.fields vs->vs[1]? =some (.ref T)->h.get? T=some oT->oT.data=.fields ts->ts[3]? =some fl->
 (zI B l e c a0 dx v (h.update T (Obj.mapFields (·.setIfInBounds 3 v)))/\h.UpToSlots (h.update T (Obj.mapFields (·.setIfInBounds 3 v))))->P):P:=by
 obtain ⟨⟨x1,x2⟩,x3,T,oe,vs,oT,ts,⟨y1,y2,y3,y4,y5,y6,y7⟩,t1,t2,t3,t4,t5⟩:=x;have oth:∀b o,b≠T->h.get? b=some o->(h.update T (Obj.mapFields (·.setIfInBounds 3 v))).get? b=some o:=fun b o n q=>(Heap.get?_update_other _ _ (fun z=>n z.symm)).trans q
 have nT:∀b o,h.get? b=some o->(∀ws,o.data≠.fields ws)->b≠T:=fun b o q n z=>by
  rw [z,t3] at q;cases q;exact n ts t4
 have z3:3<ts.size:=(Array.getElem?_eq_some_iff.mp t5).1;refine k T oe vs oT ts y1 y2 y6 t3 t4 t5 ⟨⟨⟨fun b o q=>oth b o (fun z=>by rw [z,t2] at q;cases q) (x1 b o q),x2⟩,x3.of_keeps fun b o q n=>⟨o,oth b o (nT b o q n) q,rfl⟩,T,oe,vs,oT.mapFields (·.setIfInBounds 3 v),ts.setIfInBounds 3 v,
  ⟨oth e oe (fun z=>t1 z.symm) y1,y2,y3,y4,y5,y6,y7⟩,t1,t2,Heap.get?_update_self _ t3 (Obj.isFreed_of_fields (Obj.data_mapFields t4 _)),Obj.data_mapFields t4 _,?_⟩,fun b o q n=>⟨o.slots,oth b o (nT b o q n) q⟩⟩
 rw [Array.getElem?_setIfInBounds_self_of_lt z3]
theorem xJ (f:Array Value->Array Value) (o:Obj):(o.mapFields f).dict=o.dict:=by
 obtain ⟨c,d,dt,sl⟩:=o;cases dt <;> rfl
theorem zlv (hl:h.FunFrames B l) (he:h.get? e=some oe) (hd:oe.data=.fields vs) (hz:1<vs.size) (kb:B.StaysIn h) (en:B.get? e=none) (sl:Heap.SlotsOnly (l.filterMap (·.frame)) h h1) (od:ob.data=.fields ts) (t3:ts[3]? =some fl) (v0:vs[0]? =some a0) (v2:XD oe vs dx):
 zI B l e oe.cls a0 dx fl (s!"D|".update e (Obj.mapFields (·.setIfInBounds 1 s!"kBW")))/\h.UpToSlots (s!"D|".update e (Obj.mapFields (·.setIfInBounds 1 s!"kBW"))):=by
 have offF:e∉l.filterMap (·.frame):=fun z=>by
  obtain ⟨_,o,q,n⟩:=hl.mem z;rw [he] at q;cases q;exact n vs hd
 have e1:h1.get? e=some oe:=(sl.2.1 e offF).trans he;have e2:=Heap.get?_push_of_some (h:=h1) ob e1;have d3:=Obj.data_mapFields hd (·.setIfInBounds 1 s!"kBW")
 have e3:=Heap.get?_update_self (Obj.mapFields (·.setIfInBounds 1 s!"kBW")) e2 (Obj.isFreed_of_fields d3)
 have nTe:h1.objs.size≠e:=Nat.ne_of_gt s!"AI{e1}";have of:ob.isFreed=false:=Obj.isFreed_of_fields od;have oth:∀b o,b≠e->h1.get? b=some o->(s!"D|".update e (Obj.mapFields (·.setIfInBounds 1 s!"kBW"))).get? b=some o:=fun b o n q=>(Heap.get?_update_other _ _ (fun z=>n z.symm)).trans s!"EI"
 have kb1:B.StaysIn h1:=fun b o q=>(sl.2.1 b fun z=>by rw [(hl.mem z).1] at q;cases q).trans (kb b o q)
 have ne:∀b o,h.get? b=some o->(∀ws,o.data≠.fields ws)->b≠e:=fun b o q n z=>by
  rw [z,he] at q;cases q;exact n vs hd
 have up:h.UpToSlots (s!"D|".update e (Obj.mapFields (·.setIfInBounds 1 s!"kBW"))):=fun b o q n=>by
  obtain ⟨sl',q'⟩:=sl.2.2 b o q;exact ⟨sl',oth b _ (ne b o q n) q'⟩
 refine ⟨⟨⟨fun b o q=>oth b o (fun z=>by rw [z,en] at q;cases q) (kb1 b o q),en⟩,hl.of_keeps fun b o q n=>?_,h1.objs.size,_,_,ob,ts,⟨e3,d3,Obj.cls_mapFields _ _,?_,?_,?_,?_⟩,nTe,kb1.fresh,(Heap.get?_update_other _ _ (fun z=>nTe z.symm)).trans (Heap.get?_push_size h1 of),od,t3⟩,up⟩
 ·obtain ⟨sl',q'⟩:=up b o q n;exact ⟨_,q',rfl⟩
 ·rcases v2 with ⟨z1,z2⟩ | ⟨z1,z2⟩
  ·exact .inl ⟨(xJ _ _).trans z1,by rw [Array.getElem?_setIfInBounds_ne s!"d"];exact z2⟩
  ·exact .inr ⟨z1,(xJ _ _).trans z2⟩
 ·rw [Array.getElem?_setIfInBounds_ne s!"d"]
  exact v0
 ·rw [Array.getElem?_setIfInBounds_self_of_lt hz]
 ·trivial
theorem wV {head:Value} {hn:Bool} (fr:A.frames=some (env::outer)) (hl:s.heap.FunFrames B (env::outer)) (hf:env.frame=some L) (he:s.heap.get? e=some oe) (hd:oe.data=.fields vs) (hz:1<vs.size) (kb:B.StaysIn s.heap) (en:B.get? e=none) (v0:vs[0]? =some a0) (v2:XD oe vs dx)
 (k:∀h',zI B (env::outer) e oe.cls a0 dx s!"BG" h'->s.heap.UpToSlots h'->Q () { s with heap:=h' }):wpAny M A (do let f <-frameOf env;let p <-entryPlaceOf L hn;let t <-EntryCells.newEntry head f .none s!"BG" .none p;setField s!"Aj" 1 t) Q E s:=by
 refine wpAny_bind (wpAny_frameOf_fun fr hl hf fun h1 sl=>wpAny_bind (wpAny_entryPlaceOf fun pl hp=>?_))
 unfold EntryCells.newEntry newFields;refine wpAny_bind (wpAny_newObj_type ?_ (hp.sizeOk5 _ _ _ _ _));have offF:e∉(env::outer).filterMap (·.frame):=fun z=>by
  obtain ⟨_,o,q,n⟩:=hl.mem z;rw [he] at q;cases q;exact n vs hd
 have e1:h1.get? e=some oe:=(sl.2.1 e offF).trans he;refine wpAny_setField (Heap.get?_push_of_some _ e1) hd hz ?_;obtain ⟨x1,x2⟩:=zlv (fl:=rawInt L) (ob:={ cls:=.type "traceback",dict:=none,data:=.fields ([head,.ref L,.none,rawInt L,.none]++(if pl.isEmpty then List.replicate 6 Value.none else pl)).toArray }) hl he hd hz kb en sl rfl (by
  first | (simp;done) | (rcases hp with rfl | ⟨_,_,_,_,_,_,_,rfl⟩ <;> simp)) v0 v2
 exact k _ x1 x2
theorem zI.lands (x:zI B l e c a0 dx fl s.heap) (k:∀h',zI B l e c a0 dx .none h'->s.heap.UpToSlots h'->Q () { s with heap:=h' }):wpAny M A (setFlight s!"Aj" none) Q E s:=by
 refine x.mark .none fun T oe vs oT ts y1 y2 y3 t1 t2 t3 ⟨x1,x2⟩=>?_
 unfold setFlight;refine wpAny_bind s!"EJ";rw [if_pos s!"s"]
 exact wpAny_setField t1 t2 s!"EK".1 (k _ x1 x2)
theorem zI.looks (fr:A.frames=some (env::outer)) (hf:env.frame=some L) (x:zI B (env::outer) e c a0 dx .none s.heap) (k:∀h',zI B (env::outer) e c a0 dx s!"BG" h'->s.heap.UpToSlots h'->Q () { s with heap:=h' }):wpAny M A (noteFrame s!"Aj" env) Q E s:=by
 refine x.mark .none fun T oe vs oT ts y1 y2 y3 t1 t2 t3 ⟨x1,x2⟩=>?_
 unfold noteFrame;simp only [hf];refine wpAny_bind s!"EJ";rw [if_pos s!"s"]
 refine wpAny_bind s!"AA{t1}{t2}{t3}{?_}";rw [if_neg (by simp [rawInt])]
 refine wpAny_bind (wpAny_setField t1 t2 s!"EK".1 ?_);obtain ⟨⟨z1,z2⟩,z3,T',o',v',_,_,⟨q1,q2,q3,q4,q5,q6,q7⟩,_⟩:=x1;subst q3;exact wV fr z3 hf q1 q2 s!"I5{q6}".1 z1 z2 q5 q4 fun h' w1 w2=>k h' w1 (x2.trans w2)
theorem zI.leaves (fr:A.frames=some (env::outer)) (hf:env.frame=some L) (x:zI B (env::outer) e c a0 dx .none s.heap) (k:∀h',zI B outer e c a0 dx .none h'->s.heap.UpToSlots h'->Q () { s with heap:=h' }):wpAny M A s!"EL" Q E s:=by
 unfold leaving;exact wpAny_bind (x.looks fr hf fun h1 x1 u1=>x1.lands fun h2 x2 u2=>k h2 x2.tail (u1.trans u2))
theorem zfZ (fr:A.frames=some (env::outer)) (hf:env.frame=some L) (hl:s.heap.FunFrames B (env::outer)) (he:s.heap.get? e=some oe) (hd:oe.data=.fields vs) (kb:B.StaysIn s.heap) (en:B.get? e=none) (v0:vs[0]? =some a0) (v1:vs[1]? =some .none) (v2:XD oe vs dx)
 (k:∀h',zI B outer e oe.cls a0 dx .none h'->s.heap.UpToSlots h'->Q () { s with heap:=h' }):wpAny M A s!"EL" Q E s:=by
 unfold leaving noteFrame;simp only [hf];refine wpAny_bind s!"4AA{he}{hd}{v1}{?_}";rw [if_neg s!"d"]
 exact wV fr hl hf he hd s!"I5{v1}".1 kb en v0 v2 fun h1 x1 u1=>x1.lands fun h2 x2 u2=>k h2 x2.tail (u1.trans u2)
end
variable {h':Heap}
section
variable {h2:Heap}
theorem zq.at (x:zq P w H h a o):∃ob,h.get? a=some ob:=by
 cases o with
 | lst xs=>obtain ⟨_,_,_,_,e⟩:=x;exact ⟨_,e⟩
 | tup xs=>obtain ⟨_,_,_,ob,e,_⟩:=x;exact ⟨ob,e⟩
 | dK kvs=>obtain ⟨_,_,_,_,ob,_,_,e,_⟩:=x;exact ⟨ob,e⟩
 | dT kvs=>obtain ⟨_,_,_,_,ob,_,_,e,_⟩:=x;exact ⟨ob,e⟩
 | set S n=>obtain ⟨ob,_,_,_,e,_⟩:=x;exact ⟨ob,e⟩
 | ins C dx fs=>obtain ⟨_,_,_,e,_⟩:=x;exact ⟨_,e⟩
 | own y=>exact x
 | xd fs=>obtain ⟨_,⟨ob,_,_,e,_⟩,_⟩:=x;exact ⟨ob,e⟩
 | rng lo hi=>obtain ⟨_,_,_,e⟩:=x;exact ⟨_,e⟩
 | frz ob u=>exact ⟨ob,x.1⟩
 | tbl ps=>exact ⟨_,x⟩
 | met f y=>exact ⟨_,x⟩
 | ext φ=>exact x.2.1
structure Kept (B:Heap) (fs:List Addr) (H:Hp) (h:Heap) (H':Hp) (h':Heap):Prop where
 old:∀b o,h.get? b=some o->H b=none->b∉fs->B.get? b=some o
 any:∀b o,h.get? b=some o->b∉fs->∃o',B.get? b=some o'
 trk:∀b o,H' b≠none->h'.get? b=some o->B.get? b=some o
theorem Kept.fly {B:Heap} {fs:List Addr} (k:Kept B fs H h H' h') (ok:HOk P w H' h') (st:∀b o,B.get? b=some o->h2.get? b=some o):Kept B fs H h H' h2:=
 ⟨k.old,k.any,fun b o n e=>by
  cases q:H' b with
  | none=>exact absurd q n
  | some u=>
   obtain ⟨ob,e1⟩:=(ok b u q).at
   have e2:=k.trk b ob n e1;have e3:=st b ob e2;rw [e] at e3;rw [Option.some.inj e3];exact e2⟩
end
def CXE (P:Program) (w:World):CXT:=fun outer H s E e s'=>∃(a t:Addr) (cls:Value) (dx:Option Addr) (H':Hp) (B:Heap),e=.ref a/\E cls dx H'/\s'.os=s.os/\AllBare s'.gens/\Un s!"E`" [] H H' s.heap s'.heap/\HOk P w H' s'.heap/\
 zI B outer a cls s!"'" dx .none s'.heap/\Kept B s!"E`" H s.heap H' s'.heap/\H' a=none
variable {pins:List (Addr×Obj)}
section
variable {s':Shared} {B h2:Heap}
theorem Inv.offStack (I:Inv X pins σ H s) {b:Addr} {o:Obj} (e:X.s₀.heap.get? b=some o) (n:b∉X.fs):b∉frs X.stack:=fun z=>by
 rcases List.mem_cons.mp (I.stkSub b z) with q | q
 ·have h1:=Heap.lt_size e;have h2:=I.ok.above;rw [q] at h1;exact absurd s!"B@{h1}{h2}" s!"Bh"
 ·exact n q
theorem Inv.trkOff (I:Inv X pins σ H s) {b:Addr} (n:H b≠none):b∉frs X.stack:=fun z=>n (I.stkFree b z)
theorem Inv.keptHide (I:Inv X pins σ H s) (hx:X.ex=[]) (k:∀b o,s.heap.get? b=some o->h'.get? b=some o):Kept (PySem.W.hideAll s.heap s!"A?") X.fs X.H₀ X.s₀.heap H h':=by
 have nx:∀b:Addr,b∉X.ex:=fun b z=>by rw [hx] at z;cases z
 refine ⟨fun b o e n f=>PySem.W.hideAll_get _ (I.base.keep b o e n f (nx b)) (I.offStack e f),fun b o e f=>?_,fun b o n e=>?_⟩
 ·obtain ⟨o',e'⟩:=I.base.there b o e (nx b);exact ⟨o',PySem.W.hideAll_get _ e' (I.offStack e f)⟩
 ·cases q:H b with
  | none=>exact absurd q n
  | some u=>
   obtain ⟨ob,e1⟩:=s!"EM".at
   have e2:=k b ob e1;rw [e] at e2;rw [Option.some.inj e2];exact PySem.W.hideAll_get _ e1 (I.trkOff n)
theorem Inv.flown (I:Inv X pins σ H s) (hx:X.ex=[]) (k:Kept B X.fs X.H₀ X.s₀.heap H s.heap) (st:∀b o,B.get? b=some o->h2.get? b=some o) (up:s.heap.UpToSlots h2):
 Un X.fs [] X.H₀ H X.s₀.heap h2/\HOk X.prog X.w H h2:=by
 have nx:∀b:Addr,b∉X.ex:=fun b z=>by rw [hx] at z;cases z
 have slot:∀b o,X.s₀.heap.get? b=some o->X.H₀ b=none->b∈X.fs->∃sl,h2.get? b=some { o with slots:=sl }:=fun b o e n f=>by
  obtain ⟨sl,e1⟩:=I.base.slot b o e n f (nx b);obtain ⟨_,o1,e2,nf⟩:=I.ok.funs.mem f;rw [e] at e2;cases Option.some.inj e2;obtain ⟨sl',e3⟩:=up b _ e1 nf;exact ⟨sl',e3⟩
 refine ⟨⟨fun b o e n f _=>st b o s!"G>",fun b o e n f _=>slot b o e n f,fun b o e n _=>I.base.free b o e n (nx b),fun b o e _=>?_,I.base.tups,I.base.frzs,I.base.tbls⟩,fun a o e=>?_⟩
 ·by_cases f:b∈X.fs
  ·obtain ⟨sl,q⟩:=slot b o e (I.ok.frf b f) f;exact ⟨_,q⟩
  ·obtain ⟨o',e'⟩:=k.any b o e f;exact ⟨o',st b o' e'⟩
 ·refine (I.hok a o e).stay (fun b u hb q=>st b u (k.trk b u ?_ q)) (fun _ q=>q) fun _ _ q=>q
  rcases hb with z | z
  ·rw [z,e];intro y;cases y
  ·rw [z];intro y;cases y
end
structure XPass (X:Cx) (W:Value->Option Addr->St->Hp->Prop):Prop where
 call:∀(pins:List (Addr×Obj)) (σ:St) (H:Hp) (s:Shared) (e:Value) (s':Shared),Inv X pins σ H s->CXE X.prog X.w X.stack H s (fun cls dx H2=>W cls dx σ H2) e s'->X.xe e s'
structure XMade (X:Cx) (W:Value->Option Addr->St->Hp->Prop):Prop where
 ex:X.ex=[]
 made:∀(pins:List (Addr×Obj)) (σ:St) (H:Hp) (s:Shared) (e t:Addr) (oe:Obj) (vs:Array Value),Inv X pins σ H s->X.s₀.heap.get? e=none->H e=none->s.heap.get? e=some oe->oe.data=.fields vs->vs[0]? =some s!"'"->vs[1]? =some .none->∀dx,XD oe vs dx->W oe.cls dx σ H->X.xe s!"Aj" s
theorem Inv.keptHideE (I:Inv X pins σ H s) (hx:X.ex=[]) (n0:X.s₀.heap.get? e=none) (nH:H e=none):Kept (PySem.W.hideAll s.heap (e::frs X.stack)) X.fs X.H₀ X.s₀.heap H s.heap:=by
 have nx:∀b:Addr,b∉X.ex:=fun b z=>by rw [hx] at z;cases z
 have ne:∀b o,X.s₀.heap.get? b=some o->b≠e:=fun b o q z=>by
  rw [z,n0] at q;cases q
 have off:∀b o,X.s₀.heap.get? b=some o->b∉X.fs->b∉e::frs X.stack:=fun b o q f z=>by
  rcases List.mem_cons.mp z with y | y
  ·exact ne b o q y
  ·exact I.offStack q f y
 refine ⟨fun b o q n f=>PySem.W.hideAll_get _ (I.base.keep b o q n f (nx b)) (off b o q f),fun b o q f=>?_,fun b o n q=>?_⟩
 ·obtain ⟨o',e'⟩:=I.base.there b o q (nx b);exact ⟨o',PySem.W.hideAll_get _ e' (off b o q f)⟩
 ·refine PySem.W.hideAll_get _ q fun z=>?_
  rcases List.mem_cons.mp z with y | y
  ·rw [y] at n;exact n nH
  ·exact I.trkOff n y
variable {W:Value->Option Addr->St->Hp->Prop}
theorem XMade.of (x:XMade X W) {cls:Value} {args:List Value} (I:Inv X pins σ H s) (hm:Heap.MadeExcOf s.heap h' e cls args) (w:W cls none σ H):X.xe s!"Aj" { s with heap:=h' }:=by
 obtain ⟨t,q,_,_⟩:=hm.there;refine x.made pins σ H _ e t _ _ (I.kept (h':=h') (t':=s.toks) hm.keeps) ?_ ?_ q rfl rfl rfl none s!"${⟨rfl,rfl⟩}" w
 ·cases z:X.s₀.heap.get? e with
  | none=>rfl
  | some o=>
   obtain ⟨o',z'⟩:=I.base.there e o z (fun y=>by rw [x.ex] at y;cases y)
   rw [hm.new] at z';cases z'
 ·cases z:H e with
  | none=>rfl
  | some u=>
   obtain ⟨ob,e1⟩:=(I.hok e u z).at
   rw [hm.new] at e1;cases e1
def WN:Value->Option Addr->St->Hp->Prop:=fun _ _ _ _=>False
theorem xpass_nox:XPass X.nox WN:=
 ⟨fun _ _ _ _ _ _ _ h=>by
  obtain ⟨_,_,_,_,_,_,_,z,_⟩:=h;exact z.elim⟩
variable {scope:Scope} {cd:Value} {s₀:Shared} {H₀:Hp}
theorem xpass_cx {A:Around} {E:XK}:
 XPass s!"EN" (fun cls dx _ H=>E cls dx H):=by
 refine ⟨fun pins σ H s e s' I c=>?_⟩
 ·obtain ⟨a,t,cls,dx,H',B,rfl,hE,os,bare,un,hok,fl,kp,ha⟩:=c;have I':=I.call' (s':=s') (ch:=[]) os un hok bare (fun b z=>nomatch z)
  refine zI.leaves I.ok.frames rfl fl fun h2 fl2 up=>?_
  have kp':Kept B (frs outer) H₀ s₀.heap H' s'.heap:=⟨fun b o e n f=>kp.old b o (I.base.keep b o e n f (fun z=>nomatch z)) (I.base.free b o e n (fun z=>nomatch z)) (I.offStack e f),fun b o e f=>by
   obtain ⟨o',e'⟩:=I.base.there b o e s!"Aw"
   exact kp.any b o' e' (I.offStack e f),kp.trk⟩
  obtain ⟨u2,ok2⟩:=I'.flown rfl kp' fl2.stays up;exact ⟨a,t,cls,dx,H',B,rfl,hE,I'.os,I'.bare,u2,ok2,fl2,kp'.fly hok fl2.stays,ha⟩
theorem xmade_cx {A:Around} {E:XK}:
 XMade s!"EN" (fun cls dx _ H=>E cls dx H):=by
 refine ⟨rfl,fun pins σ H s e t oe vs I n0 nH he hd v0 v1 dx v2 hE=>?_⟩
 have kp:=I.keptHideE rfl n0 nH;refine zfZ (B:=PySem.W.hideAll s.heap (e::frs (envOfC qual scope s₀.heap.objs.size f cd::outer))) I.ok.frames rfl (PySem.W.funFrames_hide I.stack fun env he b hb=>List.mem_cons_of_mem _ (List.mem_filterMap.mpr ⟨env,he,hb⟩)) he hd (fun b o q=>PySem.W.of_hideAll _ q) (PySem.W.hideAll_none _ (List.mem_cons_self ..)) v0 v1 v2 fun h2 fl up=>?_
 obtain ⟨u2,ok2⟩:=I.flown rfl kp fl.stays up;exact ⟨e,t,_,_,H,_,rfl,hE,I.os,I.bare,u2,ok2,fl,kp.fly I.hok fl.stays,nH⟩
def zf0 (sp:Sp) (W:Value->Option Addr->St->Hp->Prop) (t:TA):TE:=fun σ H Q=>t σ H fun vs H1=>sp vs H1 Q (fun cls dx H2=>W cls dx σ H2)
section
variable {p:Pos} {e:Expr}
theorem pe_defS (D:Def X.prog X.w X.K X.mg X.base s!"B!" k x ps sp) (hr:Room k X.A) (hg:Gl X x) (hx:XPass X W)
 (ha:PA X (e::es) t) (hdb:(x==("__debug__":Str))=false:=by decide) (he:starEach (e::es) X.env=(false,eval e X.env)::starEach es X.env:=by rfl) (hpl:s!"Cf".any (·.1)=false:=by rfl):
 PE X (.Call (.Name x p) (e::es) [] pos) (zf0 sp W t):=by
 obtain ⟨f,fd,F,m,kp,b,_⟩:=D.ex;intro pins s σ H Q I h;refine wpAny_Call_Name_kw s!"G?";refine PySem.W.callWith_K (h₀:=X.base) I.ok.mod.kin kp (thn (ha pos pins s σ H _ I h) fun us s1 ⟨vs,H1,I1,r,q⟩=>⟨I1.kIn,?_⟩) he hpl
 have hl:(us++[]).length=ps.length:=by rw [List.append_nil,<-r.length];exact F.len _ _ _ _ q
 have bnd:=b s1 us I1.kIn hl;rw [List.append_nil] at bnd;refine wpAny_call (codeAny_mono (F.run X.A X.stack s1 H1 ⟨us,[]⟩ us vs Q _ hr I1.env0 bnd r q) fun res s2 hq=>?_)
 cases res with
 | error ex=>exact hx.call pins σ H1 s1 ex s2 I1 hq
 | ok fl=>
  cases fl with
  | ret u=>exact I1.after hq
  | next=>exact False.elim hq
  | brk=>exact False.elim hq
  | cont=>exact False.elim hq
def ziW (C:Addr) (W:Value->Option Addr->St->Hp->Prop) (t:TA):TS:=fun _ σ H=>t σ H fun vs H1=>vs.length<=sizeLine/\W s!"o" none σ H1
theorem ps_raise {C:Addr} {bmB:List Value} {B newId initId:String} {np cpos:Pos} (O:OwnCls x C bmB newId X.mg X.base) (FB:ExcBaseFacts B newId initId bmB) (hc:X.calm=true) (hg:Gl X x) (hx:XMade X W) (ha:PA X (e::es) t)
 (hdb:(x==("__debug__":Str))=false:=by decide) (he:starEach (e::es) X.env=(false,eval e X.env)::starEach es X.env:=by rfl) (hpl:s!"B9".any (·.1)=false:=by rfl):
 PS X (.Raise s!"n{.Call (.Name x np) (e::es) [] cpos}" none pos) (ziW C W t):=by
 intro pins s σ H D I h;obtain ⟨tl,nsA,nmA,qA,bsA,hdA,snA,subA,abA,colA,ddA,k0,k1,k2,k3,k5,mN,hC,hN,hni,T⟩:=O.obj;refine wpAny_Raise_call_subT (nm:=nmA) (q:=qA) (C:=C) (N:=nsA) (bs:=bsA) (bm:=tl) (hdct:=hdA) (sn:=snA) (sub:=subA) (ab:=abA) (col:=colA) (dd:=ddA) (k0:=k0) (k1:=k1) (k2:=k2) (k3:=k3) (k5:=k5) FB (mN:=mN)
  s!"EO" s!"Av" (by rw [he];show (false || s!"B9".any (·.1))=false;rw [hpl];rfl) hni (xf I hg O.bound ⟨rfl,?_⟩ hdb)
 have h1:=ha cpos pins s σ H _ I h;rw [he] at h1 ⊢;exact Calls.evalArgs_plain (wpAny_mono h1 (fun us s2 ⟨vs,H2,I2,r,hz,hW⟩=>⟨rfl,by rw [<-r.length];exact hz,I2.bk _ _ hC,hN.keeps I2.bk,T.keeps I2.bk,fun h' a hm=>hx.of I2 hm hW⟩) fun _ _ y=>y)
end
variable {C:Addr}
theorem zof {bmB:List Value} {newId:String} (X:K.In h) (hm:mg x=some s!"o") (q:PySem.W.excIn K C bmB newId=true):OwnCls x C bmB newId mg h:=by
 refine ⟨hm,?_⟩;unfold PySem.W.excIn at q;split at q
 ·rename_i dA cdA slA look;split at q
  ·rename_i C1 bm1 e0 e1 e2 e3 nA e5 hmro hsl;simp only [Bool.and_eq_true,beq_iff_eq,Bool.not_eq_true'] at q;obtain ⟨⟨⟨⟨⟨z1,z2⟩,hdel⟩,ht⟩,hok⟩,hni⟩:=q;subst z1 z2;obtain ⟨f1,f2,f3,f4,f5,f6,f7,f8,f9,f10,f11⟩:=cdA;dsimp only at hmro hdel hok hni;subst hmro hdel;have es:slA=#[e0,e1,e2,e3,some s!"A%{nA}",e5]:=by
    obtain ⟨l⟩:=slA;simp only at hsl;rw [hsl]
   subst es;exact ⟨bm1,f4,f1,f5,f2,f6,f7,f8,f9,f10,dA,e0,e1,e2,e3,e5,_,X _ _ look,.of_isNs (PySem.W.isNs_of_in X hok),PySem.W.nsMap_none_of_in X hok hni,PySem.W.tail_of_in X ht⟩
  ·cases q
 ·cases q
theorem zf0.Qa (h:t σ H fun vs H1=>sp vs H1 Q (fun cls dx H2=>W cls dx σ H2)):zf0 sp W t σ H Q:=h
def ziY (C:Addr) (W:Value->Option Addr->St->Hp->Prop) (σ:St) (vs:List V) (H:Hp):Prop:=vs.length<=sizeLine/\W s!"o" none σ H
theorem ziW.Qa (h:t σ H fun vs H1=>ziY C W σ vs H1):ziW C W t D σ H:=h
theorem ziY.Qa (h:W s!"o" none σ H):ziY C W σ [v] H:=⟨(by show 1<=sizeLine;decide),h⟩
variable {out:Str}
def tJ:List TE->Str->TE
 | [],out=>fun _ H Q=>Q s!"z{out}" H
 | t::r,out=>fun σ H Q=>t σ H fun x H1=>∃y,x=.str y/\(out++y).length<=sizeLine/\tJ r (out++y) σ H1 Q
inductive PJ (X:Cx):List Expr->List TE->Prop where
 | nil:PJ X [] []
 | cons {e:Expr} {es:List Expr} {t:TE} {ts:List TE} (h:PE X e t) (r:PJ X es ts):PJ X (e::es) (t::ts)
theorem PJ.run {ts:List TE} (h:PJ X es ts):∀{out:Str} {pins:List (Addr×Obj)} {s:Shared} {σ:St} {H:Hp} {Q:VK},out.length<=sizeLine->Inv X pins σ H s->tJ ts out σ H Q->
 wpAny s!"q" X.A (joinParts out (evalEach es X.env)) (EP X pins σ Q) X.xe s:=by
 induction h with
 | nil=>exact fun hz I q=>joinParts_nil ⟨.str _,_,I.tok _,⟨_,rfl⟩,q⟩ hz
 | cons h _ ih=>
  intro out pins s σ H Q _ I q;refine joinParts_cons (thn (h pins s σ H _ I q) fun u s1 ⟨x,H1,I1,r1,y,ex,hz,q1⟩=>?_)
  subst ex;obtain ⟨tk,rfl⟩:=r1;exact ⟨hz,ih hz I1 q1⟩
theorem wu {v1 v2:Expr} {rest:List Expr} {ts:List TE} (h:PJ X (v1::v2::rest) ts):PE X (.JoinedStr (v1::v2::rest) pos) (tJ ts Str.empty):=
 fun _ _ _ _ _ I q=>JoinedStr_many (h.run s!"d" I q)
def zmM (te:TE):TE:=fun σ H Q=>te σ H fun x H1=>∃i,x=.int i/\i.natAbs.log2<1920/\Q s!"Cj" H1
theorem zbU {e:Expr} {te:TE} (h:PE X e te):PE X (.FormattedValue e (-1) none pos) (zmM te):=fun pins s σ H Q I q=>
 FormattedValue_plain (thn (h pins s σ H _ I q) fun u s1 ⟨x,H1,I1,r1,i,ex,hz,q1⟩=>by
  subst ex;obtain ⟨tk,rfl⟩:=r1;exact formatField_int_small hz ⟨.str _,_,I1.tok _,⟨_,rfl⟩,q1⟩)
def zpV (out:Str) (x:V) (H:Hp) (R:Str->Hp->Prop):Prop:=∃y,x=.str y/\(out++y).length<=sizeLine/\R (out++y) H
theorem tJ.Qa (h:Q s!"z{out}" H):tJ [] out σ H Q:=h
theorem tJ.Qe {t:TE} {r:List TE} (h:t σ H fun x H1=>zpV out x H1 fun o2 H2=>tJ r o2 σ H2 Q):tJ (t::r) out σ H Q:=h
theorem zpV.Qu {y:Str} {R:Str->Hp->Prop} (hz:(out++y).length<=sizeLine) (h:R (out++y) H):zpV out s!"CL" H R:=⟨y,rfl,hz,h⟩
def zpW (x:V) (H:Hp) (Q:VK):Prop:=∃i:Int,x=.int i/\i.natAbs.log2<1920/\Q s!"Cj" H
theorem zmM.Qa (h:te σ H fun x H1=>zpW x H1 Q):zmM te σ H Q:=h
theorem zpW.Qw (hz:i.natAbs.log2<1920) (h:Q s!"Cj" H):zpW s!"=" H Q:=⟨i,rfl,hz,h⟩
end L2
set_option maxHeartbeats 4000000
namespace L2
open PySem PySem.Spec PyProof.Rows PySem.W
variable {w:World} {A:Around} {E:Value->Shared->Prop} {s:Shared} {K:PySem.W.Frag} {C:Addr} {h:Heap} {Q:Unit->Shared->Prop} {M:Model}
section
variable {prog:Program} {x:Addr}
structure ExcK (K:PySem.W.Frag) (C:Addr):Prop where
 cl:s!"D~".isSome=true
 ga:findIn K s!"o" "__getattribute__"=some s!"D'"
 hk:findIn K s!"o" "__getattr__"=some none
 fc:findIn K s!"o" "__class__"=some s!"CC"
 ob:mroIn K C s!"BC"=some true
 be:mroIn K C s!"AC"=some true
def zbp (x C:Addr) (h:Heap):Prop:=∃ox,h.get? x=some ox/\ox.cls=.ref C
theorem zbp.ty (M:Model) (p:zbp x C h):Looks M h (typeOf s!"Az") s!"o":=by
 obtain ⟨ox,h1,h2⟩:=p;exact h2▸(Looks.ld h1).andThen .now
theorem zlz {tp:Value} {R:Result->Shared->Prop} (Z:ExcK K C) (X:K.In s.heap) (I:zbp x C s.heap) (h:R (.ok (.ret s!"o")) s):
 codeAny s!"1" A (.call s!"G8" ⟨[.builtin "object.__class__",.ref x,tp],[]⟩) R s:=by
 obtain ⟨hh,g,d,t,os⟩:=s;have L0:=I.ty s!"1";have L1:=looks_mroIn (M:=model prog w) X Z.ob;have T5:(⟨hh,g,d,t,os⟩:Shared).TypeIs s!"D:" "getset_descriptor":=PySem.F.typeOf_object_class;have ow:=PySem.F.owner_object_class;refine codeAny_call_builtin PySem.F.slot_gs_get.plain PySem.F.entry_gs_get (PySem.F.slot_gs_get.check _ _ _ _ _ _ _ _ T5 (PySem.F.args_gs_get _ _ _) ?_)
 repeat (any_goals (first | assumption | (with_reducible refine L0.at ?_) | (rw [ow];with_reducible refine L1.at ?_) | wp_step))
 refine ⟨Code.quiet_builtin _ s!"f",codeAny_builtin PySem.F.entry_object_class ?_⟩
 repeat (any_goals (first | assumption | (with_reducible refine L0.at ?_) | wp_step))
theorem zhs {tk:Tok} {Q:PySem.Fin->Shared->Prop} (Z:ExcK K C) (X:K.In s.heap) (I:zbp x C s.heap) (h:Q (.done (.ret s!"o")) s):
 wpAny s!"1" A (Builtin.«object.__getattribute__» ⟨[.ref x,.str "__class__" tk],[]⟩) Q E s:=by
 obtain ⟨hh,g,d,t,os⟩:=s;have L0:=I.ty s!"1";have L3:=looks_findIn (M:=model prog w) X Z.fc;have T5:(⟨hh,g,d,t,os⟩:Shared).TypeIs s!"D:" "getset_descriptor":=PySem.F.typeOf_object_class;have f5:=PySem.F.typeOf_object_class;have f6:=PySem.F.slot_gs_get.lookup;have f7:=PySem.F.slot_gs_set.lookup;unfold Builtin.«object.__getattribute__»
 repeat (any_goals (first | assumption | (with_reducible refine L0.at ?_) | (with_reducible refine L3.at ?_) | wp_step))
 refine zlz (s:=⟨hh,g,d,t,os⟩) Z X I ?_
 repeat (any_goals (first | assumption | wp_step))
theorem zht {nameV:Value} (Z:ExcK K C) (X:K.In s.heap) (I:zbp x C s.heap) (h:Q () s):wpAny M A (checkBuiltinCall "BaseException.__getattribute__" ⟨[.ref x,nameV],[]⟩) Q E s:=by
 obtain ⟨hh,g,d,t,os⟩:=s;have L0:=I.ty M;have L4:=looks_mroIn (M:=M) X Z.be;have z1:builtinKind "BaseException.__getattribute__"=some .slot:=by decide+kernel
 have z2:splitId "BaseException.__getattribute__"=some ("BaseException","__getattribute__"):=by decide+kernel
 have z3:=PySem.F.args_bexc_ga s!"Az" nameV;simp only [checkBuiltinCall,z1,z2];refine wpAny_bind ?_;unfold isInstance
 repeat (first | (with_reducible refine L0.at ?_) | (with_reducible refine L4.at ?_) | walk_at "wp")
 exact h
theorem zhu {Q:Option Value->Shared->Prop} (Z:ExcK K C) (X:K.In s.heap) (I:zbp x C s.heap) (h:Q s!"no" { s with toks:=s.toks+1 }):wpAny s!"1" A (getAttr? s!"Az" "__class__") Q E s:=by
 obtain ⟨hh,g,d,t,os⟩:=s;have L0:=I.ty s!"1";have L1:=looks_findIn (M:=model prog w) X Z.ga;have L2:=looks_findIn (M:=model prog w) X Z.hk;have b3:=PySem.F.excAttr_ValueError.ga.bind s!"Az";have z2:(Value.builtin "BaseException.__getattribute__"==Value.builtin "object.__getattribute__")=false:=by decide+kernel
 have z1:(onTheHeap (Value.ref C) && Value.builtin "BaseException.__getattribute__"==Value.builtin "object.__getattribute__")=false:=by rw [z2];rfl
 unfold getAttr? getAttrBy? getAttrBy
 repeat (any_goals (first | assumption | (with_reducible refine L0.at ?_) | (with_reducible refine L1.at ?_) | (with_reducible refine L2.at ?_) | wp_step))
 refine codeAny_call_builtin PySem.F.excAttr_ValueError.ga.plain PySem.F.entry_bexc_ga (zht (s:=⟨hh,g,d,t+1,os⟩) Z X I (zhs (s:=⟨hh,g,d,t+1,os⟩) Z X I ?_))
 repeat (any_goals (first | assumption | wp_step))
theorem zeZ (Z:ExcK K C):KitX K s!"Az" s!"o" (zbp x C) where
 ty:=fun M _ _ I=>I.ty M
 it:=fun _ _ X _=>by
  have z:=Z.cl;unfold clsIn at z;split at z
  ·rename_i look;intro A' Q' E' s' k q;unfold isType loadHead;exact wpAny_bind (wpAny_loadPart (k _ _ (X _ _ look)) s!"Al{q}")
  ·cases z
 ne:=fun h tp dd its n sl X htp=>by
  refine Bool.eq_false_iff.mpr (fun y=>?_)
  have e:C=tp:=Value.ref.inj (beq_iff_eq.mp y);subst e;have z:=Z.cl;unfold clsIn at z;split at z
  ·rename_i look;have y:=(X _ _ look).symm.trans htp;cases y
  ·cases z
 ca:=fun X I k=>zhu Z X I k
end
variable {H H':Hp} {h2 B:Heap}
section
variable {P:Program} {fs:List Addr} {h':Heap}
theorem Un.flown (u:Un fs [] H H' h h') (fr:∀b∈fs,H b=none/\∃o,h.get? b=some o/\∀vs,o.data≠.fields vs) (k:Kept B fs H h H' h') (st:∀b o,B.get? b=some o->h2.get? b=some o) (up:h'.UpToSlots h2):Un fs [] H H' h h2:=by
 have slot:∀b o,h.get? b=some o->b∈fs->∃sl,h2.get? b=some { o with slots:=sl }:=fun b o e f=>by
  obtain ⟨n,o1,e2,nf⟩:=fr b f;obtain ⟨sl,e1⟩:=u.slot b o e n f s!"Aw"
  rw [e] at e2;cases Option.some.inj e2;obtain ⟨sl',e3⟩:=up b _ e1 nf;exact ⟨sl',e3⟩
 refine ⟨fun b o e n f _=>st b o s!"G>",fun b o e n f _=>slot b o e f,fun b o e n _=>u.free b o e n s!"Aw",fun b o e _=>?_,u.tups,u.frzs,u.tbls⟩
 by_cases f:b∈fs
 ·obtain ⟨sl,q⟩:=slot b o e f;exact ⟨_,q⟩
 ·obtain ⟨o',e'⟩:=k.any b o e f;exact ⟨o',st b o' e'⟩
theorem HOk.flown (ok:HOk P w H' h') (k:Kept B fs H h H' h') (st:∀b o,B.get? b=some o->h2.get? b=some o):HOk P w H' h2:=fun a o e=>by
 refine (ok a o e).stay (fun b u hb q=>st b u (k.trk b u ?_ q)) (fun _ q=>q) fun _ _ q=>q
 rcases hb with z | z
 ·rw [z,e];intro y;cases y
 ·rw [z];intro y;cases y
end
variable {σ:St} {a:Addr} {cls:Value} {dx:Option Addr} {W:Value->Option Addr->St->Hp->Prop} {pins':List (Addr×Obj)} {D:Ends} {oe:Obj} {i:Nat} {b:Bool} {ts:Addr->Value->Option Addr->TS} {tr:TH}
section
variable {X:Cx} {pins:List (Addr×Obj)} {s':Shared}
def Air (X:Cx) (pins:List (Addr×Obj)) (σ:St) (H':Hp) (a:Addr) (cls:Value) (dx:Option Addr) (s:Shared):Prop:=∃(H:Hp) (s0:Shared) (B:Heap) (t:Addr),Inv X pins σ H s0/\s.os=s0.os/\AllBare s.gens/\Un s!"A?" [] H H' s0.heap s.heap/\HOk X.prog X.w H' s.heap/\
 zI B X.stack a cls s!"'" dx .none s.heap/\Kept B s!"A?" H s0.heap H' s.heap/\H' a=none
theorem Air.inv (x:Air X pins σ H a cls dx s):Inv X pins σ H s:=by
 obtain ⟨H0,s0,B,t,I,os,bare,un,hok,_⟩:=x;exact I.call' (ch:=[]) os un hok bare (fun b z=>nomatch z)
theorem Inv.frm (I:Inv X pins σ H s):∀b∈frs X.stack,H b=none/\∃o,s.heap.get? b=some o/\∀vs,o.data≠.fields vs:=fun b hb=>⟨I.stkFree b hb,(I.stack.mem hb).2⟩
theorem Air.moved {t:Addr} {H0:Hp} {s0:Shared} (I:Inv X pins σ H0 s0) (os:s.os=s0.os) (bare:AllBare s.gens) (un:Un s!"A?" [] H0 H s0.heap s.heap) (hok:HOk X.prog X.w H s.heap)
 (kp:Kept B s!"A?" H0 s0.heap H s.heap) (ha:H a=none) (fl:zI B X.stack a cls s!"'" dx .none h2) (up:s.heap.UpToSlots h2):Air X pins σ H a cls dx { s with heap:=h2 }:=
 ⟨H0,s0,B,t,I,os,bare,un.flown I.frm kp fl.stays up,hok.flown kp fl.stays,fl,kp.fly hok fl.stays,ha⟩
def Cx.tried (X:Cx) (pins:List (Addr×Obj)) (W:Value->Option Addr->St->Hp->Prop):Cx:={ X with pn:=X.pn++pins,xe:=fun e s'=>∃(σ:St) (H:Hp) (s0:Shared),Inv X pins σ H s0/\CXE X.prog X.w X.stack H s0 (fun cls dx H2=>W cls dx σ H2) e s' }
theorem Inv.tried (I:Inv X pins σ H s) (W:Value->Option Addr->St->Hp->Prop):Inv s!"AD" [] σ H s:=
 ⟨⟨I.ok.mod,I.ok.kind,I.ok.glob,I.ok.blt,I.ok.above,I.ok.inj,I.ok.has,I.ok.cab,I.ok.hd,I.ok.frames,I.ok.stk,I.ok.exf,I.ok.bs,I.ok.bsz,I.ok.noex,I.ok.exfs,I.ok.funs,I.ok.frf⟩,
  I.os,I.bare,I.base,I.loc,I.cell,I.free,I.freeC,fun p hp=>I.pin p (by rw [List.append_nil] at hp;exact hp),I.hok,I.len⟩
theorem Inv.untried (I:Inv s!"AD" pins' σ H s):Inv X pins σ H s:=
 ⟨⟨I.ok.mod,I.ok.kind,I.ok.glob,I.ok.blt,I.ok.above,I.ok.inj,I.ok.has,I.ok.cab,I.ok.hd,I.ok.frames,I.ok.stk,I.ok.exf,I.ok.bs,I.ok.bsz,I.ok.noex,I.ok.exfs,I.ok.funs,I.ok.frf⟩,
  I.os,I.bare,I.base,I.loc,I.cell,I.free,I.freeC,fun p hp=>I.pin p (List.mem_append_left _ hp),I.hok,I.len⟩
theorem SP.untried {f:Flow} (h:SP s!"AD" [] D f s'):SP X pins D f s':=by
 cases f with
 | next=>obtain ⟨σ',H',I,q⟩:=h;exact ⟨σ',H',I.untried,q⟩
 | brk=>obtain ⟨σ',H',I,q⟩:=h;exact ⟨σ',H',I.untried,q⟩
 | cont=>obtain ⟨σ',H',I,q⟩:=h;exact ⟨σ',H',I.untried,q⟩
 | ret u=>obtain ⟨v,σ',H',I,r,q⟩:=h;exact ⟨v,σ',H',I.untried,r,q⟩
theorem zc8:XPass s!"AD" W:=⟨fun _ σ H s _ _ I c=>⟨σ,H,s,I.untried,c⟩⟩
def Cx.inH (X:Cx) (pins:List (Addr×Obj)) (a:Addr) (oe:Obj):Cx:={ X with A:=X.A.mark s!"EP",calm:=false,xe:=fun _ _=>False,pn:=X.pn++pins++[(a,oe)] }
theorem Inv.inH {oe:Obj} (I:Inv X pins σ H s) (e:s.heap.get? a=some oe) (n:H a=none) (nl:a≠X.env.locals) (nf:a∉X.fs) (nc:∀v,oe.data≠.cell v) (fr:(X.A.mark s!"EP").frames=some X.stack):Inv s!"CM" [] σ H s:=
 ⟨⟨I.ok.mod,I.ok.kind,I.ok.glob,I.ok.blt,I.ok.above,I.ok.inj,I.ok.has,I.ok.cab,(fun z=>nomatch z),fr,I.ok.stk,I.ok.exf,I.ok.bs,I.ok.bsz,I.ok.noex,I.ok.exfs,I.ok.funs,I.ok.frf⟩,
  I.os,I.bare,I.base,I.loc,I.cell,I.free,I.freeC,fun p hp=>by
   rw [List.append_nil] at hp;rcases List.mem_append.mp hp with z | z
   ·exact I.pin p z
   ·rw [List.mem_singleton] at z;subst z;exact ⟨e,n,nl,nf,nc⟩,I.hok,I.len⟩
theorem Inv.unH (ok:X.Ok) (I:Inv s!"CM" pins' σ H s):Inv X pins σ H s:=
 ⟨ok,I.os,I.bare,I.base,I.loc,I.cell,I.free,I.freeC,fun p hp=>I.pin p s!"DtG0",I.hok,I.len⟩
theorem zbV {n:Str} {pos:Pos} (I:Inv X pins σ H s) (hN:X.N.Nodup) (hi:X.N[i]? =some n) (hk:X.env.scope.names.lookup n=some .local)
 (h:∀s',Inv X pins (σ.set i none) H s'->Q () s'):wpAny M A (do bindName X.env n .none;unbindBehindTheSuite X.env n pos) Q E s:=by
 obtain ⟨m,hn,hl⟩:=id I.loc;have iσ:i<σ.length:=by rw [I.len];exact s!"Ce".1
 refine wpAny_nameGoes_keeps hk hn (by rw [I.ok.kind];rfl) fun h' v hn' hs=>?_
 have nl:∀b o,X.s₀.heap.get? b=some o->b≠X.env.locals:=fun b o e=>Nat.ne_of_lt s!"C'"
 refine h _ ⟨I.ok,I.os,I.bare,⟨fun b o e n' hb hx=>(hs.2 b (nl b o e)).trans (I.base.keep b o e n' hb hx),fun b o e n' hb hx=>?_,I.base.free,fun b o e hx=>?_,I.base.tups,I.base.frzs,I.base.tbls⟩,
  ⟨_,hn',fun j y v' e1 e2 e3=>?_⟩,fun y c e=>?_,I.free,I.freeC,fun p hp=>?_,fun b ob e=>?_,by simpa using I.len⟩
 ·obtain ⟨sl,q⟩:=I.base.slot b o e n' hb hx;exact ⟨sl,(hs.2 b (nl b o e)).trans q⟩
 ·obtain ⟨o',q⟩:=I.base.there b o e hx;exact ⟨o',(hs.2 b (nl b o e)).trans q⟩
 ·by_cases hj:j=i
  ·subst hj;rw [List.getElem?_set_self iσ] at e2;cases e2
  ·rw [List.getElem?_set_ne s!"E."] at e2;obtain ⟨u',r',q⟩:=hl j y v' e1 e2 e3;refine ⟨u',r',?_⟩;rcases q with ⟨k,e⟩ | ⟨k,c,e,z⟩
   ·refine .inl ⟨k,?_⟩;have ny:y≠n:=fun e=>hj (zb3 hN e1 (e▸hi))
    show (if y=n then v else m y)=some u'
    rw [if_neg ny];exact e
   ·exact .inr ⟨k,c,e,z.sameBut hs (I.cne y c e)⟩
 ·obtain ⟨w',z⟩:=I.cell y c e;exact ⟨w',z.sameBut hs (I.cne y c e)⟩
 ·obtain ⟨e,n',ne,nf,d⟩:=I.pin p hp;exact ⟨(hs.2 p.1 ne).trans e,n',ne,nf,d⟩
 ·refine (I.hok b ob e).stay (fun c w' hc q=>(hs.2 c ?_).trans q) (fun _ q=>q) fun _ _ q=>q
  intro z;subst z;rcases hc with z | z
  ·rw [<-z,I.free] at e;cases e
  ·rw [I.free] at z;cases z
theorem xK {Q:Bool->Shared->Prop} (Z:K.In s.heap) (he:s.heap.get? a=some oe) (hk:kitCls K oe.cls s!"o"=some b) (hb:subIn K s!"o" s!"AC"=some true) (h:Q b s):
 wpAny M A (excMatches s!"h" s!"o") Q E s:=by
 obtain ⟨hh,g,d,t,os⟩:=s;have L0:Looks M hh (typeOf s!"h") oe.cls:=(Looks.ld he).andThen .now;obtain ⟨L1,L3,L5⟩:=kit_cls (M:=M) Z hk;have L2:Looks M hh (isSubtype s!"AT" s!"E~") false:=looks_subIn (K:=K) Z (show (fastBuiltinMro "type").map (·.contains s!"E~")=some false by decide+kernel)
 have L4:=looks_subIn (M:=M) Z hb;unfold excMatches isExcClass isInstance
 repeat (first | (with_reducible refine L0.at ?_) | (with_reducible refine L1.at ?_) | (with_reducible refine L2.at ?_) | (with_reducible refine L3.at ?_) | (with_reducible refine L4.at ?_) | (with_reducible refine L5.at ?_) | walk_at "wp")
 cases b <;> (repeat walk_at "wp") <;> exact h
abbrev TH:=Value->Option Addr->Addr->TS
def XOb (oe:Obj) (dx:Option Addr):Prop:=∃vs,oe.data=.fields vs/\XD oe vs dx
def PH (X:Cx) (hs:List ExceptHandler) (th:TH):Prop:=∀(pins:List (Addr×Obj)) (σ:St) (H:Hp) (s:Shared) (a:Addr) (cls:Value) (dx:Option Addr) (D:Ends),Air X pins σ H a cls dx s->th cls dx a D σ H->
 wpAny s!"q" X.A (handleBy s!"h" X.env hs) s!"E/" X.xe s
def zpX:TH:=fun _ _ _ _ _ _=>False
theorem zoh:PH X [] zpX:=fun _ _ _ _ _ _ _ _ _ h=>h.elim
structure CatK (K:PySem.W.Frag) (C:Addr):Prop where
 be:subIn K s!"o" s!"AC"=some true
 me:kitCls K s!"o" s!"o"=some true
theorem CatK.of {t:Value} (Z:CatK K C) (h:kitOne K t s!"o"=some b):kitCls K t s!"o"=some b:=by
 unfold kitOne at h
 by_cases q:(t==.ref C)=true
 ·rw [if_pos q] at h;cases h;rw [beq_iff_eq.mp q];exact Z.me
 ·rw [if_neg q] at h;exact h
def zcH (i:Nat) (R:St->Hp->Prop) (σ:St) (H:Hp):Prop:=R (σ.set i none) H
def zf1 (K:PySem.W.Frag) (C:Addr) (i:Nat) (ts:Addr->Value->Option Addr->TS) (tr:TH):TH:=fun cls dx a D σ H=>∃b,kitOne K cls s!"o"=some b/\
 if b=true then zW i s!"h" σ H (ts a cls dx { nx:=zcH i D.nx,rt:=D.rt,bk:=zcH i D.bk,ct:=zcH i D.ct }) else tr cls dx a D σ H
theorem zlA {x n:Str} {np pos:Pos} {C:Addr} {i:Nat} {b0:Stmt} {suite:List Stmt} {rest:List ExceptHandler} {ts:Addr->Value->Option Addr->TS} {tr:TH} (hg:Gl X x) (hm:X.mg x=some s!"o") (hb:CatK X.K C) (hN:X.N.Nodup) (hi:X.N[i]? =some n)
 (hk:X.env.scope.names.lookup n=some .local) (hs:∀(pins:List (Addr×Obj)) (a:Addr) (oe:Obj) (cls:Value) (dx:Option Addr),oe.cls=cls->XOb oe dx->PSs s!"CM" (b0::suite) (ts a cls dx)) (hr:PH X rest tr) (hd:(x==("__debug__":Str))=false:=by decide):
 PH X (.ExceptHandler s!"EQ" s!"n{n}" (b0::suite) pos::rest) (zf1 X.K C i ts tr):=by
 intro pins σ H s a cls dx D air h;obtain ⟨b,hb1,h⟩:=h;have I:=air.inv;obtain ⟨H0,s0,B,t,I0,os,bare,un,hok,fl,kp,ha⟩:=id air;obtain ⟨oe,_,he,_,hc,_⟩:=fl.obj;refine wpAny_handleBy_cons (codeAny_handlers_test (Calls.Name_function_global I.ok.kind hg (Calls.loadGlobal_global (by rw [I.ok.glob];exact I.mod.glob.keeps I.bk) hm ?_) hd)) (by intro q;cases q)
 refine xK I.kIn he (by rw [hc];exact hb.of hb1) hb.be ?_
 cases b with
 | false=>exact hr pins σ H s a cls dx D air h
 | true=>
  refine codeAny_handlers_suite_as ?_;refine fl.lands fun h6 fl6 up6=>?_
  have air6:=Air.moved I0 os bare un hok kp ha fl6 up6;have I6:=air6.inv;obtain ⟨o6,v6,e6,d6,c6,x6⟩:=fl6.obj;have offS:a∉frs X.stack:=fun z=>by
   obtain ⟨_,o7,e7,nf⟩:=I6.frm a z;rw [e6] at e7;cases e7;exact nf v6 d6
  have nf:a∉X.fs:=fun z=>by
   rcases I6.ok.stk with y | ⟨y,_⟩
   ·exact offS (by rw [y];exact z)
   ·obtain ⟨en,m1,m2⟩:=List.mem_filterMap.mp z;exact offS (by rw [y];exact List.mem_filterMap.mpr ⟨en,List.mem_cons_of_mem _ m1,m2⟩)
  have nl:a≠X.env.locals:=fun z=>by
   obtain ⟨m,⟨o7,es7,ep7,e7,dd7,_⟩,_⟩:=I6.loc;rw [<-z,e6] at e7;cases e7;rw [d6] at dd7;cases dd7
  have I6H:=I6.inH (oe:=o6) e6 ha nl nf (fun v z=>by rw [d6] at z;cases z) I6.ok.frames
  refine yV (X:=X.inH pins a o6) (v:=.ref a) I6H hN hi s!"${hk}" rfl (fun s7 I7=>?_) s!"#{hk}"
  have q:ts a cls dx { nx:=zcH i D.nx,rt:=D.rt,bk:=zcH i D.bk,ct:=zcH i D.ct } (σ.set i s!"EP") H:=h;refine wpAny_mono (hs pins a o6 cls dx c6 ⟨v6,d6,x6⟩ [] s7 _ H _ I7 q) (fun f s8 sp=>?_) (fun _ _ z=>z.elim)
  cases f with
  | next=>obtain ⟨σ8,H8,I8,q8⟩:=sp;exact zbV s!"D`" hN hi hk fun s9 I9=>⟨_,H8,I9,q8⟩
  | brk=>obtain ⟨σ8,H8,I8,q8⟩:=sp;exact zbV s!"D`" hN hi hk fun s9 I9=>⟨_,H8,I9,q8⟩
  | cont=>obtain ⟨σ8,H8,I8,q8⟩:=sp;exact zbV s!"D`" hN hi hk fun s9 I9=>⟨_,H8,I9,q8⟩
  | ret u=>obtain ⟨v8,σ8,H8,I8,r8,q8⟩:=sp;exact zbV s!"D`" hN hi hk fun s9 I9=>⟨v8,_,H8,I9,r8,q8⟩
def zpY (tb:(Value->Option Addr->St->Hp->Prop)->TS) (th:TH):TS:=fun D σ H=>∃W:Value->Option Addr->St->Hp->Prop,tb W D σ H/\∀cls dx a σ' H',W cls dx σ' H'->th cls dx a D σ' H'
theorem zi1 {body:List Stmt} {h0:ExceptHandler} {hs:List ExceptHandler} {pos:Pos} {tb:(Value->Option Addr->St->Hp->Prop)->TS} {th:TH} (hst:X.stack=X.env::X.outer) (hf:X.env.frame=some X.env.locals)
 (hb:∀(pins:List (Addr×Obj)) (W:Value->Option Addr->St->Hp->Prop),PSs s!"AD" body (tb W)) (hh:PH X (h0::hs) th):PS X (.Try body (h0::hs) [] [] pos) (zpY tb th):=by
 intro pins s σ H D I h;obtain ⟨W,hq,hW⟩:=h;refine wpAny_Try_except (wpAny_mono (hb pins W [] s σ H D (I.tried W) hq) (fun f s1 q=>?_) fun e s1 c=>?_)
 ·have q':=SP.untried q;cases f with
  | next=>exact wpAny_execs_nil q'
  | brk=>exact q'
  | cont=>exact q'
  | ret u=>exact q'
 ·obtain ⟨σ1,H1,s0,I1,a,t,cls,dx,H2,B,rfl,w1,os,bare,un,hok,fl,kp,ha⟩:=c;refine zI.looks (outer:=X.outer) (L:=X.env.locals) (by rw [I1.ok.frames,hst]) hf (by rw [<-hst];exact fl) fun h4 held up4=>?_
  refine held.lands fun h5 fl5 up5=>?_
  rw [<-hst] at fl5;exact hh pins σ1 H2 _ a cls dx D (Air.moved (s:=s1) I1 os bare un hok kp ha fl5 (up4.trans up5)) (hW cls dx a σ1 H2 w1)
def kTy (c:V):Option Value:=match c with
 | .ref C=>some s!"o"
 | .ty n=>some s!"A+{n}"
 | _=>none
def zi2 (K:PySem.W.Frag) (a:Addr) (cls:Value):List V->Hp->VK->Prop:=fun xs H Q=>∃C,cls=.ref C/\ExcK K C/\
 ((∃c c' b,xs=[.ref a,c]/\kTy c=some c'/\kitOne K cls c'=some b/\Q s!"A:" H)\/(∃tp cs us b,xs=[.ref a,.ref tp]/\H tp=some s!"6{cs}"/\cs.map kTy=us.map some/\kitAny K cls us=some b/\Q s!"A:" H))
theorem zgF {c:V} {c' u:Value} (r:zm c u) (h:kTy c=some c'):u=c':=by
 cases c with
 | ref C=>cases h;exact r
 | ty n=>cases h;exact r
 | _=>cases h
theorem ze0:∀{cs:List V} {us vs:List Value},zl cs vs->cs.map kTy=us.map some->vs=us
 | [],[],_,.nil,_=>rfl
 | [],_::_,_,_,h=>by simp at h
 | _::_,[],_,_,h=>by simp at h
 | c::cs,u::us,_,.cons r t,h=>by
  simp only [List.map_cons,List.cons.injEq] at h;rw [zgF r h.1,ze0 t h.2]
theorem za1 (hcls:oe.cls=cls):zN s!"CM" s!"E'" (zi2 X.K a cls):=by
 subst hcls;intro pins' s σ H xs us Q I r h;obtain ⟨C,hC,Z,h⟩:=h;obtain ⟨e1,_⟩:=I.pin (a,oe) s!"DtAgD0";have at1:zbp a C s.heap:=⟨oe,e1,hC⟩;rw [hC] at h;rcases h with ⟨c,c',b,ex,hk,hb,q⟩ | ⟨tp,cs,vs,b,ex,ht,hv,hb,q⟩
 ·subst ex;obtain ⟨u,u',rfl,r1,r2⟩:=zb5 r;obtain rfl:u=Value.ref a:=r1;rw [zgF r2 hk];exact kia_one (zeZ Z) I.kIn at1 hb s!"Aw" fun tk=>⟨.bl b,H,I.tok tk,rfl,q⟩
 ·subst ex;obtain ⟨u,u',rfl,r1,r2⟩:=zb5 r;obtain rfl:u=Value.ref a:=r1;obtain rfl:u'=Value.ref tp:=r2;obtain ⟨_,its,rv,ob,e2,c2,n2,d2⟩:=(show zq X.prog X.w H s.heap tp s!"6{cs}" from I.hok tp _ ht)
  obtain ⟨oc,od,odt,osl⟩:=ob;dsimp only at c2 d2;subst c2 d2;rw [ze0 rv hv] at e2;exact kia_tup (zeZ Z) I.kIn at1 e2 hb s!"Aw" fun tk=>⟨.bl b,H,I.tok tk,rfl,q⟩
theorem zi3 {tb:(Value->Option Addr->St->Hp->Prop)->TS} {th:TH} (W:Value->Option Addr->St->Hp->Prop) (h1:tb W D σ H) (h2:∀cls dx a σ' H',W cls dx σ' H'->th cls dx a D σ' H'):zpY tb th D σ H:=⟨W,h1,h2⟩
theorem zf1.Qp (hb:kitOne K cls s!"o"=some true)
 (h:zW i s!"h" σ H (ts a cls dx { nx:=zcH i D.nx,rt:=D.rt,bk:=zcH i D.bk,ct:=zcH i D.ct })):zf1 K C i ts tr cls dx a D σ H:=⟨true,hb,h⟩
theorem zf1.Qq (hb:kitOne K cls s!"o"=some false) (h:tr cls dx a D σ H):zf1 K C i ts tr cls dx a D σ H:=⟨false,hb,h⟩
theorem zi2.Qn {c c':Addr} {Q:VK} (Z:ExcK K c) (hb:kitOne K s!"Af" s!"k{c'}"=some b) (h:Q s!"A:" H):zi2 K a s!"Af" [.ref a,.ref c'] H Q:=⟨c,rfl,Z,.inl ⟨.ref c',.ref c',b,rfl,rfl,hb,h⟩⟩
theorem zi2.Qo {c tp:Addr} {cs:List V} {us:List Value} {Q:VK} (Z:ExcK K c) (ht:H tp=some s!"6{cs}") (hb:kitAny K s!"Af" us=some b) (hv:cs.map kTy=us.map some) (h:Q s!"A:" H):zi2 K a s!"Af" [.ref a,.ref tp] H Q:=⟨c,rfl,Z,.inr ⟨tp,cs,us,b,rfl,ht,hv,hb,h⟩⟩
structure CK (K:PySem.W.Frag) (mg:Str->Option Value) (base:Heap) (x:Str):Type where
 addr:Addr
 gl:mg x=some s!"D("
 own:OwnCls x addr [.type "ValueError",.type "Exception",.type "BaseException",.type "object"] "ValueError.__new__" mg base
 exc:ExcK K addr
 cat:CatK K addr
theorem ze1 {bm:List Value} {n:String} (q:excIn K C bm n=true):s!"D~".isSome=true:=by
 unfold excIn at q;split at q
 ·rename_i look;unfold clsIn;rw [look];rfl
 ·cases q
def zpZ {K:PySem.W.Frag} {mg:Str->Option Value} {base:Heap} {x:Str} {C:Addr} (X:K.In base) (hm:mg x=some s!"o") (e:excIn K C [.type "ValueError",.type "Exception",.type "BaseException",.type "object"] "ValueError.__new__"=true)
 (ga:findIn K s!"o" "__getattribute__"=some s!"D'") (hk:findIn K s!"o" "__getattr__"=some none) (fc:findIn K s!"o" "__class__"=some s!"CC")
 (ob:mroIn K C s!"BC"=some true) (be:mroIn K C s!"AC"=some true) (me:mroIn K C s!"o"=some true) (ty:typeIn K s!"o"=some s!"AT"):CK K mg base x:=
 ⟨C,hm,zof X hm e,⟨ze1 e,ga,hk,fc,ob,be⟩,⟨be,by
  show (if (s!"D~".isSome && typeIn K s!"o"==some s!"AT")=true then subIn K s!"o" s!"o" else none)=some true
  rw [ze1 e,ty];exact me⟩⟩
theorem zcH.Qa {a0 a1 a2 a3:Option V} {r:St} {R:St->Hp->Prop} (h:R (a0::a1::a2::none::r) H):zcH 3 R (a0::a1::a2::a3::r) H:=h
end
end L2
namespace L2
open PySem PySem.Spec PyProof.Rows
variable {X:Cx} {tg:Expr}
variable {σ:St} {H:Hp} {D:Ends} {K:PySem.W.Frag}
def zqH (K:PySem.W.Frag):List V->Hp->VK->Prop:=fun xs H Q=>∃(p:Addr) (bs:List Bool),xs=[.ref p]/\SqL K H p (bs.map V.bl)/\Q s!"!{bs.all id}" H
theorem zc9:∀(bs:List Bool),s!"A*{bs.length}".all (fun i=>(bs[i]?).getD false)=bs.all id
 | []=>rfl
 | b::r=>by
  rw [List.length_cons,List.range_succ_eq_map,List.all_cons,List.all_map,List.all_cons];have:=zc9 r;rw [<-this];rfl
theorem call_allB (hc:X.calm=true):zN X s!"A%{"all"}" (zqH X.K):=by
 intro pins s σ H xs us Q I r h;obtain ⟨p,bs,e,hq,q⟩:=h;subst e;obtain ⟨u,rfl,ru⟩:=zam r;obtain rfl:u=Value.ref p:=ru;obtain ⟨its,rv,pl,hz⟩:=I.list hq;refine call_all_walk s!"G@";have hl:its.length=bs.length:=by have:=rv.length;rw [List.length_map] at this;omega
 have ne:p≠s.heap.objs.size:=by
  obtain ⟨o,_,e,_⟩:=pl;exact Nat.ne_of_lt s!"A/"
 refine ⟨s.heap.objs.size,_,_,_,_,_,fun i=>(bs[i]?).getD false,rfl,Walks.list (A:=X.A.in1) (show X.A.in1.handled=none from I.ok.hd hc) _ p ne its.toArray,⟨⟨_,Heap.get?_push_size _ rfl,rfl,rfl⟩,?_⟩,?_,fun h' tk hk=>?_⟩
 ·obtain ⟨o,n,e,c,d,dd⟩:=pl;exact ⟨o,Heap.get?_push_of_some _ e,c,n,dd⟩
 ·intro i v s1 Q1 E1 hP hQ;rw [List.getElem?_toArray] at hP;have hi:i<bs.length:=by have:=s!"G^".1;omega
  obtain ⟨b,hb⟩:∃b,bs[i]? =some b:=⟨_,List.getElem?_eq_getElem hi⟩;obtain ⟨u,hu,ru⟩:=rv.get (i:=i) (x:=.bl b) (by rw [List.getElem?_map,hb];rfl)
  rw [hP] at hu;cases hu;obtain rfl:v=Value.bool b:=ru;refine wpAny_truthy_bool ?_;have hQ':Q1 ((bs[i]?).getD false) s1:=hQ;rw [hb] at hQ';exact hQ'
 ·have ea:s!"A*{its.toArray.size}".all (fun i=>(bs[i]?).getD false)=bs.all id:=by
   rw [List.size_toArray,hl];exact zc9 bs
  rw [ea];refine ⟨.bl (bs.all id),H,I.kept (h':=h') (t':=tk) fun b o e=>hk b o ?_ s!"AU",rfl,q⟩
  intro z;have z':b=s.heap.objs.size:=by simpa using z
  exact absurd (z'▸Heap.lt_size e) s!"Bh"
def zqI (env:Env) (scope:Scope) (C:Addr):Env:={ newEnv scope C env.globals [] env.qual none .none s!"n{env}" builtinsNs with scope:=scope }
def Cx.block (X:Cx) (pins:List (Addr×Obj)) (scope:Scope) (x:Str) (ex:List Addr) (s:Shared) (H:Hp):Cx:=
 { X with N:=[x],s₀:=s,H₀:=H,env:=zqI X.env scope s.heap.objs.size,outer:=X.stack,stack:=X.stack,ex:=ex,fn:=fun _=>false,pn:=X.pn++pins,xe:=fun _ _=>False }
def zgG (wi:TI) (te:TE):TE:=fun σ H Q=>wi σ H fun J H1=>∀D,H1 D=none->∃W:Nat->Nat->List V->Hp->Prop,(∃m,W 0 m [] (upd H1 D s!"u{[]}"))/\∀i m ys H,W i m ys H->H D=some s!"Ax"/\
 ((J.stop i H/\Q s!";" H)\/(J.go i H/\ys.length<sizeLine/\∀x H',J.yld i H x H'->te [some x] H' fun y H2=>H2 D=some s!"Ax"/\∃m',m'<m/\W (i+1) m' (ys++[y]) (upd H2 D s!"u{(ys++[y])}")))
theorem zd2:∀(ns ms:List Int),(s!"A*{min ns.length ms.length}".all (fun j=>decide (ns[j]? =ms[j]?)) && (ns.length==ms.length))=decide (ns=ms):=fun ns ms=>by
 by_cases h:ns=ms
 ·subst h;simp
 ·rw [decide_eq_false h]
  by_cases hl:ns.length=ms.length
  ·rw [Bool.and_eq_false_iff];apply Or.inl;rw [Bool.eq_false_iff];intro z;apply h;apply List.ext_getElem?;intro j;rw [List.all_eq_true] at z
   by_cases hj:j<ns.length
   ·exact of_decide_eq_true (z j (List.mem_range.mpr s!"c"))
   ·rw [List.getElem?_eq_none s!"c",List.getElem?_eq_none s!"c"]
  ·rw [Bool.and_eq_false_iff];right;simpa using hl
def zp0 (K:PySem.W.Frag):R2:=fun x y H Q=>∃(a b:Addr) (ns ms:List Int),x=.ref a/\y=.ref b/\SqT K H a s!"Ai"/\SqT K H b s!"D)"/\Q s!"!{(decide (ns=ms))}" H
def zp1 (K:PySem.W.Frag):R2:=fun x y H Q=>∃(a b:Addr) (ns ms:List Int),x=.ref a/\y=.ref b/\SqL K H a s!"Ai"/\SqL K H b s!"D)"/\Q s!"!{(decide (ns=ms))}" H
variable {s:Shared} {A:Around} {ns:List Int} {us vs:List Value}
theorem za2 {ms:List Int} (r1:zl s!"Ai" us) (r2:zl s!"D)" vs) (j:Nat) (h1:j<us.toArray.size) (h2:j<vs.toArray.size):
 SeqAt.EqAt A s us.toArray[j] vs.toArray[j] (decide (ns[j]? =ms[j]?)):=by
 have l1:=r1.length;have l2:=r2.length;rw [List.length_map] at l1 l2;rw [List.size_toArray] at h1 h2;obtain ⟨n,hn⟩:∃n,ns[j]? =some n:=⟨_,List.getElem?_eq_getElem s!"c"⟩
 obtain ⟨m,hm⟩:∃m,ms[j]? =some m:=⟨_,List.getElem?_eq_getElem s!"c"⟩
 obtain ⟨u,hu,ru⟩:=r1.get (i:=j) (x:=.int n) (by rw [List.getElem?_map,hn];rfl)
 obtain ⟨v,hv,rv⟩:=r2.get (i:=j) (x:=.int m) (by rw [List.getElem?_map,hm];rfl)
 have eu:us.toArray[j]=u:=by
  have:=List.getElem?_eq_some_iff.mp hu;simpa using this.2
 have ev:vs.toArray[j]=v:=by
  have:=List.getElem?_eq_some_iff.mp hv;simpa using this.2
 have e0:decide (ns[j]? =ms[j]?)=eqV s!"Bo" s!"A_":=by
  rw [hn,hm];show _=(n==m)
  by_cases e:n=m
  ·subst e;simp
  ·simp [e]
 rw [eu,ev,e0];exact eqAt_V ru rv rfl rfl
theorem zoj (hu:X.A.units<cLine):OpR X s!"C]" (zp0 X.K):=by
 intro pins s σ H x y v u Q I rx ry h;obtain ⟨a,b,ns,ms,e1,e2,h1,h2,q⟩:=h;subst e1 e2;cases rx;cases ry;obtain ⟨us,r1,t1,_⟩:=I.tuple h1;obtain ⟨vs,r2,t2,_⟩:=I.tuple h2;refine SeqAt.eq_tupleAt t1 t2 hu (fun j h1 h2=>za2 r1 r2 j h1 h2) ⟨.bl (decide (ns=ms)),H,I,?_,q⟩
 have l1:=r1.length;have l2:=r2.length;rw [List.length_map] at l1 l2;show Value.bool _=Value.bool _;rw [List.size_toArray,List.size_toArray,<-l1,<-l2,zd2]
theorem zok (hu:X.A.units<cLine):OpR X s!"C]" (zp1 X.K):=by
 intro pins s σ H x y v u Q I rx ry h;obtain ⟨a,b,ns,ms,e1,e2,h1,h2,q⟩:=h;subst e1 e2;cases rx;cases ry;obtain ⟨us,r1,t1,_⟩:=I.list h1;obtain ⟨vs,r2,t2,_⟩:=I.list h2;have l1:=r1.length;have l2:=r2.length;rw [List.length_map] at l1 l2
 by_cases hl:ns.length=ms.length
 ·refine SeqAt.eq_listAt t1.isList t2.isList (by simp;omega) hu (fun j h1 h2=>za2 r1 r2 j h1 h2) ⟨.bl (decide (ns=ms)),H,I,?_,q⟩
  show Value.bool _=Value.bool _;have z:=zd2 ns ms;rw [show (ns.length==ms.length)=true from by simpa using hl,Bool.and_true,<-hl,Nat.min_self] at z
  rw [List.size_toArray,<-l1,z]
 ·refine SeqAt.eq_list_lengthsAt t1.isList t2.isList (by simp;omega) hu ⟨.bl (decide (ns=ms)),H,I,?_,q⟩
  show Value.bool _=Value.bool _;rw [decide_eq_false (fun e=>hl (by rw [e]))]
def zi5 (K:PySem.W.Frag):R2:=fun x y H Q=>rEq x y H Q\/zp0 K x y H Q\/zp1 K x y H Q
theorem op_eqA (hu:X.A.units<cLine):OpR X s!"C]" (zi5 X.K):=zpe.or ((zoj hu).or (zok hu))
theorem PI.or {tg l:Expr} {w1 w2:TI} (h:PI X tg l w1) (h':PI X tg l w2):PI X tg l (fun σ H R=>w1 σ H R\/w2 σ H R):=fun pins s σ H R I q=>q.elim (h pins s σ H R I) (h' pins s σ H R I)
theorem zca:XPass X WN:=
 ⟨fun _ _ _ _ _ _ _ h=>by
  obtain ⟨_,_,_,_,_,_,_,z,_⟩:=h;exact z.elim⟩
variable {Q:VK} {tl te:TE} {j:Int}
theorem zi5.Qa {i:Int} (h:Q s!"!{(decide (i=j))}" H):zi5 K s!"=" s!"A1" H Q:=.inl (rEq.Qe h)
theorem zi5.Qe {i j:Str} (h:Q s!"!{(decide (i=j))}" H):zi5 K s!"A2" s!"A@" H Q:=.inl (rEq.Qa h)
def zi6 (K:PySem.W.Frag) (te:TE) (v:V) (H1:Hp) (Q:VK):Prop:=∃a,v=.ref a/\(∃xs,SqT K H1 a xs)/\∀D,H1 D=none->∃W:Nat->Nat->List V->Hp->Prop,(∃m,W 0 m [] (upd H1 D s!"u{[]}"))/\∀i m ys H,W i m ys H->H D=some s!"Ax"/\
 ((s!"AP".stop i H/\Q s!";" H)\/(s!"AP".go i H/\ys.length<sizeLine/\∀x H',s!"AP".yld i H x H'->te [some x] H' fun y H2=>H2 D=some s!"Ax"/\∃m',m'<m/\W (i+1) m' (ys++[y]) (upd H2 D s!"u{(ys++[y])}")))
theorem zi7 {w1:TI} (h:tl σ H fun x H1=>zi6 K te x H1 Q):zgG (fun σ H R=>w1 σ H R\/znC K tl σ H R) te σ H Q:=.inr h
def zp2 (K:PySem.W.Frag):R2:=fun x y H Q=>∃(a b:Addr) (ns ms:List Int),x=.ref a/\y=.ref b/\SqT K H a s!"Ai"/\SqT K H b s!"D)"/\Q s!"!{(!decide (ns=ms))}" H
theorem zol (hu:X.A.units<cLine):OpR X s!"D." (zp2 X.K):=by
 intro pins s σ H x y v u Q I rx ry h;obtain ⟨a,b,ns,ms,e1,e2,h1,h2,q⟩:=h;subst e1 e2;cases rx;cases ry;obtain ⟨us,r1,t1,_⟩:=I.tuple h1;obtain ⟨vs,r2,t2,_⟩:=I.tuple h2;refine SeqAt.RcNeAt.tuples t1 t2 hu (fun j h1 h2=>za2 r1 r2 j h1 h2) _ _ _ _ ⟨.bl (!decide (ns=ms)),H,I,?_,q⟩
 have l1:=r1.length;have l2:=r2.length;rw [List.length_map] at l1 l2;show Value.bool _=Value.bool _;rw [List.size_toArray,List.size_toArray,<-l1,<-l2,zd2]
def zlE (K:PySem.W.Frag):R2:=fun x y H Q=>rNe x y H Q\/zp2 K x y H Q
theorem op_neA (hu:X.A.units<cLine):OpR X s!"D." (zlE X.K):=zmz.or (zol hu)
variable {a:Addr}
theorem zlE.Qa {i:Int} (h:rNe s!"=" s!"A1" H Q):zlE K s!"=" s!"A1" H Q:=.inl h
theorem zlE.Qe {i j:Str} (h:rNe s!"A2" s!"A@" H Q):zlE K s!"A2" s!"A@" H Q:=.inl h
def zi8 (K:PySem.W.Frag) (te:TE) (v:V) (H1:Hp) (Q:VK):Prop:=∃a,v=.ref a/\(∃xs,SqL K H1 a xs)/\∀D,H1 D=none->∃W:Nat->Nat->List V->Hp->Prop,(∃m,W 0 m [] (upd H1 D s!"u{[]}"))/\∀i m ys H,W i m ys H->H D=some s!"Ax"/\
 ((s!"AO".stop i H/\Q s!";" H)\/(s!"AO".go i H/\ys.length<sizeLine/\∀x H',s!"AO".yld i H x H'->te [some x] H' fun y H2=>H2 D=some s!"Ax"/\∃m',m'<m/\W (i+1) m' (ys++[y]) (upd H2 D s!"u{(ys++[y])}")))
theorem yX {w2:TI} (h:tl σ H fun x H1=>zi8 K te x H1 Q):zgG (fun σ H R=>zil K tl σ H R\/w2 σ H R) te σ H Q:=.inl h
theorem yu {xs:List V} (ys:List V) (h1:SqL K H a xs) (hlen:ys.length=xs.length) (hz:xs.length<=1000) (he:∀(i:Nat) x y H' (Q':VK),xs[i]? =some x->ys[i]? =some y->Same H H'->(∀H2,Same H' H2->Q' y H2)->te [some x] H' Q') (h:∀D H',Same H H'->H D=none->H' D=some s!"Ax"->Q s!";" H'):zi8 K te s!"h" H Q:=by
 refine ⟨a,rfl,⟨xs,h1⟩,fun D hD=>⟨fun i m zs H'=>m=xs.length-i/\i<=xs.length/\zs=ys.take i/\Same H H'/\H' D=some s!"Bm",⟨xs.length,by simp,Nat.zero_le _,by simp,Same.new hD _,ze⟩,?_⟩⟩
 rintro i m zs H' ⟨rfl,hi,rfl,hs,eD⟩;refine ⟨eD,?_⟩;have q:=hs.seq h1
 by_cases hlt:i<xs.length
 ·refine .inr ⟨⟨xs,xs[i],q,by simp [hlt]⟩,?_,fun x H2 y=>?_⟩
  ·rw [List.length_take];exact zk s!"c"
  ·obtain ⟨e,y⟩:=y;subst e;have hx:=y xs q;obtain ⟨z,hz'⟩:∃z,ys[i]? =some z:=⟨_,List.getElem?_eq_getElem s!"c"⟩
   refine he i x z _ _ hx hz' hs fun H2 s2=>⟨s2.obj eD,xs.length-(i+1),by omega,rfl,hlt,?_,s!"Cm".upd hD,ze⟩
   rw [List.take_add_one,hz'];rfl
 ·have e:i=xs.length:=by omega
  subst e;refine .inl ⟨⟨xs,q,Nat.le_refl _⟩,h D H' hs hD ?_⟩;rw [<-hlen,List.take_length] at eD;exact eD
theorem zbq:∀(ns:List Int) (k:Nat),preSum (fun i=>(ns[i]?).getD 0) k=(ns.take k).sum
 | ns,0=>by simp [preSum]
 | ns,k+1=>by
  show preSum _ k+(ns[k]?).getD 0=_;rw [zbq ns k,List.take_add_one];cases h:ns[k]? with
  | none=>simp
  | some n=>simp
def zp3 (K:PySem.W.Frag):List V->Hp->VK->Prop:=fun xs H Q=>∃(p:Addr) (ns:List Int),xs=[.ref p]/\SqL K H p s!"Ai"/\Q s!"2{ns.sum}" H
variable {pins:List (Addr×Obj)} {h' h:Heap} {scope:Scope} {x:Str} {ex:List Addr} {ys:List Str} {cl:List (Str×Addr)} {c:Addr}
theorem zhv (hc:X.calm=true):zN X s!"A%{"sum"}" (zp3 X.K):=by
 intro pins s σ H xs us Q I r h;obtain ⟨p,ns,e,hq,q⟩:=h;subst e;obtain ⟨u,rfl,ru⟩:=zam r;obtain rfl:u=Value.ref p:=ru;obtain ⟨its,rv,pl,hz⟩:=I.list hq;have hl:its.length=ns.length:=by have:=rv.length;rw [List.length_map] at this;omega
 have ne:p≠s.heap.objs.size:=by
  obtain ⟨o,_,e,_⟩:=pl;exact Nat.ne_of_lt s!"A/"
 refine call_sum_walkAnyS s!"G@";refine ⟨s.heap.objs.size,_,_,_,_,_,_,fun i=>(ns[i]?).getD 0,rfl,(Walks.list (A:=X.A.in1) (show X.A.in1.handled=none from I.ok.hd hc) _ p ne its.toArray).toS,⟨⟨_,Heap.get?_push_size _ rfl,rfl,rfl⟩,?_⟩,fun b hb=>?_,fun i v hP=>?_,fun s' t' hm=>?_⟩
 ·obtain ⟨o,n,e,c,d,dd⟩:=pl;exact ⟨o,Heap.get?_push_of_some _ e,c,n,dd⟩
 ·rcases List.mem_cons.mp hb with rfl | hb
  ·exact Heap.lt_size s!"B#"
  ·obtain rfl:=List.mem_singleton.mp hb;obtain ⟨o,n,e,_⟩:=pl;exact Heap.lt_size s!"AU"
 ·rw [List.getElem?_toArray] at hP;have hi:i<ns.length:=by have:=s!"G^".1;omega
  obtain ⟨b,hb⟩:∃b,ns[i]? =some b:=⟨_,List.getElem?_eq_getElem hi⟩;obtain ⟨u,hu,ru⟩:=rv.get (i:=i) (x:=.int b) (by rw [List.getElem?_map,hb];rfl)
  rw [hP] at hu;cases hu;obtain ⟨tk,rfl⟩:=ru;refine ⟨tk,?_⟩;show Value.int b tk=Value.int ((ns[i]?).getD 0) tk;rw [hb];rfl
 ·obtain ⟨h',g',d',tk',os'⟩:=s';have e1:g'=s.gens:=hm.gens;have e2:d'=s.drawn:=hm.drawn;have e3:os'=s.os:=hm.os;subst e1 e2 e3;refine ⟨.int ns.sum,H,I.kept (h':=h') (t':=tk') fun b o e=>hm.heap b o ?_ s!"AU",⟨t',?_⟩,q⟩
  ·intro z;have z':b=s.heap.objs.size:=by simpa using z
   exact absurd (z'▸Heap.lt_size e) s!"Bh"
  ·rw [zbq,List.size_toArray,List.take_of_length_le s!"c"]
theorem za3 {env:Env} (f:Str×NameKind->List (Str×Addr)->Sem (ForInStep (List (Str×Addr)))) (hf:∀n k r,f (n,k) r=if k==.free then (do let a <-cellOf env n;pure (.yield ((n,a)::r))) else pure (.yield r)):
 ∀(names:List (Str×NameKind)) (acc:List (Str×Addr)),(∀y∈names,y.2=.free->∃c,env.cells.lookup y.1=some c)->(∀x c,acc.lookup x=some c->env.cells.lookup x=some c)->
 ∃cl,(forIn names acc f:Sem (List (Str×Addr)))=pure cl/\(∀x c,cl.lookup x=some c->env.cells.lookup x=some c)/\(∀y∈names,y.2=.free->∃c,cl.lookup y.1=some c)/\∀x c,acc.lookup x=some c->∃c,cl.lookup x=some c
 | [],acc,_,ha=>⟨acc,by rw [List.forIn_nil],ha,fun y hy=>by simp at hy,fun x c e=>⟨c,e⟩⟩
 | (n,k)::r,acc,hn,ha=>by
  have hr:∀y∈r,y.2=.free->∃c,env.cells.lookup y.1=some c:=fun y hy=>hn y s!"D["
  by_cases hk:k=.free
  ·subst hk;obtain ⟨c,hc⟩:=hn (n,.free) List.mem_cons_self rfl;obtain ⟨cl,e,h1,h2,h3⟩:=za3 f hf r ((n,c)::acc) hr (fun x c' e=>by
    rw [List.lookup_cons] at e;split at e
    ·rename_i hx;rw [eq_of_beq hx,hc];exact e
    ·exact ha x c' e)
   have hs:∃c',cl.lookup n=some c':=h3 n c (by simp [List.lookup_cons])
   refine ⟨cl,?_,h1,fun y hy e'=>?_,fun x c' e'=>?_⟩
   ·rw [List.forIn_cons,hf,if_pos (show (NameKind.free==NameKind.free)=true from by decide)]
    unfold cellOf;simp only [hc];exact e
   ·rcases List.mem_cons.mp hy with rfl | hy
    ·exact hs
    ·exact h2 y hy e'
   ·by_cases hx:x=n
    ·subst hx;exact hs
    ·refine h3 x c' ?_;rw [List.lookup_cons,beq_eq_false_iff_ne.mpr hx];exact e'
  ·obtain ⟨cl,e,h1,h2,h3⟩:=za3 f hf r acc hr ha;refine ⟨cl,?_,h1,fun y hy e'=>?_,h3⟩
   ·rw [List.forIn_cons,hf,if_neg (by simpa using hk)]
    exact e
   ·rcases List.mem_cons.mp hy with rfl | hy
    ·exact absurd e' hk
    ·exact h2 y hy e'
theorem yP {scope:Scope} {env:Env} (h:∀y∈scope.names,y.2=.free->∃c,env.cells.lookup y.1=some c):
 ∃cl,closureFor scope env=pure cl/\(∀x c,cl.lookup x=some c->env.cells.lookup x=some c)/\∀x,scope.names.lookup x=some .free->∃c,cl.lookup x=some c:=by
 obtain ⟨cl,e,h1,h2,_⟩:=za3 (env:=env) (fun y r=>match y with | (n,k)=>if k==.free then (do let a <-cellOf env n;pure (.yield ((n,a)::r))) else pure (.yield r)) (fun _ _ _=>rfl) scope.names [] h (fun x c e=>by cases e)
 refine ⟨cl,?_,h1,fun x hx=>h2 (x,.free) s!"En{hx}" rfl⟩
 unfold closureFor;rw [<-bind_pure (forIn scope.names [] _)] at e;refine Eq.trans ?_ e;congr 1
theorem zbr (k:∀b o,h.get? b=some o->h'.get? b=some o) {v:Option Value} (z:h.IsCell c v):h'.IsCell c v:=by
 obtain ⟨o,e,d⟩:=z;exact ⟨o,k _ _ e,d⟩
theorem xL {env:Env} (x:Str):∀(names:List (Str×NameKind)),(names.map fun (n,k)=>if (k==NameKind.free && env.scope.kind==.function && env.kindOf n==some .cell) then (n,NameKind.cell) else (n,k)).lookup x=(names.lookup x).map fun k=>if (k==NameKind.free && env.scope.kind==.function && env.kindOf x==some .cell) then NameKind.cell else k
 | []=>rfl
 | (n,k)::r=>by
  have ih:=xL (env:=env) x r;rw [List.map_cons];show List.lookup x ((if (k==NameKind.free && env.scope.kind==.function && env.kindOf n==some .cell)=true then (n,NameKind.cell) else (n,k))::_)=_
  cases hx:x==n with
  | true=>
   have e:x=n:=eq_of_beq hx;subst e
   by_cases hc:(k==NameKind.free && env.scope.kind==.function && env.kindOf x==some .cell)=true
   ·rw [if_pos hc];simp only [List.lookup_cons,hx,Option.map_some];rw [if_pos hc]
   ·rw [if_neg hc];simp only [List.lookup_cons,hx,Option.map_some];rw [if_neg hc]
  | false=>
   by_cases hc:(k==NameKind.free && env.scope.kind==.function && env.kindOf n==some .cell)=true
   ·rw [if_pos hc];simp only [List.lookup_cons,hx];exact ih
   ·rw [if_neg hc];simp only [List.lookup_cons,hx];exact ih
theorem zaq {env:Env} {y:Str} (hcell:∀y∈scope.names,y.2≠.cell) (h:s!"ER".names.lookup y=some .cell\/s!"ER".names.lookup y=some .free):scope.names.lookup y=some .free:=by
 have e:s!"ER".names.lookup y=(scope.names.lookup y).map fun k=>if (k==NameKind.free && env.scope.kind==.function && env.kindOf y==some .cell) then NameKind.cell else k:=xL y scope.names
 rw [e] at h;cases hk:scope.names.lookup y with
 | none=>rw [hk] at h;rcases h with h | h <;> cases h
 | some k=>
  rw [hk] at h;have hm:=PySem.mem_of_lookup hk;have hn:k≠.cell:=hcell _ hm
  by_cases hf:k=.free
  ·rw [hf]
  ·exfalso;have hb:(k==NameKind.free)=false:=beq_eq_false_iff_ne.mpr hf;simp only [Option.map_some,hb,Bool.false_and,Bool.false_eq_true,if_false,Option.some.injEq] at h;exact h.elim hn hf
def ze2 (env:Env) (scope:Scope) (cl:List (Str×Addr)) (C:Addr):Env:={ newEnv scope C env.globals cl env.qual none .none s!"n{env}" builtinsNs with scope:=relabel scope env }
def Cx.blockF (X:Cx) (pins:List (Addr×Obj)) (scope:Scope) (x:Str) (ys:List Str) (cl:List (Str×Addr)) (ex:List Addr) (s:Shared) (H:Hp):Cx:=
 { X with N:=x::ys,s₀:=s,H₀:=H,env:=ze2 X.env scope cl s.heap.objs.size,outer:=X.stack,stack:=X.stack,ex:=ex,fn:=fun _=>false,pn:=X.pn++pins,xe:=fun _ _=>False }
def yl (fr:List Nat) (σ:St):St:=fr.map fun i=>(σ[i]?).getD none
def zcb (te:TE) (vs:St) (J:It) (H1:Hp) (Q:VK):Prop:=∀D,H1 D=none->∃W:Nat->Nat->List V->Hp->Prop,(∃m,W 0 m [] (upd H1 D s!"u{[]}"))/\∀i m zs H,W i m zs H->H D=some s!"Bm"/\
 ((J.stop i H/\Q s!";" H)\/(J.go i H/\zs.length<sizeLine/\∀x H',J.yld i H x H'->te (some x::vs) H' fun y H2=>H2 D=some s!"Bm"/\∃m',m'<m/\W (i+1) m' (zs++[y]) (upd H2 D s!"u{(zs++[y])}")))
def zd3 (wi:TI) (fr:List Nat) (te:TE):TE:=fun σ H Q=>wi σ H fun J H1=>zcb te (yl fr σ) J H1 Q
theorem xM:IxR s!"ES" (zfY X.K):=ix_A (X:=X.blockF pins scope x ys cl ex s H)
variable {n:Nat} {p:Addr} {ta:TA} {fr:List Nat} {lo:Int}
theorem zp3.Qb (h1:SqL K H p s!"Ai") (h:Q s!"2{ns.sum}" H):zp3 K [.ref p] H Q:=⟨p,ns,rfl,h1,h⟩
theorem zi9 (vs:St) (e:yl fr σ=vs) (h:ta σ H fun ws H1=>ziJ ws H1 fun J H2=>zcb te vs J H2 Q):zd3 (zim ta) fr te σ H Q:=by subst e;exact h
theorem zhw (vs:St) (e:yl fr σ=vs) (h:ta σ H fun ws H1=>ziK ws H1 fun J H2=>zcb te vs J H2 Q):zd3 (zin ta) fr te σ H Q:=by subst e;exact h
theorem zhx {vs:St} (g:Int->V) (hz:n<=1000) (he:∀(i:Nat) (k:Int) H' (Q':VK),i<n->k=lo+i->Same H H'->(∀H2,Same H' H2->Q' (g k) H2)->te (some s!"2{k}"::vs) H' Q')
 (h:∀D H',Same H H'->H D=none->H' D=some s!"u{(s!"A*{n}".map fun i=>g (lo+(i:Nat)))}"->Q s!";" H'):zcb te vs s!"Ch" H Q:=by
 intro D hD;refine ⟨fun i m zs H'=>m=n-i/\i<=n/\zs=s!"A*{i}".map (fun i=>g (lo+(i:Nat)))/\Same H H'/\H' D=some s!"Bm",⟨n,by simp,Nat.zero_le _,by simp,Same.new hD _,ze⟩,?_⟩
 rintro i m zs H' ⟨rfl,hi,rfl,hs,eD⟩;refine ⟨eD,?_⟩
 by_cases hlt:i<n
 ·refine .inr ⟨hlt,?_,fun x H2 y=>?_⟩
  ·rw [List.length_map,List.length_range];exact zk s!"c"
  ·obtain ⟨rfl,rfl⟩:=y;refine he i _ _ _ hlt rfl hs fun H2 s2=>⟨s2.obj eD,n-(i+1),by omega,rfl,hlt,?_,s!"Cm".upd hD,ze⟩
   rw [List.range_succ,List.map_append];rfl
 ·have e:i=n:=by omega
  subst e;exact .inl ⟨Nat.le_refl _,h D H' hs hD eD⟩
structure CG (mg:Str->Option Value) (x:Str):Type where
 addr:Addr
 gl:mg x=some s!"D("
theorem Inv.turnedL {t':Nat} {ch:List Addr} (I:Inv X pins σ H s) (k:∀b o,b∉ch->s.heap.get? b=some o->h'.get? b=some o) (hf:∀b∈ch,wD X pins H b):Inv X pins σ H { s with heap:=h',toks:=t' }:=by
 have nit:∀b u,H b=some u->b∉ch:=fun b u e z=>by rw [(hf b z).1] at e;cases e
 refine I.step (g':=s.gens) (d':=s.drawn) (ch:=ch) (fun b hb=>?_) (fun b o _ _ hc e _=>k b o hc e) (fun b o _ _ hc e _=>⟨o.slots,k b o hc e⟩) (fun _ _ _ _ n=>n)
  (fun b o hc e=>⟨o,k b o hc e⟩) (fun _ _ e=>e) (fun _ _ _ e=>e) (fun b ps e=>⟨#[],by rw [e];simp⟩) (fun m hm=>?_) (fun b u e=>?_) I.bare
 ·obtain ⟨f0,f1,f2,f3,f4,f5⟩:=hf b hb;exact ⟨f3,f1,f4,f5⟩
 ·obtain ⟨o,es,ep,ho,r⟩:=hm;exact ⟨o,es,ep,k _ o (fun z=>(hf _ z).2.1 rfl) ho,r⟩
 ·refine (I.hok b u e).stay (fun c v hc q=>k c v ?_ q) (fun _ q=>q) fun _ _ q=>q
  rcases hc with z | z
  ·rw [z];exact nit b u e
  ·exact nit c _ z
variable {v:Int}
theorem rIn.Qb {i u:Int} (h1:SqT K H p [.int u,.int v]) (h:Q s!"!{(decide (i=u\/i=v))}" H):rIn K false s!"=" s!"]" H Q:=by
 refine ⟨p,_,rfl,.inr h1,rfl,rfl,?_⟩;have e:inV s!"=" [.int u,.int v]=decide (i=u\/i=v):=by
  by_cases a:i=u
  ·subst a;simp [inV,eqV]
  ·by_cases b:i=v
   ·subst b;simp [inV,eqV]
   ·have a':¬u=i:=fun z=>a z.symm
    have b':¬v=i:=fun z=>b z.symm
    simp [inV,eqV,a,b,a',b']
 show Q s!"!{inV s!"=" [.int u,.int v]}" H;rw [e];exact h
theorem zja (as:List Addr) (t:Addr):atI ((as++[t]).map V.ref) (-1)=some s!"'":=by
 have e:ixN ((as++[t]).map V.ref).length (-1)=some as.length:=by
  unfold ixN;rw [List.length_map,List.length_append,List.length_singleton,if_neg s!"c",if_pos s!"c"]
  congr 1;omega
 unfold atI;rw [e];show ((as++[t]).map V.ref)[as.length]? =_;rw [List.getElem?_map,List.getElem?_append_right s!"+",Nat.sub_self];rfl
variable {t:Addr} {H':Hp}
theorem Same.none (s:Same H H') (h:H' t=none):H t=none:=by
 cases e:H t with
 | none=>rfl
 | some o=>rw [s.obj e] at h;cases h
def zd4 (g:TG) (te:TE) (τ0:St) (J:It) (H1:Hp) (Q:VK):Prop:=∀D,H1 D=none->∃W:Nat->Nat->List V->St->Hp->Prop,(∃m,W 0 m [] τ0 (upd H1 D s!"u{[]}"))/\∀i m ys τ H,W i m ys τ H->H D=some s!"Ax"/\
 ((J.stop i H/\Q s!";" H)\/(J.go i H/\ys.length<sizeLine/\∀x H',J.yld i H x H'->g x τ H' fun τ' H''=>te τ' H'' fun y H2=>H2 D=some s!"Ax"/\∃m',m'<m/\W (i+1) m' (ys++[y]) τ' (upd H2 D s!"u{(ys++[y])}")))
def zd5 (wi:TI) (τ0:St) (g:TG) (te:TE):TE:=fun σ H Q=>wi σ H fun J H1=>zd4 g te τ0 J H1 Q
def Itd (hi:Int) (n:Nat):It:=⟨fun i _=>i<n,fun i H x H'=>H'=H/\x=.int (hi-i),fun i _=>n<=i⟩
variable {w:World}
theorem zhy {P:Program} (it:Addr) (hi:Int) (n:Nat):Turn P w K tg s!"D]" [it] it (fun i h=>IsRangeIter h it (hi+(i:Nat)*(-1)) ((n:Int)-(i:Nat)) (-1)) where
 mem:=by simp
 obj:=fun i h st b hb=>by
  have e:b=it:=by simpa using hb
  subst e;exact ⟨_,st,fun v z=>by
   have z':Data.fields _=Data.cell v:=z;cases z'⟩
 keep:=fun i h h' st k=>k it s!"s" _ st
 item:=by
  intro X hP hw hK hc i pins s σ H E I hf st hg;subst hP hw hK;obtain ⟨f0,f1,f2,f3,f4,f5⟩:=hf it s!"s"
  have W:=Walks.range (prog:=X.prog) (w:=X.w) s!"Av" it hi (-1) n;refine W.item i s _ _ hg st fun v h' tk hv st' kk=>?_
  obtain ⟨t,rfl⟩:=hv;have I1:Inv X pins σ H { s with heap:=h',toks:=tk }:=I.turned (fun b o hb e=>kk b o (by simpa using hb) e) f0 f1 f3 f4 f5
  refine ⟨_,rfl,zeT (s:={ s with heap:=h',toks:=tk }) (n:="range_iterator") st' rfl rfl s!"d" ⟨.int (hi-i),H,I1,⟨t,?_⟩,⟨rfl,rfl⟩,st',fun b hb=>s!"C)".1⟩⟩
  rw [show hi+(i:Nat)*(-1:Int)=hi-i by omega]
 done:=by
  intro X hP hw hK hc i pins s σ H E I hf st hg;subst hP hw hK;obtain ⟨f0,f1,f2,f3,f4,f5⟩:=hf it s!"s"
  exact wpAny_pyNext_range_end s!"Av" st (by have:n<=i:=hg;omega) fun h' eb=>⟨rfl,I.turned (t':=s.toks) (fun b o hb e=>eb b o hb e) f0 f1 f3 f4 f5⟩
 self:=fun _ _ _ _ _ st h=>wpAny_pyIter_rangeiter st h
variable {E:Value->Shared->Prop} {R:It->Hp->Prop} {hi:Int}
theorem zhz {t u v:Tok} {tk:Nat} (I:Inv X pins σ H s) (h1:-(2^62)<=hi) (h2:hi<2^62) (h3:-(2^62)<=lo) (h4:lo<2^62)
 (q:R (Itd hi (hi-lo).toNat) H):wpAny s!"q" X.A s!"Gz" (PIE X pins σ tg R) E { s with heap:=s.heap.push { cls:=.type "range",data:=.fields #[.int hi t,.int lo u,.int (-1) v] },toks:=tk }:=by
 refine wpAny_pyIter_range (IsRange.new ..) (PySem.W.small_down h1 h2 h3 h4) ?_;have I1:Inv X pins σ H { s with heap:=s.heap.push { cls:=.type "range",data:=.fields #[.int hi t,.int lo u,.int (-1) v] },toks:=tk }:=I.kept fun b o e=>Heap.get?_push_of_some _ e
 refine ⟨(s.heap.push { cls:=.type "range",data:=.fields #[.int hi t,.int lo u,.int (-1) v] }).objs.size,[(s.heap.push { cls:=.type "range",data:=.fields #[.int hi t,.int lo u,.int (-1) v] }).objs.size],_,_,H,rfl,
  I1.kept (t':=tk) fun b o e=>Heap.get?_push_of_some _ e,zhy _ hi (hi-lo).toNat,?_,fun b hb=>?_,q⟩
 ·have e1:hi+((0:Nat):Int)*(-1)=hi:=by simp
  have e2:(((hi-lo).toNat:Nat):Int)-((0:Nat):Int)=Builtin.Range.rangeSize hi lo (-1):=by rw [PySem.W.rangeSize_downNat];omega
  show IsRangeIter _ _ (hi+((0:Nat):Int)*(-1)) ((((hi-lo).toNat:Nat):Int)-((0:Nat):Int)) (-1);rw [e1,e2];exact Heap.get?_push_size _ rfl
 ·have e:b=(s.heap.push { cls:=.type "range",data:=.fields #[.int hi t,.int lo u,.int (-1) v] }).objs.size:=by simpa using hb
  subst e;exact I1.fpOk s!"+" s!"C["
def zmN (ta:TA):TI:=fun σ H R=>ta σ H fun vs H1=>∃i j:Int,vs=[.int i,.int j,.int (-1)]/\(-(2^20)<=i/\i<2^20/\-(2^20)<=j/\j<2^20)/\R (Itd i (i-j).toNat) H1
theorem pi_rangeD {a b c:Expr} {ta:TA} {p pos:Pos} (hg:Gl X "range") (hm:X.mg "range"=none) (ha:PA X [a,b,c] ta) (hs:starEach [a,b,c] X.env=[(false,eval a X.env),(false,eval b X.env),(false,eval c X.env)]:=by rfl) (hs2:starEach [b,c] X.env=[(false,eval b X.env),(false,eval c X.env)]:=by rfl):
 PI X tg (.Call s!"E<" [a,b,c] [] pos) (zmN ta):=by
 intro pins s σ H R I h;refine Call_ (wT I hg hm boot_range (PyProof.Rows.callWith_type1 (thn (ha pos pins s σ H _ I h) fun us s1 ⟨vs,H1,I1,r1,q1⟩=>?_) (by rw [hs,hs2]) (by rw [hs2];rfl)))
 obtain ⟨i,j,e,⟨q1,q2,q3,q4⟩,q⟩:=q1;subst e;cases r1 with
 | cons r rr=>
  cases rr with
  | cons r' rr=>
   cases rr with
   | cons r'' rr=>
    cases rr;obtain ⟨t,rfl⟩:=r;obtain ⟨t',rfl⟩:=r';obtain ⟨t'',rfl⟩:=r'';exact PySem.call_range_3 s!"d" (zhz I1 s!"c" s!"c" s!"c" s!"c" q) s!"${PyProof.noPylong_small s!"c"}"
def zmO (vs:List V) (H:Hp) (R:It->Hp->Prop):Prop:=∃i j:Int,vs=[.int i,.int j,.int (-1)]/\(-(2^20)<=i/\i<2^20/\-(2^20)<=j/\j<2^20)/\R (Itd i (i-j).toNat) H
variable {g:TG} {tb:TS}
theorem zfO.Qi (h:ta σ H fun vs H1=>zmO vs H1 fun J H2=>∃W:Nat->Nat->St->Hp->Prop,(∃m,W 0 m σ H2)/\∀i m σ H,W i m σ H->
 (J.stop i H/\D.nx σ H)\/(J.go i H/\∃N:St->Hp->Prop,(∀σ' H',N σ' H'->∃m',m'<m/\W (i+1) m' σ' H')/\∀x H',J.yld i H x H'->g x σ H' fun σ2 H2=>tb { D with nx:=N,ct:=N,bk:=D.nx } σ2 H2)):zfO (zmN ta) g tb D σ H:=h
theorem zmO.Q8 {i:Int} (h1:-(2^20)<=i) (h2:i<2^20) (h3:-(2^20)<=j) (h4:j<2^20) (h:R (Itd i (i-j).toNat) H):zmO [.int i,.int j,.int (-1)] H R:=⟨i,j,rfl,⟨h1,h2,h3,h4⟩,h⟩
theorem zjc (Pv:Nat->St->Hp->Prop) (h0:Pv 0 σ H)
 (hs:∀i σ H,i<n->Pv i σ H->g s!"2{(hi-i)}" σ H fun σ2 H2=>tb { D with nx:=Pv (i+1),ct:=Pv (i+1),bk:=D.nx } σ2 H2) (hd:∀σ H,Pv n σ H->D.nx σ H):
 ∃W:Nat->Nat->St->Hp->Prop,(∃m,W 0 m σ H)/\∀i m σ H,W i m σ H->
  (s!"D]".stop i H/\D.nx σ H)\/(s!"D]".go i H/\∃N:St->Hp->Prop,(∀σ' H',N σ' H'->∃m',m'<m/\W (i+1) m' σ' H')/\∀x H',s!"D]".yld i H x H'->g x σ H' fun σ2 H2=>tb { D with nx:=N,ct:=N,bk:=D.nx } σ2 H2):=by
 refine ⟨fun i m σ H=>m=n-i/\i<=n/\Pv i σ H,⟨n,by simp,Nat.zero_le _,h0⟩,?_⟩
 rintro i m σ H ⟨rfl,hi',p⟩
 by_cases hlt:i<n
 ·refine .inr ⟨hlt,Pv (i+1),fun σ' H' p'=>⟨n-(i+1),by omega,rfl,hlt,p'⟩,fun x H' y=>?_⟩
  obtain ⟨e,y⟩:=y;subst e y;exact hs i σ _ hlt p
 ·have e:i=n:=by omega
  exact .inl ⟨by show n<=i;omega,hd σ H (e▸p)⟩
structure Tab (H:Hp) (t:Addr) (a b c d:Int):Prop where
 ex:∃r s:Addr,H t=some s!"6{[.ref r,.ref s]}"/\H r=some s!"6{[.int a,.int b]}"/\H s=some s!"6{[.int c,.int d]}"
theorem Tab.same {a b c d:Int} (T:Tab H t a b c d) (s:Same H H'):Tab H' t a b c d:=by
 obtain ⟨r,u,e1,e2,e3⟩:=T.ex;exact ⟨r,u,s.obj e1,s.obj e2,s.obj e3⟩
variable {k:Nat}
theorem Room.units2 (h:Room k A):A.units+1<cLine:=by
 have:=h.un;omega
def zoo:R2:=fun x y H Q=>y=.non/\Q s!"!{(decide (x=.non))}" H
theorem zlH:OpR X s!"AJ{.Is}" zoo:=znH
theorem zoo.Qa (h:Q s!"B]" H):zoo s!"h" .non H Q:=⟨rfl,by rw [decide_eq_false (fun e=>by cases e)];exact h⟩
theorem zoo.Qe (h:Q s!"BA" H):zoo .non .non H Q:=⟨rfl,by rw [decide_eq_true rfl];exact h⟩
section
variable {l:Expr}
end
section
variable {pos:Pos}
end
def ltr (b:Bool):Str:=if b then "u" else "v"
structure WordL (H:Hp) (D:Addr) (ws:List (Bool×Int)):Prop where
 ex:∃as:List Addr,H D=some s!"Cn"/\as.length=ws.length/\∀(i:Nat) (x:Addr) (p:Bool×Int),as[i]? =some x->ws[i]? =some p->H x=some s!"6{[.str (ltr p.1),.int p.2]}"
theorem WordL.same {D:Addr} {ws:List (Bool×Int)} (W:WordL H D ws) (s:Same H H'):WordL H' D ws:=by
 obtain ⟨as,e,l,t⟩:=W.ex;exact ⟨as,s.obj e,l,fun i x p hx hp=>s.obj (t i x p hx hp)⟩
theorem WordL.nil {D:Addr} (e:H D=some s!"u{[]}"):WordL H D []:=⟨[],e,rfl,fun i x p hx=>by simp at hx⟩
variable {xs:List V}
def zp4 (K:PySem.W.Frag) (x:V) (H:Hp) (R:It->Hp->Prop):Prop:=∃a,x=.ref a/\(∃xs,SqT K H a xs)/\R s!"AP" H
theorem zfO.Qg (h:tl σ H fun x H1=>zp4 K x H1 fun J H2=>∃W:Nat->Nat->St->Hp->Prop,(∃m,W 0 m σ H2)/\∀i m σ H,W i m σ H->
 (J.stop i H/\D.nx σ H)\/(J.go i H/\∃N:St->Hp->Prop,(∀σ' H',N σ' H'->∃m',m'<m/\W (i+1) m' σ' H')/\∀x H',J.yld i H x H'->g x σ H' fun σ2 H2=>tb { D with nx:=N,ct:=N,bk:=D.nx } σ2 H2)):zfO (znC K tl) g tb D σ H:=h
theorem zp4.Qb (h1:SqT K H a xs) (h:R s!"AP" H):zp4 K s!"h" H R:=⟨a,rfl,⟨xs,h1⟩,h⟩
variable {i:Nat}
def kIp (v:Int) (y:V) (H:Hp) (R:Int->Hp->Prop):Prop:=∃j,y=.int j/\R (v+j) H
theorem kIp.Qa {R:Int->Hp->Prop} (h:R (v+j) H):kIp v s!"A1" H R:=⟨j,rfl,h⟩
theorem zpa.Q6 (e:σ[i]? =some s!"nA^") (h:te σ H fun y H1=>kIp v y H1 fun z H2=>zW i s!"2{z}" σ H2 D.nx):zpa i te (ipI fun i j=>i+j) D σ H:=by
 refine ⟨.int v,e,?_⟩;have:(fun y H1=>kIp v y H1 fun z H2=>zW i s!"2{z}" σ H2 D.nx)=fun y H1=>(ipI fun i j=>i+j) s!"A^" y H1 fun z H2=>D.nx (σ.set i s!"n{z}") H2:=by
  funext y H1;apply propext;constructor
  ·rintro ⟨j,rfl,h⟩;exact ⟨v,j,rfl,rfl,h⟩
  ·rintro ⟨i',j,e1,rfl,h⟩;cases e1;exact ⟨j,rfl,h⟩
 rw [this] at h;exact h
def zcc (h:Heap) (it t:Addr) (i:Nat):Prop:=h.get? it=some { cls:=.type "tuple_iterator",data:=.fields #[.ref t,.int (i:Int) 0] }
variable {prog:Program} {it:Addr}
section
variable {items:Array Value}
theorem zcc.ti (hi:zcc h it t i):IsTupIter h it t i:=⟨_,hi,rfl,rfl⟩
theorem zbJ {x:Value} {Q:Value->Shared->Prop} (hi:zcc s.heap it t i) (ht:IsTup s.heap t items) (hx:items[i]? =some x)
 (h:∀h':Heap,zcc h' it t (i+1)->Heap.SameBut it s.heap h'->Q x { s with heap:=h' }):wpAny s!"1" A s!"G_" Q E s:=by
 obtain ⟨o2,e2,c2,n2,d2⟩:=id ht;refine wpAny_bind s!"G|";refine wpAny_bind (wpAny_pure (a:=(Value.ref it,[])) ?_);refine wpAny_bind s!"DA";refine wpAny_bind s!"DA";refine wpAny_bind s!"G~";show wpAny _ _ (match items[(i:Int).toNat]? with | some x=>_ | none=>_) _ _ _
 rw [Int.toNat_natCast,hx];refine wpAny_bind (wpAny_setField_rec hi (by show 1<2;decide) fun h' a1 a2=>?_)
 exact wpAny_pure ⟨x,rfl,wpAny_pure (h h' a1 a2)⟩
theorem zhA {α:Type} {Q:α->Shared->Prop} (hd:A.handled=none) (h:∀(h':Heap) (e:Addr),(∀b o,s.heap.get? b=some o->h'.get? b=some o)->(∃o,h'.get? e=some o/\o.cls=Value.type "StopIteration")->E s!"Aj" { s with heap:=h' }):
 wpAny s!"1" A (Builtin.SmallTypes.stopIteration (α:=α)) Q E s:=by
 refine wpAny_bind ?_;rw [newExc.eq_1];refine wpAny_bind s!"G'";refine wpAny_bind s!"4AlAS";refine wpAny_bind (wpAny_alloc ?_);refine wpAny_pure (wpAny_raiseNew_none hd (h _ _ ?_ ?_))
 ·intro b o hb;exact Heap.get?_push_of_some _ s!"A({hb}"
 ·exact ⟨_,Heap.get?_push_size _ rfl,rfl⟩
theorem zcd {Q:Value->Shared->Prop} (hd:A.handled=none) (hi:zcc s.heap it t i) (ht:IsTup s.heap t items) (hx:items[i]? =none)
 (h:∀(h':Heap) (e:Addr),Heap.ExtBut it s.heap h'->(∃o,h'.get? e=some o/\o.cls=Value.type "StopIteration")->E s!"Aj" { s with heap:=h' }):wpAny s!"1" A s!"G_" Q E s:=by
 obtain ⟨o2,e2,c2,n2,d2⟩:=id ht;refine wpAny_bind s!"G|";refine wpAny_bind (wpAny_pure (a:=(Value.ref it,[])) ?_);refine wpAny_bind s!"DA";refine wpAny_bind s!"DA";refine wpAny_bind s!"G~";show wpAny _ _ (match items[(i:Int).toNat]? with | some x=>_ | none=>_) _ _ _
 rw [Int.toNat_natCast,hx];refine wpAny_bind (wpAny_rule ?_);refine wpAny_bind (wpAny_setField_rec hi (by show 0<2;decide) fun h' a1 a2=>?_)
 refine zhA (s:={ s with heap:=h' }) hd fun h2 e k1 k2=>h h2 e (fun b o hb ho=>k1 b o ?_) k2
 show h'.get? b=some o;rw [a2.2 b hb];exact ho
theorem zcc.keep (hi:zcc h it t i) (k:∀o,h.get? it=some o->h'.get? it=some o):zcc h' it t i:=k _ hi
theorem zda (hd:A.handled=none) (it t:Addr) (hne:t≠it) (items:Array Value):Draws prog w A it [it,t] items.size (fun i v=>items[i]? =some v) fun i h=>zcc h it t i/\IsTup h t items where
 live:=fun i h st=>⟨_,st.1⟩
 frame:=fun i h h' st k=>⟨st.1.keep fun o e=>k it (by simp) o e,by
  obtain ⟨o,e,c⟩:=st.2;exact ⟨o,k t (by simp) o e,c⟩⟩
 item:=fun i s Q E hi st h=>by
  refine zbJ st.1 st.2 s!"G`" fun h' a1 a2=>h _ h' s.toks s!"G`" ⟨a1,?_⟩ a2
  obtain ⟨o,e,c⟩:=st.2;exact ⟨o,(a2.2 t hne).trans e,c⟩
 done:=fun s Q E st h=>zcd hd st.1 st.2 (Array.getElem?_eq_none s!"+") h
end
theorem zjd {b:Addr} {ws:List Value} {Q:Value->Shared->Prop} (ht:IsTup s.heap t vs.toArray) (hb:IsTup s.heap b ws.toArray) (hv:vs=[]) (h:Q s!"B8" s):wpAny s!"1" A s!"G*" Q E s:=by
 obtain ⟨⟨cls,dd,data,sl⟩,ho,hc,n,hd⟩:=id ht;obtain ⟨⟨cls2,dd2,data2,sl2⟩,ho2,hc2,n2,hd2⟩:=id hb;simp only at hc hd hc2 hd2;subst hc hd hc2 hd2;exact concat_meets ⟨_,ho,rfl⟩ ⟨_,ho2,rfl⟩ noFill_tuple_add seq_tuple_add PySem.F.slot_tuple_add PySem.F.entry_tuple_add s!"E("
  (tuple_addW0 t b vs.toArray ws.toArray n n2 dd dd2 sl sl2 (by simp [hv])) ⟨ho,ho2,h⟩
def zmP:R2:=fun x y H Q=>∃a b xs ys,x=.ref a/\y=.ref b/\H a=some s!"3"/\H b=some s!"DB"/\xs.length+ys.length<=sizeLine/\∀p H',Same H H'->H' p=some s!"6{(xs++ys)}"->Q s!"]" H'
theorem zlL:OpR X s!"BB" zmP:=by
 intro pins s σ H x y v u Q I rx ry h;obtain ⟨a,b,xs,ys,rfl,rfl,ha,hb,hz,q⟩:=h;cases rx;cases ry;obtain ⟨its,r1,p1,_⟩:=I.tuple (SqT.of ha);obtain ⟨its2,r2,p2,_⟩:=I.tuple (SqT.of hb)
 by_cases hx:xs=[]
 ·subst hx;exact zjd p1 p2 (r1.nil_iff.mpr rfl) ⟨.ref b,H,I,rfl,q b H s!"@" (by rw [List.nil_append];exact hb)⟩
 ·refine HT.zkG p1 p2 (fun z=>hx (r1.nil_iff.mp z)) (fun z=>⟨.ref a,H,I,rfl,q a H s!"@" (by rw [r2.nil_iff.mp z,List.append_nil];exact ha)⟩) (fun z=>?_) (by rw [<-r1.length,<-r2.length];exact hz)
  have nf:H s.heap.objs.size=none:=I.hok.fresh s!"+";refine ⟨.ref s.heap.objs.size,_,I.laid (t':=s.toks) (o:=.tup (xs++ys)) (fun b ob q=>Heap.get?_push_of_some _ q) s!"+" ?_,rfl,q _ _ (Same.new nf _) ze⟩
  exact ⟨by rw [List.length_append];exact hz,_,r1.append r2,IsTup.new _ _⟩
def zmQ:R2:=fun x y H Q=>zgE x y H Q\/zmP x y H Q
theorem zd6:OpR X s!"BB" zmQ:=op_addA.or zlL
theorem zgJ {b:Addr} {ys:List V} (h1:H a=some s!"3") (h2:H b=some s!"DB") (hz:xs.length+ys.length<=1000) (h:∀p H',Same H H'->H' p=some s!"6{(xs++ys)}"->Q s!"]" H'):zmQ s!"h" s!"B8" H Q:=.inr ⟨a,b,xs,ys,rfl,rfl,h1,h2,Nat.le_of_lt (zk hz),h⟩
section
variable {r:Addr} {t u v:Tok}
theorem zf2 (args:Args):A.under (Code.builtin "list.__iadd__" args)=A.in1:=by
 obtain ⟨hd,dp,fr,gd,un⟩:=A;unfold Around.under;cases fr <;> cases gd <;> rfl
end
inductive Cmp (K:PySem.W.Frag) (H:Hp):Nat->V->V->Bool->Prop
 | flat {d:Nat} {x y:V} (fx:zX x=true) (fy:zX y=true):Cmp K H d x y (eqV x y)
 | tup {d:Nat} {a b:Addr} {xs ys:List V} (e:Nat->Bool) (h1:SqT K H a xs) (h2:SqT K H b ys) (hl:xs.length=ys.length) (he:∀(i:Nat) x y,xs[i]? =some x->ys[i]? =some y->Cmp K H d x y (e i)):Cmp K H (d+1) s!"h" s!"B8" (s!"G(".all e)
 | lst {d:Nat} {a b:Addr} {xs ys:List V} (e:Nat->Bool) (h1:SqL K H a xs) (h2:SqL K H b ys) (hl:xs.length=ys.length) (he:∀(i:Nat) x y,xs[i]? =some x->ys[i]? =some y->Cmp K H d x y (e i)):Cmp K H (d+1) s!"h" s!"B8" (s!"G(".all e)
 | lens {d:Nat} {a b:Addr} {xs ys:List V} (h1:SqL K H a xs) (h2:SqL K H b ys) (hl:xs.length≠ys.length):Cmp K H (d+1) s!"h" s!"B8" false
theorem eqV_refl {x:V} (f:zX x=true):eqV x x=true:=by
 cases x <;> simp [zX] at f <;> simp [eqV]
theorem zje {e:Nat->Bool} (h:∀i,i<n->e i=true):s!"A*{n}".all e=true:=
 List.all_eq_true.mpr fun i hi=>h i (List.mem_range.mp hi)
variable {d:Nat} {y:V} {b:Bool}
theorem Cmp.self (I:Inv X pins σ H s) {x:V} (c:Cmp X.K H d x y b):x=y->b=true:=by
 induction c with
 | flat fx fy=>intro e;subst e;exact eqV_refl fx
 | @tup d a b xs ys e h1 h2 hl he ih=>
  intro q;cases q;have:=I.tuple_inj h1 h2;subst this;exact zje fun i hi=>ih i xs[i] xs[i] s!"CJ" s!"CJ" rfl
 | @lst d a b xs ys e h1 h2 hl he ih=>
  intro q;cases q;have:=I.list_inj h1 h2;subst this;exact zje fun i hi=>ih i xs[i] xs[i] s!"CJ" s!"CJ" rfl
 | lens h1 h2 hl=>
  intro q;cases q;exact absurd (by rw [I.list_inj h1 h2]) hl
theorem Cmp.items {d:Nat} {ys:List V} {e:Nat->Bool} {A:Around} (r1:zl xs us) (r2:zl ys vs) (he:∀(i:Nat) x y,xs[i]? =some x->ys[i]? =some y->∀{u v:Value},zm x u->zm y v->SeqAt.EqAt A s u v (e i))
 (j:Nat) (g1:j<us.toArray.size) (g2:j<vs.toArray.size):SeqAt.EqAt A s us.toArray[j] vs.toArray[j] (e j):=by
 have l1:=r1.length;have l2:=r2.length;rw [List.size_toArray] at g1 g2;obtain ⟨x,hx⟩:∃x,xs[j]? =some x:=⟨_,List.getElem?_eq_getElem s!"c"⟩
 obtain ⟨y,hy⟩:∃y,ys[j]? =some y:=⟨_,List.getElem?_eq_getElem s!"c"⟩
 obtain ⟨u,hu',ru⟩:=r1.get hx;obtain ⟨v,hv',rv⟩:=r2.get hy;have eu:us.toArray[j]=u:=by
  have:=List.getElem?_eq_some_iff.mp hu';simpa using this.2
 have ev:vs.toArray[j]=v:=by
  have:=List.getElem?_eq_some_iff.mp hv';simpa using this.2
 rw [eu,ev];exact he j x y hx hy ru rv
theorem Cmp.at (I:Inv X pins σ H s) {x:V} (c:Cmp X.K H d x y b):∀{A:Around} {u v:Value},A.units+d<cLine->zm x u->zm y v->SeqAt.EqAt A s u v b:=by
 induction c with
 | flat fx fy=>intro A u v _ ru rv;exact eqAt_V ru rv fx fy
 | @tup d a b xs ys e h1 h2 hl he ih=>
  intro A u v hu ru rv;cases ru;cases rv
  by_cases q:a=b
  ·subst q;rw [(Cmp.tup e h1 h2 hl he).self I rfl];exact SeqAt.EqAt.same _
  ·obtain ⟨us,r1,t1,_⟩:=I.tuple h1;obtain ⟨vs,r2,t2,_⟩:=I.tuple h2;have h:=SeqAt.EqAt.of_refs q (SeqAt.RcAt.tuples t1 t2 s!"c" (Cmp.items (s:=s) (A:=A.in1) (e:=e) (d:=d) r1 r2 fun i x y hx hy u v ru rv=>ih i x y hx hy (A:=A.in1) (by show A.units+1+d<_;omega) ru rv))
   have l1:=r1.length;have l2:=r2.length;rw [List.size_toArray,List.size_toArray,<-l1,<-l2,<-hl,Nat.min_self,beq_self_eq_true,Bool.and_true] at h;exact h
 | @lst d a b xs ys e h1 h2 hl he ih=>
  intro A u v hu ru rv;cases ru;cases rv
  by_cases q:a=b
  ·subst q;rw [(Cmp.lst e h1 h2 hl he).self I rfl];exact SeqAt.EqAt.same _
  ·obtain ⟨us,r1,t1,_⟩:=I.list h1;obtain ⟨vs,r2,t2,_⟩:=I.list h2;have l1:=r1.length;have l2:=r2.length;have h:=SeqAt.EqAt.of_refs q (SeqAt.RcAt.lists t1.isList t2.isList (by rw [List.size_toArray,List.size_toArray];omega) s!"c" (Cmp.items (s:=s) (A:=A.in1) (e:=e) (d:=d) r1 r2 fun i x y hx hy u v ru rv=>ih i x y hx hy (A:=A.in1) (by show A.units+1+d<_;omega) ru rv))
   rw [List.size_toArray,<-l1] at h;exact h
 | @lens d a b xs ys h1 h2 hl=>
  intro A u v hu ru rv;cases ru;cases rv
  by_cases q:a=b
  ·subst q;exact absurd (by rw [I.list_inj h1 h2]) hl
  ·obtain ⟨us,r1,t1,_⟩:=I.list h1;obtain ⟨vs,r2,t2,_⟩:=I.list h2;have l1:=r1.length;have l2:=r2.length;exact SeqAt.EqAt.of_refs q (SeqAt.RcAt.lists_lengths t1.isList t2.isList (by rw [List.size_toArray,List.size_toArray,<-l1,<-l2];simpa using hl) s!"c")
theorem Room.units3 (h:Room k A):A.units+5<cLine:=by
 have:=h.un;omega
def zor (K:PySem.W.Frag):R2:=fun x y H Q=>zi5 K x y H Q\/∃a c b,x=.ref a/\y=.ref c/\Cmp K H 4 s!"h" s!"Af" b/\Q s!"A:" H
def zos (K:PySem.W.Frag):R2:=fun x y H Q=>zlE K x y H Q\/∃a c b,x=.ref a/\y=.ref c/\Cmp K H 4 s!"h" s!"Af" b/\Q s!"!{(!b)}" H
theorem op_eqF (hu:X.A.units+5<cLine):OpR X s!"C]" (zor X.K):=by
 refine (op_eqA s!"c").or ?_
 intro pins s σ H x y v u Q I rx ry h;obtain ⟨a,c,b,rfl,rfl,hc,q⟩:=h;cases rx;cases ry;cases hc with
 | flat f1 f2=>cases f1
 | @tup d a b xs ys e h1 h2 hl he=>
  obtain ⟨us,r1,t1,_⟩:=I.tuple h1;obtain ⟨vs,r2,t2,_⟩:=I.tuple h2;have l1:=r1.length;have l2:=r2.length;refine SeqAt.eq_tupleAt (e:=e) t1 t2 s!"c" (Cmp.items (d:=3) r1 r2 fun i x y hx hy u v ru rv=>s!"DC".at I (by show X.A.units+1+3<_;omega) ru rv) ⟨.bl _,H,I,?_,q⟩
  show Value.bool _=Value.bool _;rw [List.size_toArray,List.size_toArray,<-l1,<-l2,<-hl,Nat.min_self,beq_self_eq_true,Bool.and_true]
 | @lst d a b xs ys e h1 h2 hl he=>
  obtain ⟨us,r1,t1,_⟩:=I.list h1;obtain ⟨vs,r2,t2,_⟩:=I.list h2;have l1:=r1.length;have l2:=r2.length;refine SeqAt.eq_listAt (e:=e) t1.isList t2.isList (by rw [List.size_toArray,List.size_toArray];omega) s!"c" (Cmp.items (d:=3) r1 r2 fun i x y hx hy u v ru rv=>s!"DC".at I (by show X.A.units+1+3<_;omega) ru rv) ⟨.bl _,H,I,?_,q⟩
  show Value.bool _=Value.bool _;rw [List.size_toArray,<-l1]
 | @lens d a b xs ys h1 h2 hl=>
  obtain ⟨us,r1,t1,_⟩:=I.list h1;obtain ⟨vs,r2,t2,_⟩:=I.list h2;have l1:=r1.length;have l2:=r2.length;exact SeqAt.eq_list_lengthsAt t1.isList t2.isList (by rw [List.size_toArray,List.size_toArray,<-l1,<-l2];simpa using hl) s!"c" ⟨.bl _,H,I,rfl,q⟩
theorem op_neF (hu:X.A.units+5<cLine):OpR X s!"D." (zos X.K):=by
 refine (op_neA s!"c").or ?_
 intro pins s σ H x y v u Q I rx ry h;obtain ⟨a,c,b,rfl,rfl,hc,q⟩:=h;cases rx;cases ry;cases hc with
 | flat f1 f2=>cases f1
 | @tup d a b xs ys e h1 h2 hl he=>
  obtain ⟨us,r1,t1,_⟩:=I.tuple h1;obtain ⟨vs,r2,t2,_⟩:=I.tuple h2;have l1:=r1.length;have l2:=r2.length;refine SeqAt.RcNeAt.tuples (e:=e) t1 t2 s!"c" (Cmp.items (d:=3) r1 r2 fun i x y hx hy u v ru rv=>s!"DC".at I (by show X.A.units+1+3<_;omega) ru rv) _ _ _ _ ⟨.bl _,H,I,?_,q⟩
  show Value.bool _=Value.bool _;rw [List.size_toArray,List.size_toArray,<-l1,<-l2,<-hl,Nat.min_self,beq_self_eq_true,Bool.and_true]
 | @lst d a b xs ys e h1 h2 hl he=>
  obtain ⟨us,r1,t1,_⟩:=I.list h1;obtain ⟨vs,r2,t2,_⟩:=I.list h2;have l1:=r1.length;have l2:=r2.length;refine SeqAt.RcNeAt.lists (e:=e) t1.isList t2.isList (by rw [List.size_toArray,List.size_toArray];omega) s!"c" (Cmp.items (d:=3) r1 r2 fun i x y hx hy u v ru rv=>s!"DC".at I (by show X.A.units+1+3<_;omega) ru rv) _ _ _ _ ⟨.bl _,H,I,?_,q⟩
  show Value.bool _=Value.bool _;rw [List.size_toArray,<-l1]
 | @lens d a b xs ys h1 h2 hl=>
  obtain ⟨us,r1,t1,_⟩:=I.list h1;obtain ⟨vs,r2,t2,_⟩:=I.list h2;have l1:=r1.length;have l2:=r2.length;exact SeqAt.RcNeAt.lists_lengths t1.isList t2.isList (by rw [List.size_toArray,List.size_toArray,<-l1,<-l2];simpa using hl) s!"c" _ _ _ _ ⟨.bl _,H,I,rfl,q⟩
theorem zos.Qa {i j:Str} (h:rNe s!"A2" s!"A@" H Q):zos K s!"A2" s!"A@" H Q:=.inl (zlE.Qe h)
theorem zor.Qa {i j:Str} (h:zi5 K s!"A2" s!"A@" H Q):zor K s!"A2" s!"A@" H Q:=.inl h
theorem zot (hc:Cmp K H 4 s!"h" s!"Af" b) (h:Q s!"!{(!b)}" H):zos K s!"h" s!"Af" H Q:=.inr ⟨a,c,b,rfl,rfl,hc,h⟩
theorem zd7 {b:Bool} (hc:Cmp K H 4 s!"h" s!"Af" b) (h:Q s!"A:" H):zor K s!"h" s!"Af" H Q:=.inr ⟨a,c,b,rfl,rfl,hc,h⟩
theorem Cmp.to {x:V} {b':Bool} (h:Cmp K H d x y b) (e:b=b'):Cmp K H d x y b':=e▸h
structure ZDiff (z TI TO i1 i2:Addr) (f1 f2:List Addr):Prop where
 zTI:z≠TI
 zTO:z≠TO
 z1:z≠i1
 z2:z≠i2
 oI:TO≠TI
 o1:TO≠i1
 o2:TO≠i2
 I1:TI≠i1
 I2:TI≠i2
 ii:i1≠i2
 fz1:z∉f1
 fz2:z∉f2
 fo1:TO∉f1
 fo2:TO∉f2
 f12:i1∉f2
 f21:i2∉f1
variable {f1 f2:List Addr} {P1 P2:Nat->Value->Prop} {S1 S2:Nat->Heap->Prop}
section
variable {z TI TO i1 i2:Addr} {n1 n2:Nat} {a b:Value}
theorem zi (k:Heap.SameBut t h h') {o:Obj} (n:c≠t) (e:h.get? c=some o):h'.get? c=some o:=(k.2 c n).trans e
theorem yd {fp:List Addr} {P:Nat->Value->Prop} {St:Nat->Heap->Prop} (D:Draws prog w A it fp n P St) {j:Nat} (nt:t∉fp) (st:St j h) (k:Heap.SameBut t h h'):St j h':=
 D.frame j h h' st fun c hc o e=>zi k (fun q=>nt (q▸hc)) e
theorem zhB (D1:Draws prog w A i1 f1 n1 P1 S1) (D2:Draws prog w A i2 f2 n2 P2 S2) (Z:ZDiff z TI TO i1 i2 f1 f2) (hz:IsZip s.heap z TI TO .none) (hI:IsPair s.heap TI s!"CN" s!"CO") (hO:IsPair s.heap TO a b)
 (st1:S1 i s.heap) (st2:S2 i s.heap) (l1:i<n1) (l2:i<n2) {Q:Value->Shared->Prop}
 (hQ:∀x y h' tk,P1 i x->P2 i y->IsZip h' z TI TO s!"G)"->IsPair h' TO x y->S1 (i+1) h'->S2 (i+1) h'->IsPair h' s.heap.objs.size x y->(∀c o,c≠z->c≠TO->c≠i1->c≠i2->s.heap.get? c=some o->h'.get? c=some o)->Q s!"Ci" { s with heap:=h',toks:=tk }):
 wpAny s!"1" A (Builtin.«zip.__next__» ⟨[.ref z],[]⟩) (fun fin s'=>∃v,fin=.done (.ret v)/\Q v s') E s:=by
 refine wpAny_bind (wpAny_pure (a:=(Value.ref z,[])) s!"4AABd&&4AABd&&4C&{hI}{?_}");refine wpAny_bind s!"4AABd&&Al4{wpAny_rule s!"4AABd&&4{(wpAny_setField_rec hz (by show 0<5;decide) fun g1 z1 k1=>wpAny_bind ?_)}"}"
 have z1':IsZip g1 z TI TO .ellipsis:=z1;simp only [List.zipIdx_cons,List.zipIdx_nil,List.forIn_cons,List.forIn_nil];refine wpAny_bind s!"4{wpAny_onRaise s!"4{(D1.item i { s with heap:=g1 } _ _ l1 (yd D1 Z.fz1 st1 k1) fun x g2 t2 px q1 k2=>wpAny_pure ?_)}"}"
 have O2:IsPair g2 TO a b:=zi k2 Z.o1 s!"G[";refine wpAny_bind s!"C&{O2}4{(wpAny_updateSeq_pair O2 fun g3 O3 k3=>wpAny_bind (wpAny_letGo s!"AS"))}"
 refine wpAny_bind s!"4{wpAny_onRaise s!"4{(D2.item i { s with heap:=g3,toks:=t2 } _ _ l2 s!"G]" fun y g4 t4 py q2 k4=>wpAny_pure ?_)}"}"
 have O4:IsPair g4 TO x b:=zi k4 Z.o2 O3;refine wpAny_bind s!"C&{O4}4{(wpAny_updateSeq_pair O4 fun g5 O5 k5=>wpAny_bind (wpAny_letGo s!"AlAS"))}"
 have O5':IsPair g5 TO x y:=O5;have sz:g5.objs.size=s.heap.objs.size:=k5.1.trans (k4.1.trans (k3.1.trans (k2.1.trans k1.1)));have z5:IsZip g5 z TI TO .ellipsis:=zi k5 Z.zTO (zi k4 Z.z2 s!"GA");have all:∀c o,c≠z->c≠TO->c≠i1->c≠i2->s.heap.get? c=some o->g5.get? c=some o:=fun c o c1 c2 c3 c4 e=>zi k5 c2 (zi k4 c4 (zi k3 c2 (zi k2 c3 (zi k1 c1 e))))
 refine wpAny_bind s!"C&{O5'}4G'";have z6:IsZip (g5.push { cls:=.type "tuple",data:=.seq #[x,y] }) z TI TO .ellipsis:=Heap.get?_push_of_some _ z5;refine wpAny_bind s!"4{(wpAny_setField_rec z6 (by show 0<5;decide) fun g7 z7 k7=>?_)}"
 have z7':IsZip g7 z TI TO s!"GB":=z7;refine wpAny_setField_rec z7' (by show 1<5;decide) fun g8 z8 k8=>wpAny_pure ⟨_,rfl,?_⟩
 have z8':IsZip g8 z TI TO s!"GB":=z8;have up:∀c o,c≠z->g5.get? c=some o->g8.get? c=some o:=fun c o n e=>zi k8 n (zi k7 n s!"AU")
 have nz:g5.objs.size≠z:=Nat.ne_of_gt s!"AI{z5}";have r8:IsPair g8 g5.objs.size x y:=zi k8 nz (zi k7 nz s!"B#");have fin:=hQ x y g8 t4 px py;rw [<-sz] at fin;refine fin z8' (up _ _ Z.zTO.symm O5') ?_ ?_ r8 fun c o c1 c2 c3 c4 e=>up c o c1 (all c o c1 c2 c3 c4 e)
 ·exact D1.frame _ g5 g8 (yd D1 Z.fo1 (yd D1 Z.f21 (yd D1 Z.fo1 q1 k3) k4) k5) fun c hc o e=>up c o (fun q=>Z.fz1 (q▸hc)) e
 ·exact D2.frame _ g5 g8 (yd D2 Z.fo2 q2 k5) fun c hc o e=>up c o (fun q=>Z.fz2 (q▸hc)) e
theorem zjf (D1:Draws prog w A i1 f1 n1 P1 S1) (D2:Draws prog w A i2 f2 n2 P2 S2) (Z:ZDiff z TI TO i1 i2 f1 f2) (hz:IsZip s.heap z TI TO .none) (hI:IsPair s.heap TI s!"CN" s!"CO") (hO:IsPair s.heap TO a b)
 (st1:S1 i s.heap) (st2:S2 i s.heap) (ends:i=n1\/(i<n1/\i=n2)) {Q:Fin->Shared->Prop}
 (hE:∀h' tk e,(∀c o,c≠z->c≠TO->c≠i1->c≠i2->s.heap.get? c=some o->h'.get? c=some o)->(∃o,h'.get? e=some o/\o.cls=.type "StopIteration")->E s!"Aj" { s with heap:=h',toks:=tk }):
 wpAny s!"1" A (Builtin.«zip.__next__» ⟨[.ref z],[]⟩) Q E s:=by
 refine wpAny_bind (wpAny_pure (a:=(Value.ref z,[])) s!"4AABd&&4AABd&&4C&{hI}{?_}");refine wpAny_bind s!"4AABd&&Al4{wpAny_rule s!"4AABd&&4{(wpAny_setField_rec hz (by show 0<5;decide) fun g1 z1 k1=>wpAny_bind ?_)}"}"
 have z1':IsZip g1 z TI TO .ellipsis:=z1;simp only [List.zipIdx_cons,List.zipIdx_nil,List.forIn_cons,List.forIn_nil];rcases ends with rfl | ⟨l1,rfl⟩
 ·refine wpAny_bind s!"4{wpAny_onRaise s!"4{(D1.done { s with heap:=g1 } _ _ (yd D1 Z.fz1 st1 k1) fun g2 e k2 he=>?_)}"}"
  obtain ⟨oe,e1,e2⟩:=he;have z2:IsZip g2 z TI TO .ellipsis:=k2 _ _ Z.z1 z1';have ne:e≠z:=fun q=>by rw [q,z2] at e1;rw [<-Option.some.inj e1] at e2;simp at e2
  exact wpAny_setField_rec z2 (by show 0<5;decide) fun g3 _ k3=>hE g3 s.toks e (fun c o c1 _ c3 _ x=>zi k3 c1 (k2 _ _ c3 (zi k1 c1 x))) ⟨oe,zi k3 ne e1,e2⟩
 ·refine wpAny_bind s!"4{wpAny_onRaise s!"4{(D1.item i { s with heap:=g1 } _ _ l1 (yd D1 Z.fz1 st1 k1) fun x g2 t2 px q1 k2=>wpAny_pure ?_)}"}"
  have O2:IsPair g2 TO a b:=zi k2 Z.o1 s!"G[";refine wpAny_bind s!"C&{O2}4{(wpAny_updateSeq_pair O2 fun g3 O3 k3=>wpAny_bind (wpAny_letGo s!"AS"))}"
  refine wpAny_bind s!"4{wpAny_onRaise s!"4{(D2.done { s with heap:=g3,toks:=t2 } _ _ s!"G]" fun g4 e k4 he=>?_)}"}"
  obtain ⟨oe,e1,e2⟩:=he;have z4:IsZip g4 z TI TO .ellipsis:=k4 _ _ Z.z2 s!"GA";have ne:e≠z:=fun q=>by rw [q,z4] at e1;rw [<-Option.some.inj e1] at e2;simp at e2
  exact wpAny_setField_rec z4 (by show 0<5;decide) fun g5 _ k5=>hE g5 t2 e (fun c o c1 c2 c3 c4 x=>zi k5 c1 (k4 _ _ c4 (zi k3 c2 (zi k2 c3 (zi k1 c1 x))))) ⟨oe,zi k5 ne e1,e2⟩
end
abbrev zt1 (h:Heap) (t:Addr):Heap:=h.push { cls:=.type "tuple_iterator",data:=.fields #[.ref t,.int 0 0] }
section
variable {z TI TO i1 i2:Addr} {n1 n2:Nat} {a b:Value}
theorem zhC {Q:Option Value->Shared->Prop} (D1:Draws prog w A.in1 i1 f1 n1 P1 S1) (D2:Draws prog w A.in1 i2 f2 n2 P2 S2) (Z:ZDiff z TI TO i1 i2 f1 f2) (hz:IsZip s.heap z TI TO .none) (hI:IsPair s.heap TI s!"CN" s!"CO") (hO:IsPair s.heap TO a b)
 (st1:S1 i s.heap) (st2:S2 i s.heap) (l1:i<n1) (l2:i<n2)
 (hQ:∀x y h' tk,P1 i x->P2 i y->IsZip h' z TI TO s!"G)"->IsPair h' TO x y->S1 (i+1) h'->S2 (i+1) h'->IsPair h' s.heap.objs.size x y->(∀c o,c≠z->c≠TO->c≠i1->c≠i2->s.heap.get? c=some o->h'.get? c=some o)->Q s!"nCi" { s with heap:=h',toks:=tk }):
 wpAny s!"1" A s!"GC" Q E s:=by
 have ty:s.TypeIs s!"k{z}" "zip":=⟨_,hz,rfl⟩;exact wpAny_bind (wpAny_attempt (wpAny_callSpecial?_slot (name:=Str.ofString "__next__") ty F.slot_zip_next (wpAny_call_entry F.slot_zip_next ty F.entry_zip_next (zhB D1 D2 Z hz hI hO st1 st2 l1 l2 fun x y h' tk p1 p2 a1 a2 a3 a4 a5 a6=>wpAny_pure (hQ x y h' tk p1 p2 a1 a2 a3 a4 a5 a6)) s!"GD")))
theorem zhD {Q:Option Value->Shared->Prop} (D1:Draws prog w A.in1 i1 f1 n1 P1 S1) (D2:Draws prog w A.in1 i2 f2 n2 P2 S2) (Z:ZDiff z TI TO i1 i2 f1 f2) (hz:IsZip s.heap z TI TO .none) (hI:IsPair s.heap TI s!"CN" s!"CO") (hO:IsPair s.heap TO a b)
 (st1:S1 i s.heap) (st2:S2 i s.heap) (ends:i=n1\/(i<n1/\i=n2))
 (hQ:∀h' tk,(∀c o,c≠z->c≠TO->c≠i1->c≠i2->s.heap.get? c=some o->h'.get? c=some o)->Q none { s with heap:=h',toks:=tk }):wpAny s!"1" A s!"GC" Q E s:=by
 have ty:s.TypeIs s!"k{z}" "zip":=⟨_,hz,rfl⟩;refine wpAny_bind (wpAny_attempt (wpAny_callSpecial?_slot (name:=Str.ofString "__next__") ty F.slot_zip_next (wpAny_call_entry F.slot_zip_next ty F.entry_zip_next (zjf D1 D2 Z hz hI hO st1 st2 ends fun h' tk e k he=>?_) s!"GD")))
 obtain ⟨o,e1,e2⟩:=he;exact wpAny_bind (wpAny_isInstance (T:="StopIteration") (b:=true) ⟨o,e1,e2⟩ isSubtype_stop s!"Al{hQ h' tk k}")
end
end L2
namespace HT
open PySem PySem.Spec PyProof.Rows
section
variable {prog:Program} {w:World} {A:Around} {E:Value->Shared->Prop} {s:Shared}
end
end HT
namespace L2
open PySem PySem.Spec PyProof.Rows
variable {X:Cx} {H:Hp} {K:PySem.W.Frag}
section
variable {Q:VK}
end
variable {pins:List (Addr×Obj)} {scope:Scope} {x:Str} {ex:List Addr} {s:Shared}
variable {σ:St} {D:Ends}
section
variable {Q:VK}
end
variable {ys:List Str} {cl:List (Str×Addr)}
section
variable {Q:VK}
end
section
variable {W:Value->Option Addr->St->Hp->Prop}
end
def zgK (H:Hp) (D:Addr) (rows:List (List V)):Prop:=∃as:List Addr,H D=some s!"Cn"/\as.length=rows.length/\∀(j:Nat) (x:Addr) (p:List V),as[j]? =some x->rows[j]? =some p->H x=some s!"6{p}"
section
variable {Q:VK}
end
def Cx.blockM (X:Cx) (pins:List (Addr×Obj)) (scope:Scope) (nm ys:List Str) (cl:List (Str×Addr)) (ex:List Addr) (s:Shared) (H:Hp):Cx:=
 { X with N:=nm++ys,s₀:=s,H₀:=H,env:=ze2 X.env scope cl s.heap.objs.size,outer:=X.stack,stack:=X.stack,ex:=ex,fn:=fun _=>false,pn:=X.pn++pins,xe:=fun _ _=>False }
variable {prog:Program} {w:World} {A:Around}
theorem zlO {pins:List (Addr×Obj)} {scope:Scope} {nm ys:List Str} {cl:List (Str×Addr)} {ex:List Addr} {s:Shared} {H:Hp} {es:List Expr} {k:Nat} {t:TGs} {n:Nat} {pos:Pos} (hc:X.calm=true) (h:PGs s!"Co" es t)
 (hn:(assignEach es s!"Co".env).length=n:=by rfl) (hst:(assignEach es s!"Co".env).findIdx? (·.1)=none:=by rfl):PG s!"Co" s!"Gx" (zkA X.K n t):=zij (X:=X.blockM pins scope nm ys cl ex s H) hc h hn hst
def zmR:List V->Hp->VK->Prop:=fun xs H Q=>∃z,xs=[.str z]/\z.length<=sizeLine/\Q s!"EA" H
theorem call_lenS:zN X s!"BE" zmR:=zdZ
section
variable {Q:VK}
end
section
variable {P0:List (Addr×Obj)} {S0:Scope} {x0:Str} {Y0:List Str} {C0:List (Str×Addr)} {E0:List Addr} {s0:Shared} {H0:Hp}
end
variable {y:V} {u:Value} {o:Option V}
section
variable {κ:Type} [DecidableEq κ]
def zE (kvs:List (κ×V)) (k:κ):Option V:=(kvs.find? fun kv=>decide (kv.1=k)).map (·.2)
def yQ (kvs:List (κ×V)) (k:κ) (v:V):List (κ×V):=
 if (kvs.any fun kv=>decide (kv.1=k))=true then kvs.map (fun kv=>if kv.1=k then (kv.1,v) else kv) else kvs++[(k,v)]
def zQ (kvs:List (κ×V)) (k:κ):List (κ×V):=kvs.filter fun kv=>decide (kv.1≠k)
theorem zD {p:κ×V} {r:List (κ×V)} {k:κ} (e:p.1=k):zE (p::r) k=some p.2:=by simp [zE,List.find?_cons,e]
theorem zy {p:κ×V} {r:List (κ×V)} {k:κ} (e:¬p.1=k):zE (p::r) k=zE r k:=by simp [zE,List.find?_cons,e]
theorem yi (k:κ):∀kvs:List (κ×V),(kvs.any fun kv=>decide (kv.1=k))=s!"DD".isSome
 | []=>rfl
 | p::r=>by
  rw [List.any_cons]
  by_cases e:p.1=k
  ·simp only [zD e,decide_eq_true e,Bool.true_or,Option.isSome_some]
  ·rw [zy e,decide_eq_false e,Bool.false_or];exact yi k r
theorem ze3 (k j:κ) (y:V):∀kvs:List (κ×V),zE (kvs.map fun kv=>if kv.1=k then (kv.1,y) else kv) j=(zE kvs j).map fun x=>if j=k then y else x
 | []=>rfl
 | p::r=>by
  have ih:=ze3 k j y r;rw [List.map_cons]
  by_cases h:p.1=k
  ·rw [if_pos h]
   by_cases e:p.1=j
   ·rw [zD (p:=(p.1,y)) e,zD e,Option.map_some,if_pos (e.symm.trans h)]
   ·rw [zy (p:=(p.1,y)) e,zy e,ih]
  ·rw [if_neg h]
   by_cases e:p.1=j
   ·rw [zD (p:=p) e,zD e,Option.map_some,if_neg (fun z=>h (e.trans z))]
   ·rw [zy (p:=p) e,zy e,ih]
theorem zdb (k j:κ) (y:V):∀kvs:List (κ×V),zE kvs k=none->zE (kvs++[(k,y)]) j=if j=k then some y else zE kvs j
 | [],_=>by
  by_cases e:k=j
  ·rw [if_pos e.symm];exact zD (p:=(k,y)) e
  ·rw [if_neg (fun z=>e z.symm)];exact zy (p:=(k,y)) e
 | p::r,hn=>by
  rw [List.cons_append];have hk:¬p.1=k:=fun z=>by rw [zD z] at hn;cases hn
  rw [zy hk] at hn;have ih:=zdb k j y r hn
  by_cases e:p.1=j
  ·rw [zD e,zD e,if_neg (fun z=>hk (e.trans z))]
  ·rw [zy e,zy e,ih]
theorem zjg (kvs:List (κ×V)) (k j:κ) (y:V):zE s!"ET" j=if j=k then some y else zE kvs j:=by
 unfold yQ
 by_cases a:(kvs.any fun kv=>decide (kv.1=k))=true
 ·rw [if_pos a,ze3];rw [yi] at a
  by_cases e:j=k
  ·obtain ⟨x,hx⟩:=Option.isSome_iff_exists.mp a;rw [if_pos e,e,hx,Option.map_some,if_pos rfl]
  ·rw [if_neg e];cases zE kvs j with
   | none=>rfl
   | some x=>rw [Option.map_some,if_neg e]
 ·rw [if_neg a];refine zdb k j y kvs ?_;rw [yi] at a;cases q:zE kvs k with
  | none=>rfl
  | some x=>rw [q] at a;exact (a rfl).elim
theorem zbs (kvs:List (κ×V)) (k:κ) (v:V):s!"BH".length<=kvs.length+1:=by
 unfold yQ;split
 ·rw [List.length_map];omega
 ·rw [List.length_append,List.length_cons,List.length_nil];omega
theorem zjh {kvs:List (κ×V)} {k:κ} (v:V) (h:zE kvs k=none):yQ kvs k v=kvs++[(k,v)]:=by
 unfold yQ;rw [yi,h];exact if_neg s!"d"
theorem xc.isSome_eq {u:Option Value} (r:xc o u):o.isSome=u.isSome:=by
 cases o with
 | none=>cases u with
  | none=>rfl
  | some _=>exact (show False from r).elim
 | some _=>cases u with
  | none=>exact (show False from r).elim
  | some _=>rfl
theorem xc.getD {u:Option Value} {d:V} {d':Value} (r:xc o u) (rd:zm d d'):zm (o.getD d) (u.getD d'):=by
 cases o with
 | none=>cases u with
  | none=>exact rd
  | some _=>exact (show False from r).elim
 | some _=>cases u with
  | none=>exact (show False from r).elim
  | some _=>exact r
theorem KV.val {kvs:List (κ×V)} {vs:List (κ×Value)} (r:KV kvs vs) (k:κ):xc s!"DD" (valueAt vs k):=by
 unfold KV at r
 induction r with
 | nil=>exact True.intro
 | @cons p q ps qs h t ih=>
  obtain ⟨h1,h2⟩:=h
  by_cases e:p.1=k
  ·have e':q.1=k:=h1.symm.trans e;have b:valueAt (q::qs) k=some q.2:=by simp [valueAt,List.find?_cons,e']
   rw [zD e,b];exact h2
  ·have e':¬q.1=k:=fun z=>e s!"CP"
   have b:valueAt (q::qs) k=valueAt qs k:=by simp [valueAt,List.find?_cons,e']
   rw [zy e,b];exact ih
theorem KV.any {kvs:List (κ×V)} {vs:List (κ×Value)} (r:KV kvs vs) (k:κ):(kvs.any fun kv=>decide (kv.1=k))=vs.any fun kv=>decide (kv.1=k):=by
 unfold KV at r
 induction r with
 | nil=>rfl
 | cons h t ih=>rw [List.any_cons,List.any_cons,ih,h.1]
theorem KV.repl {kvs:List (κ×V)} {vs:List (κ×Value)} (r:KV kvs vs) (k:κ) (ry:zm y u):
 KV (kvs.map fun kv=>if kv.1=k then (kv.1,y) else kv) (vs.map fun kv=>if kv.1=k then (kv.1,u) else kv):=by
 unfold KV at r ⊢
 induction r with
 | nil=>exact .nil
 | @cons p q ps qs h t ih=>
  rw [List.map_cons,List.map_cons];refine .cons ?_ ih;obtain ⟨h1,h2⟩:=h
  by_cases e:p.1=k
  ·rw [if_pos e,if_pos s!"GE"];exact ⟨h1,ry⟩
  ·rw [if_neg e,if_neg (fun z=>e s!"CP")];exact ⟨h1,h2⟩
theorem KV.put {kvs:List (κ×V)} {vs:List (κ×Value)} (r:KV kvs vs) (k:κ) (ry:zm y u):KV s!"ET" (stored vs k u):=by
 unfold yQ stored;rw [r.any k]
 by_cases e:(vs.any fun kv=>decide (kv.1=k))=true
 ·rw [if_pos e,if_pos e];exact r.repl k ry
 ·rw [if_neg e,if_neg e];exact Paired.snoc r ⟨rfl,ry⟩
theorem KV.drop {kvs:List (κ×V)} {vs:List (κ×Value)} (r:KV kvs vs) (k:κ):KV s!"CQ" (without vs k):=by
 unfold KV at r ⊢;unfold zQ without
 induction r with
 | nil=>exact .nil
 | @cons p q ps qs h t ih=>
  obtain ⟨h1,h2⟩:=h;rw [List.filter_cons,List.filter_cons]
  by_cases e:p.1=k
  ·have a:¬decide (p.1≠k)=true:=by simp [e]
   have b:¬decide (q.1≠k)=true:=by simp [h1.symm.trans e]
   rw [if_neg a,if_neg b];exact ih
  ·have e':¬q.1=k:=fun z=>e s!"CP"
   have a:decide (p.1≠k)=true:=by simp [e]
   have b:decide (q.1≠k)=true:=by simp [e']
   rw [if_pos a,if_pos b];exact .cons ⟨h1,h2⟩ ih
theorem KV.keys {kvs:List (κ×V)} {vs:List (κ×Value)} (r:KV kvs vs):kvs.map (·.1)=vs.map (·.1):=by
 unfold KV at r
 induction r with
 | nil=>rfl
 | cons h t ih=>rw [List.map_cons,List.map_cons,ih,h.1]
theorem KV.length {kvs:List (κ×V)} {vs:List (κ×Value)} (r:KV kvs vs):kvs.length=vs.length:=Paired.length r
theorem dropK_le (kvs:List (κ×V)) (k:κ):s!"CQ".length<=kvs.length:=List.length_filter_le _ _
end
variable {P:Program}
theorem zdc {k:Key} (r:zm (kV k) u):s!"B(".is k u=true:=by
 cases k with
 | inl i=>obtain ⟨t,e⟩:=(show ∃t,u=Value.int i t from r);subst e;exact zeQ P w i t
 | inr x=>obtain ⟨t,e⟩:=(show ∃t,u=Value.str x t from r);subst e;exact zeR P w x t
theorem zdd:∀{ks:List Key} {us:List Value},zl (ks.map kV) us->ItemsAre s!"B(" ks us
 | [],_,r=>by rw [List.map_nil] at r;cases r;exact .nil
 | k::ks,_,r=>by
  rw [List.map_cons] at r;cases r with
  | cons h t=>exact .cons (zdc h) (zdd t)
abbrev KT (H:Hp):List (List Key×V)->List (List Key×Addr×Value)->Prop:=Paired fun p q=>p.1=q.1/\H q.2.1=some s!"6{p.1.map kV}"/\zm p.2 q.2.2
variable {kvs:List (List Key×V)} {xs:List (List Key×Addr×Value)}
theorem KT.val (r:KT H kvs xs) (k:List Key):xc s!"DD" (s!"DE".map (·.2)):=by
 induction r with
 | nil=>exact True.intro
 | @cons p q ps qs h t ih=>
  obtain ⟨h1,_,h2⟩:=h
  by_cases e:p.1=k
  ·have e':q.1=k:=h1.symm.trans e;have b:atKey (q::qs) k=some q.2:=by simp [atKey,List.find?_cons,e']
   rw [zD e,b];exact h2
  ·have e':¬q.1=k:=fun z=>e s!"CP"
   have b:atKey (q::qs) k=atKey qs k:=by simp [atKey,List.find?_cons,e']
   rw [zy e,b];exact ih
theorem KT.repl (r:KT H kvs xs) (k:List Key) (ry:zm y u):
 KT H (kvs.map fun kv=>if kv.1=k then (kv.1,y) else kv) (xs.map (putAt k u)):=by
 induction r with
 | nil=>exact .nil
 | @cons p q ps qs h t ih=>
  rw [List.map_cons,List.map_cons];refine .cons ?_ ih;obtain ⟨h1,h2,h3⟩:=h;unfold putAt
  by_cases e:p.1=k
  ·rw [if_pos e,if_pos s!"GE"];exact ⟨h1,h2,ry⟩
  ·rw [if_neg e,if_neg (fun z=>e s!"CP")];exact ⟨h1,h2,h3⟩
theorem KT.put (r:KT H kvs xs) (k:List Key) {b:Addr} (hb:H b=some s!"EU") (ry:zm y u):
 KT H s!"ET" (storedH xs k b u):=by
 have e:(kvs.any fun kv=>decide (kv.1=k))=s!"DE".isSome:=by
  rw [yi,(r.val k).isSome_eq,Option.isSome_map]
 unfold yQ storedH;rw [e]
 by_cases q:s!"DE".isSome=true
 ·rw [if_pos q,if_pos q];exact r.repl k ry
 ·rw [if_neg q,if_neg q];exact Paired.snoc r ⟨rfl,hb,ry⟩
variable {H':Hp}
theorem KT.keeps (r:KT H kvs xs) (ht:∀b ys,H b=some s!"DB"->H' b=some s!"DB"):KT H' kvs xs:=
 Paired.mapP r fun _ _ z=>⟨z.1,ht _ _ z.2.1,z.2.2⟩
variable {h:Heap} {a:Addr}
theorem zmS {u:HO} (ok:HOk P w H h) (e:Rd H a u):zq P w H h a u:=e.ok ok
theorem zce {kvs:List (Key×V)} (ok:HOk P w H h) (e:Rd H a s!"<"):kvs.length<=sizeLine/\(a==sysModules)=false/\∃vs,KV kvs vs/\h.DictOf s!"B(" a vs:=
 show zq P w H h a s!"<" from zmS ok e
theorem zji {kvs:List (Key×V)} (ok:HOk P w H h) (e:H a=some s!"<"):kvs.length<=sizeLine/\(a==sysModules)=false/\∃vs,KV kvs vs/\h.DictOf s!"B(" a vs:=zce ok s!"${e}"
theorem zcf {ks:List Key} (ok:HOk P w H h) (e:H a=some s!"6FH"):s!"C^".is h ks a:=by
 obtain ⟨_,its,r,o,h1,h2,n,h3⟩:=(show zq P w H h a s!"6FH" from ok a _ e)
 exact ⟨o,its.toArray,n,h1,h2,h3,by simpa using zdd r⟩
theorem zde (ok:HOk P w H h) (e:Rd H a s!"Bk"):kvs.length<=sizeLine/\(a==sysModules)=false/\
 ∃xs,KT H kvs xs/\h.DictOfH s!"C^" a xs:=by
 obtain ⟨z,y,xs,r,o,es,ep,h1,h2,h3,h4,h5⟩:=(show zq P w H h a s!"Bk" from zmS ok e)
 refine ⟨z,y,xs,r,o,es,ep,h1,h2,h3,h4,fun x hx=>?_,h5⟩
 have all:∀{l:List (List Key×V)} {m:List (List Key×Addr×Value)},KT H l m->∀x∈m,s!"C^".is h x.1 x.2.1:=by
  intro l m q
  induction q with
  | nil=>intro x hx;exact nomatch hx
  | @cons p q ps qs hq t ih=>
   intro x hx;rcases List.mem_cons.mp hx with e | hx
   ·subst e;exact zcf ok (by rw [<-hq.1];exact hq.2.1)
   ·exact ih x hx
 exact all r x hx
theorem zp5 (ok:HOk P w H h) (e:H a=some s!"Bk"):kvs.length<=sizeLine/\(a==sysModules)=false/\
 ∃xs,KT H kvs xs/\h.DictOfH s!"C^" a xs:=zde ok s!"${e}"
def wF (H:Hp) (a:Addr) (y:V) (r:Option V):Prop:=
 (∃kvs k,Rd H a s!"<"/\y=kV k/\r=zE kvs k)\/∃kvs k b,Rd H a s!"Bk"/\y=.ref b/\H b=some s!"EU"/\r=zE kvs k
def zhE (H:Hp) (a:Addr) (y v:V) (H':Hp):Prop:=
 (∃kvs k,H a=some s!"<"/\y=kV k/\kvs.length<sizeLine/\H'=upd H a s!"GF")\/
 ∃kvs k b,H a=some s!"Bk"/\y=.ref b/\H b=some s!"EU"/\kvs.length<sizeLine/\H'=upd H a (.dT s!"BH")
theorem wF.k {kvs:List (Key×V)} {k:Key} (e:H a=some s!"<"):wF H a (kV k) s!"DD":=.inl ⟨kvs,k,.inl e,rfl,rfl⟩
variable {v:V}
theorem zhE.k {kvs:List (Key×V)} {k:Key} (e:H a=some s!"<") (hl:kvs.length<sizeLine):zhE H a (kV k) v s!".{a}GF":=.inl ⟨kvs,k,e,rfl,hl,rfl⟩
variable {E Q:Value->Shared->Prop} {h':Heap}
section
variable {r:Value}
theorem Inv.big (I:Inv X pins σ H s):sysModules<s.heap.objs.size:=by
 have h:mainGlobals<s.heap.objs.size:=(I.mod.glob.keeps I.bk).lt;exact Nat.lt_trans s!"d" h
theorem zhF (hu:A.units+1<cLine) (I:Inv X pins σ H s) (g:wF H a y s!"A0") (ry:zm y u) (h:∀w' s',Inv X pins σ H s'->zm v w'->Q w' s'):
 wpAny s!"q" A (getItem s!"h" u) Q E s:=by
 rcases g with ⟨kvs,k,e,ey,l⟩ | ⟨kvs,k,b,e,ey,eb,l⟩
 ·subst ey;obtain ⟨z,hd,vs,rel,dd⟩:=zce I.hok e;obtain ⟨w',hw,rw'⟩:=xc.some_of (v:=v) (o:=valueAt vs k) (by rw [l];exact rel.val k)
  exact wpAny_getItem_of s!"CR" dd.mapOf hw (h w' _ s!"B7" rw')
 ·subst ey;cases (show u=Value.ref b from ry)
  obtain ⟨z,hd,xs,rel,dd⟩:=zde I.hok e;obtain ⟨w',hw,rw'⟩:=xc.some_of (v:=v) (o:=s!"DE".map (·.2)) (by rw [l];exact rel.val k)
  obtain ⟨p,hp,hp2⟩:=Option.map_eq_some_iff.mp hw;refine wpAny_getItem_heap s!"EV" s!"EW" dd hp ?_;rw [hp2];exact h w' _ s!"B7" rw'
theorem zlP (hu:A.units+1<cLine) (I:Inv X pins σ H s) (g:wF H a y o) (ry:zm y u) (h:∀s',Inv X pins σ H s'->Q (.bool (!o.isSome)) s'):
 wpAny s!"q" A (compareOp .NotIn u s!"h") Q E s:=by
 rcases g with ⟨kvs,k,e,ey,l⟩ | ⟨kvs,k,b,e,ey,eb,l⟩
 ·subst ey;obtain ⟨z,hd,vs,rel,dd⟩:=zce I.hok e;refine wpAny_notIn_of s!"CR" hd dd.mapOf ?_;rw [<-s!"DF".isSome_eq,<-l];exact h _ s!"B7"
 ·subst ey;cases (show u=Value.ref b from ry)
  obtain ⟨z,hd,xs,rel,dd⟩:=zde I.hok e;refine wpAny_notIn_heap s!"EV" s!"EW" hd dd ?_;have q:=s!"DF".isSome_eq;rw [Option.isSome_map] at q;rw [<-q,<-l];exact h _ s!"B7"
theorem zd8 {t':Nat} {ob:HO} (I:Inv X pins σ H s) (mu:Mut (H a)) (hs:Heap.SameBut a s.heap h') (he:∃q,h'.get? a=some q) (new:zq X.prog X.w s!".{a}{ob}" h' a ob):
 Inv X pins σ s!".{a}{ob}" { s with heap:=h',toks:=t' }:=
 I.write (x:=a) (e:=a) mu s!"[" (fun b q hb z=>(hs.2 b hb).trans z) he new
theorem dk_new {kvs:List (Key×V)} {vs:List (Key×Value)} (z:kvs.length<=sizeLine) (hd:(a==sysModules)=false) (rel:KV kvs vs) (dd:h'.DictOf s!"B(" a vs):
 zq P w H' h' a s!"<":=⟨z,hd,vs,rel,dd⟩
theorem zhG {Q:Unit->Shared->Prop} (hu:A.units+1<cLine) (I:Inv X pins σ H s) (g:zhE H a y v H') (ry:zm y u) (rv:zm v r) (h:∀s',Inv X pins σ H' s'->Q () s'):
 wpAny s!"q" A (setItem s!"h" u r) Q E s:=by
 rcases g with ⟨kvs,k,e,ey,l,eH⟩ | ⟨kvs,k,b,e,ey,eb,l,eH⟩
 ·subst ey eH;obtain ⟨z,hd,vs,rel,dd⟩:=zji I.hok e;have hz:vs.length<=sizeLine:=by rw [<-rel.length];exact z
  have hl:s!"BH".length<=sizeLine:=by have:=zbs kvs k v;omega
  refine wpAny_setItem_pairs (hsz:=hz) s!"CR" dd fun h' dd' hs=>h _ ?_
  have he:∃q,h'.get? a=some q:=let ⟨q,_,_,hq,_⟩:=dd';⟨q,hq⟩
  exact zd8 I (by rw [e];exact True.intro) hs he (dk_new hl hd (rel.put k rv) dd')
 ·subst ey eH;cases (show u=Value.ref b from ry)
  obtain ⟨z,hd,xs,rel,dd⟩:=zp5 I.hok e;have hz:xs.length<=sizeLine:=by rw [<-Paired.length rel];exact z
  have hl:s!"BH".length<=sizeLine:=by have:=zbs kvs k v;omega
  refine wpAny_setItem_heap (hsz:=hz) s!"EV" s!"EW" dd fun h' dd' hs=>h _ ?_
  obtain ⟨q,es,ep,hq,h2,h3,h4,_,h5⟩:=dd';refine zd8 I (by rw [e];exact True.intro) hs ⟨q,hq⟩ ⟨hl,hd,_,(rel.put k eb rv).keeps fun c ys ec=>?_,q,es,ep,hq,h2,h3,h4,h5⟩
  rw [zf (yI ec e s!"Aw")]
  exact ec
end
section
variable {kvs:List (Key×V)} {k:Key}
theorem zp6 {more:List Value} (I:Inv X pins σ H s) (e:H a=some s!"<") (ry:zm (kV k) u) (l:zE kvs k=some v) (hm:more=[]\/∃x,more=[x])
 (h:∀w' s',Inv X pins σ s!"GG" s'->zm v w'->Q w' s'):wpAny s!"q" A (call s!"A%{"dict.pop"}" (.ref a::u::more)) Q E s:=by
 obtain ⟨z,hd,vs,rel,dd⟩:=zji I.hok e;obtain ⟨w',hw,rw'⟩:=xc.some_of (v:=v) (o:=valueAt vs k) (by rw [<-l];exact rel.val k)
 have hp:(keyPart u).isSome=true:=by
  cases k with
  | inl i=>obtain ⟨t,q⟩:=(show ∃t,u=Value.int i t from ry);subst q;rfl
  | inr x=>obtain ⟨t,q⟩:=(show ∃t,u=Value.str x t from ry);subst q;rfl
 have ha:argsOk "dict.pop" ⟨.ref a::u::more,[]⟩:=by
  rcases hm with q | ⟨x,q⟩
  ·subst q;exact PySem.F.args_dict_pop_2 _ _
  ·subst q;exact PySem.F.args_dict_pop_3 _ _ _
 refine call_meetsIn PySem.F.slot_dict_pop dd.typeIs PySem.F.entry_dict_pop ha (meets_dict_pop_there s!"EX" a s!"CR" more hm hp)
  ⟨vs,w',dd,by rw [<-rel.length];exact z,hw,fun h' dd' hs=>h w' _ ?_ rw'⟩
 have he:∃q,h'.get? a=some q:=let ⟨q,_,_,hq,_⟩:=dd';⟨q,hq⟩
 exact zd8 I (by rw [e];exact True.intro) hs he (dk_new s!"Bc{dropK_le kvs k}{z}" hd (rel.drop k) dd')
theorem zp7 (I:Inv X pins σ H s) (e:Rd H a s!"<") (h:∀t s',Inv X pins σ H s'->Q (.int kvs.length t) s'):wpAny s!"q" A (call s!"BE" [.ref a]) Q E s:=by
 obtain ⟨z,hd,vs,rel,dd⟩:=zce I.hok e;refine call_len_dict hd dd (by rw [<-rel.length];rw [sizeLine_eq] at z;omega) ?_
 rw [<-rel.length];exact h _ _ s!"B7"
end
def zp8 (i:Expr):Prop:=∀ov iv,subscripted i false ov iv=operate [ov,iv] (getItem ov iv)
variable {value:Expr} {pos:Pos}
theorem zlQ {env:Env} {slice:Expr} {T id:String}
 (hl:typeLookup s!"D=" "__getitem__"=pure s!"nBl") (hs:zp8 slice)
 (h:wpAny s!"1" A (eval value env) (fun o s₁=>wpAny s!"1" A (eval slice env) (fun i s₂=>s₂.TypeIs o T/\wpAny s!"1" A (getItem o i) Q E s₂) E s₁) E s):
 wpAny s!"1" A (eval (.Subscript value slice pos) env) Q E s:=by
 refine Subscript_ (wpAny_mono h (fun o s₁ h₁=>wpAny_mono h₁ (fun i s₂ h₂=>?_) fun _ _ x=>x) fun _ _ x=>x)
 obtain ⟨hT,h₂⟩:=h₂;unfold subscriptTail;refine wpAny_bind ?_;rw [getitemInPython_of_ne hT.not_modules];refine wpAny_bind (wpAny_specialOf hT hl ?_);have fin:wpAny s!"1" A (subscripted slice false o i) (fun r s₃=>wpAny s!"1" A (letTemporaryGo value o r >>=fun _=>pure r) Q E s₃) E s₂:=by
  rw [hs o i];exact wpAny_operating (wpAny_mono h₂ (fun r s₃ h₃=>wpAny_bind (wpAny_letTemporaryGo s!"Al{h₃}")) fun _ _ x=>x)
 first
  | exact wpAny_pure s!"4{fin}"
  | exact wpAny_bind s!"Al4{fin}"
  | exact wpAny_bind fin
theorem ze4 (I:Inv X pins σ H s) (g:wF H a y o):s.TypeIs s!"h" "dict":=by
 rcases g with ⟨kvs,k,e,_,_⟩ | ⟨kvs,k,b,e,_,_,_⟩
 ·obtain ⟨_,_,vs,_,dd⟩:=zce I.hok e;exact dd.typeIs
 ·obtain ⟨_,_,xs,_,dd⟩:=zde I.hok e;exact dd.typeIs
def zmT (td ty:TE):TE:=fun σ H Q=>td σ H fun x H1=>ty σ H1 fun y H2=>∃a v,x=.ref a/\wF H2 a y s!"A0"/\Q v H2
def zgL (ty td:TE):TE:=fun σ H Q=>ty σ H fun y H1=>td σ H1 fun x H2=>∃a o,x=.ref a/\wF H2 a y o/\Q s!"!{(!o.isSome)}" H2
def zmU (td ty tv:TE):TS:=fun D σ H=>tv σ H fun v H1=>td σ H1 fun x H2=>ty σ H2 fun y H3=>∃a H4,x=.ref a/\zhE H3 a y v H4/\D.nx σ H4
variable {e:Expr} {pos':Pos} {td ty tv:TE}
section
variable {o i:Expr} {tpos:Pos}
theorem zbW (hu:X.A.units+1<cLine) (ho:PE X o td) (hi:PE X i ty) (hs:zp8 i):PE X (.Subscript o i pos) (zmT td ty):=by
 intro pins s σ H Q I h;refine zlQ PySem.F.slot_dict_getitem.lookup hs (thn (ho pins s σ H _ I h) fun u s1 ⟨x,H1,I1,rx,q1⟩=>thn (hi pins s1 σ H1 _ I1 q1) fun iv s2 ⟨y,H2,I2,ry,a,v,ex,g,q2⟩=>?_)
 subst ex;obtain rfl:u=Value.ref a:=rx;exact ⟨ze4 I2 g,zhF hu I2 g ry fun w' s3 I3 rw'=>⟨v,H2,I3,rw',q2⟩⟩
theorem zhH (hu:X.A.units+1<cLine) (hi:PE X i ty) (ho:PE X o td):PC X .NotIn i o (zgL ty td):=by
 intro pins s σ H Q I h;refine thn (hi pins s σ H _ I h) fun iv s1 ⟨y,H1,I1,ry,q1⟩=>thn (ho pins s1 σ H1 _ I1 q1) fun u s2 ⟨x,H2,I2,rx,a,ov,ex,g,q2⟩=>?_
 subst ex;obtain rfl:u=Value.ref a:=rx;exact zlP hu I2 g ry fun s3 I3=>⟨.bl (!ov.isSome),H2,I3,rfl,q2⟩
theorem zlR (hu:X.A.units+1<cLine) (ho:PE X o td) (hi:PE X i ty) (hv:PE X value tv) (hs:swapsWith value s!"n{.Subscript o i pos'}" pos.line X.env=pure false):
 PS X (.Assign [.Subscript o i pos'] value pos) (zmU td ty tv):=by
 intro pins s σ H D I h;refine wpAny_Assign_Subscript (thn (hv pins s σ H _ I h) fun r s1 ⟨v,H1,I1,rv,q1⟩=>thn (ho pins s1 σ H1 _ I1 q1) fun u s2 ⟨x,H2,I2,rx,q2⟩=>thn (hi pins s2 σ H2 _ I2 q2) fun iv s3 ⟨y,H3,I3,ry,a,H4,ex,g,q3⟩=>?_) hs
 subst ex;obtain rfl:u=Value.ref a:=rx;exact zhG hu I3 g ry rv fun s4 I4=>⟨σ,H4,I4,q3⟩
end
theorem zjj (h:Heap) (hb:sysModules<h.objs.size):zq P w H (h.push { cls:=.type "dict",data:=.dict #[] }) h.objs.size (.dK []):=
 ⟨Nat.zero_le _,beq_eq_false_iff_ne.mpr s!"ALAm{hb}",[],.nil,Heap.DictOf.new h⟩
def zjk:TE:=fun _ H Q=>∀p,H p=none->Q s!"]" s!".{p}{.dK []}"
theorem zjl:PE X (.Dict [] [] pos) zjk:=fun pins s σ H Q I h=>
 wpAny_Dict_empty ⟨.ref s.heap.objs.size,_,I.laid (a:=s.heap.objs.size) (o:=.dK []) (t':=s.toks) (fun _ _ q=>Heap.get?_push_of_some _ q) s!"+" (zjj s.heap I.big),rfl,h _ s!"CE"⟩
structure M1 (X:Cx) (o:Expr) (m:Str) (apos:Pos) (e:Expr) (cpos:Pos):Prop where
 base:attributeBase o m X.env s!"D>"=eval o X.env
 few:((backTo cpos (starEach [e] X.env)).all (fun x=>!x.1) && (backToKw cpos (keywordEach [] X.env)).all (fun x=>x.1.isSome)
  && decide (([e]:List Expr).length+([]:List Keyword).length+(if ([]:List Keyword).isEmpty then 0 else 1)<30))=true
 line:(apos.endLine==cpos.line)=true
 trees:backTo cpos (starEach [e] X.env)=[(false,eval e X.env)]
def IsD (H:Hp) (a:Addr):Prop:=(∃kvs,Rd H a s!"<")\/∃kvs,Rd H a s!"Bk"
theorem zjm (I:Inv X pins σ H s) (d:IsD H a):
 s.TypeIs s!"h" "dict"/\(∀b,Value.ref a=.ref b->∃ob,s.heap.get? b=some ob/\ob.dict=none)/\(a==sysModules)=false:=by
 rcases d with ⟨kvs,e⟩ | ⟨kvs,e⟩
 ·obtain ⟨_,hd,vs,_,dd⟩:=zce I.hok e;refine ⟨dd.typeIs,fun b q=>?_,hd⟩
  cases q;obtain ⟨ob,_,_,h1,h2,_⟩:=dd;exact ⟨ob,h1,h2.2.1⟩
 ·obtain ⟨_,hd,xs,_,dd⟩:=zde I.hok e;refine ⟨dd.typeIs,fun b q=>?_,hd⟩
  cases q;obtain ⟨ob,_,_,h1,h2,_⟩:=dd;exact ⟨ob,h1,h2.2.1⟩
section
variable {d:V} {r:Value}
theorem zou (hu:A.units+1<cLine) (I:Inv X pins σ H s) (g:wF H a y o) (ry:zm y u) (h:∀w' s',Inv X pins σ H s'->zm s!"DG" w'->Q w' s'):
 wpAny s!"q" A (call s!"A%{"dict.get"}" [.ref a,u]) Q E s:=by
 rcases g with ⟨kvs,k,e,ey,l⟩ | ⟨kvs,k,b,e,ey,eb,l⟩
 ·subst ey;obtain ⟨z,hd,vs,rel,dd⟩:=zce I.hok e;refine call_meetsIn PySem.F.slot_dict_get dd.typeIs PySem.F.entry_dict_get s!"GH" (meets_dict_get s!"EX" a s!"CR" hd) ⟨_,dd.mapOf,h _ _ s!"B7" ?_⟩;rw [l];exact s!"DF".getD rfl
 ·subst ey;cases (show u=Value.ref b from ry)
  obtain ⟨z,hd,xs,rel,dd⟩:=zde I.hok e;refine call_meetsIn PySem.F.slot_dict_get dd.typeIs PySem.F.entry_dict_get s!"GH" (meetsH_dict_get (tupleKind s!"EX") a b hd) ⟨tupleKind_room_in1 hu,k,xs,zcf I.hok eb,dd,h _ _ s!"B7" ?_⟩;rw [l];exact s!"DF".getD rfl
end
def zjn (td ty:TE):TE:=fun σ H Q=>td σ H fun x H1=>∃a,x=.ref a/\IsD H1 a/\ty σ H1 fun y H2=>∃o,wF H2 a y o/\Q s!"DG" H2
def zjo (td ty:TE):TE:=fun σ H Q=>td σ H fun x H1=>∃a,x=.ref a/\IsD H1 a/\ty σ H1 fun y H2=>∃kvs k v,H2 a=some s!"<"/\y=kV k/\zE kvs k=some v/\Q v s!"EY"
section
variable {o f:Expr} {apos cpos:Pos} {tx:TE}
theorem zjp (hu:X.A.units+1<cLine) (ho:PE X o td) (he:PE X e ty) (m:M1 X o "get" apos e cpos):PE X (.Call s!"Dw{"get"}" [e] [] cpos) (zjn td ty):=by
 intro pins s σ H Q I h;refine wpAny_Call_method m.base m.few m.line PySem.F.plainAttrs_dict PySem.F.slot_dict_get PySem.F.type_dict_get (thn (ho pins s σ H _ I h) fun u s1 ⟨x,H1,I1,rx,a,ex,d,q1⟩=>?_)
 subst ex;obtain rfl:u=Value.ref a:=rx;obtain ⟨t1,t2,_⟩:=zjm I1 d;refine ⟨t1,t2,?_⟩;rw [m.trees];refine Calls.callWith_builtin rfl s!"Er{Calls.spliced_cons (thn (he pins s1 σ H1 _ I1 q1) fun iv s2 ⟨y,H2,I2,ry,ov,g,q2⟩=>Calls.spliced_nil ?_)}"
 exact zou hu I2 g ry fun w' s3 I3 rw'=>⟨_,H2,I3,rw',q2⟩
theorem zjq (ho:PE X o td) (he:PE X e ty) (m:M1 X o "pop" apos e cpos):PE X (.Call s!"Dw{"pop"}" [e] [] cpos) (zjo td ty):=by
 intro pins s σ H Q I h;refine wpAny_Call_method m.base m.few m.line PySem.F.plainAttrs_dict PySem.F.slot_dict_pop PySem.F.type_dict_pop (thn (ho pins s σ H _ I h) fun u s1 ⟨x,H1,I1,rx,a,ex,d,q1⟩=>?_)
 subst ex;obtain rfl:u=Value.ref a:=rx;obtain ⟨t1,t2,_⟩:=zjm I1 d;refine ⟨t1,t2,?_⟩;rw [m.trees];refine Calls.callWith_builtin rfl s!"Er{Calls.spliced_cons (thn (he pins s1 σ H1 _ I1 q1) fun iv s2 ⟨y,H2,I2,ry,kvs,k,v,ea,ey,l,q2⟩=>Calls.spliced_nil ?_)}"
 subst ey;exact zp6 I2 ea ry l s!"[" fun w' s3 I3 rw'=>⟨v,_,I3,rw',q2⟩
end
section
variable {kvs:List (Key×V)}
end
theorem zhI:zN X s!"BE" (fun xs H Q=>∃a kvs,xs=[V.ref a]/\H a=some s!"<"/\Q s!"EZ" H):=by
 intro pins s σ H xs us Q I r h;obtain ⟨a,kvs,rfl,ha,q⟩:=h;obtain ⟨u,rfl,ru⟩:=zam r;cases ru;exact zp7 I s!"${ha}" fun t s' I'=>⟨.int kvs.length,H,I',⟨t,rfl⟩,q⟩
section
variable {κ:Type} [DecidableEq κ]
theorem ze5 {kvs:List (κ×V)} {k:κ} (h:zE kvs k=none):¬k∈kvs.map (·.1):=by
 intro m;obtain ⟨p,hp,e⟩:=List.mem_map.mp m;have q:(kvs.any fun kv=>decide (kv.1=k))=true:=List.any_eq_true.mpr ⟨p,hp,decide_eq_true e⟩
 rw [yi,h] at q;exact absurd q s!"s"
theorem zlS {kvs:List (κ×V)} {k:κ} (h:zE kvs k=some v):k∈kvs.map (·.1):=by
 have q:(kvs.any fun kv=>decide (kv.1=k))=true:=by
  rw [yi,h]
  all_goals rfl
 obtain ⟨p,hp,e⟩:=List.any_eq_true.mp q;exact List.mem_map.mpr ⟨p,hp,of_decide_eq_true e⟩
theorem zgM:∀{l:List κ} {k:κ},l.Nodup->¬k∈l->(l++[k]).Nodup
 | [],k,_,_=>by simp
 | a::r,k,h,hk=>by
  obtain ⟨h1,h2⟩:=List.nodup_cons.mp h;show (a::(r++[k])).Nodup;refine List.nodup_cons.mpr ⟨fun m=>?_,zgM h2 fun m=>hk (List.mem_cons.mpr (Or.inr m))⟩
  rcases List.mem_append.mp m with q | q
  ·exact h1 q
  ·exact hk (List.mem_cons.mpr (Or.inl (List.mem_singleton.mp q).symm))
theorem zlT {kvs:List (κ×V)} {k:κ} (v:V) (hn:(kvs.map (·.1)).Nodup) (h:zE kvs k=none):(s!"BH".map (·.1)).Nodup:=by
 rw [zjh v h,List.map_append];exact zgM hn (ze5 h)
theorem zdf {p:κ×V} {r:List (κ×V)} {k:κ} (e:p.1=k):zQ (p::r) k=zQ r k:=by
 unfold zQ;rw [List.filter_cons,if_neg (by simp [e])]
theorem zdg {p:κ×V} {r:List (κ×V)} {k:κ} (e:¬p.1=k):zQ (p::r) k=p::zQ r k:=by
 unfold zQ;rw [List.filter_cons,if_pos (by simp [e])]
theorem zdh {kvs:List (κ×V)} {k:κ} {p:κ×V} (h:p∈zQ kvs k):p∈kvs:=(List.mem_filter.mp h).1
theorem zcg:∀{kvs:List (κ×V)} {k:κ},(kvs.map (·.1)).Nodup->(s!"CQ".map (·.1)).Nodup
 | [],_,_=>List.nodup_nil
 | p::r,k,h=>by
  have h:(p.1::r.map (·.1)).Nodup:=h
  obtain ⟨h1,h2⟩:=List.nodup_cons.mp h
  by_cases e:p.1=k
  ·rw [zdf e];exact zcg h2
  ·rw [zdg e];show (p.1::(zQ r k).map (·.1)).Nodup
   refine List.nodup_cons.mpr ⟨fun m=>h1 ?_,zcg h2⟩
   obtain ⟨q,hq,eq⟩:=List.mem_map.mp m;exact List.mem_map.mpr ⟨q,zdh hq,eq⟩
end
structure VKind (prog:Program) (w:World) (K:Type) [DecidableEq K] where
 is:Heap->K->Value->Prop
 hash:K->Int
 draws:K->Nat
 deep:Nat
 like:K->K->Prop
 inj:∀{h:Heap} {v:Value} {x y:K},is h x v->is h y v->x=y
 keeps:∀{h h':Heap} {k:K} {v:Value} {d:Addr} {o:Obj} {es ep},is h k v->h.get? d=some o->o.data=.dict es ep->Heap.SameBut d h h'->is h' k v
 pyHash:∀{A:Around} {E:Value->Shared->Prop} {s:Shared} {k:K} {v:Value} {Q:Int->Shared->Prop},A.units+deep<cLine->is s.heap k v->Q (hash k) { s with toks:=s.toks+draws k }->wpAny s!"1" A (PySem.pyHash v) Q E s
 eqBool:∀{A:Around} {E:Value->Shared->Prop} {s:Shared} {x y:K} {u v:Value} {Q:Bool->Shared->Prop},A.units+deep<cLine->like x y->is s.heap x u->is s.heap y v->Q (decide (x=y)) s->wpAny s!"1" A (PySem.eqBool u v) Q E s
 quiet:∀{A:Around} {E:Value->Shared->Prop} {s:Shared} {k:K} {v:Value} {n:Nat} {Q:Bool->Shared->Prop},deep<=n->is s.heap k v->Q true s->wpAny s!"1" A (eqIsQuiet n v) Q E s
section
variable {prog:Program} {w:World} {K:Type} [DecidableEq K] (knd:VKind prog w K)
end
abbrev zqJ:=Int×Int×List (Int×Int)
section
variable (P:Program) (w:World)
end
section
variable (P:Program) (w:World)
end
section
variable {xs:List (zqJ×Addr×Value)}
end
section
variable {o i:Expr}
end
section
variable {Q:VK}
theorem zjk.Qz (h:∀p H',Same H H'->H p=none->H' p=some (.dK [])->Q s!"]" H'):zjk σ H Q:=fun p hp=>h p _ s!"BF" hp ze
def zp9 (n:Bool) (y x:V) (H:Hp) (Q:VK):Prop:=∃a o,x=.ref a/\wF H a y o/\Q s!"!{(if n then !o.isSome else o.isSome)}" H
theorem zgL.Qa (h:ty σ H fun y H1=>td σ H1 fun x H2=>zp9 true y x H2 Q):zgL ty td σ H Q:=h
def zmV (v x y:V) (σ:St) (H:Hp) (D:Ends):Prop:=∃a H4,x=.ref a/\zhE H a y v H4/\D.nx σ H4
theorem zmU.Qa (h:tv σ H fun v H1=>td σ H1 fun x H2=>ty σ H2 fun y H3=>zmV v x y σ H3 D):zmU td ty tv D σ H:=h
def zmW (x y:V) (H:Hp) (Q:VK):Prop:=∃a v,x=.ref a/\wF H a y s!"A0"/\Q v H
theorem zmT.Qa (h:td σ H fun x H1=>ty σ H1 fun y H2=>zmW x y H2 Q):zmT td ty σ H Q:=h
end
section
variable {Q:VK}
end
def zd9 (wi:TI) (nm:List Str) (fr:List Nat) (g:TG) (te:TE):TE:=fun σ H Q=>wi σ H fun J H1=>zd4 g te ((nm.map fun _=>none)++yl fr σ) J H1 Q
section
variable {Q:VK}
end
def zmX:List V->Hp->VK->Prop:=fun xs H Q=>∃i j:Int,xs=[.int i,.int j]/\Q s!"2{(if j<i then j else i)}" H
theorem call_minI (hc:X.calm=true):zN X s!"A%{"min"}" zmX:=zhl hc
theorem zmX.Qy {Q:VK} {i j:Int} (h:∀z:Int,z=min i j->Q s!"2{z}" H):zmX [.int i,.int j] H Q:=⟨i,j,rfl,h _ (by split <;> omega)⟩
variable {te:TE}
section
variable {st:Expr} {ts:TO} {p2:Pos}
end
section
variable {Q:VK}
end
variable {d:Addr} {ep:Nat}
theorem zhK {Q:Bool->Shared->Prop} (hT:s.TypeIs s!"BI" "dict") (h:Q false s):wpAny s!"1" A (Builtin.List.listLengthHint s!"BI") Q E s:=by
 unfold Builtin.List.listLengthHint;refine wpAny_bind (wpAny_specialOf hT F.slot_dict_len.lookup ?_);generalize hid:("dict.__len__":String)=id0
 wp_delta
 rw [show splitId id0=some ("dict","__len__") from by subst hid;decide+kernel]
 subst hid;refine wpAny_bind (wpAny_isInstance (T:="dict") (b:=true) hT (by rw [isSubtype_type];kernel_rfl) ?_)
 refine wpAny_ite_split (fun hab=>absurd hab s!"d") (fun _=>?_)
 refine wpAny_ite_split (fun _=>?_) (fun hab=>absurd s!"f" hab)
 refine wpAny_bind s!"GI";exact wpAny_pure h
theorem ze6 {K:Type} [DecidableEq K] {knd:KeyKind prog w K} {R:Result->Shared->Prop} {kvs:List (K×Value)} (hh:A.handled=none) (hs:(d==sysModules)=false) (hm:s.heap.DictAt knd d kvs ep)
 (hlen:kvs.length<=sizeLine) (S:Addr) (res:Value) (c₀:Nat) (hS:s.heap.get? S=some { cls:=.type "list",data:=.seq #[] c₀ })
 (hR:∀h' tk acc' c',(∀b o,b≠S->s.heap.get? b=some o->h'.get? b=some o)->h'.get? S=some { cls:=.type "list",dict:=none,data:=.seq acc' c',slots:=#[] }->
  ItemsOf (fun i v=>∃k x,kvs[i]? =some (k,x)/\knd.is k v=true) acc' kvs.length->R (.ok (.ret res)) { s with heap:=h',toks:=tk }):
 wpAny s!"1" A.in1 (Builtin.List.listExtendWith s!"k{S}" s!"BI" res)
  (fun fin s'=>match fin with | .done f=>R (.ok f) s' | .again c'=>c'.quiet=true/\codeAny s!"1" A c' R s') (fun e s'=>R (.error e) s') s:=by
 have hT:s.TypeIs s!"BI" "dict":=hm.dictOf.typeIs;have hSd:S≠d:=fun e=>by
  obtain ⟨o,h1,h2⟩:=hT;rw [<-e,hS] at h1;cases h1;exact absurd h2 (by show ¬Value.type "list"=Value.type "dict";decide)
 have hSlt:S<s.heap.objs.size:=Heap.lt_size hS;have hSI:S≠s.heap.objs.size:=Nat.ne_of_lt hSlt;have hdlt:d<s.heap.objs.size:=by
  obtain ⟨o,h1,_⟩:=hT;exact Heap.lt_size h1
 have hdI:d≠s.heap.objs.size:=Nat.ne_of_lt hdlt;have hSf:S∉[s.heap.objs.size,d]:=fun hm=>by
  rcases List.mem_cons.mp hm with e | e
  ·exact hSI e
  ·exact hSd (List.mem_singleton.mp e)
 have W:=(Walks.dictKeys (prog:=prog) (w:=w) (knd:=knd) (A:=A.in1) hh s.heap.objs.size d hdI kvs ep).toS;have key:∀(h:Heap) (c₁ tk:Nat),h.IsKeyIter s.heap.objs.size d 0 kvs.length ep/\h.DictAt knd d kvs ep->(∀b o,b≠S->s.heap.get? b=some o->h.get? b=some o)->
  h.get? S=some { cls:=.type "list",data:=.seq #[] c₁ }->codeAny s!"1" A (.builtin "list.extend.loop" ⟨[.ref S,.ref s.heap.objs.size,res],[]⟩) R { s with heap:=h,toks:=tk }:=by
  intro h c₁ tk hit hk hS₁;refine codeAny_extend_loopS W hlen S hSf res kvs.length 0 _ #[] c₁ rfl (Nat.zero_le _) hit hS₁ (ItemsOf.nil _) fun s' acc' c' hm hS' hacc=>?_
  rw [Moved.eq_with hm];refine hR s'.heap s'.toks acc' c' (fun b o hb e=>hm.heap b o (fun hmem=>?_) (hk b o hb e)) hS' hacc
  rcases List.mem_cons.mp hmem with e' | hmem
  ·exact hb e'
  ·exact absurd s!"A/" (by rw [List.mem_singleton.mp hmem];exact Nat.lt_irrefl _)
 unfold Builtin.List.listExtendWith;refine wpAny_bind s!"GI";have h1:Builtin.List.listSameRef s!"k{S}" s!"BI"=false:=by simp [Builtin.List.listSameRef,hSd]
 have h2:(Value.type "dict"==Value.type "list")=false:=by decide
 have h3:(Value.type "dict"==Value.type "tuple")=false:=by decide
 simp only [h1,h2,h3,Bool.or_false,Bool.false_eq_true,if_false];refine wpAny_bind (wpAny_pyIter_dict hs hm ?_);have hT1:Shared.TypeIs { s with heap:=s.heap.push { cls:=.type "dict_keyiterator",data:=.fields #[.ref d,.int 0 0,.int kvs.length 0,.int ep 0] } } s!"BI" "dict":=by
  obtain ⟨o,a,b⟩:=hT;exact ⟨o,Heap.get?_push_of_some _ a,b⟩
 refine wpAny_bind s!"B_{zhK hT1 ?_}";have hS₁:=Heap.get?_push_of_some { cls:=.type "dict_keyiterator",data:=.fields #[.ref d,.int 0 0,.int kvs.length 0,.int ep 0] } hS;refine wpAny_ite_split (fun _=>?_) (fun hab=>absurd s!"f" hab)
 refine wpAny_bind (wpAny_rule ?_);refine wpAny_bind ?_;show wpAny _ _ (updateSeq S (·.push .none) >>=fun _=>updateSeq S (·.pop)) _ _ _
 refine wpAny_bind (wpAny_updateSeq hS₁ rfl ?_);have hS₂:=Heap.get?_update_self (Obj.mapSeq (·.push Value.none)) hS₁ rfl
 refine wpAny_updateSeq (hz:=by seq_fits) hS₂ rfl ?_
 have hS₃:=Heap.get?_update_self (Obj.mapSeq (·.pop)) hS₂ rfl
 have oth:∀b o,b≠S->(s.heap.push { cls:=.type "dict_keyiterator",data:=.fields #[.ref d,.int 0 0,.int kvs.length 0,.int ep 0] }).get? b=some o->(((s.heap.push { cls:=.type "dict_keyiterator",data:=.fields #[.ref d,.int 0 0,.int kvs.length 0,.int ep 0] }).update S (Obj.mapSeq (·.push Value.none))).update S (Obj.mapSeq (·.pop))).get? b=some o:=
  fun b o hb e=>(Heap.get?_update_other _ _ s!"AL{hb}").trans ((Heap.get?_update_other _ _ s!"AL{hb}").trans e)
 refine wpAny_pure ⟨plainId_quiet F.plain_extend_loop _,key _ _ _ ⟨?_,?_⟩ (fun b o hb e=>?_) hS₃⟩
 ·exact ⟨_,oth _ _ s!"AL{hSI}" s!"B#",rfl,rfl⟩
 ·exact hm.at' fun o e=>oth _ _ s!"AL{hSd}" s!"AU"
 ·exact oth b o hb s!"AU"
theorem zea {K:Type} [DecidableEq K] {knd:KeyKind prog w K} {kvs:List (K×Value)} {Q:List Value->Shared->Prop} (hh:A.handled=none) (hs:(d==sysModules)=false) (hm:s.heap.DictAt knd d kvs ep) (hlen:kvs.length<=sizeLine)
 (h:∀h' tk (vs:List Value),s.heap.objs.size<h'.objs.size->(∀b o,s.heap.get? b=some o->h'.get? b=some o)->vs.length=kvs.length->(∀(i:Nat) v,vs[i]? =some v->∃k x,kvs[i]? =some (k,x)/\knd.is k v=true)->Q vs { s with heap:=h',toks:=tk }):
 wpAny s!"1" A (collect s!"BI") Q E s:=by
 refine wpAny_bind (wpAny_runValue (codeAny_builtinAt F.entry_proto_collect s!"Fa"));refine wpAny_bind s!"GJ";refine wpAny_pure ⟨Code.quiet_builtin _ s!"f",?_⟩
 refine codeAny_builtinAt F.entry_list_iadd s!"Fa";rw [zf2];refine wpAny_bind (wpAny_pure (a:=(Value.ref s.heap.objs.size,[Value.ref d])) ?_);refine ze6 (A:=A) (R:=fun r s'=>match r with | .ok (.ret v)=>wpAny s!"1" A (match v with | .ref a=>(do let o <-load a;match o.data with | .seq xs _=>pure xs.toList | _=>unsupported "internal:collect") | _=>unsupported "internal:collect") Q E s' | .ok _=>False | .error e=>E e s') (s:={ s with heap:=s.heap.push { cls:=.type "list",data:=.seq #[] } }) hh hs (hm.push _) hlen s.heap.objs.size s!"Ci" 0 s!"B#" fun h' tk acc c' hk hS' hacc=>?_
 refine wpAny_bind (wpAny_load hS' ?_);refine wpAny_pure (h h' tk acc.toList s!"AI{hS'}" (fun b o e=>hk b o s!"AmA/" s!"AU") (by rw [Array.length_toList];exact hacc.1) fun i v hv=>hacc.2 i v (by simpa using hv))
section
variable {Q:VK}
end
variable {l:Addr} {oe:Obj}
section
variable {it:Addr}
theorem zcI:entryFor table "proto.unchain"=some Builtin.«proto.unchain»:=entryFor_of_fast s!","
def za4 (A:Around) (a:Addr) (oe:Obj) (h:Heap):Prop:=A.handled=some s!"h"/\h.get? a=some oe/\∃vs,oe.data=.fields vs/\vs[2]? =some .none
theorem zeb {v:Value} {tg:Bool} (hb:za4 A a oe s.heap) (k:Q .none s):wpAny s!"1" A (runValue (.builtin "proto.unchain" ⟨[v,.ref a,.ref a,.bool tg],[]⟩)) Q E s:=by
 obtain ⟨_,ha,vs,hd,v2⟩:=hb;refine wpAny_runValue (codeAny_builtinAt zcI s!"Fa");refine wpAny_bind s!"AA{ha}{hd}{v2}{?_}";rw [if_pos (by rfl)]
 exact wpAny_pure k
theorem zcJ {α:Type} {Q:α->Shared->Prop} {e:Addr} {o:Obj} {ws:Array Value} (hb:za4 A a oe s.heap) (hne:e≠a) (he:s.heap.get? e=some o) (hw:o.data=.fields ws) (hz:2<ws.size) (k:E s!"Aj" { s with heap:=s.heap.update e (Obj.mapFields (·.setIfInBounds 2 s!"h")) }):
 wpAny s!"1" A (raiseNew s!"Aj":Sem α) Q E s:=by
 unfold raiseNew;refine wpAny_bind (wpAny_handled ?_);rw [hb.1];show wpAny _ _ (if (Value.ref a !=Value.ref e)=true then _ else _) _ _ _
 rw [if_pos (by simp;exact fun z=>hne z.symm)]
 refine wpAny_bind s!"B_{zeb hb ?_}";refine wpAny_bind ?_;unfold updateField;refine wpAny_bind (wpAny_load he ?_);rw [hw];show wpAny _ _ (if 2<ws.size then _ else _) _ _ _
 rw [if_pos hz];refine wpAny_update he ?_;exact wpAny_throw k
theorem za4.ext (x:za4 A a oe h) (k:h'.get? a=some oe):za4 A a oe h':=⟨x.1,k,x.2.2⟩
end
def zjs (K:PySem.W.Frag):V->List V->Hp->VK->Prop:=fun x vs H Q=>∃(sep:Str) (l:Addr) (ws:List Str),x=.str sep/\vs=[.ref l]/\SqL K H l s!"CS"/\JoinOk sep ws=true/\Q s!"zFI" H
theorem zgN:∀{ws:List Str} {us:List Value},zl s!"CS" us->∃l:List (Str×Tok),us=strValues l/\l.map (·.1)=ws
 | [],us,r=>by
  cases r;exact ⟨[],rfl,rfl⟩
 | x::xs,us,r=>by
  cases r with
  | cons r1 r2=>
   obtain ⟨t,rfl⟩:=r1;obtain ⟨l,rfl,e⟩:=zgN r2;exact ⟨(x,t)::l,rfl,by rw [List.map_cons,e]⟩
theorem zar:MtR X "str.join" (zjs X.K):=by
 intro pins s σ H x vs v us Q I rx rv h;obtain ⟨sep,l,ws,rfl,rfl,hq,hok,q⟩:=h;obtain ⟨t,rfl⟩:=rx;obtain ⟨u,rfl,ru⟩:=rv.one;cases ru;obtain ⟨its,r,p,hz⟩:=I.list hq;obtain ⟨l',rfl,e⟩:=zgN r;exact SC.join p.isList e hok fun t' k=>⟨.str _,H,I.tok k,⟨_,rfl⟩,q⟩
section
variable {Q:VK}
theorem xN {sep:Str} (ws:List Str) (h1:SqL K H l s!"CS") (h2:JoinOk sep ws=true) (h:Q s!"zFI" H):zjs K s!"z{sep}" [.ref l] H Q:=⟨sep,l,ws,rfl,rfl,h1,h2,h⟩
theorem zf3 {xs:List V} (ys:List V) (h1:SqT K H a xs) (hlen:ys.length=xs.length) (hz:xs.length<=1000) (he:∀(i:Nat) x y H' (Q':VK),xs[i]? =some x->ys[i]? =some y->Same H H'->(∀H2,Same H' H2->Q' y H2)->te [some x] H' Q') (h:∀D H',Same H H'->H D=none->H' D=some s!"Ax"->Q s!";" H'):zi6 K te s!"h" H Q:=by
 refine ⟨a,rfl,⟨xs,h1⟩,fun D hD=>⟨fun i m zs H'=>m=xs.length-i/\i<=xs.length/\zs=ys.take i/\Same H H'/\H' D=some s!"Bm",⟨xs.length,by simp,Nat.zero_le _,by simp,Same.new hD _,ze⟩,?_⟩⟩
 rintro i m zs H' ⟨rfl,hi,rfl,hs,eD⟩;refine ⟨eD,?_⟩;have q:=hs.tup h1
 by_cases hlt:i<xs.length
 ·refine .inr ⟨⟨xs,xs[i],q,by simp [hlt]⟩,?_,fun x H2 y=>?_⟩
  ·rw [List.length_take];exact zk s!"c"
  ·obtain ⟨e,y⟩:=y;subst e;have hx:=y xs q;obtain ⟨z,hz'⟩:∃z,ys[i]? =some z:=⟨_,List.getElem?_eq_getElem s!"c"⟩
   refine he i x z _ _ hx hz' hs fun H2 s2=>⟨s2.obj eD,xs.length-(i+1),by omega,rfl,hlt,?_,s!"Cm".upd hD,ze⟩
   rw [List.take_add_one,hz'];rfl
 ·have e:i=xs.length:=by omega
  subst e;refine .inl ⟨⟨xs,q,Nat.le_refl _⟩,h D H' hs hD ?_⟩;rw [<-hlen,List.take_length] at eD;exact eD
end
def zjt:R2:=fun x y H Q=>∃i j,x=.str i/\y=.str j/\i.length+j.length<=sizeLine/\Q s!"z{(i++j)}" H
theorem zg:OpR X s!"BB" zjt:=zfP
section
variable {Q:VK}
theorem zlX {i j:Str} (hz:i.length+j.length<=sizeLine) (h:Q s!"z{(i++j)}" H):zjt s!"A2" s!"A@" H Q:=⟨i,j,rfl,rfl,hz,h⟩
end
end L2
namespace L2
open PySem PySem.Spec PyProof.Rows PySem.W
abbrev bmV:List Value:=[.type "ValueError",.type "Exception",.type "BaseException",.type "object"]
variable {mN:Str->Option Value} {us:List Value} {fI:Addr} {oI:Obj} {s:Shared} {env:Env} {Q:Flow->Shared->Prop}
section
variable {prog:Program} {w:World} {A:Around} {E:Value->Shared->Prop} {hp:Heap} {gn:Array GenState} {dr:Drawn} {tk:Nat} {oS:OsState}
variable {nm qn:Str} {C N:Addr} {bs tl bmB:List Value} {hd0:Bool} {sn:List Str} {sb:List Value} {ab:Bool} {col:Option Bool} {dd:Option Addr} {k0 k1 k2 k3 k5:Option Value} {B nI iI:String}
theorem zcK (F:ExcBaseFacts B nI iI bmB) (T:OwnTail hp bmB tl) {Q:PySem.Fin->Shared->Prop}
 (cC:hp.get? C=some s!"Fb") (cN:hp.Ns N mN) (cI:mN "__init__"=some s!"CT") (oF:hp.get? fI=some oI) (tF:oI.cls=.type "function")
 (go:∀h1 e,Heap.MadeExcOf hp h1 e s!"o" us->wpAny s!"1" A (call s!"CT" (.ref e::us)) (fun r s1=>r=.none/\Q (.done (.ret s!"Aj")) s1) E ⟨h1,gn,dr,tk,oS⟩) (hz:us.length<=sizeLine):
 wpAny s!"1" A (Builtin.«type.__call__» ⟨.ref C::us,[]⟩) Q E ⟨hp,gn,dr,tk,oS⟩:=by
 repeat (first | (with_reducible refine wpAny_loadPart_at cC ?_) | (with_reducible refine wpAny_madeBy_exc cC ?_) | walk_at "wp")
 refine codeAny_call_builtin_code (Code.quiet_builtin _ F.quiet) (wpAny_check_new_subT F T cC (codeAny_exc_new_subT F T cC ?_ hz));show wpAny _ _ _ _ _ _;let ot:Obj:={ cls:=.type "tuple",data:=.seq us.toArray }
 let ox:Obj:={ cls:=.ref C,data:=.fields #[.ref hp.objs.size,.none,.none,.none,.bool false,.none] }
 have up:∀b o,hp.get? b=some o->((hp.push ot).push ox).get? b=some o:=fun b o q=>Heap.get?_push_of_some _ s!"EI"
 have c1:=up _ _ cC;have n1:=cN.keeps up;have T1:=T.keeps up;have g1:((hp.push ot).push ox).get? (hp.objs.size+1)=some ox:=by heap_get
 have m1:(Value.ref C::tl).contains s!"o"=true:=by simp
 unfold isInstance
 repeat (first | (with_reducible refine wpAny_loadPart_at g1 ?_) | (with_reducible refine wpAny_isSubtype_exc c1 ?_;rw [m1]) | walk_at "wp")
 show wpAny _ _ (typeLookup s!"o" _) _ _ _;refine wpAny_typeLookup_tail c1 n1 T1 F.mroIs F.init.lookup ?_;rw [cI];refine wpAny_holding s!"E_";unfold bindSpecial;refine wpAny_bind (wpAny_typeOf (T:="function") ⟨_,up _ _ oF,tF⟩ ?_);rw [if_pos s!"d"]
 refine wpAny_pure s!"4{(wpAny_mono (go _ (hp.objs.size+1) ⟨up,Heap.get?_none_of_le (Nat.le_succ _),hp.objs.size,g1,Heap.get?_none_of_le s!"+",?_⟩) (fun r s1 hr=>?_) fun _ _ z=>z)}"
 ·exact Heap.get?_push_of_some _ s!"GK"
 ·obtain ⟨rfl,q⟩:=hr
  repeat walk_at "wp"
  exact q
theorem zju (F:ExcBaseFacts B nI iI bmB) (T:OwnTail hp bmB tl) {Q:Value->Shared->Prop}
 (cC:hp.get? C=some s!"Fb") (cN:hp.Ns N mN) (cI:mN "__init__"=some s!"CT") (oF:hp.get? fI=some oI) (tF:oI.cls=.type "function")
 (go:∀h1 e,Heap.MadeExcOf hp h1 e s!"o" us->wpAny s!"1" (A.under (.builtin "type.__call__" ⟨.ref C::us,[]⟩)) (call s!"CT" (.ref e::us)) (fun r s1=>r=.none/\Q s!"Aj" s1) E ⟨h1,gn,dr,tk,oS⟩) (hz:us.length<=sizeLine):
 wpAny s!"1" A s!"G9" Q E ⟨hp,gn,dr,tk,oS⟩:=by
 have y1:=tc_lookup;have y2:=tc_bind s!"o";have y3:(⟨hp,gn,dr,tk,oS⟩:Shared).TypeIs s!"o" "type":=⟨_,cC,rfl⟩;refine wpAny_call (codeAny_of_tree ?_);show wpAny _ _ (callAny s!"o" _) _ _ _
 repeat (any_goals (first | assumption | (with_reducible refine wpAny_loadPart_at cC ?_) | wp_step))
 exact ⟨rfl,codeAny_call_builtin_at (Code.quiet_builtin _ s!"f") entry_typeCall (wpAny_check_type_call_sub cC (zcK F T cC cN cI oF tF go hz))⟩
theorem zcL {M:Model} {x:Sem Value} (hb:tl.contains s!"AC"=true) (hh:A.handled=none)
 (go:wpAny M A x (fun v s1=>∃e t dx,v=.ref e/\s1.heap.get? C=some (excClassObj nm qn C N bs tl hd0 sn sb ab col dd k0 k1 k2 k3 k5 nI)/\
  s1.heap.get? e=some { cls:=.ref C,dict:=some dx,data:=.fields #[.ref t,.none,.none,.none,.bool false,.none] }/\E (.ref e) s1) E s):wpAny M A (raiseStmt env (some x) none) Q E s:=by
 have m1:(Value.ref C::tl).contains s!"AC"=true:=by rw [List.contains_cons,hb,Bool.or_true]
 unfold raiseStmt;refine wpAny_bind (wpAny_mono go (fun v s1 q=>?_) fun _ _ z=>z)
 obtain ⟨e,t,dx,rfl,cC,oE,q⟩:=q;obtain ⟨h1,g1,d1,t1,o1⟩:=s1
 repeat (first | (with_reducible refine wpAny_loadPart_at oE ?_) | (with_reducible refine wpAny_loadPart_at cC ?_) | (with_reducible refine wpAny_isSubtype_exc cC ?_;rw [m1]) | walk_at "wp")
 exact wpAny_raiseNew_none hh q
theorem zhL (F:ExcBaseFacts B nI iI bmB) {mN:Str->Option Value} {x:Str} {np cpos pos:Pos} {args:List Expr} {oI:Obj} (hb:tl.contains s!"AC"=true) (hh:A.handled=none)
 (hpl:(backTo cpos (starEach args env)).any (·.1)=false) (cI:mN "__init__"=some s!"CT") (tF:oI.cls=.type "function")
 (go:wpAny (model prog w) A (eval (.Name x np) env) (fun f s1=>f=.ref C/\wpAny (model prog w) A (evalArgs (.ref C) true (backTo cpos (starEach args env)) [])
  (fun a s2=>a.kw=[]/\a.pos.length<=sizeLine/\s2.heap.get? C=some (excClassObj nm qn C N bs tl hd0 sn sb ab col dd k0 k1 k2 k3 k5 nI)/\s2.heap.Ns N mN/\OwnTail s2.heap bmB tl/\s2.heap.get? fI=some oI/\
   ∀h1 e,Heap.MadeExcOf s2.heap h1 e (.ref C) a.pos->wpAny (model prog w) (A.under (.builtin "type.__call__" ⟨.ref C::a.pos,[]⟩)) (call (.ref fI) (.ref e::a.pos)) (fun r s3=>r=.none/\
    s3.heap.get? C=some (excClassObj nm qn C N bs tl hd0 sn sb ab col dd k0 k1 k2 k3 k5 nI)/\(∃t dx,s3.heap.get? e=some { cls:=.ref C,dict:=some dx,data:=.fields #[.ref t,.none,.none,.none,.bool false,.none] })/\E (.ref e) s3) E { s2 with heap:=h1 }) E s1) E s):
 wpAny s!"1" A (exec (.Raise s!"n{.Call (.Name x np) args [] cpos}" none pos) env) Q E s:=by
 rw [arm_exec_Raise];simp only [evalOpt,Option.map];refine wpAny_bind s!"Dx{(zcL (C:=C) (nm:=nm) (qn:=qn) (N:=N) (bs:=bs) (tl:=tl) (hd0:=hd0) (sn:=sn) (sb:=sb) (ab:=ab) (col:=col) (dd:=dd) (k0:=k0) (k1:=k1) (k2:=k2) (k3:=k3) (k5:=k5) (nI:=nI) hb hh ?_)}";refine wpAny_bind (wpAny_mono (wpAny_Call_ofName (wpAny_mono go (fun f s1 q1=>?_) fun _ _ z=>z)) (fun v s3 q3=>wpAny_bind s!"DxAl{q3}") fun _ _ z=>z)
 obtain ⟨rfl,q1⟩:=q1;unfold callWith;refine wpAny_bind s!"B_{(wpAny_mono q1 (fun a s2 q2=>wpAny_bind s!"Fc") fun _ _ z=>z)}"
 obtain ⟨ap,ak⟩:=a;obtain ⟨z0,z1,cC,cN,T,oF,q2⟩:=q2;obtain rfl:ak=[]:=z0;obtain ⟨h2,g2,d2,t2,o2⟩:=s2;simp only [hpl];refine wpAny_bind (wpAny_keeperOf_exc cC ?_);refine wpAny_bind (zju F T cC cN cI oF tF (fun h1 e hm=>?_) z1)
 refine wpAny_mono (q2 h1 e hm) (fun r s3 q3=>?_) fun _ _ z=>z
 obtain ⟨rfl,c3,⟨t3,d3,e3⟩,q3⟩:=q3;exact ⟨rfl,wpAny_bind s!"B_{wpAny_point s!"Al{⟨e,t3,d3,rfl,c3,e3,q3⟩}"}"⟩
end
end L2
namespace L2
open PySem PySem.Spec PyProof.Rows PySem.W Builtin Builtin.ObjectAttr
variable {prog:Program} {w:World} {A:Around} {E:Value->Shared->Prop}
section
variable {hp:Heap} {gn:Array GenState} {dr:Drawn} {tk:Nat} {oS:OsState}
variable {nm qn:Str} {C N:Addr} {bs tl bmB:List Value} {hd0:Bool} {sn:List Str} {sb:List Value} {ab:Bool} {col:Option Bool} {dd:Option Addr} {k0 k1 k2 k3 k5:Option Value} {B nI iI:String}
theorem zjv (F:ExcBaseFacts B nI iI bmB) (T:OwnTail hp bmB tl) {us:List Value} {e t:Addr} {Q:Value->Shared->Prop} (cC:hp.get? C=some s!"Fb")
 (oE:hp.get? e=some { cls:=.ref C,data:=.fields #[.ref t,.none,.none,.none,.bool false,.none] }) (hz:us.length<=sizeLine)
 (go:∀h1 t1,(∀b o,b≠e->hp.get? b=some o->h1.get? b=some o)->h1.get? e=some { cls:=.ref C,data:=.fields #[.ref t1,.none,.none,.none,.bool false,.none] }->Q .none ⟨h1,gn,dr,tk,oS⟩):
 wpAny s!"1" A (call s!"A%{iI}" (.ref e::us)) Q E ⟨hp,gn,dr,tk,oS⟩:=by
 refine wpAny_call (codeAny_call_builtin F.init.plain F.initEntry (wpAny_check_init_subT F T cC oE rfl ?_))
 repeat walk_at "wp"
 refine go _ hp.objs.size (fun b o ne q=>?_) ?_
 ·rw [Heap.get?_update_other _ _ s!"AL{ne}"];exact Heap.get?_push_of_some _ q
 ·rw [Heap.get?_update_self _ s!"A({oE}" rfl];rfl
end
def zbt:List Value->Bool
 | .ref _::r=>zbt r
 | l=>l==bmV
variable {v:Value}
theorem overV_cons {r:List Value} (h:zbt (v::r)=true):(∃c,v=.ref c/\zbt r=true)\/v::r=bmV:=by
 unfold zbt at h;split at h
 ·rename_i q;cases q;exact .inl ⟨_,rfl,h⟩
 ·exact .inr (beq_iff_eq.mp h)
theorem zas (self:Value):∀{l:List Value},zbt l=true->refuseLoop self "__setattr__" l=pure ()
 | [],e=>by cases e
 | v::r,e=>by
  rcases overV_cons e with ⟨c,rfl,q⟩ | q
  ·rw [refuseLoop_ref];exact zas self q
  ·rw [q];exact PySem.F.store_ValueError.passes self
theorem zdi:∀{l:List Value},zbt l=true->l.contains s!"BC"=true
 | [],e=>by cases e
 | v::r,e=>by
  rcases overV_cons e with ⟨c,rfl,q⟩ | q
  ·rw [List.contains_cons,zdi q,Bool.or_true]
  ·rw [q];decide
structure IniK (K:PySem.W.Frag) (C:Addr) (fld:Str):Prop where
 sa:findIn K s!"o" "__setattr__"=some s!"CA"
 nf:findIn K s!"o" fld=some none
 ov:s!"D~".any (fun cd=>zbt cd.mro && cd.hasDict)=true
section
variable {s:Shared} {K:PySem.W.Frag} {e C t:Addr} {fld:Str}
theorem zhM {Q:Unit->Shared->Prop} (X:K.In s.heap) (Z:IniK K C fld) (oE:s.heap.get? e=some { cls:=.ref C,data:=.fields #[.ref t,.none,.none,.none,.bool false,.none] })
 (go:∀h1 d tk',s.heap.get? d=none->h1.Ns1 d (fun y=>if y=fld then some v else none)->h1.get? e=some { cls:=.ref C,dict:=some d,data:=.fields #[.ref t,.none,.none,.none,.bool false,.none] }->(∀b o,b≠e->s.heap.get? b=some o->h1.get? b=some o)->Q () { s with heap:=h1,toks:=tk' }):
 wpAny s!"1" A (setAttr s!"Aj" fld v) Q E s:=by
 have I:InstAt s.heap e { cls:=.ref C,data:=.fields #[.ref t,.none,.none,.none,.bool false,.none] } C none:=⟨oE,rfl,rfl,trivial⟩;refine set_plain X I Z.sa ?_;have SF:=PySem.F.store_object;obtain ⟨cd,hc,hb⟩:=any_some Z.ov;obtain ⟨h1,h2⟩:=Bool.and_eq_true_iff.mp hb;have ne:cd.mro.isEmpty=false:=by
  cases q:cd.mro with
  | nil=>rw [q] at h1;cases h1
  | cons _ _=>rfl
 have sub:Looks s!"1" s.heap (isInstance s!"Aj" s!"BC") true:=I.type.andThen (looks_mroIn X (by unfold mroIn;rw [hc,Option.bind_some,if_neg (by rw [ne];decide),zdi h1]))
 have hm:Looks s!"1" s.heap (mroOf s!"o") cd.mro:=(looks_clsIn X hc).andThen .now;refine codeAny_call_builtin SF.slot.plain SF.entry (@check_slot s!"1" _ _ { s with toks:=s.toks+1 } "object.__setattr__" "object" "__setattr__" s!"Aj" [.str fld s.toks,v] [] _ SF.kind SF.split sub (SF.args s!"Aj" s!"GL" v) ?_)
 rw [osa_eq,refuse_eq];refine wpAny_bind s!"4{I.type _ _ _ _ (fun _ _ q=>q) s!"4{hm _ _ _ _ (fun _ _ q=>q) ?_}"}"
 rw [zas _ h1];refine wpAny_pure s!"4{I.type _ _ _ _ (fun _ _ q=>q) s!"4{looks_findIn X Z.nf _ _ _ _ (fun _ _ q=>q) s!"E)"}"}"
 show wpAny _ _ (storeInOwnDict s!"Aj" s!"o" s!"GL" fld v _) _ _ _;unfold storeInOwnDict ownDictForStores instanceDict;refine wpAny_bind s!"AS";refine wpAny_bind s!"4{wpAny_loadPart oE s!"4{looks_clsIn X hc _ _ _ _ (fun _ _ q=>q) ?_}"}"
 obtain ⟨hh,gg,dd,tt,os⟩:=s;dsimp only at oE go ⊢;rw [h2];have x1:(hh.push { cls:=.type "dict",data:=.dict #[] }).get? e=some { cls:=.ref C,data:=.fields #[.ref t,.none,.none,.none,.bool false,.none] }:=Heap.get?_push_of_some _ oE;have ne2:e≠hh.objs.size:=Nat.ne_of_lt s!"AI{oE}";refine wpAny_bind (wpAny_alloc' s!"4{wpAny_update' x1 s!"AS"}");have g1:((hh.push { cls:=.type "dict",data:=.dict #[] }).update e fun o=>{ o with dict:=some hh.objs.size }).get? hh.objs.size=some { cls:=.type "dict",data:=.dict #[] }:=
  (Heap.get?_update_ne _ _ _ _ ne2.symm).trans s!"GK"
 have n1:((hh.push { cls:=.type "dict",data:=.dict #[] }).update e fun o=>{ o with dict:=some hh.objs.size }).Ns hh.objs.size (fun _=>none):=⟨_,#[],_,g1,rfl,fun y hy=>absurd hy s!"s",fun _=>rfl⟩
 show wpAny _ _ (storeInDict hh.objs.size (.str fld tt) fld v) _ _ _;unfold storeInDict newKeyGuard;refine wpAny_bind s!"Al4{(wpAny_nsSet1 (Heap.Ns1.of_empty n1) fun h3 n3 k3=>?_)}"
 obtain ⟨oD,esD,epD,hoD,hdD,hcD⟩:=n3.count (Within.cons fld v Within.nil);refine wpAny_bind (wpAny_lookBehind hoD (by rw [hdD];exact pastItsLine_dict s!"Bc{hcD}{by rw [List.length_cons,List.length_nil,sizeLine_eq];omega}") ?_)
 refine wpAny_pure ?_;refine go h3 hh.objs.size _ (Heap.get?_none_of_le s!"+") n3 ?_ fun b o nb q=>?_
 ·exact (k3.2 e ne2).trans (Heap.get?_update_self _ x1 rfl)
 ·exact (k3.2 b s!"AmAI{q}").trans ((Heap.get?_update_ne _ _ _ _ nb).trans s!"EI")
end
end L2
namespace L2
open PySem PySem.Spec PyProof.Rows PySem.W
def ExN (C e:Addr):HO:=.ext fun h=>∃t:Addr,h.get? e=some { cls:=.ref C,data:=.fields #[.ref t,.none,.none,.none,.bool false,.none] }
def ExD (C d e:Addr):HO:=.ext fun h=>∃t:Addr,h.get? e=some { cls:=.ref C,dict:=some d,data:=.fields #[.ref t,.none,.none,.none,.bool false,.none] }
variable {H:Hp} {P:Program} {w:World} {h:Heap} {C:Addr}
theorem ExN.ok {e t:Addr} (q:h.get? e=some { cls:=.ref C,data:=.fields #[.ref t,.none,.none,.none,.bool false,.none] }):zq P w H h e (ExN C e):=
 ⟨⟨t,q⟩,⟨_,q⟩,fun _ _ ⟨t',q'⟩ k=>⟨t',k _ q'⟩⟩
theorem ExD.ok {d e t:Addr} (q:h.get? e=some { cls:=.ref C,dict:=some d,data:=.fields #[.ref t,.none,.none,.none,.bool false,.none] }):zq P w H h e (ExD C d e):=
 ⟨⟨t,q⟩,⟨_,q⟩,fun _ _ ⟨t',q'⟩ k=>⟨t',k _ q'⟩⟩
def rem (H:Hp) (a:Addr):Hp:=fun b=>if b=a then none else H b
variable {a:Addr}
theorem zch:rem H a a=none:=by unfold rem;rw [if_pos rfl]
theorem xO {b:Addr} (h:b≠a):rem H a b=H b:=by unfold rem;rw [if_neg h]
variable {X:Cx} {σ:St}
section
variable {pins:List (Addr×Obj)} {s:Shared}
theorem Inv.drop {e:Addr} {φ:Heap->Prop} (I:Inv X pins σ H s) (he:H e=some (.ext φ)):Inv X pins σ (rem H e) s:=by
 have ne:∀{b:Addr} {u:HO},H b=some u->(∀ψ,u≠.ext ψ)->b≠e:=fun {b u} q n z=>by
  subst z;rw [he] at q;exact n _ s!"GM".symm
 have z:Inv X pins σ (rem H e) { s with heap:=s.heap,toks:=s.toks }:=by
  refine I.un (H':=rem H e) (h':=s.heap) (t':=s.toks) ⟨fun b o q _ _ _=>q,fun b o q _ _ _=>⟨o.slots,q⟩,fun b o _ n _=>?_,fun b o q _=>⟨o,q⟩,fun b xs q=>?_,fun b o u q=>?_,fun b ps q=>⟨#[],?_⟩⟩ fun b u q=>?_
  ·by_cases y:b=e
   ·rw [y];exact zch
   ·rw [xO y];exact n
  ·rw [xO (ne q fun ψ y=>nomatch y)];exact q
  ·rw [xO (ne q fun ψ y=>nomatch y)];exact q
  ·rw [xO (ne q fun ψ y=>nomatch y),Array.append_empty];exact q
  ·have y:b≠e:=fun y=>by rw [y,zch] at q;cases q
   rw [xO y] at q;exact s!"EM".stay (fun _ _ _ q=>q) (fun c q=>by rw [xO (ne q fun ψ y=>nomatch y)];exact q) fun c xs q=>by rw [xO (ne q fun ψ y=>nomatch y)];exact q
 exact z
theorem Inv.laidN {h':Heap} {o:HO} {t':Nat} (I:Inv X pins σ H s) (k:∀b u,s.heap.get? b=some u->h'.get? b=some u) (hn:s.heap.get? a=none) (new:zq X.prog X.w s!"B)" h' a o):
 Inv X pins σ s!"B)" { s with heap:=h',toks:=t' }:=by
 have ha:H a=none:=by
  cases q:H a with
  | none=>rfl
  | some u=>
   obtain ⟨ob,e1⟩:=(I.hok a u q).at
   rw [hn] at e1;cases e1
 have ne:∀{b:Addr} {u:HO},H b=some u->b≠a:=fun {b u} q z=>by rw [z,ha] at q;cases q
 refine I.un ⟨fun b o q _ _ _=>k b o q,fun b o q _ _ _=>⟨o.slots,k b o q⟩,fun b o q n _=>?_,fun b o q _=>⟨o,k b o q⟩,fun b xs q=>?_,fun b o u q=>?_,fun b ps q=>⟨#[],?_⟩⟩ fun b u q=>?_
 ·rw [zf (fun z=>by rw [z,hn] at q;cases q)];exact n
 ·rw [zf (ne q)];exact q
 ·rw [zf (ne q)];exact q
 ·rw [zf (ne q),Array.append_empty];exact q
 ·by_cases y:b=a
  ·subst y;rw [ze] at q;cases q;exact new
  ·rw [zf y] at q;exact s!"EM".stay (fun c v _ q=>k c v q) (fun c q=>by rw [zf (ne q)];exact q) fun c xs q=>by rw [zf (ne q)];exact q
end
structure IniOwn (C f:Addr) (base:Heap):Prop where
 obj:∃(tl:List Value) (N:Addr) (nm qn:Str) (bs:List Value) (hd0:Bool) (sn:List Str) (sb:List Value) (ab:Bool) (col:Option Bool) (dd:Option Addr) (k0 k1 k2 k3 k5:Option Value) (mN:Str->Option Value),
  base.get? C=some (excClassObj nm qn C N bs tl hd0 sn sb ab col dd k0 k1 k2 k3 k5 "ValueError.__new__")/\base.Ns N mN/\mN "__init__"=some s!"Ad"/\OwnTail base bmV tl
def zjw (K:PySem.W.Frag) (C f:Addr):Bool:=match K.lookup C with
 | some ⟨.type "type",_,.cls cd,sl⟩=>(match cd.mro,sl.toList with
  | .ref C1::bm,[_,_,_,_,some s!"A%{n}",_]=>C1==C && n=="ValueError.__new__" && !cd.hasDel && tailIn K bmV bm && nsOkIn K cd.ns && nsIn K cd.ns "__init__"==some s!"AB"
  | _,_=>false)
 | _=>false
variable {x:Str} {K:PySem.W.Frag} {N:Addr} {v:Value}
theorem zhN {m:Str->Option Value} (X:K.In h) (G:h.Ns N m) (e:nsIn K N x=some s!"A0"):m x=some v:=by
 obtain ⟨o,es,ep,ho,hd,_,hf⟩:=G;unfold nsIn at e;split at e
 ·rename_i c d es' n' sl q;have z:=X _ _ q;rw [ho] at z;cases z;cases hd;split at e
  ·rename_i he;rw [<-hf];unfold nsFind findBy;rw [<-Array.find?_toList,he];cases e;rfl
  ·split at e <;> cases e
 ·cases e
theorem ze7 (X:K.In h) (e:nsOkIn K N=true) (q:nsIn K N x=some s!"A0"):h.nsMap N x=some v:=zhN X (.of_isNs (isNs_of_in X e)) q
variable {f:Addr}
theorem zov (X:K.In h) (q:zjw K C f=true):IniOwn C f h:=by
 unfold zjw at q;split at q
 ·rename_i dA cdA slA look;split at q
  ·rename_i C1 bm1 e0 e1 e2 e3 nA e5 hmro hsl;simp only [Bool.and_eq_true,beq_iff_eq,Bool.not_eq_true'] at q;obtain ⟨⟨⟨⟨⟨z1,z2⟩,hdel⟩,ht⟩,hok⟩,hni⟩:=q;subst z1 z2;obtain ⟨f1,f2,f3,f4,f5,f6,f7,f8,f9,f10,f11⟩:=cdA;dsimp only at hmro hdel hok hni;subst hmro hdel;have es:slA=#[e0,e1,e2,e3,some s!"A%{"ValueError.__new__"}",e5]:=by
    obtain ⟨l⟩:=slA;simp only at hsl;rw [hsl]
   subst es;exact ⟨bm1,f4,f1,f5,f2,f6,f7,f8,f9,f10,dA,e0,e1,e2,e3,e5,_,X _ _ look,.of_isNs (isNs_of_in X hok),ze7 X hok hni,tail_of_in X ht⟩
  ·cases q
 ·cases q
def ze8 (C:Addr) (fld:Str) (ok:V->Prop):Sp:=fun vs H Q _=>∃(e:Addr) (v:V),vs=[.ref e,v]/\ok v/\H e=some (ExN C e)/\∀d,H d=none->Q .non (upd s!".{e}{ExD C d e}" d (.xd [(fld,v)]))
def zec (C:Addr) (fld:Str) (ok:V->Prop) (W:Value->Option Addr->St->Hp->Prop) (t:TA):TS:=fun _ σ H=>t σ H fun vs H1=>∃v,vs=[v]/\ok v/\∀d,H1 d=none->W s!"o" s!"B$" σ (upd H1 d (.xd [(fld,v)]))
variable {W:Value->Option Addr->St->Hp->Prop} {pos:Pos} {e:Expr} {es:List Expr} {t:TA} {ps:List Str} {fld:Str} {od:Option Addr} {osl:Array s!"AR"}
theorem zhO {k:Nat} {fd:FuncData} {ok:V->Prop} {np cpos:Pos} {oc:Value} (O:IniOwn C f X.base) (hm:X.mg x=some s!"o")
 (F:FnOk X.prog X.w X.K X.mg X.base s!"B!" k f fd ps (ze8 C fld ok)) (lk:X.K.lookup f=some ⟨oc,od,.func fd,osl⟩) (hoc:oc=.type "function") (hb:xr X.K fd ps [])
 (hr:Room (k+1) X.A) (hc:X.calm=true) (hg:Gl X x) (hx:XMade X W) (ha:PA X (e::es) t)
 (hdb:(x==("__debug__":Str))=false:=by decide) (he:starEach (e::es) X.env=(false,eval e X.env)::starEach es X.env:=by rfl) (hpl:s!"B9".any (·.1)=false:=by rfl):
 PS X (.Raise s!"n{.Call (.Name x np) (e::es) [] cpos}" none pos) s!"GN":=by
 intro pins s σ H D I h;obtain ⟨tl,N,nm,qn,bs,hd0,sn,sb,ab,col,dd,k0,k1,k2,k3,k5,mN,cC,cN,cI,T⟩:=O.obj;have FB:=PySem.F.excBase_ValueError;refine zhL (nm:=nm) (qn:=qn) (C:=C) (N:=N) (bs:=bs) (tl:=tl) (hd0:=hd0) (sn:=sn) (sb:=sb) (ab:=ab) (col:=col) (dd:=dd) (k0:=k0) (k1:=k1) (k2:=k2) (k3:=k3) (k5:=k5) FB (mN:=mN) (oI:=⟨oc,od,.func fd,osl⟩)
  s!"EO" s!"Av" (by rw [he];show (false || s!"B9".any (·.1))=false;rw [hpl];rfl) cI hoc (xf I hg hm ⟨rfl,?_⟩ hdb)
 have h1:=ha cpos pins s σ H _ I h;rw [he] at h1 ⊢;refine Calls.evalArgs_plain (wpAny_mono h1 (fun us s2 ⟨vs,H2,I2,r,hW⟩=>?_) fun _ _ y=>y)
 obtain ⟨v,ev,okv,hW⟩:=hW;subst ev;obtain ⟨u,rfl,ru⟩:∃u,us=[u]/\zm v u:=by
  cases r with
  | cons r1 r2=>cases r2;exact ⟨_,rfl,r1⟩
 refine ⟨rfl,(show 1<=sizeLine by decide),I2.bk _ _ cC,cN.keeps I2.bk,T.keeps I2.bk,I2.kIn _ _ lk,fun hh ad hm=>?_⟩
 obtain ⟨t1,q1,_,_⟩:=hm.there;have nH:H2 ad=none:=by
  cases z:H2 ad with
  | none=>rfl
  | some u=>
   obtain ⟨ob,e1⟩:=(I2.hok ad u z).at
   rw [hm.new] at e1;cases e1
 have n0:X.s₀.heap.get? ad=none:=by
  cases z:X.s₀.heap.get? ad with
  | none=>rfl
  | some o=>
   obtain ⟨o',z'⟩:=I2.base.there ad o z (fun y=>by rw [hx.ex] at y;cases y)
   rw [hm.new] at z';cases z'
 have I3:Inv X pins σ s!"CU" { s2 with heap:=hh,toks:=s2.toks }:=I2.laidN hm.keeps hm.new (ExN.ok q1)
 have hsp:ze8 C fld ok [.ref ad,v] s!"CU" (fun v' H'=>v'=.non/\∃d,H2 d=none/\d≠ad/\H'=upd (upd s!"CU" ad (ExD C d ad)) d (.xd [(fld,v)])) (fun _ _ _=>False):=
  ⟨ad,v,rfl,okv,ze,fun d hd=>by
   have ne:d≠ad:=fun y=>by rw [y,ze] at hd;cases hd
   rw [zf ne] at hd;exact ⟨rfl,d,hd,ne,rfl⟩⟩
 have hl:([Value.ref ad,u]++[]).length=ps.length:=(show 2=ps.length from F.len _ _ _ _ hsp)
 have bnd:=hb { s2 with heap:=hh,toks:=s2.toks } [.ref ad,u] I3.kIn hl
 rw [List.append_nil] at bnd;refine wpAny_call (codeAny_mono (F.run (X.A.under (.builtin "type.__call__" ⟨.ref C::[u],[]⟩)) X.stack { s2 with heap:=hh,toks:=s2.toks } _ ⟨[.ref ad,u],[]⟩ [.ref ad,u] [.ref ad,v] _ _ (hr.make C [u] []) (I3.env0.make C [u] []) bnd (.cons rfl s!"C*{ru}") hsp) fun res s4 hq=>?_)
 cases res with
 | error ex=>
  obtain ⟨_,_,_,_,_,_,_,y,_⟩:=hq;exact y.elim
 | ok fl=>
  cases fl with
  | next=>exact False.elim hq
  | brk=>exact False.elim hq
  | cont=>exact False.elim hq
  | ret u'=>
   obtain ⟨v',H4,I4,r4,ev4,d,hd,nd,eH⟩:=I3.after hq;subst ev4;obtain rfl:u'=Value.none:=r4;subst eH;have a4:(upd (upd s!"CU" ad (ExD C d ad)) d (.xd [(fld,v)])) ad=some (ExD C d ad):=by
    rw [zf s!"Fd",ze]
   obtain ⟨⟨t4,o4⟩,_⟩:=(show zq X.prog X.w _ s4.heap ad (ExD C d ad) from I4.hok ad _ a4)
   have I5:=I4.drop a4;have eR:rem (upd (upd s!"CU" ad (ExD C d ad)) d (.xd [(fld,v)])) ad=upd H2 d (.xd [(fld,v)]):=by
    funext b
    by_cases y:b=ad
    ·rw [y,zch,zf s!"Fd",nH]
    ·rw [xO y]
     by_cases z:b=d
     ·rw [z,ze,ze]
     ·rw [zf z,zf z,zf y,zf y]
   rw [eR] at I5;refine ⟨rfl,I5.bk _ _ cC,⟨t4,d,o4⟩,hx.made pins σ _ s4 ad t4 _ _ I5 n0 (by rw [zf s!"Fd"];exact nH) o4 rfl rfl rfl _ s!"${⟨rfl,rfl⟩}" (hW d hd)⟩
def zmY (C:Addr) (t:TA):TE:=fun σ H Q=>t σ H fun vs H1=>∃(ad:Addr) (v:V),vs=[.ref ad,v]/\H1 ad=some s!"Bp"/\Q .non H1
theorem ze9 {C f Bc:Addr} {b:Str} {bp apos:Pos} (O:IniOwn C f X.base) (hg:Gl X b) (hmb:X.mg b=some s!"k{Bc}") (hs:specialIn X.K s!"k{Bc}" "__getattribute__"=some s!"Fe") (hrd:readsIn X.K Bc s!"AT"=true)
 (hf:findCls X.K s!"k{Bc}" s!"AT" "__init__"=some s!"Ff") (ha:PA X (e::es) t) (hdb:(b==("__debug__":Str))=false:=by decide)
 (he:starEach (e::es) X.env=(false,eval e X.env)::starEach es X.env:=by rfl) (hpl:s!"Cf".any (·.1)=false:=by rfl) {pl:Sem Bool}
 (ht:eval (.Call (.Attribute (.Name b bp) "__init__" apos) (e::es) [] pos) X.env=(do
  let ov <-eval (.Name b bp) X.env
  standAt apos.atName
  let (f,first) <-holding [ov] (getMethod ov "__init__" pl)
  callWith pos f first (backTo pos (starEach (e::es) X.env)) (backToKw pos (keywordEach [] X.env))):=by rfl):
 PE X (.Call (.Attribute (.Name b bp) "__init__" apos) (e::es) [] pos) (zmY C t):=by
 intro pins s σ H Q I h;obtain ⟨tl,N,nm,qn,bs,hd0,sn,sb,ab,col,dd,k0,k1,k2,k3,k5,mN,cC,cN,cI,T⟩:=O.obj;refine PySem.W.methodCall_KW (pl:=pl) (xf I hg hmb (method_cls I.kIn hs (cls_value I.kIn hrd hf rfl ?_)) hdb) ht;have I1:=I.tok (s.toks+1);refine callWith_builtin1 (thn (ha pos pins _ σ H _ I1 h) fun us s2 ⟨vs,H2,I2,r,ad,v,ev,e1,q⟩=>?_) he hpl
 subst ev;obtain ⟨u1,u2,rfl,r1,r2⟩:=zb5 r;obtain rfl:u1=Value.ref ad:=r1;obtain ⟨⟨t1,o1⟩,_⟩:=(show zq X.prog X.w H2 s2.heap ad s!"Bp" from I2.hok ad _ e1)
 obtain ⟨h2,g2,d2,t2,os2⟩:=s2;refine zjv PySem.F.excBase_ValueError (T.keeps I2.bk) (I2.bk _ _ cC) o1 (show 1<=sizeLine by decide) fun h3 t3 k3 o3=>?_
 have I3:=I2.write (h':=h3) (t':=t2) (x:=ad) (e:=ad) (o:=ExN C ad) (by rw [e1];trivial) s!"[" k3 ⟨_,o3⟩ (ExN.ok o3)
 have eH:upd H2 ad s!"Bp"=H2:=by
  funext b
  by_cases y:b=ad
  ·rw [y,ze,e1]
  ·rw [zf y]
 rw [eH] at I3;exact ⟨.non,H2,I3,rfl,q⟩
def zmZ (C:Addr) (fld:Str) (ta tv:TE):TS:=fun D σ H=>tv σ H fun y H1=>ta σ H1 fun x H2=>∃ad,x=.ref ad/\H2 ad=some s!"Bp"/\∀d,H2 d=none->D.nx σ (upd (upd H2 ad (ExD C d ad)) d (.xd [(fld,y)]))
theorem zlY {C:Addr} {fld:Str} {o value:Expr} {ta tv:TE} {pos':Pos} (Z:IniK X.K C fld) (ho:PE X o ta) (hv:PE X value tv) (hs:swapsWith value s!"n{.Attribute o fld pos'}" pos.line X.env=pure false:=by rfl):
 PS X (.Assign [.Attribute o fld pos'] value pos) (zmZ C fld ta tv):=by
 intro pins s σ H D I h;refine plainObj_wpAny_Assign_Attribute (thn (hv pins s σ H _ I h) fun u s1 ⟨y,H1,I1,ry,q⟩=>thn (ho pins s1 σ H1 _ I1 q) fun ov s2 ⟨x,H2,I2,rx,ad,ex,ea,q2⟩=>?_) hs
 subst ex;obtain rfl:ov=Value.ref ad:=rx;obtain ⟨⟨t1,o1⟩,_⟩:=(show zq X.prog X.w H2 s2.heap ad s!"Bp" from I2.hok ad _ ea)
 refine zhM I2.kIn Z o1 fun h3 d tk3 nd n3 o3 k3=>?_
 have hd:H2 d=none:=by
  cases z:H2 d with
  | none=>rfl
  | some u=>
   obtain ⟨ob,e1⟩:=(I2.hok d u z).at
   rw [nd] at e1;cases e1
 have ne:d≠ad:=fun y=>by rw [y,o1] at nd;cases nd
 refine ⟨σ,_,?_,q2 d hd⟩;have nT:∀{b:Addr} {u:HO},H2 b=some u->(∀ψ,u≠.ext ψ)->(upd (upd H2 ad (ExD C d ad)) d (.xd [(fld,y)])) b=some u:=fun {b u} q n=>by
  have y1:b≠d:=fun z=>by rw [z,hd] at q;cases q
  have y2:b≠ad:=fun z=>by rw [z,ea] at q;exact n _ s!"GM".symm
  rw [zf y1,zf y2];exact q
 refine I2.un (h':=h3) (t':=tk3) ⟨fun b o q n _ _=>k3 b o (fun z=>by rw [z,ea] at n;cases n) q,fun b o q n _ _=>⟨o.slots,k3 b o (fun z=>by rw [z,ea] at n;cases n) q⟩,fun b o q n _=>?_,fun b o q _=>?_,
  fun b xs q=>nT q (fun ψ z=>nomatch z),fun b o u q=>nT q (fun ψ z=>nomatch z),fun b ps q=>⟨#[],by rw [Array.append_empty];exact nT q (fun ψ z=>nomatch z)⟩⟩ fun b u' q=>?_
 ·have y1:b≠d:=fun z=>by rw [z,nd] at q;cases q
  have y2:b≠ad:=fun z=>by rw [z,ea] at n;cases n
  rw [zf y1,zf y2];exact n
 ·by_cases z:b=ad
  ·exact ⟨_,by rw [z];exact o3⟩
  ·exact ⟨o,k3 b o z q⟩
 ·by_cases z:b=d
  ·subst z;rw [ze] at q;cases q;refine ⟨_,n3,fun f=>?_⟩
   by_cases y1:f=fld
   ·subst y1;rw [if_pos rfl,List.lookup_cons,beq_self_eq_true];exact ry
   ·rw [if_neg y1,List.lookup_cons,beq_eq_false_iff_ne.mpr y1];exact trivial
  ·rw [zf z] at q
   by_cases y1:b=ad
   ·subst y1;rw [ze] at q;cases q;exact ExD.ok o3
   ·rw [zf y1] at q;refine (I2.hok b u' q).stay (fun c v hc q'=>k3 c v (fun z'=>?_) q') (fun c q'=>nT q' (fun ψ z=>nomatch z)) fun c xs q'=>nT q' (fun ψ z=>nomatch z)
    rcases hc with hc | hc
    ·exact y1 (hc.symm.trans z')
    ·rw [z',ea] at hc;cases hc
structure CI (K:PySem.W.Frag) (mg:Str->Option Value) (base:Heap) (x fld b:Str):Type where
 addr:Addr
 gl:mg x=some s!"D("
 f:Addr
 own:IniOwn addr f base
 exc:ExcK K addr
 ini:IniK K addr fld
 up:Addr
 ugl:mg b=some s!"k{up}"
 u1:specialIn K s!"k{up}" "__getattribute__"=some s!"Fe"
 u2:readsIn K up s!"AT"=true
 u3:findCls K s!"k{up}" s!"AT" "__init__"=some s!"Ff"
structure SrcI (K:PySem.W.Frag) (qual:Str) (st:Stmt) (f:Addr) (ps:List Str):Prop where
 ex:∃fd,Fun K "__init__" qual st f fd/\xr K fd ps []/\∃od osl,K.lookup f=some ⟨.type "function",od,.func fd,osl⟩
structure DefI (P:Program) (w:World) (K:PySem.W.Frag) (mg:Str->Option Value) (base:Heap) (CX:CXT) (k:Nat) (f:Addr) (ps:List Str) (sp:Sp):Prop where
 ex:∃fd,FnOk P w K mg base CX k f fd ps sp/\xr K fd ps []/\∃od osl,K.lookup f=some ⟨.type "function",od,.func fd,osl⟩
variable {qual:Str} {st:Stmt}
section
variable {mg:Str->Option Value} {base:Heap} {CX:CXT}
theorem zlZ {an:Option Addr} {kV doc pm cdv ct:Value}
 (l:K.lookup f=some ⟨.type "function",od,.func s!"GO",osl⟩) (c:PySem.W.codeIn K cdv qual=true) (k:PySem.W.keepIn K s!"Ad"=true)
 (hb:∀(kV doc pm:Value) (an:Option Addr) (cdv ct:Value) (us:List Value),us.length=ps.length->bindArgs s!"GO" ⟨us,[]⟩=pure s!"AQ"):SrcI K qual st f ps:=
 ⟨_,zaY l c k,(zaY (st:=st) l c k).binds hb,od,osl,l⟩
theorem SrcI.ok {N:List Str} {k:Nat} {sp:Sp} (F:SrcI K qual st f ps) (S:FnScope N ps s!"Bn") (len:∀vs H Q E,sp vs H Q E->vs.length=ps.length)
 (hbody:∀(cdv:Value) (A:Around) (outer:List Env) (s:Shared) (H:Hp) (vs:List V) (Q:VK) (E:XK),Room k (A.deeper (envOfC qual (zc st) s.heap.objs.size f cdv))->sp vs H Q E->
  ∃t,PSs (zan CX P w K mg base N qual (zc st) f cdv A outer s H E).nox (zp st) t/\t { nx:=fun _ H1=>Q .non H1,rt:=Q } (yJ N vs) H):DefI P w K mg base CX (k+1) f ps sp:=by
 obtain ⟨fd,Fn,b,od',osl',lk'⟩:=F.ex;obtain ⟨oc,od,kV,doc,pm,an,cdv,ct,osl,rfl,lk,hcd⟩:=Fn.ex;refine ⟨_,zeX lk hcd S len fun A outer s H vs Q E hr hsp=>?_,b,od',osl',lk'⟩
 obtain ⟨t,h,q⟩:=hbody cdv A outer s H vs Q E hr hsp;exact ⟨t,h.nox,q⟩
end
theorem zhP {k:Nat} {C f:Addr} {ps:List Str} {fld:Str} {ok:V->Prop} {np cpos:Pos} (D:DefI X.prog X.w X.K X.mg X.base s!"B!" k f ps (ze8 C fld ok)) (O:IniOwn C f X.base) (hm:X.mg x=some s!"o")
 (hr:Room (k+1) X.A) (hc:X.calm=true) (hg:Gl X x) (hx:XMade X W) (ha:PA X (e::es) t)
 (hdb:(x==("__debug__":Str))=false:=by decide) (he:starEach (e::es) X.env=(false,eval e X.env)::starEach es X.env:=by rfl) (hpl:s!"B9".any (·.1)=false:=by rfl):
 PS X (.Raise s!"n{.Call (.Name x np) (e::es) [] cpos}" none pos) s!"GN":=by
 obtain ⟨fd,F,b,od,osl,lk⟩:=D.ex;exact zhO O hm F lk rfl b hr hc hg hx ha hdb he hpl
def zgO (C:Addr) (fld:Str) (ok:V->Prop) (W:Value->Option Addr->St->Hp->Prop) (σ:St) (vs:List V) (H:Hp):Prop:=∃v,vs=[v]/\ok v/\∀d,H d=none->W s!"o" s!"B$" σ s!".{d}{.xd [(fld,v)]}"
variable {D:Ends}
theorem zec.Qa {ok:V->Prop} (h:t σ H fun vs H1=>zgO C fld ok W σ vs H1):zec C fld ok W t D σ H:=h
theorem zf4 {ok:V->Prop} {v:V} (ho:ok v) (h:∀d,H d=none->W s!"o" s!"B$" σ s!".{d}{.xd [(fld,v)]}"):zgO C fld ok W σ [v] H:=⟨v,rfl,ho,h⟩
def zm0 (C:Addr) (vs:List V) (H:Hp) (Q:VK):Prop:=∃(ad:Addr) (v:V),vs=[.ref ad,v]/\H ad=some s!"Bp"/\Q .non H
variable {Q:VK}
theorem zmY.Qa (h:t σ H fun vs H1=>zm0 C vs H1 Q):zmY C t σ H Q:=h
variable {ad:Addr}
theorem zm0.Qb {v:V} (e:H ad=some s!"Bp") (h:Q .non H):zm0 C [.ref ad,v] H Q:=⟨ad,v,rfl,e,h⟩
def zm1 (C:Addr) (fld:Str) (y x:V) (H:Hp) (R:Hp->Prop):Prop:=∃ad,x=.ref ad/\H ad=some s!"Bp"/\∀d,H d=none->R (upd s!".{ad}FJ" d (.xd [(fld,y)]))
theorem zmZ.Qa {ta tv:TE} (h:tv σ H fun y H1=>ta σ H1 fun x H2=>zm1 C fld y x H2 fun H3=>D.nx σ H3):zmZ C fld ta tv D σ H:=h
theorem zm1.Qx {y:V} {R:Hp->Prop} (e:H ad=some s!"Bp") (h:∀d,H d=none->R (upd s!".{ad}FJ" d (.xd [(fld,y)]))):zm1 C fld y s!"k{ad}" H R:=⟨ad,rfl,e,h⟩
end L2
namespace L2
open PySem PySem.Spec PyProof.Rows PySem.W Builtin Builtin.Str
section
variable {X:Cx}
theorem zdj:∀{l:List (Str×Tok)},zl ((l.map (·.1)).map V.str) (strValues l)
 | []=>.nil
 | (x,t)::l=>.cons ⟨t,rfl⟩ (zdj (l:=l))
def zjz:V->List V->Hp->VK->Prop:=fun x vs H Q=>∃(a b:Str),x=.str a/\vs=[.str b]/\(b.length==0)=false/\a.length<=sizeLine/\s!"Fg".length<=sizeLine/\∀D,H D=none->Q s!";" s!".{D}u{(s!"Fg".map V.str)}"
theorem mt_split:MtR X "str.split" zjz:=by
 intro pins s σ H x vs v us Q I rx rv h;obtain ⟨a,b,rfl,rfl,hb,hz,hn,q⟩:=h;obtain ⟨t,rfl⟩:=rx;obtain ⟨u,rfl,ru⟩:=rv.one;obtain ⟨u',rfl⟩:=ru;have new:∀(l:List (Str×Tok)) (k:Nat),l.map (·.1)=Txt.split a b->EP X pins σ Q s!"Ci" { s with heap:=s.heap.push { cls:=.type "list",data:=.seq (strValues l).toArray },toks:=k }:=fun l k e=>
  ⟨.ref s.heap.objs.size,_,I.laid (t':=k) (o:=.lst (s!"Fg".map V.str)) (fun b ob q=>Heap.get?_push_of_some _ q) s!"+" ⟨by rw [List.length_map];exact hn,strValues l,0,by rw [<-e];exact zdj,Heap.get?_push_size _ rfl⟩,rfl,q _ s!"CE"⟩
 cases h1:(decide (a.length<b.length) || decide (strKind a<strKind b))
 ·cases hf:(occurrences a b 0 a.length (a.length+1)).isEmpty
  ·have es:Txt.split a b=partsBetween a (occurrences a b 0 a.length (a.length+1)) b.length:=s!"GP".trans (if_neg (ne_true_of_eq_false hf));refine call_meets F.slot_str_split s!"Fh" F.entry_str_split s!"Fi" (meets_str_split_sep a b t u' h1 hb hf hz (by rw [<-es];exact hn)) ?_
   show wants (EP X pins σ Q) X.xe _ { s with toks:=_,heap:=s.heap.push { cls:=.type "list",data:=.seq (strsFrom s.toks (partsBetween a (occurrences a b 0 a.length (a.length+1)) b.length)).toArray } }
   rw [strsFrom_eq];exact new _ _ ((numbered_texts _ _).trans es.symm)
  ·exact call_meets F.slot_str_split s!"Fh" F.entry_str_split s!"Fi" (meets_str_split_not_found a b t u' h1 hb hf) (new [(a,t)] s.toks (s!"GP".trans (if_pos hf)).symm)
 ·exact call_meets F.slot_str_split s!"Fh" F.entry_str_split s!"Fi" (meets_str_split_cannot_occur a b t u' h1) (new [(a,t)] s.toks (if_pos h1).symm)
def zgP:V->List V->Hp->VK->Prop:=fun x vs H Q=>∃(a b:Str),x=.str a/\vs=[.str b]/\Q s!"!FK" H
theorem mt_starts:MtR X "str.startswith" zgP:=by
 intro pins s σ H x vs v us Q I rx rv h;obtain ⟨a,b,rfl,rfl,q⟩:=h;obtain ⟨t,rfl⟩:=rx;obtain ⟨u,rfl,ru⟩:=rv.one;obtain ⟨u',rfl⟩:=ru;exact SC.startswith ⟨.bl _,H,I,rfl,q⟩
def zqa:V->Option Int->Option Int->Hp->VK->Prop:=fun x lo hi H Q=>∃a,x=.str a/\a.length<=sizeLine/\Q s!"zFL" H
theorem sl_str:SlR X zqa:=by
 intro pins s σ H x v vl vu lo hi sl Q I rx hs pl pu h;obtain ⟨a,rfl,hz,q⟩:=h;obtain ⟨t,rfl⟩:=rx;refine ⟨"str",_,F.slot_str_getitem.lookup,typeIs_str _ _ _,?_⟩;have go:∀(l u:Option (Int×Tok)),vl=partValue l->vu=partValue u->l.map (·.1)=lo->u.map (·.1)=hi->wpAny s!"q" X.A (getItem (.str a t) s!"CI") (EP X pins σ Q) X.xe s:=fun l u e1 e2 e3 e4=>by
  subst e1 e2 e3 e4;refine wpAny_getItem_str_slice (l:=l) (u:=u) (st:=none) hs rfl (post_val_or_str ⟨Nat.le_trans (Txt.slice_le a _ _) hz,fun t' k=>?_⟩)
  exact ⟨.str _,H,I.tok k,⟨_,rfl⟩,q⟩
 cases pl with
 | none=>
  cases pu with
  | none=>exact go none none rfl rfl rfl rfl
  | int j tj=>exact go none s!"n{(j,tj)}" rfl rfl rfl rfl
 | int i ti=>
  cases pu with
  | none=>exact go s!"n{(i,ti)}" none rfl rfl rfl rfl
  | int j tj=>exact go s!"n{(i,ti)}" s!"n{(j,tj)}" rfl rfl rfl rfl
end
end L2
namespace L2
open PySem PySem.Spec PyProof.Rows PySem.W
def Ist (x:Str):It:=⟨fun i _=>i<x.cps.size,fun i H v H'=>H'=H/\∃c,x.cps[i]? =some c/\v=.str ⟨#[c]⟩,fun i _=>x.cps.size<=i⟩
variable {tg:Expr} {K:PySem.W.Frag}
theorem zjA {P:Program} {w:World} (it:Addr) (x:Str) (t:Tok):Turn P w K tg (Ist x) [it] it (fun i h=>h.IsStrIter it "str_ascii_iterator" x t i) where
 mem:=by simp
 obj:=fun i h st b hb=>by
  have e:b=it:=by simpa using hb
  subst e;obtain ⟨o,e,c,d⟩:=st;exact ⟨o,e,fun v z=>by rw [d] at z;cases z⟩
 keep:=fun i h h' st k=>by
  obtain ⟨o,e,r⟩:=st;exact ⟨o,k it s!"s" o e,r⟩
 item:=by
  intro X hP hw hK hc i pins s σ H E I hf st hg;subst hP hw hK;obtain ⟨f0,f1,f2,f3,f4,f5⟩:=hf it s!"s"
  refine (Walks.strAscii (prog:=X.prog) (w:=X.w) s!"Av" it x t).item i s _ _ hg st fun v h' tk hv st' kk=>?_
  obtain ⟨c,u,hcu,rfl⟩:=hv;have I1:Inv X pins σ H { s with heap:=h',toks:=tk }:=I.turned (fun b o hb e=>kk b o (by simpa using hb) e) f0 f1 f3 f4 f5
  obtain ⟨o,e,c1,d⟩:=id st';exact ⟨_,rfl,zeT (s:={ s with heap:=h',toks:=tk }) e c1 d s!"d" ⟨.str ⟨#[c]⟩,H,I1,⟨u,rfl⟩,⟨rfl,c,hcu,rfl⟩,st',fun b hb=>s!"C)".1⟩⟩
 done:=by
  intro X hP hw hK hc i pins s σ H E I hf st hg;subst hP hw hK;obtain ⟨f0,f1,f2,f3,f4,f5⟩:=hf it s!"s"
  have hg:x.cps.size<=i:=hg;exact wpAny_pyNext_ascii_end s!"Av" st (by simp [hg]) fun h' eb=>⟨rfl,I.turned (t':=s.toks) (fun b o hb e=>eb b o hb e) f0 f1 f3 f4 f5⟩
 self:=fun _ _ _ _ _ st h=>wpAny_pyIter_striter_ascii st h
def zqb (tl:TE):TI:=fun σ H R=>tl σ H fun x H1=>∃a,x=.str a/\a.cps.all (·<128)=true/\R (Ist a) H1
variable {X:Cx}
theorem pi_str {l:Expr} {tl:TE} (hl:PE X l tl):PI X tg l (zqb tl):=by
 intro pins s σ H R I h;refine thn (hl pins s σ H _ I h) fun v s1 ⟨x,H1,I1,r1,q1⟩=>?_
 obtain ⟨a,e,ha,q⟩:=q1;subst e;obtain ⟨t,rfl⟩:=r1;refine wpAny_pyIter_ascii ha ?_;refine ⟨s1.heap.objs.size,[s1.heap.objs.size],_,_,H1,rfl,I1.kept (t':=s1.toks) fun b o e=>Heap.get?_push_of_some _ e,zjA _ a t,⟨_,Heap.get?_push_size _ rfl,rfl,rfl⟩,fun b hb=>?_,q⟩
 have e:b=s1.heap.objs.size:=by simpa using hb
 subst e;exact I1.fpOk s!"+" s!"C["
variable {σ:St} {H:Hp} {Q:VK} {te:TE} {a:Str}
def zjB (te:TE) (v:V) (H1:Hp) (Q:VK):Prop:=∃a,v=.str a/\a.cps.all (·<128)=true/\∀D,H1 D=none->∃W:Nat->Nat->List V->Hp->Prop,(∃m,W 0 m [] (upd H1 D s!"u{[]}"))/\∀i m ys H,W i m ys H->H D=some s!"Ax"/\
 (((Ist a).stop i H/\Q s!";" H)\/((Ist a).go i H/\ys.length<sizeLine/\∀x H',(Ist a).yld i H x H'->te [some x] H' fun y H2=>H2 D=some s!"Ax"/\∃m',m'<m/\W (i+1) m' (ys++[y]) (upd H2 D s!"u{(ys++[y])}")))
theorem zgG.Qa {tl:TE} (h:tl σ H fun x H1=>zjB te x H1 Q):zgG (zqb tl) te σ H Q:=h
theorem zdk (g:Nat->V) (ha:a.cps.all (·<128)=true) (hz:a.cps.size<=1000) (he:∀(i c:Nat) H' (Q':VK),a.cps[i]? =some c->Same H H'->(∀H2,Same H' H2->Q' (g c) H2)->te [some s!"z{⟨#[c]⟩}"] H' Q')
 (h:∀D H',Same H H'->H D=none->H' D=some s!"u{a.cps.toList.map g}"->Q s!";" H'):zjB te s!"CV" H Q:=by
 refine ⟨a,rfl,ha,fun D hD=>⟨fun i m zs H'=>m=a.cps.size-i/\i<=a.cps.size/\zs=(a.cps.toList.take i).map g/\Same H H'/\H' D=some s!"Bm",⟨a.cps.size,by simp,Nat.zero_le _,by simp,Same.new hD _,ze⟩,?_⟩⟩
 rintro i m zs H' ⟨rfl,hi,rfl,hs,eD⟩;refine ⟨eD,?_⟩
 by_cases hlt:i<a.cps.size
 ·refine .inr ⟨hlt,?_,fun x H2 y=>?_⟩
  ·rw [List.length_map,List.length_take];exact zk s!"c"
  ·obtain ⟨e,c,hc,rfl⟩:=y;subst e;refine he i c _ _ hc hs fun H2 s2=>⟨s2.obj eD,a.cps.size-(i+1),by omega,rfl,hlt,?_,s!"Cm".upd hD,ze⟩
   have hc':a.cps.toList[i]? =some c:=by rw [Array.getElem?_toList];exact hc
   rw [List.take_add_one,hc',List.map_append];rfl
 ·have e:i=a.cps.size:=by omega
  subst e;refine .inl ⟨Nat.le_refl _,h D H' hs hD ?_⟩;rw [show a.cps.size=a.cps.toList.length from rfl,List.take_length] at eD
  exact eD
theorem zat {b:Str} (hb:(b.length==0)=false) (hz:a.length<=sizeLine) (ws:List Str) (hw:Txt.split a b=ws) (hn:ws.length<=sizeLine) (h:∀D H',Same H H'->H D=none->H' D=some s!"uCS"->Q s!";" H'):zjz s!"CV" [.str b] H Q:=by
 subst hw;exact ⟨a,b,rfl,rfl,hb,hz,hn,fun D hD=>h D _ (Same.new hD _) hD ze⟩
theorem zgP.Qa {b:Str} (h:Q s!"!FK" H):zgP s!"CV" [.str b] H Q:=⟨a,b,rfl,rfl,h⟩
theorem zqa.Qv {lo hi:Option Int} (hz:a.length<=sizeLine) (h:Q s!"zFL" H):zqa s!"CV" lo hi H Q:=⟨a,rfl,hz,h⟩
def zm6:List V->Hp->VK->Prop:=fun xs H Q=>∃(x:Str) (n:Int),xs=[.str x]/\PySem.intText? x=some n/\x.length<=640/\Q s!"Bo" H
variable {pos:Pos}
theorem zdl:zN X s!"A+{"int"}" zm6:=by
 intro pins s σ H xs us Q I r h;obtain ⟨x,n,rfl,hn,hl,q⟩:=h;obtain ⟨u,rfl,ru⟩:=zam r;obtain ⟨t,rfl⟩:=ru;exact KIN.call_text hn hl ⟨.int n,H,I.tok _,⟨_,rfl⟩,q⟩
def zm7 (te:TE):TE:=fun σ H Q=>te σ H fun x H1=>∃y,x=.str y/\y.length<=sizeLine/\Q s!"CL" H1
theorem zl2 {e:Expr} {te:TE} (h:PE X e te):PE X (.FormattedValue e (-1) none pos) (zm7 te):=fun pins s σ H Q I q=>
 FormattedValue_plain (thn (h pins s σ H _ I q) fun u s1 ⟨x,H1,I1,r1,y,ex,hz,q1⟩=>by
  subst ex;obtain ⟨tk,rfl⟩:=r1;exact formatField_str (fun t' k=>⟨.str _,_,I1.tok _,⟨_,rfl⟩,q1⟩) hz)
variable {x:Str}
theorem zgQ {n:Int} (h1:PySem.intText? x=some n) (h2:x.length<=640) (h:Q s!"Bo" H):zm6 [.str x] H Q:=⟨x,n,rfl,h1,h2,h⟩
def zm8 (x:V) (H:Hp) (Q:VK):Prop:=∃y,x=.str y/\y.length<=sizeLine/\Q s!"CL" H
theorem zm7.Qa (h:te σ H fun x H1=>zm8 x H1 Q):zm7 te σ H Q:=h
theorem zm8.Qv {y:Str} (hz:y.length<=sizeLine) (h:Q s!"CL" H):zm8 s!"CL" H Q:=⟨y,rfl,hz,h⟩
def zL {α:Type}:List α->List α
 | []=>[]
 | [x]=>[x]
 | x::_::r=>x::zL r
theorem zdm {α:Type} (l:List α):∀(m k:Nat),m=(l.length-k+1) / 2->s!"A*{m}".filterMap (fun i=>l[k+2*i]?)=zL (l.drop k)
 | 0,k,h=>by
  rw [List.drop_eq_nil_of_le s!"c"]
  rfl
 | m+1,k,h=>by
  have hk:k<l.length:=by omega
  rw [List.range_succ_eq_map,List.filterMap_cons];have e0:l[k+2*0]? =some l[k]:=by rw [show k+2*0=k by omega];exact List.getElem?_eq_getElem hk
  rw [e0,List.filterMap_map];have ih:=zdm l m (k+2) s!"c"
  have ef:(fun i=>l[k+2+2*i]?)=((fun i=>l[k+2*i]?)∘Nat.succ):=by
   funext i;show l[k+2+2*i]? =l[k+2*(i+1)]?;congr 1;omega
  rw [<-ef];dsimp only;rw [ih];rw [List.drop_eq_getElem_cons hk];cases hd:l.drop (k+1) with
  | nil=>
   rw [List.drop_eq_nil_of_le (by have:=congrArg List.length hd;rw [List.length_drop,List.length_nil] at this;omega)]
   rfl
  | cons y r=>
   have:l.drop (k+2)=r:=by
    rw [show k+2=(k+1)+1 by omega,<-List.drop_drop,hd]
    rfl
   rw [this];rfl
theorem zci {α β:Type} (f:α->β):∀l:List α,zL (l.map f)=(zL l).map f
 | []=>rfl
 | [_]=>rfl
 | x::_::r=>by
  show f x::zL (r.map f)=f x::(zL r).map f;rw [zci f r]
theorem zcj {α:Type}:∀l:List α,(zL l).length<=l.length
 | []=>Nat.le_refl _
 | [_]=>Nat.le_refl _
 | x::y::r=>by
  have:=zcj r;show (zL r).length+1<=r.length+1+1;omega
theorem zjE (its:List Value) (k:Nat) (hk:k<=1):slicePick its.toArray s!"n{(k:Int)}" none s!"BJ"=(zL (its.drop k)).toArray:=by
 have e1:(sliceBounds s!"n{(k:Int)}" none s!"BJ" its.toArray.size).1=((min k its.length:Nat):Int):=by
  have z:¬((k:Int)<0):=by omega
  show (if (2:Int) > 0 then max 0 (min (if (k:Int)<0 then (k:Int)+(its.toArray.size:Int) else (k:Int)) (its.toArray.size:Int)) else max (-1) (min (if (k:Int)<0 then (k:Int)+(its.toArray.size:Int) else (k:Int)) ((its.toArray.size:Int)-1)))=_
  rw [if_pos s!"d",if_neg z,List.size_toArray]
  omega
 have e2:(sliceBounds s!"n{(k:Int)}" none s!"BJ" its.toArray.size).2.1=(its.length:Int):=by simp [sliceBounds]
 have e3:(sliceBounds s!"n{(k:Int)}" none s!"BJ" its.toArray.size).2.2=2:=rfl;unfold slicePick;rw [e1,e2,e3];congr 1;unfold sliceRange;have c:(if (2:Int) > 0 then (if ((min k its.length:Nat):Int)<its.length then ((its.length:Int)-(min k its.length:Nat)+2-1) / 2 else 0) else (if ((min k its.length:Nat):Int) > its.length then (((min k its.length:Nat):Int)-its.length-2-1) / (-2) else 0)).toNat=(its.length-k+1) / 2:=by
  rw [if_pos s!"d"]
  split <;> omega
 simp only [c];rw [List.filterMap_map];rw [<-zdm its _ k rfl];have fc:∀(l:List Nat) (f g:Nat->Option Value),(∀i∈l,f i=g i)->l.filterMap f=l.filterMap g:=fun l f g h=>by
  induction l with
  | nil=>rfl
  | cons x r ih=>rw [List.filterMap_cons,List.filterMap_cons,h x (List.mem_cons_self),ih fun i hi=>h i s!"Ds{hi}"]
 refine fc _ _ _ fun i hi=>?_
 have:=List.mem_range.mp hi;show its.toArray[(((min k its.length:Nat):Int)+2*(i:Int)).toNat]? =its[k+2*i]?;rw [List.getElem?_toArray,show (((min k its.length:Nat):Int)+2*(i:Int)).toNat=k+2*i by omega]
variable {tl ts:TO}
section
variable {e:Expr} {lo st:Expr} {p2:Pos}
def zox (K:PySem.W.Frag) (x:V) (k j:Option Int) (H:Hp) (Q:VK):Prop:=j=some 2/\∃(n:Nat) (a:Addr) (xs:List V),k=some (n:Int)/\n<=1/\x=.ref a/\SqL K H a xs/\∀p,H p=none->Q s!"]" s!".{p}uFM"
def zjF (K:PySem.W.Frag) (te:TE) (tl ts:TO):TE:=fun σ H Q=>te σ H fun x H1=>tl σ H1 fun k H2=>ts σ H2 fun j H3=>zox K x k j H3 Q
theorem zdn:∀{xs:List V} {us:List Value},zl xs us->zl (zL xs) (zL us)
 | [],_,.nil=>.nil
 | [_],_,.cons r .nil=>.cons r .nil
 | _::_::_,_,.cons r (.cons _ r2)=>.cons r (zdn r2)
theorem zbu (he:PE X e te) (hlo:PO X s!"n{lo}" tl) (hst:PO X s!"n{st}" ts):PE X (.Subscript e s!"GQ" pos) (zjF X.K te tl ts):=by
 intro pins s σ H Q I h;refine Subscript_ (thn (he pins s σ H _ I h) fun v s1 ⟨x,H1,I1,r1,q1⟩=>?_)
 refine wpAny_Slice ?_;refine thn (hlo pins s1 σ H1 _ I1 q1) fun vl s2 ⟨k,H2,I2,pl,q2⟩=>?_
 rw [evalPart_none];refine wpAny_pure ?_;refine thn (hst pins s2 σ H2 _ I2 q2) fun vs s3 ⟨j,H3,I3,ps,q3⟩=>?_
 obtain ⟨rfl,n,a,xs,rfl,hn,rfl,hx,q⟩:=q3;have I4:Inv X pins σ H3 { s3 with heap:=s3.heap.push { cls:=.type "slice",data:=.fields #[vl,.none,vs] } }:=I3.kept (t':=s3.toks) fun b ob q=>Heap.get?_push_of_some _ q
 cases r1;obtain ⟨its,r,ht,hz⟩:=I4.list hx;have hlen:=r.length;show wpAny s!"q" X.A (subscriptTail e s!"GQ" s!"h" s!"G,") (EP X pins σ Q) X.xe { s3 with heap:=s3.heap.push { cls:=.type "slice",data:=.fields #[vl,.none,vs] } }
 refine tail_any (ops:=[.ref a,.ref s3.heap.objs.size]) (T:="list") ht.isList.typeIs slot_list_getitem.lookup ?_ (by with_unfolding_all rfl)
 refine wpAny_getItem_list_slice ht.isList (Heap.IsSliceOf.new ..) pl .none ps s!"s" ?_ (by rw [List.size_toArray] <;> omega)
 rw [zjE its n hn];refine ⟨.ref _,_,I4.laid (t':=s3.toks) (o:=.lst (zL (xs.drop n))) (fun b ob q=>Heap.get?_push_of_some _ q) s!"+" ?_,rfl,q _ (I4.hok.fresh s!"+")⟩
 exact ⟨Nat.le_trans (zcj _) (by rw [List.length_drop];omega),_,0,zdn (r.drop n),Heap.get?_push_size _ rfl⟩
end
theorem zjF.Qa (h:te σ H fun x H1=>tl σ H1 fun k H2=>ts σ H2 fun j H3=>zox K x k j H3 Q):zjF K te tl ts σ H Q:=h
theorem zgR {a:Addr} {xs:List V} {k:Int} (n:Nat) (hk:k=(n:Int)) (hn:n<=1) (h1:SqL K H a xs) (h:∀p H',Same H H'->H p=none->H' p=some s!"uFM"->Q s!"]" H'):zox K s!"h" s!"n{k}" s!"BJ" H Q:=by
 subst hk;exact ⟨rfl,n,a,xs,rfl,hn,rfl,h1,fun p hp=>h p _ s!"BF" hp ze⟩
def zm9:List V->Hp->VK->Prop:=fun xs H Q=>∃i:Int,xs=[.int i]/\i.natAbs.log2<1920/\Q s!"Cj" H
def inS (i j:Str):Bool:=!s!"G2".isEmpty
def zqc:V->V->Hp->VK->Prop:=fun x y H Q=>∃i j,x=.str i/\y=.str j/\Q s!"!FN" H
theorem zF:zN X s!"E@" zm9:=zdT
theorem zjH:OpR X s!"E>" zqc:=zhj
variable {c:Nat}
theorem zm9.Qw {i:Int} (h1:i.natAbs.log2<1920) (h:Q s!"Cj" H):zm9 [.int i] H Q:=⟨i,rfl,h1,h⟩
theorem zqc.Qa {i j:Str} (h:Q s!"!FN" H):zqc s!"A2" s!"A@" H Q:=⟨i,j,rfl,rfl,h⟩
theorem zmR.Qv {z:Str} (hz:z.length<=sizeLine) (h:Q s!"EA" H):zmR [.str z] H Q:=⟨z,rfl,hz,h⟩
theorem _root_.And.Qa {B:Prop} (h:B):tyV K "str" s!"C`" H/\B:=⟨rfl,h⟩
theorem zl5 (h:c<128):inS ⟨#[c]⟩ "0123456789"=(decide (48<=c) && decide (c<=57)):=by
 have key:s!"A*{128}".all (fun c=>inS ⟨#[c]⟩ "0123456789"==(decide (48<=c) && decide (c<=57)))=true:=by decide+kernel
 have:=List.all_eq_true.mp key c s!"GR";simpa using this
variable {t:Str}
theorem yx:Txt.startswith t ⟨#[c]⟩=true↔∃cs,t.cps.toList=c::cs:=by
 obtain ⟨⟨l⟩⟩:=t;unfold Txt.startswith Builtin.Str.subAt;cases l with
 | nil=>
  constructor
  ·intro h;have h1:=s!"GS".1;have h1:0+1<=0:=of_decide_eq_true h1;omega
  ·rintro ⟨cs,h⟩;cases h
 | cons d r=>
  have e:(⟨d::r⟩:Array Nat).extract 0 (0+(⟨#[c]⟩:Str).length)=#[d]:=by
   show (⟨d::r⟩:Array Nat).extract 0 1=#[d];simp
  constructor
  ·intro h;have h2:=s!"GS".2;dsimp only at h2;rw [e] at h2;have h3:(#[d]:Array Nat)=#[c]:=beq_iff_eq.mp h2;have:d=c:=by simpa using h3
   exact ⟨r,by rw [this]⟩
  ·rintro ⟨cs,h⟩;have:d=c:=s!"Cp".1;refine Bool.and_eq_true_iff.mpr ⟨decide_eq_true (show 0+1<=r.length+1 by omega),?_⟩
   dsimp only;rw [e,this];exact beq_self_eq_true _
theorem za5 {cs:List Nat} (h:t.cps.toList=c::cs):(Txt.slice t s!"B%" none).cps.toList=cs:=by
 have e:Txt.slice t s!"B%" none=StrLaws.sliceText t s!"B%" none:=rfl;rw [e,StrLaws.sliceText_from ⟨by decide,by rw [h];simp only [List.length_cons];omega⟩]
 show (t.cps.toList.drop 1).take _=cs;rw [h];simp only [List.length_cons];rw [show ((((cs.length+1:Nat):Int)-1).toNat)=cs.length by omega]
 exact List.take_length
def jl (c:Nat):List s!"CW"->List Nat
 | []=>[]
 | [w]=>w
 | w::v::r=>w++c::jl c (v::r)
theorem zoA {c:Nat}:∀{as bs:List s!"CW"},as≠[]->bs≠[]->(∀w∈as,c∉w)->(∀w∈bs,c∉w)->jl c as=jl c bs->as=bs:=by
 have key:∀(w v x y:List Nat),c∉w->c∉v->w++c::x=v++c::y->w=v/\x=y:=by
  intro w
  induction w with
  | nil=>
   intro v x y _ hv h;cases v with
   | nil=>exact ⟨rfl,s!"Cp".2⟩
   | cons d v=>exact absurd (by rw [s!"Cp".1];exact List.mem_cons_self) hv
  | cons a w ih=>
   intro v x y hw hv h;cases v with
   | nil=>exact absurd (by rw [<-s!"Cp".1];exact List.mem_cons_self) hw
   | cons d v=>
    obtain ⟨e1,e2⟩:=List.cons.inj h;obtain ⟨e3,e4⟩:=ih v x y (fun z=>hw s!"GT") (fun z=>hv s!"GT") e2
    exact ⟨by rw [e1,e3],e4⟩
 intro as
 induction as with
 | nil=>intro bs h;exact absurd rfl h
 | cons a as ih=>
  intro bs _ hb fa fb h;cases bs with
  | nil=>exact absurd rfl hb
  | cons b bs=>
   cases as with
   | nil=>
    cases bs with
    | nil=>rw [show a=b from h]
    | cons b' bs=>
     have h:a=b++c::jl c (b'::bs):=h;exact absurd (by rw [h];exact List.mem_append_right _ List.mem_cons_self) s!"GU"
   | cons a' as=>
    cases bs with
    | nil=>
     have h:a++c::jl c (a'::as)=b:=h;exact absurd (by rw [<-h];exact List.mem_append_right _ List.mem_cons_self) s!"GV"
    | cons b' bs=>
     obtain ⟨e1,e2⟩:=key a b _ _ s!"GU" s!"GV" (show a++c::jl c (a'::as)=b++c::jl c (b'::bs) from h)
     rw [e1,ih s!"s" s!"s" (fun w hw=>fa w s!"CF") (fun w hw=>fb w s!"CF") e2]
theorem zau (c:Nat):∀ws:List Str,(Str.join ⟨#[c]⟩ ws).cps.toList=jl c (ws.map fun w=>w.cps.toList)
 | []=>rfl
 | [_]=>rfl
 | w::v::r=>by
  show ((w++⟨#[c]⟩++Str.join ⟨#[c]⟩ (v::r)):Str).cps.toList=w.cps.toList++c::jl c ((v::r).map fun w=>w.cps.toList)
  rw [<-zau c (v::r),Str.cps_append,Str.cps_append,Array.toList_append,Array.toList_append];simp
theorem yY (x:Str) (c:Nat):Txt.split x ⟨#[c]⟩≠[]:=fun h=>by
 unfold Txt.split at h;split at h
 ·cases h
 ·rename_i h1;split at h
  ·cases h
  ·rename_i h2;have:=StrLaws.join_split x ⟨#[c]⟩;unfold Txt.split at this;rw [if_neg h1,if_neg h2,h] at this;rw [<-this] at h1;exact h1 (Bool.or_eq_true_iff.mpr s!"${decide_eq_true (show 0<1 by decide)}")
theorem zck {ws:List Str} (ne:ws≠[]) (hf:∀w∈ws,c∉w.cps.toList):Txt.split (Txt.join ⟨#[c]⟩ ws) ⟨#[c]⟩=ws:=by
 have e1:Txt.join ⟨#[c]⟩ ws=Str.join ⟨#[c]⟩ ws:=StrLaws.glued_eq_join _ _;have e2:=StrLaws.join_split (Txt.join ⟨#[c]⟩ ws) ⟨#[c]⟩;have e3:=congrArg (fun x:Str=>x.cps.toList) (e2.trans e1)
 have e3:(Str.join ⟨#[c]⟩ (Txt.split (Txt.join ⟨#[c]⟩ ws) ⟨#[c]⟩)).cps.toList=(Str.join ⟨#[c]⟩ ws).cps.toList:=e3;rw [zau,zau] at e3;have e4:=zoA (c:=c) (fun z=>yY _ c (List.map_eq_nil_iff.mp z)) (fun z=>ne (List.map_eq_nil_iff.mp z)) (fun w hw=>by
  obtain ⟨x,hx,rfl⟩:=List.mem_map.mp hw;exact StrLaws.split_free _ c x hx) (fun w hw=>by
  obtain ⟨x,hx,rfl⟩:=List.mem_map.mp hw;exact hf x hx) e3
 exact (List.map_inj_right (f:=fun w:Str=>w.cps.toList) (fun a b h=>Str.ext' s!"Es{h}")).mp e4
end L2
namespace L2
open PySem PySem.Spec PyProof.Rows PySem.W PySem.NumText
def zz (t:Str):Str:=if Txt.startswith t "-"=true then Txt.slice t s!"B%" none else t
def wW (t:Str):Bool:=t.cps.toList.all fun c=>decide (48<=c) && decide (c<=57)
def zh (t:Str):Bool:=!decide (zz t="") && decide (s!"Aa".length<=60) && wW s!"Aa" && (decide (t="0") || !Txt.startswith s!"Aa" "0")
def Asc (t:Str):Prop:=t.cps.all (·<128)=true
variable {t:Str} {c:Nat}
theorem Asc.at (h:Asc t) {i:Nat} (hc:t.cps[i]? =some c):c<128:=by
 have:=Array.all_eq_true_iff_forall_mem.mp h c (Array.mem_of_getElem? hc);simpa using this
theorem Asc.slice (h:Asc t) (l u:Option Int):Asc (Txt.slice t l u):=by
 unfold Txt.slice;split
 ·exact h
 ·refine Array.all_eq_true_iff_forall_mem.mpr fun c hc=>?_
  obtain ⟨i,_,hi⟩:=List.mem_filterMap.mp (List.mem_toArray.mp hc);simpa using h.at hi
theorem zjJ (h:Asc t):Asc s!"Aa":=by
 unfold zz;split
 ·exact h.slice _ _
 ·exact h
theorem zjK (t:Str):s!"Aa".length<=t.length:=by
 unfold zz;split
 ·exact Txt.slice_le _ _ _
 ·exact Nat.le_refl _
def dg (m:Nat):List Nat:=(Nat.toDigits 10 m).map Char.toNat
def zhS (n:Int):List Nat:=if n<0 then 45::dg n.natAbs else dg n.natAbs
theorem zbX (n:Int):s!"Bq".cps.toList=zhS n:=by
 unfold zhS;split
 ·rename_i h;rw [signs_ofString,Int.toString_eq_repr,Int.repr_eq_if,if_neg s!"c"]
  rw [show (-n).toNat=n.natAbs by omega,String.toList_append,List.map_append,Nat.toList_repr]
  rfl
 ·rename_i h;obtain ⟨m,rfl⟩:=Int.eq_ofNat_of_zero_le (show 0<=n by omega)
  exact KIN.signs_num m
theorem yw (m:Nat):AllDigits (dg m):=by
 intro c hc;obtain ⟨ch,hch,e⟩:=List.mem_map.mp hc;have r:=digit_range (Nat.isDigit_of_mem_toDigits s!"d" s!"d" hch)
 rw [<-e];exact r
theorem zgS (m:Nat):dg m≠[]:=by
 intro e;have h:=toDigits_len_ge 10 m;rw [List.map_eq_nil_iff.mp e] at h;exact absurd h s!"d"
theorem zjL (m:Nat):digitsVal (dg m)=m:=KIN.val_back m
variable {m k:Nat}
theorem zjM (hk:0<k) (h:m<10^k):(dg m).length<=k:=by
 unfold dg;rw [List.length_map,<-Nat.toList_repr,String.length_toList];exact (Nat.length_repr_le_iff hk).mpr h
theorem zl6 (hm:m≠0):∀{c:Nat} {cs:List Nat},dg m=c::cs->c≠48:=by
 induction m using Nat.strongRecOn with
 | _ m ih=>
  intro c cs h
  by_cases h10:m<10
  ·unfold dg at h;rw [Nat.toDigits_of_lt_base h10] at h;have e:(Nat.digitChar m).toNat=c:=s!"Cp".1;rw [<-e];have key:∀d:Nat,d<10->d≠0->(Nat.digitChar d).toNat≠48:=by decide
   exact key m h10 hm
  ·have hl:m%10<10:=Nat.mod_lt m s!"d"
   have t:Nat.toDigits 10 (m / 10)++Nat.toDigits 10 (m%10)=Nat.toDigits 10 (10*(m / 10)+m%10):=Nat.toDigits_append_toDigits s!"d" s!"c" hl
   rw [Nat.div_add_mod] at t;have e:dg m=dg (m / 10)++(Nat.toDigits 10 (m%10)).map Char.toNat:=by
    unfold dg;rw [<-t,List.map_append]
   cases hd:dg (m / 10) with
   | nil=>exact absurd hd (zgS _)
   | cons a as=>
    rw [e,hd] at h;have:a=c:=s!"Cp".1;rw [<-this];exact ih (m / 10) s!"c" s!"c" hd
theorem zdo {n:Int} (h:c∈s!"Bq".cps.toList):c=45\/(48<=c/\c<=57):=by
 rw [zbX] at h;unfold zhS at h;split at h
 ·rcases List.mem_cons.mp h with z | z
  ·exact .inl z
  ·exact .inr (yw _ c z)
 ·exact .inr (yw _ c h)
theorem zl7 (n:Int):Asc s!"Bq":=by
 refine Array.all_eq_true_iff_forall_mem.mpr fun c hc=>?_
 have:=zdo (n:=n) (Array.mem_toList_iff.mpr hc);simp only [decide_eq_true_eq];omega
theorem yt (t:Str):t.length=t.cps.toList.length:=rfl
variable {n:Int}
theorem wX {k:Nat} (hk:0<k) (h:n.natAbs<10^k):s!"Bq".length<=k+1:=by
 rw [yt,zbX];have:=zjM hk h;unfold zhS;split
 ·simp only [List.length_cons];omega
 ·omega
def zo (t:Str):Int:=(PySem.intText? t).getD 0
theorem xP:s!"Fj"=⟨#[45]⟩:=by decide+kernel
theorem zl8:s!"DH"=⟨#[48]⟩:=by decide+kernel
theorem zjN (n:Int):s!"CX".cps.toList=dg n.natAbs:=by
 have e:=zbX n;unfold zhS at e;unfold zz;rw [xP]
 by_cases h:n<0
 ·rw [if_pos h] at e;rw [if_pos (yx.mpr ⟨_,e⟩)];exact za5 e
 ·rw [if_neg h] at e;rw [if_neg (fun z=>?_)]
  ·exact e
  ·obtain ⟨cs,hc⟩:=yx.mp z;rw [e] at hc;have:=yw n.natAbs 45 (by rw [hc];exact List.mem_cons_self)
   omega
theorem zdp (h:n.natAbs<10^60):zh s!"Bq"=true:=by
 have e:=zjN n;have ne:=zgS n.natAbs;unfold zh;have h1:¬zz s!"Bq"=Str.ofString "":=fun z=>by
  rw [z] at e;exact ne e.symm
 have h2:s!"CX".length<=60:=by
  rw [yt,e];exact zjM s!"d" h
 have h3:wW s!"CX"=true:=by
  unfold wW;rw [e];exact List.all_eq_true.mpr fun c hc=>by
   have:=yw _ c hc;simp only [Bool.and_eq_true,decide_eq_true_eq];exact this
 have h4:(decide (s!"Bq"=Str.ofString "0") || !Txt.startswith s!"CX" s!"DH")=true:=by
  by_cases z:n=0
  ·subst z;rw [decide_eq_true s!"f"]
   rfl
  ·have:¬Txt.startswith s!"CX" s!"DH"=true:=fun y=>by
    rw [zl8] at y;obtain ⟨cs,hc⟩:=yx.mp y;rw [e] at hc;exact zl6 s!"c" hc rfl
   rw [Bool.eq_false_iff.mpr this,Bool.not_false,Bool.or_true]
 rw [decide_eq_false h1,decide_eq_true h2,h3,h4];rfl
theorem zjO (h:n.natAbs<10^600):PySem.intText? s!"Bq"=some n:=by
 have e:=zbX n;have hl:=wX (k:=600) s!"d" h
 unfold zhS at e
 by_cases z:n<0
 ·rw [if_pos z] at e;have:=intText_neg e (yw _) (zgS _) s!"GW"
  rw [zjL] at this;rw [this];congr 1;omega
 ·rw [if_neg z] at e;have:=intText_digits (by rw [e];exact yw _) (by rw [e];exact zgS _) s!"GW"
  rw [e,zjL] at this;rw [this];congr 1;omega
theorem zbv (h:zh t=true):PySem.intText? t=some (zo t)/\t.length<=61:=by
 unfold zh at h;simp only [Bool.and_eq_true,Bool.not_eq_true',decide_eq_false_iff_not,decide_eq_true_eq] at h;obtain ⟨⟨⟨h1,h2⟩,h3⟩,_⟩:=h;have ad:AllDigits s!"Aa".cps.toList:=fun c hc=>by
  have:=List.all_eq_true.mp h3 c hc;simpa using this
 have ne:s!"Aa".cps.toList≠[]:=fun z=>h1 (Str.ext' s!"Es{by rw [z];rfl}")
 by_cases z:Txt.startswith t s!"Fj"=true
 ·rw [xP] at z;obtain ⟨cs,hc⟩:=yx.mp z;have e:zz t=Txt.slice t s!"B%" none:=by
   unfold zz;rw [xP,if_pos z]
  have ec:=za5 hc;rw [<-e] at ec;rw [ec] at ad ne;have lt:t.length<=61:=by
   rw [yt] at h2 ⊢;rw [ec] at h2;rw [hc];simp only [List.length_cons];omega
  have:=intText_neg hc ad ne s!"GX"
  unfold zo;rw [this];exact ⟨rfl,lt⟩
 ·have e:zz t=t:=by
   unfold zz;rw [if_neg z]
  rw [e] at ad ne h2;have:=intText_digits ad ne s!"GY"
  unfold zo;rw [this];exact ⟨rfl,by omega⟩
theorem zdq (h:n.natAbs<10^600):zo s!"Bq"=n:=by
 unfold zo;rw [zjO h];rfl
theorem zqd (h:t.length<=k) (hk:k<=16000000):t.length<=sizeLine:=Nat.le_trans h s!"By{hk}"
theorem zl9 {a b:Str} {i j:Nat} (ha:a.length<=i) (hb:b.length<=j):(a++b).length<=i+j:=by
 rw [Str.length_append];omega
theorem zjt.Qu {i j:Str} {H:Hp} {Q:VK} (hz:(i++j).length<=sizeLine) (h:Q s!"z{(i++j)}" H):zjt s!"A2" s!"A@" H Q:=zlX (by rw [<-Str.length_append];exact hz) h
end L2
namespace L2
open PySem PySem.Spec PyProof.Rows
section
variable {σ:St} {H:Hp} {Q:VK} {K:PySem.W.Frag}
end
end L2
namespace L2
open PySem PyProof.Rows
def isI (p:Keyed):Prop:=∃n t,p.1=Value.int n t
variable {prog:Program} {w:World} {A:Around} {E:Value->Shared->Prop} {s:Shared}
variable {xs:List Keyed}
section
variable {R:Keyed->Keyed->Prop} {T o ra rb:List Keyed}
end
variable {p:Keyed}
section
variable {a b out:Array Keyed} {T ys:List Keyed} {ia ib:Nat}
end
section
variable {a b out:Array Keyed} {T ys:List Keyed} {na nb:Nat}
end
variable {a₀ b0:Array Keyed} {lo:Nat} {pd:Array (Nat×Nat×Nat)}
section
variable {st:SortSt}
end
end L2
namespace L2
open PySem PySem.Spec PyProof.Rows
variable {K:PySem.W.Frag} {H:Hp} {Q:VK}
section
variable {X:Cx}
end
section
variable {σ:St}
end
end L2
namespace L2
open PySem PySem.Spec PyProof.Rows PySem.W Builtin Builtin.Str
variable {X:Cx}
def zna:V->V->Hp->VK->Prop:=fun x y H Q=>∃(a:Str) (n:Int),x=.str a/\y=.int n/\MulOk a n/\Q s!"GZ" H
theorem zbY:OpR X s!"D?" zna:=by
 intro pins s σ H x y v u Q I rx ry h;obtain ⟨a,n,rfl,rfl,ok,q⟩:=h;obtain ⟨t,rfl⟩:=rx;obtain ⟨t',rfl⟩:=ry;exact SB.mul ok fun t' k=>⟨.str _,H,I.tok _,⟨_,rfl⟩,q⟩
variable {σ:St} {H:Hp} {Q:VK}
section
variable {K:PySem.W.Frag} {D:Ends}
theorem zbZ {a:Str} {n:Int} (ok:MulOk a n) (h:Q s!"GZ" H):zna s!"CV" s!"Bo" H Q:=⟨a,n,rfl,rfl,ok,h⟩
theorem zoB {z:Str} {i:Int} (c:Nat) (hz:z.length<=sizeLine) (hc:atI z.cps.toList i=some c) (h:Q s!"z{⟨#[c]⟩}" H):zpr s!"z{z}" s!"=" H Q:=⟨z,i,c,rfl,rfl,hz,hc,h⟩
end
variable {c:Nat}
theorem zjP:∀{ws:List s!"CW"} {w:List Nat} {x:Nat},w∈ws->x∈w->x∈jl c ws
 | [w],_,_,h,hx=>by
  rw [List.mem_singleton] at h;subst h;exact hx
 | w::v::r,u,x,h,hx=>by
  show x∈w++c::jl c (v::r);rcases List.mem_cons.mp h with z | z
  ·subst z;exact List.mem_append_left _ hx
  ·exact List.mem_append_right _ s!"Ds{zjP z hx}"
theorem zed {c:Nat}:∀{ws:List s!"CW"},ws≠[]->s!"Ha".sum+ws.length=(jl c ws).length+1
 | [],h=>absurd rfl h
 | [w],_=>by simp [jl]
 | w::v::r,_=>by
  have:=zed (c:=c) (ws:=v::r) s!"s"
  show w.length+((v::r).map List.length).sum+((v::r).length+1)=(w++c::jl c (v::r)).length+1;simp only [List.length_append,List.length_cons] at this ⊢;omega
theorem zgT:∀{ws:List s!"CW"} {w:List Nat},w∈ws->w.length<=s!"Ha".sum
 | v::r,w,h=>by
  show _<=v.length+(r.map List.length).sum;rcases List.mem_cons.mp h with z | z
  ·subst z;omega
  ·have:=zgT z;omega
theorem wv (t:Str) (c:Nat):jl c ((Txt.split t ⟨#[c]⟩).map fun w=>w.cps.toList)=t.cps.toList:=by
 rw [<-zau,StrLaws.join_split]
theorem zdr (t:Str) (c:Nat):(Txt.split t ⟨#[c]⟩).length<=t.length+1:=by
 have h:=zed (c:=c) (ws:=(Txt.split t ⟨#[c]⟩).map fun w=>w.cps.toList) (fun z=>yY t c (List.map_eq_nil_iff.mp z))
 rw [wv,List.length_map] at h;rw [yt];omega
variable {t:Str}
theorem xQ {w:Str} (h:w∈Txt.split t ⟨#[c]⟩):w.length<=t.length/\∀x∈w.cps.toList,x∈t.cps.toList:=by
 have hm:w.cps.toList∈(Txt.split t ⟨#[c]⟩).map fun w=>w.cps.toList:=List.mem_map.mpr ⟨w,h,rfl⟩
 have hl:=zed (c:=c) (ws:=(Txt.split t ⟨#[c]⟩).map fun w=>w.cps.toList) (fun z=>yY t c (List.map_eq_nil_iff.mp z))
 have hs:=zgT hm;have ne:1<=(Txt.split t ⟨#[c]⟩).length:=by
  cases hz:Txt.split t ⟨#[c]⟩ with
  | nil=>exact absurd hz (yY t c)
  | cons _ _=>simp
 rw [wv,List.length_map] at hl;refine ⟨by rw [yt,yt];omega,fun x hx=>?_⟩
 rw [<-wv t c];exact zjP hm hx
theorem Asc.iff:Asc t↔∀x∈t.cps.toList,x<128:=by
 unfold Asc;rw [Array.all_eq_true_iff_forall_mem];constructor
 ·intro h x hx;simpa using h x (Array.mem_toList_iff.mp hx)
 ·intro h x hx;simpa using h x (Array.mem_toList_iff.mpr hx)
theorem Asc.split {w:Str} (a:Asc t) (h:w∈Txt.split t ⟨#[c]⟩):Asc w:=Asc.iff.mpr fun x hx=>Asc.iff.mp a x ((xQ h).2 x hx)
theorem zhT (h:zh t=true):zo t=if Txt.startswith t "-"=true then -((PySem.NumText.digitsVal s!"Aa".cps.toList:Nat):Int) else ((PySem.NumText.digitsVal s!"Aa".cps.toList:Nat):Int):=by
 unfold zh at h;simp only [Bool.and_eq_true,Bool.not_eq_true',decide_eq_false_iff_not,decide_eq_true_eq] at h;obtain ⟨⟨⟨h1,h2⟩,h3⟩,_⟩:=h;have ad:NumText.AllDigits s!"Aa".cps.toList:=fun c hc=>by
  have:=List.all_eq_true.mp h3 c hc;simpa using this
 have ne:s!"Aa".cps.toList≠[]:=fun z=>h1 (Str.ext' s!"Es{by rw [z];rfl}")
 by_cases z:Txt.startswith t s!"Fj"=true
 ·rw [if_pos z];rw [xP] at z;obtain ⟨cs,hc⟩:=yx.mp z;have e:zz t=Txt.slice t s!"B%" none:=by
   unfold zz;rw [xP,if_pos z]
  have ec:=za5 hc;rw [<-e] at ec;rw [ec] at ad ne ⊢;have lt:t.length<=61:=by
   rw [yt] at h2 ⊢;rw [ec] at h2;rw [hc];simp only [List.length_cons];omega
  have:=intText_neg hc ad ne s!"GX"
  unfold zo;rw [this];rfl
 ·rw [if_neg z];have e:zz t=t:=by
   unfold zz;rw [if_neg z]
  rw [e] at ad ne h2 ⊢;have:=intText_digits ad ne s!"GY"
  unfold zo;rw [this];rfl
theorem zds:∀(l:List Nat) (n k:Nat),(∀c∈l,48<=c/\c<=57)->n<10^k->l.foldl (fun acc c=>acc*10+(c-48)) n<10^(k+l.length)
 | [],n,k,_,h=>h
 | c::l,n,k,hd,h=>by
  rw [List.foldl_cons,List.length_cons,show k+(l.length+1)=(k+1)+l.length by omega]
  have:=hd c List.mem_cons_self;refine zds l _ _ (fun x hx=>hd x s!"DI") ?_
  rw [Nat.pow_succ];omega
theorem zfa (h:zh t=true):(zo t).natAbs<10^60:=by
 have e:=zhT h;unfold zh at h;simp only [Bool.and_eq_true,Bool.not_eq_true',decide_eq_false_iff_not,decide_eq_true_eq] at h;obtain ⟨⟨⟨h1,h2⟩,h3⟩,_⟩:=h;have ad:∀c∈s!"Aa".cps.toList,48<=c/\c<=57:=fun c hc=>by
  have:=List.all_eq_true.mp h3 c hc;simpa using this
 have k:=zds _ 0 0 ad s!"d"
 have k2:10^(0+s!"Aa".cps.toList.length)<=10^60:=Nat.pow_le_pow_right s!"d" (by rw [yt] at h2;omega)
 have k3:NumText.digitsVal s!"Aa".cps.toList<10^60:=Nat.lt_of_lt_of_le k k2;rw [e];split <;> omega
section
variable {e a b o:Expr} {es:List Expr} {t:TA} {te ta tb to:TE} {pos apos cpos:Pos}
end
end L2
namespace L2
open PySem PySem.Spec PyProof.Rows
section
variable {σ:St} {H:Hp} {Q:VK} {K:PySem.W.Frag}
theorem zee {te:TE} {vs:St} {lo:Int} {n:Nat} (row:Int->List V) (hz:n<=1000) (he:∀(i:Nat) (k:Int) H' (Q':VK),i<n->k=lo+i->Same H H'->(∀t H2,Same H' H2->H2 t=some s!"6{row k}"->Q' s!"'" H2)->te (some s!"2{k}"::vs) H' Q')
 (h:∀D H' (as:List Addr),Same H H'->H D=none->H' D=some s!"Cn"->as.length=n->(∀(j:Nat) (x:Addr),as[j]? =some x->H' x=some s!"6{row (lo+(j:Nat))}")->Q s!";" H'):zcb te vs s!"Ch" H Q:=by
 intro D hD;refine ⟨fun i m zs H'=>m=n-i/\i<=n/\Same H H'/\∃as:List Addr,zs=as.map V.ref/\as.length=i/\H' D=some s!"Bm"/\∀(j:Nat) (x:Addr),as[j]? =some x->H' x=some s!"6{row (lo+(j:Nat))}",⟨n,by simp,Nat.zero_le _,Same.new hD _,[],rfl,rfl,ze,fun j x z=>by simp at z⟩,?_⟩
 rintro i m zs H' ⟨rfl,hi,hs,as,rfl,hl,eD,hT⟩;refine ⟨eD,?_⟩
 by_cases hlt:i<n
 ·refine .inr ⟨hlt,?_,fun x H2 y=>?_⟩
  ·rw [List.length_map,hl];exact zk s!"c"
  ·obtain ⟨rfl,rfl⟩:=y;refine he i _ _ _ hlt rfl hs fun t H2 s2 e2=>⟨s2.obj eD,n-(i+1),by omega,rfl,hlt,s!"Cm".upd hD,as++[t],by simp,by simp [hl],ze,fun j x hx=>?_⟩
   have key:H2 x=some s!"6{row (lo+(j:Nat))}":=by
    rcases Nat.lt_or_ge j as.length with z | z
    ·rw [List.getElem?_append_left z] at hx;exact s2.obj (hT j x hx)
    ·rw [List.getElem?_append_right z] at hx;have z0:j-as.length=0:=by
      rcases Nat.eq_zero_or_pos (j-as.length) with z1 | z1
      ·exact z1
      ·rw [List.getElem?_eq_none (by simp;omega)] at hx
       cases hx
     rw [z0] at hx;cases hx;rw [show j=i by omega]
     exact e2
   have ne:x≠D:=fun z=>by
    rw [z,s2.obj eD] at key;cases key
   rw [zf ne];exact key
 ·have e:i=n:=by omega
  subst e;exact .inl ⟨Nat.le_refl _,h D H' as hs hD eD hl hT⟩
end
theorem xR {α:Type}:∀(l:List α) (i:Nat),(zL l)[i]? =l[2*i]?
 | [],i=>by simp [zL]
 | [x],0=>rfl
 | [x],i+1=>by
  show ([x]:List α)[i+1]? =([x]:List α)[2*(i+1)]?;rw [List.getElem?_eq_none s!"s",List.getElem?_eq_none (by simp;omega)]
 | x::y::r,0=>rfl
 | x::y::r,i+1=>by
  show (zL r)[i]? =(x::y::r)[2*(i+1)]?;rw [xR r i,show 2*(i+1)=(2*i+1)+1 by omega,List.getElem?_cons_succ,List.getElem?_cons_succ]
theorem zM {α:Type}:∀(l:List α),(zL l).length=(l.length+1) / 2
 | []=>by simp [zL]
 | [_]=>by simp [zL]
 | x::y::r=>by
  show (zL r).length+1=(r.length+1+1+1) / 2;rw [zM r];omega
end L2
namespace L2
open PySem PySem.Spec PyProof.Rows PySem.W
def zG (n:Int):Str:=Str.ofString (toString n)
def zjQ (a b:Int):Str:=if b=1 then zG a else zG a++"/"++zG b
def wI (n:Int):Prop:=n.natAbs<10^570
variable {n:Int}
theorem wI.log (h:wI n):n.natAbs.log2<1920:=Nat.lt_trans (Bd.log2 (n:=1900) (by show Int.natAbs _<_;exact Nat.lt_trans h s!"d") s!"d") s!"d"
theorem wI.len (h:wI n):s!"A|".length<=571:=wX s!"d" h
def zhU (a b c d:Int):Str:=Txt.join " " [zG a,zG b,zG c,zG d]
theorem zhV (ws:List Str) (sep:Str):∀n:Nat,ws.foldl (fun x w=>x+w.length+sep.length) n=n+(ws.map fun w=>w.length+sep.length).sum:=by
 induction ws with
 | nil=>intro n;simp
 | cons w ws ih=>
  intro n;rw [List.foldl_cons,ih,List.map_cons,List.sum_cons];omega
variable {sep:Str} {ws:List Str}
theorem zav {k:Nat} (h1:sep.length<=10) (h2:ws.length<=1000) (h3:∀w∈ws,w.length<=k) (hk:k<=10000):JoinOk sep ws=true:=by
 have key:(ws.map fun w=>w.length+sep.length).sum<=ws.length*10010:=by
  clear h2
  induction ws with
  | nil=>simp
  | cons w ws ih=>
   rw [List.map_cons,List.sum_cons,List.length_cons];have a:=h3 w List.mem_cons_self;have b:=ih fun x hx=>h3 x s!"DI"
   omega
 unfold JoinOk;rw [<-Array.foldl_toList,List.toList_toArray,zhV];unfold Builtin.Str.tooLong;rw [Bool.not_eq_true',decide_eq_false_iff_not];have:sizeLine=16777216:=rfl;omega
def wS (p:Bool×Int):Str:=ltr p.1++" "++zG p.2
def zgU (ws:List (Bool×Int)):Str:=if ws=[] then "none" else Txt.join " " s!"CY"
theorem zaw:s!"DJ"=⟨#[32]⟩:=by decide+kernel
theorem zfb {c:Nat} (h:c=32\/c=47):c∉s!"A|".cps.toList:=fun z=>by
 have:=zdo z;omega
def flat (ws:List (Bool×Int)):List Str:=ws.flatMap fun p=>[ltr p.1,zG p.2]
theorem zcl:∀ws:List (Bool×Int),s!"BK".length=2*ws.length
 | []=>rfl
 | p::ws=>by
  show s!"BK".length+1+1=2*(ws.length+1);rw [zcl ws];omega
theorem za6:∀ws:List (Bool×Int),Str.join " " s!"CY"=Str.join " " s!"BK"
 | []=>rfl
 | [p]=>rfl
 | p::r::ws=>by
  show wS p++" "++Str.join " " ((r::ws).map wS)=ltr p.1++" "++(zG p.2++" "++Str.join " " (flat (r::ws)));rw [za6 (r::ws)];unfold wS;simp only [Str.append_assoc]
theorem zjR (b:Bool):32∉(ltr b).cps.toList:=by cases b <;> decide+kernel
theorem zcm {ws:List (Bool×Int)} (hw:ws≠[]):Txt.split (zgU ws) " "=flat ws:=by
 rw [show zgU ws=Txt.join " " s!"CY" from if_neg hw]
 have e:Txt.join " " s!"CY"=Txt.join " " s!"BK":=by
  show Builtin.Str.glued _ _=Builtin.Str.glued _ _;rw [StrLaws.glued_eq_join,StrLaws.glued_eq_join,za6]
 rw [e,zaw];refine zck (fun z=>hw (List.length_eq_zero_iff.mp (by have:=zcl ws;rw [z] at this;simp at this;omega))) fun w h=>?_
 obtain ⟨p,_,hp⟩:=List.mem_flatMap.mp h;simp only [List.mem_cons,List.not_mem_nil,or_false] at hp;rcases hp with rfl | rfl
 ·exact zjR _
 ·exact zfb s!"["
theorem xS {t:Str} (h:t.cps.all (·<128)=true):Asc t:=h
theorem Asc.app {a b:Str} (ha:Asc a) (hb:Asc b):Asc (a++b):=by
 rw [Asc.iff] at ha hb ⊢;intro x hx;rw [Str.cps_append,Array.toList_append] at hx;rcases List.mem_append.mp hx with h | h
 ·exact ha x h
 ·exact hb x h
theorem Asc.joinS (hs:Asc sep):∀{ws:List Str},(∀w∈ws,Asc w)->Asc (Str.join sep ws)
 | [],_=>xS (t:=Str.empty) s!"f"
 | [w],h=>h w List.mem_cons_self
 | w::v::r,h=>((h w List.mem_cons_self).app hs).app (Asc.joinS hs (ws:=v::r) fun x hx=>h x s!"DI")
theorem Asc.join (hs:Asc sep) (h:∀w∈ws,Asc w):Asc (Txt.join sep ws):=by
 rw [show Txt.join sep ws=Str.join sep ws from StrLaws.glued_eq_join _ _]
 exact Asc.joinS hs h
theorem zfc {k n m:Nat} (hs:sep.length<=m) (hn:ws.length<=n) (h:∀w∈ws,w.length<=k):(Txt.join sep ws).length<=n*(k+m):=by
 rw [show Txt.join sep ws=Str.join sep ws from StrLaws.glued_eq_join _ _]
 refine Nat.le_trans (StrLaws.join_length_le _ _) ?_;have key:(ws.map fun x=>x.length).sum<=ws.length*k:=by
  clear hn
  induction ws with
  | nil=>simp
  | cons w ws ih=>
   rw [List.map_cons,List.sum_cons,List.length_cons,Nat.add_mul];have a:=h w List.mem_cons_self;have b:=ih fun x hx=>h x s!"DI"
   omega
 have k2:ws.length*sep.length<=ws.length*m:=Nat.mul_le_mul_left _ hs;have k3:ws.length*(k+m)<=n*(k+m):=Nat.mul_le_mul_right _ hn;rw [Nat.mul_add] at k3;omega
theorem zjS (ws:List Str):(ws.map fun x=>x.length).sum=((ws.map fun w=>w.cps.toList).map List.length).sum:=by
 induction ws with
 | nil=>rfl
 | cons w ws ih=>
  rw [List.map_cons,List.sum_cons,ih,List.map_cons,List.map_cons,List.sum_cons];rfl
theorem zhW (t:Str) (c:Nat):((Txt.split t ⟨#[c]⟩).map fun x=>x.length).sum+(Txt.split t ⟨#[c]⟩).length=t.length+1:=by
 have h:=zed (c:=c) (ws:=(Txt.split t ⟨#[c]⟩).map fun w=>w.cps.toList) (fun z=>yY t c (List.map_eq_nil_iff.mp z))
 rw [wv,List.length_map] at h;rw [zjS,yt];exact h
theorem zjT:Asc s!"DJ":=xS s!"f"
end L2
namespace L2
open PySem PySem.Spec PyProof.Rows
variable {X:Cx}
section
variable {H:Hp} {Q:VK} {K:PySem.W.Frag}
theorem zfd {a:Addr} {ts:List Str} {i:Int} (h1:SqL K H a s!"DK") (h0:0<=i) (h2:i<ts.length) (h:∀t,ts[i.toNat]? =some t->Q s!"^" H):zfY K s!"h" s!"=" H Q:=by
 obtain ⟨t,ht⟩:∃t,ts[i.toNat]? =some t:=⟨_,List.getElem?_eq_getElem s!"c"⟩
 refine zfY.Qr (v:=.str t) h1 ?_ (h t ht);have e:=xg (xs:=ts.map V.str) (j:=i.toNat) (v:=.str t) (by rw [List.getElem?_map,ht];rfl)
 rw [show ((i.toNat:Nat):Int)=i by omega] at e
 exact e
theorem zfe (t:Str):∀ts:List Str,inV s!"^" s!"DK"=decide (t∈ts)
 | []=>by simp [inV]
 | u::ts=>by
  have ih:=zfe t ts
  by_cases h:t=u
  ·subst h;simp [inV,eqV]
  ·simp only [inV,List.map_cons,List.any_cons] at ih ⊢;rw [ih];simp [eqV,h,Ne.symm h]
theorem zdt:∀ts:List Str,s!"DK".all zX=true
 | []=>rfl
 | _::ts=>zdt ts
theorem zB {p:Addr} {t:Str} (ts:List Str) (h1:SqT K H p s!"DK") (h:Q s!"!{(decide (t∈ts))}" H):rIn K false s!"^" s!"]" H Q:=⟨p,_,rfl,.inr h1,rfl,zdt ts,by rw [zfe];exact h⟩
end
section
variable {k:Nat} {ps:List Str} {sp:Sp} {W:Value->Option Addr->St->Hp->Prop} {x:Str} {p pos:Pos}
theorem zjU (D:Def X.prog X.w X.K X.mg X.base s!"B!" k x ps sp) (hr:Room k X.A) (hg:Gl X x) (hx:XPass X W) (hdb:(x==("__debug__":Str))=false:=by decide):
 PE X (.Call (.Name x p) [] [] pos) (zf0 sp W ziv):=by
 obtain ⟨f,fd,F,m,kp,b,_⟩:=D.ex;intro pins s σ H Q I h;refine wpAny_Call_Name_kw s!"G?";refine PySem.W.callWith_K0 I.kIn kp ?_;have hl:(([]:List Value)++[]).length=ps.length:=(F.len _ _ _ _ h);have bnd:=b s [] I.kIn hl;rw [List.append_nil] at bnd;refine wpAny_call (codeAny_mono (F.run X.A X.stack s H ⟨[],[]⟩ [] [] Q _ hr I.env0 bnd .nil h) fun res s2 hq=>?_)
 cases res with
 | error ex=>exact hx.call pins σ H s ex s2 I hq
 | ok fl=>
  cases fl with
  | ret u=>exact I.after hq
  | next=>exact False.elim hq
  | brk=>exact False.elim hq
  | cont=>exact False.elim hq
end
end L2
namespace L2
open PySem PySem.Spec PyProof.Rows PySem.W
variable {A:Around} {E:Value->Shared->Prop} {s:Shared} {outer:List Env} {env:Env}
section
variable {M:Model} {B:Heap} {e L:Addr} {c a0:Value} {dx:Option Addr} {Q:Unit->Shared->Prop}
theorem zI.leavesHeld (hf:env.frame=some L) (x:zI B (env::outer) e c a0 dx s!"BG" s.heap) (k:∀h',zI B outer e c a0 dx .none h'->s.heap.UpToSlots h'->Q () { s with heap:=h' }):wpAny M A s!"EL" Q E s:=by
 obtain ⟨_,_,T,oe,vs,oT,ts,⟨y1,y2,_,_,_,y6,_⟩,_,_,t3,t4,t5⟩:=id x;unfold leaving noteFrame;simp only [hf];refine wpAny_bind s!"4Hb";rw [if_pos s!"s"]
 refine wpAny_bind s!"AA{t3}{t4}{t5}{?_}";rw [if_pos s!"s"]
 exact wpAny_pure (x.lands fun h2 x2 u2=>k h2 x2.tail u2)
theorem zI.back (hf:env.frame=some L) (x:zI B (env::outer) e c a0 dx s!"BG" s.heap) (k:∀h',zI B (env::outer) e c a0 dx s!"BG" h'->s.heap.UpToSlots h'->E s!"Aj" { s with heap:=h' }):cameBackBy M A env E s!"Aj" s:=by
 obtain ⟨_,_,T,oe,vs,oT,ts,⟨y1,y2,_,_,_,y6,_⟩,_⟩:=id x;unfold cameBackBy;refine wpAny_bind s!"Hb";rw [if_neg s!"s"]
 refine x.mark s!"BG" fun T oe vs oT ts y1 y2 y3 t1 t2 t3 ⟨x1,x2⟩=>?_
 unfold setFlight;refine wpAny_bind s!"EJ";rw [if_pos s!"s",hf]
 exact wpAny_setField t1 t2 s!"EK".1 (k _ x1 x2)
end
structure XBack (X:Cx) (W:Value->Option Addr->St->Hp->Prop):Prop where
 ex:X.ex=[]
 stk:X.stack=X.env::X.outer
 frm:X.env.frame=some X.env.locals
 back:∀(pins:List (Addr×Obj)) (σ:St) (H:Hp) (s:Shared) (e t:Addr) (B:Heap) (dx:Option Addr) (cls:Value),Inv X pins σ H s->zI B X.stack e cls s!"'" dx (rawInt X.env.locals) s.heap->Kept B X.fs X.H₀ X.s₀.heap H s.heap->H e=none->W cls dx σ H->X.xe s!"Aj" s
variable {K:PySem.W.Frag} {w:World}
theorem zjV {P:Program} {mg:Str->Option Value} {base:Heap} {N:List Str} {qual:Str} {scope:Scope} {f:Addr} {cd:Value} {s₀:Shared} {H₀:Hp} {E:XK}:
 XBack s!"EN" (fun cls dx _ H=>E cls dx H):=by
 refine ⟨rfl,rfl,rfl,fun pins σ H s e t B dx cls I fl kp nH hE=>?_⟩
 refine zI.leavesHeld rfl fl fun h2 fl2 up=>?_
 obtain ⟨u2,ok2⟩:=I.flown rfl kp fl2.stays up;exact ⟨e,t,_,_,H,_,rfl,hE,I.os,I.bare,u2,ok2,fl2,kp.fly I.hok fl2.stays,nH⟩
def zqe (K:PySem.W.Frag) (C C2:Addr) (W:Value->Option Addr->St->Hp->Prop):TH:=fun cls dx _ _ σ H=>dx=none/\kitOne K cls s!"o"=some true/\W s!"k{C2}" s!"DL" σ H
variable {W:Value->Option Addr->St->Hp->Prop} {C2:Addr}
section
variable {X:Cx}
theorem zef {prog:Program} {nm q:Str} {C N:Addr} {bs tl bmB:List Value} {hdct:Bool} {sn:List Str} {sub:List Value} {ab:Bool} {col:Option Bool} {dd:Option Addr} {k0 k1 k2 k3 k5:Option Value} {newId:String}
 {xs cs:Sem Value} {a:Addr} {oa:Obj} {Q:Flow->Shared->Prop} (hb:tl.contains s!"AC"=true)
 (hc:∀s1 (R:Value->Shared->Prop),R .none s1->wpAny s!"1" A cs R E s1)
 (go:wpAny (model prog w) A xs (fun v s1=>∃e t,v=.ref e/\e≠a/\za4 A a oa s1.heap/\s1.heap.get? C=some (excClassObj nm q C N bs tl hdct sn sub ab col dd k0 k1 k2 k3 k5 newId)/\
  s1.heap.get? e=some { cls:=.ref C,data:=.fields #[.ref t,.none,.none,.none,.bool false,.none] }/\
  ∀h',(∀b o,b≠e->s1.heap.get? b=some o->h'.get? b=some o)->h'.get? e=some { cls:=.ref C,data:=.fields #[.ref t,.none,.ref a,.none,.bool true,.none] }->E (.ref e) { s1 with heap:=h' }) E s):
 wpAny s!"1" A (raiseStmt env s!"n{xs}" s!"n{cs}") Q E s:=by
 have m1:(Value.ref C::tl).contains s!"AC"=true:=by rw [List.contains_cons,hb,Bool.or_true]
 unfold raiseStmt;refine wpAny_bind (wpAny_mono go (fun v s1 q=>?_) fun _ _ z=>z)
 obtain ⟨e,t,rfl,ne,held,cC,oE,qe⟩:=q;refine wpAny_bind s!"B_{hc s1 _ s!"E)"}";obtain ⟨h1,g1,d1,t1,o1⟩:=s1
 repeat (first | (with_reducible refine wpAny_loadPart_at oE ?_) | (with_reducible refine wpAny_loadPart_at cC ?_) | (with_reducible refine wpAny_isSubtype_exc cC ?_;rw [m1]) | walk_at "wp")
 have neC:C≠e:=fun z=>by
  rw [z,oE] at cC;exact absurd (congrArg Obj.data s!"Bb{cC}") (by intro z;cases z)
 have c2:((h1.update e (Obj.mapFields fun x=>x.setIfInBounds 3 Value.none)).update e (Obj.mapFields fun x=>x.setIfInBounds 4 s!"DM")).get? C=some (excClassObj nm q C N bs tl hdct sn sub ab col dd k0 k1 k2 k3 k5 newId):=s!"Hc".trans (s!"Hc".trans cC)
 have e1:=Heap.get?_update_self (Obj.mapFields fun x=>x.setIfInBounds 3 Value.none) oE rfl
 have e2:((h1.update e (Obj.mapFields fun x=>x.setIfInBounds 3 Value.none)).update e (Obj.mapFields fun x=>x.setIfInBounds 4 s!"DM")).get? e=some { cls:=.ref C,data:=.fields #[.ref t,.none,.none,.none,.bool true,.none] }:=Heap.get?_update_self (Obj.mapFields fun x=>x.setIfInBounds 4 s!"DM") e1 rfl
 have oth:∀b o,b≠e->h1.get? b=some o->((h1.update e (Obj.mapFields fun x=>x.setIfInBounds 3 Value.none)).update e (Obj.mapFields fun x=>x.setIfInBounds 4 s!"DM")).get? b=some o:=fun b o n q=>s!"Fk".trans (s!"Fk".trans q)
 repeat (first | (with_reducible refine wpAny_loadPart_at c2 ?_) | walk_at "wp")
 refine zcJ (held.ext (oth a oa s!"AL{ne}" held.2.1)) ne e2 rfl (by show 2<6;decide) ?_
 exact qe _ (fun b o n q=>s!"Fk".trans (oth b o n q)) (Heap.get?_update_self _ e2 rfl)
theorem zf5 {x y msg:Str} {np np2 cpos pos rpos p1 p2:Pos} {j1 j2:Nat} {C:Addr} {bmB:List Value} {Bn newId initId:String} (hg:Gl X x) (hm:X.mg x=some s!"o") (hb:CatK X.K C) (O:OwnCls y C2 bmB newId X.mg X.base) (FB:ExcBaseFacts Bn newId initId bmB) (hg2:Gl X y) (hx:XBack X W)
 (hd:(x==("__debug__":Str))=false:=by decide) (hd2:(y==("__debug__":Str))=false:=by decide) (hs:starEach [.Constant s!"z{msg}" j1 p1] X.env=[(false,eval (.Constant s!"z{msg}" j1 p1) X.env)]:=by rfl):
 PH X [.ExceptHandler s!"EQ" none [.Raise s!"n{.Call (.Name y np2) [.Constant s!"z{msg}" j1 p1] [] cpos}" s!"n{.Constant .none j2 p2}" rpos] pos] (zqe X.K C C2 W):=by
 intro pins σ H s a cls dx D air h;obtain ⟨rfl,hb1,hW⟩:=h;have I:=air.inv;obtain ⟨H0,s0,B,t,I0,os,bare,un,hok,fl,kp,ha⟩:=id air;obtain ⟨oe,_,he,_,hc,_⟩:=fl.obj;refine wpAny_handleBy_cons (codeAny_handlers_test (Calls.Name_function_global I.ok.kind hg (Calls.loadGlobal_global (by rw [I.ok.glob];exact I.mod.glob.keeps I.bk) hm ?_) hd)) (by intro q;cases q)
 refine xK I.kIn he (by rw [hc];exact hb.of hb1) hb.be ?_
 refine codeAny_handlers_suite ?_;refine fl.lands fun h6 fl6 up6=>?_
 have air6:=Air.moved I0 os bare un hok kp ha fl6 up6;have I6:=air6.inv;obtain ⟨o6,v6,e6,d6,c6,x6⟩:=fl6.obj;have x62:v6[2]? =some .none:=by
  rcases x6 with z | z
  ·exact z.2
  ·cases z.1
 obtain ⟨tl,nsA,nmA,qA,bsA,hdA,snA,subA,abA,colA,ddA,k0,k1,k2,k3,k5,mN,hC,hN,hni,T⟩:=O.obj;refine wpAny_execs_cons ?_;rw [arm_exec_Raise];simp only [evalOpt,Option.map];refine wpAny_bind s!"Fc";refine zef (a:=a) (oa:=o6) (bmB:=bmB) (C:=C2) (nm:=nmA) (q:=qA) (N:=nsA) (bs:=bsA) (tl:=tl) (hdct:=hdA) (sn:=snA) (sub:=subA) (ab:=abA) (col:=colA) (dd:=ddA) (k0:=k0) (k1:=k1) (k2:=k2) (k3:=k3) (k5:=k5) (newId:=newId) s!"EO" (fun s1 R r=>wpAny_bind (wpAny_Constant_none s!"4DxAl{r}")) ?_
 refine wpAny_bind (wpAny_mono (wpAny_Call_ofName (Calls.Name_function_global I6.ok.kind hg2 (Calls.loadGlobal_global (by rw [I6.ok.glob];exact I6.mod.glob.keeps I6.bk) O.bound ?_) hd2)) (fun v s3 q3=>wpAny_bind s!"DxAl{q3}") fun _ _ z=>z)
 unfold callWith;rw [hs];refine wpAny_bind s!"B_Er{Calls.spliced_cons (Calls.Constant_str (k:=j1) (pos:=p1) (Calls.spliced_nil s!"4Fc"))}";refine wpAny_bind (wpAny_keeperOf_exc s!"Fl" ?_);refine wpAny_bind (wpAny_call_exc_subT FB (T.keeps I6.bk) s!"Fl" (hN.keeps I6.bk) hni (fun h7 e hm=>?_) (by show 1<=sizeLine;decide))
 refine wpAny_bind s!"B_{wpAny_point s!"AS"}";obtain ⟨t7,q7,_,_⟩:=hm.there;have new6:∀b o,h6.get? b=some o->b≠e:=fun b o q z=>by
  rw [z,hm.new] at q;cases q
 refine ⟨e,t7,rfl,fun z=>new6 a o6 e6 z.symm,⟨rfl,hm.keeps _ _ e6,v6,d6,x62⟩,hm.keeps _ _ s!"Fl",q7,fun h8 k8 e8=>?_⟩
 have up8:∀b o,h6.get? b=some o->h8.get? b=some o:=fun b o q=>k8 b o (new6 b o q) (hm.keeps b o q)
 have I8:Inv X pins σ H { s with heap:=h8,toks:=s.toks+1 }:=I6.kept (h':=h8) (t':=s.toks+1) up8
 have nH:H e=none:=by
  cases z:H e with
  | none=>rfl
  | some u=>
   obtain ⟨ob,e1⟩:=(I6.hok e u z).at
   exact absurd rfl (new6 e ob e1)
 have n0:X.s₀.heap.get? e=none:=by
  cases z:X.s₀.heap.get? e with
  | none=>rfl
  | some o=>
   obtain ⟨o',z'⟩:=I6.base.there e o z (fun y=>by rw [hx.ex] at y;cases y)
   exact absurd rfl (new6 e o' z')
 have fstk:X.stack=X.env::X.outer:=hx.stk;have kpB:=I8.keptHideE hx.ex n0 nH;have kp6:Kept (hideAll h8 (e::frs X.stack)) s!"A?" H h6 H h8:=by
  refine ⟨fun b o q n f=>hideAll_get _ (up8 b o q) (fun z=>?_),fun b o q f=>⟨o,hideAll_get _ (up8 b o q) (fun z=>?_)⟩,fun b o n q=>hideAll_get _ q (fun z=>?_)⟩
  ·rcases List.mem_cons.mp z with y | y
   ·exact new6 b o q y
   ·exact f y
  ·rcases List.mem_cons.mp z with y | y
   ·exact new6 b o q y
   ·exact f y
  ·rcases List.mem_cons.mp z with y | y
   ·rw [y] at n;exact n nH
   ·exact I8.trkOff n y
 show wpAny _ _ (noteFrame s!"Aj" X.env) _ _ _;unfold noteFrame;simp only [hx.frm];refine wpAny_bind (wpAny_field e8 rfl (x:=Value.none) rfl ?_);rw [if_neg s!"d"]
 refine wV (B:=hideAll h8 (e::frs X.stack)) (outer:=X.outer) (env:=X.env) (L:=X.env.locals) (dx:=some mainGlobals) (a0:=.ref t7) (by show X.A.frames=_;rw [I8.ok.frames,fstk]) (by rw [<-fstk];exact funFrames_hide I8.stack fun env he b hb=>List.mem_cons_of_mem _ (List.mem_filterMap.mpr ⟨env,he,hb⟩)) hx.frm e8 rfl (by show 1<6;decide) (fun b o q=>of_hideAll _ q) (hideAll_none _ (List.mem_cons_self ..)) rfl s!"#{⟨rfl,rfl⟩}" fun h9 fl9 up9=>?_
 refine zI.back (outer:=X.outer) hx.frm fl9 fun h10 fl10 up10=>?_
 rw [<-fstk] at fl10;have un8:Un s!"A?" [] H H h6 h8:=Un.kept up8;have un10:Un s!"A?" [] H H h6 h10:=un8.flown I6.frm kp6 fl10.stays (up9.trans up10);have hok10:HOk X.prog X.w H h10:=I8.hok.flown kp6 fl10.stays;have I10:Inv X pins σ H { s with heap:=h10,toks:=s.toks+1 }:=I6.call' (ch:=[]) rfl un10 hok10 I6.bare (fun b z=>nomatch z)
 exact hx.back pins σ H _ e t7 _ s!"DL" s!"k{C2}" I10 fl10 (kpB.fly I8.hok fl10.stays) nH hW
end
section
variable {σ:St} {H:Hp}
theorem zqf {C:Addr} {cls:Value} {a:Addr} {D:Ends} (h1:kitOne K cls s!"o"=some true) (h2:W s!"k{C2}" s!"DL" σ H):zqe K C C2 W cls none a D σ H:=⟨rfl,h1,h2⟩
end
end L2
namespace L2
open PySem PySem.Spec PyProof.Rows
structure SrcM (K:PySem.W.Frag) (nm qual:Str) (st:Stmt) (f:Addr) (ps:List Str):Prop where
 ex:∃fd,Fun K nm qual st f fd/\xr K fd ps []
structure DefM (P:Program) (w:World) (K:PySem.W.Frag) (mg:Str->Option Value) (base:Heap) (CX:CXT) (k:Nat) (f:Addr) (ps:List Str) (sp:Sp):Prop where
 ex:∃fd,FnOk P w K mg base CX k f fd ps sp/\xr K fd ps []
variable {P:Program} {w:World} {K:PySem.W.Frag} {ps:List Str} {sp:Sp} {nm qual:Str} {st:Stmt}
section
variable {mg:Str->Option Value} {base:Heap} {CX:CXT}
theorem zmb {f:Addr} {oc:Value} {od an:Option Addr} {osl:Array s!"AR"} {kV doc pm cdv ct:Value}
 (l:K.lookup f=some ⟨oc,od,.func s!"Hd",osl⟩) (c:PySem.W.codeIn K cdv qual=true) (k:PySem.W.keepIn K s!"Ad"=true)
 (hb:∀(kV doc pm:Value) (an:Option Addr) (cdv ct:Value) (us:List Value),us.length=ps.length->bindArgs s!"Hd" ⟨us,[]⟩=pure s!"AQ"):SrcM K nm qual st f ps:=
 ⟨_,zaY l c k,(zaY (st:=st) l c k).binds hb⟩
theorem SrcM.ok {f:Addr} {N:List Str} {k:Nat} (F:SrcM K nm qual st f ps) (S:FnScope N ps s!"Bn") (len:∀vs H Q E,sp vs H Q E->vs.length=ps.length)
 (hbody:∀(f:Addr) (cdv:Value) (A:Around) (outer:List Env) (s:Shared) (H:Hp) (vs:List V) (Q:VK) (E:XK),Room k (A.deeper (envOfC qual (zc st) s.heap.objs.size f cdv))->sp vs H Q E->
  ∃t,PSs (zan CX P w K mg base N qual (zc st) f cdv A outer s H E).nox (zp st) t/\t { nx:=fun _ H'=>Q .non H',rt:=Q } (yJ N vs) H):DefM P w K mg base CX (k+1) f ps sp:=by
 obtain ⟨fd,Fn,b⟩:=F.ex;obtain ⟨oc,od,kV,doc,pm,an,cdv,ct,osl,rfl,lk,hcd⟩:=Fn.ex;refine ⟨_,zeX lk hcd S len fun A outer s H vs Q E hr hsp=>?_,b⟩
 obtain ⟨t,h,q⟩:=hbody f cdv A outer s H vs Q E hr hsp;exact ⟨t,h.nox,q⟩
theorem SrcM.okX {f:Addr} {N:List Str} {k:Nat} (F:SrcM K nm qual st f ps) (S:FnScope N ps s!"Bn") (len:∀vs H Q E,sp vs H Q E->vs.length=ps.length)
 (hbody:∀(f:Addr) (cdv:Value) (A:Around) (outer:List Env) (s:Shared) (H:Hp) (vs:List V) (Q:VK) (E:XK),Room k (A.deeper (envOfC qual (zc st) s.heap.objs.size f cdv))->sp vs H Q E->
  ∃t,PSs (zan CX P w K mg base N qual (zc st) f cdv A outer s H E) (zp st) t/\t { nx:=fun _ H'=>Q .non H',rt:=Q } (yJ N vs) H):DefM P w K mg base CX (k+1) f ps sp:=by
 obtain ⟨fd,Fn,b⟩:=F.ex;obtain ⟨oc,od,kV,doc,pm,an,cdv,ct,osl,rfl,lk,hcd⟩:=Fn.ex;exact ⟨_,zeX lk hcd S len fun A outer s H vs Q E hr hsp=>hbody f cdv A outer s H vs Q E hr hsp,b⟩
end
def zf6 (C:Addr) (m:Str) (sp:Sp) (W:Value->Option Addr->St->Hp->Prop) (ta:TE) (t:TA):TE:=fun σ H Q=>ta σ H fun x H1=>∃a dx fs,x=.ref a/\H1 a=some s!"A6"/\fs.lookup m=none/\
 t σ H1 fun vs H2=>sp (.ref a::vs) H2 Q (fun cls dx H3=>W cls dx σ H3)
variable {X:Cx} {C:Addr} {W:Value->Option Addr->St->Hp->Prop} {m:Str} {pos:Pos} {ta:TE} {t:TA} {σ:St} {H:Hp} {s:Shared} {pl:Sem Bool}
section
variable {k:Nat} {f:Addr} {x:Str} {p apos:Pos} {e o:Expr} {es:List Expr}
theorem zgV {pins:List (Addr×Obj)} {Q:VK} {us:List Value} {vs:List V} (D:DefM X.prog X.w X.K X.mg X.base s!"B!" k f ps sp) (hr:Room k X.A) (hx:XPass X W)
 (I:Inv X pins σ H s) (r:zl vs us) (h:sp vs H Q (fun cls dx H3=>W cls dx σ H3)):wpAny s!"q" X.A (call s!"Ad" us) (EP X pins σ Q) X.xe s:=by
 obtain ⟨fd,F,b⟩:=D.ex;have hl:(us++[]).length=ps.length:=by rw [List.append_nil,<-r.length];exact F.len _ _ _ _ h
 have bnd:=b s us I.kIn hl;rw [List.append_nil] at bnd;refine wpAny_call (codeAny_mono (F.run X.A X.stack s H ⟨us,[]⟩ us vs Q _ hr I.env0 bnd r h) fun res s2 hq=>?_)
 cases res with
 | error ex=>exact hx.call pins σ H s ex s2 I hq
 | ok fl=>
  cases fl with
  | ret u=>exact I.after hq
  | next=>exact False.elim hq
  | brk=>exact False.elim hq
  | cont=>exact False.elim hq
theorem pe_methS (D:DefM X.prog X.w X.K X.mg X.base s!"B!" k f ps sp) (c:Cls X.K C) (hm:Meth X.K C m f) (hr:Room k X.A) (hx:XPass X W) (he:PE X o ta) (ha:PA X (e::es) t)
 (hst:starEach (e::es) X.env=(false,eval e X.env)::starEach es X.env:=by rfl) (hpl:s!"Cf".any (·.1)=false:=by rfl)
 (ht:eval (.Call (.Attribute o m apos) (e::es) [] pos) X.env=(do
  let ov <-eval o X.env
  standAt apos.atName
  let (f,first) <-holding [ov] s!"He"
  callWith pos f first (backTo pos (starEach (e::es) X.env)) (backToKw pos (keywordEach [] X.env))):=by rfl):
 PE X (.Call s!"Hf" (e::es) [] pos) (zf6 C m sp W ta t):=by
 intro pins s σ H Q I h;refine PySem.W.methodCall_KW (pl:=pl) (thn (he pins s σ H _ I h) fun u s1 ⟨x,H1,I1,rx,a,dx,fs,ex,ea,l,q⟩=>?_) ht
 subst ex;obtain rfl:u=Value.ref a:=rx;refine zb6 I1 ea c hm l ?_;refine PySem.W.callWith_K (first:=[.ref a]) (h₀:=X.base) I.ok.mod.kin hm.kp (thn (ha pos pins s1 σ H1 _ I1 q) fun us s2 ⟨vs,H2,I2,r,q2⟩=>⟨I2.kIn,?_⟩) hst hpl
 exact zgV (us:=.ref a::us) (vs:=.ref a::vs) D hr hx I2 (.cons rfl r) q2
theorem za7 (D:DefM X.prog X.w X.K X.mg X.base s!"B!" k f ps sp) (c:Cls X.K C) (hm:Meth X.K C m f) (hr:Room k X.A) (hx:XPass X W) (he:PE X o ta)
 (ht:eval (.Call (.Attribute o m apos) [] [] pos) X.env=(do
  let ov <-eval o X.env
  standAt apos.atName
  let (f,first) <-holding [ov] s!"He"
  callWith pos f first (backTo pos (starEach [] X.env)) (backToKw pos (keywordEach [] X.env))):=by rfl):
 PE X (.Call s!"Hf" [] [] pos) (zf6 C m sp W ta ziv):=by
 intro pins s σ H Q I h;refine PySem.W.methodCall_KW (pl:=pl) (thn (he pins s σ H _ I h) fun u s1 ⟨x,H1,I1,rx,a,dx,fs,ex,ea,l,q⟩=>?_) ht
 subst ex;obtain rfl:u=Value.ref a:=rx;refine zb6 I1 ea c hm l ?_;exact PySem.W.callWith_K0 (first:=[.ref a]) I1.kIn hm.kp (zgV (us:=[.ref a]) (vs:=[.ref a]) D hr hx I1 s!"C*&" q)
def zjW (C:Addr) (sp:Sp):TE:=fun _ H Q=>∀x dx,H x=none->H dx=none->dx≠x->sp [.ref x] (upd s!"CD" x s!"A,{C}{[]}") (fun v H2=>v=.non/\Q s!"Az" H2) (fun _ _ _=>False)
theorem pe_makeS (D:DefM X.prog X.w X.K X.mg X.base s!"B!" k f ps sp) (M:Mk X.K C f) (hr:Room (k+1) X.A) (hg:Gl X x) (hm:X.mg x=some s!"o") (hdb:(x==("__debug__":Str))=false:=by decide):
 PE X (.Call (.Name x p) [] [] pos) (zjW C sp):=by
 obtain ⟨fd,F,b⟩:=D.ex;intro pins s σ H Q I h;exact ziy (E:=fun _ _ _=>False) (dvs:=[]) (ds:=[]) M F hr hg hm b .nil (fun pins σ H s e s' I c=>by
  obtain ⟨_,_,_,_,_,_,_,z,_⟩:=c;exact z.elim) hdb pins s σ H Q I fun y dx h1 h2 h3=>h y dx h1 h2 h3
end
variable {D:Ends} {a dx:Addr} {fs:List (Str×V)} {f:Str}
section
variable {Q:VK}
def zjX (C:Addr) (m:Str) (sp:Sp) (W:Value->Option Addr->St->Hp->Prop) (t:TA) (σ:St) (x:V) (H1:Hp) (Q:VK):Prop:=∃a dx fs,x=.ref a/\H1 a=some s!"A6"/\fs.lookup m=none/\
 t σ H1 fun vs H2=>sp (.ref a::vs) H2 Q (fun cls dx H3=>W cls dx σ H3)
theorem zf6.Qa (h:ta σ H fun x H1=>zjX C m sp W t σ x H1 Q):zf6 C m sp W ta t σ H Q:=h
theorem zjX.Qr (h1:H a=some s!"A6") (h2:fs.lookup m=none) (h:t σ H fun vs H2=>sp (.ref a::vs) H2 Q (fun cls dx H3=>W cls dx σ H3)):zjX C m sp W t σ s!"h" H Q:=⟨a,dx,fs,rfl,h1,h2,h⟩
def zqg (K:PySem.W.Frag) (f:Str) (x:V) (H1:Hp) (Q:VK):Prop:=∃a C dx fs v,x=.ref a/\H1 a=some s!"A6"/\Cls K C/\yc K C f/\fs.lookup f=some v/\Q v H1
theorem zpj.Qa (h:ta σ H fun x H1=>zqg K f x H1 Q):zpj K ta f σ H Q:=h
theorem zqg.Qt {v:V} (h1:H a=some s!"A6") (c:Cls K C) (n:yc K C f) (h2:fs.lookup f=some v) (h:Q v H):zqg K f s!"h" H Q:=⟨a,C,dx,fs,v,rfl,h1,c,n,h2,h⟩
def znb (K:PySem.W.Frag) (f:Str) (D:Ends) (σ:St) (y x:V) (H2:Hp):Prop:=∃a C dx fs,x=.ref a/\H2 a=some s!"A6"/\Cls K C/\yc K C f/\fs.length<1000/\D.nx σ s!"G6"
theorem zpk.Qa {tv:TE} (h:tv σ H fun y H1=>ta σ H1 fun x H2=>znb K f D σ y x H2):zpk K ta tv f D σ H:=h
theorem zax {y:V} (h1:H a=some s!"A6") (c:Cls K C) (n:yc K C f) (h2:fs.length<1000) (h:D.nx σ s!"G3"):znb K f D σ y s!"h" H:=⟨a,C,dx,fs,rfl,h1,c,n,h2,h⟩
end
variable {prog:Program} {A:Around} {E Q:Value->Shared->Prop}
theorem zeg {K:Type} [DecidableEq K] {knd:KeyKind prog w K} {d:Addr} {kvs:List (K×Value)} {ep:Nat} {ss:List Str} (hh:A.handled=none) (hs:(d==sysModules)=false) (hm:s.heap.DictAt knd d kvs ep) (h64:kvs.length<64)
 (hI:∀vs:List Value,vs.length=kvs.length->(∀(i:Nat) v,vs[i]? =some v->∃k x,kvs[i]? =some (k,x)/\knd.is k v=true)->StrsAre vs ss)
 (h:∀(a:Addr) (h':Heap) tk (out:Array Value) (ss':List Str) e,s.heap.objs.size<=a->(∀b o,s.heap.get? b=some o->h'.get? b=some o)->h'.get? a=some (seqObj "list" out e)->StrsAre out.toList ss'->ss'.Perm ss->sortedS ss'=true->Q s!"h" { s with heap:=h',toks:=tk }):
 wpAny s!"1" A (call s!"Hg" [.ref d]) Q E s:=by
 refine Calls.call_function_entry kind_sorted plain_sorted entry_sorted (args_sorted1 _) ?_;unfold Builtin.«sorted»;refine wpAny_bind (m:=checkCount "sorted" 1 1 _) s!"AS";refine wpAny_bind (zea hh hs hm (by rw [sizeLine_eq];omega) fun h1 tk vs hz ho lv hv=>?_)
 refine wpAny_bind s!"GJ";have hoL:(h1.push s!"Fm").get? h1.objs.size=some s!"Fm":=Heap.get?_push_size _ rfl;have hS:=hI vs lv hv;refine wpAny_bind s!"B_{(wpAny_call_entry (s:={ s with heap:=h1.push s!"Fm",toks:=tk }) slot_list_sort ⟨_,hoL,rfl⟩ entry_list_sort (list_sort_treeK strKind_oneLt hoL hS.keysOf (fun v1 v2 r e=>PyProof.Rows.keyKind_strs (by rw [<-e];exact hS)) s!"c" fun st' p1 p2=>?_) (args_list_sort _))}"
 obtain ⟨ss',q1,q2,q3⟩:=sorted_out_str hS p1 p2;refine ⟨_,rfl,?_⟩;obtain ⟨e,he⟩:=sortedHeap_at (out:=(arrOf st').map (·.2)) hoL
 refine wpAny_pure ⟨_,rfl,h h1.objs.size _ tk _ ss' e s!"B|Bd" (fun b o hb=>?_) he q1 q2 q3⟩
 have hlt:b<h1.objs.size:=Heap.lt_size (ho b o hb);rw [sortedHeap_old s!"Am{hlt}" (by rw [size_push'];exact Nat.lt_succ_of_lt hlt)]
 exact Heap.get?_push_of_some _ (ho b o hb)
theorem zf7:∀{ss:List Str} {its:List Value},StrsAre its ss->zl (ss.map V.str) its:=by
 intro ss its h
 induction h with
 | nil=>exact .nil
 | cons _ _ _ ih=>exact .cons ⟨_,rfl⟩ ih
def zff:List V->Hp->VK->Prop:=fun xs H Q=>∃(a:Addr) (kvs:List (Key×V)) (ns:List Str),xs=[.ref a]/\H a=some s!"<"/\kvs.map Prod.fst=ns.map Sum.inr/\ns.length<64/\∀(p:Addr) (ms:List Str),H p=none->ms.Perm ns->sortedS ms=true->Q s!"]" s!".{p}Fn"
theorem zay:∀{ns:List Str} {vs:List (Key×Value)} {us:List Value},vs.map Prod.fst=ns.map Sum.inr->us.length=vs.length->(∀(i:Nat) v,us[i]? =some v->∃k x,vs[i]? =some (k,x)/\s!"B(".is k v=true)->StrsAre us ns
 | [],[],[],_,_,_=>.nil
 | [],_::_,_,e,_,_=>by simp at e
 | _::_,[],_,e,_,_=>by simp at e
 | _,_::_,[],_,l,_=>by simp at l
 | [],[],_::_,_,l,_=>by simp at l
 | n::ns,(k,x)::vs,u::us,e,l,h=>by
  rw [List.map_cons,List.map_cons] at e;injection e with e1 e2
  obtain ⟨k',x',h1,h2⟩:=h 0 u rfl;cases h1;rcases keyIs_shape h2 with ⟨i,t,ek,rfl⟩ | ⟨y,t,ek,rfl⟩
  ·have e1:k=Sum.inr n:=e1;rw [ek] at e1;cases e1
  ·have e1:k=Sum.inr n:=e1;rw [ek] at e1;cases e1;exact .cons _ _ (zay e2 (by simpa using l) fun j v hv=>h (j+1) v hv)
theorem zeh (hc:X.calm=true):zN X s!"Hg" zff:=by
 intro pins s σ H xs us Q I r h;obtain ⟨a,kvs,ns,e,hd,hk,h64,q⟩:=h;subst e;obtain ⟨u,rfl,ru⟩:=zam r;obtain rfl:u=Value.ref a:=ru;obtain ⟨hz,hsm,vs,kv,hdo⟩:=zji I.hok hd;obtain ⟨ep,hat⟩:=hdo.dictAt;have hl:kvs.length=ns.length:=by have:=congrArg List.length hk;simpa using this
 have lv:=kv.length;have hkv:vs.map Prod.fst=ns.map Sum.inr:=by rw [<-hk];exact kv.keys.symm
 refine zeg (ss:=ns) (show X.A.handled=none from I.ok.hd hc) hsm hat s!"c" (fun us lu hu=>zay hkv lu hu) fun a' h' tk out ms e hle ho he a1 a2 a3=>?_
 have hm:=a2.length_eq;refine ⟨.ref a',_,I.laid (a:=a') (o:=.lst (ms.map V.str)) (t':=tk) ho hle (show zq X.prog X.w _ _ _ s!"Fn" from ⟨by rw [List.length_map,sizeLine_eq];omega,out.toList,e,zf7 a1,he⟩),rfl,q _ _ (I.hok.fresh hle) a2 a3⟩
section
variable {Q:VK}
theorem zf8 {kvs:List (Key×V)} (ns:List Str) (h1:H a=some s!"<") (hk:kvs.map Prod.fst=ns.map Sum.inr) (h2:ns.length<64) (h:∀p H' (ms:List Str),Same H H'->H p=none->ms.Perm ns->sortedS ms=true->H' p=some s!"Fn"->Q s!"]" H'):zff [.ref a] H Q:=⟨a,kvs,ns,rfl,h1,hk,h2,fun p ms hp a b=>h p _ ms s!"BF" hp a b ze⟩
end
abbrev zm2 (h:Heap) (t u:Addr):Heap:=(zt1 h t).push { cls:=.type "list_iterator",data:=.fields #[.ref u,.int 0 0] }
abbrev zm3 (h:Heap) (t u:Addr):Heap:=(zm2 h t u).push { cls:=.type "tuple",data:=.seq #[.ref h.objs.size,.ref (zt1 h t).objs.size] }
abbrev zm4 (h:Heap) (t u:Addr):Heap:=(zm3 h t u).push { cls:=.type "tuple",data:=.seq #[.none,.none] }
abbrev zm5 (h:Heap) (t u:Addr):Heap:=(zm4 h t u).push { cls:=.type "zip",data:=.fields #[.none,.bool false,.bool false,.ref (zm2 h t u).objs.size,.ref (zm3 h t u).objs.size] }
theorem zei (t u:Addr) (xs ys:Array Value):Meets (Builtin.«zip.__new__» ⟨[.type "zip",.ref t,.ref u],[]⟩) fun _ R s=>
 IsTup s.heap t xs/\s.heap.IsList u ys/\R (.ok (.ret s!"k{s!"Fo".objs.size}")) { s with heap:=zm5 s.heap t u }:=
 .of_wp fun prog w A R s h=>by
  obtain ⟨hp,g,d,tk,os⟩:=s;obtain ⟨h1,h2,h⟩:=h;have hsub:=sub_zip;have a1:IsTup (Shared.heap ⟨hp,g,d,tk,os⟩) t xs:=h1;have a2:Heap.IsList (Shared.heap ⟨hp.push { cls:=.type "tuple_iterator",data:=.fields #[.ref t,.int 0 0] },g,d,tk,os⟩) u ys:=by
   obtain ⟨o,e,c⟩:=h2;exact ⟨o,Heap.get?_push_of_some _ e,c⟩
  repeat (first|with_reducible refine iter_tuple a1 ?_|with_reducible refine wpAny_pyIter_list a2 ?_|walk_at "wp")
  exact ⟨_,rfl,h⟩
theorem zfg {t u:Addr} {xs ys:Array Value} (h1:IsTup s.heap t xs) (h2:s.heap.IsList u ys)
 (h:∀h',IsZip h' (s.heap.objs.size+4) (s.heap.objs.size+2) (s.heap.objs.size+3) .none->IsPair h' (s.heap.objs.size+2) (.ref s.heap.objs.size) (.ref (s.heap.objs.size+1))->IsPair h' (s.heap.objs.size+3) .none .none->
  zcc h' s.heap.objs.size t 0->h'.IsListIter (s.heap.objs.size+1) u 0->(∀c o,s.heap.get? c=some o->h'.get? c=some o)->Q (.ref (s.heap.objs.size+4)) { s with heap:=h' }):
 wpAny s!"1" A (call s!"A+{"zip"}" [.ref t,.ref u]) Q E s:=by
 refine callType_new F.called_zip s!"d" (F.typeCall_zip_2 _ _) (F.newCall_zip_2 _ _) (fun obj=>F.args_object_init_3 obj _ _) F.entry_zip_new (zei t u xs ys) ⟨h1,h2,?_⟩
 have s1:s!"Fp".objs.size=s.heap.objs.size+1:=Heap.size_push ..;have s2:s!"Fq".objs.size=s.heap.objs.size+2:=(Heap.size_push ..).trans (congrArg (·+1) s1)
 have s3:s!"Fr".objs.size=s.heap.objs.size+3:=(Heap.size_push ..).trans (congrArg (·+1) s2)
 have s4:s!"Fo".objs.size=s.heap.objs.size+4:=(Heap.size_push ..).trans (congrArg (·+1) s3)
 have e5:s!"CZ".get? s!"Fo".objs.size=some { cls:=.type "zip",data:=.fields #[.none,.bool false,.bool false,.ref s!"Fq".objs.size,.ref s!"Fr".objs.size] }:=Heap.get?_push_size _ rfl;have e4:s!"CZ".get? s!"Fr".objs.size=some { cls:=.type "tuple",data:=.seq #[.none,.none] }:=Heap.get?_push_of_some _ s!"B#";have e3:s!"CZ".get? s!"Fq".objs.size=some { cls:=.type "tuple",data:=.seq #[.ref s.heap.objs.size,.ref s!"Fp".objs.size] }:=Heap.get?_push_of_some _ s!"A(B#";have e2:s!"CZ".get? s!"Fp".objs.size=some { cls:=.type "list_iterator",data:=.fields #[.ref u,.int 0 0] }:=Heap.get?_push_of_some _ s!"A(A(B#";have e1:s!"CZ".get? s.heap.objs.size=some { cls:=.type "tuple_iterator",data:=.fields #[.ref t,.int 0 0] }:=Heap.get?_push_of_some _ s!"A(A(A(B#";rw [s2,s3,s4] at e5;rw [s3] at e4;rw [s1,s2] at e3;rw [s1] at e2;rw [s4];exact ⟨⟨_,e5,rfl⟩,h _ e5 e3 e4 e1 ⟨_,e2,rfl,rfl⟩ fun c o x=>Heap.get?_push_of_some _ s!"A(A(A(A({x}"⟩
def zfh (K:PySem.W.Frag) (a b:Addr):It:=⟨fun i H=>∃xs ys x y,SqT K H a xs/\SqL K H b ys/\xs[i]? =some x/\ys[i]? =some y,
 fun i H v H'=>∃T,v=.ref T/\H T=none/\∀xs ys x y,SqT K H a xs->SqL K H b ys->xs[i]? =some x->ys[i]? =some y->H'=upd H T s!"6{[x,y]}",
 fun i H=>∃xs ys,SqT K H a xs/\SqL K H b ys/\(i=xs.length\/(i<xs.length/\i=ys.length))⟩
variable {elts:List Expr} {kt:Nat} {tp:Pos}
theorem zhY {z TI TO i1 i2 l1 l2:Addr} (D:ZDiff z TI TO i1 i2 [i1,l1] [i2,l2]) (n1:l1≠i1) (n2:l2≠i2):
 Turn P w K s!"Hh" (zfh K l1 l2) [z,TI,TO,i1,i2] z (fun i h=>IsZip h z TI TO .none/\IsPair h TI s!"CN" s!"CO"/\(∃a b,IsPair h TO a b)/\zcc h i1 l1 i/\h.IsListIter i2 l2 i) where
 mem:=by simp
 obj:=fun i h st b hb=>by
  obtain ⟨hz,hTI,⟨a,c,hTO⟩,h1,h2⟩:=st;have hb':b=z\/b=TI\/b=TO\/b=i1\/b=i2:=by simpa using hb
  rcases hb' with rfl | rfl | rfl | rfl | rfl
  ·exact ⟨_,hz,fun v y=>by have y':Data.fields _=Data.cell v:=y;cases y'⟩
  ·exact ⟨_,hTI,fun v y=>by have y':Data.seq _ _=Data.cell v:=y;cases y'⟩
  ·exact ⟨_,hTO,fun v y=>by have y':Data.seq _ _=Data.cell v:=y;cases y'⟩
  ·exact ⟨_,h1,fun v y=>by have y':Data.fields _=Data.cell v:=y;cases y'⟩
  ·obtain ⟨o2,q1,q2,q3⟩:=h2;exact ⟨o2,q1,fun v y=>by rw [q3] at y;cases y⟩
 keep:=fun i h h' st k=>by
  obtain ⟨hz,hTI,⟨a,c,hTO⟩,h1,h2⟩:=st;exact ⟨k z s!"s" _ hz,k TI s!"s" _ hTI,⟨a,c,k TO s!"s" _ hTO⟩,k i1 s!"s" _ h1,let ⟨o2,q1,q2⟩:=h2;⟨o2,k i2 s!"s" _ q1,q2⟩⟩
 item:=by
  intro X hP hw hK hc i pins s σ H E I hf st hg;subst hP hw hK;obtain ⟨xs,ys,x,y,q1,q2,hx,hy⟩:=hg;obtain ⟨us,r1,p1,_⟩:=I.tuple q1;obtain ⟨vs,r2,p2',_⟩:=I.list q2;have p2:=p2'.isList;obtain ⟨u,hu,ru⟩:=r1.get hx;obtain ⟨v,hv,rv⟩:=r2.get hy;obtain ⟨hz,hTI,⟨a,c,hTO⟩,h1,h2⟩:=st;have g1:i<us.toArray.size:=by have:=s!"Dr{hu}".1;simpa using this
  have g2:i<vs.toArray.size:=by have:=s!"Dr{hv}".1;simpa using this
  refine zhC (zda (A:=X.A.in1) s!"Av" i1 l1 n1 us.toArray) (Draws.list (A:=X.A.in1) s!"Av" i2 l2 n2 vs.toArray) D hz hTI hTO ⟨h1,p1⟩ ⟨h2,p2⟩ g1 g2 fun x' y' h' tk e1 e2 a1 a2 a3 a4 a5 a6=>?_
  have ex:x'=u:=Option.some.inj (e1.symm.trans (by simpa using hu))
  have ey:y'=v:=Option.some.inj (e2.symm.trans (by simpa using hv))
  subst ex ey;refine ⟨_,rfl,wpAny_letOwnedTupleGo_zip (s:={ s with heap:=h',toks:=tk }) a1 fun h2' b1 b2=>?_⟩
  have nT:H s.heap.objs.size=none:=I.hok.fresh s!"+";have lt:∀b∈[z,TI,TO,i1,i2],b<s.heap.objs.size:=fun b hb=>by
   have hb':b=z\/b=TI\/b=TO\/b=i1\/b=i2:=by simpa using hb
   rcases hb' with rfl | rfl | rfl | rfl | rfl
   ·exact Heap.lt_size hz
   ·exact Heap.lt_size hTI
   ·exact Heap.lt_size hTO
   ·exact Heap.lt_size h1
   ·obtain ⟨o2,q1,_⟩:=id h2;exact Heap.lt_size q1
  have I1:Inv X pins σ s!".C-6{[x,y]}" { s with heap:=s.heap.push { cls:=.type "tuple",data:=.seq #[x',y'] },toks:=tk }:=
   I.laid (t':=tk) (fun b o e=>Heap.get?_push_of_some _ e) s!"+" ⟨by show 2<=sizeLine;decide,[x',y'],.cons ru s!"C*{rv}",⟨_,Heap.get?_push_size _ rfl,rfl,_,rfl⟩⟩
  have f1:∀b∈[z,TI,TO,i1,i2],wD X pins s!".C-6{[x,y]}" b:=fun b hb=>by
   obtain ⟨f0,r⟩:=hf b hb;exact ⟨by rw [zf s!"Am{lt b hb}"];exact f0,r⟩
  have I2:Inv X pins σ s!".C-6{[x,y]}" { s with heap:=h2',toks:=tk }:=by
   refine Inv.turnedL (s:={ s with heap:=s.heap.push { cls:=.type "tuple",data:=.seq #[x',y'] },toks:=tk }) (h':=h2') (t':=tk) (ch:=[z,TI,TO,i1,i2]) I1 (fun b o hb e=>?_) f1
   have hb':b≠z/\b≠TI/\b≠TO/\b≠i1/\b≠i2:=by simpa using hb
   obtain ⟨m1,m2,m3,m4,m5⟩:=hb';rw [b2.2 b m1]
   by_cases hN:b=s.heap.objs.size
   ·subst hN;have e':(s.heap.push { cls:=.type "tuple",data:=.seq #[x',y'] }).get? s.heap.objs.size=some _:=Heap.get?_push_size _ rfl;have e'':(s.heap.push { cls:=.type "tuple",data:=.seq #[x',y'] }).get? s.heap.objs.size=some o:=e;rw [e'] at e'';cases e'';exact a5
   ·refine a6 b o m1 m3 m4 m5 ?_;have e'':(s.heap.push { cls:=.type "tuple",data:=.seq #[x',y'] }).get? b=some o:=e;exact (Heap.get?_push_ne _ _ _ hN).symm.trans e''
  refine ⟨.ref s.heap.objs.size,_,I2,rfl,⟨s.heap.objs.size,rfl,nT,fun xs' ys' x' y' w1 w2 w3 w4=>?_⟩,⟨b1,?_,⟨x',y',?_⟩,(b2.2 _ D.z1.symm).trans a3.1,let ⟨o2,q1,q2⟩:=a4.1;⟨o2,(b2.2 _ D.z2.symm).trans q1,q2⟩⟩,fun b hb=>(f1 b hb).1⟩
  ·rw [I.tuple_inj w1 q1,hx] at w3;rw [I.list_inj w2 q2,hy] at w4;cases w3;cases w4;rfl
  ·exact (b2.2 _ D.zTI.symm).trans (a6 TI _ D.zTI.symm D.oI.symm D.I1 D.I2 hTI)
  ·exact (b2.2 _ D.zTO.symm).trans a2
 done:=by
  intro X hP hw hK hc i pins s σ H E I hf st hg;subst hP hw hK;obtain ⟨xs,ys,q1,q2,hend⟩:=hg;obtain ⟨us,r1,p1,_⟩:=I.tuple q1;obtain ⟨vs,r2,p2',_⟩:=I.list q2;have p2:=p2'.isList;obtain ⟨hz,hTI,⟨a,c,hTO⟩,h1,h2⟩:=st;have w1:=r1.length;have w2:=r2.length;refine zhD (zda (A:=X.A.in1) s!"Av" i1 l1 n1 us.toArray) (Draws.list (A:=X.A.in1) s!"Av" i2 l2 n2 vs.toArray) D hz hTI hTO ⟨h1,p1⟩ ⟨h2,p2⟩ (by rw [List.size_toArray,List.size_toArray];omega) fun h' tk kk=>⟨rfl,I.turnedL (t':=tk) (ch:=[z,TI,TO,i1,i2]) (fun b o hb e=>?_) hf⟩
  have hb':b≠z/\b≠TI/\b≠TO/\b≠i1/\b≠i2:=by simpa using hb
  exact kk b o hb'.1 hb'.2.2.1 hb'.2.2.2.1 hb'.2.2.2.2 e
 self:=fun _ _ _ _ _ st h=>wpAny_pyIter_zip st.1 h
def zjZ (K:PySem.W.Frag) (ta:TA):TI:=fun σ H R=>ta σ H fun vs H1=>∃a b,vs=[.ref a,.ref b]/\(∃xs,SqT K H1 a xs)/\(∃ys,SqL K H1 b ys)/\R s!"BL" H1
theorem zgW {a b:Expr} {ta:TA} {p:Pos} (hg:Gl X "zip") (hm:X.mg "zip"=none) (ha:PA X [a,b] ta) (hs:starEach [a,b] X.env=[(false,eval a X.env),(false,eval b X.env)]:=by rfl) (hs2:starEach [b] X.env=[(false,eval b X.env)]:=by rfl):
 PI X s!"Hh" (.Call (.Name "zip" p) [a,b] [] pos) (zjZ X.K ta):=by
 intro pins s σ H R I h;refine Call_ (wT I hg hm boot_zip (PyProof.Rows.callWith_type1 (thn (ha pos pins s σ H _ I h) fun us s1 ⟨vs,H1,I1,r1,q1⟩=>?_) (by rw [hs,hs2]) (by rw [hs2];rfl)))
 obtain ⟨l1,l2,e,⟨xs,hx⟩,⟨ys,hy⟩,q⟩:=q1;subst e;obtain ⟨u,v,rfl,ru,rv⟩:=zb5 r1;obtain rfl:u=Value.ref l1:=ru;obtain rfl:v=Value.ref l2:=rv;obtain ⟨us,r1,p1,_⟩:=I1.tuple hx;obtain ⟨vs,r2,p2',_⟩:=I1.list hy;have p2:=p2'.isList;have lt1:l1<s1.heap.objs.size:=by obtain ⟨o,e,_⟩:=p1;exact Heap.lt_size e
 have lt2:l2<s1.heap.objs.size:=by obtain ⟨o,e,_⟩:=p2;exact Heap.lt_size e
 refine zfg p1 p2 fun h' hz hTI hTO hi1 hi2 hk=>?_
 refine wpAny_pyIter_zip (s:={ s1 with heap:=h' }) hz ?_
 have I2:Inv X pins σ H1 { s1 with heap:=h' }:=I1.kept (t':=s1.toks) hk
 have D:ZDiff (s1.heap.objs.size+4) (s1.heap.objs.size+2) (s1.heap.objs.size+3) s1.heap.objs.size (s1.heap.objs.size+1) [s1.heap.objs.size,l1] [s1.heap.objs.size+1,l2]:=by
  have g1:@LT.lt Nat _ l1 s1.heap.objs.size:=lt1;have g2:@LT.lt Nat _ l2 s1.heap.objs.size:=lt2;constructor <;> first | (show ¬@Eq Nat _ _;omega) | (show ¬(_∈([_,_]:List Nat));simp only [List.mem_cons,List.not_mem_nil,or_false,not_or];omega)
 refine ⟨_,_,_,_,H1,rfl,I2,zhY D s!"Am{lt1}" s!"Am{Nat.lt_succ_of_lt lt2}",⟨hz,hTI,⟨_,_,hTO⟩,hi1,hi2⟩,fun b hb=>?_,q⟩
 have hb':b=s1.heap.objs.size+4\/b=s1.heap.objs.size+2\/b=s1.heap.objs.size+3\/b=s1.heap.objs.size\/b=s1.heap.objs.size+1:=by simpa using hb
 have ge:s1.heap.objs.size<=b:=by
  rcases hb' with rfl | rfl | rfl | rfl | rfl
  ·exact Nat.le_add_right _ _
  ·exact Nat.le_add_right _ _
  ·exact Nat.le_add_right _ _
  ·exact Nat.le_refl _
  ·exact Nat.le_add_right _ _
 exact I1.fpOk ge (I1.hok.fresh ge)
variable {xs ys:List V} {te:TE}
section
variable {Q:VK}
def zj0 (K:PySem.W.Frag) (vs:List V) (H:Hp) (R:It->Hp->Prop):Prop:=∃a b,vs=[.ref a,.ref b]/\(∃xs,SqT K H a xs)/\(∃ys,SqL K H b ys)/\R s!"BL" H
theorem zfi {b:Addr} {R:It->Hp->Prop} (h1:SqT K H a xs) (h2:SqL K H b ys) (h:R s!"BL" H):zj0 K [.ref a,.ref b] H R:=⟨a,b,rfl,⟨xs,h1⟩,⟨ys,h2⟩,h⟩
theorem zd5.Qa {ta:TA} {τ0:St} {g:TG} (h:ta σ H fun vs H1=>zj0 K vs H1 fun J H2=>zd4 g te τ0 J H2 Q):zd5 (zjZ K ta) τ0 g te σ H Q:=h
theorem zf9 {b:Addr} (f:V->V->V) (h1:SqT K H a xs) (h2:SqL K H b ys) (hl:xs.length=ys.length) (hz:xs.length<=1000)
 (he:∀(i:Nat) x y H' (R:VK),xs[i]? =some x->ys[i]? =some y->Same H H'->(∀H2,Same H' H2->R (f x y) H2)->te [some x,some y] H' R)
 (h:∀D H',Same H H'->H D=none->H' D=some s!"uFs"->Q s!";" H'):zd4 (zkA K 2 (zgu (zW 0) (zgu (zW 1) znA))) te [none,none] s!"BL" H Q:=by
 intro D hD;have hzl:s!"Fs".length=xs.length:=by rw [List.length_zipWith];omega
 refine ⟨fun i m zs τ H'=>m=xs.length-i/\i<=xs.length/\zs=s!"Fs".take i/\(∃u v,τ=[u,v])/\Same H H'/\H' D=some s!"Bm",⟨xs.length,by simp,Nat.zero_le _,by simp,⟨_,_,rfl⟩,Same.new hD _,ze⟩,?_⟩
 rintro i m zs τ H' ⟨rfl,hi,rfl,⟨u,v,rfl⟩,hs,eD⟩;refine ⟨eD,?_⟩;have q1:=hs.tup h1;have q2:=hs.seq h2
 by_cases hlt:i<xs.length
 ·obtain ⟨x,hx⟩:∃x,xs[i]? =some x:=⟨_,List.getElem?_eq_getElem hlt⟩;obtain ⟨y,hy⟩:∃y,ys[i]? =some y:=⟨_,List.getElem?_eq_getElem s!"c"⟩
  refine .inr ⟨⟨_,_,_,_,q1,q2,hx,hy⟩,?_,fun v0 H2 y0=>?_⟩
  ·rw [List.length_take];exact zk s!"c"
  ·obtain ⟨T,rfl,nT,e⟩:=y0;have e:=e _ _ _ _ q1 q2 hx hy;subst e;have s2:Same H' (upd H' T s!"6{[x,y]}"):=Same.new nT _;refine ⟨T,[x,y],rfl,SqT.of ze,rfl,x,[y],rfl,y,[],rfl,rfl,?_⟩;show te [some x,some y] _ _;refine he i x y _ _ hx hy s!"Cm" fun H3 s3=>⟨s3.obj (s2.obj eD),xs.length-(i+1),by omega,rfl,hlt,?_,⟨_,_,rfl⟩,(hs.trans s!"Da").upd hD,ze⟩
   rw [List.take_add_one,List.getElem?_zipWith,hx,hy];rfl
 ·have e:i=xs.length:=by omega
  subst e;refine .inl ⟨⟨_,_,q1,q2,.inl rfl⟩,h D H' hs hD ?_⟩;rw [<-hzl,List.take_length] at eD;exact eD
end
end L2
namespace L2
open PySem PySem.Spec PyProof.Rows PySem.W
def zgX (K:PySem.W.Frag) (C:Addr) (ts:Addr->Value->Option Addr->TS) (tr:TH):TH:=fun cls dx a D σ H=>∃b,kitOne K cls s!"o"=some b/\
 if b=true then ts a cls dx D σ H else tr cls dx a D σ H
variable {X:Cx} {C:Addr} {ts:Addr->Value->Option Addr->TS} {tr:TH}
theorem ph_cons0 {x:Str} {np pos:Pos} {b0:Stmt} {suite:List Stmt} {rest:List ExceptHandler} (hg:Gl X x) (hm:X.mg x=some s!"o") (hb:CatK X.K C)
 (hs:∀(pins:List (Addr×Obj)) (a:Addr) (oe:Obj) (cls:Value) (dx:Option Addr),oe.cls=cls->XOb oe dx->PSs s!"CM" (b0::suite) (ts a cls dx)) (hr:PH X rest tr) (hd:(x==("__debug__":Str))=false:=by decide):
 PH X (.ExceptHandler s!"EQ" none (b0::suite) pos::rest) (zgX X.K C ts tr):=by
 intro pins σ H s a cls dx D air h;obtain ⟨b,hb1,h⟩:=h;have I:=air.inv;obtain ⟨H0,s0,B,t,I0,os,bare,un,hok,fl,kp,ha⟩:=id air;obtain ⟨oe,_,he,_,hc,_⟩:=fl.obj;refine wpAny_handleBy_cons (codeAny_handlers_test (Calls.Name_function_global I.ok.kind hg (Calls.loadGlobal_global (by rw [I.ok.glob];exact I.mod.glob.keeps I.bk) hm ?_) hd)) (by intro q;cases q)
 refine xK I.kIn he (by rw [hc];exact hb.of hb1) hb.be ?_
 cases b with
 | false=>exact hr pins σ H s a cls dx D air h
 | true=>
  refine codeAny_handlers_suite ?_;refine fl.lands fun h6 fl6 up6=>?_
  have air6:=Air.moved I0 os bare un hok kp ha fl6 up6;have I6:=air6.inv;obtain ⟨o6,v6,e6,d6,c6,x6⟩:=fl6.obj;have offS:a∉frs X.stack:=fun z=>by
   obtain ⟨_,o7,e7,nf⟩:=I6.frm a z;rw [e6] at e7;cases e7;exact nf v6 d6
  have nf:a∉X.fs:=fun z=>by
   rcases I6.ok.stk with y | ⟨y,_⟩
   ·exact offS (by rw [y];exact z)
   ·obtain ⟨en,m1,m2⟩:=List.mem_filterMap.mp z;exact offS (by rw [y];exact List.mem_filterMap.mpr ⟨en,List.mem_cons_of_mem _ m1,m2⟩)
  have nl:a≠X.env.locals:=fun z=>by
   obtain ⟨m,⟨o7,es7,ep7,e7,dd7,_⟩,_⟩:=I6.loc;rw [<-z,e6] at e7;cases e7;rw [d6] at dd7;cases dd7
  have I6H:=I6.inH (oe:=o6) e6 ha nl nf (fun v z=>by rw [d6] at z;cases z) I6.ok.frames
  have q:ts a cls dx D σ H:=h;refine wpAny_mono (hs pins a o6 cls dx c6 ⟨v6,d6,x6⟩ [] _ _ H _ I6H q) (fun f s8 sp=>?_) (fun _ _ z=>z.elim)
  cases f with
  | next=>obtain ⟨σ8,H8,I8,q8⟩:=sp;exact ⟨_,H8,I8.unH I6.ok,q8⟩
  | brk=>obtain ⟨σ8,H8,I8,q8⟩:=sp;exact ⟨_,H8,I8.unH I6.ok,q8⟩
  | cont=>obtain ⟨σ8,H8,I8,q8⟩:=sp;exact ⟨_,H8,I8.unH I6.ok,q8⟩
  | ret u=>obtain ⟨v8,σ8,H8,I8,r8,q8⟩:=sp;exact ⟨v8,_,H8,I8.unH I6.ok,r8,q8⟩
variable {K:PySem.W.Frag} {a:Addr} {D:Ends} {σ:St} {H:Hp}
section
variable {cls:Value} {dx:Option Addr}
theorem zb0 (h1:kitOne K cls s!"o"=some true) (h:ts a cls dx D σ H):zgX K C ts tr cls dx a D σ H:=⟨true,h1,h⟩
end
variable {Q:VK} {td ty:TE}
def zj1 (td:V) (ty:TE) (σ:St) (H1:Hp) (Q:VK):Prop:=∃a,td=.ref a/\IsD H1 a/\ty σ H1 fun y H2=>∃o,wF H2 a y o/\Q s!"DG" H2
theorem zjn.Qa (h:td σ H fun x H1=>zj1 x ty σ H1 Q):zjn td ty σ H Q:=h
def zj3 (td:V) (ty:TE) (σ:St) (H1:Hp) (Q:VK):Prop:=∃a,td=.ref a/\IsD H1 a/\ty σ H1 fun y H2=>∃kvs k v,H2 a=some s!"<"/\y=kV k/\zE kvs k=some v/\Q v s!"EY"
theorem zjo.Qa (h:td σ H fun x H1=>zj3 x ty σ H1 Q):zjo td ty σ H Q:=h
def zj5 (v:V):Prop:=∃t:Str,v=.str t/\t.length<=1000
variable {i:Str} {kvs:List (Key×V)} {v:V} {g:TG} {tb:TS}
theorem zp9.Qb (e:H a=some s!"<") (h:Q s!"!{(!(zE kvs s!"Db").isSome)}" H):zp9 true s!"A2" s!"h" H Q:=⟨a,_,rfl,wF.k (k:=.inr i) e,h⟩
theorem zhZ (e:H a=some s!"<") (hl:kvs.length<sizeLine) (h:D.nx σ s!".{a}{.dK (yQ kvs s!"Db" v)}"):zmV v s!"h" s!"A2" σ H D:=⟨a,_,rfl,zhE.k (k:=.inr i) e hl,h⟩
theorem ww (e:H a=some s!"<") (hv:zE kvs s!"Db"=some v) (h:Q v H):zmW s!"h" s!"A2" H Q:=⟨a,v,rfl,hv▸wF.k (k:=.inr i) e,h⟩
theorem zj1.Qb (e:H a=some s!"<") (h:ty σ H fun y H2=>∃o,wF H2 a y o/\Q s!"DG" H2):zj1 s!"h" ty σ H Q:=⟨a,rfl,.inl ⟨kvs,.inl e⟩,h⟩
theorem zj3.Qb (e:H a=some s!"<") (h:ty σ H fun y H2=>∃kvs k v,H2 a=some s!"<"/\y=kV k/\zE kvs k=some v/\Q v s!"EY"):zj3 s!"h" ty σ H Q:=⟨a,rfl,.inl ⟨kvs,.inl e⟩,h⟩
theorem zh2 (e:H a=some s!"<") (hv:zE kvs s!"Db"=some v) (h:Q v s!".{a}{.dK (zQ kvs s!"Db")}"):∃kvs k v,H a=some s!"<"/\V.str i=kV k/\zE kvs k=some v/\Q v s!"GG":=⟨kvs,.inr i,v,e,rfl,hv,h⟩
def znc:List V->Hp->VK->Prop:=fun xs H Q=>∃a kvs,xs=[V.ref a]/\H a=some s!"<"/\Q s!"EZ" H
theorem zga:zN X s!"BE" znc:=zhI
theorem znc.Qb (e:H a=some s!"<") (h:Q s!"EZ" H):znc [.ref a] H Q:=⟨a,kvs,rfl,e,h⟩
theorem zcn {sp:Sp} (h:∀x dx H1,H x=none->H dx=none->dx≠x->H1=upd s!"CD" x s!"A,{C}{[]}"->sp [.ref x] H1 (fun v H2=>v=.non/\Q s!"Az" H2) (fun _ _ _=>False)):zjW C sp σ H Q:=fun x dx a b c=>h x dx _ a b c rfl
theorem zj6 {b:Addr} {xs ys:List V} (Pv:Nat->St->Hp->Prop) (h0:Pv 0 σ H) (hl:∀i σ H,Pv i σ H->SqT K H a xs/\SqL K H b ys) (hlen:xs.length<=ys.length)
 (hs:∀i x y σ H,xs[i]? =some x->ys[i]? =some y->Pv i σ H->∀T,H T=none->g s!"CK" σ s!".{T}6{[x,y]}" fun σ2 H2=>tb { D with nx:=Pv (i+1),ct:=Pv (i+1),bk:=D.nx } σ2 H2) (hd:∀σ H,Pv xs.length σ H->D.nx σ H):
 ∃W:Nat->Nat->St->Hp->Prop,(∃m,W 0 m σ H)/\∀i m σ H,W i m σ H->
  (s!"BL".stop i H/\D.nx σ H)\/(s!"BL".go i H/\∃N:St->Hp->Prop,(∀σ' H',N σ' H'->∃m',m'<m/\W (i+1) m' σ' H')/\∀y H',s!"BL".yld i H y H'->g y σ H' fun σ2 H2=>tb { D with nx:=N,ct:=N,bk:=D.nx } σ2 H2):=by
 refine ⟨fun i m σ H=>m=xs.length-i/\i<=xs.length/\Pv i σ H,⟨xs.length,by simp,Nat.zero_le _,h0⟩,?_⟩
 rintro i m σ H ⟨rfl,hi,p⟩;obtain ⟨q1,q2⟩:=hl i σ H p
 by_cases hlt:i<xs.length
 ·obtain ⟨x,hx⟩:∃x,xs[i]? =some x:=⟨_,List.getElem?_eq_getElem hlt⟩;obtain ⟨y,hy⟩:∃y,ys[i]? =some y:=⟨_,List.getElem?_eq_getElem s!"c"⟩
  refine .inr ⟨⟨xs,ys,x,y,q1,q2,hx,hy⟩,Pv (i+1),fun σ' H' p'=>⟨xs.length-(i+1),by omega,rfl,hlt,p'⟩,fun v H' yy=>?_⟩
  obtain ⟨T,rfl,nT,e⟩:=yy;have e:=e _ _ _ _ q1 q2 hx hy;subst e;exact hs i x y σ H hx hy p T nT
 ·have e:i=xs.length:=by omega
  subst e;exact .inl ⟨⟨xs,ys,q1,q2,.inl rfl⟩,hd σ H p⟩
theorem zfO.Qa {ta:TA} (h:ta σ H fun vs H1=>zj0 K vs H1 fun J H2=>∃W:Nat->Nat->St->Hp->Prop,(∃m,W 0 m σ H2)/\∀i m σ H,W i m σ H->
 (J.stop i H/\D.nx σ H)\/(J.go i H/\∃N:St->Hp->Prop,(∀σ' H',N σ' H'->∃m',m'<m/\W (i+1) m' σ' H')/\∀x H',J.yld i H x H'->g x σ H' fun σ2 H2=>tb { D with nx:=N,ct:=N,bk:=D.nx } σ2 H2)):zfO (zjZ K ta) g tb D σ H:=h
section
variable {pins:List (Addr×Obj)} {W:Value->Option Addr->St->Hp->Prop}
theorem zqh:SlR s!"AD" (znP X.K):=zeY (X:=X.tried pins W)
theorem zj8:MtR s!"AD" "str.join" (zjs X.K):=zar (X:=X.tried pins W)
theorem zoD {o e:Expr} {es:List Expr} {to:TE} {t:TA} {name:Str} {apos cpos:Pos} {T id:String} {r:V->List V->Hp->VK->Prop}
 (pa:PlainAttrs T) (slot:Slot T name id) (hty:typeOf s!"Bl"=pure s!"EB") (hm:MtR s!"AD" id r) (ho:PE s!"AD" o to) (ha:PA s!"AD" (e::es) t)
 (hbase:attributeBase o name X.env s!"D>"=eval o X.env:=by rfl)
 (hfew:((backTo cpos (starEach (e::es) X.env)).all (fun x=>!x.1) && (backToKw cpos (keywordEach [] X.env)).all (fun x=>x.1.isSome)
  && decide ((e::es).length+([]:List Keyword).length+(if ([]:List Keyword).isEmpty then 0 else 1)<30))=true:=by rfl)
 (hline:(apos.endLine==cpos.line)=true:=by rfl) (hs:starEach (e::es) X.env=(false,eval e X.env)::starEach es X.env:=by rfl) (hplain:s!"B9".any (·.1)=false:=by rfl):
 PE s!"AD" (.Call s!"DwEt" (e::es) [] cpos) s!"G.":=pe_bm (X:=X.tried pins W) pa slot hty hm ho ha hbase hfew hline hs hplain
end
end L2
namespace L2
open PySem PySem.Spec PyProof.Rows
def leT (a b:Str):Prop:=Spec.ltCps b.cps.toList a.cps.toList=false
theorem yZ {x y:Nat} {a b:List Nat}:Spec.ltCps (y::b) (x::a)=false↔x<=y/\(y=x->Spec.ltCps b a=false):=by
 have e:Spec.ltCps (y::b) (x::a)=(decide (y<x) || y==x && Spec.ltCps b a):=by rw [Spec.ltCps]
 rw [e]
 by_cases h1:y<x
 ·simp [h1];omega
 ·by_cases h2:y=x
  ·subst h2;simp
  ·simp [h1,h2];omega
theorem zdv:∀{a b c:List Nat},Spec.ltCps b a=false->Spec.ltCps c b=false->Spec.ltCps c a=false
 | [],_,[],_,_=>rfl
 | [],_,_::_,_,_=>rfl
 | _::_,[],c,h,_=>by cases h
 | _::_,_::_,[],_,h=>by cases h
 | x::a,y::b,z::c,h1,h2=>by
  obtain ⟨p1,p2⟩:=yZ.mp h1;obtain ⟨q1,q2⟩:=yZ.mp h2;refine yZ.mpr ⟨by omega,fun e=>zdv (p2 s!"c") (q2 s!"c")⟩
theorem zfk:∀{a b:List Nat},Spec.ltCps b a=false->Spec.ltCps a b=false->a=b
 | [],[],_,_=>rfl
 | [],_::_,_,h=>by cases h
 | _::_,[],h,_=>by cases h
 | x::a,y::b,h1,h2=>by
  obtain ⟨p1,p2⟩:=yZ.mp h1;obtain ⟨q1,q2⟩:=yZ.mp h2;have e:x=y:=by omega
  rw [e,zfk (p2 e.symm) (q2 e)]
theorem leT.trans {a b c:Str} (h1:leT a b) (h2:leT b c):leT a c:=zdv h1 h2
theorem leT.anti {a b:Str} (h1:leT a b) (h2:leT b a):a=b:=Str.ext' s!"Es{zfk h1 h2}"
theorem zdw:∀{x:Str} {l:List Str},risingS x l=true->(x::l).Pairwise leT
 | x,[],_=>by simp
 | x,y::r,h=>by
  have e:risingS x (y::r)=(!Spec.ltCps y.cps.toList x.cps.toList && risingS y r):=by rw [risingS]
  rw [e] at h;obtain ⟨h1,h2⟩:=Bool.and_eq_true_iff.mp h;have ih:=zdw h2;have xy:leT x y:=by unfold leT;simpa using h1
  refine List.pairwise_cons.mpr ⟨fun z hz=>?_,ih⟩
  rcases List.mem_cons.mp hz with rfl | hz
  ·exact xy
  ·exact xy.trans ((List.pairwise_cons.mp ih).1 z hz)
theorem zdx:∀{l:List Str},sortedS l=true->l.Pairwise leT
 | [],_=>.nil
 | _::_,h=>zdw h
theorem zj9:∀{l m:List Str},l.Perm m->l.Pairwise leT->m.Pairwise leT->l=m
 | [],m,p,_,_=>by
  have:=p.length_eq;exact (List.length_eq_zero_iff.mp this.symm).symm
 | x::l,[],p,_,_=>by
  have:=p.length_eq;cases this
 | x::l,y::m,p,h1,h2=>by
  obtain ⟨a1,a2⟩:=List.pairwise_cons.mp h1;obtain ⟨b1,b2⟩:=List.pairwise_cons.mp h2;have refl:∀z:Str,leT z z:=fun z=>by
   unfold leT;generalize z.cps.toList=l
   induction l with
   | nil=>rfl
   | cons c l ih=>exact yZ.mpr ⟨Nat.le_refl _,fun _=>ih⟩
  have e:x=y:=by
   have k1:leT y x:=by
    rcases List.mem_cons.mp (p.mem_iff.mp (List.mem_cons_self (a:=x))) with z | z
    ·rw [z];exact refl _
    ·exact b1 x z
   have k2:leT x y:=by
    rcases List.mem_cons.mp (p.mem_iff.mpr (List.mem_cons_self (a:=y))) with z | z
    ·rw [z];exact refl _
    ·exact a1 y z
   exact k2.anti k1
  subst e;rw [zj9 (List.Perm.cons_inv p) a2 b2]
structure Names (p:Str->Prop) (ms:List Str):Prop where
 mem:∀n,n∈ms↔p n
 nd:ms.Nodup
 so:sortedS ms=true
theorem Names.uniq {p:Str->Prop} {ms ns:List Str} (h1:Names p ms) (h2:Names p ns):ms=ns:=
 zj9 ((List.perm_ext_iff_of_nodup h1.nd h2.nd).mpr fun a=>(h1.mem a).trans (h2.mem a).symm) (zdx h1.so) (zdx h2.so)
theorem zdy:∀{l m:List Str},l.Nodup->(∀x∈l,x∈m)->l.length<=m.length
 | [],_,_,_=>Nat.zero_le _
 | x::l,m,h,s=>by
  obtain ⟨h1,h2⟩:=List.nodup_cons.mp h;have hx:=s x List.mem_cons_self;have:=zdy (l:=l) (m:=m.erase x) h2 fun y hy=>(List.mem_erase_of_ne (fun (e:y=x)=>h1 (by rw [<-e];exact hy))).mpr (s y s!"D[")
  rw [List.length_erase_of_mem hx] at this;have:1<=m.length:=by
   cases m with
   | nil=>cases hx
   | cons _ _=>simp
  simp only [List.length_cons];omega
section
variable {κ:Type} [DecidableEq κ]
theorem zdz (k j:κ):∀kvs:List (κ×V),zE s!"CQ" j=if j=k then none else zE kvs j
 | []=>by
  show (none:Option V)=_;split <;> rfl
 | p::r=>by
  have ih:=zdz k j r
  by_cases h:p.1=k
  ·rw [zdf h,ih]
   by_cases h2:j=k
   ·rw [if_pos h2,if_pos h2]
   ·rw [if_neg h2,if_neg h2,zy (fun e=>h2 (by rw [<-e,h]))]
  ·rw [zdg h]
   by_cases h2:p.1=j
   ·rw [zD h2,zD h2,if_neg (fun e=>h (by rw [h2,e]))]
   ·rw [zy h2,zy h2,ih]
theorem keys_put {kvs:List (κ×V)} {k:κ} {v:V}:(s!"BH".map (·.1))=kvs.map (·.1)\/(zE kvs k=none/\s!"BH".map (·.1)=kvs.map (·.1)++[k]):=by
 unfold yQ;split
 ·apply Or.inl;rw [List.map_map];refine List.map_congr_left fun p _=>?_
  show (if p.1=k then (p.1,v) else p).1=p.1
  split <;> rfl
 ·rename_i h;right;rw [yi] at h;exact ⟨by simpa using h,by rw [List.map_append];rfl⟩
theorem zh3 {kvs:List (κ×V)} {k:κ}:∀j∈s!"CQ".map (·.1),j∈kvs.map (·.1):=fun j hj=>by
 obtain ⟨p,hp,rfl⟩:=List.mem_map.mp hj;exact List.mem_map.mpr ⟨p,zdh hp,rfl⟩
end
end L2
namespace L2
open PySem PySem.Spec PyProof.Rows PySem.W
section
variable {X:Cx} {pins:List (Addr×Obj)} {W:Value->Option Addr->St->Hp->Prop}
section
variable {scope:Scope} {nm ys:List Str} {cl:List (Str×Addr)} {ex:List Addr} {s:Shared} {H:Hp}
end
end
end L2
namespace L2
open PySem PySem.Spec PyProof.Rows
section
variable {σ:St} {H:Hp} {Q:VK} {K:PySem.W.Frag}
end
end L2
namespace L2
open PySem PySem.Spec PyProof.Rows PySem.W
variable {X:Cx} {a:Addr} {cls:Value} {dx:Option Addr}
section
variable {pins:List (Addr×Obj)} {σ:St} {H H':Hp} {s s':Shared}
end
section
variable {k:Nat} {ps:List Str} {sp:Sp} {x:Str} {p pos:Pos} {e:Expr} {es:List Expr} {t:TA} {pinz:List (Addr×Obj)} {oe:Obj}
end
end L2
namespace L2
open PySem PySem.Spec PyProof.Rows Builtin.Str
end L2
namespace L2
open PySem PySem.Spec PyProof.Rows
def xh:Sp:=fun _ _ _ _=>False
theorem Src.void {P:Program} {w:World} {K:PySem.W.Frag} {mg:Str->Option Value} {base:Heap} {CX:CXT} {x:Str} {st:Stmt} {N ps:List Str} {k:Nat} (F:Src K mg x st ps) (S:FnScope N ps s!"Bn"):Def P w K mg base CX (k+1) x ps xh:=
 F.ok S (fun _ _ _ _ h=>h.elim) fun _ _ _ _ _ _ _ _ _ _ h=>h.elim
end L2
namespace L2
open PySem PySem.Spec PyProof.Rows PySem.W
variable {H:Hp} {Q:VK}
variable {X:Cx} {K:PySem.W.Frag}
variable {σ:St}
variable {scope:Scope}
section
section
variable {pins:List (Addr×Obj)} {fp:List Addr} {cl:List (Str×Addr)} {ys nm:List Str} {fr:List Nat} {H2 H3 H':Hp} {s2 s3 s5:Shared} {h4:Heap}
theorem zco {tg:Expr} {J:It} {it:Addr} {tn:Nat->Heap->Prop} (I2:Inv X pins σ H2 s2) (T:Turn X.prog X.w X.K tg J fp it tn) (st2:tn 0 s2.heap) (f2:∀b∈fp,wD X pins H2 b):
 ∃s3,s3=({ s2 with heap:=s2.heap.push { cls:=.type "list",data:=.seq ([]:List Value).toArray } }:Shared)/\Inv X pins σ (upd H2 s2.heap.objs.size s!"u{[]}") s3/\tn 0 s3.heap/\(∀b∈fp,wD X pins (upd H2 s2.heap.objs.size s!"u{[]}") b)/\∀b∈fp,b<s3.heap.objs.size:=by
 have lfp:∀b∈fp,b<s2.heap.objs.size:=fun b hb=>by
  obtain ⟨o,e,_⟩:=T.obj 0 _ st2 b hb;exact Heap.lt_size e
 refine ⟨_,rfl,I2.laid (t':=s2.toks) (fun b u e=>Heap.get?_push_of_some _ e) s!"+" ⟨Nat.zero_le _,[],0,.nil,Heap.get?_push_size _ rfl⟩,T.keep 0 _ _ st2 fun b _ o e=>Heap.get?_push_of_some _ e,fun b hb=>?_,fun b hb=>?_⟩
 ·obtain ⟨n0,r⟩:=f2 b hb;exact ⟨by rw [zf s!"Am{lfp b hb}"];exact n0,r⟩
 ·show b<(s2.heap.push _).objs.size;rw [Heap.size_push];exact Nat.lt_succ_of_lt (lfp b hb)
theorem zej (nm:List Str) (hc:X.calm=true) (I3:Inv X pins σ H3 s3) (f3:∀b∈fp,wD X pins H3 b) (exlt:∀b∈fp,b<s3.heap.objs.size) (hys:fr.map (fun i=>X.N[i]?)=ys.map some) (hyk0:ys.map X.env.kindOf=ys.map fun _=>some .cell) (hyr0:ys.map (fun y=>s!"BM".names.lookup y)=ys.map fun _=>some .cell)
 (hcell:∀y∈scope.names,y.2≠.cell) (hkind:scope.kind=.function) (hcl:∀x c,cl.lookup x=some c->X.env.cells.lookup x=some c) (hclf:∀x,scope.names.lookup x=some .free->∃c,cl.lookup x=some c)
 (ns4:h4.Ns s3.heap.objs.size fun x=>List.lookup x ([]:List (Str×Value)).reverse) (kept4:∀b o,s3.heap.get? b=some o->h4.get? b=some o):
 Inv s!"Br" [] ((nm.map fun _=>none)++yl fr σ) H3 { s3 with heap:=h4,toks:=s3.toks+([]:List (Str×Value)).length }/\∀{H':Hp},(∀b∈fp,H' b=none)->∀b∈fp,wD s!"Br" [] H' b:=by
 have hyk:∀y∈ys,X.env.kindOf y=some .cell:=fun y hy=>List.map_inj_left.mp hyk0 y hy
 have hyr:∀y∈ys,s!"BM".names.lookup y=some .cell:=fun y hy=>List.map_inj_left.mp hyr0 y hy
 have exStk:∀b∈fp,b∉frs X.stack:=fun b hb z=>by
  obtain ⟨_,n1,n2,_⟩:=f3 b hb;rcases List.mem_cons.mp (I3.stkSub b z) with q | q
  ·exact n1 q
  ·exact n2 q
 have hysome:∀y∈ys,∃c,cl.lookup y=some c:=fun y hy=>by
  obtain ⟨c,e⟩:=I3.ok.has y s!"Hi";exact hclf y (zaq hcell s!"${hyr y hy}")
 have okB:s!"Br".Ok:=by
  refine ⟨I3.ok.mod,hkind,I3.ok.glob,I3.ok.blt,Nat.le_refl _,(fun y z c e1 e2=>I3.ok.inj y z c (hcl _ _ e1) (hcl _ _ e2)),(fun y hy=>?_),(fun y c z=>by cases z),(fun _=>I3.ok.hd hc),I3.ok.frames,.inl rfl,(fun b hb=>⟨Nat.ne_of_lt (exlt b hb),fun y c e=>s!"A;".2.2.2.2.1 y c s!"DN"⟩),I3.bs,Nat.le_trans I3.ok.bsz I3.sz,(fun b o e hb=>?_),(fun b hb=>exStk b hb),I3.stack,I3.stkFree⟩
  ·exact hclf y (zaq hcell hy)
  ·obtain ⟨_,_,_,n3,_⟩:=f3 b hb;rcases n3 with z | z
   ·exact I3.ok.noex b o e z
   ·exact absurd s!"B@AI{(I3.ok.bs b o e).1}{z}" s!"Bh"
 refine ⟨?_,fun {H'} fr' b hb=>?_⟩
 ·refine ⟨okB,rfl,I3.bare,Un.kept kept4,⟨_,ns4,fun i y v e1 e2 e3=>?_⟩,(fun y c e=>(I3.cell y c s!"DN").elim fun v z=>⟨v,zbr kept4 z⟩),I3.hok.fresh s!"+",(fun y c e=>I3.freeC y c s!"DN"),(fun p hp=>?_),I3.hok.kept kept4,?_⟩
  ·have ge:nm.length<=i:=by
    rcases Nat.lt_or_ge i nm.length with z | z
    ·exfalso;have e2':((nm.map fun _=>(none:Option V))++yl fr σ)[i]? =some s!"A0":=e2
     rw [List.getElem?_append_left (by rw [List.length_map];exact z),List.getElem?_map] at e2'
     cases hn:nm[i]? with
     | none=>rw [hn] at e2';cases e2'
     | some w=>rw [hn] at e2';cases e2'
    ·exact z
   obtain ⟨j,rfl⟩:∃j,i=nm.length+j:=⟨i-nm.length,by omega⟩
   have e1':ys[j]? =some y:=by
    have e1'':(nm++ys)[nm.length+j]? =some y:=e1;rw [List.getElem?_append_right s!"c",show nm.length+j-nm.length=j by omega] at e1''
    exact e1''
   have e2':(yl fr σ)[j]? =some s!"A0":=by
    have e2'':((nm.map fun _=>(none:Option V))++yl fr σ)[nm.length+j]? =some s!"A0":=e2
    rw [List.getElem?_append_right (by rw [List.length_map];omega),List.length_map,show nm.length+j-nm.length=j by omega] at e2''
    exact e2''
   obtain ⟨m,hn,hl⟩:=I3.loc;unfold yl at e2';rw [List.getElem?_map] at e2';cases hj:fr[j]? with
   | none=>rw [hj] at e2';cases e2'
   | some q=>
    rw [hj] at e2';have e2'':(σ[q]?).getD none=some v:=by simpa using e2'
    have hq:σ[q]? =some s!"A0":=by
     cases hh:σ[q]? with
     | none=>rw [hh] at e2'';cases e2''
     | some z=>rw [hh] at e2'';rw [show z=some v from e2'']
    have hN:X.N[q]? =some y:=by
     have:=congrArg (fun l=>l[j]?) hys
     simp only [List.getElem?_map,hj,e1'] at this;exact Option.some.inj this
    have hy:y∈ys:=List.mem_of_getElem? e1';obtain ⟨u,ru,lu⟩:=hl q y v hN hq s!"#Hi";refine ⟨u,ru,.inr ⟨.inl (hyr y hy),?_⟩⟩;rcases lu with ⟨hk1,_⟩ | ⟨_,c,hc1,hc2⟩
    ·rw [hyk y hy] at hk1;cases hk1
    ·obtain ⟨c',hc'⟩:=hysome y hy;have:=hcl _ _ hc';rw [hc1] at this;cases this;exact ⟨c,hc',zbr kept4 hc2⟩
  ·have hp':p∈X.pn++pins:=by
    have hp1:p∈(X.pn++pins)++[]:=hp;rw [List.append_nil] at hp1;exact hp1
   obtain ⟨a1,a2,a3,a4,a5⟩:=I3.pin p hp';refine ⟨kept4 _ _ a1,a2,Nat.ne_of_lt s!"AI{a1}",fun z=>?_,a5⟩
   rcases List.mem_cons.mp (I3.stkSub _ z) with q | q
   ·exact a3 q
   ·exact a4 q
  ·show ((nm.map fun _=>(none:Option V))++yl fr σ).length=(nm++ys).length
   have:=congrArg List.length hys;simp only [List.length_map] at this;unfold yl;rw [List.length_append,List.length_append,List.length_map,List.length_map,this]
 ·obtain ⟨_,_,_,_,_,n5⟩:=f3 b hb;refine ⟨fr' b hb,Nat.ne_of_lt (exlt b hb),exStk b hb,.inl hb,(fun y c e=>s!"A;".2.2.2.2.1 y c s!"DN"),fun p hp=>n5 p ?_⟩
  have hp1:p∈(X.pn++pins)++[]:=hp;rw [List.append_nil] at hp1;exact hp1
theorem zfl {z:St} {h':Heap} (I3:Inv X pins σ H3 s3) (f3:∀b∈fp,wD X pins H3 b) (I5:Inv s!"Br" [] z H' s5) (sb:Heap.SameBut s3.heap.objs.size s5.heap h'):Inv X pins σ H' { s5 with heap:=h' }:=by
 have nC:∀b o,s3.heap.get? b=some o->b≠s3.heap.objs.size:=fun b o e=>Nat.ne_of_lt s!"A/"
 have ub:Un s!"A?" fp H3 H' s3.heap s5.heap:=I5.base;have un:Un s!"A?" fp H3 H' s3.heap h':=by
  refine ⟨fun b o e n1 n2 n3=>(sb.2 b (nC b o e)).trans (ub.keep b o e n1 n2 n3),fun b o e n1 n2 n3=>?_,ub.free,fun b o e n3=>?_,ub.tups,ub.frzs,ub.tbls⟩
  ·obtain ⟨sl,e1⟩:=ub.slot b o e n1 n2 n3;exact ⟨sl,(sb.2 b (nC b o e)).trans e1⟩
  ·obtain ⟨o',e1⟩:=ub.there b o e n3;exact ⟨o',(sb.2 b (nC b o e)).trans e1⟩
 have hC:H' s3.heap.objs.size=none:=I5.free;have hok':HOk X.prog X.w H' h':=fun b ob e=>by
  refine (I5.hok b ob e).stay (fun c w' hc' q'=>(sb.2 c ?_).trans q') (fun _ q'=>q') fun _ _ q'=>q'
  intro y;rcases hc' with z' | z'
  ·rw [<-z',y,hC] at e;cases e
  ·rw [y,hC] at z';cases z'
 exact I3.call' (s':={ s5 with heap:=h' }) (ch:=fp) I5.os un hok' I5.bare fun b hb=>⟨s!"A;".2.2.2.1,s!"A;".2.1,s!"A;".2.2.2.2.1,s!"A;".2.2.2.2.2⟩
end
theorem pe_compF2 {elt iter:Expr} {x:Str} {px pos:Pos} {scope:Scope} {wi:TI} {te:TE} (fr:List Nat) (ys:List Str) (hc:X.calm=true) (hi:PI X s!"Dc" iter wi)
 (he:∀(pins:List (Addr×Obj)) (cl:List (Str×Addr)) (ex:List Addr) (s:Shared) (H:Hp),PE s!"ES" elt te)
 (hys:fr.map (fun i=>X.N[i]?)=ys.map some) (hyk0:ys.map X.env.kindOf=ys.map fun _=>some .cell) (hyr0:ys.map (fun y=>s!"BM".names.lookup y)=ys.map fun _=>some .cell)
 (hfree:∀y∈scope.names,y.2=.free->y.1∈ys) (hcell:∀y∈scope.names,y.2≠.cell) (hkind:scope.kind=.function) (hnames:∀y∈scope.names,y.2=.local->scope.names.lookup y.1=some .local) (hx:scope.names.lookup x=some .local) (hnd:(x::ys).Nodup)
 (hs:∀v,foldedSetIterable iter X.env v=pure v:=by intro _;rfl):PE X (.ListComp elt [⟨.Name x px,iter,[],0⟩] scope pos) (zd3 wi fr te):=by
 have hyk:∀y∈ys,X.env.kindOf y=some .cell:=fun y hy=>List.map_inj_left.mp hyk0 y hy
 intro pins s σ H Q I h;obtain ⟨cl,hclo,hcl,hclf⟩:=yP (scope:=scope) (env:=X.env) fun y hy e=>I.ok.has _ s!"Ft"
 rw [eval_ListComp];refine wpAny_comprehension_free (use:=none) rfl hs hclo hkind hnames (thn (hi pins s σ H _ I h) fun v s1 h1=>thn h1 fun itv s2 h2=>?_)
 obtain ⟨it,fp,tn,J,H2,e,I2,T,st2,f2,hW⟩:=h2;subst e;refine wpAny_newObj_type ?_ (by show 0<=sizeLine;exact Nat.zero_le _)
 have nD:H2 s2.heap.objs.size=none:=I2.hok.fresh s!"+";obtain ⟨W,⟨m0,w0⟩,turn⟩:=hW _ nD;obtain ⟨s3,e3,I3,st3,f3,exlt⟩:=zco I2 T st2 f2;rw [<-e3];generalize hD:s2.heap.objs.size=D at*;generalize hH3:upd H2 D s!"u{[]}"=H3 at*;refine wpAny_newFunctionEnv hcell (by intro y hy;simp at hy) (fun h4 ns4 sb4=>?_) hkind
 have hxr:s!"BM".names.lookup x=some .local:=lookup_relabel_local hx;have kept4:∀b o,s3.heap.get? b=some o->h4.get? b=some o:=fun b o e=>(sb4.2 b s!"AmA/").trans s!"AU"
 have IN:=zej [x] hc I3 f3 exlt hys hyk0 hyr0 hcell hkind hcl hclf ns4 kept4;have I4:Inv s!"AV" [] (none::yl fr σ) H3 { s3 with heap:=h4,toks:=s3.toks+([]:List (Str×Value)).length }:=IN.1
 have st4:tn 0 h4:=T.keep 0 _ _ st3 fun b _ o e=>kept4 b o e
 have fpB:∀{H':Hp},(∀b∈fp,H' b=none)->∀b∈fp,wD s!"AV" [] H' b:=IN.2;have loop:codeAny s!"q" X.A (.compLoop (.ListComp elt [⟨.Name x px,iter,[],0⟩] scope pos) 0 s!"Bi" s!";" (ze2 X.env scope cl s3.heap.objs.size))
  (compPost s!"q" X.A X.xe none (EP X pins σ Q) s!";" s3.heap.objs.size)
  { s3 with heap:=h4,toks:=s3.toks+([]:List (Str×Value)).length }:=by
  refine codeAny_compLoop_list (fun n s'=>∃(i:Nat) (z:Option V) (H':Hp) (zs:List V),Inv s!"AV" [] (z::yl fr σ) H' s'/\tn i s'.heap/\(∀b∈fp,H' b=none)/\W i n zs H') (fun n s' hI=>?_) m0 ⟨0,none,H3,[],I4,st4,fun b hb=>s!"A;".1,w0⟩
  obtain ⟨i,z,H',zs,IB,st,fr',w'⟩:=hI;obtain ⟨eD,tt⟩:=turn i n zs H' w';rcases tt with ⟨stop,q⟩ | ⟨go,hz,step⟩
  ·refine wpAny_mono (T.done s!"AV" rfl rfl rfl hc i [] s' (z::yl fr σ) H' _ IB s!"Cq" st stop) (fun r s5 hr=>?_) (fun _ _ e=>e)
   obtain ⟨hr,I5⟩:=hr;subst hr;obtain ⟨m,nsm,_⟩:=id I5.loc;refine ⟨m,nsm,fun h' sb=>⟨.ref D,H',?_,rfl,q⟩⟩
   exact zfl (nm:=[x]) I3 f3 I5 sb
  ·refine wpAny_mono (T.item s!"AV" rfl rfl rfl hc i [] s' (z::yl fr σ) H' _ IB s!"Cq" st go) (fun r s5 hr=>?_) (fun _ _ e=>e)
   obtain ⟨u,hr,h5⟩:=hr;subst hr;refine (show ∀{t:Sem Unit} {Q1:Unit->Shared->Prop} {E1:Value->Shared->Prop},wpAny s!"q" X.A (letOwnedTupleGo s!"Dc" s!"Bi" u >>=fun _=>t) Q1 E1 s5->wpAny s!"q" X.A t Q1 E1 s5 from fun hh=>hh) ?_
   refine wpAny_bind (wpAny_mono h5 (fun _ s6 hy=>?_) (fun _ _ e=>e))
   obtain ⟨y,H5,I5,r5,y5,st5,fr5⟩:=hy;have I5':=I5.pinned (fpB fr5) s!"D,";refine wpAny_assign_Name (yV (X:=X.blockF pins scope x ys cl fp s3 H3) (i:=0) I5' hnd rfl s!"$D1" r5 (fun s7 I7=>?_) s!"#D1")
   refine wpAny_mono (he pins cl fp s3 H3 _ s7 (some y::yl fr σ) H5 _ I7 (step y H5 y5)) (fun xv s8 h8=>?_) (fun _ _ e=>e.elim)
   obtain ⟨yv,H8,I8,r8,eD8,m',hm',w8⟩:=h8;refine wpAny_mono (mt_append (X:=X.blockF pins scope x ys cl fp s3 H3) _ s8 (some y::yl fr σ) H8 s!";" [yv] s!";" [xv] (fun v H=>v=.non/\H=upd H8 D s!"u{(zs++[yv])}") I8 rfl s!"Fu" ⟨D,zs,yv,rfl,rfl,eD8,hz,rfl,rfl⟩) (fun _ s9 h9=>?_) (fun _ _ e=>e.elim)
   obtain ⟨_,H9,I9,_,_,rfl⟩:=h9;refine ⟨m',hm',i+1,some y,_,zs++[yv],I9.unpinned,T.keep _ _ _ st5 fun b hb o e=>(I9.pin (b,o) s!"AgAgB0").1,fun b hb=>?_,w8⟩
   obtain ⟨o,e,_⟩:=T.obj _ _ st5 b hb;exact (I9.pin (b,o) s!"AgAgB0").2.1
 exact codeAny_compStart_list loop s!"Fv"
theorem zgb {elt iter:Expr} {elts:List Expr} {x1:Nat} {tp pos:Pos} {wi:TI} {g:TG} {te:TE} (nm:List Str) (fr:List Nat) (ys:List Str) (hc:X.calm=true) (hi:PI X s!"DO" iter wi)
 (hg:∀(pins:List (Addr×Obj)) (cl:List (Str×Addr)) (ex:List Addr) (s:Shared) (H:Hp),PG s!"Co" s!"DO" g)
 (he:∀(pins:List (Addr×Obj)) (cl:List (Str×Addr)) (ex:List Addr) (s:Shared) (H:Hp),PE s!"Co" elt te)
 (hys:fr.map (fun i=>X.N[i]?)=ys.map some) (hyk0:ys.map X.env.kindOf=ys.map fun _=>some .cell) (hyr0:ys.map (fun y=>s!"BM".names.lookup y)=ys.map fun _=>some .cell)
 (hfree:∀y∈scope.names,y.2=.free->y.1∈ys) (hcell:∀y∈scope.names,y.2≠.cell) (hkind:scope.kind=.function) (hnames:∀y∈scope.names,y.2=.local->scope.names.lookup y.1=some .local)
 (hs:∀v,foldedSetIterable iter X.env v=pure v:=by intro _;rfl):PE X (.ListComp elt [⟨.Tuple elts x1 tp,iter,[],0⟩] scope pos) (zd9 wi nm fr g te):=by
 have hyk:∀y∈ys,X.env.kindOf y=some .cell:=fun y hy=>List.map_inj_left.mp hyk0 y hy
 intro pins s σ H Q I h;obtain ⟨cl,hclo,hcl,hclf⟩:=yP (scope:=scope) (env:=X.env) fun y hy e=>I.ok.has _ s!"Ft"
 rw [eval_ListComp];refine wpAny_comprehension_free (use:=none) rfl hs hclo hkind hnames (thn (hi pins s σ H _ I h) fun v s1 h1=>thn h1 fun itv s2 h2=>?_)
 obtain ⟨it,fp,tn,J,H2,e,I2,T,st2,f2,hW⟩:=h2;subst e;refine wpAny_newObj_type ?_ (by show 0<=sizeLine;exact Nat.zero_le _)
 have nD:H2 s2.heap.objs.size=none:=I2.hok.fresh s!"+";obtain ⟨W,⟨m0,w0⟩,turn⟩:=hW _ nD;obtain ⟨s3,e3,I3,st3,f3,exlt⟩:=zco I2 T st2 f2;rw [<-e3];generalize hD:s2.heap.objs.size=D at*;generalize hH3:upd H2 D s!"u{[]}"=H3 at*;refine wpAny_newFunctionEnv hcell (by intro y hy;simp at hy) (fun h4 ns4 sb4=>?_) hkind
 have kept4:∀b o,s3.heap.get? b=some o->h4.get? b=some o:=fun b o e=>(sb4.2 b s!"AmA/").trans s!"AU"
 have IN:=zej nm hc I3 f3 exlt hys hyk0 hyr0 hcell hkind hcl hclf ns4 kept4;have I4:Inv s!"Br" [] ((nm.map fun _=>none)++yl fr σ) H3 { s3 with heap:=h4,toks:=s3.toks+([]:List (Str×Value)).length }:=IN.1
 have st4:tn 0 h4:=T.keep 0 _ _ st3 fun b _ o e=>kept4 b o e
 have fpB:∀{H':Hp},(∀b∈fp,H' b=none)->∀b∈fp,wD s!"Br" [] H' b:=IN.2;have loop:codeAny s!"q" X.A (.compLoop (.ListComp elt [⟨.Tuple elts x1 tp,iter,[],0⟩] scope pos) 0 s!"Bi" s!";" (ze2 X.env scope cl s3.heap.objs.size))
  (compPost s!"q" X.A X.xe none (EP X pins σ Q) s!";" s3.heap.objs.size)
  { s3 with heap:=h4,toks:=s3.toks+([]:List (Str×Value)).length }:=by
  refine PyProof.Rows.LCp.codeAny_compLoop_pair (fun n s'=>∃(i:Nat) (z:St) (H':Hp) (zs:List V),Inv s!"Br" [] z H' s'/\tn i s'.heap/\(∀b∈fp,H' b=none)/\W i n zs z H') (fun n s' hI=>?_) m0 ⟨0,_,H3,[],I4,st4,fun b hb=>s!"A;".1,w0⟩
  obtain ⟨i,z,H',zs,IB,st,fr',w'⟩:=hI;obtain ⟨eD,tt⟩:=turn i n zs z H' w';rcases tt with ⟨stop,q⟩ | ⟨go,hz,step⟩
  ·refine wpAny_mono (T.done s!"Br" rfl rfl rfl hc i [] s' z H' _ IB s!"Cq" st stop) (fun r s5 hr=>?_) (fun _ _ e=>e)
   obtain ⟨hr,I5⟩:=hr;subst hr;obtain ⟨m,nsm,_⟩:=id I5.loc;refine ⟨m,nsm,fun h' sb=>⟨.ref D,H',?_,rfl,q⟩⟩
   exact zfl (nm:=nm) I3 f3 I5 sb
  ·refine wpAny_mono (T.item s!"Br" rfl rfl rfl hc i [] s' z H' _ IB s!"Cq" st go) (fun r s5 hr=>?_) (fun _ _ e=>e)
   obtain ⟨u,hr,h5⟩:=hr;subst hr;refine wpAny_mono h5 (fun _ s6 hy=>?_) (fun _ _ e=>e)
   obtain ⟨y,H5,I5,r5,y5,st5,fr5⟩:=hy;have I5':=I5.pinned (fpB fr5) s!"D,";refine wpAny_mono (hg pins cl fp s3 H3 _ s6 z H5 y u _ I5' r5 (step y H5 y5)) (fun _ s7 h7=>?_) (fun _ _ e=>e.elim)
   obtain ⟨z7,H7,I7,q7⟩:=h7;refine wpAny_mono (he pins cl fp s3 H3 _ s7 z7 H7 _ I7 q7) (fun xv s8 h8=>?_) (fun _ _ e=>e.elim)
   obtain ⟨yv,H8,I8,r8,eD8,m',hm',w8⟩:=h8;refine wpAny_mono (mt_append (X:=X.blockM pins scope nm ys cl fp s3 H3) _ s8 z7 H8 s!";" [yv] s!";" [xv] (fun v H=>v=.non/\H=upd H8 D s!"u{(zs++[yv])}") I8 rfl s!"Fu" ⟨D,zs,yv,rfl,rfl,eD8,hz,rfl,rfl⟩) (fun _ s9 h9=>?_) (fun _ _ e=>e.elim)
   obtain ⟨_,H9,I9,_,_,rfl⟩:=h9;refine ⟨m',hm',i+1,z7,_,zs++[yv],I9.unpinned,T.keep _ _ _ st5 fun b hb o e=>(I9.pin (b,o) s!"AgAgB0").1,fun b hb=>?_,w8⟩
   obtain ⟨o,e,_⟩:=T.obj _ _ st5 b hb;exact (I9.pin (b,o) s!"AgAgB0").2.1
 exact codeAny_compStart_list loop s!"Fv"
theorem zka {ti:Nat} {tv:Str} {py spos:Pos} {elt iter:Expr} {x:Str} {px pos:Pos} {scope:Scope} {wi:TI} {te:TE} (fr:List Nat) (ys:List Str) (hc:X.calm=true) (hi:PI X s!"Dc" iter wi)
 (he:∀(pins:List (Addr×Obj)) (cl:List (Str×Addr)) (ex:List Addr) (s:Shared) (H:Hp),PE s!"ES" elt te)
 (hys:fr.map (fun i=>X.N[i]?)=ys.map some) (hyk0:ys.map X.env.kindOf=ys.map fun _=>some .cell) (hyr0:ys.map (fun y=>s!"BM".names.lookup y)=ys.map fun _=>some .cell)
 (hfree:∀y∈scope.names,y.2=.free->y.1∈ys) (hcell:∀y∈scope.names,y.2≠.cell) (hkind:scope.kind=.function) (hnames:∀y∈scope.names,y.2=.local->scope.names.lookup y.1=some .local) (hx:scope.names.lookup x=some .local) (hnd:(x::ys).Nodup)
 (hN:X.N.Nodup) (hti:X.N[ti]? =some tv) (htl:Loc X.env.scope tv) (hsw:swapsWith (.ListComp elt [⟨.Name x px,iter,[],0⟩] scope pos) s!"nDd" spos.line X.env=pure true:=by rfl) (hfn:X.fn tv=true\/X.env.scope.names.lookup tv=some .local:=by first | exact .inl rfl | exact .inr rfl | assumption)
 (hs:∀v,foldedSetIterable iter X.env v=pure v:=by intro _;rfl):PS X (.Assign [.Name tv py] (.ListComp elt [⟨.Name x px,iter,[],0⟩] scope pos) spos) (znB (zd3 wi fr te) (zW ti)):=by
 have hyk:∀y∈ys,X.env.kindOf y=some .cell:=fun y hy=>List.map_inj_left.mp hyk0 y hy
 intro pins s σ H Ds I h;obtain ⟨cl,hclo,hcl,hclf⟩:=yP (scope:=scope) (env:=X.env) fun y hy e=>I.ok.has _ s!"Ft"
 rw [exec_Assign_Name_used _ _ _ _ hsw];refine wpAny_bind s!"DxE_";show wpAny _ X.A (do let _ <-comprehension (.ListComp elt [⟨.Name x px,iter,[],0⟩] scope pos) scope X.env _ (newList []) false s!"Gy" s!"n{assign s!"Dd" X.env}") _ _ s
 refine wpAny_bind (wpAny_mono (wpAny_comprehension_free (use:=some (assign s!"Dd" X.env)) (Q:=fun _ s'=>SP X pins Ds .next s') rfl hs hclo hkind hnames (thn (hi pins s σ H _ I h) fun v s1 h1=>thn h1 fun itv s2 h2=>?_)) (fun _ s' hq=>wpAny_pure s!"Al{hq}") fun _ _ e=>e)
 obtain ⟨it,fp,tn,J,H2,e,I2,T,st2,f2,hW⟩:=h2;subst e;refine wpAny_newObj_type ?_ (by show 0<=sizeLine;exact Nat.zero_le _)
 have nD:H2 s2.heap.objs.size=none:=I2.hok.fresh s!"+";obtain ⟨W,⟨m0,w0⟩,turn⟩:=hW _ nD;obtain ⟨s3,e3,I3,st3,f3,exlt⟩:=zco I2 T st2 f2;rw [<-e3];generalize hD:s2.heap.objs.size=D at*;generalize hH3:upd H2 D s!"u{[]}"=H3 at*;refine wpAny_newFunctionEnv hcell (by intro y hy;simp at hy) (fun h4 ns4 sb4=>?_) hkind
 have hxr:s!"BM".names.lookup x=some .local:=lookup_relabel_local hx;have kept4:∀b o,s3.heap.get? b=some o->h4.get? b=some o:=fun b o e=>(sb4.2 b s!"AmA/").trans s!"AU"
 have IN:=zej [x] hc I3 f3 exlt hys hyk0 hyr0 hcell hkind hcl hclf ns4 kept4;have I4:Inv s!"AV" [] (none::yl fr σ) H3 { s3 with heap:=h4,toks:=s3.toks+([]:List (Str×Value)).length }:=IN.1
 have st4:tn 0 h4:=T.keep 0 _ _ st3 fun b _ o e=>kept4 b o e
 have fpB:∀{H':Hp},(∀b∈fp,H' b=none)->∀b∈fp,wD s!"AV" [] H' b:=IN.2;have loop:codeAny s!"q" X.A (.compLoop (.ListComp elt [⟨.Name x px,iter,[],0⟩] scope pos) 0 s!"Bi" s!";" (ze2 X.env scope cl s3.heap.objs.size))
  (compPost s!"q" X.A X.xe s!"n{assign s!"Dd" X.env}" (fun _ s'=>SP X pins Ds .next s') s!";" s3.heap.objs.size)
  { s3 with heap:=h4,toks:=s3.toks+([]:List (Str×Value)).length }:=by
  refine codeAny_compLoop_list (fun n s'=>∃(i:Nat) (z:Option V) (H':Hp) (zs:List V),Inv s!"AV" [] (z::yl fr σ) H' s'/\tn i s'.heap/\(∀b∈fp,H' b=none)/\W i n zs H') (fun n s' hI=>?_) m0 ⟨0,none,H3,[],I4,st4,fun b hb=>s!"A;".1,w0⟩
  obtain ⟨i,z,H',zs,IB,st,fr',w'⟩:=hI;obtain ⟨eD,tt⟩:=turn i n zs H' w';rcases tt with ⟨stop,q⟩ | ⟨go,hz,step⟩
  ·refine wpAny_mono (T.done s!"AV" rfl rfl rfl hc i [] s' (z::yl fr σ) H' _ IB s!"Cq" st stop) (fun r s5 hr=>?_) (fun _ _ e=>e)
   obtain ⟨hr,I5⟩:=hr;subst hr;obtain ⟨m,nsm,_⟩:=id I5.loc;have IX:Inv X pins σ H' s5:=I3.call' (s':=s5) (ch:=fp) I5.os I5.base I5.hok I5.bare fun b hb=>⟨s!"A;".2.2.2.1,s!"A;".2.1,s!"A;".2.2.2.2.1,s!"A;".2.2.2.2.2⟩
   show wpAny s!"q" X.A (assign s!"Dd" X.env s!";") _ _ s5;refine wpAny_assign_Name (zcX (v:=.ref D) IX hN hti htl rfl (fun s6 I6 hsb=>?_) hfn)
   obtain ⟨a,sb6,ha⟩:=hsb;have aC:s3.heap.objs.size≠a:=by
    rcases ha with rfl | ha
    ·exact Ne.symm s!"Am{I3.lt}"
    ·obtain ⟨v',z'⟩:=I3.cell _ _ ha;exact Ne.symm s!"Am{z'.lt}"
   refine ⟨m,nsm.sameBut sb6 aC,fun h' sb=>⟨_,H',I6.turnedL (t':=s6.toks) (ch:=[s3.heap.objs.size]) (fun b o hb e=>(sb.2 b (by simpa using hb)).trans e) (fun b hb=>?_),q⟩⟩
   have eb:b=s3.heap.objs.size:=by simpa using hb
   subst eb;exact I3.fpOk s!"+" I5.free
  ·refine wpAny_mono (T.item s!"AV" rfl rfl rfl hc i [] s' (z::yl fr σ) H' _ IB s!"Cq" st go) (fun r s5 hr=>?_) (fun _ _ e=>e)
   obtain ⟨u,hr,h5⟩:=hr;subst hr;refine (show ∀{t:Sem Unit} {Q1:Unit->Shared->Prop} {E1:Value->Shared->Prop},wpAny s!"q" X.A (letOwnedTupleGo s!"Dc" s!"Bi" u >>=fun _=>t) Q1 E1 s5->wpAny s!"q" X.A t Q1 E1 s5 from fun hh=>hh) ?_
   refine wpAny_bind (wpAny_mono h5 (fun _ s6 hy=>?_) (fun _ _ e=>e))
   obtain ⟨y,H5,I5,r5,y5,st5,fr5⟩:=hy;have I5':=I5.pinned (fpB fr5) s!"D,";refine wpAny_assign_Name (yV (X:=X.blockF pins scope x ys cl fp s3 H3) (i:=0) I5' hnd rfl s!"$D1" r5 (fun s7 I7=>?_) s!"#D1")
   refine wpAny_mono (he pins cl fp s3 H3 _ s7 (some y::yl fr σ) H5 _ I7 (step y H5 y5)) (fun xv s8 h8=>?_) (fun _ _ e=>e.elim)
   obtain ⟨yv,H8,I8,r8,eD8,m',hm',w8⟩:=h8;refine wpAny_mono (mt_append (X:=X.blockF pins scope x ys cl fp s3 H3) _ s8 (some y::yl fr σ) H8 s!";" [yv] s!";" [xv] (fun v H=>v=.non/\H=upd H8 D s!"u{(zs++[yv])}") I8 rfl s!"Fu" ⟨D,zs,yv,rfl,rfl,eD8,hz,rfl,rfl⟩) (fun _ s9 h9=>?_) (fun _ _ e=>e.elim)
   obtain ⟨_,H9,I9,_,_,rfl⟩:=h9;refine ⟨m',hm',i+1,some y,_,zs++[yv],I9.unpinned,T.keep _ _ _ st5 fun b hb o e=>(I9.pin (b,o) s!"AgAgB0").1,fun b hb=>?_,w8⟩
   obtain ⟨o,e,_⟩:=T.obj _ _ st5 b hb;exact (I9.pin (b,o) s!"AgAgB0").2.1
 exact codeAny_compStart_list loop s!"Fv"
theorem pe_compZ2 {elt iter:Expr} {x:Str} {px pos:Pos} {scope:Scope} {wi:TI} {te:TE} (hc:X.calm=true) (hi:PI X s!"Dc" iter wi)
 (he:∀(pins:List (Addr×Obj)) (cl:List (Str×Addr)) (ex:List Addr) (s:Shared) (H:Hp),PE (X.blockF pins scope x [] cl ex s H) elt te)
 (hfree:∀y∈scope.names,y.2≠.free) (hcell:∀y∈scope.names,y.2≠.cell) (hkind:scope.kind=.function) (hnames:∀y∈scope.names,y.2=.local->scope.names.lookup y.1=some .local) (hx:scope.names.lookup x=some .local)
 (hs:∀v,foldedSetIterable iter X.env v=pure v:=by intro _;rfl):PE X (.ListComp elt [⟨.Name x px,iter,[],0⟩] scope pos) (zgG wi te):=
 pe_compF2 [] [] hc hi he rfl rfl rfl (fun y hy e=>absurd e (hfree y hy)) hcell hkind hnames hx s!"s" hs
theorem zgc {elt iter:Expr} {elts:List Expr} {x1:Nat} {tp pos:Pos} {scope:Scope} {wi:TI} {g:TG} {te:TE} (nm:List Str) (hc:X.calm=true) (hi:PI X s!"DO" iter wi)
 (hg:∀(pins:List (Addr×Obj)) (cl:List (Str×Addr)) (ex:List Addr) (s:Shared) (H:Hp),PG (X.blockM pins scope nm [] cl ex s H) s!"DO" g)
 (he:∀(pins:List (Addr×Obj)) (cl:List (Str×Addr)) (ex:List Addr) (s:Shared) (H:Hp),PE (X.blockM pins scope nm [] cl ex s H) elt te)
 (hfree:∀y∈scope.names,y.2≠.free) (hcell:∀y∈scope.names,y.2≠.cell) (hkind:scope.kind=.function) (hnames:∀y∈scope.names,y.2=.local->scope.names.lookup y.1=some .local)
 (hs:∀v,foldedSetIterable iter X.env v=pure v:=by intro _;rfl):PE X (.ListComp elt [⟨.Tuple elts x1 tp,iter,[],0⟩] scope pos) (zd5 wi (nm.map fun _=>none) g te):=by
 have e:zd9 wi nm [] g te=zd5 wi (nm.map fun _=>none) g te:=by
  funext σ H Q;simp [zd9,zd5,yl]
 rw [<-e];exact zgb nm [] [] hc hi hg he rfl rfl rfl (fun y hy e=>absurd e (hfree y hy)) hcell hkind hnames hs
end
end L2
set_option exponentiation.threshold 2000
namespace Mth
theorem zkb (a b:Int):Int.gcd b (a%b)=Int.gcd a b:=by
 rw [Int.emod_def,Int.sub_eq_add_neg,<-Int.mul_neg,Int.gcd_add_mul_left_right,Int.gcd_comm]
set_option exponentiation.threshold 4000
def yK (t:Int×Int×Int×Int) (p:Bool×Int):Int×Int×Int×Int:=
 if p.1 then (t.1,t.2.1+p.2*t.1,t.2.2.1,t.2.2.2+p.2*t.2.2.1) else (t.1+p.2*t.2.1,t.2.1,t.2.2.1+p.2*t.2.2.2,t.2.2.2)
def fw (ws:List (Bool×Int)):Int×Int×Int×Int:=ws.foldl yK (1,0,0,1)
theorem zmf (ws:List (Bool×Int)) (p:Bool×Int):fw (ws++[p])=yK s!"AW" p:=by
 unfold fw;rw [List.foldl_append];rfl
variable {ws:List (Bool×Int)} {p:Bool×Int}
theorem zmg {i:Nat} (h:ws[i]? =some p):fw (ws.take (i+1))=yK s!"Fw" p:=by
 rw [List.take_add_one,h];exact zmf _ _
def Alt (ws:List (Bool×Int)):Prop:=∀(i:Nat) p q,ws[i]? =some p->ws[i+1]? =some q->p.1≠q.1
section
variable {a0 b0 c0 d0 a b c d:Int}
end
def Le4 (t u:Int×Int×Int×Int):Prop:=t.1<=u.1/\t.2.1<=u.2.1/\t.2.2.1<=u.2.2.1/\t.2.2.2<=u.2.2.2
theorem zkc {t:Int×Int×Int×Int} (h1:1<=t.1) (h2:0<=t.2.1) (h3:0<=t.2.2.1) (h4:1<=t.2.2.2) (hp:1<=p.2):Le4 t (yK t p):=by
 obtain ⟨a,b,c,d⟩:=t;obtain ⟨l,n⟩:=p;change 1<=a at h1;change 0<=b at h2;change 0<=c at h3;change 1<=d at h4;change 1<=n at hp;have m1:=Int.mul_nonneg (show 0<=n by omega) (show 0<=a by omega)
 have m2:=Int.mul_nonneg (show 0<=n by omega) h2
 have m3:=Int.mul_nonneg (show 0<=n by omega) h3
 have m4:=Int.mul_nonneg (show 0<=n by omega) (show 0<=d by omega)
 cases l with
 | true=>
  show a<=a/\b<=b+n*a/\c<=c/\d<=d+n*c;omega
 | false=>
  show a<=a+n*b/\b<=b/\c<=c+n*d/\d<=d;omega
theorem zek:∀(ws:List (Bool×Int)) (t:Int×Int×Int×Int),1<=t.1->0<=t.2.1->0<=t.2.2.1->1<=t.2.2.2->(∀p∈ws,1<=p.2)->Le4 t s!"De"
 | [],t,_,_,_,_,_=>⟨Int.le_refl _,Int.le_refl _,Int.le_refl _,Int.le_refl _⟩
 | p::r,t,h1,h2,h3,h4,hp=>by
  obtain ⟨a1,a2,a3,a4⟩:=zkc h1 h2 h3 h4 (hp p (List.mem_cons_self ..));obtain ⟨b1,b2,b3,b4⟩:=zek r (yK t p) s!"c" s!"c" s!"c" s!"c" fun q hq=>hp q s!"Ds{hq}"
  show Le4 t (r.foldl yK (yK t p));exact ⟨by omega,by omega,by omega,by omega⟩
theorem zkd {ws:List (Bool×Int)} (h:∀p∈ws,1<=p.2):1<=s!"AW".1/\0<=s!"AW".2.1/\0<=s!"AW".2.2.1/\1<=s!"AW".2.2.2:=by
 obtain ⟨a1,a2,a3,a4⟩:=zek ws (1,0,0,1) s!"d" s!"d" s!"d" s!"d" h
 exact ⟨a1,a2,a3,a4⟩
theorem znd (h:∀p∈ws,1<=p.2) (i:Nat):Le4 s!"Fw" s!"AW":=by
 obtain ⟨a1,a2,a3,a4⟩:=zkd (ws:=ws.take i) fun p hp=>h p s!"Hj"
 have:=zek (ws.drop i) s!"Fw" a1 a2 a3 a4 fun p hp=>h p (List.mem_of_mem_drop hp)
 unfold fw at this ⊢;rw [<-List.foldl_append,List.take_append_drop] at this;exact this
theorem zfm:∀(ws:List (Bool×Int)) (t:Int×Int×Int×Int),t.1*t.2.2.2-t.2.1*t.2.2.1=1->s!"De".1*s!"De".2.2.2-s!"De".2.1*s!"De".2.2.1=1
 | [],_,h=>h
 | p::r,t,h=>by
  refine zfm r (yK t p) ?_;unfold yK;cases p.1 with
  | true=>
   show t.1*(t.2.2.2+p.2*t.2.2.1)-(t.2.1+p.2*t.1)*t.2.2.1=1;grind
  | false=>
   show (t.1+p.2*t.2.1)*t.2.2.2-t.2.1*(t.2.2.1+p.2*t.2.2.2)=1;grind
theorem zke (ws:List (Bool×Int)):s!"AW".1*s!"AW".2.2.2-s!"AW".2.1*s!"AW".2.2.1=1:=zfm ws _ s!"d"
section
variable {a0 b0 c0 d0 a b c d:Int}
end
end Mth
local macro_rules|`(tactic|walk_at "lo")=>`(tactic|first|exact .inl rfl|exact .inr rfl|assumption)
local macro_rules|`(tactic|walk_at "o")=>`(tactic|first|with_reducible assumption|omega)
local macro_rules|`(tactic|walk_at "m")=>`(tactic|first
  | exact PySem.IntMulOk.of_right (PySem.intBits_le_64 (by walk_at "o") (by walk_at "o"))
  | exact PySem.IntMulOk.of_left (PySem.intBits_le_64 (by walk_at "o") (by walk_at "o"))
  | exact L2.Bd.mulOk (m := 2000) (n := 2000) (by walk_at "b") (by walk_at "b") (by decide) (by decide))
local macro_rules|`(tactic|walk_at "b")=>`(tactic|(show Int.natAbs _ < _;walk_at "o"))
local macro_rules|`(tactic|walk_at "h")=>`(tactic|first
  | assumption
  | exact L2.SqL.of (by assumption)
  | exact L2.SqT.of (by assumption)
  | exact L2.ze
  | (refine' L2.Same.seq (by assumption) ?z; (case z => walk_at "h"))
  | (refine' L2.Same.tup (by assumption) ?z; (case z => walk_at "h"))
  | (refine' L2.Same.obj (by assumption) ?z; (case z => walk_at "h")))
local macro_rules|`(tactic|walk_at "lenle")=>`(tactic|first|((with_reducible refine' L2.zl9 ?p ?q);(case p=>walk_at "lenle");(case q=>walk_at "lenle"))|with_reducible assumption|exact (show _ ≤ 40 from by decide +kernel)|assumption)
local macro_rules|`(tactic|walk_at "g")=>`(tactic|first|decide +kernel|(refine' L2.zqd ?a ?b;(case a=>walk_at "lenle");(case b=>decide)))
local macro_rules|`(tactic|walk_at "t")=>`(tactic|first|assumption|decide +kernel|(exact Nat.le_trans (by assumption) (by decide))|(exact Nat.le_of_lt (L2.zk (by omega))))
local macro_rules|`(tactic|walk_at "f")=>`(tactic|first|assumption|decide +kernel)
local macro_rules|`(tactic|walk_at "sm")=>`(tactic|first
  | exact L2.Same.refl _
  | assumption
  | (refine' L2.Same.trans ?z (by assumption); (case z => walk_at "sm")))
local macro_rules|`(tactic|walk_at "z")=>`(tactic|first|decide|(simp only [List.length_cons, List.length_nil];decide)|(simp;decide))
def rR(w:String):Lean.MacroM (Lean.TSyntax `tactic):=do
 if w.startsWith "*" then return <-`(tactic|walk_at $(Lean.Syntax.mkStrLit (w.drop 1).toString))
 let l:=w.splitOn ":"
 let s:=(l.getD 1 "").toList
 let q:=(s.filter Char.isAlpha).zipIdx
 let i(k:Nat):=Lean.mkIdent (.mkSimple ("q".pushn 'q' k))
 let h<-q.mapM fun x=>`(?$(i x.2))
 let x:=l.getD 0 ""
 let f:Lean.Term<-if x.contains '.' then pure (Lean.mkIdent (`_root_.L2++x.toName)) else `(.$(Lean.mkIdent x.toName))
 let t:=Lean.Syntax.mkApp f (h++[<-`(?_)]).toArray
 let a<-if s.contains '\'' then `(tactic|with_reducible refine' $t) else `(tactic|with_reducible refine $t)
 let a<-q.foldlM (fun a x=>do
  let c<-match x.1 with
   |'a'=>`(tactic|assumption)
   |'r'=>`(tactic|rfl)
   |'d'=>`(tactic|decide)
   |c=>`(tactic|walk_at $(Lean.Syntax.mkStrLit c.toString))
  `(tactic|($a;case $(i x.2):ident=>$c:tactic))) a
 (s.filter Char.isDigit).foldlM (fun a x=>(List.range (x.toNat-48)).foldlM (fun a _=>`(tactic|($a;intro _))) a) a
def rF(w:String):Lean.MacroM Lean.Syntax:=do
 let a<-(w.splitOn " ").toArray.mapM rR
 return (<-`(tactic|first $[|$a:tactic]*)).raw
local macro_rules|`(tactic|walk_at "i")=>`(tactic|first | exact .int _ | exact .bl _ | exact .non | exact .str _ | exact .tup (by walk_at "h") | exact .lst (by walk_at "h") | constructor)

local macro_rules|`(tactic|walk_at "ds")=>`(tactic|try dsimp only [L2.zan, L2.Cx.inH, L2.Cx.tried])
def rD:Lean.MacroM (Lean.TSyntax `tactic):=do
 let a<-("Qa Qb:'h Qc:'h Qd:'hhz5 Qe Qf Qg Qh Qi Qj Qk Ql Qm Qn:'aa Qo:'ahar Qp:a Qq:a Qr:'hr Qs:'hr Qt:'haar Qu:g Qv:t Qw:f Qx:'h2 Qy:2 Qz:5 Q0:m Q2:o Q3:ob Q4:z5 Q5:'h5 Q6:'r Q7:oo Q8:oooo Q9:'ir *rdcall".splitOn " ").toArray.mapM rR
 let e<-`(tactic|((fail_if_success (fail_if_success (with_reducible refine .Ka ?_)));walk_at "en"))
 `(tactic|first $[|$(a.push e):tactic]*)
local macro_rules|`(tactic|walk_at "rd1")=>do return (<-rD).raw
local macro_rules|`(tactic|walk_at "rdcall")=>`(tactic|fail "no call")
local macro_rules|`(tactic|walk_at "rd")=>do `(tactic|repeat $(<-rD):tactic)
local macro_rules|`(tactic|walk_at "en")=>do `(tactic|first $[|$(<-(("zo7.Qa znB.Qa zo9.Qa zo8.Qa zmy.Qa zpk.Qa zfO.Qa zec.Qa zmZ.Qa zmU.Qa ziW.Qa zmx.Qa zfO.Qe zfO.Qf zfO.Qg zfO.Qh zfO.Qi zpa.Q6:'r zf1.Qp:a zf1.Qq:a Ends.nx.Ka".splitOn " ").toArray.mapM rR)):tactic]*)
local macro_rules|`(tactic|left)=>`(tactic|walk_at "rd")
local macro_rules|`(tactic|walk_at "ite")=>`(tactic|first
  | (with_reducible refine L2.zn0 (fun _ => ?_) (fun _ => ?_))
  | (with_reducible refine L2.zkT (fun _ => ?_) (fun _ => ?_))
  | (with_reducible refine L2.ziO (fun _ => ?_) (fun _ => ?_))
  | (with_reducible refine L2.zkW (fun _ => ?_) (fun _ => ?_)))
local macro_rules|`(tactic|walk_at "rdi")=>`(tactic|repeat' (first|walk_at "rd1"|(walk_at "ite" <;> (try (exfalso;omega)))))
namespace My
open PySem L2
abbrev wY:Stmt:=top 18
theorem zbw:FnScope ["thing"] ["thing"] (zc wY):=s!"r"
abbrev zO:Stmt:=top 19
theorem yj:FnScope ["thing"] ["thing"] (zc zO):=s!"r"
abbrev xT:Stmt:=top 20
theorem zaz:FnScope ["least","number"] ["least","number"] (zc xT):=s!"r"
abbrev wZ:Stmt:=top 21
theorem zbx:FnScope ["m"] ["m"] (zc wZ):=s!"r"
abbrev za8:Stmt:=top 22
theorem zcp:FnScope ["most","number"] ["most","number"] (zc za8):=s!"r"
abbrev zcq:Stmt:=top 24
theorem zdA:FnScope ["a","b","high","low","rest"] ["a","b"] (zc zcq):=s!"r"
abbrev xi:Stmt:=top 25
theorem wJ:FnScope ["a","m"] ["a","m"] (zc xi):=s!"r"
abbrev xj:Stmt:=top 27
theorem wK:FnScope ["a","m","sign"] ["a","m","sign"] (zc xj):=s!"r"
abbrev xU:Stmt:=top 28
theorem zaA:FnScope ["a","m","row","rows"] ["a","m"] (zc xU):=s!"r"
abbrev xV:Stmt:=top 29
theorem zaB:FnScope ["a","m","last"] ["a","m"] (zc xV):=s!"r"
abbrev yz:Stmt:=top 30
theorem xt:FnScope ["a","m"] ["a","m"] (zc yz):=s!"r"
abbrev w5:Stmt:=top 32
theorem zby:FnScope ["n","m","a","b","rows","going","more","slope","end"] ["n","m","a","b"] (zc w5):=s!"r"
abbrev xW:Stmt:=top 33
theorem zaC:FnScope ["n","m","a","b"] ["n","m","a","b"] (zc xW):=s!"r"
abbrev yA:Stmt:=top 34
theorem xu:FnScope ["a","m"] ["a","m"] (zc yA):=s!"r"
abbrev w6:Stmt:=top 36
theorem zbz:FnScope ["a","m","steps","high","low","rest"] ["a","m"] (zc w6):=s!"r"
abbrev yR:Stmt:=top 38
theorem xX:FnScope ["bottom"] ["bottom"] (zc yR):=s!"r"
abbrev w9:Stmt:=top 39
theorem zbA:FnScope ["top","bottom","part"] ["top","bottom"] (zc w9):=s!"r"
abbrev yB:Stmt:=top 41
theorem xw:FnScope ["a","m","numbers","told","place","low","high"] ["a","m"] (zc yB):=s!"r"
abbrev zcr:Stmt:=top 42
theorem zdB:FnScope ["a","m","part"] ["a","m"] (zc zcr):=s!"r"
abbrev xY:Stmt:=top 43
theorem zaD:FnScope ["a","m"] ["a","m"] (zc xY):=s!"r"
abbrev zaa:Stmt:=top 45
theorem zbB:FnScope ["table"] ["table"] (zc zaa):=s!"r"
abbrev xk:Stmt:=top 46
theorem wL:FnScope ["table"] ["table"] (zc xk):=s!"r"
abbrev yC:Stmt:=top 47
theorem xx:FnScope ["row","table"] ["row","table"] (zc yC):=s!"r"
abbrev zab:Stmt:=top 48
theorem zbC:FnScope ["one","other"] ["one","other"] (zc zab):=s!"r"
abbrev za9:Stmt:=top 49
theorem zcs:FnScope ["table"] ["table"] (zc za9):=s!"r"
abbrev xZ:Stmt:=top 51
theorem zel:FnScope ["table","c","d"] ["table"] (zc xZ):=s!"r"
abbrev x5:Stmt:=top 52
theorem zem:FnScope ["table","number"] ["table"] (zc x5):=s!"r"
abbrev zct:Stmt:=top 55
theorem zdC:FnScope ["thing"] ["thing"] (zc zct):=s!"r"
abbrev zba:Stmt:=top 56
theorem zcu:FnScope ["word"] ["word"] (zc zba):=s!"r"
abbrev x8:Stmt:=top 57
theorem zaE:FnScope ["word"] ["word"] (zc x8):=s!"r"
abbrev zac:Stmt:=top 58
theorem zbD:FnScope ["word","a","b","c","d","run"] ["word"] (zc zac):=s!"r"
abbrev zbb:Stmt:=top 61
theorem zgd:FnScope ["table","upper","lower","word","often"] ["table"] (zc zbb):=s!"r"
abbrev x9:Stmt:=top 66
theorem zaF:FnScope ["text","figures"] ["text"] (zc x9):=s!"r"
abbrev ye:Stmt:=top 67
theorem yL:FnScope ["x","top","bottom"] ["x"] (zc ye):=s!"r"
abbrev yS:Stmt:=top 68
theorem wa:FnScope ["table"] ["table"] (zc yS):=s!"r"
abbrev xl:Stmt:=top 70
theorem zcM:FnScope ["word"] ["word"] (zc xl):=s!"r"
abbrev wc:Stmt:=top 71
theorem zaG:FnScope ["holds"] ["holds"] (zc wc):=s!"r"
abbrev yD:Stmt:=top 72
theorem xz:FnScope ["pieces"] ["pieces"] (zc yD):=s!"r"
abbrev xm:Stmt:=top 73
theorem wM:FnScope ["text","numbers","table"] ["text"] (zc xm):=s!"r"
abbrev we:Stmt:=top 74
theorem zaH:FnScope ["text","pieces","letters","numbers","word"] ["text"] (zc we):=s!"r"
abbrev zbc:Stmt:=top 81
theorem zcv:FnScope ["piece"] ["piece"] (zc zbc):=s!"r"
abbrev xn:Stmt:=top 82
theorem wN:FnScope ["kind","piece"] ["kind","piece"] (zc xn):=s!"r"
abbrev zad:Stmt:=top 83
theorem zbE:FnScope ["pieces","form"] ["pieces","form"] (zc zad):=s!"r"
abbrev yT:Stmt:=top 84
theorem wf:FnScope ["pieces"] ["pieces"] (zc yT):=s!"r"
abbrev zbd:Stmt:=top 85
theorem zcw:FnScope ["pieces","form"] ["pieces"] (zc zbd):=s!"r"
abbrev zP:Stmt:=top 86
theorem yk:FnScope ["table","number"] ["table"] (zc zP):=s!"r"
abbrev ym:Stmt:=top 87
theorem y8:FnScope ["ask","table"] ["ask","table"] (zc ym):=s!"r"
abbrev zZ:Stmt:=top 88
theorem yE:FnScope ["ask","numbers","p","m"] ["ask","numbers"] (zc zZ):=s!"r"
abbrev yn:Stmt:=yh s!"Bs" 0
theorem y9:FnScope ["self"] ["self"] (zc yn):=s!"r"
abbrev ya:Stmt:=yh s!"Bs" 2
theorem yF:FnScope ["self","form","pieces","kind","piece"] ["self","form","pieces"] (zc ya):=s!"r"
abbrev yf:Stmt:=yh s!"Bs" 3
theorem yM:FnScope ["self","pieces","table"] ["self","pieces"] (zc yf):=s!"r"
abbrev wg:Stmt:=yh s!"Bs" 7
theorem zaI:FnScope ["self","name","table"] ["self","name","table"] (zc wg):=s!"r"
abbrev yG:Stmt:=yh s!"Bs" 4
theorem xD:FnScope ["self","name","table"] ["self","name","table"] (zc yG):=s!"r"
abbrev wj:Stmt:=yh s!"Bs" 5
theorem zaJ:FnScope ["self","deed"] ["self"] (zc wj):=s!"r"
abbrev wk:Stmt:=yh s!"Bs" 6
theorem zaK:FnScope ["self","deed"] ["self"] (zc wk):=s!"r"
abbrev zT:Stmt:=yh s!"Bs" 8
theorem yo:FnScope ["self"] ["self"] (zc zT):=s!"r"
abbrev wl:Stmt:=yh s!"Bs" 1
theorem zaL:FnScope ["self","line","pieces","form","first","table"] ["self","line"] (zc wl):=s!"r"
abbrev wm:Stmt:=top 91
theorem zaM:FnScope ["_law_script","_law_k"] ["_law_script","_law_k"] (zc wm):=s!"r"
abbrev xo:Stmt:=top 92
theorem wO:FnScope ["_law_cell_here","_law_k","_law_prime","_law_far"] ["_law_cell_here","_law_k","_law_prime"] (zc xo):=s!"r"
abbrev xq:Stmt:=top 93
theorem wP:FnScope ["_law_cell_here","_law_widths","_law_prime","_law_left","_law_found","_law_k"] ["_law_cell_here","_law_widths","_law_prime"] (zc xq):=s!"r"
abbrev wn:Stmt:=top 94
theorem zaN:FnScope ["_law_desk","_law_line","_law_told_here","e","_law_kinds","_law_more"] ["_law_desk","_law_line"] (zc wn):=s!"r"
abbrev zae:Stmt:=top 95
theorem zbF:FnScope ["_law_found"] [] (zc zae):=s!"r"
abbrev yH:Stmt:=top 96
theorem xE:FnScope ["_law_cell_here","_law_prime","_law_signs","_law_sign","_law_found"] ["_law_cell_here","_law_prime"] (zc yH):=s!"r"
abbrev wo:Stmt:=top 97
theorem zaO:FnScope ["_law_cell_here","_law_prime","_law_draws_here","_law_far","_law_found"] ["_law_cell_here","_law_prime"] (zc wo):=s!"r"
abbrev yU:Stmt:=top 98
theorem wp:FnScope ["_law_line","_law_cell_here","_law_prime","_law_draws_here","_law_words","_law_at","_law_twice"] ["_law_line","_law_cell_here","_law_prime"] (zc yU):=s!"r"
abbrev zdD:Stmt:=top 99
theorem zkf:FnScope ["_law_script","_law_empty","_law_full","_law_shown","_law_bad_here","_law_first","_law_strange_here","_law_line","_law_k","_law_good_here"] ["_law_script"] (zc zdD):=s!"r"
abbrev xa:Stmt:=yh (top 15) 0
theorem zdE:FnScope ["self","name"] ["self","name"] (zc xa):=s!"r"
structure Blt (mg:Str->Option Value):Prop where
 abs:mg "abs"=none
 all:mg "all"=none
 bool:mg "bool"=none
 int:mg "int"=none
 isinstance:mg "isinstance"=none
 len:mg "len"=none
 list:mg "list"=none
 max:mg "max"=none
 min:mg "min"=none
 range:mg "range"=none
 sorted:mg "sorted"=none
 str:mg "str"=none
 sum:mg "sum"=none
 tuple:mg "tuple"=none
 zip:mg "zip"=none
structure OCDesk (K:PySem.W.Frag) (mg:Str->Option Value):Type where
 addr:Addr
 gl:mg "Desk"=some s!"D("
 cl:L2.Cls K addr
 n_tables:yc K addr "tables"
 n_done:yc K addr "done"
 n_taken_back:yc K addr "taken_back"
 f___init__:Addr
 m___init__:Meth K addr "__init__" f___init__
 f_need_known:Addr
 m_need_known:Meth K addr "need_known" f_need_known
 f_new_table:Addr
 m_new_table:Meth K addr "new_table" f_new_table
 f_keep:Addr
 m_keep:Meth K addr "keep" f_keep
 f_do_deed:Addr
 m_do_deed:Meth K addr "do_deed" f_do_deed
 f_undo:Addr
 m_undo:Meth K addr "undo" f_undo
 f_redo:Addr
 m_redo:Meth K addr "redo" f_redo
 f_shown_names:Addr
 m_shown_names:Meth K addr "shown_names" f_shown_names
 f_tell:Addr
 m_tell:Meth K addr "tell" f_tell
 mkk:Mk K addr f___init__
structure Cls (K:PySem.W.Frag) (mg:Str->Option Value) (base:Heap):Type where
 SawError:CK K mg base "SawError"
 NoCount:CK K mg base "NoCount"
 NotOdd:CK K mg base "NotOdd"
 TooMany:CK K mg base "TooMany"
 NotApart:CK K mg base "NotApart"
 NoShuffle:CG mg "NoShuffle"
 NoPaper:CG mg "NoPaper"
 NoPrime:CG mg "NoPrime"
 NoFraction:CK K mg base "NoFraction"
 NoTable:CK K mg base "NoTable"
 NoWord:CK K mg base "NoWord"
 NoRow:CG mg "NoRow"
 NoText:CK K mg base "NoText"
 NoLine:CK K mg base "NoLine"
 NoName:CI K mg base "NoName" "name" "SawError"
 NoDeed:CK K mg base "NoDeed"
 Desk:OCDesk K mg
abbrev K1 (K:PySem.W.Frag) (a b:Addr) (t:Bool):Prop:=PySem.W.kitOne K s!"h" s!"B8"=some t
structure Rel (K:PySem.W.Frag) (mg:Str->Option Value) (base:Heap) (C:Cls K mg base):Prop where
 r_NoText_NoText:K1 K C.NoText.addr C.NoText.addr true
 rl:K1 K C.NoLine.addr C.NoLine.addr true
 rls:K1 K C.NoLine.addr C.SawError.addr true
 r10:PySem.W.kitAny K s!"Hk" [s!"Hl",s!"Hm",s!"Hn",s!"Ho",s!"Hp",s!"Hq",s!"Hr",s!"Hs",s!"Ht",s!"Hu"]=some false
 r4:PySem.W.kitAny K s!"Hk" [s!"Hv",s!"Hw",s!"Hx",s!"Hy"]=some false
 rn0:K1 K C.NoName.addr C.NoLine.addr false
 rs0:K1 K C.NoName.addr C.SawError.addr true
 rn1:K1 K C.NoCount.addr C.NoLine.addr false
 rs1:K1 K C.NoCount.addr C.SawError.addr true
 rn2:K1 K C.NotOdd.addr C.NoLine.addr false
 rs2:K1 K C.NotOdd.addr C.SawError.addr true
 rn3:K1 K C.NotApart.addr C.NoLine.addr false
 rs3:K1 K C.NotApart.addr C.SawError.addr true
inductive FormK (K:PySem.W.Frag):List Addr->List s!"Df"->Prop where
 | nil:FormK K [] []
 | cons {a:Addr} {f:List Str} {as:List Addr} {fs:List s!"Df"} (h:∀H,SqT K H a s!"Fx") (r:FormK K as fs):FormK K (a::as) (f::fs)
structure Cst (K:PySem.W.Frag) (mg:Str->Option Value):Prop where
 MOST_FIGURES:∃t,mg "MOST_FIGURES"=some (.int 60 t)
 MOST_LETTERS:∃t,mg "MOST_LETTERS"=some (.int 8 t)
 FIGURES:∃t,mg "FIGURES"=some (.str "0123456789" t)
 EMPTY_WORD:∃t,mg "EMPTY_WORD"=some (.str "none" t)
 LETTERS:∃t,mg "LETTERS"=some (.str "abcdefghijklmnopqrstuvwxyz" t)
 NO_NAMES:∃t,mg "NO_NAMES"=some (.str "none" t)
 WORD_FORM:∃T,mg "WORD_FORM"=some s!"CK"/\∀H,SqT K H T ((["word","NAME"]:List Str).map V.str)
 FORMS:∃(T:Addr) (as:List Addr),mg "FORMS"=some s!"CK"/\(∀H,SqT K H T (as.map V.ref))/\FormK K as [["table","NAME","NUMBER","NUMBER","NUMBER","NUMBER"],["let","NAME","together","KNOWN","KNOWN"],["let","NAME","back","KNOWN"],["drop","KNOWN"],["undo"],["redo"],["names"],["show","KNOWN"],["number","KNOWN"],["steady","KNOWN"],["spell","KNOWN"],["sign","NUMBER","NUMBER"],["teeth","NUMBER","NUMBER"],["twelve","NUMBER","NUMBER"],["points","NUMBER","NUMBER"],["shuffle","NUMBER","NUMBER"],["parts","NUMBER","NUMBER","NUMBER","NUMBER"]]
def zgY (K:PySem.W.Frag):Sp:=fun vs H Q _=>∃(a:Addr) (ns:List Int),vs=[.ref a]/\SqL K H a s!"Ai"/\ns.length<=63/\∀H',Q s!"BA" H'
variable {K:PySem.W.Frag} {mg:Str->Option Value} {e:ErrC} {CD a T L B D cW T' L' B' x':Addr} {H H' H1 H0:Hp} {Q Q':VK} {E E':XK} {b n i c k:Int} {v:V} {ws us:List (Bool×Int)} {xs:List V} {t ask p1 p2 p3 p4:Str} {ns:List Int} {ps qs fs:List Str} {x:Tb} {kvs:List (Key×V)} {f:Str->Option Tb} {o:Option Tb} {ds:List Addr} {dn dn0:List wG} {st st':DSt} {d:wG}
section
variable {P:Program} {w:World} {base:Heap}
structure Hide (p:Prop):Prop where
 out:p
def zfn:Sp:=fun vs H Q _=>∃a b:Int,vs=[.int a,.int b]/\Q s!"Hz" H
theorem zmh {a:Int} (h:Q s!"Hz" H):zfn [.int a,.int b] H Q E:=⟨a,b,rfl,h⟩
local macro_rules|`(tactic|walk_at "rdcall")=>`(tactic|(with_reducible refine zmh ?_))
theorem zh4 {C:Cls K mg base} (F:SrcI K "NoName.__init__" xa C.NoName.f ["self","name"]):DefI P w K mg base s!"p" 1 C.NoName.f ["self","name"] s!"H0":=by
 refine F.ok (CX:=CXE P w) (k:=0) zdE s!"t" (fun cdv A outer s H vs Q E hr h=>?_)
 ·obtain ⟨_,_,rfl,_⟩:=h;rfl
 have nd:=zdE.nd;obtain ⟨e,v,rfl,⟨i,rfl,il⟩,eE,hQ⟩:=h;refine ⟨_,s!"b%{@ze9 _ _ _ _ _ _ _ _ _ _ _ C.NoName.own rfl C.NoName.ugl C.NoName.u1 C.NoName.u2 C.NoName.u3 s!"ava{@wu _ _ _ _ _ _ s!"Du{@zl2 _ _ _ _ s!"9"}Du*{PJ.nil}"}g" s!"d" (by rfl) (by rfl) _ (by rfl)}e{@zlY _ _ _ _ _ _ _ _ _ C.NoName.ini s!"v" s!"9" (by rfl)}",?_⟩
 walk_at "ds";refine zd [some s!"Aj",some s!"A2"] rfl ?_;left;exact hQ _ (by assumption)
def isI:V->Bool
 | .int _=>true
 | _=>false
def Kn (H:Hp) (v:V):Prop:=(∃i,v=.int i)\/(∃b,v=.bl b)\/(∃s,v=.str s)\/v=.non\/(∃p xs,v=.ref p/\H p=some s!"Ae")\/(∃p xs,v=.ref p/\H p=some s!"3")
def zoE:Sp:=fun vs H Q _=>∃v:V,vs=[v]/\Kn H v/\Q s!"!{isI v}" H
theorem zfo (F:Src K mg "is_whole" wY ["thing"]) (B:Blt mg) (C:Cls K mg base) (R:Rel K mg base C) (Kc:Cst K mg):Def P w K mg base s!"p" 1 "is_whole" ["thing"] zoE:=by
 refine F.ok (CX:=CXE P w) (k:=0) zbw s!"t" s!"w"
 ·obtain ⟨_,rfl,_⟩:=h;rfl
 have nd:=zbw.nd;obtain ⟨v,rfl,k,q⟩:=h;refine ⟨_,s!"exB?_BeA=A>avaBx{.ty "int"}{B.int}{PyProof.Rows.boot_int}gC%{@pe_not _ _ _ _ s!"_BeA=A>avaBx{.ty "bool"}{B.bool}{PyProof.Rows.boot_bool}g"}",?_⟩
 walk_at "ds";refine zd [some v] rfl ?_;rcases k with ⟨i,rfl⟩ | ⟨b,rfl⟩ | ⟨s,rfl⟩ | rfl | ⟨p,xs,rfl,hp⟩ | ⟨p,xs,rfl,hp⟩
 ·left;exact q
 ·left;walk_at "ite"
  ·left;exact q
  ·rename_i c;exact absurd c s!"d"
 ·left;exact q
 ·left;exact q
 ·left;exact q
 ·left;exact q
def zqi:Sp:=fun vs H Q _=>∃(r:Addr) (a b:Int),vs=[.ref r]/\H r=some s!"6{[.int a,.int b]}"/\Q s!"BA" H
theorem wq (F:Src K mg "is_pair_of_wholes" zO ["thing"]) (B:Blt mg) (C:Cls K mg base) (R:Rel K mg base C) (Kc:Cst K mg) (D_is_whole:s!"l{1}{"is_whole"}{["thing"]}{zoE}"):Def P w K mg base s!"p" 2 "is_pair_of_wholes" ["thing"] zqi:=by
 refine F.ok (CX:=CXE P w) (k:=1) yj s!"t" s!"w"
 ·obtain ⟨_,_,_,rfl,_⟩:=h;rfl
 have nd:=yj.nd;obtain ⟨r,a,b,rfl,e,q⟩:=h;refine ⟨_,s!"exB?_BeA=A>avaBxEvEwExgB?BSBN5B?FzC%Fz",?_⟩
 walk_at "ds";refine zd [some s!"At"] rfl ?_;left;walk_at "ite"
 ·left;refine ⟨_,rfl,.inl ⟨_,rfl⟩,?_⟩;rw [show isI (V.int a)=true from rfl]
  left;refine ⟨_,rfl,.inl ⟨_,rfl⟩,?_⟩;exact q
 ·rename_i c;exact absurd rfl c
def zbe (c:Addr):Sp:=fun vs H Q E=>∃l n:Int,vs=[.int l,.int n]/\(l=0\/l=1)/\(n<l->E s!"Af" none H)/\(l<=n->Q .non H)
theorem zen (F:Src K mg "need_from" xT ["least","number"]) (B:Blt mg) (C:Cls K mg base) (R:Rel K mg base C) (Kc:Cst K mg):Def P w K mg base s!"p" 1 "need_from" ["least","number"] (zbe C.NoCount.addr):=by
 refine F.okX (CX:=CXE P w) (k:=0) zaz s!"t" s!"w"
 ·obtain ⟨_,_,rfl,_⟩:=h;rfl
 have nd:=zaz.nd;obtain ⟨l,n,rfl,hl,h1,h2⟩:=h;refine ⟨_,s!"e8-{zfX}9ve{@ps_raise _ _ _ _ _ _ _ _ _ _ _ _ _ _ (C.NoCount).own PySem.F.excBase_ValueError rfl rfl xmade_cx s!"H1" s!"d" (by rfl) (by rfl)}",?_⟩
 walk_at "ds";refine zd [some s!"2{l}",some s!"Bo"] rfl ?_;left;walk_at "ite"
 ·rename_i c;rcases hl with rfl | rfl
  ·left;exact h1 c
  ·left;exact h1 c
 ·left;exact h2 s!"c"
def zkg (cN cO:Addr):Sp:=fun vs H Q E=>∃m:Int,vs=[.int m]/\(m<1->E s!"k{cN}" none H)/\(1<=m->m%2=0->E s!"k{cO}" none H)/\(1<=m->m%2=1->Q .non H)
theorem zfp (F:Src K mg "need_odd" wZ ["m"]) (B:Blt mg) (C:Cls K mg base) (R:Rel K mg base C) (Kc:Cst K mg) (D_need_from:s!"l{1}{"need_from"}{["least","number"]}C."):Def P w K mg base s!"p" 2 "need_odd" ["m"] (zkg C.NoCount.addr C.NotOdd.addr):=by
 refine F.okX (CX:=CXE P w) (k:=1) zbx s!"t" s!"w"
 ·obtain ⟨_,rfl,_⟩:=h;rfl
 have nd:=zbx.nd;obtain ⟨m,rfl,h1,h2,h3⟩:=h;refine ⟨_,s!"b%mFOya5Aye8DPeBv{(C.NotOdd).own}",?_⟩
 walk_at "ds";refine zd [some s!"A_"] rfl ?_;left;refine ⟨_,_,rfl,by omega,h1,fun hm=>?_⟩
 left;walk_at "ite"
 ·rename_i c;left;exact h2 hm c
 ·left;exact h3 hm s!"c"
def zqj (cT:Addr):Sp:=fun vs H Q E=>∃l n:Int,vs=[.int l,.int n]/\(l=200\/l=60\/l=999999\/l=10^60-1)/\(l<n->E s!"DQ" none H)/\(n<=l->Q .non H)
theorem zge (F:Src K mg "need_to" za8 ["most","number"]) (B:Blt mg) (C:Cls K mg base) (R:Rel K mg base C) (Kc:Cst K mg):Def P w K mg base s!"p" 1 "need_to" ["most","number"] s!"H2":=by
 refine F.okX (CX:=CXE P w) (k:=0) zcp s!"t" s!"w"
 ·obtain ⟨_,_,rfl,_⟩:=h;rfl
 have nd:=zcp.nd;obtain ⟨l,n,rfl,hl,h1,h2⟩:=h;refine ⟨_,s!"e8-D29ve{@ps_raise _ _ _ _ _ _ _ _ _ _ _ _ _ _ (C.TooMany).own PySem.F.excBase_ValueError rfl rfl xmade_cx s!"H1" s!"d" (by rfl) (by rfl)}",?_⟩
 walk_at "ds";refine zd [some s!"2{l}",some s!"Bo"] rfl ?_;left;walk_at "ite"
 ·rename_i c;rcases hl with rfl | rfl | rfl | rfl <;> (left;exact h1 c)
 ·rename_i c;left;exact h2 s!"c"
theorem zh5 (F:Src K mg "shared" zcq ["a","b"]) (B:Blt mg) (C:Cls K mg base) (R:Rel K mg base C) (Kc:Cst K mg):Def P w K mg base s!"p" 1 "shared" ["a","b"] zfn:=by
 refine F.ok (CX:=CXE P w) (k:=0) zdA s!"t" s!"w"
 ·obtain ⟨_,_,rfl,_⟩:=h;rfl
 have nd:=zdA.nd;obtain ⟨a,b,rfl,q⟩:=h;refine ⟨_,s!"bj{2}_{zaZ}{B.abs}{PyProof.Rows.boot_abs}Aybj{3}H3b{@zal _ _ _ _ _ _ PassesOwn.never s!"-Cr>5" s!"bj{4}iA8/>bj{2}>eH4"}Dg",?_⟩
 walk_at "ds";refine zd [some s!"An",some s!"B&",none,none,none] rfl ?_;left;rename_i x0 e0 y0 e1;refine zap (fun m σ H'=>H'=H/\∃(x y:Int) (z:Option V),m=y.natAbs/\σ=[some s!"An",some s!"B&",some s!"2{x}",some s!"2{y}",z]/\0<=x/\0<=y/\Int.gcd x y=Int.gcd a b) _ ⟨rfl,x0,y0,_,rfl,rfl,by omega,by omega,by rw [e0,e1];simp [Int.gcd]⟩ ?_
 rintro m σ H' ⟨rfl,x,y,z,rfl,rfl,hx,hy,hg⟩;left;walk_at "ite"
 ·rename_i c;left;have h1:=Int.emod_nonneg x c;have h2:=Int.emod_lt_of_pos x (show 0<y by omega)
  exact ⟨_,by omega,rfl,_,_,_,rfl,rfl,hy,h1,(Mth.zkb x y).trans hg⟩
 ·rename_i c;subst c;left;have e:x=(Int.gcd a b:Int):=by
   rw [<-hg,Int.gcd_zero_right];omega
  rw [e];exact q
def zqk (cA:Addr):Sp:=fun vs H Q E=>∃a m:Int,vs=[.int a,.int m]/\(Int.gcd a m≠1->E s!"k{cA}" none H)/\(Int.gcd a m=1->Q .non H)
theorem zcN (F:Src K mg "need_apart" xi ["a","m"]) (B:Blt mg) (C:Cls K mg base) (R:Rel K mg base C) (Kc:Cst K mg) (D_shared:s!"l{1}{"shared"}{["a","b"]}{zfn}"):Def P w K mg base s!"p" 2 "need_apart" ["a","m"] s!"H5":=by
 refine F.okX (CX:=CXE P w) (k:=1) wJ s!"t" s!"w"
 ·obtain ⟨_,_,rfl,_⟩:=h;rfl
 have nd:=wJ.nd;obtain ⟨a,m,rfl,h1,h2⟩:=h;refine ⟨_,s!"e8-CrDR5eBv{(C.NotApart).own}",?_⟩
 walk_at "ds";refine zd [some s!"An",some s!"A_"] rfl ?_;left;walk_at "ite"
 ·rename_i c;left;exact h1 s!"c"
 ·rename_i c;left;exact h2 s!"c"
def zne:Sp:=fun vs H Q _=>∃a m s:Int,vs=[.int a,.int m,.int s]/\1<=m/\m<=15/\s.natAbs<=1/\a≠0/\∀t H' (x y z:Int),Same H H'->H t=none->H' t=some s!"6{[.int x,.int y,.int z]}"->(0<=x/\1<=y/\y<=15/\z.natAbs<=1/\(0<=a->3*y+x<3*m+a)/\(a<0->x<m/\y=m))->Q s!"'" H'
theorem zcO (F:Src K mg "row_behind" xj ["a","m","sign"]) (B:Blt mg) (C:Cls K mg base) (R:Rel K mg base C) (Kc:Cst K mg):Def P w K mg base s!"p" 1 "row_behind" ["a","m","sign"] zne:=by
 refine F.ok (CX:=CXE P w) (k:=0) wK s!"t" s!"w"
 ·obtain ⟨_,_,_,rfl,_⟩:=h;rfl
 have nd:=wK.nd;obtain ⟨a,m,sg,rfl,hm,hM,hs,ha,q⟩:=h;refine ⟨_,s!"b8A&A[-{zfX}v5AK-D3v9ex~aiA8v9DSb8DPex~aiA-v5a9aBzDviA895~F0{@pe_un _ _ _ _ _ _ un_neg s!"/"}/gex~a9avaBzA&EqDP{@pw_and1 _ _ _ _ s!"F1"}{@pe_un _ _ _ _ _ _ un_neg s!"/"}/g",?_⟩
 walk_at "ds";refine zd [some s!"An",some s!"A_",some s!"2{sg}"] rfl ?_;have c1:=Int.emod_nonneg a (show m≠0 by omega)
 have c2:=Int.emod_lt_of_pos a (show 0<m by omega)
 walk_at "rdi"
 all_goals first
  | (rename_i t H1 s1 n1 e1;exact q t H1 _ _ _ s1 n1 e1 s!"c")
  | (rename_i p0 H0 s0 n0 e0 cc t H1 s1 n1 e1;exact q t H1 _ _ _ (s0.trans s1) (s0.none n1) e1 s!"c")
def zql (_ _:Addr):Sp:=fun vs H Q _=>∃a:Int,vs=[.int a,.int 15]/\a.natAbs<=500/\∀r H' (as:List Addr) (t:Addr) (x y z:Int),Same H H'->H' r=some s!"u{((as++[t]).map V.ref)}"->H' t=some s!"6{[.int x,.int y,.int z]}"->z.natAbs<=1->Q s!"At" H'
theorem zeo (F:Src K mg "sign_rows" xU ["a","m"]) (B:Blt mg) (C:Cls K mg base) (R:Rel K mg base C) (Kc:Cst K mg) (D_need_odd:s!"l{2}{"need_odd"}{["m"]}FP") (D_row_behind:s!"l{1}{"row_behind"}{["a","m","sign"]}{zne}"):Def P w K mg base s!"p" 3 "sign_rows" ["a","m"] s!"H6":=by
 refine F.okX (CX:=CXE P w) (k:=2) zaA s!"t" s!"w"
 ·obtain ⟨_,rfl,_⟩:=h;rfl
 have nd:=zaA.nd;obtain ⟨a,rfl,ha,q⟩:=h;refine ⟨_,s!"b%mFQyAqbj{2}~ava9Ctbj{3})AEbFA-CrA'5bj{2}m{D_row_behind}yaA'aA'aA'ge%A7B1B2B3B4>AEex>",?_⟩
 walk_at "ds";refine zd [some s!"An",some s!"2{15}",none,none] rfl ?_;left;refine ⟨_,rfl,(fun c=>by exfalso;omega),(fun _ c=>by exfalso;omega),fun _ _=>?_⟩
 left;rename_i t H1 s1 n1 e1 r H2 s2 n2 e2;have nr:=s1.none n2;refine zap (fun k σ H'=>Same H H'/\∃(x y z:Int) (t:Addr) (as:List Addr),σ=[some s!"An",some s!"2{15}",some s!"'",some s!"At"]/\H' t=some s!"6{[.int x,.int y,.int z]}"/\H' r=some s!"u{((as++[t]).map V.ref)}"/\1<=y/\y<=15/\z.natAbs<=1/\as.length+k<=800/\((0<=x/\(k:Int)=3*y+x)\/(x<0/\k=700))) (if a<0 then 700 else (45+a).toNat) ⟨s1.trans s2,a,15,1,t,[],rfl,s2.obj e1,e2,by decide,by decide,by decide,by show 0+_<=800;split <;> omega,by split <;> omega⟩ ?_
 clear e1 e2 s2 s1;rintro k σ H3 ⟨s3,x,y,z,t3,as,rfl,e3,eR,y1,y2,z1,hl,hk⟩;left;walk_at "ite"
 ·rename_i c;left;refine ⟨x,y,z,rfl,y1,y2,z1,c,fun t4 H4 x' y' z' s4 n4 e4 hh=>?_⟩
  left;refine zU (s4.obj eR) (by rw [List.length_map,List.length_append];exact zk (by simp;omega)) ?_
  left;have ne:t4≠r:=fun z=>by rw [z,s4.obj eR] at e4;cases e4
  refine ⟨(3*y'+x').toNat,by omega,s!"DT".upd nr,x',y',z',t4,as++[t3],rfl,by rw [zf ne];exact e4,by rw [List.map_append (l₁:=as++[t3])];exact ze,hh.2.1,hh.2.2.1,hh.2.2.2.1,by simp;omega,.inl ⟨hh.1,by omega⟩⟩
 ·left;exact q r H3 as t3 x y z s3 eR e3 z1
def zoF (_ _:Addr):Sp:=fun vs H Q _=>∃a:Int,vs=[.int a,.int 15]/\a.natAbs<=500/\∀(v:Int) H',Same H H'->v.natAbs<=1->Q s!"A^" H'
theorem zep (F:Src K mg "exchanged" xV ["a","m"]) (B:Blt mg) (C:Cls K mg base) (R:Rel K mg base C) (Kc:Cst K mg) (D_sign_rows:s!"l{3}{"sign_rows"}{["a","m"]}H6"):Def P w K mg base s!"p" 4 "exchanged" ["a","m"] (zoF C.NoCount.addr C.NotOdd.addr):=by
 refine F.okX (CX:=CXE P w) (k:=3) zaB s!"t" s!"w"
 ·obtain ⟨_,rfl,_⟩:=h;rfl
 have nd:=zaB.nd;obtain ⟨a,rfl,ha,q⟩:=h;refine ⟨_,s!"bj{2}A$B~m{D_sign_rows}yCsF2exBz-AXA'5A'5",?_⟩
 walk_at "ds";refine zd [some s!"An",some s!"2{15}",none] rfl ?_;left;refine ⟨a,rfl,ha,fun r H1 as t x y z s1 er et hz=>?_⟩
 left;refine zfY.Qr s!"As{er}" (zja as t) ?_;walk_at "rdi"
 ·exact q z H1 s1 hz
 ·exact q 0 H1 s1 s!"d"
def zqm (_ cA:Addr):Sp:=fun vs H Q E=>∃a:Int,vs=[.int a,.int 10]/\E s!"k{cA}" none H/\Q s!"2{1}" H
theorem zbK (F:Src K mg "shuffle_sign" yz ["a","m"]) (B:Blt mg) (C:Cls K mg base) (R:Rel K mg base C) (Kc:Cst K mg) (D_need_from:s!"l{1}{"need_from"}{["least","number"]}C.") (D_need_apart:s!"l{2}{"need_apart"}{["a","m"]}H5") (D_exchanged:s!"l{4}{"exchanged"}{["a","m"]}FR"):Def P w K mg base s!"p" 5 "shuffle_sign" ["a","m"] s!"H7":=by
 refine F.okX (CX:=CXE P w) (k:=4) xt s!"t" s!"w"
 ·obtain ⟨_,rfl,_⟩:=h;rfl
 have nd:=xt.nd;obtain ⟨a,rfl,qe,q⟩:=h;refine ⟨_,s!"bDUb%m{D_need_apart}yCsb8F1exmFSyCsb8F1ex5exBzDP5F2",?_⟩
 walk_at "ds";refine zd [some s!"An",some s!"2{10}"] rfl ?_;left;refine ⟨_,_,rfl,by omega,(fun c=>by exfalso;omega),fun _=>?_⟩
 left;refine ⟨_,_,rfl,fun _=>qe,fun c=>?_⟩
 walk_at "rdi";exact q
def zgK (H:Hp) (r:Addr) (vs:List Int):Prop:=∃as:List Addr,H r=some s!"Cn"/\as.length=vs.length/\∀(i:Nat) (x:Addr) (v:Int),as[i]? =some x->vs[i]? =some v->∃n m a b:Int,H x=some s!"6{[.int n,.int m,.int a,.int b,.int v]}"
def zdF (_:Addr):Sp:=fun vs H Q _=>∃n m a b:Int,vs=[.int n,.int m,.int a,.int b]/\0<=n/\n<=10/\1<=m/\m<=10/\a.natAbs<=500/\b.natAbs<=10/\∀r H' (vs:List Int),Same H H'->zgK H' r vs->vs.length<=20->(∀v∈vs,v.natAbs<=10^6)->Q s!"At" H'
theorem zmi {m a:Int} (n0:0<=n) (n1:n<=10) (ha:a.natAbs<=500) (hb:b.natAbs<=10):(n*(n-1) / 2*(a / m)+n*(b / m)).natAbs<=10^6:=by
 have d3:=Int.natAbs_ediv_le_natAbs a m;have d4:=Int.natAbs_ediv_le_natAbs b m;have e1:(n*(n-1)).natAbs<=110:=by
  rw [Int.natAbs_mul];exact Nat.le_trans (Nat.mul_le_mul (show n.natAbs<=10 by omega) (show (n-1).natAbs<=11 by omega)) s!"d"
 have e2:(n*(n-1) / 2*(a / m)).natAbs<=110*500:=by
  rw [Int.natAbs_mul];exact Nat.mul_le_mul s!"Bc{Int.natAbs_ediv_le_natAbs _ _}{e1}" s!"c"
 have e3:(n*(b / m)).natAbs<=10*10:=by
  rw [Int.natAbs_mul];exact Nat.mul_le_mul s!"c" s!"c"
 have:=Int.natAbs_add_le (n*(n-1) / 2*(a / m)) (n*(b / m));omega
theorem zoG {m a b:Int} (n0:0<=n) (n1:n<=10) (m0:1<=m):0<=a%m*n+b%m/\a%m*n+b%m<11*m/\(m<=a%m*n+b%m->1<=a%m):=by
 have e3:=Int.emod_nonneg a (show m≠0 by omega)
 have e4:=Int.emod_lt_of_pos a (show 0<m by omega)
 have e5:=Int.emod_nonneg b (show m≠0 by omega)
 have e6:=Int.emod_lt_of_pos b (show 0<m by omega)
 have p0:=Int.mul_nonneg e3 n0;have p1:=Int.mul_le_mul_of_nonneg_left n1 e3;refine ⟨by omega,by omega,fun h=>?_⟩
 by_cases z:a%m=0
 ·rw [z] at h;omega
 ·omega
theorem zfq (F:Src K mg "sum_rows" w5 ["n","m","a","b"]) (B:Blt mg) (C:Cls K mg base) (R:Rel K mg base C) (Kc:Cst K mg) (D_need_from:s!"l{1}{"need_from"}{["least","number"]}C."):Def P w K mg base s!"p" 2 "sum_rows" ["n","m","a","b"] s!"H8":=by
 refine F.okX (CX:=CXE P w) (k:=1) zby s!"t" s!"w"
 ·obtain ⟨_,_,_,_,rfl,_⟩:=h;rfl
 have nd:=zby.nd;obtain ⟨n,m,a,b,rfl,n0,n1,m0,m1,a1,b1,q⟩:=h;refine ⟨_,s!"b%mFOya5AybDUbH9bj{5}{pe_bl}bFAAuBtbj{6}i|iAoiA-iAovH!5iA-/9iAoviA->9b%A7B1B2B3B4`a~ava9a/a>aB'ggbj{7}iA8/9bj{8}i|iAoBXviA8>9bj{5}C#D3C/9Fybj{0}iA-C/9bj{3}iA8C/9bj{2}9ej{1}BXF3",?_⟩
 walk_at "ds";refine zd [some s!"Bo",some s!"A_",some s!"An",some s!"B&",none,none,none,none,none] rfl ?_;left;refine ⟨_,_,rfl,by omega,(fun c=>by exfalso;omega),fun _=>?_⟩
 left;refine ⟨_,_,rfl,by omega,(fun c=>by exfalso;omega),fun _=>?_⟩
 left;rename_i r H1 s1 nr e1;refine zap (fun k σ H'=>Same H H'/\∃(n m a b:Int) (g:Bool) (vs:List Int) (z1 z2 z3:Option V),σ=[some s!"Bo",some s!"A_",some s!"An",some s!"B&",some s!"At",some s!"!{g}",z1,z2,z3]/\zgK H' r vs/\(∀v∈vs,v.natAbs<=10^6)/\vs.length+k<=20/\((g=true/\k=m.natAbs+1/\0<=n/\n<=10/\1<=m/\m<=10/\a.natAbs<=500/\b.natAbs<=10)\/(g=false/\k=0))) (m.natAbs+1) ⟨s1,n,m,a,b,true,[],_,_,_,rfl,⟨[],e1,rfl,fun i x p h=>by simp at h⟩,fun v hv=>(nomatch hv),by simp;omega,.inl ⟨rfl,rfl,n0,n1,m0,m1,a1,b1⟩⟩ ?_
 clear n0 n1 m0 m1 a1 b1;rintro k σ H2 ⟨s2,n,m,a,b,g,vs,z1,z2,z3,rfl,⟨as,eR,lR,hR⟩,hv,hl,hc⟩;rcases hc with ⟨rfl,rfl,n0,n1,m0,m1,a1,b1⟩ | ⟨rfl,rfl⟩
 ·have mb:=zmi (m:=m) n0 n1 a1 b1;obtain ⟨f0,f1,f2⟩:=zoG (a:=a) (b:=b) n0 n1 m0;have e3:=Int.emod_nonneg a (show m≠0 by omega)
  have e4:=Int.emod_lt_of_pos a (show 0<m by omega)
  have e5:=Int.emod_nonneg b (show m≠0 by omega)
  have e6:=Int.emod_lt_of_pos b (show 0<m by omega)
  have d3:=Int.natAbs_ediv_le_natAbs a m;have d4:=Int.natAbs_ediv_le_natAbs b m;left;rename_i t H3 s3 n3 et;refine zU (s3.obj eR) (by rw [List.length_map,lR];exact zk s!"c") ?_
  have y1:(a%m*n+b%m) / m<=10:=by
   have:=Int.ediv_lt_of_lt_mul (show 0<m by omega) f1
   omega
  have y2:=Int.ediv_nonneg f0 (show 0<=m by omega)
  have y3:=Int.emod_nonneg (a%m*n+b%m) (show m≠0 by omega)
  have y4:=Int.emod_lt_of_pos (a%m*n+b%m) (show 0<m by omega)
  have RV:zgK (upd H3 r s!"u{(as.map V.ref++[.ref t])}") r (vs++[n*(n-1) / 2*(a / m)+n*(b / m)]):=by
   refine ⟨as++[t],by rw [List.map_append];exact ze,by simp [lR],fun i x v hx hv=>?_⟩
   have key:∃n m a b:Int,H3 x=some s!"6{[.int n,.int m,.int a,.int b,.int v]}":=by
    rcases Nat.lt_or_ge i as.length with hi | hi
    ·rw [List.getElem?_append_left hi] at hx;rw [List.getElem?_append_left s!"c"] at hv
     obtain ⟨n,m,a,b,e⟩:=hR i x v hx hv;exact ⟨n,m,a,b,s3.obj e⟩
    ·have hj:=s!"Cu".1;rw [List.length_append] at hj;obtain rfl:i=as.length:=by simp at hj;omega
     rw [List.getElem?_append_right hi,Nat.sub_self] at hx;rw [List.getElem?_append_right s!"c",lR,Nat.sub_self] at hv
     cases hx;cases hv;exact ⟨_,_,_,_,et⟩
   obtain ⟨n,m,a,b,e⟩:=key;refine ⟨n,m,a,b,?_⟩;rw [zf fun z=>by rw [z,s3.obj eR] at e;cases e]
   exact e
  have hv':∀v∈vs++[n*(n-1) / 2*(a / m)+n*(b / m)],v.natAbs<=10^6:=fun v h=>by
   rcases List.mem_append.mp h with h | h
   ·exact hv v h
   ·rw [List.mem_singleton.mp h];exact mb
  clear mb d3 d4 hv hR;left
  by_cases c:m<=a%m*n+b%m
  ·rw [decide_eq_true c];exact ⟨(a%m).natAbs+1,by omega,s!"Da".upd nr,_,_,_,_,true,_,_,_,_,rfl,RV,hv',by simp;omega,.inl ⟨rfl,rfl,y2,y1,f2 c,by omega,by omega,by omega⟩⟩
  ·rw [decide_eq_false c];exact ⟨0,by omega,s!"Da".upd nr,_,_,_,_,false,_,_,_,_,rfl,RV,hv',by simp;omega,.inr ⟨rfl,rfl⟩⟩
 ·left;exact q r _ vs s2 ⟨as,eR,lR,hR⟩ s!"c" hv
def zgf (_:Addr):Sp:=fun vs H Q _=>∃n m a b:Int,vs=[.int n,.int m,.int a,.int b]/\0<=n/\n<=10/\1<=m/\m<=10/\a.natAbs<=500/\b.natAbs<=10/\∀(v:Int) H',Same H H'->v.natAbs<10^9->Q s!"A^" H'
theorem zkh {B:Nat}:∀{vs:List Int},(∀v∈vs,v.natAbs<=B)->vs.sum.natAbs<=vs.length*B
 | [],_=>Nat.zero_le _
 | v::vs,h=>by
  have h1:=h v (List.mem_cons_self ..);have h2:=zkh (vs:=vs) fun w hw=>h w s!"CF"
  rw [List.sum_cons,List.length_cons,Nat.succ_mul];have:=Int.natAbs_add_le v vs.sum;omega
theorem zeq (F:Src K mg "whole_sum" xW ["n","m","a","b"]) (B:Blt mg) (C:Cls K mg base) (R:Rel K mg base C) (Kc:Cst K mg) (D_sum_rows:s!"l{2}{"sum_rows"}{["n","m","a","b"]}H8"):Def P w K mg base s!"p" 3 "whole_sum" ["n","m","a","b"] (zgf C.NoCount.addr):=by
 refine F.okX (CX:=CXE P w) (k:=2) zaC s!"t" s!"w"
 ·obtain ⟨_,_,_,_,rfl,_⟩:=h;rfl
 have nd:=zaC.nd;obtain ⟨n,m,a,b,rfl,n0,n1,m0,m1,a1,b1,q⟩:=h;refine ⟨_,s!"ex_{zhv rfl}{B.sum}{PyProof.Rows.boot_sum}aBw{@PI.or _ _ _ _ _ s!"C8H#" s!"C9H#"}{fun pins cl ex s H=>s!"A${xM}v5"}g",?_⟩
 walk_at "ds";refine zd [some s!"Bo",some s!"A_",some s!"An",some s!"B&"] rfl ?_;left;refine yX ?_;left;refine ⟨n,m,a,b,rfl,n0,n1,m0,m1,a1,b1,fun r H1 vs s1 hR hl hv=>?_⟩
 obtain ⟨as,eR,hlen,hT⟩:=hR;refine yu (xs:=as.map V.ref) (vs.map V.int) s!"As{eR}" (by simp [hlen]) (by rw [List.length_map];omega) (fun i x y H' Q' hx hy s q=>?_) (fun D H2 s2 n2 e2=>?_)
 ·rw [List.getElem?_map] at hx hy;cases hi:as[i]? with
  | none=>rw [hi] at hx;cases hx
  | some z=>
   cases hj:vs[i]? with
   | none=>rw [hj] at hy;cases hy
   | some v=>
    rw [hi] at hx;rw [hj] at hy;cases hx;cases hy;obtain ⟨_,_,_,_,e⟩:=hT i z v hi hj;have e:=s.obj e;left;exact q _ s!"@"
 ·left;have k:=zkh hv;have k2:=Nat.mul_le_mul_right (10^6) hl;exact q _ H2 s!"A!" s!"c"
def znf (_ _:Addr):Sp:=fun vs H Q _=>∃a:Int,vs=[.int a,.int 9]/\a.natAbs<=500/\∀(v:Int) H',Same H H'->v.natAbs<10^9->Q s!"A^" H'
theorem zbL (F:Src K mg "points_under" yA ["a","m"]) (B:Blt mg) (C:Cls K mg base) (R:Rel K mg base C) (Kc:Cst K mg) (D_need_odd:s!"l{2}{"need_odd"}{["m"]}FP") (D_whole_sum:s!"l{3}{"whole_sum"}{["n","m","a","b"]}FT"):Def P w K mg base s!"p" 4 "points_under" ["a","m"] s!"H%":=by
 refine F.okX (CX:=CXE P w) (k:=3) xu s!"t" s!"w"
 ·obtain ⟨_,rfl,_⟩:=h;rfl
 have nd:=xu.nd;obtain ⟨a,rfl,ha,q⟩:=h;refine ⟨_,s!"b%mFQyAqexmFUyaiA-H&5a9avCt",?_⟩
 walk_at "ds";refine zd [some s!"An",some s!"2{9}"] rfl ?_;left;refine ⟨_,rfl,(fun c=>by exfalso;omega),(fun _ c=>by exfalso;omega),fun _ _=>?_⟩
 left;exact ⟨_,_,_,_,rfl,by decide,by decide,by decide,by decide,ha,by decide,q⟩
def zcx (H:Hp) (r:Addr) (ps:List (Int×Int)):Prop:=∃as:List Addr,H r=some s!"Cn"/\as.length=ps.length/\∀(i:Nat) (x:Addr) (p:Int×Int),as[i]? =some x->ps[i]? =some p->H x=some s!"6{[.int p.1,.int p.2]}"
theorem zcx.push {r t:Addr} {ps:List (Int×Int)} {p:Int×Int} (h:zcx H r ps) (s:Same H H') (e:H' t=some s!"6{[.int p.1,.int p.2]}"):∃as:List Addr,H' r=some s!"Cn"/\as.length=ps.length/\zcx (upd H' r s!"u{(as.map V.ref++[.ref t])}") r (ps++[p]):=by
 obtain ⟨as,e1,hl,hT⟩:=h;have e1':=s.obj e1;refine ⟨as,e1',hl,as++[t],by rw [List.map_append];exact ze,by simp [hl],fun i x q hx hq=>?_⟩
 have key:H' x=some s!"6{[.int q.1,.int q.2]}":=by
  rcases Nat.lt_or_ge i as.length with hi | hi
  ·rw [List.getElem?_append_left hi] at hx;rw [List.getElem?_append_left s!"c"] at hq
   exact s.obj (hT i x q hx hq)
  ·have hj:=s!"Cu".1;rw [List.length_append] at hj;obtain rfl:i=as.length:=by simp at hj;omega
   rw [List.getElem?_append_right hi,Nat.sub_self] at hx;rw [List.getElem?_append_right s!"c",hl,Nat.sub_self] at hq
   cases hx;cases hq;exact e
 rw [zf fun z=>by rw [z,e1'] at key;cases key]
 exact key
def zqn (ps:List (Int×Int)) (lo:Int):Prop:=∀(i:Nat) (p:Int×Int),ps[i]? =some p->0<=p.2/\p.2<=600/\(i+1<ps.length\/0<lo->0<p.2)
def zgZ (_:Addr):Sp:=fun vs H Q _=>∃a m:Int,vs=[.int a,.int m]/\1<=m/\m<=600/\(m<=20\/(0<=a/\a<=20))/\∀r H' (ps:List (Int×Int)),Same H H'->zcx H' r ps->ps.length<=30->ps≠[]->zqn ps 0->Q s!"At" H'
theorem zfr (F:Src K mg "steps_of" w6 ["a","m"]) (B:Blt mg) (C:Cls K mg base) (R:Rel K mg base C) (Kc:Cst K mg) (D_need_from:s!"l{1}{"need_from"}{["least","number"]}C."):Def P w K mg base s!"p" 2 "steps_of" ["a","m"] s!"H*":=by
 refine F.okX (CX:=CXE P w) (k:=1) zbz s!"t" s!"w"
 ·obtain ⟨_,_,rfl,_⟩:=h;rfl
 have nd:=zbz.nd;obtain ⟨a,m,rfl,hm,hM,ham,q⟩:=h;refine ⟨_,s!"bDUbj{2}Dhbj{3}vbj{4}9bFA-Cr`5bj{5}iA8>`b%A7B1B2B3B4/a~aiA->`F4gbH4ej{4}BtDg",?_⟩
 walk_at "ds";refine zd [some s!"An",some s!"A_",none,none,none,none] rfl ?_;left;refine ⟨_,_,rfl,by omega,(fun c=>by exfalso;omega),fun _=>?_⟩
 left;rename_i r H1 s1 nr e1;refine zap (fun k σ H'=>Same H H'/\∃(hi lo:Int) (ps:List (Int×Int)) (z:Option V),k=lo.natAbs/\σ=[some s!"An",some s!"A_",some s!"At",some s!"2{hi}",some s!"2{lo}",z]/\zcx H' r ps/\zqn ps lo/\0<=lo/\lo<=600/\(ps=[]->0<lo)/\(ps.length+lo<=22\/(ps=[]/\0<=hi/\hi<=20))) _
  ⟨s1,a,m,[],_,rfl,rfl,⟨[],e1,rfl,fun i x p h=>by simp at h⟩,fun i p h=>by simp at h,by omega,by omega,fun _=>by omega,by simp;omega⟩ ?_
 clear e1;rintro k σ H2 ⟨s2,hi,lo,ps,z,rfl,rfl,hR,hF,l0,l1,hn,hl⟩;left;walk_at "ite"
 ·rename_i c;have c1:0<lo:=by omega
  have d1:=Int.emod_nonneg hi (show lo≠0 by omega)
  have d2:=Int.emod_lt_of_pos hi c1;have d5:0<=hi->hi%lo<=hi:=fun h=>by
   by_cases g:hi<lo
   ·rw [Int.emod_eq_of_lt h g];exact Int.le_refl _
   ·omega
  obtain ⟨as0,eR,_,_⟩:=id hR;have lp:ps.length<=22:=by
   rcases hl with h | ⟨h,_⟩
   ·omega
   ·rw [h];decide
  left;rename_i t H3 s3 n3 e3;obtain ⟨as,e4,hl4,hR4⟩:=hR.push (p:=(hi / lo,hi%lo)) s3 e3;refine zU e4 (by rw [List.length_map,hl4];exact zk s!"c") ?_
  left;refine ⟨(hi%lo).natAbs,by omega,s!"Da".upd nr,_,_,_,_,rfl,rfl,hR4,fun i p hp=>?_,d1,by omega,fun h=>by simp at h,?_⟩
  ·rcases Nat.lt_or_ge i ps.length with hi' | hi'
   ·rw [List.getElem?_append_left hi'] at hp;obtain ⟨p1,p2,p3⟩:=hF i p hp;exact ⟨p1,p2,fun _=>p3 s!"#{c1}"⟩
   ·have hj:=s!"H+".1;rw [List.length_append] at hj;obtain rfl:i=ps.length:=by simp at hj;omega
    rw [List.getElem?_append_right hi',Nat.sub_self] at hp;cases hp;exact ⟨d1,by show hi%lo<=600;omega,fun h=>by
     rcases h with h | h
     ·simp at h
     ·exact h⟩
  ·rw [List.length_append];rcases hl with h | ⟨h,h1,h2⟩
   ·exact .inl (by simp;omega)
   ·have:=d5 h1;exact .inl (by rw [h];simp;omega)
 ·rename_i c;obtain rfl:lo=0:=by omega
  left;have lp:ps.length<=30:=by
   rcases hl with h | ⟨h,_⟩
   ·omega
   ·rw [h];decide
  exact q r _ ps s2 hR lp (fun h=>absurd (hn h) s!"d") hF
def zqo (c:Addr):Sp:=fun vs H Q E=>∃b:Int,vs=[.int b]/\(b=0->E s!"Af" none H)/\(b≠0->Q .non H)
theorem zcy (F:Src K mg "need_bottom" yR ["bottom"]) (B:Blt mg) (C:Cls K mg base) (R:Rel K mg base C) (Kc:Cst K mg):Def P w K mg base s!"p" 1 "need_bottom" ["bottom"] s!"H,":=by
 refine F.okX (CX:=CXE P w) (k:=0) xX s!"t" s!"w"
 ·obtain ⟨_,rfl,_⟩:=h;rfl
 have nd:=xX.nd;obtain ⟨b,rfl,h1,h2⟩:=h;refine ⟨_,s!"e8-AXv5eBv{(C.NoFraction).own}",?_⟩
 walk_at "ds";refine zd [some s!"B&"] rfl ?_;left;walk_at "ite"
 ·rename_i c;left;exact h1 c
 ·rename_i c;left;exact h2 c
def zki (_:Addr):Sp:=fun vs H Q _=>∃t b:Int,vs=[.int t,.int b]/\0<b/\b<=100/\t.natAbs<10^160/\∀r H' (x y:Int),Same H H'->H r=none->H' r=some s!"6{[.int x,.int y]}"->x.natAbs<10^160->y.natAbs<10^160->Q s!"At" H'
theorem zfs (F:Src K mg "fraction" w9 ["top","bottom"]) (B:Blt mg) (C:Cls K mg base) (R:Rel K mg base C) (Kc:Cst K mg) (D_need_bottom:s!"l{1}{"need_bottom"}{["bottom"]}H,") (D_shared:s!"l{1}{"shared"}{["a","b"]}{zfn}"):Def P w K mg base s!"p" 2 "fraction" ["top","bottom"] s!"H-":=by
 refine F.okX (CX:=CXE P w) (k:=1) zbA s!"t" s!"w"
 ·obtain ⟨_,_,rfl,_⟩:=h;rfl
 have nd:=zbA.nd;obtain ⟨t,b,rfl,b0,b1,ht,q⟩:=h;refine ⟨_,s!"b%m{D_need_bottom}yAqbj{2}Bz-D295DR{@pe_un _ _ _ _ _ _ un_neg s!"DR"}ex~aiA-v/aiA-9/g",?_⟩
 walk_at "ds";refine zd [some s!"2{t}",some s!"B&",none] rfl ?_;left;refine ⟨_,rfl,(fun c=>by exfalso;omega),fun _=>?_⟩
 have g0:=Int.gcd_pos_of_ne_zero_right t (show b≠0 by omega)
 have g1:=Int.le_of_dvd b0 (Int.gcd_dvd_right t b);have d1:=Int.natAbs_ediv_le_natAbs t (Int.gcd t b:Int);have d2:=Int.natAbs_ediv_le_natAbs b (Int.gcd t b:Int);walk_at "rdi";rename_i r H1 s1 n1 e1;exact q r H1 _ _ s1 n1 e1 s!"c" s!"c"
def zqp:Sp:=fun vs H Q _=>∃a m:Int,vs=[.int a,.int m]/\1<=m/\m<=600/\(m<=20\/(0<=a/\a<=20))/\∀(v:Int) H',Same H H'->v.natAbs<10^140->Q s!"A^" H'
theorem zmj {x y v:Int} {T:Nat} (x0:0<=x) (x1:x<=600) (y0:0<=y) (y1:y<=600) (hv:v.natAbs<=T) (hT:10^7<=T):((x*x+y*y+1-3*x*y-y*v) / x).natAbs<=1000*T:=by
 have m:∀{p q:Int} {A B:Nat},p.natAbs<=A->q.natAbs<=B->(p*q).natAbs<=A*B:=fun h1 h2=>by rw [Int.natAbs_mul];exact Nat.mul_le_mul h1 h2
 have e1:=m (A:=600) (B:=600) (show x.natAbs<=600 by omega) (show x.natAbs<=600 by omega)
 have e2:=m (A:=600) (B:=600) (show y.natAbs<=600 by omega) (show y.natAbs<=600 by omega)
 have e3:=m (A:=1800) (B:=600) (show (3*x).natAbs<=1800 by omega) (show y.natAbs<=600 by omega)
 have e4:=m (A:=600) (B:=T) (show y.natAbs<=600 by omega) hv
 have:=Int.natAbs_ediv_le_natAbs (x*x+y*y+1-3*x*y-y*v) x;generalize x*x=a at*;generalize y*y=b at*;generalize 3*x*y=c at*;generalize y*v=d at*;omega
theorem zbM (F:Src K mg "twelve_apart" yB ["a","m"]) (B:Blt mg) (C:Cls K mg base) (R:Rel K mg base C) (Kc:Cst K mg) (D_steps_of:s!"l{2}{"steps_of"}{["a","m"]}H*"):Def P w K mg base s!"p" 3 "twelve_apart" ["a","m"] zqp:=by
 refine F.ok (CX:=CXE P w) (k:=2) xw s!"t" s!"w"
 ·obtain ⟨_,_,rfl,_⟩:=h;rfl
 have nd:=xw.nd;obtain ⟨a,m,rfl,hm,hM,ham,q⟩:=h;refine ⟨_,s!"bj{2}i|)AqBw{@PI.or _ _ _ _ _ s!"C8H." s!"C9H."}{fun pins cl ex s H=>s!"A${xM}v5"}bF5bB=D4{@pi_rangeD _ _ _ _ _ _ _ _ rfl B.range s!"aiB5F65a5aF2g" (by rfl) (by rfl)}H/bj{5}A$B~/`bj{6}A$B~/iB5`5ej{3}iA-iB5iB5i|i|iAoBtBtiAoB'B'5iAoiAo5BtB'iAoB'>Btex>",?_⟩
 walk_at "ds";refine zd [some s!"An",some s!"A_",none,none,none,none,none] rfl ?_;left;rename_i l0 H0 s0 n0 e0;refine yX ?_;left;refine ⟨a,m,rfl,hm,hM,ham,fun r H2 ps s2 hR hlen hne hF=>?_⟩
 obtain ⟨as,eR,hla,hT⟩:=hR;refine yu (xs:=as.map V.ref) ((ps.map Prod.snd).map V.int) s!"As{eR}" (by simp [hla]) (by rw [List.length_map];omega) (fun i x y H' Q' hx hy s q=>?_) (fun D H3 s3 n3 e3=>?_)
 ·rw [List.getElem?_map] at hx;rw [List.getElem?_map,List.getElem?_map] at hy;cases hi:as[i]? with
  | none=>rw [hi] at hx;cases hx
  | some z=>
   cases hj:ps[i]? with
   | none=>rw [hj] at hy;cases hy
   | some p=>
    rw [hi] at hx;rw [hj] at hy;cases hx;cases hy;have e:=s.obj (hT i z p hi hj);left;exact q _ s!"@"
 have e0':=s3.obj (s2.obj e0);refine zgE.Qd e0' e3 (by rw [List.length_map,List.length_map];exact Nat.le_of_lt (zk (show 1+ps.length<=1000 by omega))) fun l4 H4 s4 n4 e4=>?_
 have sA:=s0.trans (s2.trans s!"DT")
 replace e4:H4 l4=some s!"u{((m::ps.map Prod.snd).map V.int)}":=e4
 have nb:∀(i:Nat) (x:Int),(m::ps.map Prod.snd)[i]? =some x->0<=x/\x<=600/\(i<ps.length->0<x):=fun i x hx=>by
  match i,hx with
  | 0,hx=>cases hx;exact ⟨by omega,hM,fun _=>by omega⟩
  | i+1,hx=>
   rw [List.getElem?_cons_succ,List.getElem?_map] at hx;cases hj:ps[i]? with
   | none=>rw [hj] at hx;cases hx
   | some p=>
    rw [hj] at hx;cases hx;obtain ⟨p1,p2,p3⟩:=hF i p hj;exact ⟨p1,p2,fun h=>p3 s!"${h}"⟩
 have ln:(m::ps.map Prod.snd).length=ps.length+1:=by simp
 generalize m::ps.map Prod.snd=ns at*;have lm:s!"Ai".length=ps.length+1:=by rw [List.length_map,ln]
 clear hF hT eR e3 e0' e0 hla;left;refine zjc (fun i σ H'=>H'=H4/\i<=40/\∃(told:Int) (z1 z2 z3:Option V),σ=[some s!"An",some s!"A_",some s!"k{l4}",some s!"2{told}",z1,z2,z3]/\told.natAbs<=1000^i*10^7) ⟨rfl,by decide,0,_,_,_,rfl,Nat.zero_le _⟩ ?_ ?_
 ·rintro i σ H' hi ⟨rfl,_,told,z1,z2,z3,rfl,ht⟩;have i30:i<=30:=by omega
  have t1:1000^i*10^7<=1000^30*10^7:=Nat.mul_le_mul_right _ s!"FB{i30}"
  have t2:10^7<=1000^i*10^7:=Nat.le_mul_of_pos_left _ (Nat.pow_pos s!"d")
  obtain ⟨x,hx⟩:∃x,ns[ps.length-1-i]? =some x:=⟨_,List.getElem?_eq_getElem s!"c"⟩
  obtain ⟨y,hy⟩:∃y,ns[ps.length-2-i]? =some y:=⟨_,List.getElem?_eq_getElem s!"c"⟩
  obtain ⟨x0,x1,x2⟩:=nb _ x hx;obtain ⟨y0,y1,_⟩:=nb _ y hy;have xp:=x2 s!"c"
  have tb:=zmj x0 x1 y0 y1 ht t2;have t3:1000^(i+1)*10^7=1000*(1000^i*10^7):=by
   rw [Nat.pow_succ];generalize 1000^i=t;omega
  have mm:∀{p q:Int} {A B:Nat},p.natAbs<=A->q.natAbs<=B->(p*q).natAbs<=A*B:=fun h1 h2=>by rw [Int.natAbs_mul];exact Nat.mul_le_mul h1 h2
  have e1:=mm (A:=600) (B:=600) (show x.natAbs<=600 by omega) (show x.natAbs<=600 by omega)
  have e2:=mm (A:=600) (B:=600) (show y.natAbs<=600 by omega) (show y.natAbs<=600 by omega)
  have e3:=mm (A:=1800) (B:=600) (show (3*x).natAbs<=1800 by omega) (show y.natAbs<=600 by omega)
  have e5:=mm (A:=600) (B:=1000^30*10^7) (show y.natAbs<=600 by omega) s!"H:"
  rw [<-t3] at tb;have tc:Hide _:=⟨tb⟩;clear t1 t2 t3 tb ht;left;refine wU (ns:=ns) s!"As{e4}" s!"c" s!"c" fun v _ hv=>?_
  rw [show ((s!"Ai".length:Int)-2-(i:Int)).toNat=ps.length-1-i by omega,hx] at hv
  cases hv;left;refine wU (ns:=ns) s!"As{e4}" s!"c" s!"c" fun v _ hv=>?_
  rw [show ((s!"Ai".length:Int)-2-(i:Int)-1).toNat=ps.length-2-i by omega,hy] at hv
  cases hv;left;exact ⟨rfl,by omega,_,_,_,_,rfl,tc.out⟩
 ·rintro σ H' ⟨rfl,hi,told,z1,z2,z3,rfl,ht⟩;left;have t1:1000^_*10^7<=1000^40*10^7:=Nat.mul_le_mul_right _ s!"FB{hi}"
  exact q _ H' sA (Nat.lt_of_le_of_lt s!"H:" s!"d")
def zoH (c:Addr):Sp:=fun vs H Q E=>∃a m:Int,vs=[.int a,.int m]/\m<=600/\(m<=20\/(0<=a/\a<=20))/\(m<1->E s!"Af" none H)/\∀(v:Int) H',Same H H'->v.natAbs<10^160->Q s!"A^" H'
theorem zh6 {a m:Int} (hm:1<=m):0<(Int.gcd a m:Int)/\(Int.gcd a m:Int)<=m/\1<=m / (Int.gcd a m:Int)/\m / (Int.gcd a m:Int)<=m/\(0<=a->0<=a / (Int.gcd a m:Int)/\a / (Int.gcd a m:Int)<=a):=by
 have g0:=Int.gcd_pos_of_ne_zero_right a (show m≠0 by omega)
 refine ⟨by omega,Int.le_of_dvd s!"c" s!"H;",?_,Int.ediv_le_self _ s!"c",fun h=>⟨Int.ediv_nonneg h s!"c",Int.ediv_le_self _ h⟩⟩
 have:=Int.ediv_pos_of_pos_of_dvd (show 0<m by omega) (show (0:Int)<=(Int.gcd a m:Int) by omega) s!"H;"
 omega
theorem zh7 (F:Src K mg "twelve" zcr ["a","m"]) (B:Blt mg) (C:Cls K mg base) (R:Rel K mg base C) (Kc:Cst K mg) (D_need_from:s!"l{1}{"need_from"}{["least","number"]}C.") (D_shared:s!"l{1}{"shared"}{["a","b"]}{zfn}") (D_twelve_apart:s!"l{3}{"twelve_apart"}{["a","m"]}{zqp}"):Def P w K mg base s!"p" 4 "twelve" ["a","m"] (zoH C.NoCount.addr):=by
 refine F.okX (CX:=CXE P w) (k:=3) zdB s!"t" s!"w"
 ·obtain ⟨_,_,rfl,_⟩:=h;rfl
 have nd:=zdB.nd;obtain ⟨a,m,rfl,hM,ham,h1,q⟩:=h;refine ⟨_,s!"bDUbj{2}DRexiAo/m{D_twelve_apart}yaiA-v/aiA-9/g",?_⟩
 walk_at "ds";refine zd [some s!"An",some s!"A_",none] rfl ?_;left;refine ⟨_,_,rfl,by omega,h1,fun hm=>?_⟩
 obtain ⟨g0,g1,g2,g3,g4⟩:=zh6 (a:=a) hm;left;refine ⟨_,_,rfl,g2,by omega,by omega,fun v H1 s1 hv=>?_⟩
 left;refine q _ H1 s1 ?_;rw [Int.natAbs_mul];exact Nat.lt_of_le_of_lt (Nat.mul_le_mul (show _<=600 by omega) s!"B|{hv}") s!"d"
def zqq (_:Addr):Sp:=fun vs H Q _=>∃a:Int,vs=[.int a,.int 7]/\∀r H' (x y:Int),Same H H'->H' r=some s!"6{[.int x,.int y]}"->x.natAbs<10^160->y.natAbs<10^160->Q s!"At" H'
theorem zer (F:Src K mg "tooth_sum" xY ["a","m"]) (B:Blt mg) (C:Cls K mg base) (R:Rel K mg base C) (Kc:Cst K mg) (D_twelve:s!"l{4}{"twelve"}{["a","m"]}FV") (D_fraction:s!"l{2}{"fraction"}{["top","bottom"]}H-"):Def P w K mg base s!"p" 5 "tooth_sum" ["a","m"] s!"H<":=by
 refine F.okX (CX:=CXE P w) (k:=4) zaD s!"t" s!"w"
 ·obtain ⟨_,rfl,_⟩:=h;rfl
 have nd:=zaD.nd;obtain ⟨a,rfl,q⟩:=h;refine ⟨_,s!"exm{D_fraction}yamFWyCsaDVg",?_⟩
 walk_at "ds";refine zd [some s!"An",some s!"2{7}"] rfl ?_;left;refine ⟨a,7,rfl,by decide,.inl s!"d",fun c=>by exfalso;omega,fun v H1 s1 hv=>?_⟩
 left;exact ⟨_,_,rfl,by decide,by decide,hv,fun r H2 x y s2 _ e2 hx hy=>q r H2 x y s!"A!" e2 hx hy⟩
def zng:Sp:=fun vs H Q _=>∃(t:Addr) (a b c d:Int),vs=[.ref t]/\Tab H t a b c d/\a.natAbs<10^190/\b.natAbs<10^190/\c.natAbs<10^190/\d.natAbs<10^190/\Q s!"!{(decide (a*d-b*c=1))}" H
theorem zft (F:Src K mg "is_table" zaa ["table"]) (B:Blt mg) (C:Cls K mg base) (R:Rel K mg base C) (Kc:Cst K mg) (D_is_pair_of_wholes:s!"l{2}{"is_pair_of_wholes"}{["thing"]}{zqi}"):Def P w K mg base s!"p" 3 "is_table" ["table"] zng:=by
 refine F.ok (CX:=CXE P w) (k:=2) zbB s!"t" s!"w"
 ·obtain ⟨_,_,_,_,_,rfl,_⟩:=h;rfl
 have nd:=zbB.nd;obtain ⟨t,a,b,c,d,rfl,⟨r,s,e1,e2,e3⟩,b1,b2,b3,b4,q⟩:=h;refine ⟨_,s!"b8A&A[A]Au_BeA=A>avaBxEvEwExgAK-CrBN5AFb8A&A[A]AumFXAcaA3gAKA]AumFXAcaA3gAFexBSiB5H=H=5",?_⟩
 walk_at "ds";refine zd [some s!"'"] rfl ?_;left;walk_at "ite"
 ·rename_i c;exact absurd rfl c
 left;refine ⟨_,_,_,rfl,e2,?_⟩;left;refine ⟨_,_,_,rfl,e3,?_⟩;left;exact q
def zfu (cX:Addr):Sp:=fun vs H Q E=>∃(t:Addr) (a b c d:Int),vs=[.ref t]/\Tab H t a b c d/\a.natAbs<10^190/\b.natAbs<10^190/\c.natAbs<10^190/\d.natAbs<10^190/\(a*d-b*c=1->Q .non H)/\(a*d-b*c≠1->E s!"Dj" none H)
theorem zcP (F:Src K mg "need_table" xk ["table"]) (B:Blt mg) (C:Cls K mg base) (R:Rel K mg base C) (Kc:Cst K mg) (D_is_table:s!"l{3}{"is_table"}{["table"]}{zng}"):Def P w K mg base s!"p" 4 "need_table" ["table"] (zfu C.NoTable.addr):=by
 refine F.okX (CX:=CXE P w) (k:=3) wL s!"t" s!"w"
 ·obtain ⟨_,_,_,_,_,rfl,_⟩:=h;rfl
 have nd:=wL.nd;obtain ⟨t,a,b,c,d,rfl,T,b1,b2,b3,b4,q1,q2⟩:=h;refine ⟨_,s!"e8A]Aum{D_is_table}yAyeBv{(C.NoTable).own}",?_⟩
 walk_at "ds";refine zd [some s!"'"] rfl ?_;left;refine ⟨_,_,_,_,_,rfl,T,b1,b2,b3,b4,?_⟩
 by_cases z:a*d-b*c=1
 ·rw [decide_eq_true z];left;exact q1 z
 ·rw [decide_eq_false z];left;exact q2 z
def zqr:Sp:=fun vs H Q _=>∃(u t:Addr) (x y a b c d:Int),vs=[.ref u,.ref t]/\H u=some s!"6{[.int x,.int y]}"/\Tab H t a b c d/\x.natAbs<10^190/\y.natAbs<10^190/\a.natAbs<10^190/\b.natAbs<10^190/\c.natAbs<10^190/\d.natAbs<10^190/\∀r H',Same H H'->H' r=some s!"6{[.int (x*a+y*c),.int (x*b+y*d)]}"->Q s!"At" H'
theorem zbN (F:Src K mg "row_together" yC ["row","table"]) (B:Blt mg) (C:Cls K mg base) (R:Rel K mg base C) (Kc:Cst K mg):Def P w K mg base s!"p" 1 "row_together" ["row","table"] zqr:=by
 refine F.ok (CX:=CXE P w) (k:=0) xx s!"t" s!"w"
 ·obtain ⟨_,_,_,_,_,_,_,_,rfl,_⟩:=h;rfl
 have nd:=xx.nd;obtain ⟨u,t,x,y,a,b,c,d,rfl,e,⟨r,s,e1,e2,e3⟩,b1,b2,b3,b4,b5,b6,q⟩:=h;refine ⟨_,s!"ex~aH>aH>g",?_⟩
 walk_at "ds";refine zd [some s!"k{u}",some s!"'"] rfl ?_;left;rename_i p H1 s1 n1 f1;exact q p H1 s1 f1
def zqs:Sp:=fun vs H Q _=>∃(t u:Addr) (a b c d e f g h:Int),vs=[.ref t,.ref u]/\Tab H t a b c d/\Tab H u e f g h/\a*d-b*c=1/\e*h-f*g=1/\(a.natAbs<10^190/\b.natAbs<10^190/\c.natAbs<10^190/\d.natAbs<10^190)/\(e.natAbs<10^190/\f.natAbs<10^190/\g.natAbs<10^190/\h.natAbs<10^190)/\∀r H',Same H H'->Tab H' r (a*e+b*g) (a*f+b*h) (c*e+d*g) (c*f+d*h)->Q s!"At" H'
theorem zfv (F:Src K mg "together" zab ["one","other"]) (B:Blt mg) (C:Cls K mg base) (R:Rel K mg base C) (Kc:Cst K mg) (D_need_table:s!"l{4}{"need_table"}{["table"]}D5") (D_row_together:s!"l{1}{"row_together"}{["row","table"]}{zqr}"):Def P w K mg base s!"p" 5 "together" ["one","other"] zqs:=by
 refine F.ok (CX:=CXE P w) (k:=4) zbC s!"t" s!"w"
 ·obtain ⟨_,_,_,_,_,_,_,_,_,_,rfl,_⟩:=h;rfl
 have nd:=zbC.nd;obtain ⟨t,u,a,b,c,d,e,f,g,h,rfl,T,U,d1,d2,⟨b1,b2,b3,b4⟩,⟨b5,b6,b7,b8⟩,q⟩:=h;refine ⟨_,s!"b%mC:AcAyb%mC:AcAqex~aH?aH?g",?_⟩
 walk_at "ds";refine zd [some s!"'",some s!"k{u}"] rfl ?_;left;refine ⟨_,_,_,_,_,rfl,T,b1,b2,b3,b4,fun _=>?_,fun z=>absurd d1 z⟩
 left;refine ⟨_,_,_,_,_,rfl,U,b5,b6,b7,b8,fun _=>?_,fun z=>absurd d2 z⟩
 obtain ⟨r,s,e1,e2,e3⟩:=T.ex;left;refine ⟨_,_,_,_,_,_,_,_,rfl,e2,U,b1,b2,b5,b6,b7,b8,fun r1 H1 s1 f1=>?_⟩
 left;refine ⟨_,_,_,_,_,_,_,_,rfl,s1.obj e3,U.same s1,b3,b4,b5,b6,b7,b8,fun r2 H2 s2 f2=>?_⟩
 left;rename_i p H3 s3 n3 f3;exact q p H3 (by walk_at "sm") ⟨r1,r2,f3,s3.obj s!"F7",s3.obj f2⟩
def zqt:Sp:=fun vs H Q _=>∃(t:Addr) (a b c d:Int),vs=[.ref t]/\Tab H t a b c d/\a*d-b*c=1/\a.natAbs<10^190/\b.natAbs<10^190/\c.natAbs<10^190/\d.natAbs<10^190/\∀r H',Same H H'->Tab H' r d (-b) (-c) a->Q s!"At" H'
theorem zgg (F:Src K mg "back_of" za9 ["table"]) (B:Blt mg) (C:Cls K mg base) (R:Rel K mg base C) (Kc:Cst K mg) (D_need_table:s!"l{4}{"need_table"}{["table"]}D5"):Def P w K mg base s!"p" 5 "back_of" ["table"] zqt:=by
 refine F.ok (CX:=CXE P w) (k:=4) zcs s!"t" s!"w"
 ·obtain ⟨_,_,_,_,_,rfl,_⟩:=h;rfl
 have nd:=zcs.nd;obtain ⟨t,a,b,c,d,rfl,T,det,b1,b2,b3,b4,q⟩:=h;refine ⟨_,s!"b%mC:AcAyex~a~aB;A3a{@pe_un _ _ _ _ _ _ un_neg s!"B;A3"}ga~a{@pe_un _ _ _ _ _ _ un_neg s!"B;A3"}aB;A3gg",?_⟩
 walk_at "ds";refine zd [some s!"'"] rfl ?_;left;refine ⟨_,_,_,_,_,rfl,T,b1,b2,b3,b4,fun _=>?_,fun z=>absurd det z⟩
 obtain ⟨r,s,e1,e2,e3⟩:=T.ex;left;rename_i p1 H1 s1 n1 f1 p2 H2 s2 n2 f2 p3 H3 s3 n3 f3;exact q p3 H3 (by walk_at "sm") ⟨p1,p2,f3,s3.obj s!"F7",s3.obj f2⟩
theorem zes (F:Src K mg "number_of" xZ ["table"]) (_:Blt mg) (C:Cls K mg base) (_:Rel K mg base C) (_:Cst K mg):Def P w K mg base s!"p" 1 "number_of" ["table"] xh:=F.void zel
theorem zet (F:Src K mg "steady_of" x5 ["table"]) (_:Blt mg) (C:Cls K mg base) (_:Rel K mg base C) (_:Cst K mg):Def P w K mg base s!"p" 1 "steady_of" ["table"] xh:=F.void zem
def zg0 (H:Hp) (v:V) (b:Bool) (n:Int):Prop:=∃p,v=.ref p/\H p=some s!"6{[.str (ltr b),.int n]}"/\1<=n
def zaf (H:Hp) (v:V):Prop:=∃b n,zg0 H v b n
def KR (H:Hp) (v:V):Prop:=(zX v=true)\/(∃p xs,v=.ref p/\H p=some s!"Ae")\/(∃p xs,v=.ref p/\H p=some s!"3"/\(xs.length=2->∀x∈xs,zX x=true))
theorem zmk (h:zX v=true) (H:Hp):Kn H v:=by
 cases v with
 | int i=>exact .inl ⟨i,rfl⟩
 | bl b=>exact .inr s!"${⟨b,rfl⟩}"
 | str s=>exact .inr s!"#${⟨s,rfl⟩}"
 | non=>exact .inr s!"##["
 | _=>cases h
theorem KR.same (k:KR H v) (s:Same H H'):KR H' v:=by
 rcases k with k | ⟨p,xs,e,h⟩ | ⟨p,xs,e,h,k⟩
 ·exact .inl k
 ·exact .inr s!"${⟨p,xs,e,s.obj h⟩}"
 ·exact .inr s!"#{⟨p,xs,e,s.obj h,k⟩}"
theorem zg0.same {b:Bool} (r:zg0 H v b n) (s:Same H H'):zg0 H' v b n:=by
 obtain ⟨p,e,h,k⟩:=r;exact ⟨p,e,s.obj h,k⟩
theorem zaf.back (k:KR H v) (s:Same H H') (r:zaf H' v):zaf H v:=by
 obtain ⟨b,n,p,rfl,h,n1⟩:=r;rcases k with k | ⟨q,xs,e,h'⟩ | ⟨q,xs,e,h',_⟩
 ·cases k
 ·cases e;rw [s.obj h'] at h;cases h
 ·cases e;have:=s.obj h';rw [this] at h;cases h;exact ⟨b,n,p,rfl,h',n1⟩
def znh:Sp:=fun vs H Q _=>∃v:V,vs=[v]/\KR H v/\(zaf H v->∀H',Same H H'->Q s!"BA" H')/\(¬zaf H v->∀H',Same H H'->Q s!"B]" H')
theorem wr {p:Addr} {o:HO} (h:H p=some o) (n:∀b k,1<=k->o≠.tup [.str (ltr b),.int k]):¬zaf H s!"]":=by
 rintro ⟨b,k,q,e,h',k1⟩;cases e;rw [h] at h';exact n b k k1 s!"Gp"
theorem zml {x y x' y':V} (h:HO.tup [x,y]=HO.tup [x',y']):x=x'/\y=y':=by
 injection h with h
 injection h with h1 h2
 injection h2 with h2 _
 exact ⟨h1,h2⟩
theorem zni {x:V} (f:zX x=true):inV x [.str "u",.str "v"]=true↔∃b,x=.str (ltr b):=by
 constructor
 ·intro h;cases x with
  | str s=>
   have:s="u"\/s="v":=by
    by_cases h1:s="u"
    ·exact .inl h1
    ·by_cases h2:s="v"
     ·exact .inr h2
     ·exfalso;simp [inV,eqV,Ne.symm h1,Ne.symm h2,h1,h2] at h
   rcases this with rfl | rfl
   ·exact ⟨true,rfl⟩
   ·exact ⟨false,rfl⟩
  | _=>simp [inV,eqV] at h
 ·rintro ⟨b,rfl⟩;cases b <;> rfl
theorem zh8 (F:Src K mg "is_run" zct ["thing"]) (B:Blt mg) (C:Cls K mg base) (R:Rel K mg base C) (Kc:Cst K mg) (D_is_whole:s!"l{1}{"is_whole"}{["thing"]}{zoE}"):Def P w K mg base s!"p" 2 "is_run" ["thing"] znh:=by
 refine F.ok (CX:=CXE P w) (k:=1) zdC s!"t" s!"w"
 ·obtain ⟨_,rfl,_⟩:=h;rfl
 have nd:=zdC.nd;obtain ⟨v,rfl,k,q1,q2⟩:=h;refine ⟨_,s!"b8A&A[A]Au_BeA=A>avaBxEvEwExgAK-CrBN5AFexB?C#{op_in_seq}A3~B*&B?FzC%C#D3A35Fy",?_⟩
 walk_at "ds";refine zd [some v] rfl ?_;rcases k with k | ⟨p,xs,rfl,e⟩ | ⟨p,xs,rfl,e,k⟩
 ·have q:=q2 (by rintro ⟨b,n,p,rfl,_⟩;cases k) _ s!"@"
  cases v with
  | int i=>left;exact q
  | bl b=>left;exact q
  | str s=>left;exact q
  | non=>left;exact q
  | _=>cases k
 ·have q:=q2 (wr e fun b k _ z=>by cases z) _ s!"@"
  left;exact q
 ·left;walk_at "ite"
  ·rename_i c;left;exact q2 (wr e fun b k _ z=>by cases z;exact c rfl) _ s!"@"
  ·rename_i c
   match xs,c,e,k with
   | [x,y],_,e,k=>
   have fx:=k rfl x s!"s"
   have fy:=k rfl y s!"s"
   left;rename_i t H1 s1 n1 e1;have e':=s1.obj e;refine ⟨t,_,rfl,.inr (SqT.of e1),fx,rfl,?_⟩;show kB s!"!{inV x [.str "u",.str "v"]}" H1 _;cases hin:inV x [.str "u",.str "v"] with
   | false=>
    left;exact q2 (wr e fun b k _ z=>by cases z;rw [(zni rfl).mpr ⟨b,rfl⟩] at hin;cases hin) _ s1
   | true=>
    obtain ⟨b,rfl⟩:=(zni fx).mp hin;left;refine ⟨_,rfl,zmk fy _,?_⟩
    by_cases hI:∃i,y=.int i
    ·obtain ⟨i,rfl⟩:=hI;rw [show isI (V.int i)=true from rfl]
     left
     by_cases hi:1<=i
     ·rw [decide_eq_true (show i>=1 from hi)]
      exact q1 ⟨b,i,p,rfl,e,hi⟩ _ s1
     ·rw [decide_eq_false (show ¬i>=1 from hi)]
      exact q2 (wr e fun b k k1 z=>by have:=(zml z).2;cases this;exact hi k1) _ s1
    ·have e0:isI y=false:=by cases y <;> first | rfl | exact absurd ⟨_,rfl⟩ hI
     rw [e0];left;exact q2 (wr e fun b k k1 z=>hI ⟨_,(zml z).2⟩) _ s1
def KW (H:Hp) (v:V):Prop:=(zX v=true)\/(∃p xs,v=.ref p/\H p=some s!"3")\/(∃p xs,v=.ref p/\H p=some s!"Ae"/\xs.length<=900/\∀x∈xs,KR H x)
def xF (H:Hp) (v:V) (ws:List (Bool×Int)):Prop:=∃D,v=.ref D/\WordL H D ws/\Mth.Alt ws/\(∀p∈ws,1<=p.2)/\ws.length<=900
def zfw (H:Hp) (v:V):Prop:=∃ws,xF H v ws
theorem xF.same (g:xF H v ws) (s:Same H H'):xF H' v ws:=by
 obtain ⟨D,e,W,k⟩:=g;exact ⟨D,e,W.same s,k⟩
theorem zdG:∀{xs:List V},(∀x∈xs,zaf H x)->∃(as:List Addr) (ws:List (Bool×Int)),xs=as.map V.ref/\as.length=ws.length/\(∀(i:Nat) (x:Addr) (p:Bool×Int),as[i]? =some x->ws[i]? =some p->H x=some s!"6{[.str (ltr p.1),.int p.2]}")/\∀p∈ws,1<=p.2
 | [],_=>⟨[],[],rfl,rfl,fun i x p h=>by simp at h,fun p h=>by simp at h⟩
 | x::r,h=>by
  obtain ⟨b,n,p,rfl,e,n1⟩:=h x (List.mem_cons_self ..);obtain ⟨as,ws,rfl,l,T,P⟩:=zdG (xs:=r) fun y hy=>h y s!"D["
  refine ⟨p::as,(b,n)::ws,rfl,by simp [l],fun i x q hx hq=>?_,fun q hq=>?_⟩
  ·cases i with
   | zero=>cases hx;cases hq;exact e
   | succ j=>exact T j x q hx hq
  ·rcases List.mem_cons.mp hq with rfl | hq
   ·exact n1
   ·exact P q hq
theorem WordL.runs (W:WordL H D ws) (P:∀p∈ws,1<=p.2) (e:H D=some s!"Ae"):∀x∈xs,zaf H x:=by
 obtain ⟨as,eD,la,T⟩:=W.ex;rw [e] at eD;cases eD;intro x hx;obtain ⟨u,hu,rfl⟩:=List.mem_map.mp hx;obtain ⟨i,hi⟩:=List.getElem?_of_mem hu;obtain ⟨p,hp⟩:∃p,ws[i]? =some p:=⟨_,List.getElem?_eq_getElem (by have:=s!"Ce".1;omega)⟩
 exact ⟨p.1,p.2,u,rfl,T i u p hi hp,P p s!"CH"⟩
theorem WordL.uniq (W:WordL H D ws) (U:WordL H D us):ws=us:=by
 obtain ⟨as,eD,la,T⟩:=W.ex;obtain ⟨bs,eB,lb,S⟩:=U.ex;rw [eD] at eB;have hab:as=bs:=by
  have h:=HO.lst.inj s!"Bb{eB}";exact (List.map_inj_right (f:=V.ref) (fun a b h=>by cases h;rfl)).mp h
 subst hab;apply List.ext_getElem?;intro i
 by_cases hi:i<as.length
 ·obtain ⟨x,hx⟩:∃x,as[i]? =some x:=⟨_,List.getElem?_eq_getElem hi⟩;obtain ⟨p,hp⟩:∃p,ws[i]? =some p:=⟨_,List.getElem?_eq_getElem s!"c"⟩
  obtain ⟨q,hq⟩:∃q,us[i]? =some q:=⟨_,List.getElem?_eq_getElem s!"c"⟩
  have e1:=T i x p hx hp;rw [S i x q hx hq] at e1;have h2:=zml s!"Bb{e1}";rw [hp,hq];obtain ⟨b,n⟩:=p;obtain ⟨c,m⟩:=q;have en:m=n:=by have:=h2.2;cases this;rfl
  have eb:c=b:=by
   have h3:ltr c=ltr b:=V.str.inj h2.1;cases c <;> cases b <;> first | rfl | exact absurd h3 s!"d"
  rw [en,eb]
 ·rw [List.getElem?_eq_none s!"c",List.getElem?_eq_none s!"c"]
theorem zkj {v:V} (h1:SqL K H a xs) (h0:0<=i) (hv:xs[i.toNat]? =some v) (h:Q v H):zfY K s!"h" s!"=" H Q:=by
 refine zfY.Qr (v:=v) h1 ?_ h;have e:=xg (xs:=xs) (j:=i.toNat) (v:=v) hv;rw [show ((i.toNat:Nat):Int)=i by omega] at e
 exact e
def zeu (ws:List (Bool×Int)) (k:Nat):Bool:=!decide (ltr ((ws.getD (k-1) (true,0)).1)=ltr ((ws.getD k (true,0)).1))
theorem zg1 (ws:List (Bool×Int)):(s!"A*{(ws.length-1)}".all fun i=>zeu ws (1+i))=true↔Mth.Alt ws:=by
 rw [List.all_eq_true];constructor
 ·intro h i p q hp hq;have hl:=s!"Dr{hq}".1;have:=h i (List.mem_range.mpr s!"c")
  unfold zeu at this;rw [show 1+i-1=i by omega,show 1+i=i+1 by omega,List.getD_eq_getElem?_getD,List.getD_eq_getElem?_getD,hp,hq] at this
  intro e;rw [show (s!"n{p}".getD (true,0)).1=p.1 from rfl,show (s!"n{q}".getD (true,0)).1=q.1 from rfl,e,decide_eq_true rfl] at this
  cases this
 ·intro h i hi;have hl:=List.mem_range.mp hi;obtain ⟨p,hp⟩:∃p,ws[i]? =some p:=⟨_,List.getElem?_eq_getElem s!"c"⟩
  obtain ⟨q,hq⟩:∃q,ws[i+1]? =some q:=⟨_,List.getElem?_eq_getElem s!"c"⟩
  unfold zeu;rw [show 1+i-1=i by omega,show 1+i=i+1 by omega,List.getD_eq_getElem?_getD,List.getD_eq_getElem?_getD,hp,hq]
  show (!decide (ltr p.1=ltr q.1))=true;rw [decide_eq_false fun e=>h i p q hp hq (by cases hb:p.1 <;> cases hc:q.1 <;> rw [hb,hc] at e <;> first | rfl | exact absurd e s!"d")]
  rfl
def zoI:Sp:=fun vs H Q _=>∃v:V,vs=[v]/\KW H v/\(zfw H v->∀H',Same H H'->Q s!"BA" H')/\(¬zfw H v->∀H',Same H H'->Q s!"B]" H')
open Classical in
theorem zgh (F:Src K mg "is_word" zba ["word"]) (B:Blt mg) (C:Cls K mg base) (R:Rel K mg base C) (Kc:Cst K mg) (D_is_run:s!"l{2}{"is_run"}{["thing"]}{znh}"):Def P w K mg base s!"p" 3 "is_word" ["word"] zoI:=by
 refine F.ok (CX:=CXE P w) (k:=2) zcu s!"t" s!"w"
 ·obtain ⟨_,rfl,_⟩:=h;rfl
 have nd:=zcu.nd;obtain ⟨v,rfl,k,q1,q2⟩:=h;refine ⟨_,s!"b8A&A[A]Au_BeA=A>avaBx{.ty "list"}{B.list}{PyProof.Rows.boot_list}gAKA]Au_CvBYBZaBwF8{fun pins cl ex s H=>s!"m{D_is_run}{zca}Ay"}gAFex_CvBYBZa{@pe_compF2 _ _ _ _ _ _ _ _ _ [0] ["word"] rfl (@pi_range2 _ _ _ _ _ _ _ rfl B.range s!"H@" (by rfl) (by rfl)) (fun pins cl ex s H=>s!"C#{zmz}A${xM}A${xM}9H!5A${xM}H^5Fy") rfl rfl rfl s!"f" s!"f" rfl s!"f" rfl s!"f" (by intro _;rfl)}g",?_⟩
 walk_at "ds";refine zd [some v] rfl ?_;rcases k with k | ⟨p,xs,rfl,e⟩ | ⟨p,xs,rfl,e,l,k⟩
 ·have q:=q2 (by rintro ⟨ws,D,rfl,_⟩;cases k) _ s!"@"
  cases v with
  | int i=>left;exact q
  | bl b=>left;exact q
  | str s=>left;exact q
  | non=>left;exact q
  | _=>cases k
 ·have q:=q2 (by rintro ⟨ws,D,hD,W,_⟩;cases hD;obtain ⟨as,eD,_⟩:=W.ex;rw [e] at eD;cases eD) _ s!"@"
  left;exact q
 ·left;refine yX ?_;left;refine yu (xs.map fun x=>V.bl (decide s!"DW")) s!"As{e}" (List.length_map _) s!"c" (fun i x y H' Q' hx hy s' hQ=>?_) fun D H1 s1 n1 e1=>?_
  ·rw [List.getElem?_map,hx] at hy;cases hy;have kx:=s!"H_".same s';change ∀H2,Same H' H2->Q' s!"!{(decide s!"DW")}" H2 at hQ;left;refine ⟨_,rfl,kx,fun r H2 s2=>?_,fun r H2 s2=>?_⟩
   ·rw [decide_eq_true (r.back s!"H_" s')] at hQ;exact hQ _ s2
   ·rw [decide_eq_false (p:=zaf H x) (fun z=>r (by obtain ⟨b,n,z⟩:=z;exact ⟨b,n,z.same s'⟩))] at hQ
    exact hQ _ s2
  left;refine ⟨D,xs.map fun x=>decide s!"DW",rfl,SqL.of (by rw [e1,List.map_map];rfl),?_⟩
  by_cases all:∀x∈xs,zaf H x
  ·rw [show (xs.map fun x=>decide s!"DW").all id=true by rw [List.all_map];exact List.all_eq_true.mpr fun x hx=>decide_eq_true (all x hx)]
   obtain ⟨as,ws,rfl,la,T,P⟩:=zdG all;have W:WordL H p ws:=⟨as,e,la,T⟩;rw [List.length_map] at l;have e':=s1.obj e;have hlm:(as.map V.ref).length=as.length:=List.length_map _;left;refine zhw [some s!"]"] rfl ?_;left;rw [hlm];refine zhx (fun k=>.bl (zeu ws k.toNat)) s!"c" (fun i k H' Q' hi hk s' hQ=>?_) fun D2 H2 s2 n2 e2=>?_
   ·obtain ⟨x,hx⟩:∃x,as[i]? =some x:=⟨_,List.getElem?_eq_getElem s!"c"⟩
    obtain ⟨y,hy⟩:∃y,as[i+1]? =some y:=⟨_,List.getElem?_eq_getElem s!"c"⟩
    obtain ⟨a,ha⟩:∃a,ws[i]? =some a:=⟨_,List.getElem?_eq_getElem s!"c"⟩
    obtain ⟨b,hb⟩:∃b,ws[i+1]? =some b:=⟨_,List.getElem?_eq_getElem s!"c"⟩
    have ep:=s'.obj e';have ex:=s'.obj s!"Dy{T i x a hx ha}";have ey:=s'.obj s!"Dy{T (i+1) y b hy hb}";have ek:zeu ws k.toNat=!decide (ltr a.1=ltr b.1):=by
     unfold zeu;rw [show k.toNat-1=i by omega,show k.toNat=i+1 by omega,List.getD_eq_getElem?_getD,List.getD_eq_getElem?_getD,ha,hb]
     rfl
    rw [ek] at hQ;left;refine zkj (v:=.ref x) s!"As{ep}" s!"c" (by rw [List.getElem?_map,show (k-1).toNat=i by omega,hx];rfl) ?_
    left;refine zkj (v:=.ref y) s!"As{ep}" s!"c" (by rw [List.getElem?_map,show k.toNat=i+1 by omega,hy];rfl) ?_
    left;exact hQ _ s!"@"
   ·left;refine ⟨D2,s!"A*{(ws.length-1)}".map fun i=>zeu ws (1+i),rfl,SqL.of (by rw [e2,List.map_map,show ((as.length:Int)-1).toNat=ws.length-1 by omega];exact congrArg (fun l=>some (HO.lst l)) (List.map_congr_left fun i _=>by show V.bl _=V.bl _;rw [show (1+(i:Int)).toNat=1+i by omega])),?_⟩
    rw [show (s!"A*{(ws.length-1)}".map fun i=>zeu ws (1+i)).all id=s!"A*{(ws.length-1)}".all fun i=>zeu ws (1+i) by rw [List.all_map];rfl]
    by_cases al:Mth.Alt ws
    ·rw [(zg1 ws).mpr al];exact q1 ⟨ws,p,rfl,W,al,P,by omega⟩ _ s!"A!"
    ·rw [Bool.eq_false_iff.mpr fun z=>al ((zg1 ws).mp z)]
     refine q2 ?_ _ s!"A!";rintro ⟨us,D',hD',U,au,_⟩;cases hD';rw [<-WordL.uniq W U] at au;exact al au
  ·rw [show (xs.map fun x=>decide (zaf H x)).all id=false by
    rw [List.all_map];exact Bool.eq_false_iff.mpr fun z=>all fun x hx=>of_decide_eq_true (List.all_eq_true.mp z x hx)]
   left;refine q2 ?_ _ s1;rintro ⟨ws,D',hD',W,_,P,_⟩;cases hD';exact all (WordL.runs W P e)
def zqu (c:Addr):Sp:=fun vs H Q E=>∃v:V,vs=[v]/\KW H v/\(zfw H v->∀H',Same H H'->Q .non H')/\(¬zfw H v->∀H',Same H H'->E s!"Af" none H')
theorem zev (F:Src K mg "need_word" x8 ["word"]) (B:Blt mg) (C:Cls K mg base) (R:Rel K mg base C) (Kc:Cst K mg) (D_is_word:s!"l{3}{"is_word"}{["word"]}{zoI}"):Def P w K mg base s!"p" 4 "need_word" ["word"] s!"H|":=by
 refine F.okX (CX:=CXE P w) (k:=3) zaE s!"t" s!"w"
 ·obtain ⟨_,rfl,_⟩:=h;rfl
 have nd:=zaE.nd;obtain ⟨v,rfl,k,q1,q2⟩:=h;refine ⟨_,s!"e8A]AumFYyAyeBv{(C.NoWord).own}",?_⟩
 walk_at "ds";refine zd [some v] rfl ?_;left;refine ⟨_,rfl,k,fun b H1 s1=>?_,fun b H1 s1=>?_⟩
 ·left;exact q1 b _ s1
 ·left;exact q2 b _ s1
def Big (ws:List (Bool×Int)):Prop:=s!"B+".1<10^140/\s!"B+".2.1<10^140/\s!"B+".2.2.1<10^140/\s!"B+".2.2.2<10^140
def znj (c:Addr):Sp:=fun vs H Q E=>∃v:V,vs=[v]/\KW H v/\(∀ws,xF H v ws->Big ws/\∀r H',Same H H'->Tab H' r s!"B+".1 s!"B+".2.1 s!"B+".2.2.1 s!"B+".2.2.2->Q s!"At" H')/\(¬zfw H v->∀H',Same H H'->E s!"Af" none H')
theorem zfx (F:Src K mg "table_of" zac ["word"]) (B:Blt mg) (C:Cls K mg base) (R:Rel K mg base C) (Kc:Cst K mg) (D_need_word:s!"l{4}{"need_word"}{["word"]}H|"):Def P w K mg base s!"p" 5 "table_of" ["word"] s!"H~":=by
 refine F.okX (CX:=CXE P w) (k:=4) zbD s!"t" s!"w"
 ·obtain ⟨_,rfl,_⟩:=h;rfl
 have nd:=zbD.nd;obtain ⟨v,rfl,k,q1,q2⟩:=h;refine ⟨_,s!"b%m{D_need_word}yAybj{1}5bj{2}5bF5bj{4}5bB=D6C8vH'e{@ps_if _ _ _ _ _ _ _ _ s!"-AXDk*" s!"bEm{2}iAoDk9eEm{4}iAoDk>" s!"bEm{1}iAoDk/eEm{3}iAoDk`"}ex~a~DSa~a>F9g",?_⟩
 walk_at "ds";refine zd [some v,none,none,none,none,none] rfl ?_;left;refine ⟨_,rfl,k,fun b H1 s1=>?_,fun b H1 s1=>q2 b _ s1⟩
 obtain ⟨ws,g⟩:=b;obtain ⟨⟨B1,B2,B3,B4⟩,q⟩:=q1 ws g;obtain ⟨D,rfl,W,al,hw,hN⟩:=g.same s1;obtain ⟨as,eD,la,T⟩:=W.ex;left;refine zeV (xs:=as.map V.ref) (fun i σ H'=>Same H1 H'/\i<=ws.length/\∃(z:Option V) (a b c d:Int),σ=[some s!";",some s!"An",some s!"B&",some s!"BO",some s!"2{d}",z]/\Mth.fw (ws.take i)=(a,b,c,d)) ⟨Same.refl _,Nat.zero_le _,_,1,0,0,1,rfl,rfl⟩ (fun i σ H' _ h=>SqL.of (h.1.obj eD)) ?_ ?_
 ·rintro i v σ Ha hv ⟨sa,hi',z,a,b,c,d,rfl,wi⟩;rw [List.getElem?_map] at hv;cases hx:as[i]? with
  | none=>rw [hx] at hv;cases hv
  | some u=>
   rw [hx] at hv;cases hv;have hil:i<ws.length:=by have:=s!"Cu".1;omega
   obtain ⟨p,hp⟩:∃p,ws[i]? =some p:=⟨_,List.getElem?_eq_getElem hil⟩;have eu:=sa.obj (T i u p hx hp);have p1:=hw p s!"CH";have nx:=Mth.zmg hp;rw [wi] at nx;obtain ⟨w1,w2,w3,w4⟩:=Mth.zkd (ws:=ws.take i) fun p hp=>hw p s!"Hj"
   obtain ⟨l1,l2,l3,l4⟩:=Mth.znd hw i;obtain ⟨m1,m2,m3,m4⟩:=Mth.znd hw (i+1);rw [wi] at w1 w2 w3 w4 l1 l2 l3 l4;change 1<=a at w1;change 0<=b at w2;change 0<=c at w3;change 1<=d at w4;change a<=_ at l1;change b<=_ at l2;change c<=_ at l3;change d<=_ at l4;rw [nx] at m1 m2 m3 m4;obtain ⟨pb,pn⟩:=p;change 1<=pn at p1;have g1:pn*1<=pn*a:=Int.mul_le_mul_of_nonneg_left w1 s!"c"
   have g4:pn*1<=pn*d:=Int.mul_le_mul_of_nonneg_left w4 s!"c"
   cases pb with
   | true=>
    change Ha u=some s!"6{[.str "u",.int pn]}" at eu;change b+pn*a<=_ at m2;clear m1 m3 m4;have bn:pn<10^140:=by omega
    left;walk_at "ite"
    rotate_left
    ·rename_i k;exact absurd rfl k
    left;exact ⟨sa,by omega,_,a,b+pn*a,c,d+pn*c,rfl,nx⟩
   | false=>
    change Ha u=some s!"6{[.str "v",.int pn]}" at eu;change c+pn*d<=_ at m3;clear m1 m2 m4;have bn:pn<10^140:=by omega
    left;walk_at "ite"
    ·rename_i k;exact absurd k s!"d"
    left;exact ⟨sa,by omega,_,a+pn*b,b,c+pn*d,d,rfl,nx⟩
 ·rintro σ Ha ⟨sa,_,z,a,b,c,d,rfl,wi⟩;rw [List.length_map,la,List.take_length] at wi;left;rename_i p1 H1' s1' n1 f1 p2 H2 s2 n2 f2 p3 H3 s3 n3 f3;rw [wi] at q;exact q p3 H3 ((((s1.trans sa).trans s1').trans s2).trans s3) ⟨p1,p2,f3,s3.obj s!"F7",s3.obj f2⟩
theorem zgi (F:Src K mg "word_of" zbb ["table"]) (_:Blt mg) (C:Cls K mg base) (_:Rel K mg base C) (_:Cst K mg):Def P w K mg base s!"p" 1 "word_of" ["table"] xh:=F.void zgd
def zew:Sp:=fun vs H Q _=>∃t:Str,vs=[.str t]/\Asc t/\t.length<=10000/\∀H',Same H H'->Q s!"!{zh t}" H'
theorem zex (F:Src K mg "is_number" x9 ["text"]) (B:Blt mg) (C:Cls K mg base) (R:Rel K mg base C) (Kc:Cst K mg):Def P w K mg base s!"p" 1 "is_number" ["text"] zew:=by
 refine F.ok (CX:=CXE P w) (k:=0) zaF s!"t" s!"w"
 ·obtain ⟨_,rfl,_⟩:=h;rfl
 have nd:=zaF.nd;obtain ⟨t,rfl,ta,tl,q⟩:=h;have tz:t.length<=sizeLine:=Nat.le_trans tl s!"d"
 have fa:=zjJ ta;have fl:=zjK t;have fz:s!"Aa".length<=sizeLine:=Nat.le_trans fl tz;refine ⟨_,s!"bj{1}BzAuA7B`FZGaGbvA9BT{sl_str}vDXCavb8A&A[-AX9*A[-D2_EyC;C<AqAk2{60}{Kc.MOST_FIGURES.choose_spec}{⟨_,rfl⟩}AKA]Au_CvBYBZaBw{@pi_str _ _ _ _ s!"9"}{fun pins cl ex s H=>s!"C#{zjH}vAkz{"0123456789"}{Kc.FIGURES.choose_spec}{⟨_,rfl⟩}&"}gAFex{@pe_or _ _ _ _ _ _ _ s!"BSv*" s!"C%{@pe_not _ _ _ _ s!"A7B`FZGaGb9A9"}"}",?_⟩
 walk_at "ds";refine zd [some s!"^",none] rfl ?_;left;refine (fun (hX:Hide (?hXX:Prop))=>?hXa) ⟨?hXb⟩
 case hXa=>
  walk_at "ite"
  ·rename_i c;have e:Txt.slice t s!"B%" none=zz t:=(if_pos c).symm;left;rw [e];exact hX.out
  ·rename_i c;have e:t=zz t:=(if_neg (by rw [c];decide)).symm
   left;have z:=hX.out;rw [<-e] at z;exact z
 walk_at "ite"
 ·rename_i c;left;have z:=q _ s!"@";rw [show zh t=false by unfold zh;rw [decide_eq_true c];rfl] at z
  exact z
 rename_i c1;left;walk_at "ite"
 ·rename_i c;left;have z:=q _ s!"@";rw [show zh t=false by unfold zh;rw [decide_eq_false (show ¬s!"Aa".length<=60 by omega),Bool.and_false];rfl] at z
  exact z
 rename_i c2;have l60:s!"Aa".length<=60:=by omega
 left;refine zdk (fun c=>.bl (decide (48<=c) && decide (c<=57))) fa (by show s!"Aa".length<=1000;omega) (fun i c H' Q' hc s' hQ=>?_) fun D H2 s2 n2 e2=>?_
 ·left;rw [zl5 (fa.at hc)];exact hQ _ s!"@"
 left;refine ⟨D,s!"Aa".cps.toList.map (fun c=>decide (48<=c) && decide (c<=57)),rfl,SqL.of (by rw [List.map_map];exact e2),?_⟩
 have ea:(s!"Aa".cps.toList.map (fun c=>decide (48<=c) && decide (c<=57))).all id=wW s!"Aa":=by
  unfold wW;rw [List.all_map];rfl
 rw [ea];have z:=q _ s2;have ez:zh t=(wW s!"Aa" && (decide (t="0") || !Txt.startswith s!"Aa" "0")):=by
  unfold zh;rw [decide_eq_false c1,decide_eq_true l60];rfl
 rw [ez] at z;cases hf:wW s!"Aa"
 ·rw [hf] at z;left;exact z
 ·rw [hf] at z;left;walk_at "ite"
  ·rename_i c;rw [decide_eq_true c] at z;exact z
  ·rename_i c;rw [decide_eq_false c] at z;left;exact z
def znk:Sp:=fun vs H Q _=>∃(r:Addr) (a b:Int),vs=[.ref r]/\H r=some s!"6{[.int a,.int b]}"/\wI a/\wI b/\Q s!"z{zjQ a b}" H
theorem zaP (F:Src K mg "shown_fraction" ye ["x"]) (B:Blt mg) (C:Cls K mg base) (R:Rel K mg base C) (Kc:Cst K mg):Def P w K mg base s!"p" 1 "shown_fraction" ["x"] znk:=by
 refine F.ok (CX:=CXE P w) (k:=0) yL s!"t" s!"w"
 ·obtain ⟨_,_,_,rfl,_⟩:=h;rfl
 have nd:=yL.nd;obtain ⟨r,a,b,rfl,er,ha,hb,q⟩:=h;refine ⟨_,s!"bj{1}A3bj{2}A3exBz-AX/5BaAq{@wu _ _ _ _ _ _ s!"Du{@zbU _ _ _ _ s!"9"}Du*Du{@zbU _ _ _ _ s!"/"}{PJ.nil}"}",?_⟩
 walk_at "ds";refine zd [some s!"At",none,none] rfl ?_;have la:=ha.log;have lb:=hb.log;have za:s!":{toString a}".length<=571:=ha.len;have zb:s!":{toString b}".length<=571:=hb.len;left;walk_at "ite"
 ·rename_i c;left;rw [show zjQ a b=zG a from if_pos c] at q
  exact q
 ·rename_i c;left;rw [show zjQ a b=zG a++"/"++zG b from if_neg c] at q
  rw [Str.empty_append];exact q
def zkk:Sp:=fun vs H Q _=>∃(t:Addr) (a b c d:Int),vs=[.ref t]/\Tab H t a b c d/\a*d-b*c=1/\a.natAbs<10^190/\b.natAbs<10^190/\c.natAbs<10^190/\d.natAbs<10^190/\∀H',Same H H'->Q s!"z{zhU a b c d}" H'
theorem zcz (F:Src K mg "shown_table" yS ["table"]) (B:Blt mg) (C:Cls K mg base) (R:Rel K mg base C) (Kc:Cst K mg) (D_need_table:s!"l{4}{"need_table"}{["table"]}D5"):Def P w K mg base s!"p" 5 "shown_table" ["table"] zkk:=by
 refine F.okX (CX:=CXE P w) (k:=4) wa s!"t" s!"w"
 ·obtain ⟨_,_,_,_,_,rfl,_⟩:=h;rfl
 have nd:=wa.nd;obtain ⟨t,a,b,c,d,rfl,T,det,b1,b2,b3,b4,q⟩:=h;refine ⟨_,s!"b%mC:yAyexA7B`D7D8D9*aBw{@PI.or _ _ _ _ _ s!"C8i{zd6}A3A3" s!"C9i{zd6}A3A3"}{fun pins cl ex s H=>s!"BaAy"}g",?_⟩
 walk_at "ds";refine zd [some s!"'"] rfl ?_;left;refine ⟨_,_,_,_,_,rfl,T,b1,b2,b3,b4,fun _=>?_,fun z=>absurd det z⟩
 obtain ⟨r,s',e1,e2,e3⟩:=T;have sm:∀n∈[a,b,c,d],wI n:=fun n hn=>by
  have k:(10:Nat)^190<10^570:=by decide
  simp only [List.mem_cons,List.not_mem_nil,or_false] at hn;unfold wI;rcases hn with rfl | rfl | rfl | rfl <;> omega
 left;refine zi7 ?_;left;refine zgJ e2 e3 (show 2+2<=1000 by decide) fun u H1 s1 eu=>?_
 left;refine zf3 ([a,b,c,d].map fun n=>V.str s!"A|") (SqT.of (xs:=[a,b,c,d].map V.int) eu) rfl (by show 4<=1000;decide) (fun i x y H' Q' hx hy s2 hQ=>?_) fun D H2 s2 n2 e2=>?_
 ·rw [List.getElem?_map] at hx hy;cases hw:[a,b,c,d][i]? with
  | none=>rw [hw] at hx;cases hx
  | some n=>
  rw [hw] at hx hy;cases hx;cases hy;have ln:=(sm n s!"DY").log;left;exact hQ _ s!"@"
 left;refine xN [zG a,zG b,zG c,zG d] s!"As{e2}" (zav (k:=571) s!"d" (by show 4<=1000;decide) (fun w hw=>?_) s!"d") ?_
 ·obtain ⟨n,hn,rfl⟩:=List.mem_map.mp (show w∈[a,b,c,d].map zG from hw)
  exact (sm n hn).len
 exact q _ s!"A!"
theorem zcQ (F:Src K mg "shown_word" xl ["word"]) (_:Blt mg) (C:Cls K mg base) (_:Rel K mg base C) (_:Cst K mg):Def P w K mg base s!"p" 1 "shown_word" ["word"] xh:=F.void zcM
def zb1 (cX:Addr):Sp:=fun vs H Q E=>∃b:Bool,vs=[.bl b]/\(b=false->E s!"Dj" none H)/\(b=true->Q .non H)
theorem zey (F:Src K mg "need_text" wc ["holds"]) (B:Blt mg) (C:Cls K mg base) (R:Rel K mg base C) (Kc:Cst K mg):Def P w K mg base s!"p" 1 "need_text" ["holds"] (zb1 C.NoText.addr):=by
 refine F.okX (CX:=CXE P w) (k:=0) zaG s!"t" s!"w"
 ·obtain ⟨_,rfl,_⟩:=h;rfl
 have nd:=zaG.nd;obtain ⟨b,rfl,q0,q1⟩:=h;refine ⟨_,s!"e8A]AuveBv{(C.NoText).own}",?_⟩
 walk_at "ds";refine zd [some s!"A:"] rfl ?_;cases b
 ·left;exact q0 rfl
 ·left;exact q1 rfl
def zbG (ws:List Str):Prop:=ws.length<=1000/\∀w∈ws,Asc w/\w.length<=10000
def zez (K:PySem.W.Frag) (cX:Addr):Sp:=fun vs H Q E=>∃(l:Addr) (ws:List Str),vs=[.ref l]/\SqL K H l s!"CS"/\zbG ws/\(ws.all zh=false->∀H',Same H H'->E s!"Dj" none H')/\(ws.all zh=true->∀D H',Same H H'->H D=none->H' D=some s!"u{(s!"FC{zo}".map V.int)}"->Q s!";" H')
def Tx (t:Str):Prop:=Asc t/\t.length<=900
theorem Tx.sz (h:Tx t):t.length<=sizeLine:=Nat.le_trans h.2 s!"d"
theorem Tx.ok (h:Tx t) (c:Nat):zbG (Txt.split t ⟨#[c]⟩):=⟨Nat.le_trans (zdr t c) (by have:=h.2;omega),fun w hw=>⟨h.1.split hw,Nat.le_trans (xQ hw).1 (by have:=h.2;omega)⟩⟩
theorem zg2 {ws:List Str} (al:ws.all zh=true) (e:ws.map zo=ns):∀n∈ns,n.natAbs<10^60:=fun n hn=>by
 subst e;obtain ⟨w,hw,rfl⟩:=List.mem_map.mp hn;exact zfa (List.all_eq_true.mp al w hw)
theorem zbO (F:Src K mg "read_numbers" yD ["pieces"]) (B:Blt mg) (C:Cls K mg base) (R:Rel K mg base C) (Kc:Cst K mg) (D_is_number:s!"l{1}{"is_number"}{["text"]}{zew}") (D_need_text:s!"l{1}{"need_text"}{["holds"]}Ez"):Def P w K mg base s!"p" 2 "read_numbers" ["pieces"] (zez K C.NoText.addr):=by
 refine F.okX (CX:=CXE P w) (k:=1) xz s!"t" s!"w"
 ·obtain ⟨_,_,rfl,_⟩:=h;rfl
 have nd:=xz.nd;obtain ⟨l,ws,rfl,hl,⟨w1,w2⟩,q0,q1⟩:=h;refine ⟨_,s!"b%mCbya_CvBYBZaBwF8{fun pins cl ex s H=>s!"mGc{zca}Ay"}ggexBwF8{fun pins cl ex s H=>(@pe_callTy _ _ _ _ _ _ _ _ _ zdl rfl B.int PyProof.Rows.boot_int s!"Ay" s!"d" s!"d" (by rfl) (by rfl))}",?_⟩
 walk_at "ds";refine zd [some s!"Ab"] rfl ?_;left;refine yX ?_;left;refine yu (ws.map fun w=>V.bl (zh w)) hl (by rw [List.length_map,List.length_map]) (by rw [List.length_map];exact w1) (fun i x y H' Q' hx hy s' hQ=>?_) fun D H1 s1 n1 e1=>?_
 ·rw [List.getElem?_map] at hx hy;cases hw:ws[i]? with
  | none=>rw [hw] at hx;cases hx
  | some w=>
  rw [hw] at hx hy;cases hx;cases hy;obtain ⟨a1,a2⟩:=w2 w s!"DY";left;exact ⟨_,rfl,a1,a2,fun H2 s2=>hQ _ s2⟩
 left;refine ⟨D,ws.map zh,rfl,SqL.of (by rw [List.map_map];exact e1),?_⟩
 rw [show s!"FC{zh}".all id=ws.all zh by rw [List.all_map];rfl]
 left;refine ⟨_,rfl,fun z=>q0 z _ s1,fun z=>?_⟩
 left;refine yX ?_;left;refine yu (s!"FC{zo}".map V.int) (s1.seq hl) (by rw [List.length_map,List.length_map,List.length_map]) (by rw [List.length_map];exact w1) (fun i x y H' Q' hx hy s' hQ=>?_) fun D2 H2 s2 n2 e2=>?_
 ·rw [List.getElem?_map] at hx hy;rw [List.getElem?_map] at hy;cases hw:ws[i]? with
  | none=>rw [hw] at hx;cases hx
  | some w=>
  rw [hw] at hx hy;cases hx;cases hy;obtain ⟨a1,a2⟩:=zbv (List.all_eq_true.mp z w s!"DY");left;refine zgQ a1 s!"By{a2}" ?_
  exact hQ _ s!"@"
 exact q1 z D2 H2 s!"A!" (s1.none n2) e2
def zbP (t:Str) (a b c d:Int):Prop:=s!"A#".all zh=true/\s!"A#".map zo=[a,b,c,d]
def znl (cX cT:Addr):Sp:=fun vs H Q E=>∃t:Str,vs=[.str t]/\Tx t/\(∀a b c d,zbP t a b c d->a*d-b*c=1->∀D H',Same H H'->Tab H' D a b c d->Q s!";" H')/\(∀a b c d,zbP t a b c d->a*d-b*c≠1->∀H',Same H H'->E s!"DQ" none H')/\((∀a b c d,¬zbP t a b c d)->∀H',Same H H'->E s!"Dj" none H')
theorem zbP.lt {a d:Int} (h:zbP t a b c d):a.natAbs<10^60/\b.natAbs<10^60/\c.natAbs<10^60/\d.natAbs<10^60:=by
 have k:=zg2 h.1 h.2;exact ⟨k a s!"s",k b s!"s",k c s!"s",k d s!"s"⟩
theorem zb2 (h:n.natAbs<10^60):n.natAbs<10^190:=Nat.lt_trans h s!"d"
theorem zcR (F:Src K mg "read_table" xm ["text"]) (B:Blt mg) (C:Cls K mg base) (R:Rel K mg base C) (Kc:Cst K mg) (D_need_text:s!"l{1}{"need_text"}{["holds"]}Ez") (D_read_numbers:s!"l{2}{"read_numbers"}{["pieces"]}Gd") (D_need_table:s!"l{4}{"need_table"}{["table"]}D5"):Def P w K mg base s!"p" 5 "read_table" ["text"] s!"H`":=by
 refine F.okX (CX:=CXE P w) (k:=4) wM s!"t" s!"w"
 ·obtain ⟨_,rfl,_⟩:=h;rfl
 have nd:=wM.nd;obtain ⟨t,rfl,tx,q1,q2,q0⟩:=h;have tz:=tx.sz;have ok:=tx.ok 32;rw [<-zaw] at ok;refine ⟨_,s!"b%mCbya_BeA=A>avaBxE0E1E2ggbj{1}mGeyaF!gb%mCbyaBSF#5gbj{2}~a~aA4aA4ga~aA4aA4ggb%mC:yAEDg",?_⟩
 walk_at "ds";refine zd [some s!"^",none,none] rfl ?_;left;refine ⟨_,rfl,(fun z=>by cases z),fun _=>?_⟩
 left;refine zat s!"f" tz _ rfl s!"By{ok.1}" fun D H1 s1 n1 e1=>?_
 left;refine ⟨_,_,rfl,SqL.of e1,ok,(fun z H2 s2=>q0 (fun a b c d f=>by rw [f.1] at z;cases z) H2 s!"A!"),fun al D2 H2 s2 n2 e2=>?_⟩
 have s12:=s1.trans s2;generalize hns:s!"A#".map zo=ns at*;have hl:s!"Ai".length=ns.length:=List.length_map _;left;refine ⟨_,rfl,fun z=>q0 (fun a b c d f=>?_) _ s12,fun z=>?_⟩
 ·have f:=f.2;rw [hns] at f;rw [f] at z;cases z
 obtain ⟨a,b,c,d,rfl⟩:∃a b c d,ns=[a,b,c,d]:=by
  have z:=of_decide_eq_true z
  match ns,(show ns.length=4 by omega) with
  | [a,b,c,d],_=>exact ⟨a,b,c,d,rfl⟩
 have F:zbP t a b c d:=⟨al,hns⟩;obtain ⟨k1,k2,k3,k4⟩:=F.lt;left;rename_i p1 H3 s3 n3 e3 p2 H4 s4 n4 e4 p3 H5 s5 n5 e5;have T:Tab H5 p3 a b c d:=⟨p1,p2,e5,s!"F$".obj e3,s5.obj e4⟩;have s15:=s12.trans s!"H(";refine ⟨_,_,_,_,_,rfl,T,zb2 k1,zb2 k2,zb2 k3,zb2 k4,fun det=>?_,fun det=>q2 a b c d F det H5 s15⟩
 left;exact q1 a b c d F det p3 H5 s15 T
def zcS (ps:List Str) (ws:List (Bool×Int)):Prop:=ps.length=2*ws.length/\∀(i:Nat) (p:Bool×Int),ws[i]? =some p->ps[2*i]? =some (ltr p.1)/\∃n,ps[2*i+1]? =some n/\zh n=true/\zo n=p.2/\1<=p.2
def RW (t:Str) (ws:List (Bool×Int)):Prop:=(t=Str.ofString "none"/\ws=[])\/(t≠Str.ofString "none"/\zcS s!"A#" ws/\Mth.Alt ws)
theorem zcS.small (h:zcS ps ws):∀p∈ws,1<=p.2/\p.2.natAbs<10^60:=fun p hp=>by
 obtain ⟨i,hi⟩:=List.getElem?_of_mem hp;obtain ⟨_,n,_,h1,h2,h3⟩:=h.2 i p hi;exact ⟨h3,by rw [<-h2];exact zfa h1⟩
def znm (cX:Addr):Sp:=fun vs H Q E=>∃t:Str,vs=[.str t]/\Tx t/\(∀ws,RW t ws->ws.length<=460->∀D H',Same H H'->H D=none->xF H' s!";" ws->Q s!";" H')/\((∀ws,¬RW t ws)->∀H',Same H H'->E s!"Dj" none H')
theorem zcS.nums (h:zcS ps ws):s!"B,".all zh=true:=by
 rw [List.all_eq_true];intro w hw;obtain ⟨i,hi⟩:=List.getElem?_of_mem hw;rw [xR,List.getElem?_drop] at hi;have hl:=s!"Ce".1;have h0:=h.1;obtain ⟨p,hp⟩:∃p,ws[i]? =some p:=⟨_,List.getElem?_eq_getElem s!"c"⟩
 obtain ⟨_,n,h1,h2,_⟩:=h.2 i p hp;rw [show 1+2*i=2*i+1 by omega,h1] at hi
 cases hi;exact h2
theorem zeA (F:Src K mg "read_word" we ["text"]) (B:Blt mg) (C:Cls K mg base) (R:Rel K mg base C) (Kc:Cst K mg) (D_need_text:s!"l{1}{"need_text"}{["holds"]}Ez") (D_read_numbers:s!"l{2}{"read_numbers"}{["pieces"]}Gd") (D_is_word:s!"l{3}{"is_word"}{["word"]}{zoI}"):Def P w K mg base s!"p" 4 "read_word" ["text"] s!"H)":=by
 refine F.okX (CX:=CXE P w) (k:=3) zaH s!"t" s!"w"
 ·obtain ⟨_,rfl,_⟩:=h;rfl
 have nd:=zaH.nd;obtain ⟨t,rfl,tx,q1,q0⟩:=h;have tz:=tx.sz;have ok:=tx.ok 32;have pl:=zdr t 32;rw [<-zaw] at ok pl;have tl:=tx.2;refine ⟨_,s!"b%mCbya_BeA=A>avaBxE0E1E2ggb8-AXvAkz{"none"}{Kc.EMPTY_WORD.choose_spec}{⟨_,rfl⟩}exDhbj{1}F!b{@ps_set _ _ 2 _ _ _ _ nd rfl s!"EG" s!"H[" (by rfl) (by walk_at "lo")}b{@ps_set _ _ 3 _ _ _ _ nd rfl s!"EG" s!"mGeyaH[g" (by rfl) (by walk_at "lo")}b%mCbyaBSF6_{call_lenA}C;C<H$gb{@zka _ 4 _ _ _ _ _ _ _ _ _ _ _ [2,3] ["letters","numbers"] rfl (@zcY _ _ _ _ _ _ rfl B.range s!"aF6g" (by rfl)) (fun pins cl ex s H=>s!"~aH^aA${xM}/vg") rfl rfl rfl s!"f" s!"f" rfl s!"f" rfl s!"f" nd rfl (Or.inl rfl) (by rfl) (by walk_at "lo") (by intro _;rfl)}b%mCbyamFYyF9gF3",?_⟩
 walk_at "ds";refine zd [some s!"^",none,none,none,none] rfl ?_;left;refine ⟨_,rfl,(fun z=>by cases z),fun _=>?_⟩
 left;walk_at "ite"
 ·rename_i c;left;rename_i L H1 s1 n1 e1;exact q1 [] s!"${⟨c,rfl⟩}" s!"d" L H1 s1 n1 ⟨L,rfl,WordL.nil e1,fun i x y h=>by simp at h,fun p hp=>(List.not_mem_nil hp).elim,by decide⟩
 rename_i cn;left;refine zat s!"f" tz _ rfl s!"By{ok.1}" fun D H1 s1 n1 e1=>?_
 generalize hps:Txt.split t " "=ps at*;left;refine zgR 0 rfl s!"d" s!"B-" fun D2 H2 s2 n2 e2=>?_
 have e2:H2 D2=some s!"u{(s!"Cw".map V.str)}":=by
  rw [List.drop_zero,zci] at e2;exact e2
 left;refine zgR 1 rfl s!"d" s!"As{s2.obj e1}" fun D3 H3 s3 n3 e3=>?_
 have e3:H3 D3=some s!"u{(s!"B,".map V.str)}":=by
  rw [<-List.map_drop,zci] at e3;exact e3
 have s13:=s1.trans s!"Da";have ok3:zbG s!"B,":=by
  refine ⟨Nat.le_trans (zcj _) (by rw [List.length_drop];have:=ok.1;omega),fun w hw=>?_⟩
  obtain ⟨i,hi⟩:=List.getElem?_of_mem hw;rw [xR,List.getElem?_drop] at hi;exact ok.2 w s!"B<{hi}"
 left;refine ⟨_,_,rfl,SqL.of e3,ok3,fun z H4 s4=>q0 (fun ws r=>?_) H4 (s13.trans s4),fun al D4 H4 s4 n4 e4=>?_⟩
 ·rcases r with ⟨r,_⟩ | ⟨_,r,_⟩
  ·exact cn r
  ·rw [hps] at r;rw [r.nums] at z;cases z
 have s14:=s13.trans s4;have e2:=s!"DT".obj e2;have l2:(s!"Cw".map V.str).length=(ps.length+1) / 2:=by rw [List.length_map,zM]
 have l4:((s!"B,".map zo).map V.int).length=ps.length / 2:=by
  rw [List.length_map,List.length_map,zM,List.length_drop];have:1<=ps.length:=by
   cases hz:ps with
   | nil=>
    rw [hz,zaw] at hps;exact absurd hps (yY t 32)
   | cons _ _=>simp
  omega
 left;refine ⟨_,rfl,fun z=>q0 (fun ws r=>?_) H4 s14,fun z=>?_⟩
 ·rw [l2,l4] at z;rcases r with ⟨r,_⟩ | ⟨_,r,_⟩
  ·exact cn r
  ·rw [hps] at r;have:=r.1;exact of_decide_eq_false z s!"c"
 rw [l2,l4] at z;have z:=of_decide_eq_true z;obtain ⟨m,hm⟩:∃m,ps.length=2*m:=⟨ps.length / 2,by omega⟩
 left;refine zi9 [some s!"k{D2}",some s!"k{D4}"] rfl ?_;left;refine zee (fun k=>[.str ((s!"Cw"[k.toNat]?).getD ""),.int (zo ((s!"B,"[k.toNat]?).getD ""))]) (by rw [l2];omega) (fun i k H' Q' hi hk s' hQ=>?_) fun D5 H5 as s5 n5 e5 la T=>?_
 ·rw [l2] at hi;have hk':k=(i:Int):=by omega
  subst hk';obtain ⟨u,hu⟩:∃u,s!"Cw"[i]? =some u:=⟨_,List.getElem?_eq_getElem (by rw [zM];omega)⟩
  obtain ⟨v,hv⟩:∃v,s!"B,"[i]? =some v:=⟨_,List.getElem?_eq_getElem (by rw [zM,List.length_drop];omega)⟩
  have x2:=s'.obj e2;have x4:=s'.obj e4;have a2:atI (s!"Cw".map V.str) (i:Int)=some s!"z{u}":=xg (by rw [List.getElem?_map,hu];rfl)
  have a4:atI ((s!"B,".map zo).map V.int) (i:Int)=some s!"2{zo v}":=xg (by rw [List.getElem?_map,List.getElem?_map,hv];rfl)
  left;refine zfY.Qr s!"As{x2}" a2 ?_;left;refine zfY.Qr s!"As{x4}" a4 ?_;left;rename_i t6 H6 s6 n6 e6;refine hQ t6 H6 s6 ?_;rw [show ((i:Int)).toNat=i from rfl,hu,hv]
  exact e6
 have la:as.length=m:=by rw [la,l2];omega
 have at_:∀(j:Nat) (x:Addr),as[j]? =some x->∃u v,ps[2*j]? =some u/\ps[2*j+1]? =some v/\zh v=true/\H5 x=some s!"6{[.str u,.int (zo v)]}":=fun j x hx=>by
  have hj:=s!"Cu".1;obtain ⟨u,hu⟩:∃u,s!"Cw"[j]? =some u:=⟨_,List.getElem?_eq_getElem (by rw [zM];omega)⟩
  obtain ⟨v,hv⟩:∃v,s!"B,"[j]? =some v:=⟨_,List.getElem?_eq_getElem (by rw [zM,List.length_drop];omega)⟩
  have tx:=T j x hx;rw [show (0+(j:Int)).toNat=j by omega,hu,hv] at tx
  have nv:=List.all_eq_true.mp al v s!"B<{hv}";rw [xR] at hu;rw [xR,List.getElem?_drop,show 1+2*j=2*j+1 by omega] at hv
  exact ⟨u,v,hu,hv,nv,tx⟩
 have kw:KW H5 (.ref D5):=.inr (.inr ⟨D5,_,rfl,e5,by rw [List.length_map];omega,fun x hx=>by
  obtain ⟨y,hy,rfl⟩:=List.mem_map.mp hx;obtain ⟨j,hj⟩:=List.getElem?_of_mem hy;obtain ⟨u,v,_,_,_,ey⟩:=at_ j y hj;exact .inr (.inr ⟨y,_,rfl,ey,fun _ z hz=>by
   simp only [List.mem_cons,List.not_mem_nil,or_false] at hz;rcases hz with rfl | rfl <;> rfl⟩)⟩)
 have s15:=s14.trans s5;left;refine ⟨_,rfl,kw,fun wb H6 s6=>?_,fun wb H6 s6=>?_⟩
 ·left;refine ⟨_,rfl,(fun z=>by cases z),fun _=>?_⟩
  left;obtain ⟨ws,g⟩:=wb;obtain ⟨D',eD,⟨bs,eb,lb,U⟩,alt,pos,lw⟩:=id g;cases eD;rw [e5] at eb;have hab:as=bs:=(List.map_inj_right (f:=V.ref) (fun a b h=>by cases h;rfl)).mp (HO.lst.inj s!"Bb{eb}")
  subst hab;refine q1 ws s!"#{⟨cn,?_,alt⟩}" s!"c" D5 H6 (s15.trans s6) (s14.none n5) (g.same s6)
  rw [hps];refine ⟨by omega,fun i p hp=>?_⟩
  have hi:=s!"H+".1;obtain ⟨x,hx⟩:∃x,as[i]? =some x:=⟨_,List.getElem?_eq_getElem s!"c"⟩
  obtain ⟨u,v,hu,hv,nv,ex⟩:=at_ i x hx;have ex2:=U i x p hx hp;rw [ex] at ex2;obtain ⟨k1,k2⟩:=zml s!"Bb{ex2}";rw [hu,V.str.inj k1];exact ⟨rfl,v,hv,nv,V.int.inj k2,pos p s!"CH"⟩
 ·left;refine ⟨_,rfl,fun _=>q0 (fun ws r=>wb ⟨ws,?_⟩) H6 (s15.trans s6),fun z=>by cases z⟩
  rcases r with ⟨r,_⟩ | ⟨_,r,alt⟩
  ·exact absurd r cn
  rw [hps] at r;have r1:=r.1;refine ⟨D5,rfl,⟨as,e5,by omega,fun i x p hx hp=>?_⟩,alt,fun p hp=>(r.small p hp).1,by omega⟩
  obtain ⟨u,v,hu,hv,nv,ex⟩:=at_ i x hx;obtain ⟨h1,n,h2,h3,h4,h5⟩:=r.2 i p hp;rw [hu] at h1;rw [hv] at h2;cases h1;cases h2;rw [ex,h4]
def zH (t:Str):Bool:=decide (1<=t.length) && decide (t.length<=8) && t.cps.toList.all (fun c=>decide (97<=c) && decide (c<=122))
theorem zmm {c:Nat} (h:c<128):inS ⟨#[c]⟩ "abcdefghijklmnopqrstuvwxyz"=(decide (97<=c) && decide (c<=122)):=by
 have key:s!"A*{128}".all (fun c=>inS ⟨#[c]⟩ "abcdefghijklmnopqrstuvwxyz"==(decide (97<=c) && decide (c<=122)))=true:=by decide+kernel
 have:=List.all_eq_true.mp key c s!"GR";simpa using this
def zfy:Sp:=fun vs H Q _=>∃t:Str,vs=[.str t]/\Asc t/\t.length<=10000/\∀H',Same H H'->Q s!"!{zH t}" H'
theorem zgj (F:Src K mg "is_name" zbc ["piece"]) (B:Blt mg) (C:Cls K mg base) (R:Rel K mg base C) (Kc:Cst K mg):Def P w K mg base s!"p" 1 "is_name" ["piece"] zfy:=by
 refine F.ok (CX:=CXE P w) (k:=0) zcv s!"t" s!"w"
 ·obtain ⟨_,rfl,_⟩:=h;rfl
 have nd:=zcv.nd;obtain ⟨t,rfl,ta,tl,q⟩:=h;have tz:t.length<=sizeLine:=Nat.le_trans tl s!"d"
 have ta':t.cps.all (·<128)=true:=ta
 refine ⟨_,s!"exB?{@zir _ _ _ _ _ _ _ _ _ _ _ _ ziH ziH pe_int s!"_EyC;C<Ay" s!"Ak2{8}{Kc.MOST_LETTERS.choose_spec}{⟨_,rfl⟩}" (by with_unfolding_all rfl)}C%_CvBYBZaBw{@pi_str _ _ _ _ s!"v"}{fun pins cl ex s H=>s!"C#{zjH}vAkz{"abcdefghijklmnopqrstuvwxyz"}{Kc.LETTERS.choose_spec}{⟨_,rfl⟩}&"}g",?_⟩
 walk_at "ds";refine zd [some s!"^"] rfl ?_;left;walk_at "ite"
 rotate_left
 ·rename_i c1;left;have z:=q _ s!"@";rw [show zH t=false by unfold zH;rw [decide_eq_false (show ¬1<=t.length by omega)];rfl] at z
  exact z
 rename_i c1;left;walk_at "ite"
 rotate_left
 ·rename_i c2;left;have z:=q _ s!"@";rw [show zH t=false by unfold zH;rw [decide_eq_false (show ¬t.length<=8 by omega),Bool.and_false];rfl] at z
  exact z
 rename_i c2;left;refine zdk (fun c=>.bl (decide (97<=c) && decide (c<=122))) ta (by show t.length<=1000;omega) (fun i c H' Q' hc s' hQ=>?_) fun D H2 s2 n2 e2=>?_
 ·left;rw [zmm (Asc.at ta hc)];exact hQ _ s!"@"
 left;refine ⟨D,t.cps.toList.map (fun c=>decide (97<=c) && decide (c<=122)),rfl,SqL.of (by rw [List.map_map];exact e2),?_⟩
 have z:=q _ s2;rw [show zH t=(t.cps.toList.map (fun c=>decide (97<=c) && decide (c<=122))).all id by
  unfold zH;rw [decide_eq_true (show 1<=t.length by omega),decide_eq_true (show t.length<=8 by omega),List.all_map]
  rfl] at z
 exact z
def fit (k p:Str):Bool:=if k="NUMBER" then zh p else if k="NAME"\/k="KNOWN" then zH p else decide (p=k)
def znn:Sp:=fun vs H Q _=>∃k p:Str,vs=[.str k,.str p]/\Asc p/\p.length<=10000/\∀H',Same H H'->Q s!"!{fit k p}" H'
theorem zcT (F:Src K mg "piece_fits" xn ["kind","piece"]) (B:Blt mg) (C:Cls K mg base) (R:Rel K mg base C) (Kc:Cst K mg) (D_is_number:s!"l{1}{"is_number"}{["text"]}{zew}") (D_is_name:s!"l{1}{"is_name"}{["piece"]}{zfy}"):Def P w K mg base s!"p" 2 "piece_fits" ["kind","piece"] znn:=by
 refine F.ok (CX:=CXE P w) (k:=1) wN s!"t" s!"w"
 ·obtain ⟨_,_,rfl,_⟩:=h;rfl
 have nd:=wN.nd;obtain ⟨k,p,rfl,pa,pl,q⟩:=h;refine ⟨_,s!"b8BuexmGcAcAqb8Dvv~B*exm{D_is_name}AcAqexBS9v",?_⟩
 walk_at "ds";refine zd [some s!"z{k}",some s!"z{p}"] rfl ?_;left;walk_at "ite"
 ·rename_i c;left;refine ⟨_,rfl,pa,pl,fun H1 s1=>?_⟩
  have:=q H1 s1;rw [show fit k p=zh p from if_pos c] at this
  exact this
 rename_i c;left;rename_i T H1 s1 nT eT;refine zB ["NAME","KNOWN"] (SqT.of eT) ?_
 by_cases c2:k="NAME"\/k="KNOWN"
 ·rw [decide_eq_true (show k∈([Str.ofString "NAME",Str.ofString "KNOWN"]:List Str) by simp [c2])]
  left;refine ⟨_,rfl,pa,pl,fun H2 s2=>?_⟩
  have:=q H2 s!"A!";rw [show fit k p=zH p by unfold fit;rw [if_neg c,if_pos c2]] at this
  exact this
 ·rw [decide_eq_false (show ¬k∈([Str.ofString "NAME",Str.ofString "KNOWN"]:List Str) by simpa using c2)]
  left;have:=q H1 s1;rw [show fit k p=decide (p=k) by unfold fit;rw [if_neg c,if_neg c2]] at this
  exact this
def yg (fs ps:List Str):Bool:=decide (ps.length=fs.length) && s!"F%".all id
def zno (K:PySem.W.Frag):Sp:=fun vs H Q _=>∃(l a:Addr) (ps fs:List Str),vs=[.ref l,.ref a]/\SqL K H l s!"A5"/\SqT K H a s!"Dl"/\zbG ps/\∀H',Same H H'->Q s!"!{yg fs ps}" H'
theorem zfz (F:Src K mg "has_form" zad ["pieces","form"]) (B:Blt mg) (C:Cls K mg base) (R:Rel K mg base C) (Kc:Cst K mg) (D_piece_fits:s!"l{2}{"piece_fits"}{["kind","piece"]}{znn}"):Def P w K mg base s!"p" 3 "has_form" ["pieces","form"] (zno K):=by
 refine F.ok (CX:=CXE P w) (k:=2) zbE s!"t" s!"w"
 ·obtain ⟨_,_,_,_,rfl,_⟩:=h;rfl
 have nd:=zbE.nd;obtain ⟨l,a,ps,fs,rfl,hl,ha,ok,q⟩:=h;refine ⟨_,s!"exB?BSBNF#C%_CvBYBZa{@zgc _ _ _ _ _ _ _ _ _ _ _ ["kind","piece"] rfl (zgW rfl B.zip s!"a9Ay") (fun pins cl ex s H=>(@zlO _ _ _ _ _ _ _ _ _ _ _ _ 2 _ (by rfl) s!"Ep{@pg_name _ _ 0 _ (by exact (show (["kind","piece"]:List Str).Nodup from by decide+kernel)) (by rfl) (by exact Or.inl rfl) (by walk_at "lo")}Ep{@pg_name _ _ 1 _ (by exact (show (["kind","piece"]:List Str).Nodup from by decide+kernel)) (by rfl) (by exact Or.inl rfl) (by walk_at "lo")}{zgv}" (by rfl) (by rfl))) (fun pins cl ex s H=>s!"m{D_piece_fits}{zca}Cs") s!"f" s!"f" rfl s!"f" (by intro _;rfl)}g",?_⟩
 walk_at "ds";refine zd [some s!"Ab",some s!"h"] rfl ?_;have l1:s!"A5".length=ps.length:=List.length_map _;have l2:s!"Dl".length=fs.length:=List.length_map _;left;walk_at "ite"
 rotate_left
 ·rename_i c;left;have z:=q _ s!"@";rw [show yg fs ps=false by unfold yg;rw [decide_eq_false s!"c"];rfl] at z
  exact z
 rename_i c;have ok1:=ok.1;left;try refine zd5.Qa ?_
 left;refine zfi ha hl ?_;refine zf9 (fun x y=>match x,y with | .str k,.str p=>.bl (fit k p) | _,_=>.non) ha hl s!"c" s!"c" (fun i x y H' R hx hy s' hR=>?_) fun D H2 s2 n2 e2=>?_
 ·rw [List.getElem?_map] at hx hy;obtain ⟨k,hk,rfl⟩:=Option.map_eq_some_iff.mp hx;obtain ⟨p,hp,rfl⟩:=Option.map_eq_some_iff.mp hy;obtain ⟨a1,a2⟩:=ok.2 p s!"CH";left;exact ⟨_,_,rfl,a1,a2,hR⟩
 left;have ez:List.zipWith (fun x y=>match x,y with | V.str k,V.str p=>V.bl (fit k p) | _,_=>V.non) s!"Dl" s!"A5"=s!"F%".map V.bl:=by
  rw [List.map_zipWith,List.zipWith_map]
 refine ⟨D,List.zipWith fit fs ps,rfl,SqL.of (by rw [<-ez];exact e2),?_⟩
 have z:=q _ s2;rw [show yg fs ps=s!"F%".all id by unfold yg;rw [decide_eq_true s!"c"];rfl] at z
 exact z
theorem zfA (xs:List V) (i:Nat):wE xs none s!"n{(i:Int)}"=xs.take i:=by
 have e:HT.sIx xs.length xs.length s!"n{(i:Int)}"=min i xs.length:=by unfold HT.sIx;simp only [];rw [if_neg s!"c"];omega
 unfold wE;rw [e];simp only [HT.sIx,List.drop_zero,Nat.sub_zero];rw [<-List.take_eq_take_min]
theorem zcA (xs:List V) (i:Nat):wE xs s!"n{(i:Int)}" none=xs.drop i:=by
 have e:HT.sIx xs.length 0 s!"n{(i:Int)}"=min i xs.length:=by unfold HT.sIx;simp only [];rw [if_neg s!"c"];omega
 unfold wE;rw [e];simp only [HT.sIx];rw [List.take_of_length_le (by rw [List.length_drop];omega)]
 rcases Nat.le_total i xs.length with h | h
 ·rw [Nat.min_eq_left h]
 ·rw [Nat.min_eq_right h,List.drop_of_length_le s!"+",List.drop_of_length_le h]
theorem zdH (ps:List Str):wE s!"A5" s!"BJ" none=s!"Cx".map V.str:=by
 have e:=zcA s!"A5" 2;rw [<-List.map_drop] at e;exact e
def zaQ (ps:List Str):Str:=Txt.join " " s!"Cx"
def zkl (K:PySem.W.Frag) (cL:Addr):Sp:=fun vs H Q E=>∃(l:Addr) (ps:List Str),vs=[.ref l]/\SqL K H l s!"A5"/\zbG ps/\Tx s!"AY"/\(∀ws,RW s!"AY" ws->ws.length<=460->∀D H',Same H H'->H D=none->xF H' s!";" ws->Q s!";" H')/\((∀ws,¬RW s!"AY" ws)->∀H',Same H H'->E s!"k{cL}" s!"DL" H')
theorem zcB (F:Src K mg "word_behind" yT ["pieces"]) (B:Blt mg) (C:Cls K mg base) (R:Rel K mg base C) (Kc:Cst K mg) (D_read_word:s!"l{4}{"read_word"}{["text"]}H)"):Def P w K mg base s!"p" 5 "word_behind" ["pieces"] (zkl K C.NoLine.addr):=by
 refine F.okX (CX:=CXE P w) (k:=4) wf s!"t" s!"w"
 ·obtain ⟨_,_,rfl,_⟩:=h;rfl
 have nd:=wf.nd;obtain ⟨l,ps,rfl,hl,ok,tx,q1,q0⟩:=h;have ok1:=ok.1;refine ⟨_,s!"e{@zi1 _ _ _ _ _ _ _ rfl rfl (fun pins W=>s!"exm{D_read_word}{zc8}a{@zoD _ _ _ _ _ _ _ _ _ _ _ _ _ _ PySem.F.plainAttrs_str PySem.F.slot_str_join PySem.F.type_str_join zj8 pe_str s!"aBT{zqh}vDXCag" rfl rfl rfl rfl rfl}g") (zf5 rfl C.NoText.gl C.NoText.cat (C.NoLine).own PySem.F.excBase_ValueError rfl zjV)}",?_⟩
 walk_at "ds";refine zd [some s!"Ab"] rfl ?_;left;refine zi3 (fun cls dx σ' H'=>Same H H'/\σ'=[some s!"Ab"]/\cls=.ref C.NoText.addr/\dx=none/\∀ws,¬RW s!"AY" ws) ?_ ?_
 ·left;rename_i D1 H1 s1 n1 e1;rw [zdH] at e1;refine xN s!"Cx" s!"B-" (zav (k:=10000) s!"f" (by rw [List.length_drop];omega) (fun w hw=>(ok.2 w (List.mem_of_mem_drop hw)).2) s!"+") ?_
  left;refine ⟨_,rfl,tx,fun ws r lw D H2 s2 n2 g=>?_,fun n H2 s2=>⟨s1.trans s2,rfl,rfl,rfl,n⟩⟩
  left;exact q1 ws r lw D H2 s!"A!" (s1.none n2) g
 ·rintro cls dx ad σ' H' ⟨s',rfl,rfl,rfl,n⟩;exact zqf R.r_NoText_NoText (q0 n H' s')
def zag:List s!"Df":=[[Str.ofString "table",Str.ofString "NAME",Str.ofString "NUMBER",Str.ofString "NUMBER",Str.ofString "NUMBER",Str.ofString "NUMBER"],[Str.ofString "let",Str.ofString "NAME",Str.ofString "together",Str.ofString "KNOWN",Str.ofString "KNOWN"],[Str.ofString "let",Str.ofString "NAME",Str.ofString "back",Str.ofString "KNOWN"],[Str.ofString "drop",Str.ofString "KNOWN"],[Str.ofString "undo"],[Str.ofString "redo"],[Str.ofString "names"],[Str.ofString "show",Str.ofString "KNOWN"],[Str.ofString "number",Str.ofString "KNOWN"],[Str.ofString "steady",Str.ofString "KNOWN"],[Str.ofString "spell",Str.ofString "KNOWN"],[Str.ofString "sign",Str.ofString "NUMBER",Str.ofString "NUMBER"],[Str.ofString "teeth",Str.ofString "NUMBER",Str.ofString "NUMBER"],[Str.ofString "twelve",Str.ofString "NUMBER",Str.ofString "NUMBER"],[Str.ofString "points",Str.ofString "NUMBER",Str.ofString "NUMBER"],[Str.ofString "shuffle",Str.ofString "NUMBER",Str.ofString "NUMBER"],[Str.ofString "parts",Str.ofString "NUMBER",Str.ofString "NUMBER",Str.ofString "NUMBER",Str.ofString "NUMBER"]]
def xG:List Str:=[Str.ofString "word",Str.ofString "NAME"]
def zj (ps:List Str) (f:List Str):Prop:=(yg xG s!"A`"=true/\f=xG/\∃ws,RW s!"AY" ws)\/(yg xG s!"A`"=false/\zag.find? (fun f=>yg f ps)=some f)
theorem zh9 (ps:List Str):wE s!"A5" none s!"BJ"=s!"A`".map V.str:=by
 have e:=zfA s!"A5" 2;rw [<-List.map_take] at e;exact e
theorem FormK.get {as:List Addr} {fs:List s!"Df"} (h:FormK K as fs):as.length=fs.length/\∀(i:Nat) (a:Addr),as[i]? =some a->∃f,fs[i]? =some f/\∀H,SqT K H a s!"Fx":=by
 induction h with
 | nil=>exact ⟨rfl,fun i a h=>by simp at h⟩
 | cons h r ih=>
  refine ⟨by simp [ih.1],fun i a hi=>?_⟩
  cases i with
  | zero=>
   cases hi;exact ⟨_,rfl,h⟩
  | succ j=>exact ih.2 j a hi
theorem zg3 {α:Type} {p:α->Bool}:∀{l:List α} {i:Nat} {f:α},(∀j,j<i->∀g,l[j]? =some g->p g=false)->l[i]? =some f->p f=true->l.find? p=some f
 | [],i,f,_,h,_=>by simp at h
 | x::l,0,f,_,h,hp=>by
  cases h;rw [List.find?_cons,hp]
 | x::l,i+1,f,hb,h,hp=>by
  rw [List.find?_cons,hb 0 s!"c" x rfl]
  exact zg3 (fun j hj g hg=>hb (j+1) s!"c" g hg) h hp
def zkm (K:PySem.W.Frag) (cL:Addr):Sp:=fun vs H Q E=>∃(l:Addr) (ps:List Str),vs=[.ref l]/\SqL K H l s!"A5"/\zbG ps/\Tx s!"AY"/\(∀f,zj ps f->∀a H',Same H H'->(∀H,SqT K H a s!"Fx")->Q s!"h" H')/\((∀f,¬zj ps f)->∀dx H',(dx=none\/dx=some mainGlobals)->Same H H'->E s!"k{cL}" dx H')
theorem zgk (F:Src K mg "form_of" zbd ["pieces"]) (B:Blt mg) (C:Cls K mg base) (R:Rel K mg base C) (Kc:Cst K mg) (D_has_form:s!"l{3}{"has_form"}{["pieces","form"]}{zno K}") (D_word_behind:s!"l{5}{"word_behind"}{["pieces"]}Gf"):Def P w K mg base s!"p" 6 "form_of" ["pieces"] s!"H]":=by
 refine F.okX (CX:=CXE P w) (k:=5) zcw s!"t" s!"w"
 ·obtain ⟨_,_,rfl,_⟩:=h;rfl
 have nd:=zcw.nd;obtain ⟨l,ps,rfl,hl,ok,tx,q1,q0⟩:=h;obtain ⟨tWORD_FORM,mWORD_FORM,kW⟩:=Kc.WORD_FORM;obtain ⟨tFORMS,asF,mFORMS,kF,kFs⟩:=Kc.FORMS;obtain ⟨lF,gF⟩:=kFs.get;have ok1:=ok.1;have okT:zbG s!"A`":=⟨by rw [List.length_take];omega,fun w hw=>ok.2 w s!"HA"⟩
 refine ⟨_,s!"b8AumGgyaBTC=vCaDXaHBgb%mGhyAyexHBbB=D6C9Akk{tFORMS}{mFORMS}&HCe8AumGgyCsex9eBv{(C.NoLine).own}",?_⟩
 walk_at "ds";refine zd [some s!"Ab",none] rfl ?_;left;rename_i D1 H1 s1 n1 e1;rw [zh9] at e1;refine ⟨_,_,_,_,rfl,SqL.of e1,kW _,okT,fun H2 s2=>?_⟩
 have s12:=s1.trans s2;cases hf:yg xG s!"A`"
 ·rw [show yg [Str.ofString "word",Str.ofString "NAME"] s!"A`"=false from hf]
  left;refine zp4.Qb (kF _) ?_;refine zgw (xs:=asF.map V.ref) (fun i σ H'=>Same H2 H'/\(∃z:Option V,σ=[some s!"Ab",z])/\∀j,j<i->∀f,zag[j]? =some f->yg f ps=false) ⟨Same.refl _,⟨_,rfl⟩,fun j hj=>by omega⟩ (fun i σ H' _ _=>kF H') ?_ ?_
  ·rintro i x σ H3 hx ⟨s3,⟨z,rfl⟩,hb⟩;rw [List.getElem?_map] at hx;obtain ⟨a,ha,rfl⟩:=Option.map_eq_some_iff.mp hx;obtain ⟨f,hfi,kf⟩:=gF i a ha;have hfi:zag[i]? =some f:=hfi;left;refine ⟨_,_,_,_,rfl,s!"Dm".seq hl,kf _,ok,fun H4 s4=>?_⟩
   cases hff:yg f ps
   ·left;refine ⟨s3.trans s4,⟨_,rfl⟩,fun j hj g hg=>?_⟩
    rcases Nat.lt_or_ge j i with z | z
    ·exact hb j z g hg
    ·rw [show j=i by omega,hfi] at hg
     cases hg;exact hff
   ·left;exact q1 f s!"#{⟨hf,zg3 hb hfi hff⟩}" a H4 (s12.trans s!"DT") kf
  ·rintro σ H3 ⟨s3,⟨z,rfl⟩,hb⟩;left;refine q0 (fun f hF=>?_) none H3 s!"[" s!"Dm"
   rcases hF with ⟨h,_⟩ | ⟨_,h⟩
   ·rw [hf] at h;cases h
   ·have hm:=List.mem_of_find?_eq_some h;have hp:yg f ps=true:=List.find?_some (p:=fun f=>yg f ps) h
    obtain ⟨j,hj⟩:=List.getElem?_of_mem hm;have hjl:=s!"HD".1;rw [hb j (by rw [List.length_map,lF];exact hjl) f hj] at hp
    cases hp
 ·rw [show yg [Str.ofString "word",Str.ofString "NAME"] s!"A`"=true from hf]
  left;refine ⟨_,_,rfl,s12.seq hl,ok,tx,fun ws r _ D H3 s3 _ _=>?_,fun n H3 s3=>q0 (fun f hF=>?_) _ H3 s!"#&" s!"Dm"⟩
  ·left;exact q1 xG s!"${⟨hf,rfl,ws,r⟩}" _ H3 s!"Dm" kW
  ·rcases hF with ⟨_,_,ws,r⟩ | ⟨h,_⟩
   ·exact n ws r
   ·rw [hf] at h;cases h
abbrev Tb:=Int×Int×Int×Int
def zaR (H:Hp) (t:Addr) (x:Tb):Prop:=Tab H t x.1 x.2.1 x.2.2.1 x.2.2.2
def xH (x:Tb):Prop:=x.1.natAbs<10^60/\x.2.1.natAbs<10^60/\x.2.2.1.natAbs<10^60/\x.2.2.2.natAbs<10^60
def wQ (x:Tb):Prop:=x.1*x.2.2.2-x.2.1*x.2.2.1=1/\xH x
def zg4 (cT:Addr):Sp:=fun vs H Q E=>∃(t:Addr) (x:Tb),vs=[.ref t]/\zaR H t x/\(xH x->∀H',Same H H'->Q .non H')/\(¬xH x->∀H',Same H H'->E s!"DQ" none H')
theorem zdI:xH x↔∀n∈[x.1,x.2.1,x.2.2.1,x.2.2.2],n.natAbs<10^60:=by
 simp only [List.mem_cons,List.not_mem_nil,or_false,forall_eq_or_imp,forall_eq];exact Iff.rfl
theorem wt (F:Src K mg "need_short_places" zP ["table"]) (B:Blt mg) (C:Cls K mg base) (R:Rel K mg base C) (Kc:Cst K mg) (D_need_to:s!"l{1}{"need_to"}{["most","number"]}H2"):Def P w K mg base s!"p" 2 "need_short_places" ["table"] s!"HE":=by
 refine F.okX (CX:=CXE P w) (k:=1) yk s!"t" s!"w"
 ·obtain ⟨_,_,rfl,_⟩:=h;rfl
 have nd:=yk.nd;obtain ⟨t,⟨a,b,c,d⟩,rfl,⟨r,s',e1,e2,e3⟩,q1,q0⟩:=h;dsimp only at e2 e3;refine ⟨_,s!"eB=D6C9i{zd6}A3A3HCe%m{D_need_to}yaiB5{@zd0 _ _ 60 _ _ _ _ _ s!"d" s!"d"}5aH3g",?_⟩
 walk_at "ds";refine zd [some s!"'",none] rfl ?_;left;refine zgJ e2 e3 (show 2+2<=1000 by decide) fun u H1 s1 eu=>?_
 left;refine zgw (xs:=[a,b,c,d].map V.int) (fun i σ H'=>H'=H1/\(∃z:Option V,σ=[some s!"'",z])/\∀j,j<i->∀n,[a,b,c,d][j]? =some n->n.natAbs<10^60) ⟨rfl,⟨_,rfl⟩,fun j hj=>by omega⟩ (fun i σ H' _ h=>by rw [h.1];exact SqT.of eu) ?_ ?_
 ·rintro i x σ H3 hx ⟨rfl,⟨z,rfl⟩,hb⟩;rw [List.getElem?_map] at hx;obtain ⟨n,hn,rfl⟩:=Option.map_eq_some_iff.mp hx;left;rename_i j hj;refine ⟨_,_,rfl,.inr s!"HF",fun h=>q0 (fun S=>?_) _ s1,fun h=>?_⟩
  ·have:=zdI.mp S n s!"B<{hn}";omega
  left;refine ⟨rfl,⟨_,rfl⟩,fun k hk m hm=>?_⟩
  rcases Nat.lt_or_ge k i with z | z
  ·exact hb k z m hm
  ·rw [show k=i by omega,hn] at hm
   cases hm;omega
 ·rintro σ H3 ⟨rfl,⟨z,rfl⟩,hb⟩;left;refine q1 (zdI.mpr fun n hn=>?_) _ s1
  obtain ⟨j,hj⟩:=List.getElem?_of_mem hn;exact hb j (by have:=s!"HD".1;exact this) n hj
def zfB (cW:Addr) (ask:Str) (x:Tb) (H:Hp) (Q:VK) (E:XK):Prop:=ask=Str.ofString "show"/\(∀H',Same H H'->Q s!"z{zhU x.1 x.2.1 x.2.2.1 x.2.2.2}" H')/\cW=cW/\(∀v H',E v none H'->E v none H')
theorem zfB.same (h:zfB cW ask x H Q E) (s:Same H H1):zfB cW ask x H1 Q E:=⟨h.1,fun H' s'=>h.2.1 H' s!"F&",rfl,fun _ _ e=>e⟩
theorem zfB.mono (hq:∀v H',Q v H'->Q' v H') (_:∀c d H',E c d H'->E' c d H') (h:zfB cW ask x H Q E):zfB cW ask x H Q' E':=⟨h.1,fun H' s'=>hq _ _ (h.2.1 H' s'),rfl,fun _ _ e=>e⟩
def zdJ:List Str:=[Str.ofString "show",Str.ofString "number",Str.ofString "steady",Str.ofString "spell"]
def zg5 (cW:Addr):Sp:=fun vs H Q E=>∃(ask:Str) (t:Addr) (x:Tb),vs=[.str ask,.ref t]/\ask∈zdJ/\zaR H t x/\wQ x/\zfB cW ask x H Q E
theorem yp (h:n.natAbs<10^60):n.natAbs<10^190:=Nat.lt_trans h s!"d"
theorem upS {k:Nat} (h:n.natAbs<10^k) (hk:k<=570):wI n:=Nat.lt_of_lt_of_le h s!"FB{hk}"
theorem zbf (F:Src K mg "told_of_table" ym ["ask","table"]) (B:Blt mg) (C:Cls K mg base) (R:Rel K mg base C) (Kc:Cst K mg) (D_shown_table:s!"l{5}{"shown_table"}{["table"]}{zkk}") (D_number_of:s!"l{1}{"number_of"}{["table"]}{xh}") (D_steady_of:s!"l{1}{"steady_of"}{["table"]}{xh}") (D_shown_word:s!"l{1}{"shown_word"}{["word"]}{xh}") (D_word_of:s!"l{1}{"word_of"}{["table"]}{xh}"):Def P w K mg base s!"p" 6 "told_of_table" ["ask","table"] s!"HG":=by
 refine F.okX (CX:=CXE P w) (k:=5) y8 s!"t" s!"w"
 ·obtain ⟨_,_,_,rfl,_⟩:=h;rfl
 have nd:=y8.nd;obtain ⟨ask,t,⟨a,b,c,d⟩,rfl,ha,T,⟨det,b1,b2,b3,b4⟩,rfl,q,_⟩:=h;dsimp only at det b1 b2 b3 b4 q;have T:Tab H t a b c d:=T;refine ⟨_,s!"b8BuexmGiyAqb8BuexBaam{D_number_of}yAqgb8BuexBaam{D_steady_of}yAqgexm{D_shown_word}yam{D_word_of}yAqg",?_⟩
 walk_at "ds";refine zd [some s!"z:{"show"}",some s!"'"] rfl ?_;left;walk_at "ite"
 rotate_left
 ·exact absurd rfl (by assumption)
 left;exact ⟨_,_,_,_,_,rfl,T,det,yp b1,yp b2,yp b3,yp b4,fun H1 s1=>q H1 s1⟩
inductive NAsk:Str->List Int->Prop where
 | sign {p:Int} (h:p.natAbs<=500):NAsk s!":{"sign"}" [p,15]
 | teeth {p:Int}:NAsk s!":{"teeth"}" [p,7]
 | twelve {p:Int} (h:p<=500):NAsk s!":{"twelve"}" [5,p]
 | points {p:Int} (h:p.natAbs<=500):NAsk s!":{"points"}" [p,9]
 | shuffle {p:Int}:NAsk s!":{"shuffle"}" [p,10]
 | parts {p:Int} (h:p.natAbs<=500):NAsk s!":{"parts"}" [5,3,p,-7]
def zfC (cN cO cA:Addr) (ask:Str) (ns:List Int) (H:Hp) (Q:VK) (E:XK):Prop:=NAsk ask ns/\(∀t H',Same H H'->Q s!"^" H')/\∀c H',c=cN\/c=cO\/c=cA->Same H H'->E s!"Af" none H'
theorem zfC.same {cN cO cA:Addr} (h:zfC cN cO cA ask ns H Q E) (s:Same H H1):zfC cN cO cA ask ns H1 Q E:=⟨h.1,fun t H' s'=>h.2.1 t H' s!"F&",fun c H' z s'=>h.2.2 c H' z s!"F&"⟩
theorem zfC.mono {cN cO cA:Addr} (hq:∀v H',Q v H'->Q' v H') (he:∀c d H',E c d H'->E' c d H') (h:zfC cN cO cA ask ns H Q E):zfC cN cO cA ask ns H Q' E':=⟨h.1,fun t H' s'=>hq _ _ (h.2.1 t H' s'),fun c H' z s'=>he _ _ _ (h.2.2 c H' z s')⟩
def zg6 (K:PySem.W.Frag) (cN cO cA:Addr):Sp:=fun vs H Q E=>∃(ask:Str) (l:Addr) (ns:List Int),vs=[.str ask,.ref l]/\SqL K H l s!"Ai"/\(∀n∈ns,n.natAbs<10^60)/\((ask=Str.ofString "parts"/\ns.length=4)\/(ask∈[Str.ofString "sign",Str.ofString "teeth",Str.ofString "twelve",Str.ofString "points",Str.ofString "shuffle"]/\ns.length=2))/\zfC cN cO cA ask ns H Q E
theorem zah (F:Src K mg "told_of_numbers" zZ ["ask","numbers"]) (B:Blt mg) (C:Cls K mg base) (R:Rel K mg base C) (Kc:Cst K mg) (D_whole_sum:s!"l{3}{"whole_sum"}{["n","m","a","b"]}FT") (D_exchanged:s!"l{4}{"exchanged"}{["a","m"]}FR") (D_tooth_sum:s!"l{5}{"tooth_sum"}{["a","m"]}H<") (D_shown_fraction:s!"l{1}{"shown_fraction"}{["x"]}{znk}") (D_twelve:s!"l{4}{"twelve"}{["a","m"]}FV") (D_points_under:s!"l{4}{"points_under"}{["a","m"]}H%") (D_shuffle_sign:s!"l{5}{"shuffle_sign"}{["a","m"]}H7"):Def P w K mg base s!"p" 6 "told_of_numbers" ["ask","numbers"] s!"HH":=by
 refine F.okX (CX:=CXE P w) (k:=5) yE s!"t" s!"w"
 ·obtain ⟨_,_,_,rfl,_⟩:=h;rfl
 have nd:=yE.nd;obtain ⟨ask,l,ns,rfl,hl,_,_,na,q,qe⟩:=h;have sm:∀{v:Int} {k:Nat},v.natAbs<10^k->k<=570->v.natAbs.log2<1920:=fun h hk=>(upS h hk).log
 refine ⟨_,s!"b8BuexBaamFUyaA4aA4aA4aA4ggbj{2}A4bj{3}A4b8BuexBaamFSyDigb8Buexm{D_shown_fraction}yam{D_tooth_sum}yDigb8BuexBaamFWyDigb8BuexBaam{D_points_under}yDigexBaam{D_shuffle_sign}yDig",?_⟩
 walk_at "ds";refine zd [some s!"z{ask}",some s!"Ab",none,none] rfl ?_;cases na with
 | @parts p hp=>
  left;walk_at "ite"
  rotate_left
  ·exact absurd rfl (by assumption)
  left;refine ⟨_,_,_,_,rfl,by decide,by decide,by decide,by decide,hp,by decide,fun v H1 s1 hv=>?_⟩
  have lg:=sm hv s!"d"
  left;exact q _ H1 s1
 | @sign p hp=>
  left;walk_at "ite"
  ·rename_i e;exact absurd e s!"f"
  left;walk_at "ite"
  rotate_left
  ·exact absurd rfl (by assumption)
  left;refine ⟨p,rfl,hp,fun v H1 s1 hv=>?_⟩
  have lg:=sm (k:=1) (show v.natAbs<10^1 by omega) s!"d"
  left;exact q _ H1 s1
 | @teeth p=>
  left;walk_at "ite"
  ·rename_i e;exact absurd e s!"f"
  left;walk_at "ite"
  ·rename_i e;exact absurd e s!"f"
  left;walk_at "ite"
  rotate_left
  ·exact absurd rfl (by assumption)
  left;refine ⟨p,rfl,fun r H1 x y s1 e1 hx hy=>?_⟩
  left;exact ⟨_,_,_,rfl,e1,(upS hx s!"d"),(upS hy s!"d"),q _ H1 s1⟩
 | @twelve p hp=>
  left;walk_at "ite"
  ·rename_i e;exact absurd e s!"f"
  left;walk_at "ite"
  ·rename_i e;exact absurd e s!"f"
  left;walk_at "ite"
  ·rename_i e;exact absurd e s!"f"
  left;walk_at "ite"
  rotate_left
  ·exact absurd rfl (by assumption)
  left;refine ⟨5,p,rfl,by omega,.inr ⟨by decide,by decide⟩,fun _=>qe _ _ s!"[" s!"@",fun v H1 s1 hv=>?_⟩
  have lg:=sm hv s!"d"
  left;exact q _ H1 s1
 | @points p hp=>
  left;walk_at "ite"
  ·rename_i e;exact absurd e s!"f"
  left;walk_at "ite"
  ·rename_i e;exact absurd e s!"f"
  left;walk_at "ite"
  ·rename_i e;exact absurd e s!"f"
  left;walk_at "ite"
  ·rename_i e;exact absurd e s!"f"
  left;walk_at "ite"
  rotate_left
  ·exact absurd rfl (by assumption)
  left;refine ⟨p,rfl,hp,fun v H1 s1 hv=>?_⟩
  have lg:=sm hv s!"d"
  left;exact q _ H1 s1
 | @shuffle p=>
  left;walk_at "ite"
  ·rename_i e;exact absurd e s!"f"
  left;walk_at "ite"
  ·rename_i e;exact absurd e s!"f"
  left;walk_at "ite"
  ·rename_i e;exact absurd e s!"f"
  left;walk_at "ite"
  ·rename_i e;exact absurd e s!"f"
  left;walk_at "ite"
  ·rename_i e;exact absurd e s!"f"
  left;refine ⟨p,rfl,qe _ _ s!"HF" s!"@",?_⟩;have lg:=sm (v:=1) (k:=1) s!"d" s!"d"
  left;exact q _ H s!"@"
abbrev wG:=Str×Option Tb×Option Tb
structure DSt where
 f:Str->Option Tb
 dn:List wG
 bk:List wG
def zu (f:Str->Option Tb) (n:Str) (o:Option Tb):Str->Option Tb:=fun m=>if m=n then o else f m
def zbQ (H:Hp) (v:V):Option Tb->Prop
 | none=>v=.non
 | some x=>∃t,v=.ref t/\zaR H t x
structure KvOk (H:Hp) (kvs:List (Key×V)) (f:Str->Option Tb):Prop where
 nd:(kvs.map (·.1)).Nodup
 txt:∀k∈kvs.map (·.1),∃n,k=Sum.inr n
 vals:∀n x,f n=some x->∃t,zE kvs s!"Dn"=some s!"'"/\zaR H t x
 no:∀n,f n=none->zE kvs s!"Dn"=none
def zC (H:Hp) (ds:List Addr) (dn:List wG):Prop:=ds.length=dn.length/\∀(i:Nat) (x:Addr) (d:wG),ds[i]? =some x->dn[i]? =some d->∃v w,H x=some s!"6{[.str d.1,v,w]}"/\zbQ H v d.2.1/\zbQ H w d.2.2
def zgl:(Str->Option Tb)->List wG->Prop
 | f,[]=>f=fun _=>none
 | f,(n,a,b)::r=>f n=b/\zgl (zu f n a) r
def Fut:(Str->Option Tb)->List wG->Prop
 | _,[]=>True
 | f,(n,a,b)::r=>f n=a/\Fut (zu f n b) r
structure Fine (st:DSt):Prop where
 tabs:∀n x,st.f n=some x->wQ x
 dds:∀d∈st.dn++st.bk,(∀x,d.2.1=some x->wQ x)/\(∀x,d.2.2=some x->wQ x)/\¬(d.2.1=none/\d.2.2=none)/\d.1.length<=8
 hist:zgl st.f st.dn.reverse
 fut:Fut st.f st.bk.reverse
 few:st.dn.length+st.bk.length<=60
structure DeskAt (CD:Addr) (H:Hp) (a T L B:Addr) (st:DSt):Prop where
 ins:∃dx,H a=some s!"A,{CD}{[("tables",.ref T),("done",.ref L),("taken_back",.ref B)]}"
 dict:∃kvs,H T=some s!"<"/\KvOk H kvs st.f
 done:∃ds,H L=some s!"DZ"/\zC H ds st.dn
 back:∃ds,H B=some s!"DZ"/\zC H ds st.bk
 ne:L≠B
theorem KvOk.move (k:KvOk H kvs f) (m:∀t x,zaR H t x->zaR H' t x):KvOk H' kvs f:=⟨k.nd,k.txt,fun n x h=>by
 obtain ⟨t,e,T⟩:=k.vals n x h;exact ⟨t,e,m t x T⟩,k.no⟩
theorem KvOk.names (k:KvOk H kvs f):∃ns:List Str,kvs.map Prod.fst=ns.map Sum.inr/\ns.Nodup/\∀n,n∈ns↔f n≠none:=by
 have key:∀l:List Key,(∀x∈l,∃n,x=Sum.inr n)->∃ns:List Str,l=ns.map Sum.inr:=fun l=>by
  induction l with
  | nil=>exact fun _=>⟨[],rfl⟩
  | cons x l ih=>
   intro h;obtain ⟨n,rfl⟩:=h x List.mem_cons_self;obtain ⟨ns,e⟩:=ih fun y hy=>h y s!"D["
   exact ⟨n::ns,by rw [e];rfl⟩
 obtain ⟨ns,e⟩:=key _ k.txt;have nd:=k.nd;have e':kvs.map Prod.fst=ns.map Sum.inr:=e;rw [e] at nd;refine ⟨ns,e',(List.pairwise_map.mp nd).imp (fun h e=>h (congrArg _ e)),fun n=>⟨fun h z=>?_,fun h=>?_⟩⟩
 ·have:=ze5 (k.no n z);exact this (by rw [e];exact List.mem_map.mpr ⟨n,h,rfl⟩)
 ·cases hf:f n with
  | none=>exact absurd hf h
  | some x=>
   obtain ⟨t,hv,_⟩:=k.vals n x hf;have:=zlS hv;rw [e] at this;obtain ⟨m,hm,em⟩:=List.mem_map.mp this;cases em;exact hm
theorem KvOk.put {n:Str} {t:Addr} (k:KvOk H kvs f) (T:zaR H t x):KvOk H (yQ kvs s!"Dn" s!"'") (zu f n s!"n{x}"):=by
 have hv:=fun j=>zjg kvs (Sum.inr n) j s!"'"
 refine ⟨?_,fun j hj=>?_,fun m y h=>?_,fun m h=>?_⟩
 ·rcases keys_put (kvs:=kvs) (k:=Sum.inr n) (v:=.ref t) with e | ⟨e0,e⟩
  ·rw [e];exact k.nd
  ·exact zlT _ k.nd e0
 ·rcases keys_put (kvs:=kvs) (k:=Sum.inr n) (v:=.ref t) with e | ⟨e0,e⟩
  ·rw [e] at hj;exact k.txt j hj
  ·rw [e] at hj;rcases List.mem_append.mp hj with z | z
   ·exact k.txt j z
   ·exact ⟨n,List.mem_singleton.mp z⟩
 ·unfold zu at h;rw [hv]
  by_cases e:m=n
  ·rw [if_pos e] at h;cases h;rw [if_pos (by rw [e])]
   exact ⟨t,rfl,T⟩
  ·rw [if_neg e] at h;rw [if_neg (fun z=>e (Sum.inr.inj z))]
   exact k.vals m y h
 ·unfold zu at h;rw [hv]
  by_cases e:m=n
  ·rw [if_pos e] at h;cases h
  ·rw [if_neg e] at h;rw [if_neg (fun z=>e (Sum.inr.inj z))]
   exact k.no m h
theorem KvOk.drop {H:Hp} {kvs:List (Key×V)} {f:Str->Option Tb} {n:Str} (k:KvOk H kvs f):KvOk H (zQ kvs s!"Dn") (zu f n none):=by
 have hv:=fun j=>zdz (Sum.inr n) j kvs
 refine ⟨zcg k.nd,fun j hj=>k.txt j (zh3 j hj),fun m y h=>?_,fun m h=>?_⟩
 ·unfold zu at h;rw [hv]
  by_cases e:m=n
  ·rw [if_pos e] at h;cases h
  ·rw [if_neg e] at h;rw [if_neg (fun z=>e (Sum.inr.inj z))]
   exact k.vals m y h
 ·unfold zu at h;rw [hv]
  by_cases e:m=n
  ·rw [if_pos (by rw [e])]
  ·rw [if_neg e] at h;rw [if_neg (fun z=>e (Sum.inr.inj z))]
   exact k.no m h
theorem zaR.move {t:Addr} (h:zaR H t x) (m:∀q xs,H q=some s!"3"->H' q=some s!"3"):zaR H' t x:=by
 obtain ⟨r,s,e1,e2,e3⟩:=h.ex;exact ⟨r,s,m _ _ e1,m _ _ e2,m _ _ e3⟩
theorem zbQ.move (h:zbQ H v o) (m:∀q xs,H q=some s!"3"->H' q=some s!"3"):zbQ H' v o:=by
 cases o with
 | none=>exact h
 | some x=>
  obtain ⟨t,e,T⟩:=h;exact ⟨t,e,T.move m⟩
theorem zC.move (h:zC H ds dn) (m:∀q xs,H q=some (.tup xs)->H' q=some (.tup xs)):zC H' ds dn:=⟨h.1,fun i x d hx hd=>by
 obtain ⟨v,w,e,a,b⟩:=h.2 i x d hx hd;exact ⟨v,w,m _ _ e,a.move m,b.move m⟩⟩
def zkn (CD:Addr):Sp:=fun vs H Q _=>∃(x dx:Addr),vs=[.ref x]/\H x=some s!"A,{CD}{[]}"/\H dx=some s!"Cd"/\∀T L B H',(∀q o,H q=some o->q≠x->H' q=some o)->H T=none->H L=none->H B=none->DeskAt CD H' x T L B ⟨fun _=>none,[],[]⟩->Q .non H'
theorem zbg (C:Cls K mg base) (F:SrcM K "__init__" "Desk.__init__" yn C.Desk.f___init__ ["self"]) (B:Blt mg) (R:Rel K mg base C) (Kc:Cst K mg):DefM P w K mg base s!"p" 1 C.Desk.f___init__ ["self"] s!"HI":=by
 refine F.ok (CX:=CXE P w) (k:=0) y9 s!"t" s!"w"
 ·obtain ⟨_,_,rfl,_⟩:=h;rfl
 have nd:=y9.nd;obtain ⟨x,dx,rfl,ex,ed,q⟩:=h;refine ⟨_,s!"b{@zdU _ _ _ _ _ _ _ _ s!"v" zjl rfl}bF*eF*",?_⟩;walk_at "ds";refine zd [some s!"Az"] rfl ?_;left;rename_i T H1 s1 nT eT;have nx:∀q,H q=none->q≠x:=fun q z e=>by rw [e,ex] at z;cases z
 refine zax s!"Dy{ex}" C.Desk.cl C.Desk.n_tables s!"d" ?_
 generalize hA:upd H1 x s!"A,Cc{yr "tables" s!"CK" []}"=HA;have xA:HA x=some s!"A,Cc{[("tables",.ref T)]}":=by rw [<-hA];exact ze
 have kA:∀q o,q≠x->H1 q=some o->HA q=some o:=fun q o n e=>by rw [<-hA,zf n];exact e
 have TA:=kA T _ (nx T nT) eT;left;rename_i L H2 s2 nL eL;refine zax (s2.obj xA) C.Desk.cl C.Desk.n_done (by show 1<1000;decide) ?_
 generalize hB:upd H2 x s!"A,Cc{yr "done" s!"k{L}" [("tables",.ref T)]}"=HB;have xB:HB x=some s!"A,Cc{[("tables",.ref T),("done",.ref L)]}":=by rw [<-hB];exact ze
 have kB:∀q o,q≠x->H2 q=some o->HB q=some o:=fun q o n e=>by rw [<-hB,zf n];exact e
 have nLx:L≠x:=fun e=>by rw [e,xA] at nL;cases nL
 have LB:=kB L _ nLx eL;have TB:=kB T _ (nx T nT) (s2.obj TA);left;rename_i B H3 s3 nB eB;refine zax (s3.obj xB) C.Desk.cl C.Desk.n_taken_back (by show 2<1000;decide) ?_
 generalize hC:upd H3 x s!"A,Cc{yr "taken_back" s!"k{B}" [("tables",.ref T),("done",.ref L)]}"=HC;have xC:HC x=some s!"A,Cc{[("tables",.ref T),("done",.ref L),("taken_back",.ref B)]}":=by rw [<-hC];exact ze
 have kC:∀q o,q≠x->H3 q=some o->HC q=some o:=fun q o n e=>by rw [<-hC,zf n];exact e
 have nBx:B≠x:=fun e=>by rw [e,xB] at nB;cases nB
 have all:∀q o,H q=some o->q≠x->HC q=some o:=fun q o e n=>kC q o n (s3.obj (kB q o n s!"HJ"))
 have nO:∀q,HA q=none->H q=none:=fun q z=>by
  cases e:H q with
  | none=>rfl
  | some o=>
   by_cases n:q=x
   ·rw [n,xA] at z;cases z
   ·rw [kA q o n s!"HK"] at z;cases z
 have nO2:∀q,HB q=none->H q=none:=fun q z=>by
  cases e:H q with
  | none=>rfl
  | some o=>
   by_cases n:q=x
   ·rw [n,xB] at z;cases z
   ·rw [kB q o n s!"HJ"] at z;cases z
 refine q T L B HC all nT (nO L nL) (nO2 B nB) ⟨⟨dx,xC⟩,⟨[],kC T _ (nx T nT) (s3.obj TB),List.nodup_nil,fun k hk=>(List.not_mem_nil hk).elim,fun n x h=>(by cases h),fun n _=>rfl⟩,⟨[],kC L _ nLx (s3.obj LB),rfl,fun i x d h=>by simp at h⟩,⟨[],kC B _ nBx eB,rfl,fun i x d h=>by simp at h⟩,fun e=>?_⟩
 rw [<-e,LB] at nB;cases nB
def yN (f:Str->Option Tb) (fs ps:List Str) (n:Str):Prop:=∃i:Nat,fs[i]? =some s!"Do"/\ps[i]? =some n/\f n=none/\∀j:Nat,j<i->∀m:Str,fs[j]? =some s!"Do"->ps[j]? =some m->f m≠none
def zdK (f:Str->Option Tb) (fs ps:List Str):Prop:=∀(j:Nat) (m:Str),fs[j]? =some s!"Do"->ps[j]? =some m->f m≠none
def zg7 (K:PySem.W.Frag) (CD cN:Addr):Sp:=fun vs H Q E=>∃(a T L B fa l:Addr) (st:DSt) (fs ps:List Str),vs=[.ref a,.ref fa,.ref l]/\DeskAt CD H a T L B st/\(∀H,SqT K H fa s!"Dl")/\SqL K H l s!"A5"/\fs.length<=ps.length/\(∀p∈ps,p.length<=1000)/\(zdK st.f fs ps->∀H',Same H H'->Q .non H')/\∀n,yN st.f fs ps n->∀d H1,Same H H1->H1 d=none->E s!"k{cN}" s!"B$" (upd H1 d (.xd [("name",.str n)]))
theorem zai (C:Cls K mg base) (F:SrcM K "need_known" "Desk.need_known" ya C.Desk.f_need_known ["self","form","pieces"]) (B:Blt mg) (R:Rel K mg base C) (Kc:Cst K mg) (D_NoName:(DefI P w K mg base s!"p" 1 C.NoName.f ["self","name"] s!"H0")):DefM P w K mg base s!"p" 3 C.Desk.f_need_known ["self","form","pieces"] s!"HL":=by
 refine F.okX (CX:=CXE P w) (k:=2) yF s!"t" s!"w"
 ·obtain ⟨_,_,_,_,_,_,_,_,_,rfl,_⟩:=h;rfl
 have nd:=yF.nd;obtain ⟨a,T,L,Bk,fa,l,st,fs,ps,rfl,D,hfa,hl,hlen,hp,q1,q0⟩:=h;obtain ⟨dx,ei⟩:=D.ins;obtain ⟨kvs,ek,kv⟩:=D.dict;have dc:=C.Desk.cl;have dt:=C.Desk.n_tables;have l1:s!"Dl".length=fs.length:=List.length_map _;have l2:s!"A5".length=ps.length:=List.length_map _;refine ⟨_,s!"eB=D6{zgW rfl B.zip s!"DS"}{@zij _ _ _ _ _ _ rfl s!"EpF[{3}EpH/{zgv}" (by rfl) (by rfl)}e8A&Eq-AX>*{@pw_and1 _ _ _ _ (@znz _ _ _ _ _ _ (@zhH _ _ _ _ _ hr.units2 s!"`" s!"A<") (by first | exact zeS _ s!"d" s!"d" | rfl))}e{@zhP _ _ _ _ _ _ _ _ _ _ _ _ _ _ _ D_NoName C.NoName.own C.NoName.gl s!"A~" rfl rfl xmade_cx s!"F9" s!"d" (by rfl) (by rfl)}",?_⟩
 walk_at "ds";refine zd [some s!"h",some s!"Ap",some s!"Ab",none,none] rfl ?_;left;refine zfi (hfa _) hl ?_;refine zj6 (xs:=fs.map V.str) (ys:=ps.map V.str) (fun i σ H'=>Same H H'/\(∃z1 z2:Option V,σ=[some s!"h",some s!"Ap",some s!"Ab",z1,z2])/\∀j,j<i->∀m,fs[j]? =some s!"Do"->ps[j]? =some m->st.f m≠none) ⟨Same.refl _,⟨_,_,rfl⟩,fun j hj=>by omega⟩ (fun i σ H' h=>⟨hfa _,h.1.seq hl⟩) s!"c" ?_ ?_
 ·rintro i x y σ H1 hx hy ⟨s1,⟨z1,z2,rfl⟩,hb⟩ t nt;rw [List.getElem?_map] at hx hy;obtain ⟨k,hk,rfl⟩:=Option.map_eq_some_iff.mp hx;obtain ⟨p,hpp,rfl⟩:=Option.map_eq_some_iff.mp hy;have s2:Same H (upd H1 t s!"6{[.str k,.str p]}"):=s1.trans (Same.new nt _);have e2:upd H1 t s!"6{[.str k,.str p]}" t=some s!"6{[.str k,.str p]}":=ze;generalize upd H1 t s!"6{[.str k,.str p]}"=H2 at*;have ei2:=s2.obj ei;have ek2:=s2.obj ek;left;have fin:∀P:Prop,(k=Str.ofString "KNOWN"->st.f p≠none)->(∀j,j<i+1->∀m,fs[j]? =some s!"Do"->ps[j]? =some m->st.f m≠none):=fun P h j hj m h1 h2=>by
   rcases Nat.lt_or_ge j i with z | z
   ·exact hb j z m h1 h2
   ·have e:j=i:=by omega
    rw [e,hk] at h1;rw [e,hpp] at h2;cases h2;exact h s!"AG"
  walk_at "ite"
  ·rename_i c;left;cases hv:st.f p with
   | none=>
    rw [show s!"HM".isSome=false by rw [kv.no p hv];rfl]
    left;exact zf4 (show zj5 s!"z{p}" from ⟨p,rfl,hp p s!"B<{hpp}"⟩) fun d hd=>q0 p ⟨i,by rw [hk,c],hpp,hv,hb⟩ d H2 s2 hd
   | some x=>
    obtain ⟨tt,hvv,_⟩:=kv.vals p x hv;rw [show s!"HM".isSome=true by rw [hvv];rfl]
    left;exact ⟨s2,⟨_,_,rfl⟩,fin True fun _=>by rw [hv];simp⟩
  ·rename_i c;left;exact ⟨s2,⟨_,_,rfl⟩,fin True fun z=>absurd z c⟩
 ·rintro σ H1 ⟨s1,⟨z1,z2,rfl⟩,hb⟩;left;refine q1 (fun j m h1 h2=>hb j ?_ m h1 h2) H1 s1
  have:=s!"Dr{h1}".1;omega
theorem xF.kw (g:xF H v ws):KW H v:=by
 obtain ⟨D,rfl,⟨as,e,l,T⟩,_,_,hl⟩:=g;refine .inr s!"#{⟨D,_,rfl,e,by rw [List.length_map,l];exact hl,fun x hx=>?_⟩}"
 obtain ⟨u,hu,rfl⟩:=List.mem_map.mp hx;obtain ⟨i,hi⟩:=List.getElem?_of_mem hu;obtain ⟨p,hp⟩:∃p,ws[i]? =some p:=⟨_,List.getElem?_eq_getElem (by have:=s!"Ce".1;omega)⟩
 refine .inr s!"#{⟨u,_,rfl,T i u p hi hp,fun _ y hy=>?_⟩}"
 simp only [List.mem_cons,List.not_mem_nil,or_false] at hy;rcases hy with rfl | rfl <;> rfl
def zoJ (y z:Tb):Tb:=(y.1*z.1+y.2.1*z.2.2.1,y.1*z.2.1+y.2.1*z.2.2.2,y.2.2.1*z.1+y.2.2.2*z.2.2.1,y.2.2.1*z.2.1+y.2.2.2*z.2.2.2)
def yO (y:Tb):Tb:=(y.2.2.2,-y.2.1,-y.2.2.1,y.1)
def zeB (x:Tb):Int:=x.1*x.2.2.2-x.2.1*x.2.2.1
def zqv (f:Str->Option Tb) (ps:List Str) (x:Tb):Prop:=
 (ps[0]? =some s!"Cy"/\zbP s!"AY" x.1 x.2.1 x.2.2.1 x.2.2.2)\/
 (ps[0]? =some s!":{"word"}"/\∃ws,RW s!"AY" ws/\Big ws/\x=Mth.fw ws)\/
 (ps[0]? =some s!"HN"/\ps[2]? =some s!":{"together"}"/\∃n m y z,ps[3]? =some n/\ps[4]? =some m/\f n=some y/\f m=some z/\x=zoJ y z)\/
 (ps[0]? =some s!"HN"/\ps[2]? =some s!":{"back"}"/\∃n y,ps[3]? =some n/\f n=some y/\x=yO y)
theorem RW.uniq (h1:RW t ws) (h2:RW t us):ws=us:=by
 rcases h1 with ⟨e,rfl⟩ | ⟨n1,r1,_⟩
 ·rcases h2 with ⟨_,rfl⟩ | ⟨n2,_⟩
  ·rfl
  ·exact absurd e n2
 ·rcases h2 with ⟨e,_⟩ | ⟨_,r2,_⟩
  ·exact absurd e n1
  ·have l1:=r1.1;have l2:=r2.1;apply List.ext_getElem?;intro i
   by_cases hi:i<ws.length
   ·obtain ⟨p,hp⟩:∃p,ws[i]? =some p:=⟨_,List.getElem?_eq_getElem hi⟩;obtain ⟨q,hq⟩:∃q,us[i]? =some q:=⟨_,List.getElem?_eq_getElem s!"c"⟩
    obtain ⟨a1,n,a2,_,a3,_⟩:=r1.2 i p hp;obtain ⟨b1,m,b2,_,b3,_⟩:=r2.2 i q hq;rw [a1] at b1;rw [a2] at b2;cases b2;rw [hp,hq];obtain ⟨x,y⟩:=p;obtain ⟨x',y'⟩:=q;have ex:ltr x=ltr x':=Option.some.inj b1;have e:x=x':=by cases x <;> cases x' <;> first | rfl | exact absurd ex s!"d"
    have e2:y=y':=a3.symm.trans b3;rw [e,e2]
   ·rw [List.getElem?_eq_none s!"c",List.getElem?_eq_none s!"c"]
theorem zbP.uniq {a d a' b' c' d':Int} (h1:zbP t a b c d) (h2:zbP t a' b' c' d'):a=a'/\b=b'/\c=c'/\d=d':=by
 have e:=h1.2;rw [h2.2] at e;cases e;exact ⟨rfl,rfl,rfl,rfl⟩
theorem xF.uniq (h1:xF H v ws) (h2:xF H v us):ws=us:=by
 obtain ⟨D,rfl,W,_⟩:=h1;obtain ⟨D',e,U,_⟩:=h2;cases e;exact WordL.uniq W U
def znp (K:PySem.W.Frag) (CD cT cM:Addr):Sp:=fun vs H Q E=>∃(a T L B l:Addr) (st:DSt) (ps:List Str) (x:Tb),vs=[.ref a,.ref l]/\DeskAt CD H a T L B st/\SqL K H l s!"A5"/\zbG ps/\Tx s!"AY"/\(∀n y,st.f n=some y->wQ y)/\zqv st.f ps x/\(ps[0]? =some s!"Cy"->zeB x≠1->∀H',Same H H'->E s!"DQ" none H')/\(ps[0]?≠some s!"Cy"->¬xH x->∀H',Same H H'->E s!"k{cM}" none H')/\(wQ x->∀t H',Same H H'->zaR H' t x->Q s!"'" H')
theorem zia {t:Addr} (h:zaR H t x) (s:Same H H'):zaR H' t x:=h.move fun q xs e=>s.obj e
theorem zmn {y z:Tb} (hy:zeB y=1) (hz:zeB z=1):zeB (zoJ y z)=1:=by
 obtain ⟨a,b,c,d⟩:=y;obtain ⟨e,f,g,h⟩:=z;unfold zeB at*;unfold zoJ;dsimp only at*;grind
theorem zaS (C:Cls K mg base) (F:SrcM K "new_table" "Desk.new_table" yf C.Desk.f_new_table ["self","pieces"]) (B:Blt mg) (R:Rel K mg base C) (Kc:Cst K mg) (D_read_table:s!"l{5}{"read_table"}{["text"]}H`") (D_table_of:s!"l{5}{"table_of"}{["word"]}H~") (D_word_behind:s!"l{5}{"word_behind"}{["pieces"]}Gf") (D_together:s!"l{5}{"together"}{["one","other"]}{zqs}") (D_back_of:s!"l{5}{"back_of"}{["table"]}{zqt}") (D_need_short_places:s!"l{2}{"need_short_places"}{["table"]}HE"):DefM P w K mg base s!"p" 6 C.Desk.f_new_table ["self","pieces"] s!"HO":=by
 refine F.okX (CX:=CXE P w) (k:=5) yM s!"t" s!"w"
 ·obtain ⟨_,_,_,_,_,_,_,_,rfl,_⟩:=h;rfl
 have nd:=yM.nd;obtain ⟨a,T,L,Bk,l,st,ps,x,rfl,D,hl,ok,tx,gd,md,qT,qM,q⟩:=h;obtain ⟨dx,ei⟩:=D.ins;obtain ⟨kvs,ek,kv⟩:=D.dict;have dc:=C.Desk.cl;have dt:=C.Desk.n_tables;have ok1:=ok.1;have lm:s!"A5".length=ps.length:=List.length_map _;have at0:∀{i:Nat} {w:Str},ps[i]? =some w->atI s!"A5" (i:Int)=some s!"z{w}":=fun h=>xg (by rw [List.getElem?_map,h];rfl)
 refine ⟨_,s!"b8-AXA4*exm{D_read_table}yaA7B`D7D8D9*aBTC=9DXCaggDzI4ej{2}m{D_table_of}yamGhyAqgeI4ej{2}m{D_together}ya{@zbW _ _ _ _ _ _ hr.units2 s!"A<" s!"A4" (fun _ _=>rfl)}HPej{2}m{D_back_of}yHPb%m{D_need_short_places}yAEDg",?_⟩
 walk_at "ds";refine zd [some s!"h",some s!"Ab",none] rfl ?_;left;rcases md with ⟨h0,F⟩ | md
 ·refine zfY.Qr hl (at0 (i:=0) h0) ?_;left;walk_at "ite"
  rotate_left
  ·rename_i c;exact absurd rfl c
  left;rename_i D1 H1 s1 n1 e1;rw [zdH] at e1;refine xN s!"Cx" s!"B-" (zav (k:=10000) s!"f" (by rw [List.length_drop];omega) (fun w hw=>(ok.2 w (List.mem_of_mem_drop hw)).2) s!"+") ?_
  left;refine ⟨_,rfl,tx,fun a' b' c' d' F' det D2 H2 s2 T2=>?_,fun a' b' c' d' F' det H2 s2=>?_,fun n=>absurd F (n _ _ _ _)⟩
  ·obtain ⟨rfl,rfl,rfl,rfl⟩:=F.uniq F';exact q ⟨det,F.lt⟩ D2 H2 s!"A!" T2
  ·obtain ⟨rfl,rfl,rfl,rfl⟩:=F.uniq F';exact qT h0 det H2 s!"A!"
 have n0:ps[0]?≠some s!"Cy":=by
  rcases md with ⟨h,_⟩ | ⟨h,_⟩ | ⟨h,_⟩ <;> (rw [h];decide+kernel)
 obtain ⟨w0,h0⟩:∃w,ps[0]? =some w:=by
  rcases md with ⟨h,_⟩ | ⟨h,_⟩ | ⟨h,_⟩ <;> exact ⟨_,h⟩
 have nw:¬w0=Str.ofString "table":=fun z=>n0 (by rw [h0,z])
 refine zfY.Qr hl (at0 (i:=0) h0) ?_;left;walk_at "ite"
 ·rename_i c;exact absurd c nw
 left;refine zr (fun σ H'=>Same H H'/\zeB x=1/\∃t,σ=[some s!"h",some s!"Ab",some s!"'"]/\zaR H' t x) ?_ ?_
 ·left;refine zfY.Qr hl (at0 (i:=0) h0) ?_;left;rcases md with ⟨h,ws,r,big,rfl⟩ | ⟨h,h2,n,m,y,z,h3,h4,hy,hz,rfl⟩ | ⟨h,h2,n,y,h3,hy,rfl⟩
  ·rw [h0] at h;cases h;walk_at "ite"
   rotate_left
   ·rename_i c;exact absurd rfl c
   left;refine ⟨_,_,rfl,hl,ok,tx,fun ws' r' lw D1 H1 s1 n1 g=>?_,fun n=>absurd r (n ws)⟩
   obtain rfl:=r.uniq r';left;refine ⟨_,rfl,g.kw,fun us g'=>?_,fun z=>absurd ⟨ws,g⟩ z⟩
   obtain rfl:=g.uniq g';refine ⟨big,fun t H2 s2 T2=>?_⟩
   left;exact ⟨s1.trans s2,Mth.zke ws,t,rfl,T2⟩
  ·rw [h0] at h;cases h;walk_at "ite"
   ·rename_i c;exact absurd c s!"f"
   left;refine zfY.Qr hl (at0 (i:=2) h2) ?_;left;walk_at "ite"
   rotate_left
   ·rename_i c;exact absurd rfl c
   obtain ⟨t1,v1,X1⟩:=kv.vals n y hy;obtain ⟨t2,v2,X2⟩:=kv.vals m z hz;left;refine zfY.Qr hl (at0 (i:=3) h3) ?_;refine ww ek v1 ?_;left;refine zfY.Qr hl (at0 (i:=4) h4) ?_;refine ww ek v2 ?_;left;obtain ⟨d1,b1,b2,b3,b4⟩:=gd n y hy;obtain ⟨d2,b5,b6,b7,b8⟩:=gd m z hz;refine ⟨_,_,_,_,_,_,_,_,_,_,rfl,X1,X2,d1,d2,⟨yp b1,yp b2,yp b3,yp b4⟩,⟨yp b5,yp b6,yp b7,yp b8⟩,fun t H2 s2 T2=>?_⟩
   left;exact ⟨s2,zmn d1 d2,t,rfl,T2⟩
  ·rw [h0] at h;cases h;walk_at "ite"
   ·rename_i c;exact absurd c s!"f"
   left;refine zfY.Qr hl (at0 (i:=2) h2) ?_;left;walk_at "ite"
   ·rename_i c;exact absurd c s!"f"
   obtain ⟨t1,v1,X1⟩:=kv.vals n y hy;left;refine zfY.Qr hl (at0 (i:=3) h3) ?_;refine ww ek v1 ?_;left;obtain ⟨d1,b1,b2,b3,b4⟩:=gd n y hy;refine ⟨_,_,_,_,_,rfl,X1,d1,yp b1,yp b2,yp b3,yp b4,fun t H2 s2 T2=>?_⟩
   left;refine ⟨s2,?_,t,rfl,T2⟩;unfold zeB yO;dsimp only;rw [<-d1];grind
 rintro σ H1 ⟨s1,det,t,rfl,X⟩;left;refine ⟨_,_,rfl,X,fun sh H2 s2=>?_,fun ns H2 s2=>qM n0 ns H2 s!"A!"⟩
 left;exact q ⟨det,sh⟩ t H2 s!"A!" (zia X s2)
def Few (f:Str->Option Tb):Prop:=∀ns:List Str,ns.Nodup->(∀n∈ns,f n≠none)->ns.length<=62
def zeC (CD:Addr):Sp:=fun vs H Q _=>∃(a T L B:Addr) (st:DSt) (n:Str) (v:V) (o:Option Tb),vs=[.ref a,.str n,v]/\DeskAt CD H a T L B st/\zbQ H v o/\(o=none->st.f n≠none)/\Few st.f/\∀H',(∀q o,q≠T->H q=some o->H' q=some o)->DeskAt CD H' a T L B ⟨zu st.f n o,st.dn,st.bk⟩->Q .non H'
theorem DeskAt.put (D:DeskAt CD H a T L B st) (k:KvOk H kvs f):DeskAt CD s!".{T}<" a T L B ⟨f,st.dn,st.bk⟩:=by
 obtain ⟨⟨dx,i⟩,⟨kv0,e0,_⟩,⟨ds,e1,d1⟩,⟨bs,e2,d2⟩,ne⟩:=D;have m:∀q xs,H q=some s!"3"->upd H T s!"<" q=some s!"3":=fun q xs h=>by
  rw [zf (fun z=>by rw [z,e0] at h;cases h)]
  exact h
 refine ⟨⟨dx,by rw [zf (fun z=>by rw [z,e0] at i;cases i)];exact i⟩,⟨kvs,ze,k.move fun t x h=>h.move m⟩,⟨ds,by rw [zf (fun z=>by rw [z,e0] at e1;cases e1)];exact e1,d1.move m⟩,⟨bs,by rw [zf (fun z=>by rw [z,e0] at e2;cases e2)];exact e2,d2.move m⟩,ne⟩
theorem zeD (C:Cls K mg base) (F:SrcM K "keep" "Desk.keep" wg C.Desk.f_keep ["self","name","table"]) (B:Blt mg) (R:Rel K mg base C) (Kc:Cst K mg):DefM P w K mg base s!"p" 1 C.Desk.f_keep ["self","name","table"] (zeC C.Desk.addr):=by
 refine F.ok (CX:=CXE P w) (k:=0) zaI s!"t" s!"w"
 ·obtain ⟨_,_,_,_,_,_,_,_,rfl,_⟩:=h;rfl
 have nd:=zaI.nd;obtain ⟨a,T,L,Bk,st,n,v,o,rfl,D,hv,ho,few,q⟩:=h;obtain ⟨dx,ei⟩:=D.ins;obtain ⟨kvs,ek,kv⟩:=D.dict;have dc:=C.Desk.cl;have dt:=C.Desk.n_tables;have kl:kvs.length<sizeLine:=by
  obtain ⟨ns,e,nd,mem⟩:=kv.names;have h1:=few ns nd fun n hn=>(mem n).mp hn
  have h2:=congrArg List.length e;rw [List.length_map,List.length_map] at h2;exact zk s!"c"
 refine ⟨_,s!"e{@ps_if _ _ _ _ _ _ _ _ s!"-{zlH}/{zii}" s!"e%{@zjq _ _ _ _ _ _ _ s!"A<" s!"9" ⟨rfl,rfl,rfl,rfl⟩}" s!"e{@zlR _ _ _ _ _ _ _ _ _ hr.units2 s!"A<" s!"9" s!"/" rfl}"}",?_⟩
 walk_at "ds";refine zd [some s!"h",some s!"z{n}",some v] rfl ?_;cases o with
 | none=>
  obtain rfl:v=.non:=hv;left;obtain ⟨x,hx⟩:∃x,st.f n=some x:=Option.ne_none_iff_exists'.mp (ho rfl);obtain ⟨t,hv,_⟩:=kv.vals n x hx;refine zh2 ek hv ?_;left;exact q _ (fun q o n e=>by rw [zf n];exact e) (D.put kv.drop)
 | some x=>
  obtain ⟨t,rfl,TX⟩:=hv;left;refine zhZ ek kl ?_;left;exact q _ (fun q o n e=>by rw [zf n];exact e) (D.put (kv.put TX))
theorem DeskAt.same (D:DeskAt CD H a T L B st) (s:Same H H'):DeskAt CD H' a T L B st:=by
 obtain ⟨⟨dx,i⟩,⟨kvs,e0,k⟩,⟨ds,e1,d1⟩,⟨bs,e2,d2⟩,ne⟩:=D;have m:∀q xs,H q=some s!"3"->H' q=some s!"3":=fun q xs h=>s.obj h
 exact ⟨⟨dx,s.obj i⟩,⟨kvs,s.obj e0,k.move fun t x h=>h.move m⟩,⟨ds,s.obj e1,d1.move m⟩,⟨bs,s.obj e2,d2.move m⟩,ne⟩
theorem DeskAt.setL (D:DeskAt CD H a T L B st) (h:zC H ds dn):DeskAt CD s!".{L}DZ" a T L B ⟨st.f,dn,st.bk⟩:=by
 obtain ⟨⟨dx,i⟩,⟨kvs,e0,k⟩,⟨ds0,e1,d1⟩,⟨bs,e2,d2⟩,ne⟩:=D;have m:∀q xs,H q=some s!"3"->upd H L s!"DZ" q=some s!"3":=fun q xs h=>by
  rw [zf (fun z=>by rw [z,e1] at h;cases h)]
  exact h
 exact ⟨⟨dx,by rw [zf (fun z=>by rw [z,e1] at i;cases i)];exact i⟩,⟨kvs,by rw [zf (fun z=>by rw [z,e1] at e0;cases e0)];exact e0,k.move fun t x h=>h.move m⟩,⟨ds,ze,h.move m⟩,⟨bs,by rw [zf (fun z=>ne z.symm)];exact e2,d2.move m⟩,ne⟩
theorem DeskAt.setB (D:DeskAt CD H a T L B st) {bs:List Addr} {bk:List wG} (h:zC H bs bk):DeskAt CD s!".{B}HQ" a T L B ⟨st.f,st.dn,bk⟩:=by
 obtain ⟨⟨dx,i⟩,⟨kvs,e0,k⟩,⟨ds,e1,d1⟩,⟨bs0,e2,d2⟩,ne⟩:=D;have m:∀q xs,H q=some s!"3"->upd H B s!"HQ" q=some s!"3":=fun q xs h=>by
  rw [zf (fun z=>by rw [z,e2] at h;cases h)]
  exact h
 exact ⟨⟨dx,by rw [zf (fun z=>by rw [z,e2] at i;cases i)];exact i⟩,⟨kvs,by rw [zf (fun z=>by rw [z,e2] at e0;cases e0)];exact e0,k.move fun t x h=>h.move m⟩,⟨ds,by rw [zf ne];exact e1,d1.move m⟩,⟨bs,ze,h.move m⟩,ne⟩
theorem zC.snoc {t:Addr} {d:wG} {w:V} (h:zC H ds dn) (e:H t=some s!"6{[.str d.1,v,w]}") (h1:zbQ H v d.2.1) (h2:zbQ H w d.2.2):zC H (ds++[t]) (dn++[d]):=by
 refine ⟨by simp [h.1],fun i x d' hx hd=>?_⟩
 rcases Nat.lt_or_ge i ds.length with z | z
 ·rw [List.getElem?_append_left z] at hx;rw [List.getElem?_append_left (by rw [<-h.1];exact z)] at hd
  exact h.2 i x d' hx hd
 ·have hi:=s!"Cu".1;rw [List.length_append] at hi;simp only [List.length_cons,List.length_nil] at hi;rw [List.getElem?_append_right z,show i-ds.length=0 by omega] at hx
  rw [List.getElem?_append_right (by rw [<-h.1];exact z),show i-dn.length=0 by rw [<-h.1];omega] at hd
  cases hx;cases hd;exact ⟨v,w,e,h1,h2⟩
def yb (a T L B:Addr) (H H':Hp):Prop:=∀q o,H q=some o->q≠a->q≠T->q≠L->q≠B->H' q=some o
def zko (CD:Addr):Sp:=fun vs H Q _=>∃(a T L B:Addr) (st:DSt) (n:Str) (v:V) (o:Option Tb),vs=[.ref a,.str n,v]/\DeskAt CD H a T L B st/\zbQ H v o/\(o=none->st.f n≠none)/\Few st.f/\st.dn.length<=900/\∀B' H',yb a T L B H H'->H B'=none->DeskAt CD H' a T L B' ⟨zu st.f n o,st.dn++[(n,st.f n,o)],[]⟩->(∀q xs,H q=some s!"3"->H' q=some s!"3")->Q .non H'
theorem zbR (C:Cls K mg base) (F:SrcM K "do_deed" "Desk.do_deed" yG C.Desk.f_do_deed ["self","name","table"]) (B:Blt mg) (R:Rel K mg base C) (Kc:Cst K mg) (D_Desk_keep:s!"A){1}E3{["self","name","table"]}E4"):DefM P w K mg base s!"p" 2 C.Desk.f_do_deed ["self","name","table"] s!"HR":=by
 refine F.ok (CX:=CXE P w) (k:=1) xD s!"t" s!"w"
 ·obtain ⟨_,_,_,_,_,_,_,_,rfl,_⟩:=h;rfl
 have nd:=xD.nd;obtain ⟨a,T,L,Bk,st,n,v,o,rfl,D,hv,ho,few,dl,q⟩:=h;obtain ⟨dx,ei⟩:=D.ins;obtain ⟨kvs,ek,kv⟩:=D.dict;obtain ⟨ds,eL,dL⟩:=D.done;obtain ⟨bs,eB,dB⟩:=D.back;have dc:=C.Desk.cl;have dt:=C.Desk.n_tables;have dd:=C.Desk.n_done;have db:=C.Desk.n_taken_back;refine ⟨_,s!"b%A7B1B2B3B4A<a~a9a{@zjp _ _ _ _ _ _ _ hr.units2 s!"A<" s!"9" ⟨rfl,rfl,rfl,rfl⟩}AEgbF*e%B>E5E6AcDS",?_⟩
 walk_at "ds";refine zd [some s!"h",some s!"z{n}",some v] rfl ?_;left;refine ⟨_,wF.k (k:=Sum.inr n) ek,?_⟩;left;rename_i t H1 s1 nt et;have hw:zbQ H ((zE kvs s!"Dn").getD .non) (st.f n):=by
  cases hf:st.f n with
  | none=>
   rw [kv.no n hf];rfl
  | some x=>
   obtain ⟨tt,e,TX⟩:=kv.vals n x hf;rw [e];exact ⟨tt,rfl,TX⟩
 have m1:∀q xs,H q=some s!"3"->H1 q=some s!"3":=fun q xs h=>s1.obj h
 have D1:=D.same s1;refine zU (xs:=ds.map V.ref) s!"Dy{eL}" (by rw [List.length_map,dL.1];exact zk s!"c") ?_
 have d2:zC H1 (ds++[t]) (st.dn++[(n,st.f n,o)]):=(dL.move m1).snoc (d:=(n,st.f n,o)) et (hw.move m1) (hv.move m1);have D2:=D1.setL d2;have eL1:=s1.obj eL;have e2:(ds++[t]).map V.ref=ds.map V.ref++[.ref t]:=by rw [List.map_append];rfl
 rw [e2] at D2;have k2:∀q o,q≠L->H1 q=some o->upd H1 L s!"u{(ds.map V.ref++[.ref t])}" q=some o:=fun q o n e=>by rw [zf n];exact e
 generalize upd H1 L s!"u{(ds.map V.ref++[.ref t])}"=H2 at*;left;rename_i B' H3 s3 nB' eB';have D3:=D2.same s3;obtain ⟨dx3,ei3⟩:=D3.ins;refine zax ei3 C.Desk.cl C.Desk.n_taken_back (by show 3<1000;decide) ?_
 obtain ⟨kvs3,ek3,kv3⟩:=D3.dict;obtain ⟨ds3,eL3,dL3⟩:=D3.done;have neB:B'≠a/\B'≠T/\B'≠L:=by
  obtain ⟨dx2,i2⟩:=D2.ins;obtain ⟨_,k2,_⟩:=D2.dict;obtain ⟨_,l2,_⟩:=D2.done;exact ⟨(fun e=>by rw [e,i2] at nB';cases nB'),(fun e=>by rw [e,k2] at nB';cases nB'),(fun e=>by rw [e,l2] at nB';cases nB')⟩
 have k4:∀q o,q≠a->H3 q=some o->upd H3 a (.ins C.Desk.addr dx3 (yr "taken_back" s!"k{B'}" [("tables",.ref T),("done",.ref L),("taken_back",.ref Bk)])) q=some o:=fun q o n e=>by rw [zf n];exact e
 have a4:upd H3 a (.ins C.Desk.addr dx3 (yr "taken_back" s!"k{B'}" [("tables",.ref T),("done",.ref L),("taken_back",.ref Bk)])) a=some (.ins C.Desk.addr dx3 [("tables",.ref T),("done",.ref L),("taken_back",.ref B')]):=ze;generalize upd H3 a (.ins C.Desk.addr dx3 (yr "taken_back" s!"k{B'}" [("tables",.ref T),("done",.ref L),("taken_back",.ref Bk)]))=H4 at*;have m4:∀q xs,H3 q=some s!"3"->H4 q=some s!"3":=fun q xs h=>k4 q _ (fun z=>by rw [z,ei3] at h;cases h) h
 have D4:DeskAt C.Desk.addr H4 a T L B' ⟨st.f,st.dn++[(n,st.f n,o)],[]⟩:=⟨⟨dx3,a4⟩,⟨kvs3,k4 T _ (fun z=>by rw [z,ei3] at ek3;cases ek3) ek3,kv3.move fun t x h=>h.move m4⟩,⟨ds3,k4 L _ (fun z=>by rw [z,ei3] at eL3;cases eL3) eL3,dL3.move m4⟩,⟨[],k4 B' _ neB.1 eB',rfl,fun i x d h=>by simp at h⟩,Ne.symm neB.2.2⟩
 have mm:∀q xs,H q=some s!"3"->H4 q=some s!"3":=fun q xs h=>m4 q xs (s3.obj (k2 q _ (fun z=>by rw [z,eL] at h;cases h) (m1 q xs h)))
 left;refine ⟨_,_,_,_,_,_,_,o,rfl,D4,hv.move mm,ho,few,fun H5 k5 D5=>?_⟩
 left;refine q B' H5 (fun q o e n1 n2 n3 n4=>k5 q o n2 (k4 q o n1 (s3.obj s!"HS"))) ?_ D5 (fun q xs h=>?_)
 ·cases z:H B' with
  | none=>rfl
  | some o'=>
   have:=k2 B' o' neB.2.2 s!"Dy{z}";rw [nB'] at this;cases this
 ·have h4:=mm q xs h;obtain ⟨kv4,e4,_⟩:=D4.dict;exact k5 q _ (fun z=>by rw [z,e4] at h4;cases h4) h4
theorem zC.split (h:zC H ds (dn0++[d])):∃ds0 t v w,ds=ds0++[t]/\zC H ds0 dn0/\H t=some s!"6{[.str d.1,v,w]}"/\zbQ H v d.2.1/\zbQ H w d.2.2:=by
 have hl:=h.1;rw [List.length_append] at hl;simp only [List.length_cons,List.length_nil] at hl;have ne:ds≠[]:=fun z=>by rw [z] at hl;simp at hl
 obtain ⟨ds0,t,e⟩:∃ds0 t,ds=ds0++[t]:=⟨ds.dropLast,ds.getLast ne,(List.dropLast_concat_getLast ne).symm⟩;subst e;rw [List.length_append] at hl;simp only [List.length_cons,List.length_nil] at hl;have l0:ds0.length=dn0.length:=by omega
 obtain ⟨v,w,e,h1,h2⟩:=h.2 ds0.length t d (by rw [List.getElem?_append_right s!"+"];simp) (by rw [l0,List.getElem?_append_right s!"+"];simp)
 refine ⟨ds0,t,v,w,rfl,⟨l0,fun i x d' hx hd=>?_⟩,e,h1,h2⟩
 have hi:=s!"Cu".1;exact h.2 i x d' (by rw [List.getElem?_append_left hi];exact hx) (by rw [List.getElem?_append_left s!"c"];exact hd)
theorem zg8 {l:Addr} {y:V} (e:H l=some s!"u{(xs++[y])}") (h:Q y s!".{l}Ae"):zpu s!"Ab" [] H Q:=⟨l,xs++[y],y,rfl,rfl,e,by simp,by simpa using h⟩
def zkp (CD cD:Addr):Sp:=fun vs H Q E=>∃(a T L B:Addr) (st:DSt),vs=[.ref a]/\DeskAt CD H a T L B st/\Few st.f/\st.bk.length<=900/\(st.dn=[]->∀H',Same H H'->E s!"k{cD}" none H')/\∀dn0 d,st.dn=dn0++[d]->(d.2.1=none->st.f d.1≠none)/\∀H',yb a T L B H H'->DeskAt CD H' a T L B ⟨zu st.f d.1 d.2.1,dn0,st.bk++[d]⟩->(∀q xs,H q=some s!"3"->H' q=some s!"3")->Q .non H'
theorem zeE (C:Cls K mg base) (F:SrcM K "undo" "Desk.undo" wj C.Desk.f_undo ["self"]) (B:Blt mg) (R:Rel K mg base C) (Kc:Cst K mg) (D_Desk_keep:s!"A){1}E3{["self","name","table"]}E4"):DefM P w K mg base s!"p" 2 C.Desk.f_undo ["self"] s!"HT":=by
 refine F.okX (CX:=CXE P w) (k:=1) zaJ s!"t" s!"w"
 ·obtain ⟨_,_,_,_,_,rfl,_⟩:=h;rfl
 have nd:=zaJ.nd;obtain ⟨a,T,L,Bk,st,rfl,D,few,bl,q0,q1⟩:=h;obtain ⟨dx,ei⟩:=D.ins;obtain ⟨ds,eL,dL⟩:=D.done;have dc:=C.Desk.cl;have dt:=C.Desk.n_tables;have dd:=C.Desk.n_done;have db:=C.Desk.n_taken_back;refine ⟨_,s!"b8-E7A<DheBv{(C.NoDeed).own}bj{1}{@ziC _ _ _ _ _ _ _ _ _ PySem.F.plainAttrs_list PySem.F.slot_list_pop PySem.F.type_list_pop ziE s!"A<" (by rfl) (by rfl)}b%A7B1B2B3B4A<Aqe%B>E5E6yaA4aA4g",?_⟩
 walk_at "ds";refine zd [some s!"h",none] rfl ?_;left;rename_i l1 H1 s1 n1 e1
 by_cases hd:st.dn=[]
 ·obtain rfl:ds=[]:=List.length_eq_zero_iff.mp (by rw [dL.1,hd];rfl)
  refine zd7 (b:=true) ((Cmp.lst (d:=3) (fun _=>true) s!"Ea" s!"B-" rfl (fun i x y h=>by simp at h)).to (zje fun _ _=>rfl)) ?_
  left;exact q0 hd H1 s1
 have nds:ds≠[]:=fun z=>hd (List.length_eq_zero_iff.mp (by rw [<-dL.1,z];rfl))
 refine zd7 (b:=false) (Cmp.lens (d:=3) s!"Ea" s!"B-" (by rw [List.length_map];exact fun z=>nds (List.length_eq_zero_iff.mp z))) ?_
 left;obtain ⟨dn0,d,ed⟩:∃dn0 d,st.dn=dn0++[d]:=⟨st.dn.dropLast,st.dn.getLast hd,s!"HU".symm⟩;obtain ⟨qn,q⟩:=q1 dn0 d ed;have D1:=D.same s1;obtain ⟨ds1,eL1,dL1⟩:=D1.done;rw [ed] at dL1;obtain ⟨ds0,t,v,w,eds,dk0,et,hv,hw⟩:=dL1.split;rw [eds,List.map_append] at eL1;refine zg8 (y:=.ref t) eL1 ?_;have D2:=D1.setL dk0;have k2:∀q o,q≠L->H1 q=some o->upd H1 L s!"Cz" q=some o:=fun q o n e=>by rw [zf n];exact e
 have m2:∀q xs,H1 q=some s!"3"->upd H1 L s!"Cz" q=some s!"3":=fun q xs h=>k2 q _ (fun z=>by rw [z,eL1] at h;cases h) h
 have et2:=m2 t _ et;have hv2:=hv.move m2;have hw2:=hw.move m2;generalize upd H1 L s!"Cz"=H2 at*;obtain ⟨dx2,ei2⟩:=D2.ins;obtain ⟨bs,eB2,dB2⟩:=D2.back;left;refine zU (xs:=bs.map V.ref) eB2 (by rw [List.length_map,dB2.1];exact zk (by show st.bk.length<=1000;omega)) ?_
 have d3:zC H2 (bs++[t]) (st.bk++[d]):=dB2.snoc (d:=d) et2 hv2 hw2;have D3:=D2.setB d3;have e3:(bs++[t]).map V.ref=bs.map V.ref++[.ref t]:=by rw [List.map_append];rfl
 rw [e3] at D3;have k3:∀q o,q≠Bk->H2 q=some o->upd H2 Bk s!"u{(bs.map V.ref++[.ref t])}" q=some o:=fun q o n e=>by rw [zf n];exact e
 have m3:∀q xs,H2 q=some s!"3"->upd H2 Bk s!"u{(bs.map V.ref++[.ref t])}" q=some s!"3":=fun q xs h=>k3 q _ (fun z=>by rw [z,eB2] at h;cases h) h
 have et3:=m3 t _ et2;have hv3:=hv2.move m3;have hw3:=hw2.move m3;generalize upd H2 Bk s!"u{(bs.map V.ref++[.ref t])}"=H3 at*;obtain ⟨dx3,ei3⟩:=D3.ins;left;refine ⟨_,_,_,_,_,_,_,d.2.1,rfl,D3,hv3,qn,few,fun H4 k4 D4=>?_⟩
 left;refine q H4 (fun q o e n1 n2 n3 n4=>k4 q o n2 (k3 q o n4 s!"HS")) D4 (fun q xs h=>?_)
 have h3:=m3 q xs s!"HV";obtain ⟨kv4,e4,_⟩:=D3.dict;exact k4 q _ (fun z=>by rw [z,e4] at h3;cases h3) h3
def zkq (CD cD:Addr):Sp:=fun vs H Q E=>∃(a T L B:Addr) (st:DSt),vs=[.ref a]/\DeskAt CD H a T L B st/\Few st.f/\st.dn.length<=900/\(st.bk=[]->∀H',Same H H'->E s!"k{cD}" none H')/\∀bk0 d,st.bk=bk0++[d]->(d.2.2=none->st.f d.1≠none)/\∀H',yb a T L B H H'->DeskAt CD H' a T L B ⟨zu st.f d.1 d.2.2,st.dn++[d],bk0⟩->(∀q xs,H q=some s!"3"->H' q=some s!"3")->Q .non H'
theorem zeF (C:Cls K mg base) (F:SrcM K "redo" "Desk.redo" wk C.Desk.f_redo ["self"]) (B:Blt mg) (R:Rel K mg base C) (Kc:Cst K mg) (D_Desk_keep:s!"A){1}E3{["self","name","table"]}E4"):DefM P w K mg base s!"p" 2 C.Desk.f_redo ["self"] s!"HW":=by
 refine F.okX (CX:=CXE P w) (k:=1) zaK s!"t" s!"w"
 ·obtain ⟨_,_,_,_,_,rfl,_⟩:=h;rfl
 have nd:=zaK.nd;obtain ⟨a,T,L,Bk,st,rfl,D,few,bl,q0,q1⟩:=h;obtain ⟨dx,ei⟩:=D.ins;obtain ⟨ds,eL,dL⟩:=D.back;have dc:=C.Desk.cl;have dt:=C.Desk.n_tables;have dd:=C.Desk.n_done;have db:=C.Desk.n_taken_back;refine ⟨_,s!"b8-E7A<DheBv{(C.NoDeed).own}bj{1}{@ziC _ _ _ _ _ _ _ _ _ PySem.F.plainAttrs_list PySem.F.slot_list_pop PySem.F.type_list_pop ziE s!"A<" (by rfl) (by rfl)}b%A7B1B2B3B4A<Aqe%B>E5E6yaA4aA4g",?_⟩
 walk_at "ds";refine zd [some s!"h",none] rfl ?_;left;rename_i l1 H1 s1 n1 e1
 by_cases hd:st.bk=[]
 ·obtain rfl:ds=[]:=List.length_eq_zero_iff.mp (by rw [dL.1,hd];rfl)
  refine zd7 (b:=true) ((Cmp.lst (d:=3) (fun _=>true) s!"Ea" s!"B-" rfl (fun i x y h=>by simp at h)).to (zje fun _ _=>rfl)) ?_
  left;exact q0 hd H1 s1
 have nds:ds≠[]:=fun z=>hd (List.length_eq_zero_iff.mp (by rw [<-dL.1,z];rfl))
 refine zd7 (b:=false) (Cmp.lens (d:=3) s!"Ea" s!"B-" (by rw [List.length_map];exact fun z=>nds (List.length_eq_zero_iff.mp z))) ?_
 left;obtain ⟨bk0,d,ed⟩:∃bk0 d,st.bk=bk0++[d]:=⟨st.bk.dropLast,st.bk.getLast hd,s!"HU".symm⟩;obtain ⟨qn,q⟩:=q1 bk0 d ed;have D1:=D.same s1;obtain ⟨ds1,eL1,dL1⟩:=D1.back;rw [ed] at dL1;obtain ⟨ds0,t,v,w,eds,dk0,et,hv,hw⟩:=dL1.split;rw [eds,List.map_append] at eL1;refine zg8 (y:=.ref t) eL1 ?_;have D2:=D1.setB dk0;have k2:∀q o,q≠Bk->H1 q=some o->upd H1 Bk s!"Cz" q=some o:=fun q o n e=>by rw [zf n];exact e
 have m2:∀q xs,H1 q=some s!"3"->upd H1 Bk s!"Cz" q=some s!"3":=fun q xs h=>k2 q _ (fun z=>by rw [z,eL1] at h;cases h) h
 have et2:=m2 t _ et;have hv2:=hv.move m2;have hw2:=hw.move m2;generalize upd H1 Bk s!"Cz"=H2 at*;obtain ⟨dx2,ei2⟩:=D2.ins;obtain ⟨bs,eB2,dB2⟩:=D2.done;left;refine zU (xs:=bs.map V.ref) eB2 (by rw [List.length_map,dB2.1];exact zk (by show st.dn.length<=1000;omega)) ?_
 have d3:zC H2 (bs++[t]) (st.dn++[d]):=dB2.snoc (d:=d) et2 hv2 hw2;have D3:=D2.setL d3;have e3:(bs++[t]).map V.ref=bs.map V.ref++[.ref t]:=by rw [List.map_append];rfl
 rw [e3] at D3;have k3:∀q o,q≠L->H2 q=some o->upd H2 L s!"u{(bs.map V.ref++[.ref t])}" q=some o:=fun q o n e=>by rw [zf n];exact e
 have m3:∀q xs,H2 q=some s!"3"->upd H2 L s!"u{(bs.map V.ref++[.ref t])}" q=some s!"3":=fun q xs h=>k3 q _ (fun z=>by rw [z,eB2] at h;cases h) h
 have et3:=m3 t _ et2;have hv3:=hv2.move m3;have hw3:=hw2.move m3;generalize upd H2 L s!"u{(bs.map V.ref++[.ref t])}"=H3 at*;obtain ⟨dx3,ei3⟩:=D3.ins;left;refine ⟨_,_,_,_,_,_,_,d.2.2,rfl,D3,hw3,qn,few,fun H4 k4 D4=>?_⟩
 left;refine q H4 (fun q o e n1 n2 n3 n4=>k4 q o n2 (k3 q o n3 (k2 q o n4 s!"HK"))) D4 (fun q xs h=>?_)
 have h3:=m3 q xs s!"HV";obtain ⟨kv4,e4,_⟩:=D3.dict;exact k4 q _ (fun z=>by rw [z,e4] at h3;cases h3) h3
def NmT (f:Str->Option Tb) (t:Str):Prop:=∃ms,Names (fun n=>f n≠none) ms/\t=if ms=[] then Str.ofString "none" else Txt.join " " ms
theorem NmT.uniq {u:Str} (h1:NmT f t) (h2:NmT f u):t=u:=by
 obtain ⟨ms,n1,rfl⟩:=h1;obtain ⟨ns,n2,rfl⟩:=h2;rw [n1.uniq n2]
def zg9 (CD:Addr):Sp:=fun vs H Q _=>∃(a T L B:Addr) (st:DSt),vs=[.ref a]/\DeskAt CD H a T L B st/\Few st.f/\(∀n,st.f n≠none->n.length<=1000)/\∀t H',Same H H'->NmT st.f t->Q s!"^" H'
theorem wH (C:Cls K mg base) (F:SrcM K "shown_names" "Desk.shown_names" zT C.Desk.f_shown_names ["self"]) (B:Blt mg) (R:Rel K mg base C) (Kc:Cst K mg):DefM P w K mg base s!"p" 1 C.Desk.f_shown_names ["self"] s!"HX":=by
 refine F.ok (CX:=CXE P w) (k:=0) yo s!"t" s!"w"
 ·obtain ⟨_,_,_,_,_,rfl,_⟩:=h;rfl
 have nd:=yo.nd;obtain ⟨a,T,L,Bk,st,rfl,D,few,len,q⟩:=h;obtain ⟨dx,ei⟩:=D.ins;obtain ⟨kvs,ek,kv⟩:=D.dict;have dc:=C.Desk.cl;have dt:=C.Desk.n_tables;obtain ⟨ns,e,nd,mem⟩:=kv.names;have h1:=few ns nd fun n hn=>(mem n).mp hn
 have h2:=congrArg List.length e;rw [List.length_map,List.length_map] at h2;refine ⟨_,s!"b8-AX_{zga}C;C<HY5exAkz{"none"}{Kc.NO_NAMES.choose_spec}{⟨_,rfl⟩}exA7B`D7D8D9*a_{zeh rfl}{B.sorted}{PyProof.Rows.boot_sorted}HYg",?_⟩
 walk_at "ds";refine zd [some s!"h"] rfl ?_;left;walk_at "ite"
 ·rename_i c;obtain rfl:ns=[]:=List.length_eq_zero_iff.mp s!"c"
  left;exact q _ H s!"@" ⟨[],⟨mem,nd,rfl⟩,rfl⟩
 rename_i c;left;refine zf8 ns ek e s!"c" fun p H1 ms s1 n1 pm so e1=>?_
 have ml:=pm.length_eq;left;refine xN ms s!"B-" (zav (k:=1000) s!"f" s!"c" (fun w hw=>len w ((mem w).mp (pm.mem_iff.mp hw))) s!"d") ?_
 refine q _ H1 s1 ⟨ms,⟨fun n=>(pm.mem_iff).trans (mem n),(pm.nodup_iff).mpr nd,so⟩,(if_neg fun z=>?_).symm⟩
 rw [z] at ml;simp at ml;omega
theorem zA {f:List Str} {b:Bool} (h0:yg xG s!"A`"=false) (h:zag.find? (fun f=>yg f ps)=cond b s!"n{f}" none) (hb:b=true):zj ps f:=.inr ⟨h0,by rw [h,hb];rfl⟩
theorem zgm {p5:Str} (h1:zH p1=true) (h2:zh p2=true) (h3:zh p3=true) (h4:zh p4=true) (h5:zh p5=true):zj [Str.ofString "table",p1,p2,p3,p4,p5] [Str.ofString "table",Str.ofString "NAME",Str.ofString "NUMBER",Str.ofString "NUMBER",Str.ofString "NUMBER",Str.ofString "NUMBER"]:=zA (b:=(true && (zH p1 && (zh p2 && (zh p3 && (zh p4 && (zh p5 && true))))))) s!"," s!"," (by rw [h1,h2,h3,h4,h5];rfl)
theorem zaT (h1:zH p1=true) (h3:zH p3=true) (h4:zH p4=true):zj [Str.ofString "let",p1,Str.ofString "together",p3,p4] [Str.ofString "let",Str.ofString "NAME",Str.ofString "together",Str.ofString "KNOWN",Str.ofString "KNOWN"]:=zA (b:=(true && (zH p1 && (true && (zH p3 && (zH p4 && true)))))) s!"," s!"," (by rw [h1,h3,h4];rfl)
theorem wR (h1:zH p1=true) (h3:zH p3=true):zj [Str.ofString "let",p1,Str.ofString "back",p3] [Str.ofString "let",Str.ofString "NAME",Str.ofString "back",Str.ofString "KNOWN"]:=zA (b:=(true && (zH p1 && (true && (zH p3 && true))))) s!"," s!"," (by rw [h1,h3];rfl)
theorem zbh (h1:zH p1=true):zj [Str.ofString "drop",p1] [Str.ofString "drop",Str.ofString "KNOWN"]:=zA (b:=(true && (zH p1 && true))) s!"," s!"," (by rw [h1];rfl)
theorem zbi:zj [Str.ofString "undo"] [Str.ofString "undo"]:=zA (b:=(true && true)) s!"," s!"," rfl
theorem zbj:zj [Str.ofString "redo"] [Str.ofString "redo"]:=zA (b:=(true && true)) s!"," s!"," rfl
theorem zaj:zj [Str.ofString "names"] [Str.ofString "names"]:=zA (b:=(true && true)) s!"," s!"," rfl
theorem zib (h1:zH p1=true):zj [Str.ofString "show",p1] [Str.ofString "show",Str.ofString "KNOWN"]:=zA (b:=(true && (zH p1 && true))) s!"," s!"," (by rw [h1];rfl)
theorem zfD (h1:zH p1=true):zj [Str.ofString "number",p1] [Str.ofString "number",Str.ofString "KNOWN"]:=zA (b:=(true && (zH p1 && true))) s!"," s!"," (by rw [h1];rfl)
theorem zfE (h1:zH p1=true):zj [Str.ofString "steady",p1] [Str.ofString "steady",Str.ofString "KNOWN"]:=zA (b:=(true && (zH p1 && true))) s!"," s!"," (by rw [h1];rfl)
theorem zgn (h1:zH p1=true):zj [Str.ofString "spell",p1] [Str.ofString "spell",Str.ofString "KNOWN"]:=zA (b:=(true && (zH p1 && true))) s!"," s!"," (by rw [h1];rfl)
theorem zic (h1:zh p1=true) (h2:zh p2=true):zj [Str.ofString "sign",p1,p2] [Str.ofString "sign",Str.ofString "NUMBER",Str.ofString "NUMBER"]:=zA (b:=(true && (zh p1 && (zh p2 && true)))) s!"," s!"," (by rw [h1,h2];rfl)
theorem zgo (h1:zh p1=true) (h2:zh p2=true):zj [Str.ofString "teeth",p1,p2] [Str.ofString "teeth",Str.ofString "NUMBER",Str.ofString "NUMBER"]:=zA (b:=(true && (zh p1 && (zh p2 && true)))) s!"," s!"," (by rw [h1,h2];rfl)
theorem zfF (h1:zh p1=true) (h2:zh p2=true):zj [Str.ofString "twelve",p1,p2] [Str.ofString "twelve",Str.ofString "NUMBER",Str.ofString "NUMBER"]:=zA (b:=(true && (zh p1 && (zh p2 && true)))) s!"," s!"," (by rw [h1,h2];rfl)
theorem zfG (h1:zh p1=true) (h2:zh p2=true):zj [Str.ofString "points",p1,p2] [Str.ofString "points",Str.ofString "NUMBER",Str.ofString "NUMBER"]:=zA (b:=(true && (zh p1 && (zh p2 && true)))) s!"," s!"," (by rw [h1,h2];rfl)
theorem zeG (h1:zh p1=true) (h2:zh p2=true):zj [Str.ofString "shuffle",p1,p2] [Str.ofString "shuffle",Str.ofString "NUMBER",Str.ofString "NUMBER"]:=zA (b:=(true && (zh p1 && (zh p2 && true)))) s!"," s!"," (by rw [h1,h2];rfl)
theorem zgp (h1:zh p1=true) (h2:zh p2=true) (h3:zh p3=true) (h4:zh p4=true):zj [Str.ofString "parts",p1,p2,p3,p4] [Str.ofString "parts",Str.ofString "NUMBER",Str.ofString "NUMBER",Str.ofString "NUMBER",Str.ofString "NUMBER"]:=zA (b:=(true && (zh p1 && (zh p2 && (zh p3 && (zh p4 && true)))))) s!"," s!"," (by rw [h1,h2,h3,h4];rfl)
theorem zbk {n:Str} (h1:zH n=true) (h2:RW s!"F+" ws):zj (Str.ofString "word"::n::qs) xG:=by
 refine .inl ⟨?_,rfl,ws,h2⟩;have e:yg xG ((Str.ofString "word"::n::qs).take 2)=(true && (zH n && true)):=by kernel_rfl
 rw [e,h1];rfl
theorem zj.uniq {f g:List Str} (h1:zj ps f) (h2:zj ps g):f=g:=by
 rcases h1 with ⟨a,rfl,_⟩ | ⟨a,b⟩ <;> rcases h2 with ⟨c,rfl,_⟩ | ⟨c,d⟩
 ·rfl
 ·rw [a] at c;cases c
 ·rw [a] at c;cases c
 ·rw [b] at d;exact Option.some.inj d
theorem zj.len {f:List Str} (h:zj ps f):f.length<=ps.length:=by
 rcases h with ⟨a,rfl,_⟩ | ⟨_,b⟩
 ·unfold yg at a;have:=of_decide_eq_true s!"I6{a}".1;rw [List.length_take] at this;have e:xG.length=2:=rfl;omega
 ·have hp:yg f ps=true:=List.find?_some (p:=fun f=>yg f ps) b
  unfold yg at hp;have:=of_decide_eq_true s!"I6{hp}".1;omega
theorem zgl.names:∀{dn:List wG} {f:Str->Option Tb},zgl f dn->∀n,f n≠none->n∈dn.map (·.1)
 | [],f,h,n,hn=>by
  have h:f=fun _=>none:=h
  rw [h] at hn;exact absurd rfl hn
 | (m,a,b)::r,f,h,n,hn=>by
  obtain ⟨h1,h2⟩:=h
  by_cases e:n=m
  ·rw [e];exact List.mem_cons_self
  ·refine List.mem_cons_of_mem _ (zgl.names h2 n ?_);unfold zu;rw [if_neg e];exact hn
theorem Fine.fewN (F:Fine st):Few st.f:=fun ns nd h=>by
 have k:=zdy nd (m:=st.dn.reverse.map (·.1)) fun n hn=>F.hist.names n (h n hn)
 rw [List.length_map,List.length_reverse] at k;have:=F.few;omega
theorem Fine.nmlen (F:Fine st):∀n,st.f n≠none->n.length<=8:=fun n hn=>by
 obtain ⟨d,hd,rfl⟩:=List.mem_map.mp (F.hist.names n hn);exact (F.dds d s!"Dt{List.mem_reverse.mp hd}").2.2.2
theorem wx (f:Str->Option Tb) (n:Str) (o:Option Tb):zu (zu f n o) n (f n)=f:=by
 funext m;unfold zu
 by_cases e:m=n
 ·rw [if_pos e,e]
 ·rw [if_neg e,if_neg e]
theorem zaU (f:Str->Option Tb) (n:Str) (o:Option Tb):zu f n o n=o:=by
 unfold zu;rw [if_pos rfl]
theorem Fine.deed (F:Fine st) {n:Str} {o:Option Tb} (h1:∀x,o=some x->wQ x) (h2:o=none->st.f n≠none) (h3:n.length<=8) (h4:st.dn.length+1<=60):Fine ⟨zu st.f n o,st.dn++[(n,st.f n,o)],[]⟩:=by
 refine ⟨fun m x h=>?_,fun d hd=>?_,?_,trivial,by rw [List.length_append];exact h4⟩
 ·unfold zu at h;dsimp only at h;split at h
  ·exact h1 x h
  ·exact F.tabs m x h
 ·rw [List.append_nil] at hd;rcases List.mem_append.mp hd with z | z
  ·exact F.dds d s!"Gu"
  ·rw [List.mem_singleton.mp z];exact ⟨fun x hx=>F.tabs n x hx,h1,fun z=>h2 z.2 z.1,h3⟩
 ·show zgl _ (st.dn++[(n,st.f n,o)]).reverse;rw [List.reverse_append];refine ⟨zaU _ _ _,?_⟩;rw [wx];exact F.hist
theorem Fine.undo (F:Fine st) {dn0:List wG} (e:st.dn=dn0++[d]):Fine ⟨zu st.f d.1 d.2.1,dn0,st.bk++[d]⟩:=by
 have fd:=F.dds d s!"Dt{by rw [e];exact List.mem_append_right _ (List.mem_singleton.mpr rfl)}"
 have h:=F.hist;rw [e,List.reverse_append] at h;obtain ⟨h1,h2⟩:=h;refine ⟨fun m x h=>?_,fun c hc=>F.dds c ?_,h2,?_,?_⟩
 ·unfold zu at h;dsimp only at h;split at h
  ·exact fd.1 x h
  ·exact F.tabs m x h
 ·rw [e];simp only [List.mem_append,List.mem_singleton] at hc ⊢;rcases hc with z | z | z
  ·exact .inl s!"${z}"
  ·exact .inr z
  ·exact .inl s!"#{z}"
 ·show Fut _ (st.bk++[d]).reverse;rw [List.reverse_append];refine ⟨zaU _ _ _,?_⟩;have:zu (zu st.f d.1 d.2.1) d.1 d.2.2=st.f:=by
   rw [<-h1];exact wx st.f d.1 d.2.1
  rw [this];exact F.fut
 ·have:=F.few;rw [e,List.length_append] at this;show dn0.length+(st.bk++[d]).length<=60;rw [List.length_append];simp only [List.length_cons,List.length_nil] at this ⊢;omega
theorem Fine.redo (F:Fine st) {bk0:List wG} (e:st.bk=bk0++[d]):Fine ⟨zu st.f d.1 d.2.2,st.dn++[d],bk0⟩:=by
 have fd:=F.dds d s!"Ag{by rw [e];exact List.mem_append_right _ (List.mem_singleton.mpr rfl)}"
 have h:=F.fut;rw [e,List.reverse_append] at h;obtain ⟨h1,h2⟩:=h;refine ⟨fun m x h=>?_,fun c hc=>F.dds c ?_,?_,h2,?_⟩
 ·unfold zu at h;dsimp only at h;split at h
  ·exact fd.2.1 x h
  ·exact F.tabs m x h
 ·rw [e];simp only [List.mem_append,List.mem_singleton] at hc ⊢;rcases hc with (z | z) | z
  ·exact .inl z
  ·exact .inr s!"#{z}"
  ·exact .inr s!"${z}"
 ·show zgl _ (st.dn++[d]).reverse;rw [List.reverse_append];refine ⟨zaU _ _ _,?_⟩;have:zu (zu st.f d.1 d.2.2) d.1 d.2.1=st.f:=by
   rw [<-h1];exact wx st.f d.1 d.2.2
  rw [this];exact F.hist
 ·have:=F.few;rw [e,List.length_append] at this;show (st.dn++[d]).length+bk0.length<=60;rw [List.length_append];simp only [List.length_cons,List.length_nil] at this ⊢;omega
structure ErrC where
 ln:Addr
 nm:Addr
 tb:Addr
 mn:Addr
 dd:Addr
 wd:Addr
 ct:Addr
 od:Addr
 ap:Addr
def wy:List Str:=[Str.ofString "sign",Str.ofString "teeth",Str.ofString "twelve",Str.ofString "points",Str.ofString "shuffle"]
inductive TellC (e:ErrC) (CD:Addr) (st:DSt) (ps:List Str) (a T L B:Addr) (H:Hp) (Q:VK) (E:XK):Prop where
 | line (h:∀f,¬zj ps f) (q:∀dx H',(dx=none\/dx=some mainGlobals)->Same H H'->E s!"k{e.ln}" dx H')
 | name {f:List Str} {n:Str} (hf:zj ps f) (h:yN st.f f ps n) (q:∀d H1,Same H H1->H1 d=none->E s!"k{e.nm}" s!"B$" (upd H1 d (.xd [("name",.str n)])))
 | new {f:List Str} {x:Tb} {n:Str} (hf:zj ps f) (hk:zdK st.f f ps) (h1:ps[1]? =some n) (hm:zqv st.f ps x) (hb:∀k∈[x.1,x.2.1,x.2.2.1,x.2.2.2],k.natAbs<10^190) (qT:ps[0]? =some s!"Cy"->zeB x≠1->∀H',Same H H'->E s!"k{e.tb}" none H') (qM:ps[0]?≠some s!"Cy"->¬xH x->∀H',Same H H'->E s!"k{e.mn}" none H') (q:wQ x->∀B' H',yb a T L B H H'->H B'=none->DeskAt CD H' a T L B' ⟨zu st.f n s!"n{x}",st.dn++[(n,st.f n,some x)],[]⟩->Q s!"z{zhU x.1 x.2.1 x.2.2.1 x.2.2.2}" H')
 | drop {n:Str} (hp:ps=[Str.ofString "drop",n]) (hn:zH n=true) (hk:st.f n≠none) (q:∀B' H' t,yb a T L B H H'->H B'=none->DeskAt CD H' a T L B' ⟨zu st.f n none,st.dn++[(n,st.f n,none)],[]⟩->NmT (zu st.f n none) t->Q s!"^" H')
 | undo (hp:ps=[Str.ofString "undo"]) (q0:st.dn=[]->∀H',Same H H'->E s!"k{e.dd}" none H') (q:∀dn0 d,st.dn=dn0++[d]->∀H' t,yb a T L B H H'->DeskAt CD H' a T L B ⟨zu st.f d.1 d.2.1,dn0,st.bk++[d]⟩->NmT (zu st.f d.1 d.2.1) t->Q s!"^" H')
 | redo (hp:ps=[Str.ofString "redo"]) (q0:st.bk=[]->∀H',Same H H'->E s!"k{e.dd}" none H') (q:∀bk0 d,st.bk=bk0++[d]->∀H' t,yb a T L B H H'->DeskAt CD H' a T L B ⟨zu st.f d.1 d.2.2,st.dn++[d],bk0⟩->NmT (zu st.f d.1 d.2.2) t->Q s!"^" H')
 | names (hp:ps=[Str.ofString "names"]) (q:∀H' t,Same H H'->NmT st.f t->Q s!"^" H')
 | askT {ask n:Str} {x:Tb} (hp:ps=[ask,n]) (ha:ask∈zdJ) (hn:zH n=true) (hx:st.f n=some x) (q:zfB e.wd ask x H Q E)
 | askN {ask:Str} {qs:List Str} (hp:ps=ask::qs) (ha:(ask=Str.ofString "parts"/\qs.length=4)\/(ask∈wy/\qs.length=2)) (hn:qs.all zh=true) (q:zfC e.ct e.od e.ap ask s!"F," H Q E)
theorem zeH {w n:Str} (hn:f n≠none) (hw:¬w=Str.ofString "KNOWN"):zdK f [w,Str.ofString "KNOWN"] [w,n]:=fun j m h1 h2=>by
 match j,h1,h2 with
 | 0,h1,_=>exact absurd s!"AG" hw
 | 1,_,h2=>cases h2;exact hn
 | k+2,h1,_=>simp at h1
theorem zR (h:Str.ofString "KNOWN"∉fs):zdK f fs ps:=fun j m h1 _=>absurd s!"B<{h1}" h
theorem xb {n:Str} (ha:ask∈zdJ) (hn:zH n=true):zj [ask,n] [ask,Str.ofString "KNOWN"]:=by
 unfold zdJ at ha;simp only [List.mem_cons,List.not_mem_nil,or_false] at ha;rcases ha with rfl | rfl | rfl | rfl
 ·exact zib hn
 ·exact zfD hn
 ·exact zfE hn
 ·exact zgn hn
theorem wz (ha:(ask=Str.ofString "parts"/\qs.length=4)\/(ask∈wy/\qs.length=2)) (hn:qs.all zh=true):∃f,zj (ask::qs) f/\Str.ofString "KNOWN"∉f:=by
 rcases ha with ⟨rfl,hl⟩ | ⟨ha,hl⟩
 ·match qs,hl with
  | [a,b,c,d],_=>
   simp only [List.all_cons,List.all_nil,Bool.and_true,Bool.and_eq_true] at hn;exact ⟨_,zgp hn.1 hn.2.1 hn.2.2.1 hn.2.2.2,by decide+kernel⟩
 ·match qs,hl with
  | [a,b],_=>
   simp only [List.all_cons,List.all_nil,Bool.and_true,Bool.and_eq_true] at hn;unfold wy at ha;simp only [List.mem_cons,List.not_mem_nil,or_false] at ha;rcases ha with rfl | rfl | rfl | rfl | rfl
   ·exact ⟨_,zic hn.1 hn.2,by decide+kernel⟩
   ·exact ⟨_,zgo hn.1 hn.2,by decide+kernel⟩
   ·exact ⟨_,zfF hn.1 hn.2,by decide+kernel⟩
   ·exact ⟨_,zfG hn.1 hn.2,by decide+kernel⟩
   ·exact ⟨_,zeG hn.1 hn.2,by decide+kernel⟩
theorem zcC (ha:ask∈zdJ):¬ask=Str.ofString "KNOWN"/\ask∉[Str.ofString "table",Str.ofString "word",Str.ofString "let"]/\¬ask=Str.ofString "drop"/\¬ask=Str.ofString "undo"/\¬ask=Str.ofString "redo"/\ask∉[Str.ofString "drop",Str.ofString "undo",Str.ofString "redo",Str.ofString "names"]:=by
 unfold zdJ at ha;simp only [List.mem_cons,List.not_mem_nil,or_false] at ha;rcases ha with rfl | rfl | rfl | rfl <;> decide+kernel
theorem zkr {k:Nat} (ha:(ask=Str.ofString "parts"/\k=4)\/(ask∈wy/\k=2)):ask∉[Str.ofString "table",Str.ofString "word",Str.ofString "let"]/\¬ask=Str.ofString "drop"/\¬ask=Str.ofString "undo"/\¬ask=Str.ofString "redo"/\ask∉[Str.ofString "drop",Str.ofString "undo",Str.ofString "redo",Str.ofString "names"]:=by
 rcases ha with ⟨rfl,_⟩ | ⟨ha,_⟩
 ·decide+kernel
 ·unfold wy at ha;simp only [List.mem_cons,List.not_mem_nil,or_false] at ha;rcases ha with rfl | rfl | rfl | rfl | rfl <;> decide+kernel
theorem yN.not {n:Str} (h:yN f fs ps n) (k:zdK f fs ps):False:=by
 obtain ⟨i,h1,h2,h3,_⟩:=h;exact k i n h1 h2 h3
theorem yN.uniq {n m:Str} (h:yN f fs ps n) (k:yN f fs ps m):n=m:=by
 obtain ⟨i,h1,h2,h3,h4⟩:=h;obtain ⟨j,k1,k2,k3,k4⟩:=k;rcases Nat.lt_trichotomy i j with z | z | z
 ·exact absurd h3 (k4 i z n h1 h2)
 ·subst z;rw [h2] at k2;exact Option.some.inj k2
 ·exact absurd k3 (h4 j z m k1 k2)
theorem TellC.known (c:TellC e CD st ps a T L B H Q E):(∀f,¬zj ps f)\/(∃f n,zj ps f/\yN st.f f ps n)\/∃f,zj ps f/\zdK st.f f ps:=by
 cases c with
 | line h q=>exact .inl h
 | name hf h q=>exact .inr s!"${⟨_,_,hf,h⟩}"
 | new hf hk=>exact .inr s!"#{⟨_,hf,hk⟩}"
 | drop hp hn hk q=>subst hp;exact .inr s!"#{⟨_,zbh hn,zeH hk s!"f"⟩}"
 | undo hp q0 q=>subst hp;exact .inr s!"#{⟨_,zbi,zR s!"f"⟩}"
 | redo hp q0 q=>subst hp;exact .inr s!"#{⟨_,zbj,zR s!"f"⟩}"
 | names hp q=>subst hp;exact .inr s!"#{⟨_,zaj,zR s!"f"⟩}"
 | askT hp ha hn hx q=>subst hp;exact .inr s!"#{⟨_,xb ha hn,zeH (by rw [hx];simp) (zcC ha).1⟩}"
 | askN hp ha hn q=>
  subst hp;obtain ⟨f,hf,nk⟩:=wz ha hn;exact .inr s!"#{⟨f,hf,zR nk⟩}"
theorem TellC.mono (hq:∀v H',Q v H'->Q' v H') (he:∀c d H',E c d H'->E' c d H') (c:TellC e CD st ps a T L B H Q E):TellC e CD st ps a T L B H Q' E':=by
 cases c with
 | line h q=>exact .line h fun dx H' h1 h2=>he _ _ _ (q dx H' h1 h2)
 | name hf h q=>exact .name hf h fun d H1 h1 h2=>he _ _ _ (q d H1 h1 h2)
 | new hf hk h1 hm hb qT qM q=>exact .new hf hk h1 hm hb (fun z1 z2 H' s=>he _ _ _ (qT z1 z2 H' s)) (fun z1 z2 H' s=>he _ _ _ (qM z1 z2 H' s)) fun g B' H' r n d=>hq _ _ (q g B' H' r n d)
 | drop hp hn hk q=>exact .drop hp hn hk fun B' H' t r n d m=>hq _ _ (q B' H' t r n d m)
 | undo hp q0 q=>exact .undo hp (fun z H' s=>he _ _ _ (q0 z H' s)) fun dn0 d z H' t r k m=>hq _ _ s!"HZ"
 | redo hp q0 q=>exact .redo hp (fun z H' s=>he _ _ _ (q0 z H' s)) fun dn0 d z H' t r k m=>hq _ _ s!"HZ"
 | names hp q=>exact .names hp fun H' t s m=>hq _ _ (q H' t s m)
 | askT hp ha hn hx q=>exact .askT hp ha hn hx (q.mono hq he)
 | askN hp ha hn q=>exact .askN hp ha hn (q.mono hq he)
def Pc (w:Str):Prop:=Asc w/\w.length<=62/\32∉w.cps.toList
theorem zoK {w:Str} (h1:w.cps.all (·<128)=true) (h2:w.length<=62) (h3:32∉w.cps.toList):Pc w:=⟨xS h1,h2,h3⟩
theorem zoL (h:n.natAbs<10^60):Pc s!"A|":=⟨zl7 n,Nat.le_trans (wX s!"d" h) s!"d",zfb s!"["⟩
theorem zfH {ws:List Str} (ne:ws≠[]) (hl:ws.length<=14) (h:∀w∈ws,Pc w):Tx s!"Ia"/\Txt.split s!"Ia" " "=ws:=by
 refine ⟨⟨Asc.join zjT fun w hw=>(h w hw).1,?_⟩,?_⟩
 ·exact Nat.le_trans (zfc (m:=1) (k:=62) (n:=14) s!"f" hl fun w hw=>(h w hw).2.1) s!"d"
 ·rw [zaw];exact zck ne fun w hw=>(h w hw).2.2
theorem zeI (ws:List Str):Txt.join " " ws=Str.join " " ws:=StrLaws.glued_eq_join _ _
def zgq (e:ErrC) (CD:Addr):Sp:=fun vs H Q E=>∃(a T L B:Addr) (st:DSt) (t:Str),vs=[.ref a,.str t]/\DeskAt CD H a T L B st/\Fine st/\Tx t/\TellC e CD st s!"A#" a T L B H Q E
theorem zoM (h:Tx t):Tx (zaQ s!"A#"):=by
 have sm:=zhW t 32;rw [<-zaw] at sm;refine ⟨Asc.join zjT fun w hw=>?_,?_⟩
 ·have hw:=List.mem_of_mem_drop hw;rw [zaw] at hw;exact h.1.split hw
 ·unfold zaQ;rw [show Txt.join " " (s!"A#".drop 2)=Str.join " " (s!"A#".drop 2) from StrLaws.glued_eq_join _ _]
  have k:=StrLaws.join_length_le s!"DJ" (s!"A#".drop 2);rw [show s!"DJ".length=1 by decide+kernel,Nat.mul_one] at k
  generalize Txt.split t " "=ps at*;have e1:(ps.map fun x=>x.length).sum=(s!"A`".map fun x=>x.length).sum+(s!"Cx".map fun x=>x.length).sum:=by
   rw [<-List.sum_append_nat,<-List.map_append,List.take_append_drop]
  have e2:ps.length=s!"A`".length+s!"Cx".length:=by rw [<-List.length_append,List.take_append_drop]
  have:=h.2;have e3:1<=s!"A`".length\/ps=[]:=by
   cases ps with
   | nil=>exact .inr rfl
   | cons _ _=>apply Or.inl;simp
  rcases e3 with z | z
  ·omega
  ·rw [z] at k ⊢;simp at k ⊢;omega
theorem zeJ (C:Cls K mg base) (F:SrcM K "tell" "Desk.tell" wl C.Desk.f_tell ["self","line"]) (B:Blt mg) (R:Rel K mg base C) (Kc:Cst K mg) (D_form_of:s!"l{6}{"form_of"}{["pieces"]}H]") (D_Desk_need_known:s!"A){3}{C.Desk.f_need_known}{["self","form","pieces"]}HL") (D_Desk_new_table:s!"A){6}{C.Desk.f_new_table}{["self","pieces"]}HO") (D_Desk_do_deed:s!"A){2}{C.Desk.f_do_deed}{["self","name","table"]}HR") (D_shown_table:s!"l{5}{"shown_table"}{["table"]}{zkk}") (D_Desk_undo:s!"A){2}{C.Desk.f_undo}{["self"]}HT") (D_Desk_redo:s!"A){2}{C.Desk.f_redo}{["self"]}HW") (D_Desk_shown_names:s!"A){1}{C.Desk.f_shown_names}{["self"]}HX") (D_told_of_table:s!"l{6}{"told_of_table"}{["ask","table"]}HG") (D_told_of_numbers:s!"l{6}{"told_of_numbers"}{["ask","numbers"]}HH"):DefM P w K mg base s!"p" 7 C.Desk.f_tell ["self","line"] (zgq ⟨C.NoLine.addr,C.NoName.addr,C.NoTable.addr,C.TooMany.addr,C.NoDeed.addr,C.NoWord.addr,C.NoCount.addr,C.NotOdd.addr,C.NotApart.addr⟩ C.Desk.addr):=by
 refine F.okX (CX:=CXE P w) (k:=6) zaL s!"t" s!"w"
 ·obtain ⟨_,_,_,_,_,_,rfl,_⟩:=h;rfl
 have nd:=zaL.nd;obtain ⟨a,T,L,Bk,st,t,rfl,D,F,tx,tc⟩:=h;have tz:=tx.sz;have ok:=tx.ok 32;rw [<-zaw] at ok;have bx:=zoM tx;have pl:∀p∈Txt.split t " ",p.length<=1000:=fun p hp=>by
  rw [zaw] at hp;have:=(xQ hp).1;have:=tx.2;omega
 obtain ⟨dx,ei⟩:=D.ins;have dc:=C.Desk.cl;have dt:=C.Desk.n_tables;refine ⟨_,s!"bj{2}BzAu_BeA=A>a9aBxE0E1E2gA7B`{PySem.F.slot_str_split}{PySem.F.type_str_split}{mt_split}9A9Dhbj{3}m{D_form_of}yAEb%B>{D_Desk_need_known}{C.Desk.m_need_known}ya>AEbj{4}A'b8Dv`~a*B*bj{5}B>{D_Desk_new_table}{C.Desk.m_new_table}yAEb%B>GjGkyaA'F4exmGiyF4Dz8F-e%B>GjGkyaA'a{zii}gDz8F-e%F]{D_Desk_undo}{C.Desk.m_undo}Dz8F-e%F]{D_Desk_redo}{C.Desk.m_redo}b8Dv`~F.exF]{D_Desk_shown_names}{C.Desk.m_shown_names}b8Dv*>exm{D_told_of_table}ya`a{@zbW _ _ _ _ _ _ hr.units2 s!"A<" s!"A'" (fun _ _=>rfl)}gexm{D_told_of_numbers}ya`aBw{@PI.or _ _ _ _ _ s!"C8Ib" s!"C9Ib"}{fun pins cl ex s H=>(@pe_callTy _ _ _ _ _ _ _ _ _ zdl rfl B.int PyProof.Rows.boot_int s!"Ay" s!"d" s!"d" (by rfl) (by rfl))}g",?_⟩
 walk_at "ds";refine zd [some s!"h",some s!"^",none,none,none,none] rfl ?_;left;refine zat s!"f" tz _ rfl s!"By{ok.1}" fun l H1 s1 n1 e1=>?_
 generalize hps:Txt.split t " "=ps at*;have ok1:=ok.1;have at0:∀{i:Nat} {w:Str},ps[i]? =some w->atI s!"A5" (i:Int)=some s!"z{w}":=fun h=>xg (by rw [List.getElem?_map,h];rfl)
 have few:=F.fewN;have nml:∀n,st.f n≠none->n.length<=1000:=fun n hn=>Nat.le_trans (F.nmlen n hn) s!"d"
 have dl:=F.few;left;rcases tc.known with hL | hK
 ·cases tc with
  | line h q=>exact ⟨_,_,rfl,SqL.of e1,ok,bx,fun f hf=>absurd hf (h f),fun _ dx H2 hd s2=>q dx H2 hd s!"A!"⟩
  | name hf h q=>exact absurd hf s!"B."
  | new hf hk=>exact absurd hf s!"B."
  | drop hp hn hk q=>subst hp;exact absurd (zbh hn) s!"B."
  | undo hp q0 q=>subst hp;exact absurd zbi s!"B."
  | redo hp q0 q=>subst hp;exact absurd zbj s!"B."
  | names hp q=>subst hp;exact absurd zaj s!"B."
  | askT hp ha hn hx q=>subst hp;exact absurd (xb ha hn) s!"B."
  | askN hp ha hn q=>
   subst hp;obtain ⟨f,hf,_⟩:=wz ha hn;exact absurd hf s!"B."
 obtain ⟨f,hf⟩:∃f,zj ps f:=by
  rcases hK with ⟨f,_,hf,_⟩ | ⟨f,hf,_⟩ <;> exact ⟨f,hf⟩
 refine ⟨_,_,rfl,SqL.of e1,ok,bx,fun g hg fa H2 s2 kf=>?_,fun n=>absurd hf (n f)⟩
 obtain rfl:=hf.uniq hg;have s12:=s1.trans s2;have ei2:=s12.obj ei;have e2:=s2.obj e1;have D2:=D.same s12;left;refine ⟨_,_,_,_,_,_,_,_,_,rfl,D2,kf,SqL.of e2,hf.len,pl,fun ak H3 s3=>?_,fun n fu d H3 s3 hd=>?_⟩
 rotate_left
 ·rcases hK with ⟨g,m,hg',fm⟩ | ⟨g,hg',ak⟩
  ·cases tc with
   | name hf' h q=>
    obtain rfl:=hf.uniq hf';obtain rfl:=h.uniq fu;exact q d H3 s!"Dm" hd
   | line h q=>exact absurd hf (h _)
   | new hf' hk=>obtain rfl:=hf.uniq hf';exact (fu.not hk).elim
   | drop hp hn hk q=>subst hp;obtain rfl:=hf.uniq (zbh hn);exact (fu.not (zeH hk s!"f")).elim
   | undo hp q0 q=>subst hp;obtain rfl:=hf.uniq zbi;exact s!"F/".elim
   | redo hp q0 q=>subst hp;obtain rfl:=hf.uniq zbj;exact s!"F/".elim
   | names hp q=>subst hp;obtain rfl:=hf.uniq zaj;exact s!"F/".elim
   | askT hp ha hn hx q=>subst hp;obtain rfl:=hf.uniq (xb ha hn);exact (fu.not (zeH (by rw [hx];simp) (zcC ha).1)).elim
   | askN hp ha hn q=>
    subst hp;obtain ⟨g,hg2,nk⟩:=wz ha hn;obtain rfl:=hf.uniq hg2;exact (fu.not (zR nk)).elim
  ·obtain rfl:=hf.uniq hg';exact (fu.not ak).elim
 have s13:=s12.trans s3;have D3:=D.same s13;have ei3:=s13.obj ei;have e3:=s3.obj e2;clear s2 s3 e2 ei2 D2;left;cases tc with
 | line h q=>exact absurd hf (h _)
 | name hf' h q=>obtain rfl:=hf.uniq hf';exact (h.not ak).elim
 | new hf' hk h1 hm hb qT qM q=>
  obtain ⟨w0,h0,hw⟩:∃w,ps[0]? =some w/\w∈[Str.ofString "table",Str.ofString "word",Str.ofString "let"]:=by
   rcases hm with ⟨h,_⟩ | ⟨h,_⟩ | ⟨h,_⟩ | ⟨h,_⟩ <;> exact ⟨_,h,by decide+kernel⟩
  refine zfY.Qr s!"BP" (at0 (i:=0) h0) ?_;left;rename_i T4 H4 s4 n4 e4;refine zB [Str.ofString "table",Str.ofString "word",Str.ofString "let"] s!"BQ" ?_;rw [decide_eq_true hw];have ei4:=s4.obj ei3;have e34:=s4.obj e3;left;refine ⟨_,_,_,_,_,_,_,_,rfl,D3.same s4,SqL.of e34,ok,bx,F.tabs,hm,fun z1 z2 H5 s5=>qT z1 z2 H5 s!"Ic",fun z1 z2 H5 s5=>qM z1 z2 H5 s!"Ic",fun gd tb H5 s5 X5=>?_⟩
  have s15:=s13.trans s!"F$";have D5:=D.same s15;have ei5:=s15.obj ei;have e35:=s!"F$".obj e3;left;refine zfY.Qr s!"As{e35}" (at0 (i:=1) h1) ?_;left;refine ⟨_,_,_,_,_,_,_,some _,rfl,D5,⟨tb,rfl,X5⟩,(fun z=>by cases z),few,by omega,fun B' H6 r6 nB D6 m6=>?_⟩
  left;have X6:=X5.move m6;refine ⟨_,_,_,_,_,rfl,X6,gd.1,s!"Eb",s!"Eb",s!"Eb",s!"Eb",fun H7 s7=>?_⟩
  refine q gd B' H7 (fun q o h1 h2 h3 h4 h5=>s7.obj (r6 q o (s15.obj h1) h2 h3 h4 h5)) ?_ (D6.same s7)
  cases z:H B' with
  | none=>rfl
  | some o=>rw [s15.obj z] at nB;cases nB
 | @drop n hp hn hk q=>
  subst hp;refine zfY.Qr s!"BP" (at0 (i:=0) rfl) ?_;left;rename_i T4 H4 s4 n4 e4;refine zB [Str.ofString "table",Str.ofString "word",Str.ofString "let"] s!"BQ" ?_;rw [decide_eq_false s!"f"]
  left;have ei4:=s4.obj ei3;have e34:=s4.obj e3;have s14:=s13.trans s4;have D4:=D.same s14;refine zr (fun σ H'=>σ=[some s!"h",some s!"^",some s!"Ab",some s!"Ap",some s!"z:{"drop"}",none]/\yb a T L Bk H H'/\∃B',H B'=none/\DeskAt C.Desk.addr H' a T L B' ⟨zu st.f n none,st.dn++[(n,st.f n,none)],[]⟩) ?_ ?_
  ·left;walk_at "ite"
   rotate_left
   ·rename_i c;exact absurd rfl c
   left;refine ⟨_,_,_,_,_,_,_,none,rfl,D4,rfl,fun _=>hk,few,by omega,fun B' H6 r6 nB D6 m6=>?_⟩
   left;refine ⟨rfl,fun q o h1 h2 h3 h4 h5=>r6 q o s!"F:" h2 h3 h4 h5,B',?_,D6⟩
   cases z:H B' with
   | none=>rfl
   | some o=>rw [s14.obj z] at nB;cases nB
  rintro _ H6 ⟨rfl,r6,B',nB,D6⟩;left;refine zr (fun σ H'=>σ=[some s!"h",some s!"^",some s!"Ab",some s!"Ap",some s!"z:{"drop"}",none]/\H6=H') ?_ ?_
  ·left;walk_at "ite"
   ·rename_i c;exact absurd c s!"f"
   left;exact ⟨rfl,rfl⟩
  rintro _ _ ⟨rfl,rfl⟩;left;refine zr (fun σ H'=>σ=[some s!"h",some s!"^",some s!"Ab",some s!"Ap",some s!"z:{"drop"}",none]/\H6=H') ?_ ?_
  ·left;walk_at "ite"
   ·rename_i c;exact absurd c s!"f"
   left;exact ⟨rfl,rfl⟩
  rintro _ _ ⟨rfl,rfl⟩;left;obtain ⟨dx6,ei6⟩:=D6.ins;rename_i T5 H5 s5 n5 e5;refine zB [Str.ofString "drop",Str.ofString "undo",Str.ofString "redo",Str.ofString "names"] s!"C0" ?_;rw [decide_eq_true s!"f"]
  left;refine ⟨_,_,_,_,_,rfl,D6.same s5,fun ns nd h=>?_,fun n hn=>?_,fun t7 H7 s7 nm=>?_⟩
  ·refine few ns nd fun n hn=>?_
   have:=h n hn;unfold zu at this;dsimp only at this;split at this
   ·exact absurd rfl this
   ·exact this
  ·refine nml n ?_;unfold zu at hn;dsimp only at hn;split at hn
   ·exact absurd rfl hn
   ·exact hn
  ·exact q B' H7 t7 (fun q o h1 h2 h3 h4 h5=>s7.obj (s5.obj (r6 q o h1 h2 h3 h4 h5))) nB s!"F;" nm
 | undo hp q0 q=>
  subst hp;refine zfY.Qr s!"BP" (at0 (i:=0) rfl) ?_;left;rename_i T4 H4 s4 n4 e4;refine zB [Str.ofString "table",Str.ofString "word",Str.ofString "let"] s!"BQ" ?_;rw [decide_eq_false s!"f"]
  left;have s14:=s13.trans s4;have D4:=D.same s14;refine zr (fun σ H'=>σ=[some s!"h",some s!"^",some s!"Ab",some s!"Ap",some s!"F<",none]/\H4=H') ?_ ?_
  ·left;walk_at "ite"
   ·rename_i c;exact absurd c s!"f"
   left;exact ⟨rfl,rfl⟩
  rintro _ _ ⟨rfl,rfl⟩;left;refine zr (fun σ H'=>σ=[some s!"h",some s!"^",some s!"Ab",some s!"Ap",some s!"F<",none]/\yb a T L Bk H H'/\∃xs d,st.dn=xs++[d]/\DeskAt C.Desk.addr H' a T L Bk ⟨zu st.f d.1 d.2.1,xs,st.bk++[d]⟩) ?_ ?_
  ·left;walk_at "ite"
   rotate_left
   ·rename_i c;exact absurd rfl c
   left;refine ⟨_,_,_,_,_,rfl,D4,few,by omega,fun z H6 s6=>q0 z H6 (s14.trans s6),fun xs d e=>⟨fun z=>?_,fun H6 r6 D6 _=>?_⟩⟩
   ·have fd:=F.dds d (by rw [e];simp)
    have hh:=F.hist;rw [e,List.reverse_append] at hh;rw [hh.1];exact fun y=>fd.2.2.1 ⟨z,y⟩
   ·left;exact ⟨rfl,fun q o h1 h2 h3 h4 h5=>r6 q o s!"F:" h2 h3 h4 h5,xs,d,e,D6⟩
  rintro _ H6 ⟨rfl,r6,xs,d,e,D6⟩;left;refine zr (fun σ H'=>σ=[some s!"h",some s!"^",some s!"Ab",some s!"Ap",some s!"F<",none]/\H6=H') ?_ ?_
  ·left;walk_at "ite"
   ·rename_i c;exact absurd c s!"f"
   left;exact ⟨rfl,rfl⟩
  rintro _ _ ⟨rfl,rfl⟩;left;obtain ⟨dx6,ei6⟩:=D6.ins;rename_i T5 H5 s5 n5 e5;refine zB [Str.ofString "drop",Str.ofString "undo",Str.ofString "redo",Str.ofString "names"] s!"C0" ?_;rw [decide_eq_true s!"f"]
  left;have F2:=F.undo e;refine ⟨_,_,_,_,_,rfl,D6.same s5,F2.fewN,(fun n hn=>Nat.le_trans (F2.nmlen n hn) s!"d"),fun t7 H7 s7 nm=>?_⟩
  exact q xs d e H7 t7 (fun q o h1 h2 h3 h4 h5=>s7.obj (s5.obj (r6 q o h1 h2 h3 h4 h5))) s!"F;" nm
 | redo hp q0 q=>
  subst hp;refine zfY.Qr s!"BP" (at0 (i:=0) rfl) ?_;left;rename_i T4 H4 s4 n4 e4;refine zB [Str.ofString "table",Str.ofString "word",Str.ofString "let"] s!"BQ" ?_;rw [decide_eq_false s!"f"]
  left;have s14:=s13.trans s4;have D4:=D.same s14;refine zr (fun σ H'=>σ=[some s!"h",some s!"^",some s!"Ab",some s!"Ap",some s!"zDp",none]/\H4=H') ?_ ?_
  ·left;walk_at "ite"
   ·rename_i c;exact absurd c s!"f"
   left;exact ⟨rfl,rfl⟩
  rintro _ _ ⟨rfl,rfl⟩;left;refine zr (fun σ H'=>σ=[some s!"h",some s!"^",some s!"Ab",some s!"Ap",some s!"zDp",none]/\H4=H') ?_ ?_
  ·left;walk_at "ite"
   ·rename_i c;exact absurd c s!"f"
   left;exact ⟨rfl,rfl⟩
  rintro _ _ ⟨rfl,rfl⟩;left;refine zr (fun σ H'=>σ=[some s!"h",some s!"^",some s!"Ab",some s!"Ap",some s!"zDp",none]/\yb a T L Bk H H'/\∃xs d,st.bk=xs++[d]/\DeskAt C.Desk.addr H' a T L Bk ⟨zu st.f d.1 d.2.2,st.dn++[d],xs⟩) ?_ ?_
  ·left;walk_at "ite"
   rotate_left
   ·rename_i c;exact absurd rfl c
   left;refine ⟨_,_,_,_,_,rfl,D4,few,by omega,fun z H6 s6=>q0 z H6 (s14.trans s6),fun xs d e=>⟨fun z=>?_,fun H6 r6 D6 _=>?_⟩⟩
   ·have fd:=F.dds d (by rw [e];simp)
    have hh:=F.fut;rw [e,List.reverse_append] at hh;rw [hh.1];exact fun y=>fd.2.2.1 ⟨y,z⟩
   ·left;exact ⟨rfl,fun q o h1 h2 h3 h4 h5=>r6 q o s!"F:" h2 h3 h4 h5,xs,d,e,D6⟩
  rintro _ H6 ⟨rfl,r6,xs,d,e,D6⟩;left;obtain ⟨dx6,ei6⟩:=D6.ins;rename_i T5 H5 s5 n5 e5;refine zB [Str.ofString "drop",Str.ofString "undo",Str.ofString "redo",Str.ofString "names"] s!"C0" ?_;rw [decide_eq_true s!"f"]
  left;have F2:=F.redo e;refine ⟨_,_,_,_,_,rfl,D6.same s5,F2.fewN,(fun n hn=>Nat.le_trans (F2.nmlen n hn) s!"d"),fun t7 H7 s7 nm=>?_⟩
  exact q xs d e H7 t7 (fun q o h1 h2 h3 h4 h5=>s7.obj (s5.obj (r6 q o h1 h2 h3 h4 h5))) s!"F;" nm
 | names hp q=>
  subst hp;refine zfY.Qr s!"BP" (at0 (i:=0) rfl) ?_;left;rename_i T4 H4 s4 n4 e4;refine zB [Str.ofString "table",Str.ofString "word",Str.ofString "let"] s!"BQ" ?_;rw [decide_eq_false s!"f"]
  left;have s14:=s13.trans s4;have D4:=D.same s14;have ei4:=s4.obj ei3;refine zr (fun σ H'=>σ=[some s!"h",some s!"^",some s!"Ab",some s!"Ap",some s!"zC1",none]/\H4=H') ?_ ?_
  ·left;walk_at "ite"
   ·rename_i c;exact absurd c s!"f"
   left;exact ⟨rfl,rfl⟩
  rintro _ _ ⟨rfl,rfl⟩;left;refine zr (fun σ H'=>σ=[some s!"h",some s!"^",some s!"Ab",some s!"Ap",some s!"zC1",none]/\H4=H') ?_ ?_
  ·left;walk_at "ite"
   ·rename_i c;exact absurd c s!"f"
   left;exact ⟨rfl,rfl⟩
  rintro _ _ ⟨rfl,rfl⟩;left;refine zr (fun σ H'=>σ=[some s!"h",some s!"^",some s!"Ab",some s!"Ap",some s!"zC1",none]/\H4=H') ?_ ?_
  ·left;walk_at "ite"
   ·rename_i c;exact absurd c s!"f"
   left;exact ⟨rfl,rfl⟩
  rintro _ _ ⟨rfl,rfl⟩;left;rename_i T5 H5 s5 n5 e5;refine zB [Str.ofString "drop",Str.ofString "undo",Str.ofString "redo",Str.ofString "names"] s!"C0" ?_;rw [decide_eq_true s!"f"]
  left;exact ⟨_,_,_,_,_,rfl,D4.same s5,few,nml,fun t7 H7 s7 nm=>q H7 t7 (s14.trans (s5.trans s7)) nm⟩
 | @askT ask n x hp ha hn hx q=>
  obtain ⟨a0,a1,a2,a3,a4,a5⟩:=zcC ha;subst hp;refine zfY.Qr s!"BP" (at0 (i:=0) rfl) ?_;left;rename_i T4 H4 s4 n4 e4;refine zB [Str.ofString "table",Str.ofString "word",Str.ofString "let"] s!"BQ" ?_;rw [decide_eq_false (a1)];left;have s14:=s13.trans s4;have D4:=D.same s14;have ei4:=s4.obj ei3;have e34:=s4.obj e3;refine zr s!"C2" ?_ ?_
  ·left;walk_at "ite"
   ·rename_i c;exact absurd c (a2)
   left;exact ⟨rfl,rfl⟩
  rintro _ _ ⟨rfl,rfl⟩;left;refine zr s!"C2" ?_ ?_
  ·left;walk_at "ite"
   ·rename_i c;exact absurd c (a3)
   left;exact ⟨rfl,rfl⟩
  rintro _ _ ⟨rfl,rfl⟩;left;refine zr s!"C2" ?_ ?_
  ·left;walk_at "ite"
   ·rename_i c;exact absurd c (a4)
   left;exact ⟨rfl,rfl⟩
  rintro _ _ ⟨rfl,rfl⟩;left;rename_i T5 H5 s5 n5 e5;refine zB [Str.ofString "drop",Str.ofString "undo",Str.ofString "redo",Str.ofString "names"] s!"C0" ?_;rw [decide_eq_false (a5)];left;have s15:=s14.trans s5;have D5:=D.same s15;have ei5:=s5.obj ei4;have e35:=s5.obj e34;obtain rfl:=hf.uniq (xb ha hn);refine zB _ (kf H5) ?_;rw [decide_eq_true s!"s"]
  obtain ⟨kvs,ek,kv⟩:=D5.dict;obtain ⟨tb,v1,X1⟩:=kv.vals n x hx;left;refine ww ek v1 ?_;left;exact ⟨_,_,_,rfl,ha,X1,F.tabs n x hx,q.same s15⟩
 | @askN ask qs hp ha hn q=>
  obtain ⟨a1,a2,a3,a4,a5⟩:=zkr ha;subst hp;refine zfY.Qr s!"BP" (at0 (i:=0) rfl) ?_;left;rename_i T4 H4 s4 n4 e4;refine zB [Str.ofString "table",Str.ofString "word",Str.ofString "let"] s!"BQ" ?_;rw [decide_eq_false (a1)];left;have s14:=s13.trans s4;have D4:=D.same s14;have ei4:=s4.obj ei3;have e34:=s4.obj e3;refine zr s!"C2" ?_ ?_
  ·left;walk_at "ite"
   ·rename_i c;exact absurd c (a2)
   left;exact ⟨rfl,rfl⟩
  rintro _ _ ⟨rfl,rfl⟩;left;refine zr s!"C2" ?_ ?_
  ·left;walk_at "ite"
   ·rename_i c;exact absurd c (a3)
   left;exact ⟨rfl,rfl⟩
  rintro _ _ ⟨rfl,rfl⟩;left;refine zr s!"C2" ?_ ?_
  ·left;walk_at "ite"
   ·rename_i c;exact absurd c (a4)
   left;exact ⟨rfl,rfl⟩
  rintro _ _ ⟨rfl,rfl⟩;left;rename_i T5 H5 s5 n5 e5;refine zB [Str.ofString "drop",Str.ofString "undo",Str.ofString "redo",Str.ofString "names"] s!"C0" ?_;rw [decide_eq_false (a5)];left;have s15:=s14.trans s5;have e35:=s5.obj e34;obtain ⟨g,hg2,nk⟩:=wz ha hn;obtain rfl:=hf.uniq hg2;refine zB _ (kf H5) ?_;rw [decide_eq_false nk];left;have ql:qs.length<=4:=by rcases ha with ⟨_,h⟩ | ⟨_,h⟩ <;> omega
  refine yX ?_;left;rename_i D6 H6 s6 n6 e6;rw [show wE (List.map V.str (ask::qs)) s!"B%" none=qs.map V.str from zcA (List.map V.str (ask::qs)) 1] at e6
  refine yu (s!"F,".map V.int) s!"As{e6}" (by rw [List.length_map,List.length_map,List.length_map]) (by rw [List.length_map];omega) (fun i x y H' Q' hx hy s' hQ=>?_) fun D7 H7 s7 n7 e7=>?_
  ·rw [List.getElem?_map] at hx hy;rw [List.getElem?_map] at hy;cases hw:qs[i]? with
   | none=>rw [hw] at hx;cases hx
   | some w=>
   rw [hw] at hx hy;cases hx;cases hy;obtain ⟨b1,b2⟩:=zbv (List.all_eq_true.mp hn w s!"DY");left;refine zgQ b1 s!"By{b2}" ?_
   exact hQ _ s!"@"
  left;exact ⟨_,_,_,rfl,SqL.of e7,zg2 hn rfl,(by rw [List.length_map];exact ha),q.same (s15.trans (s6.trans s7))⟩
def zgr (K:PySem.W.Frag):Sp:=fun vs H Q _=>∃(a:Addr) (ns:List Int) (k:Int),vs=[.ref a,.int k]/\SqL K H a s!"Ai"/\0<=k/\k<=1000/\∀v:Int,Q s!"A^" H
theorem zks (h1:SqL K H a s!"Ai") (h0:0<=k) (h2:k<=1000) (h:∀v:Int,Q s!"A^" H):zgr K [.ref a,.int k] H Q E:=⟨a,ns,k,rfl,h1,h0,h2,h⟩
local macro_rules|`(tactic|walk_at "rdcall")=>`(tactic|((with_reducible refine' zks ?a ?b ?c ?_);(case a=>walk_at "h");(case b=>omega);(case c=>omega);intro _))
theorem zeK (F:Src K mg "_law_cell" wm ["_law_script","_law_k"]) (B:Blt mg) (C:Cls K mg base) (R:Rel K mg base C) (Kc:Cst K mg):Def P w K mg base s!"p" 1 "_law_cell" ["_law_script","_law_k"] (zgr K):=by
 refine F.ok (CX:=CXE P w) (k:=0) zaM s!"t" s!"w"
 ·obtain ⟨_,_,_,rfl,_⟩:=h;rfl
 have nd:=zaM.nd;obtain ⟨a,ns,k,rfl,hS,h0,h1,q⟩:=h;refine ⟨_,s!"b8-AXBN5exiAo5H&b8-{zfX}9BNexA$B~v9exi|A$B~viA89BNDV",?_⟩
 walk_at "ds";refine zd [some s!"h",some s!"2{k}"] rfl ?_;have hl:s!"Ai".length=ns.length:=List.length_map _;left;walk_at "ite"
 ·left;exact q _
 ·rename_i c0;left;walk_at "ite"
  ·rename_i c1;left;refine wU hS s!"c" s!"c" fun v _ _=>?_
   left;exact q _
  ·rename_i c1;left;refine wU hS s!"Ec" (by have:=Int.emod_lt_of_pos k (show (0:Int)<(s!"Ai".length:Int) by omega);omega) fun v _ _=>?_
   left;exact q _
def zeL:Sp:=fun vs H Q _=>∃c k p:Int,vs=[.int c,.int k,.int p]/\0<=k/\k<=1000/\0<p/\∀v:Int,0<=v->v<p->Q s!"A^" H
theorem zid {p:Int} (h0:0<=k) (h1:k<=1000) (hp:0<p) (h:∀v:Int,0<=v->v<p->Q s!"A^" H):zeL [.int c,.int k,.int p] H Q E:=⟨c,k,p,rfl,h0,h1,hp,h⟩
local macro_rules|`(tactic|walk_at "rdcall")=>`(tactic|((with_reducible refine zid ?a ?b ?c ?_);(case a=>omega);(case b=>omega);(case c=>omega);intro _ _ _))
theorem zcU (F:Src K mg "_law_mixed" xo ["_law_cell_here","_law_k","_law_prime"]) (B:Blt mg) (C:Cls K mg base) (R:Rel K mg base C) (Kc:Cst K mg):Def P w K mg base s!"p" 1 "_law_mixed" ["_law_cell_here","_law_k","_law_prime"] zeL:=by
 refine F.ok (CX:=CXE P w) (k:=0) wO s!"t" s!"w"
 ·obtain ⟨_,_,_,rfl,_⟩:=h;rfl
 have nd:=wO.nd;obtain ⟨c,k,p,rfl,h0,h1,hp,q⟩:=h;refine ⟨_,s!"bj{3}iA8iAoi|i|i|viAoDV9DV555bj{3}iA8iAo>>5exiA8iAo>5/",?_⟩
 walk_at "ds";refine zd [some s!"BO",some s!"2{k}",some s!"C3",none] rfl ?_;left;exact q _ s!"Ec" (Int.emod_lt_of_pos _ hp)
def zgs (fs ws:List Int):Prop:=fs.length=ws.length/\∀(i:Nat) (v w:Int),fs[i]? =some v->ws[i]? =some w->0<=v/\v<w
def wA (K:PySem.W.Frag):Sp:=fun vs H Q _=>∃(c:Int) (a:Addr) (ws:List Int) (p:Int),vs=[.int c,.ref a,.int p]/\SqL K H a s!"Ed"/\ws.length<=100/\(∀x∈ws,0<x/\x<2^60)/\0<p/\
 ∀(r:Addr) (H':Hp) (fs:List Int),Same H H'->H r=none->H' r=some s!"uEe"->zgs fs ws->Q s!"At" H'
theorem wB {p:Int} (ws:List Int) (h1:SqL K H a s!"Ed") (h2:ws.length<=100) (h3:∀x∈ws,0<x/\x<2^60) (hp:0<p)
 (h:∀(r:Addr) (H':Hp) (fs:List Int),Same H H'->H r=none->H' r=some s!"uEe"->zgs fs ws->Q s!"At" H'):wA K [.int c,.ref a,.int p] H Q E:=⟨c,a,ws,p,rfl,h1,h2,h3,hp,h⟩
theorem zcV (F:Src K mg "_law_draws" xq ["_law_cell_here","_law_widths","_law_prime"]) (B:Blt mg) (C:Cls K mg base) (R:Rel K mg base C) (Kc:Cst K mg) (D__law_mixed:s!"l{1}{"_law_mixed"}{["_law_cell_here","_law_k","_law_prime"]}{zeL}"):Def P w K mg base s!"p" 2 "_law_draws" ["_law_cell_here","_law_widths","_law_prime"] (wA K):=by
 refine F.ok (CX:=CXE P w) (k:=1) wP s!"t" s!"w"
 ·obtain ⟨_,_,_,_,rfl,_⟩:=h;rfl
 have nd:=wP.nd;obtain ⟨c,a,ws,p,rfl,hS,h100,hw,hp,q⟩:=h;have hl:s!"Ed".length=ws.length:=List.length_map _;refine ⟨_,s!"bF5Dz8-D3vIeej{3}iB5vIebH9bB=D4{@zcY _ _ _ _ _ _ rfl B.range s!"aF#g" (by rfl)}H'e{@ps_if _ _ _ _ _ _ _ _ s!"-D2>5" s!"b%A7B1B2B3B4`aiA8>F=gej{3}iA->F=" s!"e%A7B1B2B3B4`aiA8m{D__law_mixed}AcavaBtAEF=g"}F3",?_⟩
 walk_at "ds";refine zd [some s!"BO",some s!"h",some s!"C3",none,none,none] rfl ?_;left;refine zr (fun σ H'=>H=H'/\∃x:Int,σ=[some s!"BO",some s!"h",some s!"C3",some s!"2{x}",none,none]) ?_ ?_
 ·left;walk_at "ite"
  ·left;exact ⟨rfl,_,rfl⟩
  ·left;exact ⟨rfl,_,rfl⟩
 rintro σ _ ⟨rfl,x0,rfl⟩;left;rename_i r H1 s1 hn1 e1;refine zcZ (n:=((ws.map V.int).length:Int).toNat) (fun i σ H2=>Same H H2/\i<=ws.length/\∃(x:Int) (fs:List Int) (z:Option V),σ=[some (.int c),some (.ref a),some (.int p),some (.int x),some (.ref r),z]/\
  H2 r=some (.lst (fs.map V.int))/\fs.length=i/\∀(i:Nat) (v w:Int),fs[i]? =some v->ws[i]? =some w->0<=v/\v<w) ⟨s1,Nat.zero_le _,x0,[],_,rfl,e1,rfl,fun i v w h=>by simp at h⟩ ?_ ?_
 ·rintro i σ H2 hi ⟨s2,hi',x,fs,z,rfl,e2,hfl,hfs⟩;have hi2:i<ws.length:=by omega
  obtain ⟨y,hy⟩:∃y,ws[i]? =some y:=⟨_,List.getElem?_eq_getElem hi2⟩;have hyp:=hw y s!"B<{hy}";have hS2:SqL K H2 a s!"Ed":=s2.seq hS;have grow:∀v:Int,0<=v->v<y->(fs++[v]).length=i+1/\∀(i:Nat) (v' w:Int),(fs++[v])[i]? =some v'->ws[i]? =some w->0<=v'/\v'<w:=fun v h0 h1=>by
   refine ⟨by rw [List.length_append,hfl];rfl,fun j v' w hv hw'=>?_⟩
   rcases Nat.lt_trichotomy j i with hj | hj | hj
   ·rw [List.getElem?_append_left s!"c"] at hv
    exact hfs j v' w hv hw'
   ·subst hj;rw [List.getElem?_append_right s!"c",hfl,Nat.sub_self] at hv
    rw [hy] at hw';cases hv;cases hw';exact ⟨h0,h1⟩
   ·rw [List.getElem?_eq_none (by rw [List.length_append,hfl];simp;omega)] at hv
    cases hv
  have em:∀v:Int,s!"Ee"++[.int v]=(fs++[v]).map V.int:=fun v=>by rw [List.map_append];rfl
  have ei:(0:Int)+(i:Int)=(i:Int):=by omega
  have hz:s!"Ee".length<sizeLine:=by rw [List.length_map,hfl];exact zk s!"c"
  rw [ei];left;walk_at "ite"
  ·left;refine wU hS2 s!"c" s!"c" fun v _ hv=>?_
   rw [Int.toNat_natCast,hy] at hv;cases hv;left;refine zU e2 hz ?_;left;refine wU ((s2.upd hn1).seq hS) s!"c" s!"c" fun v _ hv=>?_
   rw [Int.toNat_natCast,hy] at hv;cases hv;left;exact ⟨s2.upd hn1,hi2,_,_,_,rfl,by rw [em];exact ze,grow _ s!"Ec" s!"If"⟩
  ·left;refine wU hS2 s!"c" s!"c" fun v _ hv=>?_
   rw [Int.toNat_natCast,hy] at hv;cases hv;left;refine zU e2 hz ?_;left;exact ⟨s2.upd hn1,hi2,_,_,_,rfl,by rw [em];exact ze,grow _ s!"Ec" s!"If"⟩
 ·rintro σ H2 ⟨s2,hi',x,fs,z,rfl,e2,hfl,hfs⟩;left;exact q r H2 fs s2 hn1 e2 ⟨by omega,hfs⟩
def E9 (l n o c p:Addr) (Q:VK):XK:=fun cls _ H=>(cls=.ref l/\∀H1,Same H H1->Q s!"z:{"line"}" H1)\/((cls=.ref n\/cls=.ref c\/cls=.ref o\/cls=.ref p)/\∀H1,Same H H1->Q s!"z:{"other"}" H1)
def T9 (Q:VK):VK:=fun _ H=>∀H1,Same H H1->Q s!"z:{"told"}" H1
def znq (e:ErrC) (CD:Addr):Sp:=fun vs H Q _=>∃(a T L B:Addr) (st:DSt) (t:Str),vs=[.ref a,.str t]/\DeskAt CD H a T L B st/\Fine st/\Tx t/\TellC e CD st s!"A#" a T L B H (T9 Q) s!"Ef"
theorem zeM (F:Src K mg "_law_told" wn ["_law_desk","_law_line"]) (B:Blt mg) (C:Cls K mg base) (R:Rel K mg base C) (Kc:Cst K mg) (D_Desk_tell:s!"A){7}Gl{["self","line"]}{zgq ⟨C.NoLine.addr,C.NoName.addr,C.NoTable.addr,C.TooMany.addr,C.NoDeed.addr,C.NoWord.addr,C.NoCount.addr,C.NotOdd.addr,C.NotApart.addr⟩ C.Desk.addr}"):Def P w K mg base s!"p" 8 "_law_told" ["_law_desk","_law_line"] (znq ⟨C.NoLine.addr,C.NoName.addr,C.NoTable.addr,C.TooMany.addr,C.NoDeed.addr,C.NoWord.addr,C.NoCount.addr,C.NotOdd.addr,C.NotApart.addr⟩ C.Desk.addr):=by
 refine F.ok (CX:=CXE P w) (k:=7) zaN s!"t" s!"w"
 ·obtain ⟨_,_,_,_,_,_,rfl,_⟩:=h;rfl
 have nd:=zaN.nd;obtain ⟨a,T,L,Bk,st,t,rfl,D,fn,tx,tc⟩:=h;obtain ⟨dx,ei⟩:=D.ins;have dc:=C.Desk.cl;have z1:=C.NoLine.exc;have k3:=R.rls;refine ⟨_,s!"bF>b{@zi1 _ _ _ _ _ _ _ rfl rfl (fun pins W=>s!"e%B>{D_Desk_tell}{C.Desk.m_tell}{zc8}Aq") (@zlA _ _ _ _ _ _ 3 _ _ _ _ _ rfl C.NoLine.gl C.NoLine.cat nd rfl rfl (fun pins a oe cls dx hcls hxo=>s!"bj{4}_E8A=A>a>a~aAkHl{C.NoCount.gl}&aAkHm{C.NoDeed.gl}&aAkHn{C.NoName.gl}&aAkHo{C.NotApart.gl}&aAkHp{C.NoTable.gl}&aAkHq{C.NotOdd.gl}&aAkHr{C.NoWord.gl}&aAkHs{C.TooMany.gl}&aAkHt{C.NoPaper.gl}&aAkHu{C.NoPrime.gl}&ggbj{5}_E8A=A>a>a~aAkHv{C.NoRow.gl}&aAkHw{C.NoShuffle.gl}&aAkHx{C.NoText.gl}&aAkHy{C.NoFraction.gl}&ggej{2}BzA&EqAu_E8A=A>a>aAkk{C.SawError.addr}{C.SawError.gl}&gEqA]Au`{@pw_and1 _ _ _ _ s!"A]AuBt"}**") (ph_cons0 rfl C.SawError.gl C.SawError.cat (fun pins a oe cls dx hcls hxo=>s!"eF>") zoh) s!"d")}Dg",?_⟩
 walk_at "ds";refine zd [some s!"h",some s!"^",none,none,none,none] rfl ?_;left;refine zi3 (fun cls dx σ' H'=>σ'=[some s!"h",some s!"^",some s!"z{"told"}",none,none,none]/\E9 C.NoLine.addr C.NoName.addr C.NotOdd.addr C.NoCount.addr C.NotApart.addr Q cls dx H') ?_ ?_
 ·left;refine ⟨_,_,_,_,_,_,rfl,D,fn,tx,tc.mono (fun v H' q=>?_) fun c d H' q=>⟨rfl,q⟩⟩
  left;exact q _ s!"@"
 ·rintro cls dx ad σ' H' ⟨rfl,⟨hcls,q⟩ | ⟨hcls,q⟩⟩
  ·obtain rfl:=hcls;refine zf1.Qp R.rl ?_;left;refine zi2.Qo z1 (by walk_at "h") R.r10 rfl ?_
   left;refine zi2.Qo z1 (by walk_at "h") R.r4 rfl ?_
   left;exact q _ (by walk_at "sm")
  ·rcases hcls with rfl | rfl | rfl | rfl
   ·refine zf1.Qq R.rn0 ?_;refine zb0 R.rs0 ?_;left;exact q _ s!"@"
   ·refine zf1.Qq R.rn1 ?_;refine zb0 R.rs1 ?_;left;exact q _ s!"@"
   ·refine zf1.Qq R.rn2 ?_;refine zb0 R.rs2 ?_;left;exact q _ s!"@"
   ·refine zf1.Qq R.rn3 ?_;refine zb0 R.rs3 ?_;left;exact q _ s!"@"
def chk:List Str->Bool
 | []=>true
 | [_]=>false
 | l::n::r=>(decide (l=Str.ofString "u") || decide (l=Str.ofString "v")) && zh n && decide (1<=zo n) && decide (r.head?≠some l) && chk r
theorem zoN (b:Bool):(decide (ltr b=Str.ofString "u") || decide (ltr b=Str.ofString "v"))=true:=by cases b <;> decide+kernel
theorem zoO {a b:Bool} (h:a≠b):ltr a≠ltr b:=by revert h;revert a b;decide+kernel
theorem zcS.chk:∀{ws:List (Bool×Int)} {ps:List Str},zcS ps ws->Mth.Alt ws->chk ps=true
 | [],ps,h,_=>by
  rw [List.length_eq_zero_iff.mp h.1];rfl
 | p::ws,ps,h,a=>by
  obtain ⟨hl,hr⟩:=h;obtain _ | ⟨l,_ | ⟨n,r⟩⟩:=ps
  ·simp at hl
  ·simp at hl;omega
  ·obtain ⟨e1,m,e2,e3,e4,e5⟩:=hr 0 p rfl;cases e1;cases e2;have R:zcS r ws:=⟨by simp at hl;omega,fun i q hq=>by
    have:=hr (i+1) q hq
    rwa [show 2*(i+1)=2*i+1+1 by omega] at this⟩
   have A:Mth.Alt ws:=fun i p q h1 h2=>a (i+1) p q h1 h2
   have hd:r.head?≠some (ltr p.1):=fun z=>by
    obtain _ | ⟨q,ws⟩:=ws
    ·rw [List.length_eq_zero_iff.mp R.1] at z;cases z
    ·have k:=(R.2 0 q rfl).1;rw [List.head?_eq_getElem?] at z;exact zoO (a 0 p q rfl rfl) s!"Bb{z.symm.trans k}"
   show ((decide _ || decide _) && zh n && decide (1<=zo n) && decide (r.head?≠some (ltr p.1)) && My.chk r)=true
   rw [zoN,e3,decide_eq_true (show 1<=zo n by omega),decide_eq_true hd,zcS.chk R A]
   rfl
def noB (ps:List Str):Bool:=if yg xG s!"A`" then !(decide (zaQ ps=Str.ofString "none") || chk s!"BVAY") else (zag.find? fun f=>yg f ps).isNone
theorem zoP (h:noB ps=true) (f:List Str):¬zj ps f:=fun z=>by
 unfold noB at h;rcases z with ⟨e,_,ws,hw⟩ | ⟨e,z⟩
 ·rw [if_pos e] at h;rcases hw with ⟨k,_⟩ | ⟨k,r,al⟩
  ·rw [decide_eq_true k] at h;cases h
  ·rw [r.chk al,Bool.or_true] at h;cases h
 ·rw [if_neg (by rw [e];decide),z] at h
  cases h
def zgt:V->Bool
 | .str t=>t.cps.all (·<128) && decide (t.length<=900) && noB s!"A#"
 | _=>false
theorem zmo (h:zgt v=true):∃t,v=.str t/\Tx t/\∀f,¬zj s!"A#" f:=by
 cases v with
 | str t=>
  have h:(t.cps.all (·<128) && decide (t.length<=900) && noB s!"A#")=true:=h
  rw [Bool.and_eq_true,Bool.and_eq_true,decide_eq_true_eq] at h;exact ⟨t,rfl,⟨xS h.1.1,h.1.2⟩,zoP h.2⟩
 | _=>cases h
def znr:Sp:=fun vs H Q _=>vs=[]/\∀r H' (us:List V),Same H H'->H' r=some s!"u{us}"->us.all zgt=true->0<us.length->us.length<=200->Q s!"At" H'
theorem zfI (F:Src K mg "_law_bad" zae []) (B:Blt mg) (C:Cls K mg base) (R:Rel K mg base C) (Kc:Cst K mg):Def P w K mg base s!"p" 1 "_law_bad" [] znr:=by
 refine F.ok (CX:=CXE P w) (k:=0) zbF s!"t" s!"w"
 ·obtain ⟨rfl,_⟩:=h;rfl
 have nd:=zbF.nd;obtain ⟨rfl,q⟩:=h;have mk:MulOk s!"Eg" 61:=by
  unfold MulOk;decide+kernel
 have ml:(Txt.mul s!"Eg" 61).length<=61:=by decide+kernel
 refine ⟨_,s!"bj{0})a*a*a*IgbB/bIhbB/bIibF?bj{0}i|v)aIjF.bB/bIlbB/bj{0}i|v)aIka*F.bF?bIibB/bImbIhbj{0}i|v)IgbB/bImbB/bIlbj{0}i|v)a*aIjB*bF?bj{0}i|v)a*aIkB*bB/exi|v)a*B*",?_⟩
 walk_at "ds";refine zd [none] rfl ?_;left;refine zbZ mk ?_;generalize hm:Txt.mul s!"Eg" 61=m9;rw [hm] at ml;left;refine zbZ mk ?_;rw [hm];left;refine zbZ mk ?_;rw [hm];left;refine zbZ mk ?_;rw [hm];left;rename_i r Hr sr nr er;subst hm;exact q r Hr _ (by walk_at "sm") er s!"f" s!"f" s!"f"
def sg9:Str:=Str.ofString "!\"#$&'()*+,-./:;<=>?@ABCDEFGHIJKLMNOPQRSTUVWXYZ[\\]^_`{|}~"
theorem zoQ (h0:0<=i) (h1:i<57):∃c∈sg9.cps.toList,atI sg9.cps.toList i=some c:=by
 have k:∀j:Fin 57,∃c∈sg9.cps.toList,atI sg9.cps.toList ((j:Nat):Int)=some c:=by decide+kernel
 have:=k ⟨i.toNat,by omega⟩
 rwa [show ((i.toNat:Nat):Int)=i by omega] at this
def zqw (k:Nat):List V:=[V.str (Str.ofString "show a"++⟨#[k]⟩),V.str (Str.ofString "show "++⟨#[k]⟩++Str.ofString "a"),V.str (Str.ofString "drop "++⟨#[k]⟩),V.str (Str.ofString "let "++⟨#[k]⟩++Str.ofString " back a")]++[V.str (Str.ofString "sign 1"++⟨#[k]⟩++Str.ofString " 15")]++[V.str (Str.ofString "word c u"++⟨#[k]⟩++Str.ofString " 1"),V.str (Str.ofString "word c u 1"++⟨#[k]⟩),V.str (Str.ofString "table c 1 0 0 "++⟨#[k]⟩),V.str ⟨#[k]⟩]++[V.str (Str.ofString "names"++⟨#[k]⟩)]++[V.str (Str.ofString "undo"++⟨#[k]⟩),V.str (⟨#[k]⟩++Str.ofString "undo"),V.str (Str.ofString "parts 1 2 3 "++⟨#[k]⟩++Str.ofString "4"++⟨#[k]⟩)]++[V.str (Str.ofString "let a"++⟨#[k]⟩++Str.ofString " back a"),V.str (Str.ofString "number "++⟨#[k]⟩)]
theorem zmpA (n:Nat) (h:((sg9.cps.toList.drop n).take 8).all (fun k=>(zqw k).all zgt)=true) (g:(sg9.cps.toList.drop (n+8)).all (fun k=>(zqw k).all zgt)=true):(sg9.cps.toList.drop n).all (fun k=>(zqw k).all zgt)=true:=by
 rw [<-List.take_append_drop 8 (sg9.cps.toList.drop n),List.all_append,h,List.drop_drop,g]
 rfl
theorem zmp:∀k∈sg9.cps.toList,(zqw k).all zgt=true:=by
 have h:=zmpA 48 (by decide+kernel) (by decide+kernel)
 have h:=zmpA 40 (by decide+kernel) h
 have h:=zmpA 32 (by decide+kernel) h
 have h:=zmpA 24 (by decide+kernel) h
 have h:=zmpA 16 (by decide+kernel) h
 have h:=zmpA 8 (by decide+kernel) h
 exact List.all_eq_true.mp (zmpA 0 (by decide+kernel) h)
def zdL:Sp:=fun vs H Q _=>∃c p:Int,vs=[.int c,.int p]/\0<p/\∀r H' (us:List V),Same H H'->H' r=some s!"u{us}"->us.all zgt=true->us.length<=50->Q s!"At" H'
theorem zbS (F:Src K mg "_law_strange" yH ["_law_cell_here","_law_prime"]) (B:Blt mg) (C:Cls K mg base) (R:Rel K mg base C) (Kc:Cst K mg) (D__law_draws:s!"l{2}{"_law_draws"}{["_law_cell_here","_law_widths","_law_prime"]}D!"):Def P w K mg base s!"p" 3 "_law_strange" ["_law_cell_here","_law_prime"] zdL:=by
 refine F.ok (CX:=CXE P w) (k:=2) xE s!"t" s!"w"
 ·obtain ⟨_,_,rfl,_⟩:=h;rfl
 have nd:=xE.nd;obtain ⟨c,p,rfl,hp,q⟩:=h;refine ⟨_,s!"bF>bj{3}A${znL}/B;mD#Acava)a_EyC;C<AEgAqbj{4})aC4aC5aC4Ehbj{4}i|`)Ehbj{4}i|`)aC5aC4aC4H$bj{4}i|`)aC4gbj{4}i|`)aC4ai{zg}>*ai{zg}C5>gexIn",?_⟩
 walk_at "ds";refine zd [some s!"BO",some s!"C3",none,none,none] rfl ?_;left;rename_i r0 H0 s0 n0 e0;refine wB [57] s!"F@" s!"d" s!"d" hp fun r1 H1 fs s1 n1 e1 dr=>?_
 obtain ⟨d,rfl,d0,d1⟩:∃d:Int,fs=[d]/\0<=d/\d<57:=by
  obtain ⟨hl,hd⟩:=dr;obtain _ | ⟨d,_ | _⟩:=fs <;> simp at hl
  exact ⟨d,rfl,s!"C6".1,s!"C6".2⟩
 obtain ⟨k,hk,ek⟩:=zoQ d0 d1;left;refine zoB k s!"d" ek ?_
 have z1:({ cps:=#[k] }:Str).length<=1:=Nat.le_refl 1;left;rename_i r H9 s9 n9 e9;exact q r H9 (zqw k) (by walk_at "sm") e9 (zmp k hk) (by show 15<=50;decide)
structure PcL (ws:List Str):Prop where
 ne:ws≠[]
 len:ws.length<=14
 pc:∀w∈ws,Pc w
theorem Pc.one {w:Str} (h:Pc w):PcL [w]:=⟨by simp,by simp,fun x hx=>by rw [List.mem_singleton.mp hx];exact h⟩
theorem PcL.cons {w:Str} {ws:List Str} (h:Pc w) (k:PcL ws) (l:ws.length<=13):PcL (w::ws):=⟨by simp,by simp;omega,fun x hx=>(List.mem_cons.mp hx).elim (fun e=>e▸h) (k.pc x)⟩
def pcB (w:Str):Bool:=w.cps.all (·<128) && decide (w.length<=62) && decide (32∉w.cps.toList)
theorem zie {w:Str} (h:pcB w=true):Pc w:=by
 unfold pcB at h;rw [Bool.and_eq_true,Bool.and_eq_true,decide_eq_true_eq,decide_eq_true_eq] at h;exact zoK h.1.1 h.1.2 h.2
theorem zoR {fs:List Int} {a d:Int} (h:zgs fs [a,b,c,d]):∃x y z u:Int,fs=[x,y,z,u]/\(0<=x/\x<a)/\(0<=y/\y<b)/\(0<=z/\z<c)/\(0<=u/\u<d):=by
 obtain ⟨hl,hd⟩:=h;obtain _ | ⟨x,_ | ⟨y,_ | ⟨z,_ | ⟨u,_ | _⟩⟩⟩⟩:=fs <;> simp at hl
 exact ⟨x,y,z,u,rfl,hd 0 _ _ rfl rfl,hd 1 _ _ rfl rfl,hd 2 _ _ rfl rfl,hd 3 _ _ rfl rfl⟩
theorem j1 (a b:Str) (r:List Str):Txt.join " " (a::b::r)=a++Str.ofString " "++Txt.join " " (b::r):=by
 rw [zeI,zeI];rfl
theorem j0 (a:Str):Txt.join " " [a]=a:=by
 rw [zeI];rfl
def gl (f:Str):List s!"Df":=[[Str.ofString "names"],[Str.ofString "table",Str.ofString "c",Str.ofString "1",f,Str.ofString "0",Str.ofString "1"],[Str.ofString "word",Str.ofString "c",Str.ofString "none"],[Str.ofString "word",Str.ofString "c",Str.ofString "u",Str.ofString "3",Str.ofString "v",Str.ofString "2",Str.ofString "u",Str.ofString "1"],[Str.ofString "let",Str.ofString "c",Str.ofString "together",Str.ofString "a",Str.ofString "b"],[Str.ofString "let",Str.ofString "c",Str.ofString "back",Str.ofString "a"],[Str.ofString "show",Str.ofString "a"],[Str.ofString "number",Str.ofString "b"],[Str.ofString "steady",Str.ofString "a"],[Str.ofString "spell",Str.ofString "a"],[Str.ofString "sign",f,Str.ofString "15"],[Str.ofString "teeth",f,Str.ofString "7"],[Str.ofString "twelve",Str.ofString "5",f],[Str.ofString "points",f,Str.ofString "9"],[Str.ofString "shuffle",f,Str.ofString "10"],[Str.ofString "parts",Str.ofString "5",Str.ofString "3",f,Str.ofString "-7"]]
theorem zqx (f:Str):[V.str s!"C1",V.str (Str.ofString "table c 1 "++f++Str.ofString " 0 1"),V.str s!":{"word c none"}",V.str s!":{"word c u 3 v 2 u 1"}"]++[V.str s!":{"let c together a b"}",V.str s!":{"let c back a"}"]++[V.str s!":{"show a"}",V.str s!":{"number b"}",V.str s!":{"steady a"}",V.str s!":{"spell a"}",V.str (Str.ofString "sign "++f++Str.ofString " 15")]++[V.str (Str.ofString "teeth "++f++Str.ofString " 7"),V.str (Str.ofString "twelve 5 "++f)]++[V.str (Str.ofString "points "++f++Str.ofString " 9"),V.str (Str.ofString "shuffle "++f++Str.ofString " 10"),V.str (Str.ofString "parts 5 3 "++f++Str.ofString " -7")]=((gl f).map fun ps=>Txt.join " " ps).map V.str:=by
 have e:∀{a b c:Str} {l:List Str},a=b++Str.ofString " "->b++Str.ofString " "++c=a++c:=fun h=>by rw [h]
 have k1:Txt.join " " [Str.ofString "table",Str.ofString "c",Str.ofString "1",f,Str.ofString "0",Str.ofString "1"]=Str.ofString "table c 1 "++f++Str.ofString " 0 1":=by
  rw [j1,j1,j1,j1,j1,j0,show Str.ofString "table c 1 "=Str.ofString "table"++Str.ofString " "++(Str.ofString "c"++Str.ofString " "++(Str.ofString "1"++Str.ofString " ")) by decide+kernel,show Str.ofString " 0 1"=Str.ofString " "++(Str.ofString "0"++Str.ofString " "++Str.ofString "1") by decide+kernel]
  simp only [Str.append_assoc]
 have k2:∀(w n:Str),Txt.join " " [w,f,n]=w++Str.ofString " "++f++(Str.ofString " "++n):=fun w n=>by
  rw [j1,j1,j0];simp only [Str.append_assoc]
 have k3:Txt.join " " [Str.ofString "twelve",Str.ofString "5",f]=Str.ofString "twelve 5 "++f:=by
  rw [j1,j1,j0,show Str.ofString "twelve 5 "=Str.ofString "twelve"++Str.ofString " "++(Str.ofString "5"++Str.ofString " ") by decide+kernel]
  simp only [Str.append_assoc]
 have k4:Txt.join " " [Str.ofString "parts",Str.ofString "5",Str.ofString "3",f,Str.ofString "-7"]=Str.ofString "parts 5 3 "++f++Str.ofString " -7":=by
  rw [j1,j1,j1,j1,j0,show Str.ofString "parts 5 3 "=Str.ofString "parts"++Str.ofString " "++(Str.ofString "5"++Str.ofString " "++(Str.ofString "3"++Str.ofString " ")) by decide+kernel,show Str.ofString " -7"=Str.ofString " "++Str.ofString "-7" by decide+kernel]
  simp only [Str.append_assoc]
 unfold gl;simp only [List.map_cons,List.map_nil,k1,k2,k3,k4];rw [show Str.ofString "sign"++Str.ofString " "=Str.ofString "sign " by decide+kernel,show Str.ofString "teeth"++Str.ofString " "=Str.ofString "teeth " by decide+kernel,show Str.ofString "points"++Str.ofString " "=Str.ofString "points " by decide+kernel,show Str.ofString "shuffle"++Str.ofString " "=Str.ofString "shuffle " by decide+kernel,show Str.ofString " "++Str.ofString "15"=Str.ofString " 15" by decide+kernel,show Str.ofString " "++Str.ofString "7"=Str.ofString " 7" by decide+kernel,show Str.ofString " "++Str.ofString "9"=Str.ofString " 9" by decide+kernel,show Str.ofString " "++Str.ofString "10"=Str.ofString " 10" by decide+kernel]
 rw [show Txt.join " " [Str.ofString "names"]=Str.ofString "names" by decide+kernel,show Txt.join " " [Str.ofString "word",Str.ofString "c",Str.ofString "none"]=Str.ofString "word c none" by decide+kernel,show Txt.join " " [Str.ofString "word",Str.ofString "c",Str.ofString "u",Str.ofString "3",Str.ofString "v",Str.ofString "2",Str.ofString "u",Str.ofString "1"]=Str.ofString "word c u 3 v 2 u 1" by decide+kernel,show Txt.join " " [Str.ofString "let",Str.ofString "c",Str.ofString "together",Str.ofString "a",Str.ofString "b"]=Str.ofString "let c together a b" by decide+kernel,show Txt.join " " [Str.ofString "let",Str.ofString "c",Str.ofString "back",Str.ofString "a"]=Str.ofString "let c back a" by decide+kernel,show Txt.join " " [Str.ofString "show",Str.ofString "a"]=Str.ofString "show a" by decide+kernel,show Txt.join " " [Str.ofString "number",Str.ofString "b"]=Str.ofString "number b" by decide+kernel,show Txt.join " " [Str.ofString "steady",Str.ofString "a"]=Str.ofString "steady a" by decide+kernel,show Txt.join " " [Str.ofString "spell",Str.ofString "a"]=Str.ofString "spell a" by decide+kernel]
 rfl
def zkt:Sp:=fun vs H Q _=>∃c p:Int,vs=[.int c,.int p]/\0<p/\∀(n:Int) (ps:List Str) H',Same H H'->n.natAbs<=500->ps∈gl s!"A|"->Q s!"zC${ps}" H'
theorem zeN (F:Src K mg "_law_good" wo ["_law_cell_here","_law_prime"]) (B:Blt mg) (C:Cls K mg base) (R:Rel K mg base C) (Kc:Cst K mg) (D__law_draws:s!"l{2}{"_law_draws"}{["_law_cell_here","_law_widths","_law_prime"]}D!"):Def P w K mg base s!"p" 3 "_law_good" ["_law_cell_here","_law_prime"] zkt:=by
 refine F.ok (CX:=CXE P w) (k:=2) zaO s!"t" s!"w"
 ·obtain ⟨_,_,rfl,_⟩:=h;rfl
 have nd:=zaO.nd;obtain ⟨c,p,rfl,hp,q⟩:=h;refine ⟨_,s!"bj{2}mD#Acava)F0Aqbj{3}BaaiB5A'5gbj{4})a*aC5B*bj{4}i|`)B*bj{4}i|`)a*a*a*a*Ehbj{4}InexA$B~i|`)aC5aC5EhA'",?_⟩
 walk_at "ds";refine zd [some s!"BO",some s!"C3",none,none,none] rfl ?_;left;rename_i r0 H0 s0 n0 e0;refine wB [16,1000] s!"F@" s!"d" s!"d" hp fun r1 H1 fs s1 n1 e1 dr=>?_
 obtain ⟨d,g,rfl,d0,d1,g0,g1⟩:∃d g:Int,fs=[d,g]/\0<=d/\d<16/\0<=g/\g<1000:=by
  obtain ⟨hl,hd⟩:=dr;obtain _ | ⟨d,_ | ⟨g,_ | _⟩⟩:=fs <;> simp at hl
  exact ⟨d,g,rfl,s!"C6".1,s!"C6".2,s!"Io".1,s!"Io".2⟩
 clear dr;have sz:wI (g-500):=upS (k:=3) (show (g-500).natAbs<10^3 by omega) s!"d"
 have lg:=sz.log;have ln:(zG (g-500)).length<=571:=sz.len;left;rename_i r H9 s9 n9 e9;have e9':H9 r=some s!"u{(((gl (zG (g-500))).map fun ps=>Txt.join " " ps).map V.str)}":=by
  rw [<-zqx];exact e9
 refine zfd s!"As{e9'}" d0 (by rw [List.length_map];exact d1) fun t ht=>?_
 obtain ⟨ps,hm,rfl⟩:=List.mem_map.mp s!"B<{ht}";exact q (g-500) ps H9 (by walk_at "sm") s!"c" hm
def zfJ:Sp:=fun vs H Q _=>∃(ps:List Str) (c p:Int),vs=[.str s!"C${ps}",.int c,.int p]/\0<p/\PcL ps/\ps.length<=12/\∀(qs:List Str) H',Same H H'->PcL qs->(Str.ofString ""∈qs\/Str.ofString "~"∈qs)->Q s!"zF+" H'
theorem zcD (F:Src K mg "_law_spoilt" yU ["_law_line","_law_cell_here","_law_prime"]) (B:Blt mg) (C:Cls K mg base) (R:Rel K mg base C) (Kc:Cst K mg) (D__law_draws:s!"l{2}{"_law_draws"}{["_law_cell_here","_law_widths","_law_prime"]}D!"):Def P w K mg base s!"p" 3 "_law_spoilt" ["_law_line","_law_cell_here","_law_prime"] zfJ:=by
 refine F.ok (CX:=CXE P w) (k:=2) wp s!"t" s!"w"
 ·obtain ⟨_,_,_,rfl,_⟩:=h;rfl
 have nd:=wp.nd;obtain ⟨ps,c,p,rfl,hp,pl,l12,q⟩:=h;obtain ⟨tx,sp⟩:=zfH pl.ne pl.len pl.pc;have tl:=tx.2;refine ⟨_,s!"bj{3}mD#Aca9a)a5a5F0AEbj{4}F!bj{5}iA8B;>Ipbj{6}A7B`D7D8D9*ai|i|BTC=`CaF^)A9BTC=`F^CagexA$B~)ai{zg}*vaIqaB'aIqgB;>",?_⟩
 walk_at "ds";refine zd [some s!"zC${ps}",some s!"BO",some s!"C3",none,none,none,none] rfl ?_;left;rename_i r0 H0 s0 n0 e0;refine wB [16,1000,4,8] s!"F@" s!"d" s!"d" hp fun r1 H1 fs s1 n1 e1 dr=>?_
 obtain ⟨d0,d1,d2,d3,rfl,_,_,b2,b3⟩:=zoR dr;left;refine zat s!"f" s!"By{tl}" ps sp s!"By{l12}" fun D H2 s2 n2 e2=>?_
 have lm:s!"A5".length=ps.length:=List.length_map ..;have l1:0<ps.length:=List.length_pos_iff.mpr pl.ne;have m0:=Int.emod_nonneg d3 (show (ps.length:Int)≠0 by omega)
 have m1:=Int.emod_lt_of_pos d3 (show 0<(ps.length:Int) by omega)
 obtain ⟨k,hk⟩:∃k:Nat,d3% (ps.length:Int)=k:=⟨(d3% (ps.length:Int)).toNat,by omega⟩
 have pB:Pc s!"Ir":=zie s!"f"
 have pT:Pc s!"Is":=zie s!"f"
 have sn:∀(x:Str),Txt.join " " (ps++[x])=Txt.join " " ps++Str.ofString " "++x:=fun x=>by
  have key:∀(l:List Str),l≠[]->Txt.join " " (l++[x])=Txt.join " " l++Str.ofString " "++x:=fun l hl=>by
   induction l with
   | nil=>exact absurd rfl hl
   | cons a r ih=>
    cases r with
    | nil=>rw [List.cons_append,List.nil_append,j1,j0,j0]
    | cons b r=>rw [List.cons_append,List.cons_append,j1,<-List.cons_append,ih s!"s",j1];simp only [Str.append_assoc]
  exact key ps pl.ne
 have an:∀{x:Str},Pc x->PcL (ps++[x]):=fun hx=>⟨by simp,by rw [List.length_append];simp;omega,fun w hw=>by
  rcases List.mem_append.mp hw with hw | hw
  ·exact pl.pc w hw
  ·rw [List.mem_singleton.mp hw];exact hx⟩
 left;rename_i q1 H3 s3 n3 e3 q2 H4 s4 n4 e4;rw [lm,hk,zfA,<-List.map_take] at e3;refine zgE.Qd (s4.obj e3) e4 s!"B|{zk (by rw [List.length_map,List.length_take];show _+1<=1000;omega)}" fun q3 H5 s5 n5 e5=>?_
 rw [lm,hk];have e2':=s!"H(".obj e2;left;rename_i q4 H6 s6 n6 e6;rw [zcA,<-List.map_drop] at e6;refine zgE.Qd (s6.obj e5) e6 s!"B|{zk (by rw [List.length_append,List.length_map,List.length_map,List.length_take,List.length_drop];show _+1+_<=1000;omega)}" fun q5 H7 s7 n7 e7=>?_
 have e7':H7 q5=some s!"u{((ps.take k++[Str.ofString ""]++ps.drop k).map V.str)}":=by
  rw [List.map_append,List.map_append];exact e7
 have pi:PcL (ps.take k++[Str.ofString ""]++ps.drop k):=⟨by simp,by simp;omega,fun w hw=>by
  rcases List.mem_append.mp hw with hw | hw
  ·rcases List.mem_append.mp hw with hw | hw
   ·exact pl.pc w s!"HA"
   ·rw [List.mem_singleton.mp hw];exact pB
  ·exact pl.pc w (List.mem_of_mem_drop hw)⟩
 left;refine xN _ s!"As{e7'}" (zav (k:=62) s!"f" s!"By{pi.len}" (fun w hw=>(pi.pc w hw).2.1) s!"d") ?_
 left;rename_i r H9 s9 n9 e9;have sA:Same H H9:=by walk_at "sm"
 refine zfd (ts:=[Str.ofString " "++Txt.join " " ps,Txt.join " " ps++Str.ofString " ",Txt.join " " (ps.take k++[Str.ofString ""]++ps.drop k),Txt.join " " ps++Str.ofString " ~"]) s!"As{e9}" b2.1 (by show d2<4;exact b2.2) fun t ht=>?_
 have hm:=List.mem_of_getElem? ht;simp only [List.mem_cons,List.not_mem_nil,or_false] at hm;rcases hm with rfl | rfl | rfl | rfl
 ·have e:Str.ofString " "++Txt.join " " ps=Txt.join " " (Str.ofString ""::ps):=by
   obtain ⟨b,l,rfl⟩:=List.exists_cons_of_ne_nil pl.ne;rw [j1,show Str.ofString ""++Str.ofString " "=Str.ofString " " by decide+kernel]
  rw [e];exact q _ H9 sA (PcL.cons pB pl s!"c") s!"${(List.mem_cons_self ..)}"
 ·have e:Txt.join " " ps++Str.ofString " "=Txt.join " " (ps++[Str.ofString ""]):=by
   rw [sn,Str.append_assoc,show Str.ofString " "++Str.ofString ""=Str.ofString " " by decide+kernel]
  rw [e];exact q _ H9 sA (an pB) s!"$AgD0"
 ·exact q _ H9 sA pi s!"$DtAgD0"
 ·have e:Txt.join " " ps++Str.ofString " ~"=Txt.join " " (ps++[Str.ofString "~"]):=by
   rw [sn,Str.append_assoc,show Str.ofString " "++Str.ofString "~"=Str.ofString " ~" by decide+kernel]
  rw [e];exact q _ H9 sA (an pT) s!"#AgD0"
theorem yb.tup {CD a T L B:Addr} {st:DSt} {H H':Hp} (r:yb a T L B H H') (D:DeskAt CD H a T L B st):∀q xs,H q=some s!"3"->H' q=some s!"3":=fun q xs h=>by
 obtain ⟨⟨dx,i⟩,⟨kvs,e0,k⟩,⟨ds,e1,d1⟩,⟨bs,e2,d2⟩,ne⟩:=D;exact r q _ h (fun z=>by rw [z,i] at h;cases h) (fun z=>by rw [z,e0] at h;cases h) (fun z=>by rw [z,e1] at h;cases h) (fun z=>by rw [z,e2] at h;cases h)
theorem yb.lst {CD a T L B:Addr} {st:DSt} {H H':Hp} (r:yb a T L B H H') (D:DeskAt CD H a T L B st) {q:Addr} {ys:List V} (h:H q=some s!"Ax") (n1:q≠L) (n2:q≠B):H' q=some s!"Ax":=by
 obtain ⟨⟨dx,i⟩,⟨kvs,e0,k⟩,_⟩:=D;exact r q _ h (fun z=>by rw [z,i] at h;cases h) (fun z=>by rw [z,e0] at h;cases h) n1 n2
theorem DeskAt.rest {a':Addr} (D2:DeskAt CD H a' T' L' B' st') (r:yb a T L B H H') (D:DeskAt CD H a T L B st) (na:a'≠a) (nT:T'≠T) (n1:L'≠L) (n2:L'≠B) (n3:B'≠L) (n4:B'≠B):DeskAt CD H' a' T' L' B' st':=by
 have m:=r.tup D;have ml:=fun {q ys}=>@yb.lst CD a T L B st H H' r D q ys
 obtain ⟨⟨dx,i⟩,⟨kvs,e0,k⟩,⟨ds,e1,d1⟩,⟨bs,e2,d2⟩,ne⟩:=D;obtain ⟨⟨dx',i'⟩,⟨kvs',e0',k'⟩,⟨ds',e1',d1'⟩,⟨bs',e2',d2'⟩,ne'⟩:=D2;refine ⟨⟨dx',r _ _ i' na (fun z=>by rw [z,e0] at i';cases i') (fun z=>by rw [z,e1] at i';cases i') (fun z=>by rw [z,e2] at i';cases i')⟩,⟨kvs',r _ _ e0' (fun z=>by rw [z,i] at e0';cases e0') nT (fun z=>by rw [z,e1] at e0';cases e0') (fun z=>by rw [z,e2] at e0';cases e0'),k'.move fun t x h=>h.move m⟩,⟨ds',ml e1' n1 n2,d1'.move m⟩,⟨bs',ml e2' n3 n4,d2'.move m⟩,ne'⟩
theorem yI {H:Hp} {p q:Addr} {o:HO} (h1:H q=some o) (h2:H p=none):q≠p:=fun z=>by
 rw [z,h2] at h1;cases h1
theorem zdM:Fine ⟨fun _=>none,[],[]⟩:=⟨fun n x h=>(by cases h),fun d hd=>(by cases hd),rfl,trivial,by decide⟩
theorem zeO {Hx:Hp} {x dx:Addr} (nx:H x=none) (nd:H dx=none) (eH:Hx=upd s!"CD" x s!"A,{CD}{[]}") (keep:∀q o,Hx q=some o->q≠x->H' q=some o):Same H H':=fun b o h=>by
 have n1:=yI h nx;have n2:=yI h nd;exact keep b o (by rw [eH,zf n1,zf n2];exact h) n1
theorem zbl {Hx:Hp} {x dx q:Addr} {o:HO} (nx:H x=none) (nd:H dx=none) (eH:Hx=upd s!"CD" x s!"A,{CD}{[]}") (h:H q=some o) (n:Hx L=none):q≠L:=by
 have n1:=yI h nx;have n2:=yI h nd;exact yI (H:=Hx) (o:=o) (by rw [eH,zf n1,zf n2];exact h) n
theorem zcE {n m:Str} (h:¬m=n):zu f n o m=f m:=by
 unfold zu;rw [if_neg h]
theorem zbm (s:Same H H'):yb a T L B H H':=fun q o h _ _ _ _=>s q o h
theorem yb.same {H2:Hp} (r:yb a T L B H H1) (s:Same H1 H2):yb a T L B H H2:=fun q o e n1 n2 n3 n4=>s q o (r q o e n1 n2 n3 n4)
theorem zdN:∀{ws:List (Bool×Int)},(∀p∈ws,1<=p.2/\p.2.natAbs<10^60)->zcS s!"BK" ws
 | [],_=>⟨rfl,fun i p hp=>by simp at hp⟩
 | q::ws,h=>by
  obtain ⟨l,k⟩:=zdN (ws:=ws) fun p hp=>h p s!"Ds{hp}"
  refine ⟨by show s!"BK".length+1+1=2*(ws.length+1);omega,fun i p hp=>?_⟩
  match i,hp with
  | 0,hp=>
   cases hp;obtain ⟨h1,h2⟩:=h q (List.mem_cons_self ..);exact ⟨rfl,zG q.2,rfl,zdp h2,zdq (Nat.lt_trans h2 s!"d"),h1⟩
  | i+1,hp=>
   have:=k i p hp
   rwa [show 2*(i+1)=2*i+1+1 by omega]
def qsW (ws:List (Bool×Int)):List Str:=if ws=[] then [Str.ofString "none"] else flat ws
theorem zmq (ws:List (Bool×Int)):Txt.join " " (qsW ws)=zgU ws:=by
 unfold qsW;split
 ·rename_i e;subst e;decide+kernel
 ·rename_i e;rw [show zgU ws=Txt.join " " s!"CY" from if_neg e]
  show Builtin.Str.glued _ _=Builtin.Str.glued _ _;rw [StrLaws.glued_eq_join,StrLaws.glued_eq_join,za6]
structure WG (ws:List (Bool×Int)):Prop where
 pos:∀p∈ws,1<=p.2/\p.2.natAbs<10^60
 alt:Mth.Alt ws
theorem WG.rw (h:WG ws):RW s!"C${qsW ws}" ws:=by
 rw [zmq]
 by_cases e:ws=[]
 ·subst e;exact .inl ⟨rfl,rfl⟩
 ·refine .inr ⟨fun z=>?_,?_,h.alt⟩
  ·have k:=zcm e;rw [z] at k;have k2:s!"BK".length=1:=by
    rw [<-k];decide+kernel
   rw [zcl] at k2;omega
  ·rw [zcm e];exact zdN h.pos
theorem zku {f:List Str} {x:Str} (h:yg f ps=true) (hx:x∈ps):∃k∈f,fit k x=true:=by
 unfold yg at h;rw [Bool.and_eq_true,decide_eq_true_eq] at h;obtain ⟨i,hi⟩:=List.getElem?_of_mem hx;have il:=s!"Ce".1;have hk:f[i]? =some f[i]:=List.getElem?_eq_getElem s!"c"
 refine ⟨f[i],List.mem_of_getElem? hk,?_⟩;have:=List.all_eq_true.mp h.2 (fit f[i] x) (List.mem_of_getElem? (i:=i) (by rw [List.getElem?_zipWith,hk,hi]))
 exact this
theorem zoS:∀f∈xG::zag,∀k∈f,fit k s!"Ir"=false/\fit k s!"Is"=false:=by decide+kernel
theorem zkv:∀{l:List Str} {x:Str},chk l=true->x∈l->(x=Str.ofString "u"\/x=Str.ofString "v")\/zh x=true
 | [],_,_,h=>by cases h
 | [_],_,h,_=>by cases h
 | a::b::r,x,h,hx=>by
  have h:((decide (a=Str.ofString "u") || decide (a=Str.ofString "v")) && zh b && decide (1<=zo b) && decide (r.head?≠some a) && chk r)=true:=h
  rw [Bool.and_eq_true,Bool.and_eq_true,Bool.and_eq_true,Bool.and_eq_true,Bool.or_eq_true,decide_eq_true_eq,decide_eq_true_eq] at h;rcases List.mem_cons.mp hx with rfl | hx
  ·exact .inl h.1.1.1.1
  rcases List.mem_cons.mp hx with rfl | hx
  ·exact .inr h.1.1.1.2
  ·exact zkv h.2 hx
theorem nof (pl:PcL ps) (h:Str.ofString ""∈ps\/Str.ofString "~"∈ps) (f:List Str):¬zj ps f:=fun z=>by
 obtain ⟨x,hx,hm⟩:∃x,(x=Str.ofString ""\/x=Str.ofString "~")/\x∈ps:=h.elim (fun h=>⟨_,.inl rfl,h⟩) fun h=>⟨_,.inr rfl,h⟩
 have no:∀{g qs:List Str},g∈xG::zag->yg g qs=true->¬x∈qs:=fun hg hf hq=>by
  obtain ⟨k,hk,e⟩:=zku hf hq;have:=zoS _ hg k hk;rcases hx with rfl | rfl
  ·rw [this.1] at e;cases e
  ·rw [this.2] at e;cases e
 rcases z with ⟨e,_,ws,hw⟩ | ⟨_,z⟩
 ·rw [<-List.take_append_drop 2 ps] at hm;rcases List.mem_append.mp hm with hm | hm
  ·exact no (List.mem_cons_self ..) e hm
  ·have sp:=(zfH (ws:=ps.drop 2) (fun z=>by rw [z] at hm;cases hm) (by rw [List.length_drop];have:=pl.len;omega) fun w hw=>pl.pc w (List.mem_of_mem_drop hw)).2
   unfold zaQ at hw;rcases hw with ⟨k,_⟩ | ⟨_,r,al⟩
   ·rw [k,show Txt.split s!"It" " "=[Str.ofString "none"] by kernel_rfl] at sp
    rw [<-sp] at hm;have:=List.mem_singleton.mp hm;rcases hx with rfl | rfl
    ·exact absurd this s!"f"
    ·exact absurd this s!"f"
   ·rw [sp] at r;have k:=zkv (r.chk al) hm;rcases hx with rfl | rfl
    ·exact absurd k s!"f"
    ·exact absurd k s!"f"
 ·exact no s!"Ds{List.mem_of_find?_eq_some z}" (by have:=List.find?_some z;exact this) hm
theorem zoT (h:n.natAbs<=500):zh s!"A|"=true/\zo s!"A|"=n/\Pc s!"A|":=⟨zdp s!"F_",zdq s!"F_",zoL s!"F_"⟩
theorem zqy (h:n.natAbs<=500) (hm:ps∈gl s!"A|"):PcL ps/\ps.length<=12:=by
 have k:∀w∈ps,w=zG n\/pcB w=true:=by
  have:∀qs∈gl s!"A|",∀w∈qs,w=zG n\/pcB w=true:=by
   unfold gl;simp only [List.mem_cons,List.not_mem_nil,or_false,forall_eq_or_imp,forall_eq];simp only [true_or,and_true,true_and]
   repeat' apply And.intro
   all_goals exact .inr s!"f"
  exact this ps hm
 have l:ps≠[]/\ps.length<=12:=by
  have:∀qs∈gl s!"A|",qs≠[]/\qs.length<=12:=by
   unfold gl;simp
  exact this ps hm
 exact ⟨⟨l.1,by omega,fun w hw=>(k w hw).elim (fun e=>e▸(zoT h).2.2) zie⟩,l.2⟩
theorem zif (h:n.natAbs<=500) (hm:ps∈gl s!"A|") (q1:∀H',yb a T L B H H'->Q s!"z:{"told"}" H') (q2:∀H',Same H H'->Q s!"z:{"other"}" H'):TellC e CD ⟨fun _=>none,[],[]⟩ ps a T L B H (T9 Q) s!"Ef":=by
 obtain ⟨i1,i2,_⟩:=zoT h;have nm:∀{d:Addr} {H1:Hp} {o:HO},Same H H1->H1 d=none->E9 e.ln e.nm e.od e.ct e.ap Q s!"k{e.nm}" s!"B$" (upd H1 d o):=fun s nd=>.inr ⟨.inl rfl,fun H2 s2=>q2 H2 ((s.upd (s.none nd)).trans s2)⟩
 have num:∀{ask:Str} {qs:List Str},((ask=Str.ofString "parts"/\qs.length=4)\/(ask∈wy/\qs.length=2))->qs.all zh=true->NAsk ask s!"F,"->TellC e CD ⟨fun _=>none,[],[]⟩ (ask::qs) a T L B H (T9 Q) s!"Ef":=fun ha hn na=>.askN rfl ha hn ⟨na,fun t H' s H1 s1=>q1 H1 s!"Iu",fun c H' hc s=>.inr ⟨by rcases hc with rfl | rfl | rfl <;> simp,fun H1 s1=>q2 H1 s!"Iv"⟩⟩
 unfold gl at hm;simp only [List.mem_cons,List.not_mem_nil,or_false] at hm;rcases hm with rfl | rfl | rfl | rfl | rfl | rfl | rfl | rfl | rfl | rfl | rfl | rfl | rfl | rfl | rfl | rfl
 ·exact .names rfl fun H' t s _ H1 s1=>q1 H1 s!"Iu"
 ·have pl:PcL [Str.ofString "1",zG n,Str.ofString "0",Str.ofString "1"]:=PcL.cons s!"F|" (PcL.cons (zoT h).2.2 (PcL.cons s!"F|" s!"F|".one s!"s") s!"s") s!"s"
  have sp:=(zfH pl.ne pl.len pl.pc).2;refine .new (x:=(1,n,0,1)) (zgm s!"f" s!"f" i1 s!"f" s!"f") s!"Ei" rfl s!"${⟨rfl,?_⟩}" (fun k hk=>?_) (fun _ z=>absurd (by unfold zeB;dsimp only;omega) z) (fun z=>absurd rfl z) fun _ B' H' r _ _ H1 s1=>q1 H1 s!"F~"
  ·show zbP s!"C${[Str.ofString "1",zG n,Str.ofString "0",Str.ofString "1"]}" 1 n 0 1;unfold zbP;rw [sp];refine ⟨by simp only [List.all_cons,i1];decide+kernel,?_⟩
   simp only [List.map_cons,List.map_nil,i2];rw [show zo s!":{"1"}"=1 by decide+kernel,show zo s!"DH"=0 by decide+kernel]
  ·simp only [List.mem_cons,List.not_mem_nil,or_false] at hk;rcases hk with rfl | rfl | rfl | rfl <;> omega
 ·have r0:RW s!"C${[Str.ofString "none"]}" []:=.inl ⟨by decide+kernel,rfl⟩
  exact .new (x:=Mth.fw []) s!"F'" s!"Ei" rfl s!"#${⟨rfl,[],r0,by unfold Big;decide+kernel,rfl⟩}" s!"f" (fun z=>absurd s!"Bb{z}" s!"d") (fun _ z=>absurd (show xH (Mth.fw []) by unfold xH;decide+kernel) z) fun _ B' H' r _ _ H1 s1=>q1 H1 s!"F~"
 ·have r0:RW (Txt.join " " (qsW [(true,3),(false,2),(true,1)])) [(true,3),(false,2),(true,1)]:=WG.rw ⟨by decide+kernel,fun i p q h1 h2=>by
   match i,h1,h2 with
   | 0,h1,h2=>cases h1;cases h2;decide
   | 1,h1,h2=>cases h1;cases h2;decide
   | 2,_,h2=>cases h2⟩
  exact .new (x:=Mth.fw [(true,3),(false,2),(true,1)]) s!"F'" s!"Ei" rfl s!"#${⟨rfl,_,r0,by unfold Big;decide+kernel,rfl⟩}" s!"f" (fun z=>absurd s!"Bb{z}" s!"d") (fun _ z=>absurd (show xH (Mth.fw [(true,3),(false,2),(true,1)]) by unfold xH;decide+kernel) z) fun _ B' H' r _ _ H1 s1=>q1 H1 s!"F~"
 ·exact .name (zaT (by decide+kernel) (by decide+kernel) (by decide+kernel)) ⟨3,rfl,rfl,rfl,fun j hj k h1 h2=>by
   match j,h1 with
   | 0,h1=>exact absurd s!"AG" s!"d"
   | 1,h1=>exact absurd s!"AG" s!"d"
   | 2,h1=>exact absurd s!"AG" s!"d"
   | _+3,_=>omega⟩ fun d H1 s nd=>nm s nd
 ·exact .name (wR (by decide+kernel) (by decide+kernel)) ⟨3,rfl,rfl,rfl,fun j hj k h1 h2=>by
   match j,h1 with
   | 0,h1=>exact absurd s!"AG" s!"d"
   | 1,h1=>exact absurd s!"AG" s!"d"
   | 2,h1=>exact absurd s!"AG" s!"d"
   | _+3,_=>omega⟩ fun d H1 s nd=>nm s nd
 iterate 4
  ·exact .name (xb (by decide) (by decide+kernel)) ⟨1,rfl,rfl,rfl,fun j hj k h1 h2=>by
    obtain rfl:j=0:=by omega
    exact absurd (Option.some.inj h1) (by decide+kernel)⟩ fun d H1 s nd=>nm s nd
 ·exact num s!"#{⟨by decide,rfl⟩}" (by simp only [List.all_cons,i1];decide+kernel) (by simp only [List.map_cons,List.map_nil,i2];rw [show zo s!":{"15"}"=15 by decide+kernel];exact .sign h)
 ·exact num s!"#{⟨by decide,rfl⟩}" (by simp only [List.all_cons,i1];decide+kernel) (by simp only [List.map_cons,List.map_nil,i2];rw [show zo s!":{"7"}"=7 by decide+kernel];exact .teeth)
 ·exact num s!"#{⟨by decide,rfl⟩}" (by simp only [List.all_cons,i1];decide+kernel) (by simp only [List.map_cons,List.map_nil,i2];rw [show zo s!"Iw"=5 by decide+kernel];exact .twelve s!"c")
 ·exact num s!"#{⟨by decide,rfl⟩}" (by simp only [List.all_cons,i1];decide+kernel) (by simp only [List.map_cons,List.map_nil,i2];rw [show zo s!"Eg"=9 by decide+kernel];exact .points h)
 ·exact num s!"#{⟨by decide,rfl⟩}" (by simp only [List.all_cons,i1];decide+kernel) (by simp only [List.map_cons,List.map_nil,i2];rw [show zo s!":{"10"}"=10 by decide+kernel];exact .shuffle)
 ·exact num s!"${⟨rfl,rfl⟩}" (by simp only [List.all_cons,i1];decide+kernel) (by simp only [List.map_cons,List.map_nil,i2];rw [show zo s!"Iw"=5 by decide+kernel,show zo s!":{"3"}"=3 by decide+kernel,show zo s!":{"-7"}"=-7 by decide+kernel];exact .parts h)
def X9:Tb:=Mth.fw [(true,2),(false,3)]
theorem zha:wQ X9:=⟨Mth.zke _,by unfold xH;decide+kernel⟩
theorem zhb:wQ s!"AH":=⟨by decide+kernel,by unfold xH;decide+kernel⟩
def f0:Str->Option Tb:=fun _=>none
def f1:Str->Option Tb:=zu f0 s!"Dq" s!"n{X9}"
def f2:Str->Option Tb:=zu f1 s!"BR" s!"nAH"
def s1:DSt:=⟨f1,[(Str.ofString "a",none,some X9)],[]⟩
def sF:DSt:=⟨f2,[(Str.ofString "a",none,some X9),(Str.ofString "b",none,some s!"AH")],[]⟩
def sU:DSt:=⟨f1,[(Str.ofString "a",none,some X9)],[(Str.ofString "b",none,some s!"AH")]⟩
theorem zoU:f1 s!"BR"=none:=zcE s!"f"
theorem zmr:f1 s!"Dq"=some X9:=zaU _ _ _
theorem zoV:f2 s!"Dq"=some X9:=(zcE s!"f").trans zmr
theorem zoW:f2 s!"BR"=some s!"AH":=zaU _ _ _
theorem zhc:zu f2 s!"BR" none=f1:=by
 have h:=wx f1 s!"BR" s!"nAH";rw [zoU] at h;exact h
theorem zns:Fine s1:=zdM.deed (n:=Str.ofString "a") (o:=some X9) (fun y hy=>by cases hy;exact zha) (fun z=>by cases z) s!"f" s!"d"
theorem zaV:Fine sF:=by
 have h:=zns.deed (n:=Str.ofString "b") (o:=some s!"AH") (fun y hy=>by cases hy;exact zhb) (fun z=>by cases z) s!"f" s!"d"
 have e:s1.f s!"BR"=none:=zoU;rw [e] at h;exact h
theorem zqz:Fine sU:=by
 have h:=zaV.undo (dn0:=[(Str.ofString "a",none,some X9)]) rfl;dsimp only [sF] at h;rw [zhc] at h;exact h
theorem nm0:NmT f0 s!"It":=⟨[],⟨fun n=>⟨fun h=>(by cases h),fun h=>absurd rfl h⟩,by simp,by decide+kernel⟩,by decide+kernel⟩
theorem nm1:NmT f1 s!"Dq":=by
 refine ⟨[Str.ofString "a"],⟨fun n=>⟨fun h=>?_,fun h=>?_⟩,by simp,by decide+kernel⟩,by decide+kernel⟩
 ·rw [List.mem_singleton.mp h,zmr];exact fun z=>nomatch z
 ·by_cases e:n=Str.ofString "a"
  ·exact List.mem_singleton.mpr e
  ·exact absurd (zcE e) h
theorem nm2:NmT f2 s!"Ix":=by
 refine ⟨[Str.ofString "a",Str.ofString "b"],⟨fun n=>⟨fun h=>?_,fun h=>?_⟩,by decide+kernel,by decide+kernel⟩,by decide+kernel⟩
 ·rcases List.mem_cons.mp h with rfl | h
  ·rw [zoV];exact fun z=>nomatch z
  ·rw [List.mem_singleton.mp h,zoW];exact fun z=>nomatch z
 ·by_cases e:n=Str.ofString "b"
  ·exact List.mem_cons_of_mem _ (List.mem_singleton.mpr e)
  ·by_cases e2:n=Str.ofString "a"
   ·exact e2▸List.mem_cons_self ..
   ·exact absurd ((zcE e).trans (zcE e2)) h
theorem zms {p1 p2:wG} (h:[p1,p2]=dn0++[d]):dn0=[p1]/\d=p2:=by
 have k:=List.append_inj' (s₁:=[p1]) (t₁:=[p2]) h rfl;exact ⟨k.1.symm,(List.singleton_inj.mp k.2).symm⟩
theorem zmt {p:wG} (h:[p]=dn0++[d]):dn0=[]/\d=p:=by
 have k:=List.append_inj' (s₁:=([]:List wG)) (t₁:=[p]) h rfl;exact ⟨k.1.symm,(List.singleton_inj.mp k.2).symm⟩
theorem zoX (q:∀v B' H',yb a T L B H H'->H B'=none->DeskAt CD H' a T L B' s1->Q v H'):TellC e CD ⟨f0,[],[]⟩ s!"BVIy" a T L B H Q E:=by
 rw [show Txt.split s!"Iy" " "=[Str.ofString "word",Str.ofString "a",Str.ofString "u",Str.ofString "2",Str.ofString "v",Str.ofString "3"] by decide+kernel]
 have r0:RW (Txt.join " " (qsW [(true,2),(false,3)])) [(true,2),(false,3)]:=WG.rw ⟨by decide+kernel,fun i p q h1 h2=>by
  match i,h1,h2 with
  | 0,h1,h2=>cases h1;cases h2;decide
  | 1,h1,h2=>cases h2⟩
 exact .new (x:=X9) s!"F'" s!"Ei" rfl s!"#${⟨rfl,_,r0,by unfold Big;decide+kernel,rfl⟩}" s!"f" (fun z=>absurd s!"Bb{z}" s!"d") (fun _ z=>absurd zha.2 z) fun _ B' H' r n D=>q _ B' H' r n D
theorem zoY (q:∀v B' H',yb a T L B H H'->H B'=none->DeskAt CD H' a T L B' sF->Q v H'):TellC e CD s1 s!"BVIz" a T L B H Q E:=by
 rw [show Txt.split s!"Iz" " "=[Str.ofString "let",Str.ofString "b",Str.ofString "back",Str.ofString "a"] by decide+kernel]
 refine .new (x:=yO X9) (wR s!"f" s!"f") (fun j w h1 h2=>?_) rfl s!"###{⟨rfl,rfl,Str.ofString "a",X9,rfl,zmr,rfl⟩}" s!"f" (fun z=>absurd s!"Bb{z}" s!"f") (fun _ z=>absurd zhb.2 z) fun _ B' H' r n D=>q _ B' H' r n ?_
 ·match j,h1,h2 with
  | 0,h1,_=>exact absurd s!"AG" s!"f"
  | 1,h1,_=>exact absurd s!"AG" s!"f"
  | 2,h1,_=>exact absurd s!"AG" s!"f"
  | 3,_,h2=>cases h2;exact fun z=>nomatch zmr.symm.trans z
  | _+4,h1,_=>cases h1
 ·have e:s1.f s!"BR"=none:=zoU;rw [e] at D;exact D
theorem zkw (hn:NmT st.f t) (q:∀H',Same H H'->Q s!"^" H'):TellC e CD st s!"BVC1" a T L B H Q E:=by
 rw [show Txt.split s!"C1" " "=[Str.ofString "names"] by decide+kernel]
 exact .names rfl fun H' t s m=>by rw [m.uniq hn];exact q H' s
theorem zeP {n:Str} (hn:zH n=true) (hx:st.f n=some x) (hs:Txt.split t " "=[Str.ofString "show",n]) (q:∀H',Same H H'->Q s!"z{zhU x.1 x.2.1 x.2.2.1 x.2.2.2}" H'):TellC e CD st s!"A#" a T L B H Q E:=by
 rw [hs];exact .askT rfl s!"f" hn hx ⟨rfl,q,rfl,fun _ _ h=>h⟩
theorem zoZ (q:∀H',yb a T L B H H'->DeskAt CD H' a T L B sU->Q s!"zDq" H'):TellC e CD sF s!"BVId" a T L B H Q E:=by
 rw [show Txt.split s!"Id" " "=[Str.ofString "undo"] by decide+kernel]
 refine .undo rfl (fun z=>by cases z) fun dn0 d ed H' t r D nm=>?_
 obtain ⟨rfl,rfl⟩:=zms ed;dsimp only [sF] at D nm;rw [zhc] at D nm;rw [nm.uniq nm1];exact q H' r D
theorem zo0 (q:∀H',yb a T L B H H'->DeskAt CD H' a T L B sF->Q s!"zIx" H'):TellC e CD sU s!"BVDp" a T L B H Q E:=by
 rw [show Txt.split s!"Dp" " "=[Str.ofString "redo"] by decide+kernel]
 refine .redo rfl (fun z=>by cases z) fun bk0 d ed H' t r D nm=>?_
 obtain ⟨rfl,rfl⟩:=zmt ed;rw [nm.uniq nm2];exact q H' r D
theorem wC (h:∀f,¬zj ps f) (q:∀H',Same H H'->Q s!"z:{"line"}" H'):TellC e CD st ps a T L B H (T9 Q) s!"Ef":=.line h fun dx H' _ s=>.inl ⟨rfl,fun H1 s1=>q H1 s!"Iv"⟩
structure Bn (CD:Addr) (H0 H:Hp) (a x T L B:Addr):Prop where
 sc:∀o,H0 a=some o->H a=some o
 em:DeskAt CD H x T L B ⟨f0,[],[]⟩
structure Far (H0:Hp) (a x T L B x' T' L' B':Addr):Prop where
 a:∀o,H0 a=some o->a≠x'/\a≠T'/\a≠L'/\a≠B'
 x:x≠x'
 t:T≠T'
 ll:L≠L'
 lb:L≠B'
 bl:B≠L'
 bb:B≠B'
theorem Bn.same {x:Addr} (b:Bn CD H0 H a x T L B) (s:Same H H'):Bn CD H0 H' a x T L B:=⟨fun o h=>s.obj (b.sc o h),b.em.same s⟩
theorem Bn.rest {x:Addr} (b:Bn CD H0 H a x T L B) (r:yb x' T' L' B' H H') (D:DeskAt CD H x' T' L' B' st) (f:Far H0 a x T L B x' T' L' B'):Bn CD H0 H' a x T L B:=⟨fun o h=>r a o (b.sc o h) s!"Ej".1 s!"Ej".2.1 s!"Ej".2.2.1 s!"Ej".2.2.2,b.em.rest r D f.x f.t f.ll f.lb f.bl f.bb⟩
theorem Far.of {x:Addr} (b:Bn CD H0 H a x T L B) (h:∀q o,H q=some o->q≠x'/\q≠T'/\q≠L'/\q≠B'):Far H0 a x T L B x' T' L' B':=by
 obtain ⟨sc,⟨⟨_,e1⟩,⟨_,e2,_⟩,⟨_,e3,_⟩,⟨_,e4,_⟩,_⟩⟩:=b;exact ⟨fun o e=>h _ _ (sc o e),(h _ _ e1).1,(h _ _ e2).2.1,s!"Ek".2.2.1,s!"Ek".2.2.2,s!"El".2.2.1,s!"El".2.2.2⟩
theorem Far.back {x B2:Addr} (f:Far H0 a x T L B x' T' L' B') (b:Bn CD H0 H a x T L B) (h:H B2=none):Far H0 a x T L B x' T' L' B2:=by
 obtain ⟨sc,⟨_,_,⟨_,e3,_⟩,⟨_,e4,_⟩,_⟩⟩:=b;exact ⟨fun o e=>⟨(f.a o e).1,(f.a o e).2.1,(f.a o e).2.2.1,yI (sc o e) h⟩,f.x,f.t,f.ll,yI e3 h,f.bl,yI e4 h⟩
theorem zkx {x:Addr} (D2:DeskAt CD H x T L B st) (r:yb x' T' L' B' H H') (D:DeskAt CD H x' T' L' B' st') (h:∃H1:Hp,DeskAt CD H1 x T L B st/\∀q o,H1 q=some o->q≠x'/\q≠T'/\q≠L'/\q≠B'):DeskAt CD H' x T L B st:=by
 obtain ⟨H1,⟨⟨_,e1⟩,⟨_,e2,_⟩,⟨_,e3,_⟩,⟨_,e4,_⟩,_⟩,h⟩:=h;exact D2.rest r D (h _ _ e1).1 (h _ _ e2).2.1 s!"Ek".2.2.1 s!"Ek".2.2.2 s!"El".2.2.1 s!"El".2.2.2
theorem znt {H4:Hp} (h:SqL K H4 a xs) (k:∀o,H4 a=some o->H a=some o):SqL K H a xs:=by
 rcases h with (h | ⟨o,h⟩) | h
 ·exact .inl s!"${k _ h}"
 ·exact .inl s!"#{⟨o,k _ h⟩}"
 ·exact .inr h
theorem zmu {us ss:List V} {lo hi:Option Int} (h1:us.all zgt=true) (h2:ss.all zgt=true) {i:Nat} (h:(wE (us++us) lo hi++ss)[i]? =some v):zgt v=true:=by
 have hm:=List.mem_of_getElem? h;rcases List.mem_append.mp hm with hm | hm
 ·have hm:v∈us++us:=List.mem_of_mem_drop (List.mem_of_mem_take hm);rcases List.mem_append.mp hm with hm | hm <;> exact List.all_eq_true.mp h1 v hm
 ·exact List.all_eq_true.mp h2 v hm
theorem Cmp.eqs {d:Nat} {b:Addr} {us:List V} (h1:SqL K H a us) (h2:SqL K H b us) (f:∀v∈us,zX v=true):Cmp K H (d+1) s!"h" s!"B8" true:=by
 have h:=Cmp.lst (d:=d) (fun _=>true) h1 h2 rfl fun i x y hx hy=>by
  obtain rfl:x=y:=Option.some.inj (hx.symm.trans hy);have fx:=f x s!"B<{hx}";have:=Cmp.flat (K:=K) (H:=H) (d:=d) fx fx;rw [eqV_refl fx] at this;exact this
 rw [zje fun _ _=>rfl] at h
 exact h
theorem tx9 (h:(t.cps.all (·<128) && decide (t.length<=900))=true):Tx t:=by
 rw [Bool.and_eq_true,decide_eq_true_eq] at h;exact ⟨xS h.1,h.2⟩
theorem zo1 (F:Src K mg "law" zdD ["_law_script"]) (B:Blt mg) (C:Cls K mg base) (R:Rel K mg base C) (Kc:Cst K mg) (D_Desk___init__:s!"A){1}{C.Desk.f___init__}{["self"]}HI") (D_Desk_tell:s!"A){7}Gl{["self","line"]}{zgq ⟨C.NoLine.addr,C.NoName.addr,C.NoTable.addr,C.TooMany.addr,C.NoDeed.addr,C.NoWord.addr,C.NoCount.addr,C.NotOdd.addr,C.NotApart.addr⟩ C.Desk.addr}") (D__law_cell:s!"l{1}{"_law_cell"}{["_law_script","_law_k"]}{zgr K}") (D__law_draws:s!"l{2}{"_law_draws"}{["_law_cell_here","_law_widths","_law_prime"]}D!") (D__law_told:s!"l{8}{"_law_told"}{["_law_desk","_law_line"]}{znq ⟨C.NoLine.addr,C.NoName.addr,C.NoTable.addr,C.TooMany.addr,C.NoDeed.addr,C.NoWord.addr,C.NoCount.addr,C.NotOdd.addr,C.NotApart.addr⟩ C.Desk.addr}") (D__law_bad:s!"l{1}{"_law_bad"}{[]}{znr}") (D__law_strange:s!"l{3}{"_law_strange"}{["_law_cell_here","_law_prime"]}{zdL}") (D__law_good:s!"l{3}{"_law_good"}{["_law_cell_here","_law_prime"]}{zkt}") (D__law_spoilt:s!"l{3}{"_law_spoilt"}{["_law_line","_law_cell_here","_law_prime"]}{zfJ}"):Def P w K mg base s!"p" 9 "law" ["_law_script"] (zgY K):=by
 refine F.ok (CX:=CXE P w) (k:=8) zkf s!"t" s!"w"
 ·obtain ⟨_,_,rfl,_⟩:=h;rfl
 have nd:=zkf.nd;obtain ⟨a,ns,rfl,hS,h63,q⟩:=h;refine ⟨_,s!"bj{1}F`bj{2}F`b%{pe_methS D_Desk_tell C.Desk.cl C.Desk.m_tell s!"A~" xpass_nox s!"/" s!"A9"}b%{pe_methS D_Desk_tell C.Desk.cl C.Desk.m_tell s!"A~" xpass_nox s!"/" s!"A9"}bj{3})a{pe_methS D_Desk_tell C.Desk.cl C.Desk.m_tell s!"A~" xpass_nox s!"/" s!"A9"}a{pe_methS D_Desk_tell C.Desk.cl C.Desk.m_tell s!"A~" xpass_nox s!"/" s!"A9"}gbj{4}{zjU D__law_bad s!"A~" rfl xpass_nox}bj{5}B;mD#AcaI0a)aIpgCtbj{6}m{D__law_strange}AcaI0CtbB=D4C8i|BTC=i|``F^{@po_some _ _ _ s!"i|Bt5"}B'F[{7}e8A&A[-BfmC>Aca9aBXg*AK-BfmC>Aca/aBXg*AFbB=D4{@pi_range2 _ _ _ _ _ _ _ rfl B.range s!"a5a_{call_maxI rfl}{B.max}{PyProof.Rows.boot_max}a5a_{call_minI rfl}{B.min}{PyProof.Rows.boot_min}H@gg" (by rfl) (by rfl)}F[{8}bj{9}m{D__law_good}AcamGmAcavaC/gCtbj{7}m{D__law_spoilt}Aca{pv 9}amGmAcavaC/gCtb8A&A[-BfmC>Aca9aBXg*AK-BfmC>Aca/aBXg*AFb8A&A[-Bf{pe_methS D_Desk_tell C.Desk.cl C.Desk.m_tell s!"A~" xpass_nox s!"9" s!"A9"}*AK-Bf{pe_methS D_Desk_tell C.Desk.cl C.Desk.m_tell s!"A~" xpass_nox s!"/" s!"A9"}*AFb8A&A[-Bf)a{pe_methS D_Desk_tell C.Desk.cl C.Desk.m_tell s!"A~" xpass_nox s!"/" s!"A9"}a{pe_methS D_Desk_tell C.Desk.cl C.Desk.m_tell s!"A~" xpass_nox s!"/" s!"A9"}g>AK-Bf{pe_methS D_Desk_tell C.Desk.cl C.Desk.m_tell s!"A~" xpass_nox s!"/" s!"A9"}*AFe8A&A[-Bf{pe_methS D_Desk_tell C.Desk.cl C.Desk.m_tell s!"A~" xpass_nox s!"/" s!"A9"}*AK-E7mC>AcaF`a{pv 9}g*AFAF",?_⟩
 walk_at "ds";refine zd [some s!"h",none,none,none,none,none,none,none,none,none] rfl ?_;left;refine zcn fun x dx Hx nx nd' ne eH=>?_
 refine ⟨x,dx,rfl,by rw [eH];exact ze,by rw [eH,zf ne];exact ze,fun T L B H5 keep nT nL nB D=>⟨rfl,?_⟩⟩
 have s5:Same H H5:=zeO nx nd' eH keep;left;refine zcn fun x' dx' Hx' nx' nd'' ne' eH'=>?_
 refine ⟨x',dx',rfl,by rw [eH'];exact ze,by rw [eH',zf ne'];exact ze,fun T' L' B' H6 keep' nT' nL' nB' D'=>⟨rfl,?_⟩⟩
 have s6:Same H5 H6:=zeO nx' nd'' eH' keep';have b6:Bn C.Desk.addr H5 H6 a x T L B:=⟨fun o h=>s6.obj h,D.same s6⟩
 have fa:Far H5 a x T L B x' T' L' B':=Far.of (⟨fun _ h=>h,D⟩:Bn C.Desk.addr H5 H5 a x T L B) fun q o h=>⟨yI h nx',zbl nx' nd'' eH' h nT',zbl nx' nd'' eH' h nL',zbl nx' nd'' eH' h nB'⟩
 have hS5:=s5.seq hS;clear D keep keep' eH eH' s6 s5 hS nT nL nB nT' nL' nB' nx nd' nx' nd'' ne ne';obtain ⟨_,i6⟩:=D'.ins;left;refine ⟨_,_,_,_,_,_,rfl,D',zdM,s!"AZ",zoX fun v B1 H7 r7 n7 D7=>?_⟩
 have b7:=b6.rest r7 D' fa;have fa1:=fa.back b6 n7;clear D' b6 fa n7 r7 i6;obtain ⟨_,i7⟩:=D7.ins;left;refine ⟨_,_,_,_,_,_,rfl,D7,zns,s!"AZ",zoY fun v B2 H8 r8 n8 D8=>?_⟩
 have b8:=b7.rest r8 D7 fa1;have fa2:=fa1.back b7 n8;clear D7 b7 fa1 n8 r8 i7;obtain ⟨_,i8⟩:=D8.ins;left;refine ⟨_,_,_,_,_,_,rfl,D8,zaV,s!"AZ",(zeP (n:=Str.ofString "a") s!"f" zoV s!"f" fun H9 s9=>?_)⟩
 left;refine ⟨_,_,_,_,_,_,rfl,D8.same s9,zaV,s!"AZ",(zeP (n:=Str.ofString "b") s!"f" zoW s!"f" fun H10 s10=>?_)⟩
 left;rename_i SH H11 s11 n11 e11;have s811:=s9.trans (s10.trans s11);have D11:=D8.same s811;have b11:=b8.same s811;obtain ⟨dsL,eL,_⟩:=D11.done;obtain ⟨bsB,eB,_⟩:=D11.back;have nSL:SH≠L':=by
  obtain ⟨_,eL,_⟩:=D8.done;exact (yI ((s9.trans s10).obj eL) n11).symm
 have nSB:SH≠B2:=by
  obtain ⟨_,eB,_⟩:=D8.back;exact (yI ((s9.trans s10).obj eB) n11).symm
 have hS11:=znt hS5 b11.sc;clear D8 b8 s9 s10 s11 s811 i8 n11 eL eB;refine ⟨rfl,fun r12 H12 us s12 e12 bu lu ul=>?_⟩
 left;rename_i v13 p13 H13 s13 n13 e13;refine wB [(us.length:Int)] (by walk_at "h") (by show 1<=100;decide) (fun x hx=>by rw [List.mem_singleton.mp hx];omega) s!"d" fun r14 H14 fs s14 n14 e14 dr=>?_
 obtain ⟨d,rfl,d0,d1⟩:∃d:Int,fs=[d]/\0<=d/\d<us.length:=by
  obtain ⟨hl,hd⟩:=dr;obtain _ | ⟨d,_ | _⟩:=fs <;> simp at hl
  exact ⟨d,rfl,s!"C6".1,s!"C6".2⟩
 have hS14:=(s12.trans (s13.trans s14)).seq hS11;clear hS11 n13 e13 n14 dr;left;refine ⟨_,_,rfl,s!"d",fun r15 H15 ss s15 e15 bs ls=>?_⟩
 have e12':H15 r12=some s!"u{us}":=(s13.trans (s14.trans s15)).obj e12;left;refine zgE.Qd e12' e12' s!"B|{zk s!"c"}" fun r16 H16 s16 n16 e16=>?_
 left;rename_i r17 H17 s17 n17 e17;refine zgE.Qd e17 ((s16.trans s17).obj e15) s!"B|{(zk (by have:=xI (us++us) s!"B$" s!"n{(d+12)}";rw [List.length_append] at this;omega))}" fun r18 H18 s18 n18 e18=>?_
 have s1418:=s15.trans (s16.trans (s17.trans s18));have s1118:=s12.trans (s13.trans (s14.trans s1418));have D18:=D11.same s1118;have b18:=b11.same s1118;have hS18:=s1418.seq hS14;have e11':=s1118.obj e11;clear s12 s13 s14 s15 s16 s17 s18 s1418 s1118 D11 b11 e11 e12 e12' e14 e15 e16 e17 n16 n17 n18 hS14;left;refine zeV (xs:=wE (us++us) s!"B$" s!"n{(d+12)}"++ss) (fun i σ H'=>Same H18 H'/\∃z:Option V,σ=[some s!"h",some s!"Az",some s!"k{x'}",some s!"k{SH}",some s!"k{r12}",some s!"2{d}",some s!"k{r15}",z,none,none]) ⟨Same.refl _,_,rfl⟩ (fun i σ H' _ h=>SqL.of (h.1.obj e18)) ?_ ?_
 ·rintro i v σ H19 hv ⟨s19,z,rfl⟩;obtain ⟨t,rfl,tx,nf⟩:=zmo (zmu bu bs hv);left;refine ⟨_,_,_,_,_,_,rfl,b18.em.same s19,zdM,tx,wC nf fun H20 s20=>?_⟩
  left;rw [if_neg s!"s"]
  left;refine ⟨_,_,_,_,_,_,rfl,D18.same (s19.trans s20),zaV,tx,wC nf fun H21 s21=>?_⟩
  left;rw [if_neg s!"s"]
  left;exact ⟨s19.trans (s20.trans s21),_,rfl⟩
 ·rintro σ H19 ⟨s19,z,rfl⟩;have D19:=D18.same s19;have b19:=b18.same s19;have hS19:=s19.seq hS18;have e19:=s19.obj e11';clear D18 b18 hS18 e11' e18 s19 bu bs ls lu ul d0 d1;left;rename_i m1 h1 m2 h2;have l24:m2<=24/\5<=m2:=by omega
  clear h1 h2;refine zcZ (fun i σ H'=>Bn C.Desk.addr H5 H' a x T L B/\DeskAt C.Desk.addr H' x' T' L' B2 sF/\H' SH=some s!"u{[.str (zhU X9.1 X9.2.1 X9.2.2.1 X9.2.2.2),.str (zhU s!"AH".1 s!"AH".2.1 s!"AH".2.2.1 s!"AH".2.2.2)]}"/\∃z1 z2 z3:Option V,σ=[some s!"h",some s!"Az",some s!"k{x'}",some s!"k{SH}",some s!"k{r12}",some s!"2{d}",some s!"k{r15}",z1,z2,z3]) ⟨b19,D19,e19,_,_,_,rfl⟩ ?_ ?_
  ·rintro i σ H20 hi ⟨b20,D20,e20,z1,z2,z3,rfl⟩;have hS20:=znt hS5 b20.sc;obtain ⟨_,i20⟩:=D20.ins;left;refine ⟨_,_,rfl,s!"d",fun n ps H21 s21 hn hm=>?_⟩
   obtain ⟨pl,l12⟩:=zqy hn hm;have hS21:=s21.seq hS20;left;refine ⟨_,_,_,rfl,s!"d",pl,l12,fun qs H22 s22 pq hq=>?_⟩
   obtain ⟨txq,spq⟩:=zfH pq.ne pq.len pq.pc;have nf:∀f,¬zj s!"BVF+" f:=by
    rw [spq];exact nof pq hq
   have b22:=b20.same s!"F(";have D22:=D20.same s!"F(";have e22:=s!"F(".obj e20;clear b20 D20 e20 hS20 hS21 s21 s22 i20;left;refine ⟨_,_,_,_,_,_,rfl,b22.em,zdM,txq,wC nf fun H23 s23=>?_⟩
   left;rw [if_neg s!"s"]
   left;refine ⟨_,_,_,_,_,_,rfl,D22.same s23,zaV,txq,wC nf fun H24 s24=>?_⟩
   left;rw [if_neg s!"s"]
   have b24:=b22.same s!"F)";have D24:=D22.same s!"F)";have e24:=s!"F)".obj e22;clear b22 D22 e22 s23 s24;obtain ⟨_,j24⟩:=b24.em.ins;obtain ⟨_,i24⟩:=D24.ins;left;refine ⟨_,_,_,_,_,_,rfl,b24.em,zdM,s!"AZ",zkw nm0 fun H25 s25=>?_⟩
   have i25:=s25.obj i24;left;rw [if_neg s!"s"]
   left;refine ⟨_,_,_,_,_,_,rfl,D24.same s25,zaV,s!"AZ",zkw nm2 fun H26 s26=>?_⟩
   have i26:=s26.obj i25;have D26:=D24.same (s25.trans s26);left;rw [if_neg s!"s"]
   left;refine ⟨_,_,_,_,_,_,rfl,D26,zaV,s!"AZ",(zeP (n:=Str.ofString "a") s!"f" zoV s!"f" fun H27 s27=>?_)⟩
   have i27:=s27.obj i26;left;refine ⟨_,_,_,_,_,_,rfl,D26.same s27,zaV,s!"AZ",(zeP (n:=Str.ofString "b") s!"f" zoW s!"f" fun H28 s28=>?_)⟩
   left;rename_i SG H29 s29 n29 e29;have s2429:=s25.trans (s26.trans (s27.trans (s28.trans s29)));have e29':=s2429.obj e24;have i29:=s2429.obj i24;have D29:=D24.same s2429;have b29:=b24.same s2429;clear s25 s26 s27 s28 s29 i24 i25 i26 i27 j24 D24 b24 D26 e24 s2429;refine zot (Cmp.eqs (d:=3) s!"As{e29}" s!"As{e29'}" (fun v hv=>by simp at hv;rcases hv with rfl | rfl <;> rfl)) ?_
   left;refine ⟨_,_,_,_,_,_,rfl,D29,zaV,s!"AZ",zoZ fun H30 r30 D30=>?_⟩
   obtain ⟨_,i30⟩:=D30.ins;left;rw [if_neg s!"s"]
   left;refine ⟨_,_,_,_,_,_,rfl,D30,zqz,s!"AZ",zo0 fun H31 r31 D31=>?_⟩
   left;rw [if_neg s!"s"]
   left;refine zcn fun x3 dx3 Hx3 nx3 nd3 ne3 eH3=>?_
   refine ⟨x3,dx3,rfl,by rw [eH3];exact ze,by rw [eH3,zf ne3];exact ze,fun T3 L3 B3 H32 keep3 nT3 nL3 nB3 D32=>⟨rfl,?_⟩⟩
   have b31:=(b29.rest r30 D29 fa2).rest r31 D30 fa2;have e31:=r31.lst D30 (r30.lst D29 e29' nSL nSB) nSL nSB;have s32:Same H31 H32:=zeO nx3 nd3 eH3 keep3;have far:∀q o,H31 q=some o->q≠x3/\q≠T3/\q≠L3/\q≠B3:=fun q o h=>⟨yI h nx3,zbl nx3 nd3 eH3 h nT3,zbl nx3 nd3 eH3 h nL3,zbl nx3 nd3 eH3 h nB3⟩
   have fin:∀H',yb x3 T3 L3 B3 H32 H'->Bn C.Desk.addr H5 H' a x T L B/\DeskAt C.Desk.addr H' x' T' L' B2 sF/\_:=fun H' r=>⟨(b31.same s32).rest r D32 (Far.of b31 far),zkx (D31.same s32) r D32 ⟨H31,D31,far⟩,r.lst D32 (s32.obj e31) (far _ _ e31).2.2.1 (far _ _ e31).2.2.2⟩
   clear b31 e31 s32 far b29 D29 D30 D31 r30 r31 i29 i30 e29 e29' keep3;left;obtain ⟨txg,spg⟩:=zfH pl.ne pl.len pl.pc;refine ⟨_,_,_,_,_,_,rfl,D32,zdM,txg,?_⟩;rw [spg];refine zif hn hm (fun H33 r33=>?_) fun H33 s33=>?_
   ·left;rw [if_neg s!"f"]
    left;obtain ⟨g1,g2,g3⟩:=fin H33 r33;exact ⟨g1,g2,g3,_,_,_,rfl⟩
   ·left;rw [if_neg s!"f"]
    left;obtain ⟨g1,g2,g3⟩:=fin H33 (zbm s33);exact ⟨g1,g2,g3,_,_,_,rfl⟩
  ·rintro σ H20 ⟨b20,D20,e20,z1,z2,z3,rfl⟩;left;exact q _
end
theorem zqA {D:Option Addr} {its:Array Value} {n:Nat} {L:Array s!"AR"} (l:K.lookup a=some ⟨.type "tuple",D,.seq its n,L⟩) (c:its.size<=sizeLine) (d:zl xs its.toList):∀H,SqT K H a xs:=fun _=>.inr ⟨_,_,_,l,rfl,rfl,c,d⟩
variable {p:List Value->Prop}
theorem ar0 (h:p []):∀us:List Value,us.length=0->p us
 | [],_=>h
theorem ar1 (h:∀a0,p [a0]):∀us:List Value,us.length=1->p us
 | [a0],_=>h a0
theorem ar2 (h:∀a0 a1,p [a0,a1]):∀us:List Value,us.length=2->p us
 | [a0,a1],_=>h a0 a1
theorem ar3 (h:∀a0 a1 a2,p [a0,a1,a2]):∀us:List Value,us.length=3->p us
 | [a0,a1,a2],_=>h a0 a1 a2
theorem ar4 (h:∀a0 a1 a2 a3,p [a0,a1,a2,a3]):∀us:List Value,us.length=4->p us
 | [a0,a1,a2,a3],_=>h a0 a1 a2 a3
structure FnK (K:PySem.W.Frag) (x q:Str) (st:Stmt) (f:Addr):Type where
 oc:Value
 od:Option Addr
 an:Option Addr
 sl:Array s!"AR"
 kV:Value
 dc:Value
 pm:Value
 cd:Value
 ct:Value
 l:K.lookup f=some ⟨oc,od,.func s!"I1",sl⟩
 c:PySem.W.codeIn K cd q=true
 k:PySem.W.keepIn K s!"Ad"=true
structure Fx (K:PySem.W.Frag) (x:Str) (st:Stmt):Type where
 f:Addr
 a:PySem.W.nsIn K mainGlobals x=some s!"AB"
 g:FnK K x x st f
variable {h:Heap}
theorem Fx.src {x:Str} {st:Stmt} (F:Fx K x st) (X:K.In h) (G:h.Ns mainGlobals mg) (hb:∀(kV doc pm:Value) (an:Option Addr) (cdv ct:Value) (us:List Value),us.length=ps.length->bindArgs s!"EH" ⟨us,[]⟩=pure s!"AQ"):Src K mg x st ps:=znQ X G F.a F.g.l F.g.c F.g.k hb
def Fx.of {K:PySem.W.Frag} {x:Str} {st:Stmt} {f:Addr} {oc kV dc pm cd ct:Value} {od an:Option Addr} {sl:Array s!"AR"} (a:PySem.W.nsIn K mainGlobals x=some s!"AB") (l:K.lookup f=some ⟨oc,od,.func (PySem.W.fnOf x x (zx st) (zp st) s!"Bn" .none kV dc pm an cd ct),sl⟩) (c:PySem.W.codeIn K cd x=true) (k:PySem.W.keepIn K s!"Ad"=true):Fx K x st:=⟨f,a,⟨oc,od,an,sl,kV,dc,pm,cd,ct,l,c,k⟩⟩
structure Mx (K:PySem.W.Frag) (C:Addr) (x q:Str) (st:Stmt):Type where
 f:Addr
 a:PySem.W.findIn K s!"o" x=some s!"AB"
 i:PySem.W.isFn K s!"Ad"=true
 g:FnK K x q st f
def Mx.of {K:PySem.W.Frag} {C:Addr} {x q:Str} {st:Stmt} {f:Addr} {oc kV dc pm cd ct:Value} {od an:Option Addr} {sl:Array s!"AR"} (a:PySem.W.findIn K s!"o" x=some s!"AB") (i:PySem.W.isFn K s!"Ad"=true) (l:K.lookup f=some ⟨oc,od,.func s!"I1",sl⟩) (c:PySem.W.codeIn K cd q=true) (k:PySem.W.keepIn K s!"Ad"=true):Mx K C x q st:=⟨f,a,i,⟨oc,od,an,sl,kV,dc,pm,cd,ct,l,c,k⟩⟩
theorem Mx.src {C:Addr} {x q:Str} {st:Stmt} (F:Mx K C x q st) (hb:∀(kV doc pm:Value) (an:Option Addr) (cdv ct:Value) (us:List Value),us.length=ps.length->bindArgs (PySem.W.fnOf x q (zx st) (zp st) s!"Bn" .none kV doc pm an cdv ct) ⟨us,[]⟩=pure s!"AQ"):SrcM K x q st F.f ps:=zmb F.g.l F.g.c F.g.k hb
structure Lx (K:PySem.W.Frag) (x:Str):Type where
 {c:Addr}
 b:PySem.W.nsIn K mainGlobals x=some s!"nAf"
structure Ex (K:PySem.W.Frag) (x:Str):Type where
 {c:Addr}
 b:PySem.W.nsIn K mainGlobals x=some s!"nAf"
 e:PySem.W.excIn K c [.type "ValueError",.type "Exception",.type "BaseException",.type "object"] "ValueError.__new__"=true
 g:PySem.W.findIn K s!"Af" "__getattribute__"=some s!"D'"
 h:PySem.W.findIn K s!"Af" "__getattr__"=some none
 fx:PySem.W.findIn K s!"Af" "__class__"=some s!"CC"
 o:PySem.W.mroIn K c s!"BC"=some true
 v:PySem.W.mroIn K c s!"AC"=some true
 s:PySem.W.mroIn K c s!"Af"=some true
 t:PySem.W.typeIn K s!"Af"=some s!"AT"
def Ex.ck {K:PySem.W.Frag} {h base:Heap} {mg:Str->Option Value} {x:Str} (E:Ex K x) (Y:K.In base) (X:K.In h) (G:h.Ns mainGlobals mg):CK K mg base x:=zpZ Y (PySem.W.mg_of X G E.b) E.e E.g E.h E.fx E.o E.v E.s E.t
theorem all_mk {l:PySem.W.OpenLaw} {w:World} {fa:Addr} (X:K.In h) (G:h.Ns mainGlobals mg) (hfa:mg "law"=some s!"Ap") {Tu0 TF0 T0_0 T0_1 T0_2 T0_3 T0_4 T0_5 T0_6 T0_7 T0_8 T0_9 T0_10 T0_11 T0_12 T0_13 T0_14 T0_15 T0_16 C14 C16 fI14 U14:Addr} {tk0 tk1 tu0 tu1 tu2 tu3:Tok} {odI14 anI14:Option Addr} {slI14:Array s!"AR"} {kVI14 dcI14 pmI14 cdI14 ctI14:Value}
 (b16x:PySem.W.nsIn K mainGlobals "Desk"=some s!"nC7")
 (p0U:PySem.W.nsIn K mainGlobals "WORD_FORM"=some s!"nk{Tu0}")
 (pF0:PySem.W.nsIn K mainGlobals "FORMS"=some s!"nk{TF0}")
 (qF0:∀H,SqT K H TF0 [.ref T0_0,.ref T0_1,.ref T0_2,.ref T0_3,.ref T0_4,.ref T0_5,.ref T0_6,.ref T0_7,.ref T0_8,.ref T0_9,.ref T0_10,.ref T0_11,.ref T0_12,.ref T0_13,.ref T0_14,.ref T0_15,.ref T0_16])
 (qu0:∀H,SqT K H Tu0 ((["word","NAME"]:List Str).map V.str))
 (q0_0:∀H,SqT K H T0_0 ((["table","NAME","NUMBER","NUMBER","NUMBER","NUMBER"]:List Str).map V.str))
 (q0_1:∀H,SqT K H T0_1 ((["let","NAME","together","KNOWN","KNOWN"]:List Str).map V.str))
 (q0_2:∀H,SqT K H T0_2 ((["let","NAME","back","KNOWN"]:List Str).map V.str))
 (q0_3:∀H,SqT K H T0_3 ((["drop","KNOWN"]:List Str).map V.str))
 (q0_4:∀H,SqT K H T0_4 ((["undo"]:List Str).map V.str))
 (q0_5:∀H,SqT K H T0_5 ((["redo"]:List Str).map V.str))
 (q0_6:∀H,SqT K H T0_6 ((["names"]:List Str).map V.str))
 (q0_7:∀H,SqT K H T0_7 ((["show","KNOWN"]:List Str).map V.str))
 (q0_8:∀H,SqT K H T0_8 ((["number","KNOWN"]:List Str).map V.str))
 (q0_9:∀H,SqT K H T0_9 ((["steady","KNOWN"]:List Str).map V.str))
 (q0_10:∀H,SqT K H T0_10 ((["spell","KNOWN"]:List Str).map V.str))
 (q0_11:∀H,SqT K H T0_11 ((["sign","NUMBER","NUMBER"]:List Str).map V.str))
 (q0_12:∀H,SqT K H T0_12 ((["teeth","NUMBER","NUMBER"]:List Str).map V.str))
 (q0_13:∀H,SqT K H T0_13 ((["twelve","NUMBER","NUMBER"]:List Str).map V.str))
 (q0_14:∀H,SqT K H T0_14 ((["points","NUMBER","NUMBER"]:List Str).map V.str))
 (q0_15:∀H,SqT K H T0_15 ((["shuffle","NUMBER","NUMBER"]:List Str).map V.str))
 (q0_16:∀H,SqT K H T0_16 ((["parts","NUMBER","NUMBER","NUMBER","NUMBER"]:List Str).map V.str))
 (F1:Fx K "is_whole" wY)
 (F2:Fx K "is_pair_of_wholes" zO)
 (F3:Fx K "need_from" xT)
 (F4:Fx K "need_odd" wZ)
 (F5:Fx K "need_to" za8)
 (F6:Fx K "shared" zcq)
 (F7:Fx K "need_apart" xi)
 (F8:Fx K "row_behind" xj)
 (F9:Fx K "sign_rows" xU)
 (F10:Fx K "exchanged" xV)
 (F11:Fx K "shuffle_sign" yz)
 (F12:Fx K "sum_rows" w5)
 (F13:Fx K "whole_sum" xW)
 (F14:Fx K "points_under" yA)
 (F15:Fx K "steps_of" w6)
 (F16:Fx K "need_bottom" yR)
 (F17:Fx K "fraction" w9)
 (F18:Fx K "twelve_apart" yB)
 (F19:Fx K "twelve" zcr)
 (F20:Fx K "tooth_sum" xY)
 (F21:Fx K "is_table" zaa)
 (F22:Fx K "need_table" xk)
 (F23:Fx K "row_together" yC)
 (F24:Fx K "together" zab)
 (F25:Fx K "back_of" za9)
 (F26:Fx K "number_of" xZ)
 (F27:Fx K "steady_of" x5)
 (F28:Fx K "is_run" zct)
 (F29:Fx K "is_word" zba)
 (F30:Fx K "need_word" x8)
 (F31:Fx K "table_of" zac)
 (F32:Fx K "word_of" zbb)
 (F33:Fx K "is_number" x9)
 (F34:Fx K "shown_fraction" ye)
 (F35:Fx K "shown_table" yS)
 (F36:Fx K "shown_word" xl)
 (F37:Fx K "need_text" wc)
 (F38:Fx K "read_numbers" yD)
 (F39:Fx K "read_table" xm)
 (F40:Fx K "read_word" we)
 (F41:Fx K "is_name" zbc)
 (F42:Fx K "piece_fits" xn)
 (F43:Fx K "has_form" zad)
 (F44:Fx K "word_behind" yT)
 (F45:Fx K "form_of" zbd)
 (F46:Fx K "need_short_places" zP)
 (F47:Fx K "told_of_table" ym)
 (F48:Fx K "told_of_numbers" zZ)
 (F49:Mx K C16 "__init__" "Desk.__init__" yn)
 (F50:Mx K C16 "need_known" "Desk.need_known" ya)
 (F51:Mx K C16 "new_table" "Desk.new_table" yf)
 (F52:Mx K C16 "keep" "Desk.keep" wg)
 (F53:Mx K C16 "do_deed" "Desk.do_deed" yG)
 (F54:Mx K C16 "undo" "Desk.undo" wj)
 (F55:Mx K C16 "redo" "Desk.redo" wk)
 (F56:Mx K C16 "shown_names" "Desk.shown_names" zT)
 (F57:Mx K C16 "tell" "Desk.tell" wl)
 (F58:Fx K "_law_cell" wm)
 (F59:Fx K "_law_mixed" xo)
 (F60:Fx K "_law_draws" xq)
 (F61:Fx K "_law_told" wn)
 (F62:Fx K "_law_bad" zae)
 (F63:Fx K "_law_strange" yH)
 (F64:Fx K "_law_good" wo)
 (F65:Fx K "_law_spoilt" yU)
 (F66:Fx K "law" zdD)
 (z0:PySem.W.nsIn K mainGlobals "abs"=some none)
 (z1:PySem.W.nsIn K mainGlobals "all"=some none)
 (z2:PySem.W.nsIn K mainGlobals "bool"=some none)
 (z3:PySem.W.nsIn K mainGlobals "int"=some none)
 (z4:PySem.W.nsIn K mainGlobals "isinstance"=some none)
 (z5:PySem.W.nsIn K mainGlobals "len"=some none)
 (z6:PySem.W.nsIn K mainGlobals "list"=some none)
 (z7:PySem.W.nsIn K mainGlobals "max"=some none)
 (z8:PySem.W.nsIn K mainGlobals "min"=some none)
 (z9:PySem.W.nsIn K mainGlobals "range"=some none)
 (z10:PySem.W.nsIn K mainGlobals "sorted"=some none)
 (z11:PySem.W.nsIn K mainGlobals "str"=some none)
 (z12:PySem.W.nsIn K mainGlobals "sum"=some none)
 (z13:PySem.W.nsIn K mainGlobals "tuple"=some none)
 (z14:PySem.W.nsIn K mainGlobals "zip"=some none)
 (y0:PySem.W.nsIn K mainGlobals "MOST_FIGURES"=some s!"n{.int 60 tk0}")
 (y1:PySem.W.nsIn K mainGlobals "MOST_LETTERS"=some s!"n{.int 8 tk1}")
 (u0T:PySem.W.nsIn K mainGlobals "FIGURES"=some s!"n{.str "0123456789" tu0}")
 (u1T:PySem.W.nsIn K mainGlobals "EMPTY_WORD"=some s!"n{.str "none" tu1}")
 (u2T:PySem.W.nsIn K mainGlobals "LETTERS"=some s!"n{.str "abcdefghijklmnopqrstuvwxyz" tu2}")
 (u3T:PySem.W.nsIn K mainGlobals "NO_NAMES"=some s!"n{.str "none" tu3}")
 (pg16:PySem.W.plainGet K C16 Str.empty=true)
 (hd16:PySem.W.hasDictIn K C16=true)
 (po16:PySem.W.plainOver K C16=true)
 (sa16:PySem.W.findIn K s!"C7" "__setattr__"=some s!"CA")
 (mk16:PySem.W.makesIn K C16=true)
 (kc16:PySem.W.keepIn K s!"C7"=true)
 (na16_0:PySem.W.findIn K s!"C7" "tables"=some none)
 (na16_1:PySem.W.findIn K s!"C7" "done"=some none)
 (na16_2:PySem.W.findIn K s!"C7" "taken_back"=some none)
 (E0:Ex K "SawError")
 (E1:Ex K "NoCount")
 (E2:Ex K "NotOdd")
 (E3:Ex K "TooMany")
 (E4:Ex K "NotApart")
 (E5:Lx K "NoShuffle")
 (E6:Lx K "NoPaper")
 (E7:Lx K "NoPrime")
 (E8:Ex K "NoFraction")
 (E9:Ex K "NoTable")
 (E10:Ex K "NoWord")
 (E11:Lx K "NoRow")
 (E12:Ex K "NoText")
 (E13:Ex K "NoLine")
 (E15:Ex K "NoDeed")
 (b14x:PySem.W.nsIn K mainGlobals "NoName"=some s!"nB:")
 (d14x:PySem.W.findIn K s!"B:" "__init__"=some s!"nk{fI14}")
 (e14x:zjw K C14 fI14=true)
 (g14x:PySem.W.findIn K s!"B:" "__getattribute__"=some s!"D'")
 (h14x:PySem.W.findIn K s!"B:" "__getattr__"=some none)
 (fx14:PySem.W.findIn K s!"B:" "__class__"=some s!"CC")
 (o14x:PySem.W.mroIn K C14 s!"BC"=some true)
 (v14x:PySem.W.mroIn K C14 s!"AC"=some true)
 (s14x:s!"I2".isSome=true)
 (p14x:PySem.W.findIn K s!"B:" "__setattr__"=some s!"CA")
 (q14x:PySem.W.findIn K s!"B:" "name"=some none)
 (w14x:s!"I2".any (fun cd=>zbt cd.mro && cd.hasDict)=true)
 (m14x:PySem.W.nsIn K mainGlobals "SawError"=some s!"nk{U14}")
 (n14x:PySem.W.specialIn K s!"k{U14}" "__getattribute__"=some s!"Fe")
 (j14x:PySem.W.readsIn K U14 s!"AT"=true)
 (k14x:PySem.W.findCls K s!"k{U14}" s!"AT" "__init__"=some s!"Ff")
 (lI14:K.lookup fI14=some ⟨.type "function",odI14,.func (PySem.W.fnOf "__init__" "NoName.__init__" (zx xa) (zp xa) (zc xa) .none kVI14 dcI14 pmI14 anI14 cdI14 ctI14),slI14⟩)
 (cI14:PySem.W.codeIn K cdI14 "NoName.__init__"=true)
 (kI14:PySem.W.keepIn K s!"k{fI14}"=true)
 (r0:K1 K E12.c E12.c true)
 (r1:K1 K E13.c E13.c true)
 (r2:K1 K E13.c E0.c true)
 (r3:PySem.W.kitAny K s!"k{E13.c}" [s!"k{E1.c}",s!"k{E15.c}",s!"B:",s!"k{E4.c}",s!"k{E9.c}",s!"k{E2.c}",s!"k{E10.c}",s!"k{E3.c}",s!"k{E6.c}",s!"k{E7.c}"]=some false)
 (r4:PySem.W.kitAny K s!"k{E13.c}" [s!"k{E11.c}",s!"k{E5.c}",s!"k{E12.c}",s!"k{E8.c}"]=some false)
 (r5:K1 K C14 E13.c false)
 (r6:K1 K C14 E0.c true)
 (r7:K1 K E1.c E13.c false)
 (r8:K1 K E1.c E0.c true)
 (r9:K1 K E2.c E13.c false)
 (r10:K1 K E2.c E0.c true)
 (r11:K1 K E4.c E13.c false)
 (r12:K1 K E4.c E0.c true):
  ∃fd:FuncData,(∀(s:Shared) (v:Value),BindsTo s fd ⟨[v],[]⟩ [("_law_script",v)])/\∀base:Heap,K.In base->base.Ns mainGlobals mg->FnOk l.prog w K mg base (CXE l.prog w) 9 fa fd ["_law_script"] (zgY K):=by
 have Kc:Cst K mg:=⟨⟨_,PySem.W.mg_of X G y0⟩,⟨_,PySem.W.mg_of X G y1⟩,⟨_,PySem.W.mg_of X G u0T⟩,⟨_,PySem.W.mg_of X G u1T⟩,⟨_,PySem.W.mg_of X G u2T⟩,⟨_,PySem.W.mg_of X G u3T⟩,⟨_,PySem.W.mg_of X G p0U,qu0⟩,⟨_,[T0_0,T0_1,T0_2,T0_3,T0_4,T0_5,T0_6,T0_7,T0_8,T0_9,T0_10,T0_11,T0_12,T0_13,T0_14,T0_15,T0_16],PySem.W.mg_of X G pF0,qF0,(.cons q0_0 (.cons q0_1 (.cons q0_2 (.cons q0_3 (.cons q0_4 (.cons q0_5 (.cons q0_6 (.cons q0_7 (.cons q0_8 (.cons q0_9 (.cons q0_10 (.cons q0_11 (.cons q0_12 (.cons q0_13 (.cons q0_14 (.cons q0_15 s!"C*{q0_16}"))))))))))))))))⟩⟩;have B:Blt mg:=⟨PySem.W.mg_none_of X G z0,PySem.W.mg_none_of X G z1,PySem.W.mg_none_of X G z2,PySem.W.mg_none_of X G z3,PySem.W.mg_none_of X G z4,PySem.W.mg_none_of X G z5,PySem.W.mg_none_of X G z6,PySem.W.mg_none_of X G z7,PySem.W.mg_none_of X G z8,PySem.W.mg_none_of X G z9,PySem.W.mg_none_of X G z10,PySem.W.mg_none_of X G z11,PySem.W.mg_none_of X G z12,PySem.W.mg_none_of X G z13,PySem.W.mg_none_of X G z14⟩;have e:=hfa.symm.trans s!"I3";cases e;refine ⟨PySem.W.fnOf "law" "law" (zx zdD) (zp zdD) (zc zdD) .none F66.g.kV F66.g.dc F66.g.pm F66.g.an F66.g.cd F66.g.ct,fun s v=>.of_eq rfl,fun base hK hG=>?_⟩
 let C:Cls K mg base:=⟨E0.ck hK X G,E1.ck hK X G,E2.ck hK X G,E3.ck hK X G,E4.ck hK X G,⟨E5.c,PySem.W.mg_of X G E5.b⟩,⟨E6.c,PySem.W.mg_of X G E6.b⟩,⟨E7.c,PySem.W.mg_of X G E7.b⟩,E8.ck hK X G,E9.ck hK X G,E10.ck hK X G,⟨E11.c,PySem.W.mg_of X G E11.b⟩,E12.ck hK X G,E13.ck hK X G,⟨C14,PySem.W.mg_of X G b14x,fI14,zov hK e14x,⟨s14x,g14x,h14x,fx14,o14x,v14x⟩,⟨p14x,q14x,w14x⟩,U14,PySem.W.mg_of X G m14x,n14x,j14x,k14x⟩,E15.ck hK X G,⟨C16,PySem.W.mg_of X G b16x,⟨pg16,hd16,po16,sa16⟩,na16_0,na16_1,na16_2,F49.f,⟨F49.a,F49.i,F49.g.k⟩,F50.f,⟨F50.a,F50.i,F50.g.k⟩,F51.f,⟨F51.a,F51.i,F51.g.k⟩,F52.f,⟨F52.a,F52.i,F52.g.k⟩,F53.f,⟨F53.a,F53.i,F53.g.k⟩,F54.f,⟨F54.a,F54.i,F54.g.k⟩,F55.f,⟨F55.a,F55.i,F55.g.k⟩,F56.f,⟨F56.a,F56.i,F56.g.k⟩,F57.f,⟨F57.a,F57.i,F57.g.k⟩,⟨mk16,F49.a,F49.i,kc16⟩⟩⟩
 have R:Rel K mg base C:=⟨r0,r1,r2,r3,r4,r5,r6,r7,r8,r9,r10,r11,r12⟩;have D_NoName:=zh4 (P:=l.prog) (w:=w) (base:=base) (C:=C) (zlZ (st:=xa) (ps:=["self","name"]) lI14 cI14 kI14 s!"(")
 have D_is_whole:=zfo (P:=l.prog) (w:=w) (F1.src X G s!"?") B C R Kc
 have D_is_pair_of_wholes:=wq (F2.src X G s!"?") B C R Kc D_is_whole
 have D_need_from:=zen (P:=l.prog) (w:=w) (F3.src X G s!"(") B C R Kc
 have D_need_odd:=zfp (F4.src X G s!"?") B C R Kc D_need_from
 have D_need_to:=zge (P:=l.prog) (w:=w) (F5.src X G s!"(") B C R Kc
 have D_shared:=zh5 (P:=l.prog) (w:=w) (F6.src X G s!"(") B C R Kc
 have D_need_apart:=zcN (F7.src X G s!"(") B C R Kc D_shared
 have D_row_behind:=zcO (P:=l.prog) (w:=w) (F8.src X G (fun _ _ _ _ _ _=>ar3 fun _ _ _=>by kernel_rfl)) B C R Kc
 have D_sign_rows:=zeo (F9.src X G s!"(") B C R Kc D_need_odd D_row_behind
 have D_exchanged:=zep (F10.src X G s!"(") B C R Kc D_sign_rows
 have D_shuffle_sign:=zbK (F11.src X G s!"(") B C R Kc D_need_from D_need_apart D_exchanged
 have D_sum_rows:=zfq (F12.src X G (fun _ _ _ _ _ _=>ar4 fun _ _ _ _=>by kernel_rfl)) B C R Kc D_need_from
 have D_whole_sum:=zeq (F13.src X G (fun _ _ _ _ _ _=>ar4 fun _ _ _ _=>by kernel_rfl)) B C R Kc D_sum_rows
 have D_points_under:=zbL (F14.src X G s!"(") B C R Kc D_need_odd D_whole_sum
 have D_steps_of:=zfr (F15.src X G s!"(") B C R Kc D_need_from
 have D_need_bottom:=zcy (P:=l.prog) (w:=w) (F16.src X G s!"?") B C R Kc
 have D_fraction:=zfs (F17.src X G s!"(") B C R Kc D_need_bottom D_shared
 have D_twelve_apart:=zbM (F18.src X G s!"(") B C R Kc D_steps_of
 have D_twelve:=zh7 (F19.src X G s!"(") B C R Kc D_need_from D_shared D_twelve_apart
 have D_tooth_sum:=zer (F20.src X G s!"(") B C R Kc D_twelve D_fraction
 have D_is_table:=zft (F21.src X G s!"?") B C R Kc D_is_pair_of_wholes
 have D_need_table:=zcP (F22.src X G s!"?") B C R Kc D_is_table
 have D_row_together:=zbN (P:=l.prog) (w:=w) (F23.src X G s!"(") B C R Kc
 have D_together:=zfv (F24.src X G s!"(") B C R Kc D_need_table D_row_together
 have D_back_of:=zgg (F25.src X G s!"?") B C R Kc D_need_table
 have D_number_of:=zes (P:=l.prog) (w:=w) (F26.src X G s!"?") B C R Kc
 have D_steady_of:=zet (P:=l.prog) (w:=w) (F27.src X G s!"?") B C R Kc
 have D_is_run:=zh8 (F28.src X G s!"?") B C R Kc D_is_whole
 have D_is_word:=zgh (F29.src X G s!"?") B C R Kc D_is_run
 have D_need_word:=zev (F30.src X G s!"?") B C R Kc D_is_word
 have D_table_of:=zfx (F31.src X G s!"?") B C R Kc D_need_word
 have D_word_of:=zgi (P:=l.prog) (w:=w) (F32.src X G s!"?") B C R Kc
 have D_is_number:=zex (P:=l.prog) (w:=w) (F33.src X G s!"?") B C R Kc
 have D_shown_fraction:=zaP (P:=l.prog) (w:=w) (F34.src X G s!"?") B C R Kc
 have D_shown_table:=zcz (F35.src X G s!"?") B C R Kc D_need_table
 have D_shown_word:=zcQ (P:=l.prog) (w:=w) (F36.src X G s!"?") B C R Kc
 have D_need_text:=zey (P:=l.prog) (w:=w) (F37.src X G s!"?") B C R Kc
 have D_read_numbers:=zbO (F38.src X G s!"?") B C R Kc D_is_number D_need_text
 have D_read_table:=zcR (F39.src X G s!"?") B C R Kc D_need_text D_read_numbers D_need_table
 have D_read_word:=zeA (F40.src X G s!"?") B C R Kc D_need_text D_read_numbers D_is_word
 have D_is_name:=zgj (P:=l.prog) (w:=w) (F41.src X G s!"?") B C R Kc
 have D_piece_fits:=zcT (F42.src X G s!"(") B C R Kc D_is_number D_is_name
 have D_has_form:=zfz (F43.src X G s!"(") B C R Kc D_piece_fits
 have D_word_behind:=zcB (F44.src X G s!"?") B C R Kc D_read_word
 have D_form_of:=zgk (F45.src X G s!"?") B C R Kc D_has_form D_word_behind
 have D_need_short_places:=wt (F46.src X G s!"?") B C R Kc D_need_to
 have D_told_of_table:=zbf (F47.src X G s!"(") B C R Kc D_shown_table D_number_of D_steady_of D_shown_word D_word_of
 have D_told_of_numbers:=zah (F48.src X G s!"(") B C R Kc D_whole_sum D_exchanged D_tooth_sum D_shown_fraction D_twelve D_points_under D_shuffle_sign
 have D_Desk___init__:=zbg (P:=l.prog) (w:=w) C (F49.src s!"?") B R Kc
 have D_Desk_need_known:=zai C (F50.src (fun _ _ _ _ _ _=>ar3 fun _ _ _=>by kernel_rfl)) B R Kc D_NoName
 have D_Desk_new_table:=zaS C (F51.src s!"(") B R Kc D_read_table D_table_of D_word_behind D_together D_back_of D_need_short_places
 have D_Desk_keep:=zeD (P:=l.prog) (w:=w) C (F52.src (fun _ _ _ _ _ _=>ar3 fun _ _ _=>by kernel_rfl)) B R Kc
 have D_Desk_do_deed:=zbR C (F53.src (fun _ _ _ _ _ _=>ar3 fun _ _ _=>by kernel_rfl)) B R Kc D_Desk_keep
 have D_Desk_undo:=zeE C (F54.src s!"?") B R Kc D_Desk_keep
 have D_Desk_redo:=zeF C (F55.src s!"?") B R Kc D_Desk_keep
 have D_Desk_shown_names:=wH (P:=l.prog) (w:=w) C (F56.src s!"?") B R Kc
 have D_Desk_tell:=zeJ C (F57.src s!"(") B R Kc D_form_of D_Desk_need_known D_Desk_new_table D_Desk_do_deed D_shown_table D_Desk_undo D_Desk_redo D_Desk_shown_names D_told_of_table D_told_of_numbers
 have D__law_cell:=zeK (P:=l.prog) (w:=w) (F58.src X G s!"(") B C R Kc
 have D__law_mixed:=zcU (P:=l.prog) (w:=w) (F59.src X G (fun _ _ _ _ _ _=>ar3 fun _ _ _=>by kernel_rfl)) B C R Kc
 have D__law_draws:=zcV (F60.src X G (fun _ _ _ _ _ _=>ar3 fun _ _ _=>by kernel_rfl)) B C R Kc D__law_mixed
 have D__law_told:=zeM (F61.src X G s!"(") B C R Kc D_Desk_tell
 have D__law_bad:=zfI (P:=l.prog) (w:=w) (F62.src X G (fun _ _ _ _ _ _=>ar0 rfl)) B C R Kc
 have D__law_strange:=zbS (F63.src X G s!"(") B C R Kc D__law_draws
 have D__law_good:=zeN (F64.src X G s!"(") B C R Kc D__law_draws
 have D__law_spoilt:=zcD (F65.src X G (fun _ _ _ _ _ _=>ar3 fun _ _ _=>by kernel_rfl)) B C R Kc D__law_draws
 have D_law:=zo1 (F66.src X G s!"?") B C R Kc D_Desk___init__ D_Desk_tell D__law_cell D__law_draws D__law_told D__law_bad D__law_strange D__law_good D__law_spoilt
 exact D_law.fn s!"I3" F66.g.l
theorem walk {l:PySem.W.OpenLaw} {q:Program} {loose:List Str} {XP:(Str->Option Value)->Heap->Prop} {YP:World->Heap->Prop} {d:DefRec} {K:Params->PySem.W.Frag} (hn:l.most=some 63) (hdf:d.params.defaults=[])
 (hY:∀(w:World) (h:Heap),YP w h->s!"D_".In h)
 (F:∀(w:World) (mg:Str->Option Value) (fa:Addr) (h:Heap),(K w.params).In h->h.Ns mainGlobals mg->mg d.name=some (.ref fa)->
  ∃fd:FuncData,(∀(s:Shared) (u:Value),BindsTo s fd ⟨[u],[]⟩ [("_law_script",u)])/\∀base:Heap,(K w.params).In base->base.Ns mainGlobals mg->FnOk l.prog w (K w.params) mg base (CXE l.prog w) 9 fa fd ["_law_script"] (zgY (K w.params))):
 PySem.W.WalkO q loose XP YP l.row.toRowW d [] (fun f vs=>PySem.call f vs):=
 L2.zgD (n:=63) (k:=9) (x:="_law_script") (CX:=fun w=>CXE l.prog w) (sp:=fun w=>zgY s!"D_") hn s!"d" hdf ⟨rfl,by decide,by decide⟩ hY F (fun _ _ a ns hl _ hS=>⟨a,ns,rfl,hS,hl,fun _=>rfl⟩) fun _ _ _ _ _ z=>by
  obtain ⟨_,_,_,_,_,_,_,y,_⟩:=z;exact y.elim
end My
open L2
local macro_rules|`(tactic|walk_at "fx")=>`(tactic|(refine' My.Fx.of ?a ?l ?c ?k;(case a=>k_is);(case l=>k_is);(case c=>k_is);(case k=>k_is)))
local macro_rules|`(tactic|walk_at "mx")=>`(tactic|(refine' My.Mx.of ?a ?i ?l ?c ?k;(case a=>k_is);(case i=>k_is);(case l=>k_is);(case c=>k_is);(case k=>k_is)))
local macro_rules|`(tactic|walk_at "kr")=>`(tactic|((try dsimp only [My.K1]);kit_is))
local macro_rules|`(tactic|walk_at "lx")=>`(tactic|(refine' My.Lx.mk ?a;(case a=>k_is)))
local macro_rules|`(tactic|walk_at "ex")=>`(tactic|(refine' My.Ex.mk ?b ?e ?g ?h ?f ?o ?v ?s ?t;(case b=>k_is);(case e=>k_exc);(case g=>k_is);(case h=>k_is);(case f=>k_is);(case o=>k_is);(case v=>k_is);(case s=>k_is);(case t=>k_is)))
local macro_rules|`(tactic|walk_at "sq")=>`(tactic|(refine' My.zqA ?l ?c ?d;(case l=>k_is);(case c=>decide);(case d=>repeat first|exact .nil|refine .cons rfl ?_|refine .cons ⟨_, rfl⟩ ?_)))
open PySem PySem.W PyProof.Rows
set_option maxRecDepth 100000 in
set_option maxHeartbeats 0 in
theorem PySem.Challenge.cw_sawsign_k69_what_is_a_line_holds : PySem.Challenge.rw_sawsign_k69_what_is_a_line.Holds := by
 refine hd ?_
 k_fill
 refine My.walk (l:=PySem.Challenge.rw_sawsign_k69_what_is_a_line) rfl rfl (fun w h Y=>PySem.W.kIn_of Y) ?F
 case F=>
  intro w mg fa h KX G hmg;exact My.all_mk KX G hmg s!"7" s!"7" s!"7" s!"Ar" s!"Ar" s!"Ar" s!"Ar" s!"Ar" s!"Ar" s!"Ar" s!"Ar" s!"Ar" s!"Ar" s!"Ar" s!"Ar" s!"Ar" s!"Ar" s!"Ar" s!"Ar" s!"Ar" s!"Ar" s!"Ar" s!"0" s!"0" s!"0" s!"0" s!"0" s!"0" s!"0" s!"0" s!"0" s!"0" s!"0" s!"0" s!"0" s!"0" s!"0" s!"0" s!"0" s!"0" s!"0" s!"0" s!"0" s!"0" s!"0" s!"0" s!"0" s!"0" s!"0" s!"0" s!"0" s!"0" s!"0" s!"0" s!"0" s!"0" s!"0" s!"0" s!"0" s!"0" s!"0" s!"0" s!"0" s!"0" s!"0" s!"0" s!"0" s!"0" s!"0" s!"0" (by walk_at "mx") (by walk_at "mx") (by walk_at "mx") (by walk_at "mx") (by walk_at "mx") (by walk_at "mx") (by walk_at "mx") (by walk_at "mx") (by walk_at "mx") s!"0" s!"0" s!"0" s!"0" s!"0" s!"0" s!"0" s!"0" s!"0" s!"7" s!"7" s!"7" s!"7" s!"7" s!"7" s!"7" s!"7" s!"7" s!"7" s!"7" s!"7" s!"7" s!"7" s!"7" s!"7" s!"7" s!"7" s!"7" s!"7" s!"7" s!"7" s!"7" s!"7" s!"7" s!"7" s!"7" s!"7" s!"7" s!"7" (by walk_at "ex") (by walk_at "ex") (by walk_at "ex") (by walk_at "ex") (by walk_at "ex") (by walk_at "lx") (by walk_at "lx") (by walk_at "lx") (by walk_at "ex") (by walk_at "ex") (by walk_at "ex") (by walk_at "lx") (by walk_at "ex") (by walk_at "ex") (by walk_at "ex") s!"7" s!"7" s!"," s!"7" s!"7" s!"7" s!"7" s!"7" s!"," s!"7" s!"7" s!"," s!"7" s!"7" s!"7" s!"7" s!"7" s!"7" s!"7" (by walk_at "kr") (by walk_at "kr") (by walk_at "kr") (by walk_at "kr") (by walk_at "kr") (by walk_at "kr") (by walk_at "kr") (by walk_at "kr") (by walk_at "kr") (by walk_at "kr") (by walk_at "kr") (by walk_at "kr") (by walk_at "kr")
