import PyProof.Rows.All
import KE.KDictOf
import KE.KDictSum
import KE.KEqDict
import KE.KSortTup
import KE.KTryMore
import KE.RegKIsAll
import KE.RegKTryMore
import Lean
import OpenK.AllK
import PyProof.EqAt
import PyProof.EqKinds
import PyProof.ExcClass3
import PyProof.NsDelKeeps
import PyProof.Rows.FStr
import PyProof.Rows.StrMadeLen
import PyProof.Rows.ZipGen
import PyProof.SliceStr2
import PyProof.StrLaws
import PyProof.TupleCall
import Wide.All
import Wide.FinOn
import PySem.Challenge.RW_fivehues_k15_mirrored_and_renamed
set_option Elab.async false
set_option linter.all false
set_option maxRecDepth 100000
set_option maxHeartbeats 4000000
abbrev Qa:=@List.length_map
abbrev Qb:=@List.getElem?_eq_getElem
abbrev Qc:=@List.mem_singleton
abbrev Qd:=@List.mem_cons_self
abbrev Qe:=@List.mem_append
abbrev Qf:=@List.mem_map
abbrev Qg:=@PySem.Heap.get?_push_of_some
abbrev Qh:=@List.mem_cons_of_mem
abbrev Qi:=@Nat.le_refl
abbrev Qj:=@List.mem_cons
abbrev Qk:=@List.take_succ_eq_append_getElem
abbrev Ql:=@List.map_cons
abbrev Qm:=@List.length_append
abbrev Qn:=@Option.some.inj
abbrev Qo:=@List.getElem?_map
abbrev Qp:=@List.map_append
abbrev Qq:=@List.getElem_mem
abbrev Qr:=@List.take_of_length_le
abbrev Qs:=@List.mem_append_right
abbrev Qt:=@List.size_toArray
abbrev Qu:=@PySem.Heap.lt_size
abbrev Qv:=@List.mem_append_left
abbrev Qw:=@List.nodup_cons
abbrev Qx:=@List.getD_eq_getElem?_getD
abbrev Qy:=@PySem.Heap.get?_push_size
abbrev Qz:=@List.append_assoc
abbrev Za:=@List.length_take
abbrev Zb:=@List.getElem?_eq_some_iff
abbrev Zc:=@List.map_map
abbrev Zd:=@Ne.symm
abbrev Ze:=@List.getElem_of_mem
abbrev Zf:=@List.nodup_append
abbrev Zg:=@PySem.F.plainAttrs_list
abbrev Zh:=@PySem.Paired.length
abbrev Zi:=@Nat.ne_of_lt
abbrev Zj:=@Bool.false_ne_true
abbrev Zk:=@List.length_cons
abbrev Zl:=@PySem.boot_len
abbrev Zm:=@Nat.zero_le
abbrev Zn:=@Nat.le_trans
abbrev Zo:=@Int.eq_ofNat_of_zero_le
abbrev Zp:=@List.getElem_map
abbrev Zq:=@List.append_nil
abbrev Zr:=@List.take_append_drop
abbrev Zs:=@List.nodup_nil
abbrev Zt:=@Nat.le_of_lt
abbrev Zu:=@PySem.F.type_list_append
abbrev Zv:=@PySem.F.slot_list_append
abbrev Zw:=@List.all_eq_true
abbrev Zx:=@Nat.lt_of_lt_of_le
abbrev Zy:=@Array.length_toList
abbrev Zz:=@List.pairwise_append
abbrev Ya:=@PySem.PassesOwn.never
abbrev Yb:=@Nat.le_add_right
abbrev Yc:=@List.drop_eq_getElem_cons
abbrev Yd:=@List.filter_cons_of_pos
abbrev Yf:=@List.filter_cons_of_neg
abbrev Yh:=@Nat.lt_of_le_of_lt
abbrev Yi:=@List.mem_flatten
abbrev Yj:=@List.flatten_cons
abbrev Yl:=@Array.toList_append
abbrev Ym:=@PySem.W.mg_none_of
abbrev Yn:=@Bool.eq_iff_iff
abbrev Yo:=@Nat.ne_of_gt
abbrev Yp:=@Array.getElem?_eq_getElem
abbrev Yq:=@List.filter_append
abbrev Yr:=@List.cons_append
abbrev Yu:=@List.length_drop
abbrev Yv:=@List.any_eq_true
abbrev Yw:=@PyProof.Rows.boot_isinstance
abbrev Yx:=@PyProof.Rows.boot_sorted
abbrev Yy:=@List.sum_cons
abbrev Yz:=@List.mem_of_getElem?
abbrev Wa:=@Nat.lt_succ_self
abbrev Wc:=@PySem.Heap.get?_update_other
abbrev Wd:=@List.map_congr_left
abbrev We:=@PyProof.Rows.KeyOrd.kle_of_klt
abbrev Wf:=@Bool.and_eq_true
abbrev Wg:=@List.mem_range
abbrev Wh:=@List.mem_of_mem_take
abbrev Wi:=@Bool.not_eq_true'
abbrev Wj:=@Nat.lt_irrefl
abbrev Wk:=@PyProof.Rows.KeyOrd.kle_trans
abbrev Wl:=@List.mem_reverse
abbrev Wm:=@List.getElem_inj
abbrev Wn:=@Nat.lt_of_succ_lt
abbrev Wo:=@List.mem_of_mem_drop
abbrev Wp:=@List.find?_cons_of_pos
abbrev Wq:=@List.find?_cons_of_neg
abbrev Wr:=@List.append_of_mem
abbrev Ws:=@Bool.false_eq_true
abbrev Wt:=@PySem.Around.under_plainId
abbrev Wu:=@List.flatten_append
abbrev Wv:=@List.length_filter_le
abbrev Ww:=@Nat.lt_trans
abbrev Wx:=@List.pairwise_map
abbrev Wy:=@List.length_range
abbrev Wz:=@PySem.W.kia_one
abbrev Ua:=@List.filter_nil
abbrev Ub:=@List.length_pos_iff
abbrev Uc:=@List.length_singleton
abbrev Ud:=@List.Perm.append_left
abbrev Ue:=@PySem.Heap.SameBut.update
abbrev Uf:=@List.pairwise_cons
abbrev Ug:=@Sum.inr.inj
abbrev Uh:=@List.getElem_toArray
abbrev Ui:=@PySem.SeqAt.EqAt.str_str
abbrev Uj:=@PySem.Obj.data_mapFields
abbrev Uk:=@List.map_take
abbrev Ul:=@Int.toNat_natCast
abbrev Um:=@Array.perm_iff_toList_perm
abbrev Uo:=@PySem.mem_of_lookup
abbrev Uq:=@List.mem_filter
abbrev Ur:=@List.perm_append_comm
abbrev Us:=@List.getElem?_eq_none
abbrev Ut:=@PySem.Heap.size_push
abbrev Uu:=@PySem.F.slot_tuple_iterator_next
abbrev Uv:=@Array.getElem?_toList
abbrev Uw:=@PySem.F.called_set
abbrev Ux:=@List.lt_irrefl
abbrev Uy:=@PySem.F.type_list_index
abbrev Uz:=@PySem.F.slot_list_index
abbrev Ja:=@List.getElem_take
abbrev Jb:=@Nat.mod_lt
abbrev Jc:=@PyProof.Rows.KeyOrd.kle_refl
abbrev Jd:=@Bool.or_eq_true
abbrev Je:=@List.filter_sublist
abbrev Jf:=@PyProof.Rows.callWith_type1
abbrev Jg:=@PyProof.Rows.boot_dict
abbrev Ji:=@Nat.lt_or_ge
abbrev Jj:=@PySem.W.mg_of
abbrev Jk:=@List.lookup_cons
abbrev Jl:=@PySem.F.slot_dict_keyiterator_next
abbrev Jm:=@List.getElem?_append_right
abbrev Jo:=@List.Nodup.sublist
abbrev Jp:=@List.pairwise_iff_getElem
abbrev Jq:=@List.nil_append
abbrev Jr:=@List.length_set
abbrev Js:=@Nat.lt_succ_of_lt
abbrev Jt:=@PySem.Heap.get?_update_self
abbrev Ju:=@List.map_drop
abbrev Jv:=@List.idxOf_lt_length_iff
abbrev Jw:=@List.all_cons
abbrev Jx:=@List.flatten_nil
abbrev Jy:=@List.getElem_idxOf
abbrev Jz:=@List.drop_of_length_le
abbrev Ka:=@Bool.not_eq_false'
abbrev Kb:=@List.length_nil
abbrev Kc:=@List.take_sublist
abbrev Kd:=@PySem.Calls.spliced_cons
abbrev Ke:=@List.perm_ext_iff_of_nodup
abbrev Kf:=@List.map_id
abbrev Kg:=@Array.toList_reverse
abbrev Kh:=@PySem.Obj.isFreed_of_fields
abbrev Ki:=@Nat.zero_add
abbrev Kj:=@Decidable.byContradiction
abbrev Kk:=@Nat.add_le_add_left
abbrev Kl:=@List.perm_iff_count
abbrev Km:=@Prod.ext
abbrev Kn:=@Nat.le_antisymm
abbrev Ko:=@List.find?_cons
abbrev Kp:=@List.ne_nil_of_mem
abbrev Kq:=@List.getElem_range
abbrev Kr:=@Int.emod_lt_of_pos
abbrev Ks:=@Prod.mk.inj
abbrev Kt:=@Nat.le_succ
abbrev Ku:=@List.length_eq_zero_iff
abbrev Kv:=@PyProof.Rows.boot_list
abbrev Kw:=@Nat.lt_of_succ_lt_succ
abbrev Kx:=@List.reverse_perm
abbrev Ky:=@List.reverse_cons
abbrev Kz:=@List.length_pos_of_mem
abbrev Xa:=@List.count_append
abbrev Xb:=@List.Perm.flatten
abbrev Xc:=@List.Perm.append_right
abbrev Xd:=@Array.toList_push
abbrev Xe:=@PyProof.Rows.boot_set
abbrev Xf:=@PyProof.Rows.boot_min
abbrev Xg:=@Nat.le_of_not_lt
abbrev Xh:=@List.any_cons
abbrev Xi:=@List.perm_cons_erase
abbrev Xj:=@List.eq_nil_of_length_eq_zero
abbrev Xk:=@PySem.Calls.callWith_builtin
abbrev Xl:=@Array.getElem_toList
abbrev Xm:=@PyProof.Rows.KeyOrd.klt_of_kle_of_klt
abbrev Xn:=@List.foldl_cons
abbrev Xo:=@List.count_cons
abbrev Xp:=@Int.emod_nonneg
abbrev Xq:=@List.getElem_set_ne
abbrev Xr:=@List.map_nil
abbrev Xt:=@PySem.W.callWith_K
abbrev Xu:=@PySem.Calls.evalArgs_plain
abbrev Xv:=@Array.getElem?_eq_some_iff
abbrev Xw:=@List.getElem?_append_left
abbrev Xx:=@PySem.F.args_tuple_iterator_next_1
abbrev Xy:=@Nat.le_succ_of_le
abbrev Xz:=@List.drop_sublist
abbrev Ba:=@List.Pairwise.map
abbrev Bb:=@PySem.Heap.SameBut.extBut
abbrev Bc:=@PySem.F.type_list_insert
abbrev Na:=PySem.Value→PySem.Shared→Prop
abbrev Nb:=PySem.W.Frag
abbrev Nc:=PySem.Addr
abbrev Nd:=List (PySem.Addr×PySem.Obj)
abbrev Ng:=List PySem.Str
abbrev Nh:=PySem.Str→Option PySem.Value
abbrev Ni:=PySem.Shared
abbrev Nj:=List PySem.Value
abbrev Nk:=PySem.Program
abbrev Nl:=List PySem.Addr
abbrev Nn:=PySem.World
abbrev No:=PySem.Heap
abbrev Np:=PySem.Around
abbrev Nq:=PySem.Str→PySem.Str
abbrev Nr:=List PySem.Expr
abbrev Nt:=List (PySem.Str×PySem.Str)
abbrev Nu:=PySem.Str→List PySem.Str
abbrev Nv:=List (Option Nat)
abbrev Nw:=PySem.FuncData
abbrev Nx:=PySem.Result→PySem.Shared→Prop
def zS(c:String):String:=
if c="Z" then"A Inv X a7 σ
B FnOk P w K mg base CX0
C FnOk P w K mg base
D Inv X a7
E wpAny (model X.prog X.w) X.A
F wpAny (model X.prog X.w)
G wpAny (model prog w) A
I Inv X
J PySem.W.nsIn K mainGlobals
K zaa (pv 0)
L cxOf (CXr P w) P w K mg base N qual scope f cd A outer s H
M wpS (model prog w) A E s
O row (rsOf es)
P gk O key
Q wpAny _
R zcs X sc M C a7 ex s
S upd H
U Cal P w K mg base
V zaa (pv 1)
W PySem.W.findIn K
X FnOk X.prog X.w X.K X.mg X.base CX k f fd ps
Y zbg X.prog X.w
Z PySem.W.kitOne K
0 mixKind X.prog
1 Bs kd a₀ p lo pre
2 PySem.strKind prog
3 Rn kd O key a₀
4 SortSt.mk' (kindOf aS) (arrOf aS) (pendingOf aS)
5 Fun K
6 zaa (pv 2)
7 PE X
8 zcz X sc oz M C a7 ex s
9 itr (rsN rr) st
' zao GT aP rfl mT FT.kp" else
if c="Q" then"A le O key
B zcj Zg Zv Zu zbc
C EP X a7 σ
D Cmp prog w A E s kd O key
E zaa (pv 3)
F zaw rfl
G za9 zar
H Binds K
I Cert ns r cs
J OpR X (compareOp .NotEq)
K FpOk X a7 H
L Qh _
M zbd I q
N upd H1
O zaa zai
P Jn O key
Q Qg _
R cxOf CX P w K mg base N qual scope f
S zby Ya rfl
T SqL X.K H
U HT.sIx xs.length
V zah zak
W T.keep _ _ _
X upd H3
Y List.map V.str
Z zao GT hr rfl mT FT.kp
1 setD X.prog X.w
2 Pot H' p b'
3 upd H2
4 upd H5
5 Vals xs
6 za4 rfl
7 za2 O key left ky arr
8 Mg O key
9 Jh O key" else
if c="W" then"A mixKind P
B Keep xs H
C upd H4
D wpAny_typeNameOfWhole_keyiter st.typeIs
E Paired R
F PySem.W.instObj C
G HOk P w H
H OpR X
I PySem.W.fnOf x qual (zdv st) (zch st)
J clOf sc
K RelV x
L Jn (opp O) key all o.toList
M zat zb0
N Value.str x
O zbg P w H h a
P za2 O key
Q zbi prog w A E s
R wpAny_passesOwn hp
S wpAny_typeNameOf_keyiter st.typeIs
T HOk P w
U SqL K H
V zaa za8
W T.obj _ _
X PySem.W.mroIn K
Y Binds X.K fd ps
Z MCal P w K mg base C
0 zaa (pv 5)
1 zaa (pv 4)
3 row (rsOf ts)
8 D.nx σ
9 cutV (zs.map V.str)" else
if c="Y" then"A nmF way many f b tl
B wpAny M A
C RelV y
D I.hok a _
E Aj2 (SG st aa)
F zbo zs
G Qs _
H zb7 X
I rLC g tc te Q J (inner ix σ)
J LF H0 H r fo se fa sa zss iso
K I.base.there b o e
L zbi prog w
M za9 ze6 (pv 4) zai
N Qv _
O valV kvs
Q inner ix
R ct cs a9
S St z TI TO i1 i2 l1 l2 xs ys
T Room k
U Vals ys
V RelV v
W KV kvs
X HOk X.prog X.w
Y PySem.W.plainGet K C
Z putK kvs
0 Blk X sc M
1 Up O key
2 Heap.FlyingW B
3 zcj Zg PySem.F.slot_list_insert Bc zg1
4 wpAny_setState_of ho
5 zbg P w
6 I.pin p
7 PySem.W.keepIn K
8 zcj Zg Uz Uy zd1
9 zat zco
' PyProof.Rows.mirror _ _ _" else
if c="U" then"A ZipApart z TI TO i1 i2 l1
B upd H'
C itr rs
D upd (ZS p1 (.lst (ns.map V.int))) p2
E Qy _
F Nf K
G Loc X.env.scope
H ins zs (some c)
I Aj2 (ZD σ' H' s')
J SeqAt.EqAt A s u v
K st (row (rsOf es))
L NAt H l as
M zan zho (pv 6) zai
N Img f (List.map f)
O Zx (Qu e)
P PySem.W.hideAll s1.heap
Q za7 0
R NAt H' l as
S zen (I.unheld ok) hN hi
T T.done Y eP eW eK eC i _ s5 τ H5
U T.item Y eP eW eK eC i _ s5 τ H5
V I.base.keep b o e n hb
W I.base.slot b o e n hb
X I.hok b
Y putF f v
Z PTs (ZR H) ifs
0 StateT SortSt Sem
1 wpAny_field ho hd
2 zao GB hr rfl mB FB.kp
3 KW K he np c1 c2 c3 c4
4 Ym X G
5 wpAny_Call_method m.base m.few m.line PySem.F.plainAttrs_dict
7 PySem.W.fnOf name qual params body scope dV kV doc pm an cdv
8 Heap.SameBut a s.heap
9 wpAny_call_entry Jl st.typeIs F.entry_dict_keyiterator_next
' I.cell x c" else
if c="J" then"A SqT K H a
B Turn X.prog X.w X.K tg J fp it
C wt ns r a9
D upd H8
E upd H7
F SP X a7
G PI X tg
H wpAny_call_entry Uu st.typeIs F.entry_tuple_iterator_next
I zbr zcg
J zdg hu (pv 0)
K Value.int i
L I.freeC x c
M dk_rd I.hok
N cxOf CX0 P w K mg base N qual (zaj st) f cdv A outer s H
O wpS M A E s
P wpAny_setField ho hd
Q Lone s.heap
R I.base.free b o
S Env0 P w K mg base A outer s
T zab ec
U PySem.W.excIn K
V ExAt x (.ref D)
W PySem.W.hasDictIn K
X Inv Y
Y ocl oz g2.objs.size
Z Vals (zs.map V.str)
0 upd (Q3 D (.lst (fa.map V.ref))) d
1 upd (Q3 D (.lst (aq.map V.ref))) d
2 upd (QN D (.lst (L.map V.str))) u
3 BindsTo s fd
4 PG (ZR H) tg
5 zat zds
6 row (rsN rr)
7 run (rsN rr)
8 PE (ZR H)
9 zel h v x
' PySem.W.methodObj (.ref f)" else
if c="B" then"d I1.fpOk (Qi _)
e hidT s₁.heap
f BlkG X sc oz M
g Dn O key
h pairO strO
i zcr (zs.map V.str)
j Lk f s t
k Paired (zbn H)
l wpAny_setState_of aw dj mD
m SetTable.fresh 0 0
n wpAny_pyNext_list_item st
o zby PassesOwn.leaving rfl
p zg7 I hg hm
q Value.str y
r dt_rd I.hok
t TurnZ rr zs
u wpAny_field fX lg
v dueE es
w Rd H a
x dk_new (Zn (dropK_le kvs k) z) hd (rel.drop k)
y WAt H' C x dx
z zah (zbp rfl)
A Vals dvs
B PySem.W.codeIn K
C zd2 rx fx r fs w
D wpAny_dictEntries eI eR
E ins p.2 c
F lexB strO
G upd _ _ _
H zaq 2
I zaq 4
J PySem.W.exmOne K
K Rd H
L PG X (.Tuple es k pos)
M wpAny (model P w) A (pyIter (.ref it)) Q E
N Yb _
O F.args_list_append_2 _
P zep I' hN di (.inl hy)
Q Of a₀
R Jn _ _ _ _ _
S row rs
T zao GS hr rfl mS FS.kp
U upd H6
V zao GF hr rfl mF FF.kp
W stp (rsN rr)
X zc3 rfl bX
Y KW K cE np n1 n2 n3 n4
Z Itl K
4 zjh B I3 fpx fplt rfl hns₁ hz₁ k1 rfl
7 zab e
8 zaq 3
9 vl ps" else
if c="X" then"A le O
B wpAny_dictEpoch eI eR
C zfj I hg hm
D PassesOwn (model X.prog X.w) X.A X.env
E J.yld i H x
F PySem.W.isFn K
G PySem.W.kitOne X.K t
H RelV (kV k)
I DGet H a
J dk_of I.hok
L tLC ix wi g tc
M mirror (arrOf aa) lo
N CXr P
O Lk f
Q nxt zs
R pidx zs.length
S PySem.Builtin.Str.strSliceIndices none
T Jj X G
U I.hok p _
V AllN ps
W InjN ps
X pcl GT hr
Y PySem.W.lookIn name
Z PySem.W.plainOver K
0 Ww (I2.cl_lt _ _ z)
1 Img id List.reverse
2 Turn P w K tg
3 FnOk l.prog w
4 pe_fld (pv 0)
5 HasR R s.heap
6 zba (zcd rfl)
7 zec hu (pv 1)
8 nmF wy n f bb
9 Heap.ExtBut s.heap.objs.size s.heap" else
if c="K" then"A RelO (fs.lookup f)
B Un fs ex H
C ObjM s.heap x dx C
D wpAny_getItem_list_slice ht.isList
G IntsAre vs
H PySem.list_append D a8.toArray k y
I I'.thaw e1
J atI zdu.cps.toList
K nxt (r' p)
L Room 1
M cntF ls.cps.toList
N atI (zs.map V.str)
O rot zs
P vl_in N.nd
Q Nat.lt_add_right _
R SortSt.mk' (kindOf st) (arrOf st)
S Aj3 (BAt H' b bs (row (rsOf es)))
U za9 ix_str (pv 2) (Y9 (pv 9) zai)
Y zab q
Z IsTup s.heap
0 PS X
1 PA X
2 PySem.W.makesIn K
3 Meth X.K C m
4 zfz CX X
5 zam N ps
6 start N
7 KT H kvs
8 turn i n ys τ H5
9 I7.pinned (fN n7)
' Nat.le_add_left _" else
if c="V" then"a IsSt rs
b WAt H C x dx
c Odd H
d zah zbv
e zat zgs
f C.sy _ _
g zej rfl
h Un (frs X.stack) ch H H' s.heap
i wpAny_notOrdered_dict bo.typeIs
j J.fly os bare un hok hB hT fl.1
k Gl X
l SqT X.K H
m F.run A outer s H args us vs Q
n zh3 I.hok
o HT.sIx a8.length
p T.self _ 0 _ _ _
q PyProof.Rows.bubble (arrOf aT)
r HasR R h'
s Looks M h
t zbe (za7 1 ndPA)
u nwk hD
v upd H9 fl
w RwE rs
x zan op_gt
y zf3 ps
z SpN G p u
A I.ok.bs b o
B zcz X sc oz M g2.objs.size a7
C RwAt H l as
D zfq r
E PySem.Within mA
F X.s₀.heap.FunFrames X.base
G Vis X.env.scope
H I.ok.cab x c v3
I PT X
J wpAny_mono h₁
L wpAny_mono h₂
M C.one_lab bu bV
N Paired (zbn H')
O IsPair h' s.heap.objs.size x
P Vals vs
Q zdz K C
R Cls X.K
S zjn kvs
T PySem.F.args_dict_pop_3 _ _
U PySem.F.args_dict_get_3 _ _
W O.klt _
X KeyOrd.klt_of_klt_of_kle h1
Y dk_at I
Z putK (marks ks) (Sum.inr x)
0 Aj6 (UR rr) (Good (rsN rr))
1 DueR ps
2 I.stkSub b
3 TP X a7 σ
4 PSs X
5 J.stop i
6 wpAny_pyIter_list p.isList
7 zb4 fp
8 Cls K
9 Wz PySem.W.kitx_list I.kIn
' Wz PySem.W.kitx_dict I.kIn" else
if c="M" then"a Inv (QR cdv A outer s H E)
b ocl oz
c och oz
d PTs (Z8 H) ifs
e kvP s.heap
f Builtin.Dict.addKeywords d
h PySem.F.args_dict_init_2 _
i rDC g tc tk tv Q J (YQ σ)
j At s.heap d es
l run rs s
m wpAny_field g1
n Wt F.plain_set_update_loop
o pg_tup rfl
p zaq 1
q C.cy c
r C.inc hc
s C.la p
t C.inc bu
u zat op_sub
v zab T.dc
w Paired (zf0 H)
x zec hu (pv 2) (pv 5) pe_bl
y Jb _
z zab hp.1
A zbt C.nd
B Tm.strO.blt b.1.cps.toList
C Tm.strO.blt a.1.cps.toList
D Tm.strO.blt b.2.cps.toList
E wpAny_setEpoch_of ho hd hf
F SpN H' p
G X.held a
H Heap.ExtBut it
I zh6 (turn2_of Cf Tf) Cf.nd
J List.set_append_right _ _
K List.pairwise_singleton _
L rLC g tAll te Q (BZ a) τ
M LF H H' r fo se fa sa zss
N MCal l.prog w K mg base C
O I.ok.noex b o
P F.len _ _ _ _
Q ixN xs.length
R wpAny_mono (turn n s hI)
S PE (Z8 H) elt
T StateT σ Sem
U zbe (UQ ndPA)
V zba (zdx rfl)
X IsSt (rsN rr)
Y pe_make MW GI
Z WAt H3 C x dx
0 spRen C np c1
3 zji I.hok
4 zdi p
5 Pot H p b
6 HasR (LoneD dd) s'.heap
7 X.tried E
8 ExI K
9 rLC g tc te Q (BZ a) τ
' T.keep k1" else
if c="N" then"y zax h
z zaa (zbz (ZV (Z6 zac)))
A SpN H p u
B pcl GF jh
C List.mem_cons_of_mem _
D Inv (X.wish E) a7 σ H
E binT ha hb I
F TyOf X.K H x
G upd (ZS dx (.own x)) x
H Wc _ _
I PySem.call f
J PG (Z8 H) tg
K FpOk Y
L loop _
M O.kle (kv x)
N Value.str x'
O inClass sWeb
P RwAt H'
Q zcc hc
R leaf_mem C hp hx h1 h3
S O.blt x
T KeyOrd.kle_antisymm h1
U Conn (row (rsOf es)) x
V zao GP hr rfl mP FP.kp
W zat zgt
X zib ts
Y IspInit C c1
Z zao GN bQ rfl mN FN.kp
0 zan (ze1 be)
5 zan (zgq be)
8 SameM H
9 PySem.W.KeqHits A s iR" else
if c="D" then"a F.run X.A X.stack s H
b tMeth C m sp dvs E ta
c Heap.SameBut j s.heap
d Heap.SameBut S s.heap
e RelV p.2
f Zn I.ok.bsz
g PGs X es
h SqL K H1
i tOp r ta
j zfm I1 ea c
k CE outer P w H s Q u
l IY.ok.exf b
m I3.stkSub b
o wpS _ _ _ _
p O.total _ _
q wpAny_seqItems hp hk
r Heap.ExtBut j s.heap
s wpAny_pyIter_enum he
t wpAny_fieldsOf ho hd
u wpAny_setField t3 t4
v Code.quiet_builtin _
w RoAt H l as
x Conn r x
y Cyc (st r')
z st r
B zfx C hp hx h1 h3 hm
C zfu C.nd
D zbq r
E zaq 5
F zaq 6
G Zn (Wv _ _)
H spInit C c1
I zd7 R.nd
J TrF ns r
K wpAny_seqItems kC gW
L wpAny_setField fX lg
M PySem.W.takerIn K C
O PySem.W.specialIn K
P Vals (ns.map V.int)
Q PySem.IsL.update lH
R beyondT left ky arr
S O.kle (ZP (Y' _) _)
T Vals (as.map V.ref)
U Paired List.Perm Ls
V zbq (row (rsOf es))
W zah (call_min2 rfl)
X zah (call_max2 rfl)
Y pw_and (UM (za3 _))
Z zax (wt.ta.ro e he)
0 Zn (zfg Ct aO e he)
1 Heap.SameBut.refl _
4 Wt DictR.plain_loop
6 PG X (.Name x pos)
7 J.go i
8 Itr lo
9 zbl hb" else
if c="F" then"a PySem.W.keepIn X.K
b call (.builtin id)
c kV doc
d keep h' tk
e zel s.heap
f rowV H
g Thaw X
h zbj rs
i zah (call_all rfl)
j nxt (UH n)
k Cyc (st r)
l C.ro x
m ins (r p) (some c)
n nd_ins hc (C.rn p)
o nxt_rot (C.rn _) k
p List.cons_ne_nil _
q zez Ya
r zab hz
s Room 2
t zaa (pv 7)
u zaa (pv 6)
v atI (as.map V.ref)
w wpAny_forIn_list _
x wpAny_field hz rfl
y wpAny_field ik rfl
z Itt K
D PySem.W.takesIn K
E cutV xs
G IxR X
H O.kle _
J SG st
K zht C
M zck C R.kind R.of
Q Itd d o
U RrInP neg K x y H
V zbh H
X isinst_ok I rx ty
Y za7 3
Z zan zho
' O.blt y" else
if c="G" then"a zax e
b SqB b K
c ItB b K
d pg_sub (pv 0) zai
e W2.ro e
f WAt H' C x' rN d'
g Nat.le_max_left _
h WAt H7 C x1 dR d1
i WAt H9 C x1 dR d1
j zi9 hN e1
k SqT K H p
m PPs X pos
n wpAny_mono h₁'
o step x H7
p mirror xs
q O.blt b.1
r O.trans _ _ _ h1
s RowAt knd s.heap
u ins p.2 (some c)
v zan op_lt
w ct (cs.erase c1)
x idx_at nd
y Wt plain_eq_loop
z zan op_ne
E za1 R3.ts
G nxt e.2.1
H upd HC fo
J WAt H2 C x dx dd
K zbt Ct.nd
Q IspMirror C vs H
V spInit0 C
X Held s.heap z TI
Y pcl GT aP
Z zbu (UM (za3 _))
' pcl GI bQ" else
if c="H" then"a Inv (MG ob) a7 σ H
f .ref $a
j some (Hf $a)
k model X.prog X.w
n SqL.of $a
r .ref s.heap.objs.size
t Keep.new $a
v .lst $a
H model prog w
I ZA H s
L .inl $a
M Qi _
N wpAny_bind $a
U row (rsOf es)" else
if c="R" then"a envOfC qual scope s.heap.objs.size f $a
b arrOf $a
g .dK kvs
h decide_eq_true $a
j eval $a X.env
m Hf a
p J5 (JI (pv $a) (zb3 (pv $b)) zbx) (JI (pv $a) zbx (zb3 (pv $b)))
u .dK (eWV es)
v Keep.wr Hb
C a.toList.drop $a
G zaa $a zac
H some $a
N e.2.1.map V.str
P wpAny_pure $a
Q QP $a o.toList (RC $b) (b.toList.drop $c)
T HL rfl
V pendingOf $a" else
if c="S" then"b zs.map V.str
c ws.map V.str
d pv 0
e decide_eq_false $a
f pv 1
g List Nat
h .fresh 0 0 led
i ha a7 s σ H _ I h
j as.map V.ref
k if_pos $a
l starEach es X.env
m I.tok _
n ZV zac
o he a7 s σ H _ I h
q za3 _
r pv 2
s .inl (Hn $a)
u .cons $a .nil
v Hf D
w .str $a
x beq_iff_eq.mpr z
y zs.map $a
z if_neg $a
A ZK zac
B ForInStep.yield $a
C V.ref e.2.2
D ha pos a7 s σ H _ I h
E Hf C
F ZK (QO zac)
H List Keyed
I zs.getD $a Str.empty
J HG Qa
K .inr $a
L I.hok.fresh HM
M zay zac
N Hn (k5 _ _ $a Hb)
O I.ok.hd hc
Q Z6 zac
R k _ Keep.refl
S beq_iff_eq.mp $a
T a.toList.take $a
U XA key
V .tup xs
W Hf it
X .int $a
Y hi a7 s σ H _ I h
Z A.deeper (envOfC qual (zaj st) s.heap.objs.size f cdv)
0 pv 3
1 List.range $a
2 row (rsOf $a)
6 QM Hb
9 .bl false" else
if c="T" then"a Z0 X.w
b Hf l
c UE rfl
d Hd nlp
e of_decide_eq_true $a
g SqT.of $a
j assign (.Name y py) X.env
k QV Ho ad Zl $a
l .Slice none none (RH (.UnaryOp .USub (.Constant (.int 1) k p4) p3)) p2
n List $a
o b.toList.drop $a
p .Name $a $b
q Zm _
r qr.letgo bp hC I2.lt I2.cl_lt I2.pin_lt I2.sz ae dy
s zbu $a (zag ps_no) zas
t assignEach $a X.env
u ho a7 s σ H _ I h
v k1.trans $a
w zs.idxOf z
x RH (iV $a)
y pv 4
z .bl true
B ZS $a (Hv $b)
C Rb aa
D .bool true
F QE zac
H .dK (marks $a)
J tupleKind_room_in1 hu
K model P w
L Qc.mpr rfl
M WC $a (Hv $b)
N vl ps
Q Sum.inr x
R Hf p
U k5.trans $a
V Hv (r.map iV)
W k _ _ RT e
X .dT kvs
Y He 0
Z I1.hok.fresh HM
8 Hf x
9 WI (zaj st) .none kV doc pm an cdv ct" else
if c="L" then"a wpAny_bind $a
b .Subscript $a $b pos
c hl a7 s σ H _ I h
d WJ X.env
e Hv (ini.map V.str)
f wpAny_attempt $a
g Value.ref $a
h strValues $a
i RH (.str $a)
j .int $a $b
l Hv RN
m .Attribute $a m apos
n za5 (QB $a $b)
o QZ bT .nil zbb SF
p Z' bT .nil zbb (ZK $a)
q ZK (RG $a)
r upd (TM q1 $a) q2 (Hv $b)
u QG $a $b Hw
v hb a7 s1 σ H1 _ I1 q1
w Hf f
x Hf t
y W1 zac
z V.int $a
A Z5 qG qG zft ft fdt
B .frz o $a
C Hv xs
D Z4 $a (failedOf aS)
E He 2
G .compLoop Hs 0 SW Sv (compEnvC sc (JY Ld) g2.objs.size X.env)
H V.bl true
J QC Q
K eval iter X.env
L .ins C dx fs
M Option Value
N .tup (k.map kV)
O eqU x
P QL hb
Q .frz o' u'
R He 1
S C.rn p
U k3.trans $a
V List.range rr.length
W zbo zs
X k2 _ _ g1 Hb
Y Paired (HX H') aq fs
Z Z7 a ta
4 backTo pos $a
7 WF s.heap.objs.size
8 sgm _
9 YG (YG (D9 e))" else
if c="C" then"a Q (.bl $a) H
b a.extract i $a
c Hm aA hj
g ZS fo HP
h Hf np
i .builtin id
j RU a $a
k Rb st
l nr c o q hn
m Zb.mp $a
n ps.zip us
o k2.trans $a
p k3 _ _ $a Hb
q rsN rr
r SqL.of R3.ls
s Z3 gs rest st
u WA w
v UO I.ok.above
w Zi (Qu e)
y compareOp .Eq
z QQ e
A Hf e
B h a7 s σ H $a I $b
C RR ai cenv.locals
F Sw x
G rawInt $a
H Tp y py
I Rb aQ
J wpAny_pure $a
K SqL.of R6.ls
L b.toList.take $a
M wpAny_load hS (RP (h g tk ai hk (Zt (Qu hS)) ha))
N Sa z
O Sw z
P compareOp .NotIn
Q ns.map V.int
S WV zac
T Qc.mp $a
U Z7 e te
V letOwnedTupleGo tg SW u
W Cert HV $a cs a9
Y pyNext SW
Z Hm eEx hb
0 SK hy
3 Rb bd
4 r.ro e he
5 Vd Ho ad Zl $a
7 Hq fq zad
8 Ht h2" else
if c="E" then"a Hv Sc
b ho a7 s1 σ H1 _ I1 q1
c XN w
d zah zfa Ho ad Zl (RG (MV Ho eD Xe (Z6 zac)))
e Y8 Sd (RG (zah (ze9 rfl) Ho dE Xf (ZK zac)))
f Hn zad
g .bl b
h Z5 x qual st f fd
i gName i
j zhr ry
k zb6 (B.clos I)
l C.inn' $a
m ag.mem_iff.mpr $a
n Keep.wr Qd
o Hj d
p eval $a env
r zi2 (zdq (zdp (G' $a))) (zgl (zan (zgr tS) (NB $b) (pcl GL jh $c) Sq))
s Tp x pos
t g i j
u h1.trans z
v K w.params
w k2 b o e
x B7 HD
y .ret .none
z Ht hq
A Qq hi
B pv 5
C Ht hl
D Pv 0 σ H
E xs.take $a
F σ.set i none
G z.cps.toList.take $a
H SetD.dd_all $a
I inR t ht y hy
J YN hp
K f (Lj i t) (Lj j u)
L QT p ys
M .int ys.length
N wpAny_holding $a
O Qw.mpr $a
Q Hf z
R Q6 (iteT SR)
S beq_eq_false_iff_ne.mpr $a
T .own a
U neL b o e
V neC b o e hx
W tn i s'.heap
Y ho a7 s2 σ H2 x y v u _ I2 r1 r2 q2
Z zaj st
1 RR Sv g2.objs.size
2 RQ Hl i k
3 k _ _ e
4 Hf j
5 Z2 w
6 C.rn o
7 k1 c u ec Hb
8 Tn Str
9 .dT (HW $a)" else
if c="I" then"a vs.map V.str
b .type T
c .tup ys
d M4 hy
e RH Hu
g Ht h3
h Hf t0
i a9 x0
j L.getD $a sp
k .str sp.1
l .str sp.2
m getMethod ov m pl
o Hf b
p .ok (.ret $a)
q Hv (fa.map V.ref)
r Hv (ps.map V.ref)
s ws.take $a
u Ti (QE (RG $a))
v .str r.1
w .str r.2
x Hj l
y l.map $a
z Z7 b tb
A getattributeRaised _ _ _ _ _ _ _
B F.args_dict_keyiterator_next_1 _
C hn.mem_iff.mp hx
D X8 tl.cps.toList
E f s.1
G WH (compareOp op) r
H s.heap.IsTuple t xs
I Q9 $a o a b $b $c
J ZS a o
K I.hok.fresh $a
L σ.set i (RH v)
M Zi (UO (VH hc))
N Rj e
O A.deeper $a
P Tp x p
Q Ra cd
R K6 vs
S backTo cpos $a
T Hf fa
U KY H5D
V NL rfl
W Option Nat
X wpS_lift $a
Z wpS_bind $a
0 List.Perm.refl _" else
if c="O" then"a pairsOf vs
b Qf.mpr $a
c .ref e.2.2
d QL hx
e List.not_lt.mp $a
g QY zs
h SetD.cn zs
i hh.2 _ _ $a $b
j SqL.of R2.ls
l Hv Sb
m Yi.mpr $a
n Su zad
o DX Ho kI PyProof.Rows.boot_max (QO (RG $a))
p iV st.2
q RH ah
s My Hg
t cs.map mir
u Hf c
v Hf n1
w Hf n2
x JG iter wi
y sb.2 b $a
z YQ σ
A zs.take $a
B SqL.of R.ls
C es.take $a
D Y9 (WM S0 (Ve Ty (pv 8))) zai
E s.heap.IsKeyIter j d i es.size ep
F WM $a zai
G zaa $a zac
H dJ _ _ $a
I zdq (zdp $a)
J tupleKind $a
L assign CH X.env Sv
M Lu Sd zai
N zag (zaz (zay CS))
O hs.2 b $a
P QG Sr (XX (Lq (Tk (Z6 zac)))) Hw
Q QO zac
R Hd e
S Wj _
T SX i
U typeIs_str s z t
V W i n ys τ H'
W Builtin.SmallTypes.nextOf E4
X PySem.F.kt_typeCall_dict_1 _
Y Hf d
Z pt_cmp (ze0 hu $a $b)
0 Z6 (RG (U2 bB .nil zbb (zaa $a (ZV zac))))
1 pv 7
2 aY e he
3 h1.extBut hs₁.extBut D.i1z
4 ax.extBut hs₁.extBut D.l1z
5 Z7 l tl
6 Z7 o td
7 RQ all ia ib
8 RH (V.ref p)
9 plainId_quiet DictR.plain_loop _" else
if c="P" then"a letOwnedTupleGo target it v
b nt c xs q
c zah $a Ho aJ Yx $b
d Qj.mpr hy
e Bz Ho aJ Yx $a
f k6.sub Hb
g upd (Lr $a $b) q3 (Hv $c)
h s.heap.SetOf knd $a $b $c
i binaryOp .Add
j wpS_modify $a
k BK d Rg
l La (HN (Y4 hd hf (CJ RM)))
m zaf hb
n hd σ H p
o V.ref e.2
p Sw (YF i)
q upd $a $b $c
r RH Re
s QL hy
t HS hD
u RH Tj
w Hd hj
x Rb aT
y Zi lt
z QL hv
B Hv Sj
D LB Ru
F k4.sub Hb
H Hf ft
J S2 ts
K S2 fs
L tn 0 s.heap
M .bool false
N LB u
P .own x
Q Qj.mp $a
U truthy v
V HL h
X YG z
Y Kc _ _
Z HL q
0 zch st
3 failedOf $a
4 no c _ q
6 a9 x
7 B8 zcv.nd (zay (Nz zac))
8 Lu Sf Sr
9 hf _ _ e" else
if c="A" then"a .str e.1
b k0.trans k
c zaf (nn $a)
d k2 _ _ g1 Td
e Sa hi
f Qq aB
g Lj lo t
h Lj hi u
i z.sameBut hs $a
j Tk (ZV zac)
k zaa (YM Hw) (OG (U2 bB .nil zbb (zaa $a (RG (YM Hw)))))
l W0 zac
m zbu $a $b zas
n ZS s.heap.objs.size $a
o iV st.1
p hi a7 s1 σ H1 _ I1 q1
q h pos a7 s σ H _ I hq
r Option Expr
s he a7 s1 σ H1 _ I1 q1
u hf a7 s2 σ H2 _ I2 q2
v .Attribute o name apos
w Ww I2.lt ae
x Q1 s.heap.objs.size zs
y MU (Vt zdf)
z QN p (.lst xs.reverse)
A RZ k6 ap
B congrArg Sum.inr $a
C q _ SL
D Lj 0 0
E plainId_quiet plain_loop _
F f s.2
G .tbl ps
H .bool $a
I dk_empty s.heap I.big
J Hm z Qd
K zab $a $b
M Ht ht
N Hf c1
O Hf c2
Q rsOf es
R nd_N rr
S Q3 l RJ
T QX e HP
U Wl.mp h
V aY e' z
W Rw t ht
X Rw p hp
Y Ug q
Z KY hn
0 f v u
3 Hj f
4 List.of_mem_zip $a
5 .dK (VS k)
6 YZ p.1 p.2
7 .Slice lo hi none p2
8 .ref s3.heap.objs.size
9 Zd hb" else
if c="z" then"b Hd hw
e Or.inr rfl
f ZP TC $a
g SS d
h LB Rg
i wpAny_rule (HN $a)
j BE x
k zer C
m QL z
o C.cm $a
p a9 y
q Hd hy
r kP e.1
t pv 1
v Vx $a zai Sq
w pv 2
x .ref s4.heap.objs.size
A zdo C
B es.map toRo
C La (HN (Bl (CJ RM)))
D Zi (KQ lt)
E mkB scDueP
F s.heap.IsTupleIter j t i
G k _ _ r.dc hd
H storeName X.env x u
I .UnaryOp .Not a pos
J intBits_le_64 h1 h2
K A.under $a
L .Attribute $a f $b
M starEach args X.env
N assign target env v
O hn b hb
P keyKind' vs.toArray
Q PySem.W.kdl_dict lo
R RP (HN $a)
S k2 _ _ $a Hb
T k4 _ _ $a Hb
U .Subscript e Tl pos
V JR e n hx
W ha a7 s σ H Q I h
Z hc a7 s σ H _ I h
0 Lb o i
4 Wa _
6 hv a7 s σ H _ I h
8 QR $a A outer s H E
9 x.above y c (Uo h)" else
if c="y" then"a YZ k v
b ks.map kV
c Vn eb
d .ok .next
e fplt b hb
f key ky
g sgk L8
h .dK ys
i Sum.inr e.1
j X4 rfl
k zaz $a
l frs RD
m HG Za
n za6 Sd
o zbe $a zdf
p Ts (PW.pt $a)
q zhf bU
r C.inn $a
t Sa row
u kP s
w Hq ndD hz
x k7.sub Hb
y ZK zac
z zhp ho
A zau $a
B k8.trans $a
C k4.trans $a
D Sum.inr p.1
E k _ _ h (hx a rfl)
F kg.sub Hb
G aN.keep kg (Rx fe)
H binds5 FI
I Lj 1 v
J VI a tA
K .ref s1.heap.objs.size
L Z7 i ty
M .cons r3 (.cons r1 r4)
N Jt _ ho (Kh (Uj hd _))
O SqL.of R1.ls
P Rz j
Q SqL.of R7.ls
R .tup (p.1.map kV)
S Tp x bi
T Hm Qa $a
U a8.toArray.push y
V SN g4
W BI zcv.nd (zbz $a)
X DF zeu.nd (QZ bT .nil zbb (Lq (OF $a)))
Y .cons $a $b
Z zag (zi4 cN rfl nN CS)
6 T.nn.mem_iff.mp $a" else
if c="x" then"a .Constant $a j pos
b zaz pe_bl
c QE zac" else
""
def zK(s:String):List String:=(s.toList.foldr (λc l=>if "() ".contains c then ""::(if c=' ' then l else String.singleton c::l) else match l with|x::t=>(String.singleton c++x)::t|[]=>[]) [""]).filter (·≠"")
open Lean in
def zI(g:Array Syntax)(t:String):Syntax:=
 if t="_" then .node .none ``Parser.Term.hole #[.atom .none "_"] else if t.toNat?.isSome then Syntax.mkNumLit t else
 if t.startsWith "." then .node .none ``Parser.Term.dotIdent #[.atom .none ".",mkIdent (t.drop 1).toString.toName] else
 ((t.splitOn ".").foldl (λo p=>some (match o with
  |none=>if p.startsWith "$" then g.getD ((p.toList.getD 1 'a').toNat-97) .missing else mkIdent (.mkSimple p)
  |some x=>if p.toNat?.isSome then .node .none ``Parser.Term.proj #[x,.atom .none ".",Syntax.mkLit `fieldIdx p] else if x.isIdent then mkIdent (x.getId.str p) else .node .none ``Parser.Term.proj #[x,.atom .none ".",mkIdent (.mkSimple p)])) none).getD .missing
open Lean in
def zC(a:Array Syntax):Syntax:=if a.size≤1 then a.getD 0 .missing else let x:=a.getD 0 .missing; if x.isOfKind ``Parser.Term.app then .node .none ``Parser.Term.app #[x[0],mkNullNode (x[1].getArgs++a.extract 1 a.size)] else .node .none ``Parser.Term.app #[x,mkNullNode (a.extract 1 a.size)]
open Lean in
def zR(g:Array Syntax):Nat→List String→Array Syntax→Syntax×List String
 |n+1,"("::t,a=>let(x,r):=zR g n t #[];zR g n r (a.push x)
 |_,")"::t,a=>(zC a,t)
 |n+1,x::t,a=>zR g n t (a.push (zI g x))
 |_,t,a=>(zC a,t)
open Lean in
def zW(f:Name)(a:Array Syntax):MacroM Term:=do
 let .str .anonymous s:=f|Macro.throwUnsupported
 if s.length<2∨s.length>3 then Macro.throwUnsupported
 let some r:=((zS (s.take 1).toString).splitOn "\n").find? (·.startsWith ((s.drop 1).toString++" "))|Macro.throwUnsupported
 let t:=(zK r).tail
 let n:=t.foldl (λm x=>if x.startsWith "$" then max m ((x.toList.getD 1 'a').toNat-96) else m) 0
 if a.size<n then Macro.throwUnsupported
 return ⟨zC (#[(zR a 999 t #[]).1]++a.extract n a.size)⟩
set_option hygiene false
local macro_rules
|`(Hb)=>`(by simp)
|`(Hc)=>`(by lia)
|`(Hd $a)=>`(by simpa using $a)
|`(He $a)=>`(by show $a≤sizeLine;decide)
|`(Hg)=>`(by decide)
|`(Hh)=>`(by intro z;cases z)
|`(Hi)=>`(λcdv A outer s H vs Q E hr h=>?_)
|`(Hl)=>`(a.toList++b.toList)
|`(Hm $a $b)=>`(by rw[$a:term];exact $b)
|`(Ho)=>`(by rfl)
|`(Hq $a $b)=>`(by rw[zaf $a:term];exact $b)
|`(Hs)=>`(.ListComp elt [⟨tg,iter,ifs,0⟩] sc pos)
|`(Hu)=>`(.builtin "object.__class__")
|`(Hw)=>`(λ_ _=>rfl)
|`(Hx)=>`(((Sum.inr q.1:Key),q.2))
|`(Hy)=>`(by exact zar1 ‹_›)
|`(Hz)=>`(by decide +kernel)
|`(HF)=>`((∀b o,s.heap.get? b=some o→g.get? b=some o))
|`(HG $a)=>`(by rw[$a:term];lia)
|`(HJ)=>`(by exact Zt ‹_›)
|`(HK)=>`((∀σ' H',N σ' H'→∃m',m'<m∧W (i+1) m' σ' H'))
|`(HP)=>`(.lst [])
|`(HQ)=>`(List (Str×Str))
|`(HR)=>`(s.heap.objs.size+1)
|`(HS $a)=>`(by rw[$a:term];exact Qi _)
|`(HV)=>`(es.map (·.1))
|`(HW $a)=>`((gs++L.take $a).map λs=>(kP s,V.bl true))
|`(HX $a)=>`(λa (e:Ent)=>$a a=some (.tup [.str e.1,.ref e.2.2]))
|`(HY)=>`(i+1)
|`(HZ)=>`(λcdv A outer s0 H vs Q E hr h=>?_)
|`(Rc)=>`(x==("__debug__" : Str))
|`(Re)=>`(.builtin "getset_descriptor.__get__")
|`(Ri)=>`((∀b∈ch,(b∈X.ex∨X.s₀.heap.objs.size≤b)∧b≠X.env.locals∧(∀x c,X.env.cells.lookup x=some c→c≠b)∧∀p∈X.pn++a7,p.1≠b))
|`(Rk)=>`(.lst [.int 1,.int (((as.map V.ref).length:Int)+1),.int (3*((as.map V.ref).length:Int)+1)])
|`(Rl)=>`(.lst [.int 1,.int 3,.int 5,.int 7,.int 9,.int 25,.int 27,.int 675])
|`(Rq)=>`((λcs y=>if(y.2==NameKind.free)=true then(y.1,(env.cells.lookup y.1).getD 0)::cs else cs))
|`(Rr)=>`(by exact zar2 ‹_› ‹_›)
|`(Rw $a $b)=>`(Qf.mpr ⟨$a,$b,rfl⟩)
|`(Rx $a)=>`(by simpa using Zd $a)
|`(Ry)=>`(newFunctionEnv sc X.env.globals (WJ X.env) [] X.env.qual none .none (some X.env))
|`(Rz $a)=>`(pidx es[i].2.1.length $a)
|`(RD)=>`((envOfC qual scope s.heap.objs.size f cd::outer))
|`(RE)=>`(mg "len" = none)
|`(RI $a)=>`(.inl ⟨rfl,_,Hn $a⟩)
|`(RJ)=>`(Hv ((t0::as).map V.ref++[V.ref t]))
|`(RK)=>`((∀D C m ys H' s',ZA (UB D (Hv ys)) s'→Q (Hf D) (UB D (Hv ys))→s'.heap.Ns C m→UB D (Hv ys) C=none→s.heap.objs.size<C→RR (Hf D) C (.ok .next) s'))
|`(RM)=>`(wpAny_pure ?_)
|`(RS $a)=>`(Hv (((L.take $a).map (·.1)).map V.str))
|`(RU $a $b)=>`(H $a=some $b)
|`(RX)=>`((2≤vs.length→∃kd:SortKind,(∀Q:SortKind→Shared→Prop,Q kd s→ZG (keyKind' vs.toArray) Q E s)∧∀x y,x∈vs→y∈vs→∀(Q:Bool→Shared→Prop) (E':Na),Q (O.blt (kv x) (kv y)) s→ZG (keyLt' kd x y) Q E' s))
|`(RY $a $b)=>`(ZZ (Hf $a) (Hf $b)=some false)
|`(RZ $a $b)=>`(Paired.imp' (λa e h=>$a _ _ h Hb) $b)
|`(Sa $a)=>`(by simp[$a:term])
|`(Th)=>`(Ex2 λres r=>Aj2 (c=(RH res,r)) (Q8 Hl res.toList))
|`(Ti $a)=>`(zbz (WV (zaa (zah (zcb (a:=e) (ob:=o) (K:=K) rfl Qd) Ho br Yw $a) zac)))
|`(⟨$xs,*⟩)=>do
 let mut o:Array Lean.Term:=#[]
 for x in xs.getElems do
  if x.raw.getId==`xf then o:=(o.push (← `(_))).push (← `(rfl)) else o:=o.push x
 if o.size==xs.getElems.size then Lean.Macro.throwUnsupported else `(⟨$o,*⟩)
|`($f:ident $a*)=>zW f.getId a.raw
|`($f:ident)=>zW f.getId #[]
section
set_option Elab.async false
set_option linter.all false
set_option maxRecDepth 100000
inductive Ex1{T0:Sort _}(P:T0→Prop):Prop
 |mk (x0:T0) (h:P x0):Ex1 P
inductive Ex2{T0:Sort _}{T1:Sort _}(P:T0→T1→Prop):Prop
 |mk (x0:T0) (x1:T1) (h:P x0 x1):Ex2 P
inductive Ex3{T0:Sort _}{T1:Sort _}{T2:Sort _}(P:T0→T1→T2→Prop):Prop
 |mk (x0:T0) (x1:T1) (x2:T2) (h:P x0 x1 x2):Ex3 P
inductive Ex4{T0:Sort _}{T1:Sort _}{T2:Sort _}{T3:Sort _}(P:T0→T1→T2→T3→Prop):Prop
 |mk (x0:T0) (x1:T1) (x2:T2) (x3:T3) (h:P x0 x1 x2 x3):Ex4 P
inductive Ex5{T0:Sort _}{T1:Sort _}{T2:Sort _}{T3:Sort _}{T4:Sort _}(P:T0→T1→T2→T3→T4→Prop):Prop
 |mk (x0:T0) (x1:T1) (x2:T2) (x3:T3) (x4:T4) (h:P x0 x1 x2 x3 x4):Ex5 P
inductive Ex6{T0:Sort _}{T1:Sort _}{T2:Sort _}{T3:Sort _}{T4:Sort _}{T5:Sort _}(P:T0→T1→T2→T3→T4→T5→Prop):Prop
 |mk (x0:T0) (x1:T1) (x2:T2) (x3:T3) (x4:T4) (x5:T5) (h:P x0 x1 x2 x3 x4 x5):Ex6 P
structure Aj2(p0 p1:Prop):Prop where
 h0:p0
 h1:p1
structure Aj3(p0 p1 p2:Prop):Prop where
 h0:p0
 h1:p1
 h2:p2
structure Aj4(p0 p1 p2 p3:Prop):Prop where
 h0:p0
 h1:p1
 h2:p2
 h3:p3
structure Aj5(p0 p1 p2 p3 p4:Prop):Prop where
 h0:p0
 h1:p1
 h2:p2
 h3:p3
 h4:p4
structure Aj6(p0 p1 p2 p3 p4 p5:Prop):Prop where
 h0:p0
 h1:p1
 h2:p2
 h3:p3
 h4:p4
 h5:p5
structure Aj7(p0 p1 p2 p3 p4 p5 p6:Prop):Prop where
 h0:p0
 h1:p1
 h2:p2
 h3:p3
 h4:p4
 h5:p5
 h6:p6
structure Aj8(p0 p1 p2 p3 p4 p5 p6 p7:Prop):Prop where
 h0:p0
 h1:p1
 h2:p2
 h3:p3
 h4:p4
 h5:p5
 h6:p6
 h7:p7
structure Aj9(p0 p1 p2 p3 p4 p5 p6 p7 p8:Prop):Prop where
 h0:p0
 h1:p1
 h2:p2
 h3:p3
 h4:p4
 h5:p5
 h6:p6
 h7:p7
 h8:p8
def zar1{a b:Nat}(h:a<b):b-(a+1)<b-a:=Nat.sub_lt_sub_left h (Wa a)
def zar2{a b c d:Nat}(h:a+b≤c)(k:d<b):a+d<c:=Zx (Nat.add_lt_add_left k a) h
def zar3{a b:Nat}(h:a≤b)(k:¬a<b):a=b:=Kn h (Xg k)
def zar4{a b:Nat}(h:a≤b):a+1≤b+1:=Nat.succ_le_succ h
def zar5{a b:Nat}(h:a<b)(k:¬a+1=b):a+1<b:=Nat.lt_of_le_of_ne h k
def zar6{a b c:Nat}(e:a=b)(h:c<b):c<a:=e▸h
def zar7{a b c:Nat}(e:a=b)(h:c<a):c<b:=e▸h
def zar8{a b:Nat}(h:(a:Int)<(b:Int)):a<b:=Int.ofNat_lt.mp h
def zar9{a b:Nat}(h:a<b):(a:Int)<(b:Int):=Int.ofNat_lt.mpr h
def zd9{a b c:Nat}(h:a≤b)(e:a=c):c≤b:=e▸h
def zar14{a:Nat}(h:¬a=0):a=a-1+1:=(Nat.succ_pred h).symm
def zar16{a b:Nat}(h:a≤b):a≤b+1:=Xy h
namespace L2
open PySem PySem.Spec PyProof.Rows
abbrev Key:=Sum Int Str
def keyIs:Key→Value→Bool
 |.inl k,v=>Value.isInt k v
 |.inr x,v=>Value.isStrOf x v
def keyH(w:Nn):Key→Int
 |.inl k=>hashInt k
 |.inr x=>hashStr w x
theorem keyIs_shape:∀{k:Key} {v:Value},keyIs k v=true→(∃i t,k=Sum.inl i∧v=JK t)∨(∃x t,k=Sum.inr x∧v=WN t)
 |.inl i,v,h=>by obtain⟨t,e⟩:=Value.isInt_shape (k:=i) (v:=v) h;exact .inl ⟨i,t,rfl,e⟩
 |.inr x,v,h=>by obtain⟨t,e⟩:=Value.isStrOf_shape (x:=x) (v:=v) h;exact .inr ⟨x,t,rfl,e⟩
def keyIs_int(i:Int)(t:Tok):keyIs (HL i) (Lj i t)=true:=by simp[keyIs,Value.isInt]
def keyIs_str(x:Str)(t:Tok):keyIs (SK x) (.str x t)=true:=by simp[keyIs,Value.isStrOf]
def key_ll(a b:Int):decide ((Sum.inl a:Key)=Sum.inl b)=(a==b):=by
 by_cases e:a=b
 ·subst e;simp
 have h:¬ (Sum.inl a:Key)=Sum.inl b:=λq=>e (Sum.inl.inj q);rw[decide_eq_false h];exact(ES e).symm
def key_rr(a b:Str):decide ((Sum.inr a:Key)=Sum.inr b)=decide (a=b):=by
 by_cases e:a=b
 ·subst e;simp
 have h:¬ (Sum.inr a:Key)=Sum.inr b:=λq=>e AY;rw[decide_eq_false h,decide_eq_false e]
def key_lr(a:Int)(b:Str):decide ((Sum.inl a:Key)=Sum.inr b)=false:=decide_eq_false (λq=>nomatch q)
def key_rl(a:Str)(b:Int):decide ((Sum.inr a:Key)=Sum.inl b)=false:=decide_eq_false (λq=>nomatch q)
def mixKind(prog:Nk)(w:Nn):PySem.KeyKind prog w Key where
 is:=keyIs
 hash:=keyH w
 inj:=λv a b ha hb=>by
  rcases keyIs_shape ha with⟨i,t,rfl,rfl⟩|⟨x,t,rfl,rfl⟩
  ·rcases keyIs_shape hb with⟨j,u,rfl,e⟩|⟨y,u,rfl,e⟩
   ·injection e with e1 _;rw[e1]
   exact nomatch e
  rcases keyIs_shape hb with⟨j,u,rfl,e⟩|⟨y,u,rfl,e⟩
  ·exact nomatch e
  injection e with e1 _;rw[e1]
 byValue:=λk v h=>by rcases keyIs_shape h with⟨i,t,rfl,rfl⟩|⟨x,t,rfl,rfl⟩<;>rfl
 pyHash:=λhv h=>by
  rcases keyIs_shape hv with⟨i,t,rfl,rfl⟩|⟨x,t,rfl,rfl⟩
  ·exact wpAny_pyHash_int h
  exact wpAny_pyHash_str h
 eqBool:=λhu hv h=>by
  rcases keyIs_shape hu with⟨i,t,rfl,rfl⟩|⟨x,t,rfl,rfl⟩
  ·rcases keyIs_shape hv with⟨j,u,rfl,rfl⟩|⟨y,u,rfl,rfl⟩
   ·rw[key_ll]at h;exact wpAny_eqBool_int h
   rw[key_lr]at h;exact SeqAt.EqAt.int_str i t y u _ _ _ _ h
  rcases keyIs_shape hv with⟨j,u,rfl,rfl⟩|⟨y,u,rfl,rfl⟩
  ·rw[key_rl]at h;exact SeqAt.EqAt.str_int x t j u _ _ _ _ h
  rw[key_rr]at h;exact wpAny_eqBool_str h
 «strs»:=λk x t v h=>by
  rcases keyIs_shape h with⟨i,u,rfl,e⟩|⟨y,u,rfl,e⟩
  ·exact nomatch e
  injection e with e1 _;subst e1;cases v<;>rfl
def mixKind_int(prog:Nk)(w:Nn)(i:Int)(t:Tok):(mixKind prog w).is (HL i) (Lj i t)=true:=keyIs_int i t
def zeg(prog:Nk)(w:Nn)(x:Str)(t:Tok):(mixKind prog w).is (SK x) (.str x t)=true:=keyIs_str x t
inductive V where
 |non|bl (b:Bool)|int (i:Int)|str (x:Str)|byt (b:Array UInt8)|flt (b:UInt64)|ref (a:Nc)|ty (n:String)
 deriving DecidableEq
def RelV:V→Value→Prop
 |.non,u=>u=Value.none
 |.bl b,u=>u=Value.bool b
 |.int i,u=>∃t,u=JK t
 |.str x,u=>∃t,u=WN t
 |.byt b,u=>∃t,u=Value.bytes b t
 |.flt b,u=>∃t,u=Value.float b t
 |.ref a,u=>u=Value.ref a
 |.ty n,u=>u=Value.type n
abbrev Vals:List V→List Value→Prop:=Paired RelV
def Vals.length{xs:List V}{us:Nj}(r:Q5 us):xs.length=us.length:=Zh r
theorem Vals.get:∀{xs:List V} {us:Nj} {i:Nat} {x:V},Q5 us→xs[i]?=some x→∃u,us[i]?=some u∧WK u
 |_,_,_,_,.nil,e=>by simp at e
 |_,_,0,_,.cons r _,e=>by simp at e;subst e;exact⟨xf,r⟩
 |_,_,i+1,x,.cons _ t,e=>by obtain⟨u,h1,h2⟩:=Vals.get (i:=i) (x:=x) t OR;exact⟨u,Hd h1,h2⟩
theorem Vals.set{x:V}{u:Value}(r:WK u):∀{xs:List V} {us:Nj} (i:Nat),Q5 us→Vals (xs.set i x) (us.set i u)
 |_,_,_,.nil=>.nil
 |_,_,0,.cons _ t=>.cons r t
 |_,_,i+1,.cons q t=>.cons q (Vals.set r i t)
theorem Vals.append:∀{xs ys:List V} {us ws:Nj},Q5 us→YU ws→Vals (xs++ys) (us++ws)
 |_,_,_,_,.nil,s=>s
 |_,_,_,_,.cons r t,s=>.cons r (Vals.append t s)
theorem Vals.take:∀{xs:List V} {us:Nj} (n:Nat),Q5 us→Vals (EE n) (us.take n)
 |_,_,0,_=>.nil
 |_,_,_+1,.nil=>.nil
 |_,_,n+1,.cons r t=>.cons r (Vals.take n t)
theorem Vals.drop:∀{xs:List V} {us:Nj} (n:Nat),Q5 us→Vals (xs.drop n) (us.drop n)
 |_,_,0,r=>r
 |_,_,_+1,.nil=>.nil
 |_,_,n+1,.cons _ t=>Vals.drop n t
def RelO:Option V→Option Value→Prop
 |some v,some u=>YV u
 |none,none=>True
 |_,_=>False
def KV{κ:Type}:List (κ×V)→List (κ×Value)→Prop:=Paired λ(p:κ×V) (q:κ×Value)=>p.1=q.1∧De q.2
def kV:Key→V
 |.inl i=>.int i
 |.inr x=>.str x
inductive HO where
 /-- a list -/
 |lst (xs:List V)
 /-- a tuple (never changes) -/
 |tup (xs:List V)
 /-- a dict whose keys are ints and texts;one whose keys are tuples of ints and texts (the empty one is both) -/
 |dK (kvs:List (Key×V))|dT (kvs:List (List Key×V))
 /-- a set of ints: a8 members,a8 size -/
 |set (S:Int→Bool) (n:Nat)
 /-- an instance of the class at C,a8 dict at dx,a8 attributes -/
 |ins (C dx:Nc) (fs:List (Str×V))
 /-- the dict of the instance at x -/
 |own (x:Nc)
 /-- the dict of an exception -/
 |xd (fs:List (Str×V))
 /-- a bound method,f of x -/
 |met (f x:Nc)
 /-- a range object lo,lo+1,.. below hi -/
 |rng (lo hi:Int)
 /-- a thing that is known to the object (the script;a dict while a loop walks it): read,never written while it is so -/
 |frz (o:Obj) (u:HO)
 /-- a code object's table -/
 |tbl (ps:Array Value)
 /-- any other thing,by what is true of a8 one object (a def of one's own: SetO a S n:=HO.ext λh=>..) -/
 |ext (φ:Heap→Prop)
abbrev Hp:=Addr→Option HO
def upd(H:Hp)(a:Nc)(o:HO):Hp:=λb=>if b=a then some o else H b
def zad{H:Hp}{a:Nc}{o:HO}:ZS a o a=some o:=by unfold upd;rw[if_pos rfl]
def zaf{H:Hp}{a b:Nc}{o:HO}(h:b≠a):ZS a o b=H b:=by unfold upd;rw[if_neg h]
def upd_upd{H:Hp}{a:Nc}{o u:HO}:upd IJ a u=ZS a u:=by funext b;unfold upd;split<;>rfl
def zax{H:Hp}{a b:Nc}{o u:HO}(h:Cj o)(h':RU b u)(d:o≠u):a≠b:=by intro e;subst e;rw[h]at h';exact d (Qn h')
def zab{H:Hp}{a b:Nc}{o:HO}(h:Cj o)(h':H b=none):a≠b:=by intro e;subst e;rw[h]at h';cases h'
section
variable(P:Nk)(w:Nn)
def zbg(H:Hp)(h:No)(a:Nc):HO→Prop
 |.lst xs=>xs.length≤sizeLine∧∃(a8:Nj) (n:Nat),Q5 a8∧h.get? a=some {cls:=.type "list",data:=.seq a8.toArray n}
 |.tup xs=>xs.length≤sizeLine∧∃a8:List Value,Q5 a8∧IsTup h a a8.toArray
 |.dK kvs=>kvs.length≤sizeLine∧(a==sysModules)=false∧∃vs,YW vs∧h.DictOf Cu a vs
 | .dT kvs=>kvs.length≤sizeLine∧(a == sysModules)=false∧∃ xs:List (List Key×Addr×Value),
   Paired (λ(p:List Key×V) (q:List Key×Addr×Value)=>p.1=q.1∧H q.2.1=some yR∧De q.2.2) kvs xs ∧
   ∃o es ep,h.get? a=some o∧o.ExactDict∧o.data=.dict es ep∧es.toList=xs.map (entryOfKey (OJ Cu))∧(xs.map (·.1)).Nodup
 |.set S n=>h.SetOf (intKind P w) a S n
 | .ins C dx fs=>H dx=some ET∧fs.length≤1000∧dx≠a∧h.get? a=some (WF dx) ∧
   ∃mA,h.Ns1 dx mA∧(∀f,KA (mA f))∧VE (fs.map (·.1))
 |.own _=>∃o,h.get? a=some o
 |.xd fs=>∃mA,h.Ns1 a mA∧∀f,KA (mA f)
 |.rng lo hi=>∃t u v,h.get? a=some {cls:=.type "range",data:=.fields #[Ag,Ah,yI]}
 |.frz o u=>h.get? a=some o∧zbg H h a u
 |.tbl ps=>h.get? a=some {cls:=.none,data:=.fields ps}
 |.met f x=>h.get? a=some (J' T8)
 |.ext φ=>φ h∧(∃o,h.get? a=some o)∧∀h1 h2:Heap,φ h1→(∀o,h1.get? a=some o→h2.get? a=some o)→φ h2
def HOk(H:Hp)(h:No):Prop:=∀a o,H a=some o→WO o
end
section
variable{P:Nk}{w:Nn}{H H':Hp}{h h':No}{a:Nc}{o:HO}
def zbg.lt(x:WO o):a<h.objs.size:=by
 cases o with
 |lst xs=>obtain⟨_,_,_,_,e⟩:=x;exact Qu e
 |tup xs=>obtain⟨_,_,_,p⟩:=x;exact p.lt
 |dK kvs=>obtain⟨_,_,_,_,o,_,_,e,_⟩:=x;exact Qu e
 |dT kvs=>obtain⟨_,_,_,_,o,_,_,e,_⟩:=x;exact Qu e
 |set S n=>obtain⟨o,_,_,_,e,_⟩:=x;exact Qu e
 |ins C dx fs=>obtain⟨_,_,_,e,_⟩:=x;exact Qu e
 |own y=>obtain⟨_,e⟩:=x;exact Qu e
 |xd fs=>obtain⟨_,⟨_,_,_,e,_⟩,_⟩:=x;exact Qu e
 |rng lo hi=>obtain⟨_,_,_,e⟩:=x;exact Qu e
 |frz ob u=>obtain⟨e,_⟩:=x;exact Qu e
 |tbl ps=>exact Qu (show h.get? a=some _ from x)
 |met f y=>exact Qu (show h.get? a=some _ from x)
 |ext φ=>obtain⟨_,⟨_,e⟩,_⟩:=x;exact Qu e
theorem Paired.mapP{α β:Type}{F G:α→β→Prop}:∀{l₁:List α} {l₂:List β},Paired F l₁ l₂→(∀a b,F a b→G a b)→Paired G l₁ l₂
 |_,_,.nil,_=>.nil
 |_,_,.cons r t,f=>.cons (f _ _ r) (Paired.mapP t f)
def Paired.imp'{α β:Type}{F G:α→β→Prop}(f:∀a b,F a b→G a b){l₁:List α}{l₂:List β}(r:Paired F l₁ l₂):Paired G l₁ l₂:=Paired.mapP r f
def zbg.stay(x:WO o)(k:∀b u,(b=a∨H b=some ET)→h.get? b=some u→h'.get? b=some u)(ho:∀b,H b=some ET→H' b=some ET)(ht:∀b xs,H b=some SV→H' b=some SV):Y5 H' h' a o:=by
 induction o with
 |lst xs=>obtain⟨z,a8,n,r,e⟩:=x;exact⟨z,a8,n,r,TW⟩
 |tup xs=>obtain⟨z,a8,r,ob,e,c⟩:=x;exact⟨z,a8,r,ob,TW,c⟩
 |dK kvs=>obtain⟨z,y,vs,r,ob,es,ep,e,c⟩:=x;exact⟨z,y,vs,r,ob,es,ep,TW,c⟩
 |dT kvs=>obtain⟨z,y,xs,r,ob,es,ep,e,c⟩:=x;exact⟨z,y,xs,Paired.mapP r λp q z=>⟨z.1,ht _ _ z.2.1,z.2.2⟩,ob,es,ep,TW,c⟩
 |set S n=>obtain⟨ob,es,ep,t,e,c⟩:=x;exact⟨ob,es,ep,t,TW,c⟩
 |ins C dx fs=>obtain⟨d,z,ne,e,mA,⟨od,es,ep,e2,c⟩,r⟩:=x;exact⟨ho _ d,z,ne,TW,mA,⟨od,es,ep,k _ _ (SK d) e2,c⟩,r⟩
 |own y=>obtain⟨ob,e⟩:=x;exact⟨ob,TW⟩
 |xd fs=>obtain⟨mA,⟨od,es,ep,e,c⟩,r⟩:=x;exact⟨mA,⟨od,es,ep,TW,c⟩,r⟩
 |rng lo hi=>obtain⟨t,u,v,e⟩:=x;exact⟨t,u,v,TW⟩
 |frz ob u ih=>obtain⟨e,q⟩:=x;exact⟨TW,ih q⟩
 |tbl ps=>have e:h.get? a=some {cls:=.none,data:=.fields ps}:=x;show h'.get? a=some {cls:=.none,data:=.fields ps};exact k a _ RT e
 |met f y=>have e:h.get? a=some (J' (Hf y)):=x;show h'.get? a=some (J' (Hf y));exact k a _ RT e
 |ext φ=>obtain⟨p,⟨o,e⟩,st⟩:=x;exact⟨st _ _ p λo q=>k _ _ RT q,⟨o,TW⟩,st⟩
def HOk.lt(x:WG h)(e:Cj o):a<h.objs.size:=(x a o e).lt
def HOk.fresh(x:WG h)(e:h.objs.size≤a):H a=none:=by
 cases q:H a with
 |none=>rfl
 |some u=>exact absurd (Zx (x.lt q) e) OS
def HOk.kept(x:WG h)(k:∀b u,h.get? b=some u→h'.get? b=some u):WG h':=λa o e=>(x a o e).stay (λb u _ q=>k b u q) (λ_ q=>q) λ_ _ q=>q
def HOk.laid(x:WG h)(k:∀b u,h.get? b=some u→h'.get? b=some u)(hp:h.objs.size≤a)(new:Y5 IJ h' a o):WT IJ h':=λb u e=>by
 have hn:=x.fresh hp;by_cases hb:b=a
 ·subst hb;rw[zad]at e;cases e;exact new
 rw[Pm]at e;exact(x b u e).stay (λc v _ q=>k c v q) (λc q=>by rw[zaf AZ];exact q) λc xs q=>by rw[zaf AZ];exact q
def Rd(H:Hp)(a:Nc)(u:HO):Prop:=H a=some u∨∃o,H a=some PN
def Rd.ok{P:Nk}{w:Nn}{H:Hp}{h:No}{a:Nc}{u:HO}(r:Bw u)(x:WG h):WO u:=by
 rcases r with r|⟨o,r⟩
 ·exact x a u r
 obtain⟨_,q⟩:=x a _ r;exact q
def Mut:Option HO→Prop
 |some (.lst _)=>True
 |some (.dK _)=>True
 |some (.dT _)=>True
 |some (.set _ _)=>True
 |some (.ins _ _ _)=>True
 |some (.ext _)=>True
 |_=>False
variable{x e:Nc}{o':HO}
def HOk.write(ok:WG h)(mu:Mut (H x))(he:e=x∨H e=some PP)(k:∀ b u,b≠e→h.get? b=some u→h'.get? b=some u)(mG:∃ u,h'.get? e=some u)(new:Y5 (ZS x o') h' x o'):WT (ZS x o') h':=λb u q=>by
 have nown:∀c y,H c=some (.own y)→c≠x:=λc y r z=>by subst z;rw[r]at mu;exact mu
 have ntup:∀c xs,H c=some SV→c≠x:=λc xs r z=>by subst z;rw[r]at mu;exact mu
 by_cases hb:b=x
 ·subst hb;rw[zad]at q;cases q;exact new
 rw[Pm]at q;by_cases ll:b=e
 ·have q':H b=some PP:=by
   rcases he with z|z
   ·exact absurd (ll.trans z) hb
   rw[ll];exact z
  rw[q]at q';cases q';obtain⟨v,hv⟩:=mG;exact⟨v,Hm ll hv⟩
 refine (ok b u q).stay (λc v hc r=>k c v ?_ r) (λc r=>by rw[zaf (nown c b r)];exact r) λc xs r=>by rw[zaf (ntup c xs r)];exact r
 rcases hc with rfl|hc
 ·exact ll
 rintro rfl;rcases he with z|z
 ·exact nown c b hc z
 rw[hc]at z;cases z;exact hb rfl
end
structure Un(fs ex:Nl)(H H':Hp)(h h':No):Prop where
 keep:∀b o,h.get? b=some o→H b=none→b∉fs→b∉ex→h'.get? b=some o
 slot:∀b o,h.get? b=some o→H b=none→b∈fs→b∉ex→∃sl,h'.get? b=some {o with slots:=sl}
 free:∀b o,h.get? b=some o→H b=none→b∉ex→H' b=none
 there:∀b o,h.get? b=some o→b∉ex→∃o',h'.get? b=some o'
 tups:∀b xs,H b=some SV→H' b=some SV
 frzs:∀b o u,H b=some PN→H' b=some PN
 tbls:∀b ps,H b=some AG→∃more,H' b=some (.tbl (ps++more))
section
variable{fs fs' ex ex':Nl}{H H1 H2:Hp}{h h1 h2 h':No}{a x e:Nc}{o:HO}
def Un.any(u:KB H1 h h1){b:Nc}{ob:Obj}(q:h.get? b=some ob)(n:H b=none)(hx:b∉ex):∃sl,h1.get? b=some {ob with slots:=sl}:=by
 by_cases hb:b∈fs
 ·exact u.slot b ob q n hb hx
 exact⟨ob.slots,u.keep b ob q n hb hx⟩
def Un.kept(k:∀b u,h.get? b=some u→h'.get? b=some u):KB H h h':=
 ⟨λb ob q _ _ _=>k b ob q,λb ob q _ _ _=>⟨ob.slots,k b ob q⟩,λ_ _ _ n _=>n,λb ob q _=>⟨ob,k b ob q⟩,λ_ _ q=>q,λ_ _ _ q=>q,λ_ ps q=>⟨#[],by rw[q];simp⟩⟩
def Un.refl:KB H h h:=Un.kept λ_ _ q=>q
theorem Un.laid(k:∀b u,h.get? b=some u→h'.get? b=some u)(hp:h.objs.size≤a)(hn:H a=none):KB IJ h h' where
 keep:=λb u q _ _ _=>k b u q
 slot:=λb u q _ _ _=>⟨u.slots,k b u q⟩
 free:=λb u q n _=>by rw[zaf (Zi (Zx (Qu q) hp))];exact n
 there:=λb u q _=>⟨u,k b u q⟩
 tups:=λb xs q=>by rw[zaf AZ];exact q
 frzs:=λb u xs q=>by rw[zaf AZ];exact q
 tbls:=λb ps q=>⟨#[],by rw[zaf AZ,q];simp⟩
def Un.write(mu:Mut (H x))(he:e=x∨H e=some PP)(k:∀b u,b≠e→h.get? b=some u→h'.get? b=some u)(mG:∃u,h'.get? e=some u):KB (ZS x o) h h':=by
 have hx:∀b,H b=none→b≠x:=λb n z=>by subst z;rw[n]at mu;exact mu
 have hb:∀b,H b=none→b≠e:=λb n z=>by
  subst z;rcases he with r|r
  ·exact hx b n r
  rw[n]at r;cases r
 have hm:∀b u,H b=some u→¬Mut (RH u)→b≠x:=λb u q nm z=>by subst z;rw[q]at mu;exact nm mu
 refine⟨λb u q n _ _=>k b u (hb b n) q,λb u q n _ _=>⟨u.slots,k b u (hb b n) q⟩,λb u q n _=>by rw[zaf (hx b n)];exact n,λb u q _=>?_,
  λb xs q=>by rw[zaf (hm b _ q λz=>z)];exact q,λb u xs q=>by rw[zaf (hm b _ q λz=>z)];exact q,λb ps q=>⟨#[],by rw[zaf (hm b _ q λz=>z),q];simp⟩⟩
 by_cases ll:b=e
 ·subst ll;exact mG
 exact⟨u,k b u ll q⟩
def trk(h:No)(H:Hp):List Addr:=(List.range h.objs.size).filter λa=>(H a).isSome
def hidT(h:No)(H:Hp):Heap:=PySem.W.hideAll h (trk h H)
def hidT_size(h:No)(H:Hp):(hidT h H).objs.size=h.objs.size:=PySem.W.hideAll_size _ _
def hidT_get{h:No}{H:Hp}{b:Nc}{o:Obj}(e:h.get? b=some o)(n:H b=none):(hidT h H).get? b=some o:=
 PySem.W.hideAll_get _ e λhm=>by have q:(H b).isSome=true:=(Uq.mp hm).2;rw[n]at q;simp at q
def of_hidT{h:No}{H:Hp}{b:Nc}{o:Obj}(e:(hidT h H).get? b=some o):h.get? b=some o∧H b=none:=by
 have e':h.get? b=some o:=PySem.W.of_hideAll (trk h H) e;refine⟨e',?_⟩;cases q:H b with
 |none=>rfl
 |some x=>have hm:b∈trk h H:=Uq.mpr ⟨Wg.mpr (Qu e'),Sa q⟩;have z:(hidT h H).get? b=none:=PySem.W.hideAll_none (trk h H) hm;rw[z]at e;cases e
end
structure Mod(K:Nb)(mg:Nh)(base:No):Prop where
 kin:K.In base
 glob:base.Ns mainGlobals mg
 blt:∃mb,base.Ns builtinsNs mb∧∀x:Str,x ≠ "__name__" → mb x=bootBuiltins x
 nolimit:base.NoLimit
structure Cx where
 prog:Program
 w:World
 K:PySem.W.Frag
 mg:Str→Option Value
 base:Heap
 A:Around
 N:List Str
 s₀:Shared
 H₀:Hp
 env:Env
 outer:List Env
 stack:List Env
 ex:List Addr
 fn:Str→Bool
 calm:Bool
 pn:List (Addr×Obj)
 xe:Value→Shared→Prop
def frs(l:List Env):List Addr:=l.filterMap (·.frame)
abbrev Cx.fs(X:Cx):List Addr:=frs X.outer
def Vis(sc:Scope)(x:Str):Prop:=sc.names.lookup x=some .local∨sc.names.lookup x=some .cell∨sc.names.lookup x=some .free
def Loc(sc:Scope)(x:Str):Prop:=sc.names.lookup x=some .local∨sc.names.lookup x=some .cell
def Look(env:Env)(h:No)(m:Nh)(x:Str)(u:Value):Prop:=
 (env.kindOf x=some .local∧m x=some u)∨((env.kindOf x=some .cell∨env.kindOf x=some .free)∧∃c,env.cells.lookup x=some c∧h.IsCell c (RH u))
structure Cx.Ok(X:Cx):Prop where
 mod:Mod X.K X.mg X.base
 kind:X.env.scope.kind=.function
 glob:X.env.globals=mainGlobals
 blt:X.env.builtins=builtinsNs
 above:X.s₀.heap.objs.size≤X.env.locals
 inj:∀x y c,X.env.cells.lookup x=some c→X.env.cells.lookup y=some c→x=y
 has:∀x,(X.env.kindOf x=some .cell∨X.env.kindOf x=some .free)→∃c,X.env.cells.lookup x=some c
 cab:∀x c,X.fn x=true→X.env.cells.lookup x=some c→X.s₀.heap.objs.size≤c
 hd:X.calm=true→X.A.handled=none
 frames:X.A.frames=some X.stack
 stk:X.stack=X.outer∨(X.stack=X.env::X.outer∧X.env.frame=some X.env.locals)
 exf:∀b∈X.ex,b≠X.env.locals∧∀x c,X.env.cells.lookup x=some c→c≠b
 bs:∀b o,X.base.get? b=some o→X.s₀.heap.get? b=some o∧X.H₀ b=none
 bsz:X.base.objs.size≤X.s₀.heap.objs.size
 noex:∀b o,X.base.get? b=some o→b∉X.ex
 exfs:∀b∈X.ex,b∉X.fs
 funs:VF X.outer
 frf:∀b∈X.fs,X.H₀ b=none
structure Inv(X:Cx)(a7:Nd)(σ:List (Option V))(H:Hp)(s:Ni):Prop where
 ok:X.Ok
 os:s.os=X.s₀.os
 bare:AllBare s.gens
 base:Un X.fs X.ex X.H₀ H X.s₀.heap s.heap
 loc:∃m,s.heap.Ns X.env.locals m∧∀(i:Nat) (x:Str) (v:V),X.N[i]?=some x→σ[i]?=some (RH v)→VG x→∃u,YV u∧Look X.env s.heap m x u
 cell:∀x c,X.env.cells.lookup x=some c→∃v,s.heap.IsCell c v
 free:H X.env.locals=none
 freeC:∀x c,X.env.cells.lookup x=some c→H c=none
 pin:∀p∈X.pn++a7,s.heap.get? p.1=some p.2∧H p.1=none∧p.1≠X.env.locals∧p.1∉X.fs∧∀v,p.2.data≠.cell v
 hok:YX H s.heap
 len:σ.length=X.N.length
section
variable{X:Cx}{a7:Nd}{σ:List (Option V)}{H H':Hp}{s:Ni}{h':No}
def Cx.Ok.nofr(ok:X.Ok){b:Nc}{o:Obj}(e:X.base.get? b=some o):b∉X.fs:=λhb=>by have:=(ok.funs.mem hb).1;rw[e]at this;cases this
def Inv.bs(I:HI):∀b o,X.base.get? b=some o→s.heap.get? b=some o∧H b=none:=λb o e=>⟨I.base.keep b o (VA e).1 (VA e).2 (I.ok.nofr e) (MO e),JR (VA e).1 (VA e).2 (MO e)⟩
def Inv.bk(I:HI):∀b o,X.base.get? b=some o→s.heap.get? b=some o:=λb o e=>(I.bs b o e).1
def Inv.mod(I:HI):Mod X.K X.mg X.base:=I.ok.mod
def Inv.kIn(I:HI):X.K.In s.heap:=I.ok.mod.kin.keeps I.bk
def Inv.lt(I:HI):X.env.locals<s.heap.objs.size:=let⟨_,hn,_⟩:=I.loc;hn.lt
def Inv.sz(I:HI):X.s₀.heap.objs.size≤s.heap.objs.size:=Zn I.ok.above (Zt I.lt)
def Inv.nofs(I:HI){a:Nc}(h:s.heap.objs.size≤a):a∉X.fs:=λhb=>by obtain⟨_,o,ho,_⟩:=I.ok.funs.mem hb;exact absurd (Zx (Qu ho) (Zn I.sz h)) OS
def Inv.cne(I:HI):∀x c,X.env.cells.lookup x=some c→c≠X.env.locals:=λx c e z=>by obtain⟨v,o,ho,hd⟩:=U' e;obtain⟨m,⟨o',es,ep,aw,dj,_⟩,_⟩:=I.loc;rw[z,aw]at ho;cases ho;rw[dj]at hd;cases hd
def Inv.funs(I:HI):s.heap.FunFrames X.base X.outer:=by
 have all:∀(l:List Env),(∀b∈frs l,b∈X.fs)→VF l→s.heap.FunFrames X.base l:=by
  intro l;induction l with
  |nil=>intro _ _;trivial
  |cons env r ih=>intro hs hl;obtain⟨hk,⟨L,o,hf,hn,ho,hd⟩,hr⟩:=hl;have hL:L∈X.fs:=hs L (by unfold frs;rw[List.filterMap_cons,hf];exact List.mem_cons_self);obtain⟨sl,e⟩:=I.base.slot L o ho (I.ok.frf L hL) hL λz=>I.ok.exfs L z hL;exact⟨hk,⟨L,_,hf,hn,e,hd⟩,ih (λb hb=>hs b (by unfold frs;rw[List.filterMap_cons,hf];exact NC hb)) hr⟩
 exact all X.outer (λ_ hb=>hb) I.ok.funs
def Inv.stack(I:HI):s.heap.FunFrames X.base X.stack:=by
 rcases I.ok.stk with e|⟨e,hf⟩
 ·rw[e];exact I.funs
 rw[e];obtain⟨m,hn,_⟩:=I.loc;refine .cons (by rw[I.ok.kind];decide) hf hn ?_ I.funs;exact Heap.get?_none_of_le (Df I.ok.above)
def Inv.stkSub(I:HI):∀b∈frs X.stack,b∈X.env.locals::X.fs:=λb hb=>by
 rcases I.ok.stk with e|⟨e,hf⟩
 ·rw[e]at hb;exact QL hb
 rw[e]at hb;unfold frs at hb;rw[List.filterMap_cons,hf]at hb;exact hb
def Inv.stkFree(I:HI):∀b∈frs X.stack,H b=none:=λb hb=>by
 rcases Qj.mp (V2 hb) with e|hb
 ·rw[e];exact I.free
 obtain⟨_,o,ho,_⟩:=I.ok.funs.mem hb;exact JR ho (I.ok.frf b hb) λz=>I.ok.exfs b z hb
def Inv.step{g':Array GenState}{t':Nat}{d':Drawn}{ch:Nl}(I:HI)(gZ:Ri)(keep:∀b o,b≠X.env.locals→b∉X.fs→b∉ch→s.heap.get? b=some o→H b=none→h'.get? b=some o)(slot:∀b o,b≠X.env.locals→b∈X.fs→b∉ch→s.heap.get? b=some o→H b=none→∃sl,h'.get? b=some {o with slots:=sl})(free:∀b o,b∉ch→s.heap.get? b=some o→H b=none→H' b=none)(there:∀b o,b∉ch→s.heap.get? b=some o→∃o',h'.get? b=some o')(tups:∀b xs,H b=some SV→H' b=some SV)(frzs:∀b o u,H b=some PN→H' b=some PN)(tbls:∀b ps,H b=some AG→∃more,H' b=some (.tbl (ps++more)))(ns:∀m,s.heap.Ns X.env.locals m→h'.Ns X.env.locals m)(hok:YX H' h')(hg:AllBare g') :
  Inv X a7 σ H' {s with heap:=h',gens:=g',drawn:=d',toks:=t'}:=by
 have neL:∀b o,X.s₀.heap.get? b=some o→b≠X.env.locals:=λb o e=>Zi Cv;have neC:∀b o,X.s₀.heap.get? b=some o→b∉X.ex→b∉ch:=λb o e hx hb=>by
  rcases(gZ b hb).1 with z|z
  ·exact hx z
  exact absurd (UO z) OS
 have cellK:∀x c,X.env.cells.lookup x=some c→∀v,s.heap.IsCell c v→h'.IsCell c v:=λx c e v ⟨o,ho,hd⟩=>by
  have nch:c∉ch:=λz=>(gZ c z).2.2.1 x c e rfl;by_cases hc:c∈X.fs
  ·obtain⟨sl,q⟩:=slot c o (I.cne x c e) hc nch ho (JL e);exact⟨_,q,hd⟩
  exact⟨o,keep c o (I.cne x c e) hc nch ho (JL e),hd⟩
 refine⟨I.ok,I.os,hg,⟨λb o e n hb hx=>?_,λb o e n hb hx=>?_,λb o e n hx=>?_,λb o e hx=>?_,λb xs e=>tups b xs (I.base.tups b xs e),λb o xs e=>frzs b o xs (I.base.frzs b o xs e),λb ps e=>?_⟩,?_,λx c e=>?_,?_,λx c e=>?_,λp hp=>?_,hok,I.len⟩
 ·exact keep b o EU hb EV (UV hx) zV
 ·obtain⟨sl,e1⟩:=UW hx;obtain⟨lO,e2⟩:=slot b _ EU hb EV e1 zV;exact⟨lO,e2⟩
 ·obtain⟨o',e1⟩:=YK hx;exact free b o' EV e1 zV
 ·obtain⟨o',e1⟩:=YK hx;exact there b o' EV e1
 ·obtain⟨m1,e1⟩:=I.base.tbls b ps e;obtain⟨m2,e2⟩:=tbls b _ e1;exact⟨m1++m2,by rw[e2,Array.append_assoc]⟩
 ·obtain⟨m,hn,hl⟩:=I.loc;refine⟨m,ns m hn,λi x v e1 e2 e3=>?_⟩;obtain⟨u,r,l⟩:=hl i x v e1 e2 e3;refine⟨u,r,?_⟩;rcases l with l|⟨k,c,e,z⟩
  ·exact .inl l
  exact .inr ⟨k,c,e,cellK x c e _ z⟩
 ·obtain⟨v,z⟩:=U' e;exact⟨v,cellK x c e v z⟩
 ·obtain⟨m,⟨o,_,_,ho,_⟩,_⟩:=I.loc;exact free _ o (λz=>(gZ _ z).2.1 rfl) ho I.free
 ·obtain⟨v,o,ho,hd⟩:=U' e;exact free c o (λz=>(gZ c z).2.2.1 x c e rfl) ho (JL e)
 obtain⟨e,n,ne,nf,d⟩:=Y6 hp;have nch:p.1∉ch:=λz=>(gZ p.1 z).2.2.2 p hp rfl;exact⟨keep p.1 p.2 ne nf nch e n,free p.1 p.2 nch e n,ne,nf,d⟩
def Inv.un{t':Nat}(I:HI)(u:Un X.fs [] H H' s.heap h')(hok:YX H' h'):ZA H' {s with heap:=h',toks:=t'}:=by obtain⟨m,⟨o,es,ep,ho,r⟩,_⟩:=id I.loc;obtain⟨sl,hL⟩:=u.any ho I.free Hb;exact I.step (g':=s.gens) (d':=s.drawn) (ch:=[]) (λ_ z=>nomatch z) (λb o _ hb _ e n=>u.keep b o e n hb Hb) (λb o _ hb _ e n=>u.slot b o e n hb Hb) (λb o _ e n=>u.free b o e n Hb) (λb o _ e=>u.there b o e Hb) u.tups u.frzs u.tbls (λm' hm=>by obtain⟨o',es',ep',aw,r'⟩:=hm;rw[ho]at aw;cases aw;exact⟨_,es',ep',hL,r'⟩) hok I.bare
def Inv.call{g':Array GenState}{t':Nat}{d':Drawn}{ch:Nl}(I:HI)(u:Vh h')(hok:YX H' h')(hg:AllBare g')(gZ:Ri) :
  Inv X a7 σ H' {s with heap:=h',gens:=g',drawn:=d',toks:=t'}:=by
 obtain⟨m,⟨o,es,ep,ho,r⟩,_⟩:=id I.loc;obtain⟨sl,hL⟩:=u.any ho I.free λz=>(gZ _ z).2.1 rfl;exact I.step (ch:=ch) gZ (λb o hL hb hc e n=>u.keep b o e n (λz=>(PQ (V2 z)).elim hL hb) hc) (λb o _ _ hc e n=>u.any e n hc) (λb o hc e n=>u.free b o e n hc) (λb o hc e=>u.there b o e hc) u.tups u.frzs u.tbls (λm' hm=>by obtain⟨o',es',ep',aw,r'⟩:=hm;rw[ho]at aw;cases aw;exact⟨_,es',ep',hL,r'⟩) hok hg
def Inv.turned{t':Nat}{it:Nc}(I:HI)(k:∀b o,b≠it→s.heap.get? b=some o→h'.get? b=some o)(hn:H it=none)(hL:it≠X.env.locals)(h1:it∈X.ex∨X.s₀.heap.objs.size≤it)(h2:∀x c,X.env.cells.lookup x=some c→c≠it)(h3:∀p∈X.pn++a7,p.1≠it):ZA H {s with heap:=h',toks:=t'}:=by
 have nit:∀b u,H b=some u→b≠it:=λb u e z=>by rw[z,hn]at e;cases e
 refine I.step (g':=s.gens) (d':=s.drawn) (ch:=[it]) (λb hb=>?_) (λb o _ _ hc e _=>k b o (λz=>hc CN) e) (λb o _ _ hc e _=>⟨o.slots,k b o (λz=>hc CN) e⟩) (λ_ _ _ _ n=>n)
  (λb o hc e=>⟨o,k b o (λz=>hc CN) e⟩) (λ_ _ e=>e) (λ_ _ _ e=>e) (λb ps e=>⟨#[],by rw[e];simp⟩) (λm hm=>?_) (λb u e=>?_) I.bare
 ·have e:b=it:=by simpa using hb
  subst e;exact⟨h1,hL,h2,h3⟩
 ·obtain⟨o,es,ep,ho,r⟩:=hm;exact⟨o,es,ep,k _ o (Zd hL) ho,r⟩
 refine (UX u e).stay (λc v hc q=>k c v ?_ q) (λ_ q=>q) λ_ _ q=>q;rcases hc with z|z
 ·rw[z];exact nit b u e
 exact nit c _ z
def Inv.tok(I:HI)(t:Nat):ZA H {s with toks:=t}:=I.un (h':=s.heap) (t':=t) Un.refl I.hok
def Inv.kept{t':Nat}(I:HI)(k:∀b u,s.heap.get? b=some u→h'.get? b=some u):ZA H {s with heap:=h',toks:=t'}:=I.un (Un.kept k) (I.hok.kept k)
def Inv.laid{a:Nc}{o:HO}{t':Nat}(I:HI)(k:∀b u,s.heap.get? b=some u→h'.get? b=some u)(hp:s.heap.objs.size≤a)(new:ZY IJ h' a o) :
  Inv X a7 σ IJ {s with heap:=h',toks:=t'}:=I.un (Un.laid k hp (IK hp)) (I.hok.laid k hp new)
def Inv.write{x e:Nc}{o:HO}{t':Nat}(I:HI)(mu:Mut (H x))(he:e=x∨H e=some PP)(k:∀b u,b≠e→s.heap.get? b=some u→h'.get? b=some u)(mG:∃u,h'.get? e=some u)(new:ZY (ZS x o) h' x o):ZA (ZS x o) {s with heap:=h',toks:=t'}:=I.un (Un.write mu he k mG) (I.hok.write mu he k mG new)
def Inv.pins_of{pins':Nd}(I:HI)(h:∀p∈pins',s.heap.get? p.1=some p.2∧H p.1=none∧p.1≠X.env.locals∧p.1∉X.fs∧∀v,p.2.data≠.cell v):ZI pins' σ H s:=
 ⟨I.ok,I.os,I.bare,I.base,I.loc,I.cell,I.free,I.freeC,λp hp=>(Qe.mp hp).elim (λz=>Y6 (YN z)) (h p),I.hok,I.len⟩
def zi9{N:Ng}(hN:N.Nodup){i j:Nat}{x:Str}(a:N[i]?=some x)(b:N[j]?=some x):i=j:=by obtain⟨h1,e1⟩:=Zb.mp a;obtain⟨h2,e2⟩:=Zb.mp b;exact(Wm hN).mp (e1.trans e2.symm)
def zep{M:Model}{A:Np}{E:Na}{i:Nat}{x:Str}{v:V}{u:Value}{Q:Unit→Shared→Prop}(I:HI)(hN:X.N.Nodup)(hi:X.N[i]?=some x)(hx:UG x)(r:YV u)(h:∀s',ZD IL H s'→(∃a,U8 s'.heap∧(a=X.env.locals∨X.env.cells.lookup x=some a))→Q () s')(hf:X.fn x=true∨X.env.scope.names.lookup x=some .local:=by first|exact .inl rfl|exact .inr rfl|assumption):YB zH Q E s:=by
 obtain⟨m,hn,hl⟩:=id I.loc;have lj:(X.env.scope.kind==.class||(X.env.scope.kind==.module&&X.env.locals != X.env.globals))=false:=by rw[I.ok.kind];rfl
 have hiσ:i<σ.length:=by rw[I.len];exact(Cm hi).1
 have cne:=I.cne;have tracked:∀{a:Nc} {h':No},(∃o,s.heap.get? a=some o∧H a=none)→U8 h'→YX H h':=λ{a h'} ha hs b ob e=>by
  obtain⟨_,_,bH⟩:=ha;refine(UX ob e).stay (λc w' hc q=>(hs.2 c ?_).trans q) (λ_ q=>q) λ_ _ q=>q;rintro rfl;rcases hc with rfl|hc
  ·rw[bH]at e;cases e
  rw[bH]at hc;cases hc
 rcases hx with hk|hk
 ·refine wpAny_storeName_local hk hn (λh' rf hs=>?_) lj;obtain⟨oL,_,_,hoL,_⟩:=id hn;refine h _ ⟨I.ok,I.os,I.bare,⟨λb o e n hb hx=>?_,λb o e n hb hx=>?_,I.base.free,λb o e hx=>?_,I.base.tups,I.base.frzs,I.base.tbls⟩,⟨_,rf,λj y v' e1 e2 e3=>?_⟩,λy c e=>?_,I.free,I.freeC,λp hp=>?_,tracked ⟨oL,hoL,I.free⟩ hs,by simpa using I.len⟩ ⟨_,hs,RT⟩
  ·exact(OO (Zi Cv)).trans (UV hx)
  ·obtain⟨sl,e1⟩:=UW hx;exact⟨sl,(OO (Zi Cv)).trans e1⟩
  ·obtain⟨o',e1⟩:=YK hx;exact⟨o',(OO (Zi Cv)).trans e1⟩
  ·by_cases hj:j=i
   ·subst hj;rw[hi]at e1;cases e1;rw[List.getElem?_set_self hiσ]at e2;cases e2;exact⟨u,r,HL ⟨hk,Hb⟩⟩
   rw[List.getElem?_set_ne (Zd hj)]at e2;obtain⟨u',r',q⟩:=hl j y v' e1 e2 e3;refine⟨u',r',?_⟩;rcases q with⟨k,e⟩|⟨k,c,e,z⟩
   ·refine .inl ⟨k,?_⟩;have:y≠x:=λe=>hj (Gj (e▸hi));simp[this,e]
   exact .inr ⟨k,c,e,Ai (cne y c e)⟩
  ·obtain⟨w',z⟩:=I.cell y c e;exact⟨w',Ai (cne y c e)⟩
  obtain⟨e,n,ne,nf,d⟩:=Y6 hp;exact⟨(hs.2 p.1 ne).trans e,n,ne,nf,d⟩
 have v3:X.fn x=true:=by
  rcases hf with z|z
  ·exact z
  rw[z]at hk;cases hk
 obtain⟨c,hc⟩:=I.ok.has x (HL hk);obtain⟨w',z⟩:=U' hc;refine wpAny_storeName_cell I.ok.kind hk hc z (λh' cA hs=>?_);obtain⟨oc,hoc,uy⟩:=id z;refine h {s with heap:=h'} ⟨I.ok,I.os,I.bare,⟨λb o e n hb hx=>?_,λb o e n hb hx=>?_,I.base.free,λb o e hx=>?_,I.base.tups,I.base.frzs,I.base.tbls⟩,⟨m,hn.sameBut hs (Zd (cne x c hc)),λj y v' e1 e2 e3=>?_⟩,λy c' e=>?_,I.free,I.freeC,λp hp=>?_,tracked ⟨oc,hoc,JL hc⟩ hs,by simpa using I.len⟩ ⟨c,hs,SK hc⟩
 ·exact(OO IM).trans (UV hx)
 ·obtain⟨sl,e1⟩:=UW hx;exact⟨sl,(OO IM).trans e1⟩
 ·obtain⟨o',e1⟩:=YK hx;exact⟨o',(OO IM).trans e1⟩
 ·by_cases hj:j=i
  ·subst hj;rw[hi]at e1;cases e1;rw[List.getElem?_set_self hiσ]at e2;cases e2;exact⟨u,r,SK ⟨HL hk,c,hc,cA⟩⟩
  rw[List.getElem?_set_ne (Zd hj)]at e2;obtain⟨u',r',q⟩:=hl j y v' e1 e2 e3;refine⟨u',r',?_⟩;rcases q with q|⟨k,c',e,z'⟩
  ·exact .inl q
  refine .inr ⟨k,c',e,z'.sameBut hs ?_⟩;rintro rfl;exact hj (Gj (I.ok.inj _ _ _ e hc▸hi))
 ·by_cases dI:c'=c
  ·subst dI;exact⟨_,cA⟩
  obtain⟨w2,z2⟩:=I.cell y c' e;exact⟨w2,z2.sameBut hs dI⟩
 obtain⟨e,n,ne,nf,d⟩:=Y6 hp;refine⟨(hs.2 p.1 ?_).trans e,n,ne,nf,d⟩;intro q;rw[q,hoc]at e;have q':oc=p.2:=Qn e;exact d w' (by rw[←q'];exact uy)
def zij{M:Model}{A:Np}{E:Na}{i:Nat}{x:Str}{v:V}{u:Value}{Q:Unit→Shared→Prop}(I:HI)(hN:X.N.Nodup)(hi:X.N[i]?=some x)(hx:UG x)(r:YV u)(h:∀s',ZD IL H s'→Q () s')(hf:X.fn x=true∨X.env.scope.names.lookup x=some .local:=by first|exact .inl rfl|exact .inr rfl|assumption):YB zH Q E s:=
 zep I hN hi hx r (λs' I' _=>h s' I') hf
def Inv.call'{s':Ni}{ch:Nl}(I:HI)(ho:s'.os=s.os)(u:Vh s'.heap)(hok:YX H' s'.heap)(hg:AllBare s'.gens)(gZ:Ri):ZA H' s':=by obtain⟨h',g',d',t',o'⟩:=s';have e:o'=s.os:=ho;subst e;exact I.call (g':=g') (t':=t') (d':=d') u hok hg gZ
abbrev XK:=Value→Option Addr→Hp→Prop
abbrev St:=List (Option V)
abbrev VK:=V→Hp→Prop
abbrev TE:=St→Hp→VK→Prop
abbrev TT:=St→Hp→(Bool→Hp→Prop)→Prop
abbrev TA:=St→Hp→(List V→Hp→Prop)→Prop
structure Ends where
 nx:St→Hp→Prop
 rt:VK
 bk:St→Hp→Prop:=λ_ _=>False
 ct:St→Hp→Prop:=λ_ _=>False
abbrev TS:=Ends→St→Hp→Prop
end
inductive EP(X:Cx)(a7:Nd)(σ:St)(Q:VK)(u:Value)(s':Ni):Prop
 |mk (v:V) (H':Hp) (i:Inv X a7 σ H' s') (r:RelV v u) (q:Q v H'):EP X a7 σ Q u s'
inductive TP(X:Cx)(a7:Nd)(σ:St)(Q:Bool→Hp→Prop)(b:Bool)(s':Ni):Prop
 |mk (H':Hp) (i:Inv X a7 σ H' s') (q:Q b H'):TP X a7 σ Q b s'
inductive AP(X:Cx)(a7:Nd)(σ:St)(Q:List V→Hp→Prop)(us:Nj)(s':Ni):Prop
 |mk (vs:List V) (H':Hp) (i:Inv X a7 σ H' s') (r:Vals vs us) (q:Q vs H'):AP X a7 σ Q us s'
def SP(X:Cx)(a7:Nd)(D:Ends)(f:Flow)(s':Ni):Prop:=
 match f with
 |.next=>Ex2 λ σ' H'=>UI (D.nx σ' H')
 |.brk=>Ex2 λ σ' H'=>UI (D.bk σ' H')
 |.cont=>Ex2 λ σ' H'=>UI (D.ct σ' H')
 |.ret u=>Ex3 λv σ' H'=>Aj3 (ZD σ' H' s') (YV u) (D.rt v H')
def PE(X:Cx)(e:Expr)(t:TE):Prop:=
 ∀(a7:Nd) (s:Ni) (σ:St) (H:Hp) (Q:VK),ZA H s→t σ H Q→ZE IN LJ X.xe s
def PT(X:Cx)(e:Expr)(t:TT):Prop:=
 ∀(a7:Nd) (s:Ni) (σ:St) (H:Hp) (Q:Bool→Hp→Prop),ZA H s→t σ H Q→ZE (isTrue e X.env IN) (V3 Q) X.xe s
def PW(X:Cx)(e:Expr)(t:TT):Prop:=
 ∀(whole:Sem Value) (a7:Nd) (s:Ni) (σ:St) (H:Hp) (Q:Bool→Hp→Prop),ZA H s→t σ H Q→ZE (isTrue e X.env whole) (V3 Q) X.xe s
def PW.pt{X:Cx}{e:Expr}{t:TT}(h:PW X e t):VI e t:=h _
def PA(X:Cx)(es:Nr)(t:TA):Prop:=
 ∀(pos:Pos) (a7:Nd) (s:Ni) (σ:St) (H:Hp) (Q:List V→Hp→Prop),ZA H s→t σ H Q→ZE (spliced (L4 Sl)) (AP X a7 σ Q) X.xe s
def PS(X:Cx)(st:Stmt)(t:TS):Prop:=
 ∀(a7:Nd) (s:Ni) (σ:St) (H:Hp) (D:Ends),ZA H s→t D σ H→ZE (exec st X.env) (JF D) X.xe s
def PSs(X:Cx)(st:List Stmt)(t:TS):Prop:=
 ∀(a7:Nd) (s:Ni) (σ:St) (H:Hp) (D:Ends),ZA H s→t D σ H→ZE (execs st X.env) (JF D) X.xe s
def thn{α:Type}{t:Sem α}{Q Q':α→Shared→Prop}{M:Model}{A:Np}{E:Na}{s:Ni}(h:YB t Q E s)(hQ:∀a s,Q a s→Q' a s):YB t Q' E s:=wpAny_mono h hQ λ_ _ x=>x
section
variable{X:Cx}
def bin{a b:Expr}{ta tb:TE}(ha:LZ)(hb:Iz){a7:Nd}{s:Ni}{σ:St}{H:Hp}{R:V→V→Hp→Prop}(I:HI)(h:ta σ H λx H1=>tb σ H1 λy H2=>R x y H2){α:Type}{Q:α→Shared→Prop}{f:Value→Value→Sem α}(hf:∀v u s2 x y H2,ZA H2 s2→WK v→YC u→R x y H2→ZE A0 Q X.xe s2) :
  wpAny Hk X.A (Rj a) (λv s₁=>ZE (Rj b) (λu s₂=>ZE A0 Q X.xe s₂) X.xe s₁) X.xe s:=by
 refine thn Si λv s1 ⟨x,H1,I1,r1,q1⟩=>?_;refine thn Lv λu s2 ⟨y,H2,I2,r2,q2⟩=>?_;exact hf v u s2 x y H2 I2 r1 r2 q2
inductive RVar(o:Option (Option V))(H:Hp)(Q:VK):Prop
 |mk (v:V) (e:o=some (some v)) (q:Q v H):RVar o H Q
def tVar(i:Nat):TE:=λ σ H Q=>RVar σ[i]? H Q
def tC(v:V):TE:=λ_ H Q=>Q v H
def pe_var{i:Nat}{x:Str}{pos:Pos}(hN:X.N[i]?=some x)(hv:VG x)(hd:Rc=false:=by decide)(ba:(x==("__classdict__" : Str))=false:=by decide):Z7 Es (tVar i):=by
 intro a7 s σ H Q I h;obtain⟨v,e,h⟩:=h;obtain⟨m,hn,hl⟩:=I.loc;obtain⟨u,r,l⟩:=hl i x v hN e hv;have fin:QC Q u s:=⟨v,H,I,r,h⟩;rcases l with⟨hk,hm⟩|⟨hk,c,hc,jz⟩
 ·exact wpAny_Name (wpAny_loadName_local I.ok.kind hk hn hm fin) hd
 rcases hk with hk|hk
 ·exact wpAny_Name (wpAny_loadName_cell I.ok.kind hk hc jz fin) hd
 exact wpAny_Name (wpAny_loadName_free I.ok.kind hk hc jz fin ba) hd
def zai{i j pos}:Z7 (xa OT) (tC OT):=λ_ _ _ H _ I h=>wpAny_Constant_int ⟨OT,H,Sm,⟨_,rfl⟩,h⟩
def pe_bl{b j pos}:Z7 (xa (AH b)) (tC Eg):=λ_ _ _ H _ I h=>Constant_bool ⟨Eg,H,I,rfl,h⟩
def pe_non{j pos}:Z7 (.Constant .none j pos) (tC .non):=λ_ _ _ H _ I h=>Constant_none ⟨.non,H,I,rfl,h⟩
def za8{x j pos}:Z7 (xa CF) (tC CF):=λ_ _ _ H _ I h=>Calls.Constant_str ⟨CF,H,Sm,⟨_,rfl⟩,h⟩
def Gl(X:Cx)(x:Str):Prop:=X.env.kindOf x=some .globalImplicit
def zfj{E:Na}{a7:Nd}{s:Ni}{σ:St}{H:Hp}{x:Str}{u:Value}{pos:Pos}{Q:Na}(I:HI)(hg:Vk x)(hm:X.mg x=some u)(h:Q u s)(hd:Rc=false:=by decide):ZE (Rj Es) Q E s:=
 Calls.Name_function_global I.ok.kind hg (Calls.loadGlobal_global (by rw[I.ok.glob];exact I.mod.glob.keeps I.bk) hm h) hd
def zg7{E:Na}{a7:Nd}{s:Ni}{σ:St}{H:Hp}{x:Str}{u:Value}{pos:Pos}{Q:Na}(I:HI)(hg:Vk x)(hm:X.mg x=none)(hv:bootBuiltins x=some u)(h:Q u s)(hn:x ≠ "__name__" :=by decide)(hd:Rc=false:=by decide):ZE (Rj Es) Q E s:=by obtain⟨mb,h1,h2⟩:=I.mod.blt;exact Calls.Name_function_global I.ok.kind hg (Calls.loadGlobal_builtin (by rw[I.ok.glob];exact I.mod.glob.keeps I.bk) hm (by rw[I.ok.blt];exact h1.keeps I.bk) ((h2 x hn).trans hv) h) hd
def zee{x:Str}{v:V}{u:Value}{pos:Pos}(hg:Vk x)(hm:X.mg x=some u)(r:YV u)(hd:Rc=false:=by decide):Z7 Es (tC v):=
 λ_ _ _ H _ I h=>XC ⟨v,H,I,r,h⟩ hd
variable{a b:Expr}{ta tb:TE}{pos:Pos}
def PC(X:Cx)(op:CmpOp)(a b:Expr)(t:TE):Prop:=
 ∀(a7:Nd) (s:Ni) (σ:St) (H:Hp) (Q:VK),ZA H s→t σ H Q →
  wpAny Hk X.A (Rj a) (λv s₁=>ZE (Rj b) (λu s₂=>ZE (compareOp op v u) LJ X.xe s₂) X.xe s₁) X.xe s
inductive RB(x:V)(H:Hp)(Q:Bool→Hp→Prop):Prop
 |mk (c:Bool) (e:x=.bl c) (q:Q c H):RB x H Q
def tB(t:TE):TT:=λ σ H Q=>t σ H λx H1=>RB x H1 Q
def pt_cmp{op:CmpOp}{t:TE}(h:PC X op a b t)(h1:behindInMarks op b=false:=by first|exact nobehind _ Hg Hg|rfl):VI (.Compare a [op] [b] pos) (tB t):=by intro a7 s σ H Q I hw;refine wpAny_isTrue_Compare1 (thn (CB _ hw) λv s1 h1=>thn h1 λu s2 h2=>thn h2 λc s3 ⟨x,H1,I1,r1,q1⟩=>?_) h1;obtain⟨d,rfl,q⟩:=q1;cases r1;exact wpAny_truthy_bool ⟨H1,I1,q⟩
def zdp{e:Expr}{t:TE}(h:Z7 e t)(he:∀whole,isTrue e X.env whole=(do let v ←whole;standAt e.pos;holding [v] PU):=by intro _;rfl):VI e (tB t):=by
 intro a7 s σ H Q I hw;refine isTrue_plain (thn (CB _ hw) λv s1 ⟨x,H1,I1,r1,q1⟩=>?_) (he _);obtain⟨d,rfl,q⟩:=q1;cases r1;exact wpAny_truthy_bool ⟨H1,I1,q⟩
variable{tA qv:TT}{rest:Nr}
def tAnd(t u:TT):TT:=λ σ H Q=>t σ H λc H1=>if c=true then u σ H1 Q else Q false H1
def tOr(t u:TT):TT:=λ σ H Q=>t σ H λc H1=>if c=true then Q true H1 else u σ H1 Q
def tNot(t:TT):TT:=λ σ H Q=>t σ H λc H1=>Q (!c) H1
def zi3(ha:yJ):PW X (.BoolOp .And [a] pos) tA:=by
 intro wh a7 s σ H Q I h;refine isTrue_and (thn zW λc s1 e=>?_);cases c with
 |true=>exact isTrue_and_nil e
 |false=>exact e
def zgl(ha:yJ):PW X (.BoolOp .Or [a] pos) tA:=by
 intro wh a7 s σ H Q I h;refine isTrue_or (thn zW λc s1 e=>?_);cases c with
 |false=>exact isTrue_or_nil e
 |true=>exact e
def pw_and(ha:yJ)(hb:PW X (.BoolOp .And (b::rest) pos) qv):PW X (.BoolOp .And (a::b::rest) pos) (tAnd tA qv):=by
 intro wh a7 s σ H Q I h;refine isTrue_and (thn Si λc s1 ⟨H1,I1,q1⟩=>?_);cases c with
 |true=>exact hb wh a7 s1 σ H1 Q I1 q1
 |false=>exact⟨H1,I1,q1⟩
def zi2(ha:yJ)(hb:PW X (.BoolOp .Or (b::rest) pos) qv):PW X (.BoolOp .Or (a::b::rest) pos) (tOr tA qv):=by
 intro wh a7 s σ H Q I h;refine isTrue_or (thn Si λc s1 ⟨H1,I1,q1⟩=>?_);cases c with
 |true=>exact⟨H1,I1,q1⟩
 |false=>exact hb wh a7 s1 σ H1 Q I1 q1
def zdq(ha:yJ):VI zI (tNot tA):=by intro a7 s σ H Q I h;exact isTrue_not (wpAny_mono (ha a7 s σ H (λc H1=>Q (!c) H1) I h) (λc s2 z=>by obtain⟨a,b,d⟩:=z;exact⟨a,b,d⟩) λ_ _ e=>e)
def tAndV(ta tb:TE):TE:=λ σ H Q=>ta σ H λx H1=>RB x H1 λc H1=>if c=true then tb σ H1 Q else Q S9 H1
def tNotV(ta:TE):TE:=λ σ H Q=>ta σ H λx H1=>∃c,x=.bl c∧Q (.bl (!c)) H1
def pe_one{op}{t:TE}(h:Z7 a t):Z7 (.BoolOp op [a] pos) t:=λa7 s σ H Q I hw=>BoolOp_one (CB Q hw)
def pe_and(ha:LZ)(hb:Z7 (.BoolOp .And (b::rest) pos) tb):Z7 (.BoolOp .And (a::b::rest) pos) (tAndV ta tb):=by
 intro a7 s σ H Q I h;refine BoolOp_and (thn Si λv s1 ⟨x,H1,I1,r1,q1⟩=>?_);obtain⟨c,rfl,q1⟩:=q1;cases r1;refine wpAny_truthy_bool ?_;cases c with
 |true=>exact hb a7 s1 σ H1 Q I1 q1
 |false=>exact⟨S9,H1,I1,rfl,q1⟩
def pe_not(ha:LZ):Z7 zI (tNotV ta):=by intro a7 s σ H Q I h;refine UnaryOp_ (thn Si λv s1 ⟨x,H1,I1,r1,q1⟩=>?_);obtain⟨c,rfl,q1⟩:=q1;cases r1;exact not_of (wpAny_truthy_bool ⟨.bl (!c),H1,I1,rfl,q1⟩)
def tIf(t:TT)(ta tb:TE):TE:=λ σ H Q=>t σ H λc H1=>if c=true then ta σ H1 Q else tb σ H1 Q
def pe_ifExp{c:Expr}(hc:VI c tA)(ha:LZ)(hb:Iz):Z7 (.IfExp c a b pos) (tIf tA ta tb):=by
 intro a7 s σ H Q I h;refine wpAny_IfExp (thn zZ λd s1 ⟨H1,I1,q1⟩=>?_);cases d with
 |true=>exact ha a7 s1 σ H1 Q I1 q1
 |false=>exact hb a7 s1 σ H1 Q I1 q1
def SqL(K:Nb)(H:Hp)(a:Nc)(xs:List V):Prop:=
 Rd H a LC ∨
  ∃(o:Obj) (a8:Array Value) (n:Nat),K.lookup a=some o∧o.cls=.type "list" ∧ o.dict=none∧o.data=.seq a8 n∧a8.size≤sizeLine∧Q5 a8.toList
def SqT(K:Nb)(H:Hp)(a:Nc)(xs:List V):Prop:=
 Rd H a SV ∨
  ∃(o:Obj) (a8:Array Value) (n:Nat),K.lookup a=some o∧o.cls=.type "tuple" ∧ o.data=.seq a8 n∧a8.size≤sizeLine∧Q5 a8.toList
end
def absV:Value→Option V
 |.none=>some .non
 |.bool b=>some Eg
 |.int i _=>some OT
 |.str x _=>some CF
 |.bytes b _=>some (.byt b)
 |.float b _=>some (.flt b)
 |.ref a=>some Rm
 |.type n=>some (.ty n)
 |_=>none
def RelV.abs{x:V}{u:Value}(r:WK u):absV u=some x:=by
 cases x with
 |non=>cases r;rfl
 |bl _=>cases r;rfl
 |int _=>obtain⟨t,rfl⟩:=r;rfl
 |str _=>obtain⟨t,rfl⟩:=r;rfl
 |byt _=>obtain⟨t,rfl⟩:=r;rfl
 |flt _=>obtain⟨t,rfl⟩:=r;rfl
 |ref _=>cases r;rfl
 |ty _=>cases r;rfl
def RelV.inj{x y:V}{u:Value}(r:WK u)(q:YC u):x=y:=Qn (r.abs.symm.trans q.abs)
theorem Vals.inj:∀{xs ys:List V} {us:Nj},Q5 us→YU us→xs=ys
 |_,_,_,.nil,.nil=>rfl
 |_,_,_,.cons r t,.cons r' t'=>by rw[r.inj r',Vals.inj t t']
section
variable{X:Cx}{a7:Nd}{σ:St}{H:Hp}{s:Ni}{a:Nc}{xs ys:List V}
def SqL.of{K:Nb}(h:RU a LC):WU a xs:=.inl PV
def SqT.of{K:Nb}(h:Cj (.tup xs)):JA xs:=.inl PV
def Inv.list(I:HI)(h:QT a xs):∃a8:List Value,Q5 a8∧PlainL s.heap a a8.toArray∧xs.length≤sizeLine:=by
 rcases h with h|⟨o,a8,n,hk,hc,hd,hs,hz,r⟩
 ·obtain⟨z,a8,n,r,e⟩:=h.ok I.hok;exact⟨a8,r,⟨_,n,e,rfl,rfl,rfl⟩,z⟩
 refine⟨a8.toList,r,⟨o,n,I.kIn a o hk,hc,hd,Hd hs⟩,?_⟩;have e:=r.length;simp only[Zy]at e;lia
def Inv.tuple(I:HI)(h:Vl a xs):∃a8:List Value,Q5 a8∧KZ a a8.toArray∧xs.length≤sizeLine:=by
 rcases h with h|⟨o,a8,n,hk,hc,hs,hz,r⟩
 ·obtain⟨z,a8,r,p⟩:=h.ok I.hok;exact⟨a8,r,p,z⟩
 refine⟨a8.toList,r,⟨o,I.kIn a o hk,hc,n,Hd hs⟩,?_⟩;have e:=r.length;simp only[Zy]at e;lia
def Inv.list_inj(I:HI)(h:QT a xs)(h':QT a ys):xs=ys:=by
 obtain⟨a8,r,⟨o,n,e,_,_,d⟩,_⟩:=I.list h;obtain⟨its',r',⟨o',n',e',_,_,d'⟩,_⟩:=I.list h';rw[e]at e';cases e';rw[d]at d';injection d' with d1 _;have:a8=its':=by simpa using congrArg Array.toList d1
 subst this;exact r.inj r'
def Inv.tuple_inj(I:HI)(h:Vl a xs)(h':Vl a ys):xs=ys:=by
 obtain⟨a8,r,⟨o,e,_,n,d⟩,_⟩:=I.tuple h;obtain⟨its',r',⟨o',e',_,n',d'⟩,_⟩:=I.tuple h';rw[e]at e';cases e';rw[d]at d';injection d' with d1 _;have:a8=its':=by simpa using congrArg Array.toList d1
 subst this;exact r.inj r'
end
abbrev Cx.wish(X:Cx)(E:Na):Cx:={X with xe:=E}
abbrev Cx.nox(X:Cx):Cx:=X.wish λ_ _=>False
def Cx.Ok.wish{X:Cx}(ok:X.Ok)(E:Na):(X.wish E).Ok:=
 ⟨ok.mod,ok.kind,ok.glob,ok.blt,ok.above,ok.inj,ok.has,ok.cab,ok.hd,ok.frames,ok.stk,ok.exf,ok.bs,ok.bsz,ok.noex,ok.exfs,ok.funs,ok.frf⟩
def Cx.Ok.unwish{X:Cx}{E:Na}(ok:(X.wish E).Ok):X.Ok:=
 ⟨ok.mod,ok.kind,ok.glob,ok.blt,ok.above,ok.inj,ok.has,ok.cab,ok.hd,ok.frames,ok.stk,ok.exf,ok.bs,ok.bsz,ok.noex,ok.exfs,ok.funs,ok.frf⟩
section
variable{X:Cx}{a7:Nd}{σ:St}{H:Hp}{s:Ni}{E:Na}
def Inv.wish(I:HI)(E:Na):ND s:=⟨I.ok.wish E,I.os,I.bare,I.base,I.loc,I.cell,I.free,I.freeC,I.pin,I.hok,I.len⟩
def Inv.unwish(I:ND s):ZA H s:=⟨I.ok.unwish,I.os,I.bare,I.base,I.loc,I.cell,I.free,I.freeC,I.pin,I.hok,I.len⟩
def SP.unwish{D:Ends}{f:Flow}{s':Ni}(h:SP (X.wish E) a7 D f s'):JF D f s':=by
 cases f with
 |next=>obtain⟨σ',H',I,q⟩:=h;exact⟨σ',H',I.unwish,q⟩
 |brk=>obtain⟨σ',H',I,q⟩:=h;exact⟨σ',H',I.unwish,q⟩
 |cont=>obtain⟨σ',H',I,q⟩:=h;exact⟨σ',H',I.unwish,q⟩
 |ret u=>obtain⟨v,σ',H',I,r,q⟩:=h;exact⟨v,σ',H',I.unwish,r,q⟩
def PSs.nox{st:List Stmt}{t:TS}(h:PSs X.nox st t):V4 st t:=λa7 s σ H D I hw=>wpAny_mono (h a7 s σ H D (I.wish _) hw) (λ_ _ q=>q.unwish) λ_ _ z=>False.elim z
variable{st:Stmt}{rest:List Stmt}{t u:TS}{e:Expr}{te:TE}{pos:Pos}
def tNext:TS:=λD σ H=>W8 H
def tSeq(t u:TS):TS:=λD σ H=>t {D with nx:=u D} σ H
def zas:V4 [] tNext:=λ_ _ σ H _ I h=>wpAny_execs_nil ⟨σ,H,I,h⟩
def zae(h1:K0 st t)(h2:V4 rest u):V4 (st::rest) (tSeq t u):=by
 intro a7 s σ H D I h;refine wpAny_execs_cons (thn (h1 a7 s σ H {D with nx:=u D} I h) λf s1 q=>?_);cases f with
 |next=>obtain⟨σ',H',I',q⟩:=q;exact h2 a7 s1 σ' H' D I' q
 |ret v=>exact q
 |brk=>exact q
 |cont=>exact q
def zag(h1:K0 st t):V4 [st] t:=by
 intro a7 s σ H D I h;refine wpAny_execs_cons (thn (h1 a7 s σ H D I h) λf s1 q=>?_);cases f with
 |next=>exact wpAny_execs_nil q
 |ret v=>exact q
 |brk=>exact q
 |cont=>exact q
def Inv.quiet{a7:Nd}{σ:St}{H:Hp}{s:Ni}(I:HI):interactive X.env=false:=by simp[interactive,I.ok.kind]
def tDrop(te:TE):TS:=λD σ H=>te σ H λ_ H1=>W8 H1
def za5(he:CU)(hs:swapsWith e none pos.line X.env=pure false:=by rfl):K0 (.Expr e pos) (tDrop te):=by intro a7 s σ H D I h;exact wpAny_Expr_any (thn So λv s1 ⟨x,H1,I1,r1,q1⟩=>⟨σ,H1,I1,q1⟩) I.quiet hs
def tRet(te:TE):TS:=λD σ H=>te σ H D.rt
def zaz(he:CU):K0 (.Return (RH e) pos) (tRet te):=by intro a7 s σ H D I h;exact wpAny_Return_some (thn So λv s1 ⟨x,H1,I1,r1,q1⟩=>⟨x,σ,H1,I1,r1,q1⟩)
def tRetN:TS:=λD _ H=>D.rt .non H
def ps_retN:K0 (.Return none pos) tRetN:=λ_ _ σ H _ I h=>wpAny_Return_none ⟨.non,σ,H,I,rfl,h⟩
def tIfS(c:TT)(t u:TS):TS:=λD σ H=>c σ H λb H1=>if b=true then t D σ H1 else u D σ H1
def zbu{c:Expr}{a b:List Stmt}{tc:TT}(hc:VI c tc)(ha:V4 a t)(hb:V4 b u):K0 (.If c a b pos) (tIfS tc t u):=by
 intro a7 s σ H D I h;refine wpAny_If (thn zZ λd s1 ⟨H1,I1,q1⟩=>?_);cases d with
 |true=>exact ha a7 s1 σ H1 D I1 q1
 |false=>exact hb a7 s1 σ H1 D I1 q1
abbrev TG:=V→St→Hp→(St→Hp→Prop)→Prop
abbrev TGs:=List V→St→Hp→(St→Hp→Prop)→Prop
def PG(X:Cx)(target:Expr)(t:TG):Prop:=
 ∀(a7:Nd) (s:Ni) (σ:St) (H:Hp) (v:V) (u:Value) (Q:St→Hp→Prop),ZA H s→YV u→t v σ H Q →
  wpAny Hk X.A (assign target X.env u) (λ_ s'=>Ex2 λ σ' H'=>UI (Q σ' H')) X.xe s
def PGs(X:Cx)(ts:Nr)(t:TGs):Prop:=
 ∀(a7:Nd) (s:Ni) (σ:St) (H:Hp) (vs:List V) (us:Nj) (Q:St→Hp→Prop),ZA H s→VP us→t vs σ H Q →
  wpAny Hk X.A (assignInOrder ((Tt ts).map (·.2)) us) (λ_ s'=>Ex2 λ σ' H'=>UI (Q σ' H')) X.xe s
abbrev TSet:=V→V→V→Hp→(Hp→Prop)→Prop
def PSet(X:Cx)(t:TSet):Prop:=
 ∀(a7:Nd) (s:Ni) (σ:St) (H:Hp) (o i v:V) (ov iv u:Value) (Q:Hp→Prop),ZA H s→RelV o ov→RelV i iv→YV u→t o i v H Q →
  wpAny Hk X.A (setItem ov iv u) (λ_ s'=>∃H',ZA H' s'∧Q H') X.xe s
def gName(i:Nat):TG:=λv σ H Q=>Q IL H
def pg_name{i:Nat}{x:Str}(hN:X.N.Nodup)(hi:X.N[i]?=some x)(hx:UG x)(hf:X.fn x=true∨X.env.scope.names.lookup x=some .local:=by first|exact .inl rfl|exact .inr rfl|assumption):D6 Ei:=by intro a7 s σ H v u Q I r h;exact wpAny_assign_Name (zij I hN hi hx r (λs' I'=>⟨_,H,I',h⟩) hf)
def gNil:TGs:=λvs σ H Q=>vs=[]∧Q σ H
end
section
variable{X:Cx}{pos:Pos}
inductive RGC(vs:List V)(R:V→List V→Prop):Prop
 |mk (v:V) (r:List V) (e:vs=v::r) (q:R v r):RGC vs R
def gCons(t:TG)(u:TGs):TGs:=λvs σ H Q=>RGC vs λv r=>t v σ H λ σ' H'=>u r σ' H' Q
def zdf:PGs X [] gNil:=by intro a7 s σ H vs us Q I r h;obtain⟨e,h⟩:=h;subst e;cases r;exact assignInOrder_nil ⟨σ,H,I,h⟩
def zbe{e:Expr}{es:Nr}{t:TG}{u:TGs}(h1:PG X e t)(h2:Dg u)(hs:(assignEach (e::es) X.env).map (·.2)=assign e X.env::(Tt es).map (·.2):=by rfl):PGs X (e::es) (gCons t u):=by
 intro a7 s σ H vs us Q I r h;obtain⟨v,vr,e1,h⟩:=h;subst e1;cases r with
 |cons r rr=>rw[hs];refine assignInOrder_cons (thn (h1 a7 s σ H _ _ _ I r h) λ_ s1 ⟨σ1,H1,I1,q1⟩=>?_);exact h2 a7 s1 σ1 H1 _ _ Q I1 rr q1
inductive RGT(K:Nb)(n:Nat)(v:V)(H:Hp)(R:List V→Prop):Prop
 |mk (a:Nc) (xs:List V) (e:v=.ref a) (s:SqT K H a xs) (l:xs.length=n) (q:R xs):RGT K n v H R
def gTup(K:Nb)(n:Nat)(t:TGs):TG:=λv σ H Q=>RGT K n v H λxs=>t xs σ H Q
def pg_tup{es:Nr}{k:Nat}{t:TGs}{n:Nat}(hc:X.calm=true)(h:Dg t)(hn:(Tt es).length=n:=by rfl)(av:(Tt es).findIdx? (·.1)=none:=by rfl):BL (gTup X.K n t):=by intro a7 s σ H v u Q I r hw;obtain⟨a,xs,e1,hq,hl,hw⟩:=hw;subst e1;cases r;obtain⟨a8,rv,ht,hz⟩:=I.tuple hq;refine assign_Tuple_tuple SO ht (by simp[hn,←hl,rv.length]) av λh' hx=>?_;have I1:ZA H {s with heap:=h'}:=I.kept (t':=s.toks) λb o e=>hx b o Cw e;exact h a7 _ σ H xs _ Q I1 (Hd rv) hw
def gSub(to ti:TE)(t:TSet):TG:=λv σ H Q=>to σ H λo H1=>ti σ H1 λi H2=>t o i v H2 λH3=>Q σ H3
def pg_sub{o i:Expr}{to ti:TE}{t:TSet}(ho:Z7 o to)(hi:Z7 i ti)(hs:PSet X t)(ha:∀ v,assign z0 X.env v=(do
   let ov ←holding [v] (Rj o);let iv ←holding [v,ov] (Rj i)
   standAt pos
   holding [v,ov,iv] (setItem ov iv v)
   release [v,ov,iv] []):=by intro _;rfl):PG X z0 (gSub to ti t):=by
 intro a7 s σ H v u Q I r h;rw[ha];refine wpAny_bind (wpAny_holding (thn Tu λov s1 ⟨x,H1,I1,r1,q1⟩=>?_));refine wpAny_bind (wpAny_holding (thn Ap λiv s2 ⟨y,H2,I2,r2,q2⟩=>?_));refine wpAny_bind (wpAny_standAt (wpAny_bind (wpAny_holding (thn (hs a7 s2 σ H2 x y v ov iv u _ I2 r1 r2 r q2) λ_ s3 ⟨H3,I3,q3⟩=>?_))));exact wpAny_release ⟨σ,H3,I3,q3⟩
def tAsg(te:TE)(g:TG):TS:=λD σ H=>te σ H λx H1=>g x σ H1 D.nx
def ps_asg{tg e:Expr}{te:TE}{g:TG}(he:CU)(hg:PG X tg g)(hs:swapsWithSole [tg] e pos.line X.env=pure false:=by rfl)(hw:swappedStores [tg] e X.env=pure none:=by rfl)(h1:(assignEach [tg] X.env).map (·.2)=[assign tg X.env]:=by rfl):K0 (.Assign [tg] e pos) (tAsg te g):=by intro a7 s σ H D I h;refine wpAny_Assign_stores (thn So λv s1 ⟨x,H1,I1,r1,q1⟩=>?_) hs hw;rw[h1];exact thn (hg a7 s1 σ H1 x v _ I1 r1 q1) λ_ s2 q=>q
def ps_set{i:Nat}{x:Str}{e:Expr}{te:TE}{bi:Pos}(hN:X.N.Nodup)(hi:X.N[i]?=some x)(hx:UG x)(he:CU)(hs:swapsWith e (RH yS) pos.line X.env=pure false:=by rfl)(hf:X.fn x=true∨X.env.scope.names.lookup x=some .local:=by first|exact .inl rfl|exact .inr rfl|assumption) :
  PS X (.Assign [yS] e pos) (tAsg te Ei):=by
 intro a7 s σ H D I h;refine wpAny_Assign_Name (thn So λv s1 ⟨y,H1,I1,r1,q1⟩=>?_) hs;exact zij I1 hN hi hx r1 (λs2 I2=>⟨_,H1,I2,q1⟩) hf
def tWhile(c:TT)(tb:TS):TS:=λD σ H=>∃W:Nat→St→Hp→Prop,(∃m,W m σ H)∧∀m σ H,W m σ H →
 c σ H λb H1=>if b=true then ∃N:St→Hp→Prop,(∀σ' H',N σ' H'→∃m',m'<m∧W m' σ' H')∧tb {D with nx:=N,ct:=N,bk:=D.nx} σ H1 else W8 H1
def zez{c:Expr}{body:List Stmt}{tc:TT}{tb:TS}(hp:XD X.xe)(hc:VI c tc)(hb:V4 body tb):K0 (.While c body [] pos) (tWhile tc tb):=by
 intro a7 s σ H D I h;obtain⟨W,⟨m0,w0⟩,turn⟩:=h;refine wpAny_While (codeAny_whileLoop (λn s'=>∃σ' H',ZD σ' H' s'∧W n σ' H') ?_ m0 ⟨σ,H,I,w0⟩);rintro n s1 ⟨σ1,H1,I1,w1⟩;refine WR (thn (hc a7 s1 σ1 H1 _ I1 (turn n σ1 H1 w1)) λb s2 ⟨H2,I2,q2⟩=>?_);cases b with
 |true=>
  obtain⟨N,hN,q2⟩:=q2;rw[if_pos rfl];refine WR (thn (hb a7 s2 σ1 H2 _ I2 q2) λf s3 q3=>?_);cases f with
  |next=>obtain⟨σ3,H3,I3,n3⟩:=q3;obtain⟨m',hm,w3⟩:=hN σ3 H3 n3;exact⟨m',hm,σ3,H3,I3,w3⟩
  |cont=>obtain⟨σ3,H3,I3,n3⟩:=q3;obtain⟨m',hm,w3⟩:=hN σ3 H3 n3;exact⟨m',hm,σ3,H3,I3,w3⟩
  |brk=>exact q3
  |ret v=>exact q3
 |false=>rw[if_neg Zj];exact wpAny_execs_nil ⟨σ1,H2,I2,q2⟩
structure It where
 go:Nat→Hp→Prop
 yld:Nat→Hp→V→Hp→Prop
 stop:Nat→Hp→Prop
def FpOk(X:Cx)(a7:Nd)(H:Hp)(b:Nc):Prop:=
 H b=none∧b≠X.env.locals∧b∉X.fs∧(b∈X.ex∨X.s₀.heap.objs.size≤b)∧(∀x c,X.env.cells.lookup x=some c→c≠b)∧∀p∈X.pn++a7,p.1≠b
def Inv.fpOk{X:Cx}{a7:Nd}{σ:St}{H H':Hp}{s:Ni}{b:Nc}(I:HI)(hb:s.heap.objs.size≤b)(hn:H' b=none):FpOk X a7 H' b:=by
 refine⟨hn,Yo (Zx I.lt hb),I.nofs hb,SK (Zn I.sz hb),λx c e z=>?_,λp hp z=>?_⟩
 ·obtain⟨v,q⟩:=U' e;exact absurd (Zx q.lt (Hm z hb)) OS
 exact absurd (Zx (Qu (Y6 hp).1) (Hm z hb)) OS
end
structure Turn(P:Nk)(w:Nn)(K:Nb)(tg:Expr)(J:It)(fp:Nl)(it:Nc)(tn:Nat→Heap→Prop):Prop where
 mem:it∈fp
 obj:∀i h,tn i h→∀b∈fp,∃o,h.get? b=some o∧∀v,o.data≠.cell v
 keep:∀i h h',tn i h→(∀b∈fp,∀o,h.get? b=some o→h'.get? b=some o)→tn i h'
 item:∀(X:Cx),X.prog=P→X.w=w→X.K=K→X.calm=true→∀(i:Nat) (a7:Nd) (s:Ni) (σ:St) (H:Hp) (E:Na),ZA H s→(∀b∈fp,QK b)→tn i s.heap→D7 H →
  wpAny TK X.A CY (λr s1=>∃u,r=some u ∧
   wpAny TK X.A CV (λ_ s2=>∃x H',ZA H' s2∧WK u∧XE H'∧tn HY s2.heap∧∀b∈fp,H' b=none) E s1) E s
 done:∀(X:Cx),X.prog=P→X.w=w→X.K=K→X.calm=true→∀(i:Nat) (a7:Nd) (s:Ni) (σ:St) (H:Hp) (E:Na),ZA H s→(∀b∈fp,QK b)→tn i s.heap→V5 H →
  wpAny TK X.A CY (λr s1=>r=none∧ZA H s1) E s
 self:∀(A:Np) (i:Nat) (s:Ni) (Q:Na) (E:Na),tn i s.heap→Q SW s→BM s
abbrev TI:=St→Hp→(It→Hp→Prop)→Prop
inductive PIE(X:Cx)(a7:Nd)(σ:St)(tg:Expr)(R:It→Hp→Prop)(itv:Value)(s2:Ni):Prop
 |mk (it:Nc) (fp:Nl) (tn:Nat→Heap→Prop) (J:It) (H':Hp) (h0:itv=.ref it) (h1:Inv X a7 σ H' s2) (h2:Turn X.prog X.w X.K tg J fp it tn) (h3:tn 0 s2.heap) (h4:(∀b∈fp,FpOk X a7 H' b)) (h5:R J H'):PIE X a7 σ tg R itv s2
def PI(X:Cx)(tg iter:Expr)(wi:TI):Prop:=
 ∀(a7:Nd) (s:Ni) (σ:St) (H:Hp) (R:It→Hp→Prop),ZA H s→wi σ H R →
  wpAny Hk X.A LK (λv s1=>ZE (pyIter v) (PIE X a7 σ tg R) X.xe s1) X.xe s
def go_of{M:Model}{A:Np}{E:Na}{s:Ni}{tg:Expr}{it:Nc}{u:Value}{o:Obj}{n:String}{vs:Array Value}{Q:Unit→Shared→Prop}(ho:s.heap.get? it=some o)(hc:o.cls=.type n)(hd:o.data=.fields vs)(hn:["enumerate", "zip", "dict_itemiterator", "dict_reverseitemiterator", "odict_iterator", "itertools.zip_longest", "itertools.pairwise"].contains n=false)(hQ:Q () s):YB CV Q E s:=by
 unfold letOwnedTupleGo;cases tg <;> first
  |exact wpAny_pure hQ
  | (cases u <;> first
    |exact wpAny_pure hQ
    | (refine wpAny_bind (wpAny_load ho ?_)
       rw[hc,hd];show YB (if(["enumerate", "zip", "dict_itemiterator", "dict_reverseitemiterator", "odict_iterator", "itertools.zip_longest", "itertools.pairwise"].contains n&&vs[0]?==some (CG _))=true then _ else _) Q E s;rw[if_neg (by intro h;rw[hn,Bool.false_and]at h;cases h)];exact wpAny_pure hQ))
def Itl(K:Nb)(a:Nc):It:=
 ⟨λi H=>∃xs x,WU a xs∧xs[i]?=some x,λi H x H'=>H'=H∧∀xs,WU a xs→xs[i]?=some x,λi H=>∃xs,WU a xs∧xs.length≤i⟩
def Itt(K:Nb)(a:Nc):It:=
 ⟨λi H=>∃xs x,JA xs∧xs[i]?=some x,λi H x H'=>H'=H∧∀xs,JA xs→xs[i]?=some x,λi H=>∃xs,JA xs∧xs.length≤i⟩
def Itr(lo:Int)(n:Nat):It:=⟨λi _=>i<n,λi H x H'=>H'=H∧x=.int (lo+i),λi _=>n≤i⟩
theorem zeo{P:Nk}{w:Nn}{K:Nb}{tg:Expr}(a it:Nc):X2 (BZ a) [it] it (λi h=>h.IsListIter it a i) where
 mem:=by simp
 obj:=λi h st b hb=>by
  have e:b=it:=by simpa using hb
  subst e;obtain⟨o,e,c,d⟩:=st;exact⟨o,e,λv z=>by rw[d]at z;cases z⟩
 keep:=λi h h' st k=>st.at λo e=>k it Hb o e
 item:=by intro X hP hw hK hc i a7 s σ H E I hf st hg;subst hP hw hK;obtain⟨xs,x,hq,hx⟩:=hg;obtain⟨a8,rv,p,hz⟩:=I.list hq;obtain⟨u,hu,ru⟩:=rv.get hx;obtain⟨f0,f1,f2,f3,f4,f5⟩:=hf it Hb;refine Bn p.isList (x:=u) (Hd hu) λh' aa sb=>?_;have I1:ZA H {s with heap:=h'}:=I.turned (t':=s.toks) (λb o hb e=>(Oy hb).trans e) f0 f1 f3 f4 f5;obtain⟨o,e,c,d⟩:=id aa;exact⟨u,rfl,go_of (s:={s with heap:=h'}) e c d Hg ⟨x,H,I1,ru,⟨rfl,λys hy=>by rw[I.list_inj hy hq];exact hx⟩,aa,λb hb=>(hf b hb).1⟩⟩
 done:=by intro X hP hw hK hc i a7 s σ H E I hf st hg;subst hP hw hK;obtain⟨xs,hq,hx⟩:=hg;obtain⟨a8,rv,p,hz⟩:=I.list hq;obtain⟨f0,f1,f2,f3,f4,f5⟩:=hf it Hb;have hl:=rv.length;exact wpAny_pyNext_list_end SO st p.isList (by simp;exact zd9 ‹_› ‹_›) λh' eb=>⟨rfl,I.turned (t':=s.toks) (λb o hb e=>eb b o hb e) f0 f1 f3 f4 f5⟩
 self:=λ_ _ _ _ _ st h=>wpAny_pyIter_listiter st h
theorem turn_tuple{P:Nk}{w:Nn}{K:Nb}{tg:Expr}(a it:Nc):X2 (Fz a) [it] it (λi h=>h.IsTupleIter it a i) where
 mem:=by simp
 obj:=λi h st b hb=>by
  have e:b=it:=by simpa using hb
  subst e;obtain⟨o,e,c,d⟩:=st;exact⟨o,e,λv z=>by rw[d]at z;cases z⟩
 keep:=λi h h' st k=>st.at λo e=>k it Hb o e
 item:=by intro X hP hw hK hc i a7 s σ H E I hf st hg;subst hP hw hK;obtain⟨xs,x,hq,hx⟩:=hg;obtain⟨a8,rv,p,hz⟩:=I.tuple hq;obtain⟨u,hu,ru⟩:=rv.get hx;obtain⟨f0,f1,f2,f3,f4,f5⟩:=hf it Hb;refine wpAny_pyNext_tuple_item st (show s.heap.IsTuple a a8.toArray from p) (x:=u) (Hd hu) λh' aa sb=>?_;have I1:ZA H {s with heap:=h'}:=I.turned (t':=s.toks) (λb o hb e=>(Oy hb).trans e) f0 f1 f3 f4 f5;obtain⟨o,e,c,d⟩:=id aa;exact⟨u,rfl,go_of (s:={s with heap:=h'}) e c d Hg ⟨x,H,I1,ru,⟨rfl,λys hy=>by rw[I.tuple_inj hy hq];exact hx⟩,aa,λb hb=>(hf b hb).1⟩⟩
 done:=by intro X hP hw hK hc i a7 s σ H E I hf st hg;subst hP hw hK;obtain⟨xs,hq,hx⟩:=hg;obtain⟨a8,rv,p,hz⟩:=I.tuple hq;obtain⟨f0,f1,f2,f3,f4,f5⟩:=hf it Hb;have hl:=rv.length;exact wpAny_pyNext_tuple_end SO st (show s.heap.IsTuple a a8.toArray from p) (by simp;exact zd9 ‹_› ‹_›) λh' eb=>⟨rfl,I.turned (t':=s.toks) (λb o hb e=>eb b o hb e) f0 f1 f3 f4 f5⟩
 self:=λ_ _ _ _ _ st h=>wpAny_pyIter_tupleiter st h
theorem turn_range{P:Nk}{w:Nn}{K:Nb}{tg:Expr}(it:Nc)(lo:Int)(n:Nat):X2 (D8 n) [it] it (λi h=>IsRangeIter h it (lo+(i:Nat)*1) ((n:Int)-(i:Nat)) 1) where
 mem:=by simp
 obj:=λi h st b hb=>by
  have e:b=it:=by simpa using hb
  subst e;exact⟨_,st,λv z=>by have z':Data.fields _=Data.cell v:=z;cases z'⟩
 keep:=λi h h' st k=>k it Hb _ st
 item:=by intro X hP hw hK hc i a7 s σ H E I hf st hg;subst hP hw hK;obtain⟨f0,f1,f2,f3,f4,f5⟩:=hf it Hb;have W:=Walks.range (prog:=X.prog) (w:=X.w) SO it lo 1 n;refine W.item i s _ _ hg st λv h' tk hv aa kk=>?_;obtain⟨t,rfl⟩:=hv;have I1:ZA H {s with heap:=h',toks:=tk}:=I.turned (λb o hb e=>kk b o (Hd hb) e) f0 f1 f3 f4 f5;refine⟨xf,go_of (s:={s with heap:=h',toks:=tk}) (n:= "range_iterator") aa rfl rfl Hg ⟨SX (lo+i),H,I1,⟨t,?_⟩,⟨rfl,rfl⟩,aa,λb hb=>(hf b hb).1⟩⟩;rw[Int.mul_one]
 done:=by intro X hP hw hK hc i a7 s σ H E I hf st hg;subst hP hw hK;obtain⟨f0,f1,f2,f3,f4,f5⟩:=hf it Hb;exact wpAny_pyNext_range_end SO st (by have:n≤i:=hg;lia) λh' eb=>⟨rfl,I.turned (t':=s.toks) (λb o hb e=>eb b o hb e) f0 f1 f3 f4 f5⟩
 self:=λ_ _ _ _ _ st h=>wpAny_pyIter_rangeiter st h
section
variable{X:Cx}{tg:Expr}
inductive RI1(x:V)(S R:Addr→Prop):Prop
 |mk (a:Nc) (e:x=.ref a) (s:S a) (q:R a):RI1 x S R
def iList(K:Nb)(tl:TE):TI:=λ σ H R=>tl σ H λx H1=>RI1 x (λa=>∃xs,Dh a xs) λa=>R (BZ a) H1
def iTup(K:Nb)(tl:TE):TI:=λ σ H R=>tl σ H λx H1=>RI1 x (λa=>∃xs,SqT K H1 a xs) λa=>R (Fz a) H1
def za6{l:Expr}{tl:TE}(hl:O5):JG l (iList X.K tl):=by
 intro a7 s σ H R I h;refine thn Lc λv s1 ⟨x,H1,I1,r1,q1⟩=>?_;obtain⟨a,e,⟨xs,hq⟩,q⟩:=q1;subst e;cases r1;obtain⟨a8,rv,p,hz⟩:=I1.list hq;refine V6 ?_;refine⟨s1.heap.objs.size,[s1.heap.objs.size],_,_,H1,rfl,I1.kept (t':=s1.toks) λb o e=>QQ e,zeo a _,⟨_,Tc,rfl,rfl⟩,λb hb=>?_,q⟩;have e:b=s1.heap.objs.size:=by simpa using hb
 subst e;exact Bd TZ
def pi_tup{l:Expr}{tl:TE}(hl:O5):JG l (iTup X.K tl):=by
 intro a7 s σ H R I h;refine thn Lc λv s1 ⟨x,H1,I1,r1,q1⟩=>?_;obtain⟨a,e,⟨xs,hq⟩,q⟩:=q1;subst e;cases r1;obtain⟨a8,rv,p,hz⟩:=I1.tuple hq;refine wpAny_pyIter_tuple (show s1.heap.IsTuple a a8.toArray from p) ?_;refine⟨s1.heap.objs.size,[s1.heap.objs.size],_,_,H1,rfl,I1.kept (t':=s1.toks) λb o e=>QQ e,turn_tuple a _,⟨_,Tc,rfl,rfl⟩,λb hb=>?_,q⟩;have e:b=s1.heap.objs.size:=by simpa using hb
 subst e;exact Bd TZ
def range_it{a7:Nd}{σ:St}{H:Hp}{s:Ni}{R:It→Hp→Prop}{E:Na}{lo hi:Int}{t u v:Tok}{tk:Nat}(I:HI)(h1:-(2 ^ 62)≤lo)(h2:lo<2 ^ 62)(h3:-(2 ^ 62)≤hi)(h4:hi<2 ^ 62)(q:R (D8 (hi-lo).toNat) H):ZE (pyIter Hr) (PIE X a7 σ tg R) E {s with heap:=s.heap.push {cls:=.type "range",data:=.fields #[Ag,Ah,yI]},toks:=tk}:=by
 refine wpAny_pyIter_range (IsRange.new ..) (small_one h1 h2 h3 h4) ?_;have I1:ZA H {s with heap:=s.heap.push {cls:=.type "range",data:=.fields #[Ag,Ah,yI]},toks:=tk}:=I.kept λb o e=>QQ e;refine⟨(s.heap.push {cls:=.type "range",data:=.fields #[Ag,Ah,yI]}).objs.size,[(s.heap.push {cls:=.type "range",data:=.fields #[Ag,Ah,yI]}).objs.size],_,_,H,rfl,
  I1.kept (t':=tk) λb o e=>QQ e,turn_range _ lo (hi-lo).toNat,?_,λb hb=>?_,q⟩
 ·have e1:lo+((0:Nat):Int)*1=lo:=by simp
  have e2:(((hi-lo).toNat:Nat):Int)-((0:Nat):Int)=Builtin.Range.rangeSize lo hi 1:=by rw[rangeSize_one];split<;>lia
  show IsRangeIter _ _ (lo+((0:Nat):Int)*1) ((((hi-lo).toNat:Nat):Int)-((0:Nat):Int)) 1;rw[e1,e2];exact UE rfl
 have e:b=(s.heap.push { cls:=.type "range",data:=.fields #[Ag,Ah,yI] }).objs.size:=by simpa using hb
 subst e;exact Bd TZ
inductive RR1(vs:List V)(R:Int→Prop):Prop
 |mk (j:Int) (e:vs=[.int j]) (l:-(2 ^ 62)≤j) (u:j<2 ^ 62) (q:R j):RR1 vs R
def iRng1(ta:TA):TI:=λ σ H R=>ta σ H λvs H1=>RR1 vs λj=>R (Itr 0 j.toNat) H1
def zc3{a:Expr}{ta:TA}{p pos:Pos}(hg:Vk "range")(hm:X.mg "range" = none)(ha:K1 [a] ta)(hs:starEach [a] X.env=[(false,Rj a)]:=by rfl):JG (.Call (.Name "range" p) [a] [] pos) (iRng1 ta):=by
 intro a7 s σ H R I h;refine Call_ (Bp boot_range (Jf (thn SD λus s1 ⟨vs,H1,I1,r1,q1⟩=>?_) hs rfl));obtain⟨j,e,q1,q2,q⟩:=q1;subst e;cases r1 with
 |cons r rr=>cases rr;obtain⟨t,rfl⟩:=r;exact call_range_1 (range_it I1 Hc Hc q1 q2 (Hd q))
def tFor(wi:TI)(g:TG)(tb:TS):TS:=λD σ H=>wi σ H λJ H1=>∃W:Nat→Nat→St→Hp→Prop,(∃m,W 0 m σ H1)∧∀i m σ H,W i m σ H →
 (V5 H∧W8 H)∨(D7 H∧∃N:St→Hp→Prop,HK∧∀x H',XE H'→g x σ H' λ σ2 H2=>tb {D with nx:=N,ct:=N,bk:=D.nx} σ2 H2)
def zb4(fp:Nl)(h:No):List (Addr×Obj):=fp.filterMap λb=>(h.get? b).map λo=>(b,o)
def zbl{fp:Nl}{h:No}{b:Nc}{o:Obj}(hb:b∈fp)(e:h.get? b=some o):(b,o)∈V7 h:=List.mem_filterMap.mpr ⟨b,hb,by rw[e];rfl⟩
def ze2{fp:Nl}{h:No}{p:Addr×Obj}(hp:p∈V7 h):p.1∈fp∧h.get? p.1=some p.2:=by
 obtain⟨b,hb,e⟩:=List.mem_filterMap.mp hp;cases q:h.get? b with
 |none=>rw[q]at e;cases e
 |some o=>rw[q]at e;have e':(b,o)=p:=Qn e;subst e';exact⟨hb,q⟩
def Inv.pinned{a7:Nd}{σ:St}{H:Hp}{s:Ni}{fp:Nl}(I:HI)(hf:∀b∈fp,QK b)(ho:∀b∈fp,∃o,s.heap.get? b=some o∧∀v,o.data≠.cell v):ZI (a7++V7 s.heap) σ H s:=
 I.pins_of λp hp=>(Qe.mp hp).elim (λz=>Y6 PX) λz=>by obtain⟨hb,e⟩:=ze2 z;obtain⟨f0,f1,f2,_⟩:=hf p.1 hb;obtain⟨o,e',d⟩:=ho p.1 hb;rw[e]at e';cases e';exact⟨e,f0,f1,f2,d⟩
def Inv.unpinned{a7 pl:Nd}{σ:St}{H:Hp}{s:Ni}(I:ZI (a7++pl) σ H s):ZA H s:=I.pins_of λp hp=>Y6 (YG EJ)
def zby{iter:Expr}{body:List Stmt}{wi:TI}{g:TG}{tb:TS}{pos:Pos}(hp:XD X.xe)(hc:X.calm=true)(hi:Ox)(hg:PG X tg g)(hb:V4 body tb)(hs:∀x,foldedSetIterable iter X.env x=pure x:=by intro _;rfl):K0 (.For tg iter body [] pos) (tFor wi g tb):=by
 intro a7 s σ H D I h;refine wpAny_For (thn SY λv s1 h1=>thn h1 λitv s2 h2=>?_) hs;obtain⟨it,fp,tn,J,H2,e,I2,T,aQ,f2,W,⟨m0,w0⟩,turn⟩:=h2;subst e;have stat:∀{H':Hp},(∀b∈fp,H' b=none)→∀b∈fp,FpOk X a7 H' b:=λhn b hb=>⟨zO,(f2 b hb).2⟩;refine codeAny_forLoop_any (λn s'=>Ex3 λi σ' H'=>Aj4 (ZD σ' H' s') EW (∀b∈fp,H' b=none) (W i n σ' H')) ?_ m0 ⟨0,σ,H2,I2,aQ,λb hb=>(f2 b hb).1,w0⟩;rintro n s3 ⟨i,σ3,H3,I3,aS,fr3,w3⟩;rcases turn i n σ3 H3 w3 with⟨stop,qn⟩|⟨go,N,hN,step⟩
 ·refine WR (thn (T.done X rfl rfl rfl hc i a7 s3 σ3 H3 X.xe I3 (stat fr3) aS stop) λr s4 ⟨hr,I4⟩=>?_);subst hr;exact wpAny_execs_nil ⟨σ3,H3,I4,qn⟩
 refine WR (thn (T.item X rfl rfl rfl hc i a7 s3 σ3 H3 X.xe I3 (stat fr3) aS go) λr s4 ⟨u,hr,h4⟩=>?_);subst hr;refine WR (thn h4 λ_ s5 ⟨x,H5,I5,r5,y5,nj,fr5⟩=>?_);have hZ:=I5.pinned (stat fr5) (WW nj);refine WR (thn (hg _ s5 σ3 H5 x u _ hZ r5 (step x H5 y5)) λ_ s6 ⟨σ6,H6,I6,q6⟩=>?_);refine WR (thn (hb _ s6 σ6 H6 _ I6 q6) λf s7 q7=>?_);have again:∀{σ7:St} {H7:Hp},ZI (a7++V7 s5.heap) σ7 H7 s7→N σ7 H7→∃m,m<n∧Ex3 λi σ' H'=>Aj4 (ZD σ' H' s7) (tn i s7.heap) (∀b∈fp,H' b=none) (W i m σ' H'):=λ{σ7 H7} I7 n7=>by obtain⟨m',hm,w7⟩:=hN σ7 H7 n7;refine⟨m',hm,i+1,σ7,H7,I7.unpinned,QW nj λb hb o e=>(I7.pin (b,o) L9).1,λb hb=>?_,w7⟩;obtain⟨o,e,d⟩:=WW nj b hb;exact(I7.pin (b,o) L9).2.1
 cases f with
 |next=>obtain⟨σ7,H7,I7,n7⟩:=q7;exact again I7 n7
 |cont=>obtain⟨σ7,H7,I7,n7⟩:=q7;exact again I7 n7
 |brk=>obtain⟨σ7,H7,I7,q7⟩:=q7;exact⟨σ7,H7,I7.unpinned,q7⟩
 |ret v=>obtain⟨x7,σ7,H7,I7,r7,q7⟩:=q7;exact⟨x7,σ7,H7,I7.unpinned,r7,q7⟩
def zb5{K:Nb}{a:Nc}{xs:List V}{g:TG}{tb:TS}{D:Ends}{σ:St}{H:Hp}(Pv:Nat→St→Hp→Prop)(h0:ED)(hl:∀i σ H,i≤xs.length→Pv i σ H→WU a xs)(hs:∀i x σ H,xs[i]?=some x→Pv i σ H→g x σ H λ σ2 H2=>tb {D with nx:=Pv HY,ct:=Pv HY,bk:=D.nx} σ2 H2)(hd:∀σ H,Pv xs.length σ H→W8 H) :
  ∃W:Nat→Nat→St→Hp→Prop,(∃m,W 0 m σ H)∧∀i m σ H,W i m σ H →
   ((BZ a).stop i H∧W8 H)∨((BZ a).go i H∧∃N:St→Hp→Prop,HK∧∀x H',(BZ a).yld i H x H'→g x σ H' λ σ2 H2=>tb {D with nx:=N,ct:=N,bk:=D.nx} σ2 H2):=by
 refine⟨λi m σ H=>m=xs.length-i∧i≤xs.length∧Pv i σ H,⟨xs.length,Hb,Tq,h0⟩,?_⟩;rintro i m σ H ⟨rfl,hi,p⟩;have q:=hl i σ H hi p;by_cases ae:i<xs.length
 ·refine .inr ⟨⟨xs,xs[i],q,by simp[ae]⟩,Pv HY,fun σ' H' p'=>⟨xs.length - HY,Hy,rfl,ae,p'⟩,λx H' y=>?_⟩;obtain⟨e,y⟩:=y;subst e;exact hs i x σ _ (y xs q) p
 have e:i=xs.length:=by exact zar3 ‹_› ‹_›
 subst e;exact .inl ⟨⟨xs,q,HM⟩,Pn⟩
def for_tup{K:Nb}{a:Nc}{xs:List V}{g:TG}{tb:TS}{D:Ends}{σ:St}{H:Hp}(Pv:Nat→St→Hp→Prop)(h0:ED)(hl:∀i σ H,i≤xs.length→Pv i σ H→JA xs)(hs:∀i x σ H,xs[i]?=some x→Pv i σ H→g x σ H λ σ2 H2=>tb {D with nx:=Pv HY,ct:=Pv HY,bk:=D.nx} σ2 H2)(hd:∀σ H,Pv xs.length σ H→W8 H) :
  ∃W:Nat→Nat→St→Hp→Prop,(∃m,W 0 m σ H)∧∀i m σ H,W i m σ H →
   ((Fz a).stop i H∧W8 H)∨((Fz a).go i H∧∃N:St→Hp→Prop,HK∧∀x H',(Fz a).yld i H x H'→g x σ H' λ σ2 H2=>tb {D with nx:=N,ct:=N,bk:=D.nx} σ2 H2):=by
 refine⟨λi m σ H=>m=xs.length-i∧i≤xs.length∧Pv i σ H,⟨xs.length,Hb,Tq,h0⟩,?_⟩;rintro i m σ H ⟨rfl,hi,p⟩;have q:=hl i σ H hi p;by_cases ae:i<xs.length
 ·refine .inr ⟨⟨xs,xs[i],q,by simp[ae]⟩,Pv HY,fun σ' H' p'=>⟨xs.length - HY,Hy,rfl,ae,p'⟩,λx H' y=>?_⟩;obtain⟨e,y⟩:=y;subst e;exact hs i x σ _ (y xs q) p
 have e:i=xs.length:=by exact zar3 ‹_› ‹_›
 subst e;exact .inl ⟨⟨xs,q,HM⟩,Pn⟩
def zc8{lo:Int}{n:Nat}{g:TG}{tb:TS}{D:Ends}{σ:St}{H:Hp}(Pv:Nat→St→Hp→Prop)(h0:ED)(hs:∀i σ H,i<n→Pv i σ H→g (SX (lo+i)) σ H λ σ2 H2=>tb {D with nx:=Pv HY,ct:=Pv HY,bk:=D.nx} σ2 H2)(hd:∀σ H,Pv n σ H→W8 H) :
  ∃W:Nat→Nat→St→Hp→Prop,(∃m,W 0 m σ H)∧∀i m σ H,W i m σ H →
   ((D8 n).stop i H∧W8 H)∨((D8 n).go i H∧∃N:St→Hp→Prop,HK∧∀x H',(D8 n).yld i H x H'→g x σ H' λ σ2 H2=>tb {D with nx:=N,ct:=N,bk:=D.nx} σ2 H2):=by
 refine⟨λi m σ H=>m=n-i∧i≤n∧Pv i σ H,⟨n,Hb,Tq,h0⟩,?_⟩;rintro i m σ H ⟨rfl,hi,p⟩;by_cases ae:i<n
 ·refine .inr ⟨ae,Pv HY,fun σ' H' p'=>⟨n - HY,Hy,rfl,ae,p'⟩,λx H' y=>?_⟩;obtain⟨e,y⟩:=y;subst e y;exact hs i σ _ ae p
 have e:i=n:=by exact zar3 ‹_› ‹_›
 subst e;exact .inl ⟨HM,Pn⟩
abbrev R2:=V→V→Hp→VK→Prop
def OpR(X:Cx)(f:Value→Value→Sem Value)(r:R2):Prop:=
 ∀(a7:Nd) (s:Ni) (σ:St) (H:Hp) (x y:V) (v u:Value) (Q:VK),ZA H s→WK v→YC u→r x y H Q →
  wpAny Hk X.A A0 LJ X.xe s
def UnR(X:Cx)(f:Value→Sem Value)(r:V→Hp→VK→Prop):Prop:=
 ∀(a7:Nd) (s:Ni) (σ:St) (H:Hp) (x:V) (v:Value) (Q:VK),ZA H s→WK v→r x H Q →
  wpAny Hk X.A (f v) LJ X.xe s
def zb7(X:Cx)(f:Value)(r:List V→Hp→VK→Prop):Prop:=
 ∀(a7:Nd) (s:Ni) (σ:St) (H:Hp) (xs:List V) (us:Nj) (Q:VK),ZA H s→Q5 us→r xs H Q →
  wpAny Hk X.A (call f us) LJ X.xe s
def TruR(X:Cx)(r:V→Hp→(Bool→Hp→Prop)→Prop):Prop:=
 ∀(a7:Nd) (s:Ni) (σ:St) (H:Hp) (x:V) (v:Value) (Q:Bool→Hp→Prop),ZA H s→WK v→r x H Q →
  wpAny Hk X.A PU (V3 Q) X.xe s
def tOp(r:R2)(ta tb:TE):TE:=λ σ H Q=>ta σ H λx H1=>tb σ H1 λy H2=>r x y H2 Q
def tUn(r:V→Hp→VK→Prop)(ta:TE):TE:=λ σ H Q=>ta σ H λx H1=>r x H1 Q
inductive RrI(C:Int→Int→Prop)(g:Int→Int→V)(x:V)(y:V)(H:Hp)(Q:VK):Prop
 |mk (i:_) (j:_) (h0:x=.int i) (h1:y=.int j) (h2:C i j) (h3:Q (g i j) H):RrI C g x y H Q
def rI(C:Int→Int→Prop)(g:Int→Int→V):R2:=λx y H Q=>RrI C g x y H Q
inductive RrI0(g:Int→Int→V)(x:V)(y:V)(H:Hp)(Q:VK):Prop
 |mk (i:_) (j:_) (h0:x=.int i) (h1:y=.int j) (h2:Q (g i j) H):RrI0 g x y H Q
def rI0(g:Int→Int→V):R2:=λx y H Q=>RrI0 g x y H Q
def rU(g:Int→V):V→Hp→VK→Prop:=λx H Q=>∃i,x=.int i∧Q (g i) H
variable{a b c:Expr}{ta tb tc:TE}{pos:Pos}
def binT(ha:LZ)(hb:Iz){a7:Nd}{s:Ni}{σ:St}{H:Hp}{R:V→V→Hp→Prop}(I:HI)(h:ta σ H λx H1=>tb σ H1 λy H2=>R x y H2){Q:Na}{f:Value→Value→Sem Value}(hf:∀v u s2 x y H2,ZA H2 s2→WK v→YC u→R x y H2→ZE A0 Q X.xe s2) :
  wpAny Hk X.A (Rj a) (λv s₁=>ZE (Rj b) (λu s₂=>ZE A0 Q X.xe s₂) X.xe s₁) X.xe s:=by
 refine thn Si λv s1 ⟨x,H1,I1,r1,q1⟩=>?_;refine thn Lv λu s2 ⟨y,H2,I2,r2,q2⟩=>?_;exact hf v u s2 x y H2 I2 r1 r2 q2
def zat{op:Operator}{r:R2}(ho:WH (binaryOp op) r)(ha:LZ)(hb:Iz):Z7 (.BinOp a op b pos) (Di tb):=by intro a7 s σ H Q I h;exact wpAny_BinOp (NE h λv u s2 x y H2 I2 rx ry q=>ho a7 s2 σ H2 x y v u Q I2 rx ry q)
def pe_un{op:UnaryOp}{r:V→Hp→VK→Prop}(ho:UnR X (unaryOp op) r)(ha:LZ):Z7 (.UnaryOp op a pos) (tUn r ta):=by intro a7 s σ H Q I h;exact UnaryOp_ (thn Si λv s1 ⟨x,H1,I1,r1,q1⟩=>ho a7 s1 σ H1 x v Q I1 r1 q1)
def opI{f:Value→Value→Sem Value}{C:Int→Int→Prop}{g:Int→Int→Int}(rule:∀(i j:Int) (t u:Tok) (s:Ni) (Q:Na) (E:Na),C i j→Q (.int Et s.toks) {s with toks:=s.toks+1}→ZE EK Q E s) :
  OpR X f (rI C λi j=>.int Et):=by
 intro a7 s σ H x y v u Q I rx ry h;obtain⟨i,j,rfl,rfl,hc,q⟩:=h;obtain⟨t,rfl⟩:=rx;obtain⟨t',rfl⟩:=ry;exact rule i j t t' s _ _ hc ⟨SX Et,H,Sm,⟨_,rfl⟩,q⟩
def opI0{f:Value→Value→Sem Value}{g:Int→Int→Int}(rule:∀(i j:Int) (t u:Tok) (s:Ni) (Q:Na) (E:Na),Q (.int Et s.toks) {s with toks:=s.toks+1}→ZE EK Q E s) :
  OpR X f (rI0 λi j=>.int Et):=by
 intro a7 s σ H x y v u Q I rx ry h;obtain⟨i,j,rfl,rfl,q⟩:=h;obtain⟨t,rfl⟩:=rx;obtain⟨t',rfl⟩:=ry;exact rule i j t t' s _ _ ⟨SX Et,H,Sm,⟨_,rfl⟩,q⟩
def opB0{f:Value→Value→Sem Value}{g:Int→Int→Bool}(rule:∀(i j:Int) (t u:Tok) (s:Ni) (Q:Na) (E:Na),Q (AH Et) s→ZE EK Q E s) :
  OpR X f (rI0 λi j=>.bl Et):=by
 intro a7 s σ H x y v u Q I rx ry h;obtain⟨i,j,rfl,rfl,q⟩:=h;obtain⟨t,rfl⟩:=rx;obtain⟨t',rfl⟩:=ry;exact rule i j t t' s _ _ ⟨.bl Et,H,I,rfl,q⟩
def CDiv(i j:Int):Prop:=0<j∧j<1073741824
def CPow(i j:Int):Prop:=0≤j∧j≤1000000∧i.natAbs<2 ^ 64
def CMul(i j:Int):Prop:=(-(2 ^ 64)<i∧i<2 ^ 64)∨(-(2 ^ 64)<j∧j<2 ^ 64)
def CMul.ok{i j:Int}(h:CMul i j):IntMulOk i j:=by
 rcases h with⟨h1,h2⟩|⟨h1,h2⟩
 ·exact .of_left zJ
 exact .of_right zJ
def zb0:WH Pi (rI0 λi j=>.int (i+j)):=opI0 λ_ _ _ _ _ _ _ q=>add_int q
def op_sub:WH (binaryOp .Sub) (rI0 λi j=>.int (i-j)):=opI0 λ_ _ _ _ _ _ _ q=>sub_int q
def zgs:WH (binaryOp .Mult) (rI CMul λi j=>.int (i*j)):=opI λ_ _ _ _ _ _ _ hc q=>mul_int q hc.ok
def zgt:WH (binaryOp .FloorDiv) (rI CDiv λi j=>.int (i/j)):=opI λi j _ _ _ _ _ hc q=>by have h1:(0:Int)<j:=hc.1;have h2:j<1073741824:=hc.2;exact floordiv_int Hc (by rw[Int.fdiv_eq_ediv_of_nonneg i Hc];exact q) (HL (PyProof.noPylong_small Hc))
def zco:WH (binaryOp .Mod) (rI (λ_ j=>0<j) λi j=>.int (i%j)):=opI λi j _ _ _ _ _ hc q=>by have h1:(0:Int)<j:=hc;exact mod_int' Hc (by rw[Int.fmod_eq_emod_of_nonneg i Hc];exact q)
def op_pow:WH (binaryOp .Pow) (rI CPow λi j=>.int (i ^ j.toNat)):=opI λ_ _ _ _ _ _ _ hc q=>pow_int_small hc.1 hc.2.1 hc.2.2 q
def unI{f:Value→Sem Value}{g:Int→Int}(rule:∀(i:Int) (t:Tok) (s:Ni) (Q:Na) (E:Na),Q (.int (g i) s.toks) {s with toks:=s.toks+1}→ZE (f (Lj i t)) Q E s) :
  UnR X f (rU λi=>.int (g i)):=by
 intro a7 s σ H x v Q I rx h;obtain⟨i,rfl,q⟩:=h;obtain⟨t,rfl⟩:=rx;exact rule i t s _ _ ⟨SX (g i),H,Sm,⟨_,rfl⟩,q⟩
def un_neg:UnR X (unaryOp .USub) (rU λi=>.int (-i)):=unI λ_ _ _ _ _ q=>neg_int q
def scal:V→V→Bool
 |.non,.non=>true | .non,.int _=>true | .int _,.non=>true | .non,.bl _=>true | .bl _,.non=>true | .non,.str _=>true | .str _,.non=>true
 |.int _,.int _=>true | .bl _,.bl _=>true | .str _,.str _=>true | .byt _,.byt _=>true
 |.int _,.str _=>true | .str _,.int _=>true | .bl _,.str _=>true | .str _,.bl _=>true
 |_,_=>false
def rEq:R2:=λx y H Q=>scal x y=true∧Q (.bl (decide (x=y))) H
def rNe:R2:=λx y H Q=>scal x y=true∧Q (.bl (!decide (x=y))) H
def dec_int{i j:Int}:decide (V.int i=V.int j)=(i==j):=by rw[Yn];simp
def dec_bl{i j:Bool}:decide (V.bl i=V.bl j)=(i==j):=by rw[Yn];simp
def dec_str{i j:Str}:decide (V.str i=V.str j)=(i==j):=by rw[Yn];simp
def dec_byt{i j:Array UInt8}:decide (V.byt i=V.byt j)=(i.toList==j.toList):=by rw[Yn];cases i;cases j;simp
def zbd{a7:Nd}{σ:St}{H:Hp}{s:Ni}{Q:VK}{k k':Bool}(I:HI)(q:Ca k)(e:k=k'):QC Q (AH k') s:=by subst e;exact⟨.bl k,H,I,rfl,q⟩
def zho:WH Cy rEq:=by
 intro a7 s σ H x y v u Q I rx ry h;obtain⟨hs,q⟩:=h;cases x with
 |non=>
  cases rx;cases y with
  |non=>cases ry;exact PySem.EqNone.eq_none_none S6
  |bl j=>cases ry;exact PySem.EqNone.eq_none_bool S6
  |int j=>obtain⟨t',rfl⟩:=ry;exact PySem.EqNone.eq_none_int S6
  |str j=>obtain⟨t',rfl⟩:=ry;exact PySem.EqNone.eq_none_str S6
  |_=>exact absurd (show false=true from hs) Zj
 |bl i=>
  cases rx;cases y with
  |non=>cases ry;exact PySem.EqNone.eq_bool_none S6
  |bl j=>cases ry;exact eq_bool (QM dec_bl)
  |str j=>obtain⟨t',rfl⟩:=ry;exact PySem.EqMixed.eq_bool_str S6
  |_=>exact absurd (show false=true from hs) Zj
 |int i=>
  obtain⟨t,rfl⟩:=rx;cases y with
  |non=>cases ry;exact PySem.EqNone.eq_int_none S6
  |int j=>obtain⟨t',rfl⟩:=ry;exact eq_int (QM dec_int)
  |str j=>obtain⟨t',rfl⟩:=ry;exact PySem.EqMixed.eq_int_str S6
  |_=>exact absurd (show false=true from hs) Zj
 |str i=>
  obtain⟨t,rfl⟩:=rx;cases y with
  |non=>cases ry;exact PySem.EqNone.eq_str_none S6
  |bl j=>cases ry;exact PySem.EqMixed.eq_str_bool S6
  |int j=>obtain⟨t',rfl⟩:=ry;exact PySem.EqMixed.eq_str_int S6
  |str j=>obtain⟨t',rfl⟩:=ry;exact eq_str (QM dec_str)
  |_=>exact absurd (show false=true from hs) Zj
 |byt i=>
  obtain⟨t,rfl⟩:=rx;cases y with
  |byt j=>obtain⟨t',rfl⟩:=ry;exact PySem.W.eq_bytes (QM dec_byt)
  |_=>exact absurd (show false=true from hs) Zj
 |_=>cases y<;>exact absurd (show false=true from hs) Zj
def op_ne:QJ rNe:=by
 intro a7 s σ H x y v u Q I rx ry h;obtain⟨hs,q⟩:=h;cases x with
 |non=>
  cases rx;cases y with
  |non=>cases ry;exact PySem.EqNone.ne_none_none S6
  |bl j=>cases ry;exact PySem.EqNone.ne_none_bool S6
  |int j=>obtain⟨t',rfl⟩:=ry;exact PySem.EqNone.ne_none_int S6
  |str j=>obtain⟨t',rfl⟩:=ry;exact PySem.EqNone.ne_none_str S6
  |_=>exact absurd (show false=true from hs) Zj
 |bl i=>
  cases rx;cases y with
  |non=>cases ry;exact PySem.EqNone.ne_bool_none S6
  |bl j=>cases ry;exact ne_bool (QM (congrArg not dec_bl))
  |str j=>obtain⟨t',rfl⟩:=ry;exact PySem.EqMixed.ne_bool_str S6
  |_=>exact absurd (show false=true from hs) Zj
 |int i=>
  obtain⟨t,rfl⟩:=rx;cases y with
  |non=>cases ry;exact PySem.EqNone.ne_int_none S6
  |int j=>obtain⟨t',rfl⟩:=ry;exact ne_int (QM (congrArg not dec_int))
  |str j=>obtain⟨t',rfl⟩:=ry;exact PySem.EqMixed.ne_int_str S6
  |_=>exact absurd (show false=true from hs) Zj
 |str i=>
  obtain⟨t,rfl⟩:=rx;cases y with
  |non=>cases ry;exact PySem.EqNone.ne_str_none S6
  |bl j=>cases ry;exact PySem.EqMixed.ne_str_bool S6
  |int j=>obtain⟨t',rfl⟩:=ry;exact PySem.EqMixed.ne_str_int S6
  |str j=>obtain⟨t',rfl⟩:=ry;exact ne_str (QM (congrArg not dec_str))
  |_=>exact absurd (show false=true from hs) Zj
 |byt i=>
  obtain⟨t,rfl⟩:=rx;cases y with
  |byt j=>obtain⟨t',rfl⟩:=ry;exact PySem.W.ne_bytes (QM (congrArg not dec_byt))
  |_=>exact absurd (show false=true from hs) Zj
 |_=>cases y<;>exact absurd (show false=true from hs) Zj
def op_lt:WH (compareOp .Lt) (rI0 λi j=>.bl (decide (i<j))):=opB0 λ_ _ _ _ _ _ _ q=>lt_int q
def op_le:WH (compareOp .LtE) (rI0 λi j=>.bl (decide (i≤j))):=opB0 λ_ _ _ _ _ _ _ q=>le_int q
def op_gt:WH (compareOp .Gt) (rI0 λi j=>.bl (decide (j<i))):=opB0 λ_ _ _ _ _ _ _ q=>gt_int q
def za3(b:Expr){op:CmpOp}(h:op≠.In:=by decide)(h2:op≠.NotIn:=by decide):behindInMarks op b=false:=by
 have e1:(op==CmpOp.In)=false:=by cases op<;>first|rfl|exact absurd rfl h
 have e2:(op==CmpOp.NotIn)=false:=by cases op<;>first|rfl|exact absurd rfl h2
 cases b<;>simp[behindInMarks,e1,e2]
def zgn{op:CmpOp}{r:R2}(ho:IG)(ha:LZ)(hb:Iz)(hm:behindInMarks op b=false):Z7 (.Compare a [op] [b] pos) (Di tb):=by intro a7 s σ H Q I h;exact wpAny_Compare1 (NE h λv u s2 x y H2 I2 rx ry q=>ho a7 s2 σ H2 x y v u Q I2 rx ry q) hm
def tTest(t:TE):TT:=λ σ H Q=>t σ H λx H'=>RB x H' Q
def zan{op:CmpOp}{r:R2}(ho:IG)(ha:LZ)(hb:Iz)(hm:behindInMarks op b=false):VI (.Compare a [op] [b] pos) (tTest (Di tb)):=by intro a7 s σ H Q I h;refine wpAny_isTrue_Compare1 (thn Si λv s1 ⟨x,H1,I1,r1,q1⟩=>thn Lv λu s2 ⟨y,H2,I2,r2,q2⟩=>thn EY λc s3 ⟨z,H3,I3,r3,k,e,q3⟩=>?_) hm;subst e;cases r3;exact wpAny_truthy_bool ⟨H3,I3,q3⟩
def tChain(r r':R2)(ta tb tc:TE):TE:=λ σ H Q=>ta σ H λx H1=>tb σ H1 λy H2=>r x y H2 λz H3=>RB z H3 λk H3=>(if k=true then tc σ H3 λw' H4=>r' y w' H4 Q else Q S9 H3)
def pe_chain{op sP:CmpOp}{r r':R2}(ho:IG)(aw:WH (compareOp sP) r')(ha:LZ)(hb:Iz)(hc:Z7 c tc)(hm:lastMarks [op,sP] [b,c]=false:=by with_unfolding_all rfl):Z7 (.Compare a [op,sP] [b,c] pos) (tChain r r' ta tb tc):=by
 intro a7 s σ H Q I h;refine Compare_chain (thn Si λv s1 ⟨x,H1,I1,r1,q1⟩=>chain_link (thn Lv λu s2 ⟨y,H2,I2,r2,q2⟩=>thn EY λd s3 ⟨z,H3,I3,r3,k,e,q3⟩=>?_)) hm;subst e;cases r3;refine wpAny_truthy_bool ?_;cases k with
 |false=>exact ite_ff ⟨S9,H3,I3,rfl,q3⟩
 |true=>exact ite_tt (chain_last (thn (hc a7 s3 σ H3 _ I3 q3) λw' s4 ⟨z',H4,I4,r4,q4⟩=>aw a7 s4 σ H4 y z' u w' Q I4 r2 r4 q4))
def TruV(K:Nb)(x:V)(H:Hp)(k:Bool):Prop:=
 match x with
 |.non=>k=false
 |.bl b=>k=b
 |.int i=>k=(i != 0)
 |.str y=>y.length≤sizeLine∧k=((y.length:Int) != 0)
 |.byt y=>y.size≤sizeLine∧k=((y.size:Int) != 0)
 |.ref p=>(∃xs,WU p xs∧k=!xs.isEmpty)∨(∃xs,Gk xs∧k=!xs.isEmpty)∨∃kvs,H p=some Rg∧k=!kvs.isEmpty
 |_=>False
def isEmpty_kv{κ:Type}{kvs:List (κ×V)}{vs:List (κ×Value)}(r:YW vs):(!vs.isEmpty)=!kvs.isEmpty:=by cases r<;>rfl
def zh4{xs:List V}{a8:Nj}(r:Q5 a8):(!a8.toArray.isEmpty)=!xs.isEmpty:=by cases r<;>simp
def ze3:(sizeLine:Nat)<2 ^ 63:=by rw[sizeLine_eq];decide
inductive RTr(K:Nb)(x:V)(H:Hp)(Q:Bool→Hp→Prop):Prop
 |mk (k:Bool) (t:TruV K x H k) (q:Q k H):RTr K x H Q
def tru_ok:TruR X (λx H Q=>RTr X.K x H Q):=by
 intro a7 s σ H x v Q I rx h;obtain⟨k,e,q⟩:=h;have hl:=ze3;have hs:sizeLine=16777216:=sizeLine_eq;cases x with
 |non=>cases rx;have e':k=false:=e;subst e';exact truthy_none ⟨H,I,q⟩
 |bl b=>cases rx;have e':k=b:=e;subst e';exact wpAny_truthy_bool ⟨H,I,q⟩
 |int i=>obtain⟨t,rfl⟩:=rx;have e':k=(i != 0):=e;subst e';exact PySem.P.truthy_int ⟨H,I,q⟩
 |str y=>obtain⟨t,rfl⟩:=rx;obtain⟨hy,e'⟩:y.length≤sizeLine∧k=((y.length:Int) != 0):=e;subst e';exact PySem.P.truthy_str Hc ⟨H,Sm,q⟩
 |byt y=>obtain⟨t,rfl⟩:=rx;obtain⟨hy,e'⟩:y.size≤sizeLine∧k=((y.size:Int) != 0):=e;subst e';exact PySem.W.truthy_bytes Hc ⟨H,Sm,q⟩
 |ref p=>
  cases rx;have e':(∃xs,QT p xs∧k=!xs.isEmpty)∨(∃xs,Vl p xs∧k=!xs.isEmpty)∨∃kvs,H p=some Rg∧k=!kvs.isEmpty:=e;rcases e' with⟨xs,hx,e'⟩|⟨xs,hx,e'⟩|⟨kvs,hx,e'⟩
  ·subst e';obtain⟨a8,r,pl,hz⟩:=I.list hx;have ad:=r.length;exact wpAny_truthy_list pl.isList (by simp only[Qt];lia) ⟨H,Sm,by rw[zh4 r];exact q⟩
  ·subst e';obtain⟨a8,r,pl,hz⟩:=I.tuple hx;have ad:=r.length;exact truthy_tuple pl (by simp only[Qt];lia) ⟨H,Sm,by rw[zh4 r];exact q⟩
  subst e';obtain⟨hz,hS,vs,r,m⟩:kvs.length≤sizeLine∧(p==sysModules)=false∧∃vs,YW vs∧s.heap.DictOf Ta p vs:=XU hx;have ad:kvs.length=vs.length:=Zh r;exact wpAny_truthy_dict hS m Hc ⟨H,Sm,by rw[isEmpty_kv r];exact q⟩
 |_=>exact(show False from e).elim
def zf9(ha:LZ)(he:∀whole,isTrue a X.env whole=(do let v ←whole;standAt a.pos;holding [v] PU)) :
  PT X a (λ σ H Q=>ta σ H λx H'=>RTr X.K x H' Q):=by
 intro a7 s σ H Q I h;exact isTrue_plain (thn Si λv s1 ⟨x,H1,I1,r1,q1⟩=>tru_ok a7 s1 σ H1 x v Q I1 r1 q1) (he _)
def zfi:WH Pi (λx y H Q=>Ex2 λi j=>Aj4 (x=.str i) (y=.str j) (i.length+j.length≤sizeLine) (Q (Sw (i++j)) H)):=by intro a7 s σ H x y v u Q I rx ry h;obtain⟨i,j,rfl,rfl,hz,q⟩:=h;obtain⟨t,rfl⟩:=rx;obtain⟨t',rfl⟩:=ry;exact add_str (λt' tk=>⟨Sw (i++j),H,Sm,⟨_,rfl⟩,q⟩) hz
def vals1{x:V}{us:Nj}(r:Vals [x] us):∃u,us=[u]∧WK u:=by
 cases r with
 |cons r1 r2=>cases r2;exact⟨xf,r1⟩
def vals2{x y:V}{us:Nj}(r:Vals [x,y] us):∃u w',us=[u,w']∧WK u∧YC w':=by
 cases r with
 |cons r1 r2=>
  cases r2 with
  |cons r3 r4=>cases r4;exact⟨_,xf,r1,r3⟩
def call_max2(hc:X.calm=true):YH (.builtin "max") (λxs H Q=>Ex2 λi j=>Aj2 (xs=[OT,SX j]) (Q (SX (if j>i then j else i)) H)):=by
 intro a7 s σ H xs us Q I r h;obtain⟨i,j,rfl,q⟩:=h;obtain⟨u,w',rfl,⟨t,rfl⟩,⟨t',rfl⟩⟩:=vals2 r;refine max_two_ints SO λh' tk k=>⟨_,H,I.kept k,?_,q⟩;by_cases hj:j>i
 ·rw[if_pos hj,if_pos hj];exact⟨xf⟩
 rw[if_neg hj,if_neg hj];exact⟨xf⟩
def call_min2(hc:X.calm=true):YH (.builtin "min") (λxs H Q=>Ex2 λi j=>Aj2 (xs=[OT,SX j]) (Q (SX (if j<i then j else i)) H)):=by
 intro a7 s σ H xs us Q I r h;obtain⟨i,j,rfl,q⟩:=h;obtain⟨u,w',rfl,⟨t,rfl⟩,⟨t',rfl⟩⟩:=vals2 r;refine min_two_ints SO λh' tk k=>⟨_,H,I.kept k,?_,q⟩;by_cases hj:j<i
 ·rw[if_pos hj,if_pos hj];exact⟨xf⟩
 rw[if_neg hj,if_neg hj];exact⟨xf⟩
structure ObjM(h:No)(x dx C:Nc)(mA:Nh):Prop where
 obj:h.get? x=some (WF dx)
 ns:h.Ns1 dx mA
 ne:dx≠x
def lookIn_ns{h:No}{dx:Nc}{mA:Nh}(n:h.Ns1 dx mA):∃od,h.get? dx=some od∧∀name,XY od=some (mA name):=by
 obtain⟨o,es,ep,ho,hd,hk,_,hm⟩:=n;refine⟨o,ho,λname=>?_⟩;have e:=hm name;unfold nsFind findBy at e;rw[←Array.find?_toList]at e;unfold PySem.W.lookIn;rw[hd];dsimp only;split
 ·rename_i y q;rw[q]at e;exact congrArg some e
 rename_i q;rw[q]at e;have a:es.toList.any (·.refKey)=false:=by rw[List.any_eq_false];intro y hy;obtain⟨z,t,cX⟩:=hk y (Array.mem_toList_iff.mp hy);simp[DictEntry.refKey,cX]
 have a':¬es.toList.any (·.refKey)=true:=by rw[a];exact Zj
 rw[if_neg a'];exact congrArg some e
def ObjM.look{h:No}{x dx C:Nc}{mA:Nh}(I:ObjM h x dx C mA):∃od,PySem.W.InstAt h x (WF dx) C (RH od)∧∀name,XY od=some (mA name):=
 let⟨od,ho,hl⟩:=lookIn_ns I.ns
 ⟨od,⟨I.obj,rfl,rfl,ho⟩,hl⟩
variable{prog:Nk}{w:Nn}{A:Np}{E:Na}{s:Ni}{K:Nb}{x dx C f:Nc}{mA:Nh}{name:Str}{v:Value}
def get_map{expr:Bool}{Q:Na}(X:K.In s.heap)(I:KC mA)(hg:YY name=true)(hh:JW C=true)(ha:ZW SE name=some none)(hv:mA name=some v)(bD:PySem.W.handedIn v=true)(h:Q v {s with toks:=s.toks+1}) :
  wpAny HH A (getAttr T8 name expr) Q E s:=by
 obtain⟨od,J,hl⟩:=I.look;exact PySem.W.get_value X J (PySem.W.plainGet_of hg).1 (PySem.W.findObj_own hh ha rfl (by rw[hl,hv])) bD h
def get_meth{pl:Sem Bool}{Q:Value×List Value→Shared→Prop}(X:K.In s.heap)(I:KC mA)(hg:YY name=true)(hf:ZW SE name=some A3)(ht:XF Lw=true)(hv:mA name=none)(h:Q (Lw,[T8]) s) :
  wpAny HH A (getMethod T8 name pl) Q E s:=by
 obtain⟨od,J,hl⟩:=I.look;exact PySem.W.method_fn X J (PySem.W.plainGet_of hg).1 (PySem.W.plainGet_of hg).2 hf (SS ht) (by show(XY od).map (·.isSome)=some false;rw[hl,hv];rfl) h
def set_map{ns:Ng}{Q:Unit→Shared→Prop}(X:K.In s.heap)(I:KC mA)(hs:ZW SE "__setattr__" = some (RH (.builtin "object.__setattr__")))(hp:XZ C=true)(ht:DM name=some none)(hh:JW C=true)(hw:VE ns)(hsz:ns.length≤sizeLine)(h:∀h',ObjM h' x dx C (λy=>if y=name then some v else mA y)→Heap.SameBut dx s.heap h'→Q () {s with heap:=h',toks:=s.toks+2}) :
  wpAny HH A (setAttr T8 name v) Q E s:=by
 obtain⟨od,J,hl⟩:=I.look;refine PySem.W.set_plain X J hs (PySem.W.osa_open (s:={s with toks:=s.toks+1}) (r:=none) X J hp ht λb=>?_);obtain⟨cd,hc,dj⟩:=PySem.W.any_some hh;have hx:s.heap.get? x=some ⟨SE,RH dx,.plain,#[]⟩:=I.obj;refine wpAny_bind (wpAny_pure (wpAny_bind (wpAny_bind (wpAny_loadPart hx (wpAny_bind (PySem.W.Looks.here (s:={s with toks:=s.toks+1}) (PySem.W.looks_clsIn X hc) ?_))))));rw[dj];refine wpAny_pure (a:=some dx) (HN (RP (wpAny_bind ?_)));refine wpAny_nsSet1 (s:={s with toks:=s.toks+1}) I.ns λh' bp de=>?_;obtain⟨oD,esD,epD,hoD,hdD,iO⟩:=bp.count (PySem.Within.cons name v hw);refine wpAny_bind (wpAny_lookBehind hoD (by rw[hdD];exact pastItsLine_dict (Zn iO (by rw[Zk];exact zar4 ‹_›))) ?_);exact wpAny_pure (h _ ⟨(de.2 _ (Zd I.ne)).trans I.obj,bp,I.ne⟩ de)
def make_map{R:Nx}{vs:Nj}{kw:List (Str×Value)}(X:K.In s.heap)(hm:K2 C=true)(hi:ZW SE "__init__" = some A3)(hf:PySem.W.typeIn K Lw=some (.type "function"))(h:codeAny HH (zK (.builtin "type.__call__" ⟨.ref C::vs,kw⟩)) (.call Lw ⟨.ref HR::vs,kw⟩) (PySem.W.InitBack HR R)
   {s with heap:=(s.heap.push PySem.W.emptyDict).push L7}) :
  codeAny HH A (.call SE ⟨vs,kw⟩) R s:=by
 obtain⟨hh,g,d,t,os⟩:=s;exact PySem.W.make_core (PySem.W.makes_of X hm) (PySem.W.looks_findIn X hi) (λself=>PySem.W.bind_fn X self hf) RT h
end
def putF(f:Str)(v:V):List (Str×V)→List (Str×V)
 |[]=>[(f,v)]
 |(g,x)::r=>if g=f then(g,v)::r else(g,x)::UY r
theorem zg4(f g:Str)(v:V):∀fs:List (Str×V),(UY fs).lookup g=if g=f then some v else fs.lookup g
 |[]=>by
  show List.lookup g [(f,v)]=_;by_cases h:g=f
  ·have hb:(g == f)=true:=beq_iff_eq.mpr h;simp only[List.lookup,hb,if_pos h]
  have hb:(g == f)=false:=beq_eq_false_iff_ne.mpr h;simp only[List.lookup,hb,if_neg h]
 | (k,x)::r=>by
  have ih:=zg4 f g v r;rw[show UY ((k,x)::r)=(if k=f then(k,v)::r else(k,x)::UY r) from rfl];by_cases hk:k=f
  ·rw[Sk hk];by_cases h:g=k
   ·have hb:(g == k)=true:=beq_iff_eq.mpr h;simp only[List.lookup,hb,if_pos (h.trans hk)]
   have hb:(g == k)=false:=beq_eq_false_iff_ne.mpr h;simp only[List.lookup,hb,if_neg (λe:g=f=>h (e.trans hk.symm))]
  rw[Sz hk];by_cases h:g=k
  ·have hb:(g == k)=true:=beq_iff_eq.mpr h;simp only[List.lookup,hb,if_neg (λe:g=f=>hk (h.symm.trans e))]
  have hb:(g == k)=false:=beq_eq_false_iff_ne.mpr h;simp only[List.lookup,hb];exact ih
theorem zg9(f:Str)(v:V):∀fs:List (Str×V),f∈(UY fs).map (·.1)∧∀g,g∈fs.map (·.1)→g∈(UY fs).map (·.1)
 |[]=>⟨by simp[putF],λg h=>by simp at h⟩
 |(k,x)::r=>by
  obtain⟨i1,i2⟩:=zg9 f v r;rw[show UY ((k,x)::r)=(if k=f then(k,v)::r else(k,x)::UY r) from rfl];by_cases hk:k=f
  ·rw[Sk hk];subst hk;exact⟨Hb,λg h=>by simpa using h⟩
  rw[Sz hk];refine⟨?_,λg h=>?_⟩
  ·rw[Ql];exact QL i1
  rw[Ql]at h ⊢;rcases Qj.mp h with e|e
  ·exact Qj.mpr (HL e)
  exact QL (i2 g e)
theorem zg6(f:Str)(v:V):∀fs:List (Str×V),(UY fs).length≤fs.length+1
 |[]=>by simp[putF]
 |(k,x)::r=>by
  have ih:=zg6 f v r;rw[show UY ((k,x)::r)=(if k=f then(k,v)::r else(k,x)::UY r) from rfl];by_cases hk:k=f
  ·rw[if_pos hk,Zk,Zk];exact BN _
  rw[if_neg hk,Zk,Zk];exact zar4 ‹_›
def RelO.some_of{v:V}{o:Option Value}(r:RelO (RH v) o):∃u,o=some u∧YV u:=by
 cases o with
 |none=>exact(show False from r).elim
 |some u=>exact⟨u,rfl,r⟩
def RelO.none_of{o:Option Value}(r:RelO none o):o=none:=by
 cases o with
 |none=>rfl
 |some u=>exact(show False from r).elim
def handed_of{v:V}{u:Value}(r:YV u):PySem.W.handedIn u=true:=by
 cases v with
 |non=>cases(show u=Value.none from r);rfl
 |bl b=>cases(show u=Value.bool b from r);rfl
 |int i=>obtain⟨t,e⟩:=(show ∃t,u=JK t from r);cases e;rfl
 |str x=>obtain⟨t,e⟩:=(show ∃t,u=WN t from r);cases e;rfl
 |byt b=>obtain⟨t,e⟩:=(show ∃t,u=Value.bytes b t from r);cases e;rfl
 |flt b=>obtain⟨t,e⟩:=(show ∃t,u=Value.float b t from r);cases e;rfl
 |ref a=>cases(show u=Value.ref a from r);rfl
 |ty n=>cases(show u=Value.type n from r);rfl
section
variable{P:Nk}{w:Nn}{H H':Hp}{h h':No}{a C dx:Nc}{fs fs':List (Str×V)}
def zji(hok:WG h)(e:RU a LL):∃mA,ObjM h a dx C mA∧(∀f,KA (mA f))∧VE (fs.map (·.1))∧fs.length≤1000∧H dx=some ET:=by obtain⟨d,z,ne,ob,mA,n,r,q⟩:=(show WO LL from hok a _ e);exact⟨mA,⟨ob,n,ne⟩,r,q,z,d⟩
end
structure Cls(K:Nb)(C:Nc):Prop where
 pg:YY Str.empty=true
 hd:JW C=true
 po:XZ C=true
 sa:ZW SE "__setattr__" = some (RH (.builtin "object.__setattr__"))
def Cls.get{K:Nb}{C:Nc}(c:V8 C)(f:Str):YY f=true:=c.pg
def zdz(K:Nb)(C:Nc)(f:Str):Prop:=ZW SE f=some none
def zdz.taker{K:Nb}{C:Nc}{f:Str}(n:VQ f):DM f=some none:=by unfold PySem.W.takerIn;rw[show ZW SE f=some none from n];rfl
structure Meth(K:Nb)(C:Nc)(m:Str)(f:Nc):Prop where
 at_:ZW SE m=some A3
 fn:XF Lw=true
 kp:Y7 Lw=true
section
variable{X:Cx}{a7:Nd}{σ:St}{H:Hp}{s:Ni}{a C dx:Nc}{fs:List (Str×V)}{f:Str}{v:V}{A:Np}{E:Na}
def getattr_ok{b:Bool}{Q:Na}(I:HI)(e:RU a LL)(c:VR C)(n:zdz X.K C f)(l:fs.lookup f=some v)(h:∀u s',ZA H s'→YV u→Q u s'):ZF A (getAttr Rm f b) Q E s:=by obtain⟨mA,O,r,_,_,_⟩:=M3 e;obtain⟨u,hu,ru⟩:=RelO.some_of (v:=v) (o:=mA f) (by rw[←l];exact r f);exact get_map I.kIn O (c.get f) c.hd n hu (handed_of ru) (h u _ Sm ru)
def zfm{m:Str}{g:Nc}{pl:Sem Bool}{Q:Value×List Value→Shared→Prop}(I:HI)(e:RU a LL)(c:VR C)(k:K3 g)(l:fs.lookup m=none)(h:Q (Hf g,[Rm]) s):ZF A (getMethod Rm m pl) Q E s:=by obtain⟨mA,O,r,_,_,_⟩:=M3 e;have hn:mA m=none:=RelO.none_of (by rw[←l];exact r m);exact get_meth I.kIn O (c.get m) k.at_ k.fn hn h
def setattr_ok{y:V}{u:Value}{Q:Unit→Shared→Prop}(I:HI)(e:RU a LL)(c:VR C)(n:zdz X.K C f)(hl:fs.length<1000)(ry:YC u)(h:∀s',ZA (ZS a (.ins C dx (putF f y fs))) s'→Q () s'):ZF A (setAttr Rm f u) Q E s:=by
 obtain⟨mA,O,r,wi,_,ho⟩:=M3 e;have hz:(fs.map (·.1)).length≤sizeLine:=by rw[Qa,sizeLine_eq];lia
 refine set_map I.kIn O c.sa c.po n.taker c.hd wi hz λh' O' sb=>h _ ?_;have hd:∃o,h'.get? dx=some o:=let⟨o,_,_,e',_⟩:=O'.ns;⟨o,e'⟩;refine I.write (x:=a) (e:=dx) (by rw[e];exact True.intro) (SK ho) (λb q hb z=>(Oy hb).trans z) hd ?_;refine⟨by rw[zaf O.ne];exact ho,?_,O.ne,O'.obj,_,O'.ns,λg=>?_,λg hg=>?_⟩
 ·have:=zg6 f y fs;exact Zn ‹_› ‹_›
 ·show RelO ((putF f y fs).lookup g) (if g=f then some u else mA g);rw[zg4];by_cases q:g=f
  ·rw[if_pos q,if_pos q];exact ry
  rw[if_neg q,if_neg q];exact r g
 by_cases q:g=f
 ·rw[q];exact(zg9 f y fs).1
 refine (zg9 f y fs).2 g (wi g λz=>hg ?_);show(if g=f then some u else mA g)=none;rw[if_neg q];exact z
def Inv.made(I:HI):ZA (Pq (An (.own HR)) HR (.ins C s.heap.objs.size []))
  {s with heap:=(s.heap.push PySem.W.emptyDict).push L7}:=by
 have e1:(s.heap.push PySem.W.emptyDict).get? s.heap.objs.size=some PySem.W.emptyDict:=Qy s.heap rfl;have e2:((s.heap.push PySem.W.emptyDict).push L7).get? HR=some L7:=by have:=Qy (s.heap.push PySem.W.emptyDict) (o:=WF s.heap.objs.size) rfl;rwa[Ut]at this
 have e3:(s.heap.push PySem.W.emptyDict).Ns s.heap.objs.size (λ_=>none):=⟨PySem.W.emptyDict,#[],_,e1,rfl,(λe he=>absurd he Hb),λ_=>rfl⟩;have I1:=I.laid (a:=s.heap.objs.size) (o:=.own HR) (h':=s.heap.push PySem.W.emptyDict) (t':=s.toks) (λb u q=>QQ q) HM ⟨_,e1⟩;refine I1.laid (a:=s.heap.objs.size+1) (o:=.ins C s.heap.objs.size []) (t':=s.toks) (λb u q=>QQ q) (Nat.le_of_eq (Ut _ _)) ?_;have ne:s.heap.objs.size≠s.heap.objs.size+1:=Zi z4;refine⟨by rw[zaf ne,zad],Tq,ne,e2,λ_=>none,(Heap.Ns1.of_empty e3).at λo q=>QQ q,λ_=>True.intro,λy hy=>absurd rfl hy⟩
def attr_of{prog:Nk}{w:Nn}{env:Env}{e:Expr}{f:Str}{pos:Pos}{s:Ni}{Q:Na}(hb:attributeBase e f env (Ep e)=eval e env)(h:ZG (Ep e) (λo s₁=>ZG (getAttr o f true) Q E s₁) E s):ZG (Ep (zL e pos)) Q E s:=
 Attribute_any_ h (by rw[arm_eval_Attribute,hb])
end
inductive RFld(K:Nb)(f:Str)(x:V)(H:Hp)(Q:VK):Prop
 |mk (a C dx:Nc) (fs:List (Str×V)) (v:V) (e:x=.ref a) (h:H a=some (.ins C dx fs)) (c:Cls K C) (n:zdz K C f) (l:fs.lookup f=some v) (q:Q v H):RFld K f x H Q
def tFld(K:Nb)(ta:TE)(f:Str):TE:=λ σ H Q=>ta σ H λx H1=>RFld K f x H1 Q
inductive RFs(K:Nb)(f:Str)(x y:V)(H:Hp)(N:Hp→Prop):Prop
 |mk (a C dx:Nc) (fs:List (Str×V)) (e:x=.ref a) (h:H a=some (.ins C dx fs)) (c:Cls K C) (n:zdz K C f) (l:fs.length<1000) (q:N (upd H a (.ins C dx (putF f y fs)))):RFs K f x y H N
def sFld(K:Nb)(ta tv:TE)(f:Str):TS:=λD σ H=>tv σ H λy H1=>ta σ H1 λx H2=>RFs K f x y H2 (D.nx σ)
section
variable{X:Cx}{o e value:Expr}{f:Str}{pos bi tpos:Pos}{ta tv:TE}
def pe_fld(he:Z7 e ta)(hb:attributeBase e f X.env IN=eval e X.env):Z7 (zL e pos) (tFld X.K ta f):=by intro a7 s σ H Q I h;refine attr_of hb (thn So λu s1 ⟨x,H1,I1,rx,a,C,dx,fs,v,ex,ea,c,n,l,q⟩=>?_);subst ex;obtain rfl:u=Value.ref a:=rx;exact getattr_ok I1 ea c n l λu' s2 I2 ru=>⟨v,H1,I2,ru,q⟩
def ps_fld(ha:Z7 o ta)(hv:Z7 value tv)(hs:swapsWith value (RH (zL o bi)) pos.line X.env=pure false):K0 (.Assign [zL o bi] value pos) (sFld X.K ta tv f):=by intro a7 s σ H D I h;refine plainObj_wpAny_Assign_Attribute (thn z6 λu s1 ⟨y,H1,I1,ry,q⟩=>thn (ha a7 s1 σ H1 _ I1 q) λov s2 ⟨x,H2,I2,rx,a,C,dx,fs,ex,ea,c,n,l,q2⟩=>?_) hs;subst ex;obtain rfl:ov=Value.ref a:=rx;exact setattr_ok I2 ea c n l ry λs3 I3=>⟨σ,_,I3,q2⟩
def methcall_of{pl:Sem Bool}{m:Str}{apos:Pos}{args:Nr}{a7:Nd}{s:Ni}{σ:St}{H:Hp}{Q:Na}{te:TE}(he:CU)(I:HI)(h:te σ H λx H1=>∃ a C dx fs g,x=.ref a∧H1 a=some LL∧VR C∧K3 g∧fs.lookup m=none ∧
   ∀s1,ZA H1 s1→ZE (callWith pos (Hf g) [Rm] (L4 zM) (backToKw pos (keywordEach [] X.env))) Q X.xe s1)(ht:eval (.Call (Lm e) args [] pos) X.env=(do
   let ov ←eval e X.env
   standAt apos.atName
   let(f,first) ←holding [ov] Im
   callWith pos f first (backTo pos zM) (backToKw pos (keywordEach [] X.env)))) :
  wpAny Hk X.A (Rj (.Call (Lm e) args [] pos)) Q X.xe s:=by
 refine PySem.W.methodCall_KW (pl:=pl) (thn So λu s1 ⟨x,H1,I1,rx,a,C,dx,fs,g,ex,ea,c,k,l,q⟩=>?_) ht;subst ex;obtain rfl:u=Value.ref a:=rx;exact Dj k l (q s1 I1)
end
section
variable{X:Cx}{a7:Nd}{σ:St}{H:Hp}{s:Ni}{A:Np}{E:Na}{Q:Na}{c:Value}{b:Bool}
inductive TyOf(K:Nb)(H:Hp):V→Value→Prop where
 |non:TyOf K H .non (.type "NoneType")
 |bl (x:Bool):TyOf K H (.bl x) (.type "bool")
 |int (i:Int):TyOf K H (.int i) (.type "int")
 |str (x:Str):TyOf K H (.str x) (.type "str")
 |flt (x:UInt64):TyOf K H (.flt x) (.type "float")
 |lst {a:Nc} {xs:List V} (e:H a=some (.lst xs)):TyOf K H (.ref a) (.type "list")
 |frz {a:Nc} {o:Obj} {xs:List V} (e:H a=some (.frz o (.lst xs))):TyOf K H (.ref a) (.type "list")
 |tup {a:Nc} {xs:List V} (e:H a=some (.tup xs)):TyOf K H (.ref a) (.type "tuple")
 |dK {a:Nc} {kvs:List (Key×V)} (e:H a=some (.dK kvs)):TyOf K H (.ref a) (.type "dict")
 |dT {a:Nc} {kvs:List (List Key×V)} (e:H a=some (.dT kvs)):TyOf K H (.ref a) (.type "dict")
 | ins {a C dx:Nc} {fs:List (Str×V)} (e:H a=some (.ins C dx fs)) (cl:Cls K C) (ha:PySem.W.findIn K (.ref C) "__class__" = some (some (.builtin "object.__class__")))
   (hn:DO Hu "__get__" = some Pr) (htk:FD Hu=some true)
   (hm:WX C (.type "object")=some true):TyOf K H Rm SE
def isinst_ok{x:V}{u t:Value}(I:HI)(rx:WK u)(ty:NF t)(e:XG c=some b)(h:∀tk,Q (AH b) {s with toks:=tk}) :
  wpAny Hk A (call (.builtin "isinstance") [u,c]) Q E s:=by
 cases ty with
 |non=>cases(show u=Value.none from rx);exact Wz PySem.W.kitx_none I.kIn True.intro e (λz=>nomatch z) h
 |bl y=>cases(show u=Value.bool y from rx);exact Wz PySem.W.kitx_bool I.kIn True.intro e (λz=>nomatch z) h
 |int i=>obtain⟨t,q⟩:=(show ∃t,u=JK t from rx);cases q;exact Wz PySem.W.kitx_int I.kIn True.intro e (λz=>nomatch z) h
 |str y=>obtain⟨t,q⟩:=(show ∃t,u=Bq t from rx);cases q;exact Wz PySem.W.kitx_str I.kIn True.intro e (λz=>nomatch z) h
 |flt y=>obtain⟨t,q⟩:=(show ∃t,u=Value.float y t from rx);cases q;exact Wz PySem.W.kitx_float I.kIn True.intro e (λz=>nomatch z) h
 |@lst a xs ea=>cases(show u=Value.ref a from rx);obtain⟨_,_,n,_,h1⟩:=(show ZY H s.heap a LC from YD ea);exact V9 ⟨_,h1,rfl⟩ e (λz=>nomatch z) h
 |@frz a ob xs ea=>cases(show u=Value.ref a from rx);obtain⟨_,_,_,n,_,h1⟩:=(show ZY H s.heap a (.frz ob LC) from YD ea);exact V9 ⟨_,h1,rfl⟩ e (λz=>nomatch z) h
 |@tup a xs ea=>cases(show u=Value.ref a from rx);obtain⟨_,_,_,p⟩:=(show ZY H s.heap a SV from YD ea);obtain⟨o,h1,h2,_⟩:=p;exact Wz PySem.W.kitx_tuple I.kIn ⟨o,h1,h2⟩ e (λz=>nomatch z) h
 |@dK a kvs ea=>cases(show u=Value.ref a from rx);obtain⟨_,_,vs,_,p⟩:=(show ZY H s.heap a Rg from YD ea);obtain⟨o,es,ep,h1,h2,_⟩:=p;exact V' ⟨o,h1,h2.1⟩ e (λz=>nomatch z) h
 |@dT a kvs ea=>cases(show u=Value.ref a from rx);obtain⟨_,_,xs,_,o,es,ep,h1,h2,_⟩:=(show ZY H s.heap a TX from YD ea);exact V' ⟨o,h1,h2.1⟩ e (λz=>nomatch z) h
 |@ins a C dx fs ea cl ha hn htk hm=>cases(show u=Value.ref a from rx);obtain⟨mA,O,_⟩:=M3 ea;obtain⟨od,J,_⟩:=O.look;exact Wz (PySem.W.kitx_own (cl.get _) cl.hd ha hn htk hm) I.kIn J e (λz=>nomatch z) h
end
structure Room(k:Nat)(A:Np):Prop where
 hd:A.handled=none
 dp:A.depth+3*k+5<recursionLimit
 un:A.units+16*k+200<cLine
 gd:A.guards=some []
def Room.mono{j k:Nat}{A:Np}(r:YT A)(h:j≤k):Room j A:=⟨r.hd,by have:=r.dp;lia,by have:=r.un;lia,r.gd⟩
def Room.deeper{k:Nat}{A:Np}(r:Room (k+1) A)(env:Env):YT (IO env):=
 ⟨r.hd,by have:=r.dp;show A.depth+1+3*k+5<_;lia,by have:=r.un;show A.units+3+16*k+200<_;lia,r.gd⟩
def make_depth{A:Np}{C:Nc}{us:Nj}{kw:List (Str×Value)}:(zK (.builtin "type.__call__" ⟨.ref C::us,kw⟩)).depth=A.depth+1:=by
 first|rfl|simp[Around.under,Code.weight,Code.isCreation,Code.isGuard,Code.isCaller,Code.frames,Code.isFrame,guardIds]
def make_units{A:Np}{C:Nc}{us:Nj}{kw:List (Str×Value)}:(zK (.builtin "type.__call__" ⟨.ref C::us,kw⟩)).units=A.units+1:=by
 first|rfl|simp[Around.under,Code.cUnits,Code.frames,Code.isFrame]
def make_guards{A:Np}{C:Nc}{us:Nj}{kw:List (Str×Value)}:(zK (.builtin "type.__call__" ⟨.ref C::us,kw⟩)).guards=A.guards:=by obtain⟨hd,d,fr,gs,u⟩:=A;cases gs<;>first|rfl|simp[Around.under,Code.guards,Code.isGuard,pushGuards,guardIds]
def Room.make{k:Nat}{A:Np}(r:Room (k+1) A)(C:Nc)(us:Nj)(kw:Tn (Str×Value)):YT (zK (.builtin "type.__call__" ⟨.ref C::us,kw⟩)):=
 ⟨r.hd,by have:=r.dp;rw[make_depth];lia,by have:=r.un;rw[make_units];lia,by rw[make_guards];exact r.gd⟩
def Room.depth{k:Nat}{A:Np}(r:YT A):A.depth<recursionLimit:=by have:=r.dp;lia
def Room.units{k:Nat}{A:Np}(r:YT A):A.units+64<cLine:=by have:=r.un;lia
def tNil:TA:=λ_ H Q=>Q [] H
def tCons(ta:TE)(tr:TA):TA:=λ σ H Q=>ta σ H λx H1=>tr σ H1 λxs H2=>Q (x::xs) H2
section
variable{X:Cx}{e:Expr}{es:Nr}{te:TE}{t:TA}{pos:Pos}
def zac:K1 [] tNil:=λ_ _ _ _ H Q I h=>Calls.spliced_nil ⟨[],H,I,.nil,h⟩
def zaa(ha:CU)(hr:K1 es t)(hs:starEach (e::es) X.env=(false,IN)::starEach es X.env:=by rfl):K1 (e::es) (tCons te t):=by intro pos a7 s σ H Q I h;rw[hs];show ZQ _ (spliced ((false,IN)::backTo pos Sl)) _ _ s;refine Kd (thn Si λu s1 ⟨x,H1,I1,r1,q1⟩=>?_);exact thn (hr pos a7 s1 σ H1 _ I1 q1) λus s2 ⟨xs,H2,I2,r2,q2⟩=>⟨x::xs,H2,I2,yY r1 r2,q2⟩
def tTup(t:TA):TE:=λ σ H Q=>t σ H λxs H1=>xs.length≤sizeLine∧∀p,H1 p=none→Q TR (QN p SV)
def tLst(t:TA):TE:=λ σ H Q=>t σ H λxs H1=>xs.length≤sizeLine∧∀p,H1 p=none→Q TR (QN p LC)
def zbz{x1}(h:K1 es t):Z7 (.Tuple es x1 pos) (tTup t):=by intro a7 s σ H Q I hq;refine wpAny_Tuple_spliced (thn Aq λus s1 ⟨xs,H1,I1,r,z,q⟩=>⟨by rw[←r.length];exact z,?_⟩);have hf:H1 s1.heap.objs.size=none:=I1.hok.fresh HM;refine⟨yK,QN s1.heap.objs.size SV,I1.laid (t':=s1.toks) (λb u e=>QQ e) HM ?_,rfl,q _ hf⟩;exact⟨z,us,r,⟨_,Tc,rfl,xf⟩⟩
def zay(h:K1 es t):Z7 (.List es pos) (tLst t):=by intro a7 s σ H Q I hq;refine wpAny_List_spliced (thn Aq λus s1 ⟨xs,H1,I1,r,z,q⟩=>⟨by rw[←r.length];exact z,?_⟩);have hf:H1 s1.heap.objs.size=none:=I1.hok.fresh HM;refine⟨yK,QN s1.heap.objs.size LC,I1.laid (t':=s1.toks) (λb u e=>QQ e) HM ?_,rfl,q _ hf⟩;exact⟨z,us,0,r,Tc⟩
abbrev Sp:=List V→Hp→VK→XK→Prop
abbrev CXT:=List Env→Hp→Shared→XK→Value→Shared→Prop
structure Env0(P:Nk)(w:Nn)(K:Nb)(mg:Nh)(base:No)(A:Np)(outer:List Env)(s:Ni)(H:Hp):Prop where
 frames:A.frames=some outer
 mod:Mod K mg base
 bs:∀b o,base.get? b=some o→s.heap.get? b=some o∧H b=none
 bsz:base.objs.size≤s.heap.objs.size
 funs:s.heap.FunFrames base outer
 frf:∀b∈frs outer,H b=none
 hok:WG s.heap
 bare:AllBare s.gens
inductive CE(outer:List Env)(P:Nk)(w:Nn)(H:Hp)(s:Ni)(Q:VK)(u:Value)(s':Ni):Prop
 |mk (v:_) (H':_) (h0:s'.os=s.os) (h1:AllBare s'.gens) (h2:Un (frs outer) [] H H' s.heap s'.heap) (h3:HOk P w H' s'.heap) (h4:RelV v u) (h5:Q v H'):CE outer P w H s Q u s'
def CR(CX:CXT)(outer:List Env)(P:Nk)(w:Nn)(H:Hp)(s:Ni)(Q:VK)(E:XK)(r:Result)(s':Ni):Prop:=
 match r with
 |.ok (.ret u)=>Dk s'
 |.ok _=>False
 |.error e=>CX outer H s E e s'
structure FnOk(P:Nk)(w:Nn)(K:Nb)(mg:Nh)(base:No)(CX:CXT)(k:Nat)(f:Nc)(fd:Nw)(ps:Ng)(sp:Sp):Prop where
 len:∀vs H Q E,sp vs H Q E→vs.length=ps.length
 run:∀(A:Np) (outer:List Env) (s:Ni) (H:Hp) (args:Args) (us:Nj) (vs:List V) (Q:VK) (E:XK),YT A→JS H→J3 args Cn→VP us→sp vs H Q E →
  codeAny TK A (.call Lw args) (CR CX outer P w H s Q E) s
def FnOk.imp{P:Nk}{w:Nn}{K:Nb}{mg:Nh}{base:No}{CX:CXT}{k:Nat}{f:Nc}{fd:Nw}{ps:Ng}{sp sp':Sp}(F:ZC CX k f fd ps sp)(h:∀vs H Q E,sp' vs H Q E→sp vs H Q E):ZC CX k f fd ps sp':=
 ⟨λvs H Q E q=>F.len vs H Q E (h _ _ _ _ q),λA outer s H args us vs Q E hr he hb hv hs=>Vm E hr he hb hv (h _ _ _ _ hs)⟩
def Env0.make{P:Nk}{w:Nn}{K:Nb}{mg:Nh}{base:No}{A:Np}{outer:List Env}{s:Ni}{H:Hp}(e:JS H)(C:Nc)(us:Nj)(kw:Tn (Str×Value)) :
  Env0 P w K mg base (zK (.builtin "type.__call__" ⟨.ref C::us,kw⟩)) outer s H:=⟨by first|exact e.frames|(simpa[Around.under,Code.envs,Code.isFrame,pushEnvs] using e.frames),e.mod,e.bs,e.bsz,e.funs,e.frf,e.hok,e.bare⟩
variable{a7:Nd}{σ:St}{H:Hp}{s s':Ni}
def Inv.env0(I:HI):Env0 X.prog X.w X.K X.mg X.base X.A X.stack s H:=
 ⟨I.ok.frames,I.ok.mod,I.bs,Df I.sz,I.stack,I.stkFree,I.hok,I.bare⟩
def Inv.after{Q:VK}{u:Value}(I:HI)(h:CE X.stack X.prog X.w H s Q u s'):QC Q u s':=by obtain⟨v,H',os,bare,un,hok,r,q⟩:=h;obtain⟨hh,g,d,t,sO⟩:=s';obtain rfl:sO=s.os:=os;exact⟨v,H',I.call (h':=hh) (g':=g) (d':=d) (t':=t) (ch:=[]) un hok bare (λb z=>absurd z Hb),r,q⟩
def tCall(sp:Sp)(dvs:List V)(E:XK)(t:TA):TE:=λ σ H Q=>t σ H λvs H1=>sp (vs++dvs) H1 Q E
end
inductive RMe(C:Nc)(m:Str)(x:V)(H:Hp)(R:Prop):Prop
 |mk (a dx:Nc) (fs:List (Str×V)) (e:x=.ref a) (h:H a=some (.ins C dx fs)) (l:fs.lookup m=none) (q:R):RMe C m x H R
def tMeth(C:Nc)(m:Str)(sp:Sp)(dvs:List V)(E:XK)(ta:TE)(t:TA):TE:=λ σ H Q=>ta σ H λx H1=>RMe C m x H1 <|
 t σ H1 λvs H2=>sp (x::(vs++dvs)) H2 Q E
def tMake(C:Nc)(sp:Sp)(dvs:List V)(E:XK)(t:TA):TE:=λ σ H Q=>t σ H λvs H1=>∀x dx,H1 x=none→H1 dx=none→dx≠x →
 sp (.ref x::(vs++dvs)) (Pq (QN dx (.own x)) x (.ins C dx [])) (λv H2=>v=.non∧Q T8 H2) E
def Binds(K:Nb)(fd:Nw)(ps:Ng)(ds:Nj):Prop:=
 ∀(s:Ni) (us:Nj),K.In s.heap→(us++ds).length=ps.length→J3 ⟨us,[]⟩ (ps.zip (us++ds))
def Binds.all{K:Nb}{fd:Nw}{ps:Ng}(h:∀us:List Value,us.length=ps.length→bindArgs fd ⟨us,[]⟩=pure Cn):QH fd ps []:=λs us _ hl=>by rw[Zq]at hl ⊢;exact .of_eq (h us hl)
def zfz(CX:CXT)(X:Cx)(E:XK):Prop:=∀(a7:Nd) (σ:St) (H:Hp) (s:Ni) (e:Value) (s':Ni),ZA H s→CX X.stack H s E e s'→X.xe e s'
section
variable{X:Cx}{CX:CXT}{k:Nat}{f C:Nc}{fd:Nw}{ps:Ng}{sp:Sp}{dvs:List V}{ds:Nj}{E:XK}{x m:Str}{p pos apos:Pos}{e o:Expr}{es:Nr}{ta:TE}{t:TA}
def run_fn{a7:Nd}{σ:St}{H:Hp}{s:Ni}{Q:VK}{us:Nj}{vs:List V}(F:ZX sp)(hr:YT X.A)(hb:WY ds)(hd:BA ds)(hx:K4 E)(I:HI)(r:VP us)(h:sp (vs++dvs) H Q E):ZE (call Lw us) LJ X.xe s:=by
 have r2:Vals (vs++dvs) (us++ds):=r.append hd;have hl:(us++ds).length=ps.length:=by rw[←r2.length];exact MP h
 refine wpAny_call (codeAny_mono (Da ⟨us,[]⟩ (us++ds) (vs++dvs) Q E hr I.env0 (hb s us I.kIn hl) r2 h) λr s' hq=>?_);cases r with
 |error e=>exact hx a7 σ H s e s' I hq
 |ok fl=>
  cases fl with
  |ret u=>exact I.after hq
  |next=>exact False.elim hq
  |brk=>exact False.elim hq
  |cont=>exact False.elim hq
def zao(F:ZX sp)(hr:YT X.A)(hg:Vk x)(hm:X.mg x=some Lw)(hk:Fa Lw=true)(hb:WY ds)(hd:BA ds)(hx:K4 E)(ha:K1 (e::es) t)(cY:Rc=false:=by decide)(he:starEach (e::es) X.env=(false,IN)::starEach es X.env:=by rfl)(aU:(L4 Sl).any (·.1)=false:=by rfl) :
  PE X (.Call IP (e::es) [] pos) (tCall sp dvs E t):=by
 intro a7 s σ H Q I h;refine wpAny_Call_Name_kw (XC ?_ cY);refine Xt (h₀:=X.base) I.ok.mod.kin hk (thn SD λus s1 ⟨vs,H1,I1,r,q⟩=>⟨I1.kIn,?_⟩) he aU;exact run_fn F hr hb hd hx I1 r q
def pe_meth{pl:Sem Bool}(he:Z7 o ta)(c:VR C)(hm:K3 f)(F:ZX sp)(hr:YT X.A)(hb:WY ds)(hd:BA ds)(hx:K4 E)(ha:K1 (e::es) t)(av:starEach (e::es) X.env=(false,IN)::starEach es X.env:=by rfl)(aU:(L4 Sl).any (·.1)=false:=by rfl)(ht:eval (.Call (Lm o) (e::es) [] pos) X.env=(do
   let ov ←eval o X.env
   standAt apos.atName
   let(f,first) ←holding [ov] Im
   callWith pos f first (backTo pos (starEach (e::es) X.env)) (backToKw pos (keywordEach [] X.env))):=by rfl) :
  PE X (.Call (Lm o) (e::es) [] pos) (Db t):=by
 intro a7 s σ H Q I h;refine PySem.W.methodCall_KW (pl:=pl) (thn So λu s1 ⟨x,H1,I1,rx,a,dx,fs,ex,ea,l,q⟩=>?_) ht;subst ex;obtain rfl:u=Value.ref a:=rx;refine Dj hm l ?_;refine Xt (first:=[Rm]) (h₀:=X.base) I.ok.mod.kin hm.kp (thn (ha pos a7 s1 σ H1 _ I1 q) λus s2 ⟨vs,H2,I2,r,q2⟩=>⟨I2.kIn,?_⟩) av aU;exact run_fn (us:=.ref a::us) (vs:=.ref a::vs) F hr hb hd hx I2 (yY rfl r) q2
def zga{pl:Sem Bool}(he:Z7 o ta)(c:VR C)(hm:K3 f)(F:ZX sp)(hr:YT X.A)(hb:WY ds)(hd:BA ds)(hx:K4 E)(ht:eval (.Call (Lm o) [] [] pos) X.env=(do
   let ov ←eval o X.env
   standAt apos.atName
   let(f,first) ←holding [ov] Im
   callWith pos f first (backTo pos (starEach [] X.env)) (backToKw pos (keywordEach [] X.env))):=by rfl) :
  PE X (.Call (Lm o) [] [] pos) (Db tNil):=by
 intro a7 s σ H Q I h;refine PySem.W.methodCall_KW (pl:=pl) (thn So λu s1 ⟨x,H1,I1,rx,a,dx,fs,ex,ea,l,q⟩=>?_) ht;subst ex;obtain rfl:u=Value.ref a:=rx;refine Dj hm l ?_;exact PySem.W.callWith_K0 (first:=[Rm]) I1.kIn hm.kp (run_fn (us:=[Rm]) (vs:=[Rm]) F hr hb hd hx I1 (Su rfl) q)
structure Mk(K:Nb)(C f:Nc):Prop where
 makes:K2 C=true
 init:ZW SE "__init__" = some A3
 fn:XF Lw=true
 kp:Y7 SE=true
def run_make{a7:Nd}{σ:St}{H:Hp}{s:Ni}{Q:VK}{us:Nj}{vs:List V}(M:Mk X.K C f)(F:ZX sp)(hr:Room (k+1) X.A)(hb:WY ds)(hd:BA ds)(hx:K4 E)(I:HI)(r:VP us)(h:∀x dx,H x=none→H dx=none→dx≠x→sp (.ref x::(vs++dvs)) (NG (.ins C dx [])) (λv H2=>v=.non∧Q T8 H2) E) :
  wpAny Hk X.A (call SE us) LJ X.xe s:=by
 have hq:=h HR s.heap.objs.size (IK (Kt _)) SL (Zi z4);have I2:=Inv.made (C:=C) I;have r2:Vals (V.ref HR::(vs++dvs)) (Value.ref HR::(us++ds)):=.cons rfl (r.append hd);have hl:(Value.ref HR::us++ds).length=ps.length:=by have e:=r2.length;rw[MP hq]at e;exact e.symm
 refine wpAny_call (make_map (f:=f) I.kIn M.makes M.init (beq_iff_eq.mp M.fn) (codeAny_mono (F.run _ X.stack _ _ ⟨Value.ref HR::us,[]⟩ (Value.ref HR::(us++ds)) _ _ E (hr.make C us [])
  (I2.env0.make C us []) (hb _ (Value.ref HR::us) I2.kIn hl) r2 hq) λr s' ki=>?_))
 cases r with
 |error e=>exact hx a7 σ _ _ e s' I2 ki
 |ok fl=>
  cases fl with
  |ret u=>obtain⟨v,H',I3,rv,ev,q3⟩:=I2.after ki;subst ev;exact⟨rv,⟨V.ref HR,H',I3,rfl,q3⟩⟩
  |next=>exact False.elim ki
  |brk=>exact False.elim ki
  |cont=>exact False.elim ki
def pe_make(M:Mk X.K C f)(F:ZX sp)(hr:Room (k+1) X.A)(hg:Vk x)(hm:X.mg x=some SE)(hb:WY ds)(hd:BA ds)(hx:K4 E)(ha:K1 (e::es) t)(cY:Rc=false:=by decide)(he:starEach (e::es) X.env=(false,IN)::starEach es X.env:=by rfl)(aU:(L4 Sl).any (·.1)=false:=by rfl) :
  PE X (.Call IP (e::es) [] pos) (tMake C sp dvs E t):=by
 intro a7 s σ H Q I h;refine wpAny_Call_Name_kw (XC ?_ cY);refine Xt (h₀:=X.base) I.ok.mod.kin M.kp (thn SD λus s1 ⟨vs,H1,I1,r,q⟩=>⟨I1.kIn,?_⟩) he aU;exact run_make M F hr hb hd hx I1 r q
end
structure zam(N P:Ng)(sc:Scope):Prop where
 kind:sc.kind=.function
 co:sc.isCoroutine=false
 gen:sc.isGenerator=false
 nd:N.Nodup
 pre:N.take P.length=P
 par:∀x∈P,sc.names.lookup x=some .local∨sc.names.lookup x=some .cell
 nofree:∀y∈sc.names,y.2≠.free
theorem bindL_out{kindOf:Str→Option NameKind}{x:Str}:∀{binds:List (Str×Value)} {m:Nh},(∀v,(x,v)∉binds)→bindL kindOf binds m x=m x
 |[],_,_=>rfl
 | (n,v)::r,m,h=>by
  unfold bindL;rw[bindL_out λw hw=>h w (QL hw)];split
  ·have:x≠n:=by rintro rfl;exact h v Qd
   simp[this]
  rfl
theorem bindC_out{kindOf:Str→Option NameKind}{x:Str}:∀{binds:List (Str×Value)} {m:Nh},(∀v,(x,v)∉binds)→bindC kindOf binds m x=m x
 |[],_,_=>rfl
 |(n,v)::r,m,h=>by
  unfold bindC;rw[bindC_out λw hw=>h w (QL hw)];split
  ·rfl
  have:x≠n:=by rintro rfl;exact h v Qd
  simp[this]
theorem bindL_get{kindOf:Str→Option NameKind}{x:Str}{v:Value}:∀{P:Ng} {vs:Nj} {i:Nat} {m:Nh},P.Nodup→P[i]?=some x→vs[i]?=some v→kindOf x=some .local →
  bindL kindOf (P.zip vs) m x=some v
 |[],_,_,_,_,h,_,_=>by simp at h
 |_::_,[],_,_,_,_,h,_=>by simp at h
 |p::P,w::vs,0,m,nd,h1,h2,hk=>by simp at h1 h2;subst h1;subst h2;show bindL kindOf ((p,w)::P.zip vs) m p=_;unfold bindL;rw[bindL_out λv hv=>(Qw.mp nd).1 (A4 hv).1,if_pos hk];simp
 |p::P,w::vs,i+1,m,nd,h1,h2,hk=>by show bindL kindOf ((p,w)::P.zip vs) m x=_;unfold bindL;exact bindL_get (i:=i) (Qw.mp nd).2 (Hd h1) (Hd h2) hk
theorem bindC_get{kindOf:Str→Option NameKind}{x:Str}{v:Value}:∀{P:Ng} {vs:Nj} {i:Nat} {m:Nh},P.Nodup→P[i]?=some x→vs[i]?=some v→kindOf x≠some .local →
  bindC kindOf (P.zip vs) m x=some v
 |[],_,_,_,_,h,_,_=>by simp at h
 |_::_,[],_,_,_,_,h,_=>by simp at h
 |p::P,w::vs,0,m,nd,h1,h2,hk=>by simp at h1 h2;subst h1;subst h2;show bindC kindOf ((p,w)::P.zip vs) m p=_;unfold bindC;rw[bindC_out λv hv=>(Qw.mp nd).1 (A4 hv).1,if_neg hk];simp
 |p::P,w::vs,i+1,m,nd,h1,h2,hk=>by show bindC kindOf ((p,w)::P.zip vs) m x=_;unfold bindC;exact bindC_get (i:=i) (Qw.mp nd).2 (Hd h1) (Hd h2) hk
def start(N:Ng)(vs:List V):St:=vs.map some++List.replicate (N.length-vs.length) none
def cxOf(CX:CXT)(P:Nk)(w:Nn)(K:Nb)(mg:Nh)(base:No)(N:Ng)(qual:Str)(scope:Scope)(f:Nc)(cd:Value)(A:Np)(outer:List Env)(s:Ni)(H:Hp)(E:XK):Cx where
 prog:=P
 w:=w
 K:=K
 mg:=mg
 base:=base
 A:=A.deeper IQ
 N:=N
 s₀:=s
 H₀:=H
 env:=envOfC qual scope s.heap.objs.size f cd
 outer:=outer
 stack:=envOfC qual scope s.heap.objs.size f cd::outer
 ex:=[]
 calm:=true
 fn:=λ_=>true
 pn:=[]
 xe:=λe s'=>wpAny TK (IO (Ra cd)) (leaving IQ e) (λ_ lP=>CX outer H s E e lP) (λe' lP=>CX outer H s E e' lP) s'
def cell_has{sc:Scope}{n:Nat}{x:Str}(h:sc.names.lookup x=some .cell):∃c,(cellsFrom n sc.names []).lookup x=some c:=by have q:=PySem.W.cellsFrom_some sc.names n [] PV;exact Option.isSome_iff_exists.mp q
def inv_start{CX:CXT}{P:Nk}{w:Nn}{K:Nb}{mg:Nh}{base:No}{N ps:Ng}{qual:Str}{scope:Scope}{f:Nc}{cd:Value}{A:Np}{outer:List Env}{s s1:Ni}{H:Hp}{E:XK}{us:Nj}{vs:List V}(S:K5 scope)(hd:A.handled=none)(e0:JS H)(hl:vs.length=ps.length)(r:VP us)(x:InCallC s s.heap.objs.size (bindL (Ra cd).kindOf Cn λ_=>none) (cellsFrom HR scope.names []) (bindC (Ra cd).kindOf Cn λ_=>none) s1) :
  Inv (z8 cd) [] IR H s1:=by
 have aU:ps.length≤N.length:=by have:=congrArg List.length S.pre;rw[Za]at this;lia
 obtain⟨h1,tk,rfl,hk⟩:=x.done;have noA:∀b:Addr,b∉(z8 cd).ex:=λb z=>absurd (show b∈([]:List Addr) from z) Hb;refine⟨⟨e0.mod,S.kind,rfl,rfl,HM,λy z c h1 h2=>?_,λy hy=>?_,λy c _ h=>?_,λ_=>hd,Around.frames_deeper e0.frames,.inr ⟨rfl,rfl⟩,λb z=>absurd z (noA b),e0.bs,e0.bsz,λb _ _=>noA b,λb z=>absurd z (noA b),e0.funs,e0.frf⟩,
  rfl,e0.bare,Un.kept hk,⟨_,x.toInCall.ns,λi y v h1 h2 h3=>?_⟩,λy c h=>⟨_,x.cell y c h⟩,e0.hok.fresh HM,λy c h=>?_,λp hp=>absurd (show p∈([]:List (Addr×Obj)) from hp) Hb,e0.hok.kept hk,?_⟩
 ·exact name_of_addr x.apart (Uo h1) (Uo h2)
 ·have hy:scope.names.lookup y=some .cell∨scope.names.lookup y=some .free:=hy;rcases hy with hy|hy
  ·exact cell_has hy
  exact absurd rfl (S.nofree _ (Uo hy))
 ·exact Zt z9
 ·have hi:i < vs.length:=by
   unfold start at h2;by_cases hi:i<vs.length
   ·exact hi
   rw[Jm (Hd hi)]at h2;rw[List.getElem?_replicate]at h2;split at h2<;>cases h2
  have ha:vs[i]?=some v:=by
   unfold start at h2;rw[Xw (Hd hi),Qo]at h2;cases e:vs[i]? with
   |none=>rw[e]at h2;cases h2
   |some a=>rw[e]at h2;cases h2;rfl
  obtain⟨u,hu,rv⟩:=r.get ha;have hp:ps[i]?=some y:=by rw[←S.pre,List.getElem?_take_of_lt (by exact zar7 ‹_› ‹_›)];exact h1
  have ndP:ps.Nodup:=by rw[←S.pre];exact S.nd.sublist PY
  refine⟨u,rv,?_⟩;rcases S.par y (Yz hp) with k|k
  ·exact .inl ⟨k,bindL_get ndP hp hu k⟩
  obtain⟨c,e⟩:=cell_has (n:=s.heap.objs.size+1) k;refine .inr ⟨HL k,c,e,?_⟩;have q:=x.cell y c e;rw[bindC_get ndP hp hu (by show scope.names.lookup y≠_;rw[k];decide)]at q;exact q
 ·exact e0.hok.fresh (Zt z9)
 unfold start;show _=N.length;rw[Qm,Qa,List.length_replicate];lia
def fn_of{CX:CXT}{P:Nk}{w:Nn}{K:Nb}{mg:Nh}{base:No}{k:Nat}{f:Nc}{name qual:Str}{params:Arguments}{body:List Stmt}{scope:Scope}{dV kV doc pm cdv ct oc:Value}{an od:Option Addr}{osl:Array LM}{N ps:Ng}{sp:Sp}(lk:K.lookup f=some ⟨oc,od,.func (U7 ct),osl⟩)(ba:BB cdv qual=true)(S:K5 scope)(len:∀vs H Q E,sp vs H Q E→vs.length=ps.length)(bJ:∀ (A:Np) (outer:List Env) (s:Ni) (H:Hp) (vs:List V) (Q:VK) (E:XK),YT (IO (Ra cdv))→sp vs H Q E →
   ∃t,PSs (z8 cdv) body t∧t {nx:=λ_ H'=>Q .non H',rt:=Q} IR H) :
  FnOk P w K mg base CX (k+1) f (U7 ct) ps sp:=by
 refine⟨len,λA outer s H args us vs Q E hr e0 hb r bK=>?_⟩;have hl:=len _ _ _ _ bK;have KX:K.In s.heap:=e0.mod.kin.keeps λb o e=>(e0.bs b o e).1;have lim:s.heap.NoLimit:=e0.mod.nolimit.keeps λb o e=>(e0.bs b o e).1;have dQ:∀y∈ps.zip us,scope.names.lookup y.1=some .local∨(scope.names.lookup y.1=some .cell∧((cellsFrom HR scope.names []).lookup y.1).isSome=true):=λ⟨n,v⟩ hy=>by
  rcases S.par n (A4 hy).1 with q|q
  ·exact .inl q
  exact .inr ⟨q,PySem.W.cellsFrom_some _ _ _ PZ⟩
 refine codeAny_call_function hr.depth (KX _ _ lk) rfl S.co S.gen rfl (PySem.W.codeRec_of KX ba) (hb _ _ _ _ ?_);refine wpAny_newFunctionEnv_cells S.kind dQ λenv he s1 x=>?_;subst he;refine⟨lim.keeps x.toInCall.keep,codeAny_func ?_⟩;obtain⟨t,ht,hq⟩:=bJ A outer s H vs Q E (hr.deeper _) bK;have I:Ma [] IR H s1:=inv_start S hr.hd e0 hl r x;refine wpAny_mono (ht [] s1 IR H _ I hq) (λfl s' hs=>?_) λe s' hs=>hs;have fin:∀{σ':St} {H':Hp} {v:V} {u:Value},Ma [] σ' H' s'→YV u→Q v H'→Dk s':=
  λ{σ' H' v u} J rv q=>⟨v,H',J.os,J.bare,J.base,J.hok,rv,q⟩
 cases fl with
 |ret u=>obtain⟨v,σ',H',J,rv,q⟩:=hs;exact fin J rv q
 |next=>obtain⟨σ',H',J,q⟩:=hs;exact fin (v:=V.non) (u:=Value.none) J rfl q
 |brk=>obtain⟨_,_,_,q⟩:=hs;exact False.elim q
 |cont=>obtain⟨_,_,_,q⟩:=hs;exact False.elim q
section
variable{X:Cx}{x:Str}{p pos:Pos}{e:Expr}{es:Nr}{t:TA}{id T:String}{r:List V→Hp→VK→Prop}
def tCB(r:List V→Hp→VK→Prop)(t:TA):TE:=λ σ H Q=>t σ H λvs H1=>r vs H1 Q
def zah(hc:YH Ci r)(hg:Vk x)(hm:X.mg x=none)(hv:bootBuiltins x=some Ci)(ha:K1 (e::es) t)(hn:x ≠ "__name__" :=by decide)(cY:Rc=false:=by decide)(he:starEach (e::es) X.env=(false,IN)::starEach es X.env:=by rfl)(aU:(L4 Sl).any (·.1)=false:=by rfl):Z7 (.Call IP (e::es) [] pos) (tCB r t):=by intro a7 s σ H Q I h;refine wpAny_Call_Name_kw (Bp hv ?_ hn cY);exact PyProof.Rows.callWith_builtin1 (thn SD λus s1 ⟨vs,H1,I1,r1,q1⟩=>hc a7 s1 σ H1 vs us Q I1 r1 q1) he aU
def zba(hc:YH Ib r)(hg:Vk x)(hm:X.mg x=none)(hv:bootBuiltins x=some Ib)(ha:K1 (e::es) t)(hn:x ≠ "__name__" :=by decide)(cY:Rc=false:=by decide)(he:starEach (e::es) X.env=(false,IN)::starEach es X.env:=by rfl)(aU:(L4 Sl).any (·.1)=false:=by rfl):Z7 (.Call IP (e::es) [] pos) (tCB r t):=by intro a7 s σ H Q I h;refine wpAny_Call_Name_kw (Bp hv ?_ hn cY);exact Jf (thn SD λus s1 ⟨vs,H1,I1,r1,q1⟩=>hc a7 s1 σ H1 vs us Q I1 r1 q1) he aU
end
section
variable{κ:Type}[DecidableEq κ]
def valV(kvs:Tn (κ×V))(k:κ):Option V:=(kvs.find? λkv=>decide (kv.1=k)).map (·.2)
def putK(kvs:Tn (κ×V))(k:κ)(v:V):List (κ×V):=
 if(kvs.any λkv=>decide (kv.1=k))=true then kvs.map (λkv=>if kv.1=k then(kv.1,v) else kv) else kvs++[(k,v)]
def zjn(kvs:Tn (κ×V))(k:κ):List (κ×V):=kvs.filter λkv=>decide (kv.1≠k)
def zct{p:κ×V}{r:List (κ×V)}{k:κ}(e:p.1=k):valV (p::r) k=some p.2:=by simp[valV,Ko,e]
def zb2{p:κ×V}{r:List (κ×V)}{k:κ}(e:¬p.1=k):valV (p::r) k=valV r k:=by simp[valV,Ko,e]
theorem zih(k:κ):∀kvs:List (κ×V),(kvs.any λkv=>decide (kv.1=k))=(YO k).isSome
 |[]=>rfl
 |p::r=>by
  rw[Xh];by_cases e:p.1=k
  ·simp only[zct e,decide_eq_true e,Bool.true_or,Option.isSome_some]
  rw[zb2 e,decide_eq_false e,Bool.false_or];exact zih k r
def zei(kvs:Tn (κ×V))(k:κ)(v:V):(YZ k v).length≤kvs.length+1:=by
 unfold putK;split
 ·rw[Qa];exact BN _
 rw[Qm,Zk,Kb];exact Qi _
def zf8{kvs:List (κ×V)}{k:κ}(v:V)(h:YO k=none):YZ k v=kvs++[(k,v)]:=by unfold putK;rw[zih,h];exact if_neg Hg
def RelO.isSome_eq{o:Option V}{u:Option Value}(r:RelO o u):o.isSome=u.isSome:=by
 cases o with
 |none=>cases u with
  |none=>rfl
  |some _=>exact(show False from r).elim
 |some _=>cases u with
  |none=>exact(show False from r).elim
  |some _=>rfl
def RelO.getD{o:Option V}{u:Option Value}{d:V}{d':Value}(r:RelO o u)(rd:RelV d d'):RelV (o.getD d) (u.getD d'):=by
 cases o with
 |none=>cases u with
  |none=>exact rd
  |some _=>exact(show False from r).elim
 |some _=>cases u with
  |none=>exact(show False from r).elim
  |some _=>exact r
def KV.val{kvs:List (κ×V)}{vs:List (κ×Value)}(r:YW vs)(k:κ):RelO (YO k) (valueAt vs k):=by
 unfold KV at r;induction r with
 |nil=>exact True.intro
 | @cons p q ps qs h t ih=>
  obtain⟨h1,h2⟩:=h;by_cases e:p.1=k
  ·have e':q.1=k:=h1.symm.trans e;have b:valueAt (q::qs) k=some q.2:=by simp[valueAt,Ko,e']
   rw[zct e,b];exact h2
  have e':¬ q.1=k:=λz=>e Eu;have b:valueAt (q::qs) k=valueAt qs k:=by simp[valueAt,Ko,e']
  rw[zb2 e,b];exact ih
def KV.any{kvs:List (κ×V)}{vs:List (κ×Value)}(r:YW vs)(k:κ):(kvs.any λkv=>decide (kv.1=k))=vs.any λkv=>decide (kv.1=k):=by
 unfold KV at r;induction r with
 |nil=>rfl
 |cons h t ih=>rw[Xh,Xh,ih,h.1]
def KV.repl{kvs:List (κ×V)}{vs:List (κ×Value)}(r:YW vs)(k:κ){y:V}{u:Value}(ry:YC u) :
  KV (kvs.map λkv=>if kv.1=k then(kv.1,y) else kv) (vs.map λkv=>if kv.1=k then(kv.1,u) else kv):=by
 unfold KV at r ⊢;induction r with
 |nil=>exact .nil
 |@cons p q ps qs h t ih=>
  rw[Ql,Ql];refine .cons ?_ ih;obtain⟨h1,h2⟩:=h;by_cases e:p.1=k
  ·rw[if_pos e,if_pos (h1.symm.trans e)];exact⟨h1,ry⟩
  rw[if_neg e,if_neg (λz=>e Eu)];exact⟨h1,h2⟩
def KV.put{kvs:List (κ×V)}{vs:List (κ×Value)}(r:YW vs)(k:κ){y:V}{u:Value}(ry:YC u):KV (YZ k y) (stored vs k u):=by
 unfold putK stored;rw[r.any k];by_cases e:(vs.any λkv=>decide (kv.1=k))=true
 ·rw[if_pos e,if_pos e];exact r.repl k ry
 rw[if_neg e,if_neg e];exact Paired.snoc r ⟨rfl,ry⟩
def KV.drop{kvs:List (κ×V)}{vs:List (κ×Value)}(r:YW vs)(k:κ):KV (VS k) (without vs k):=by
 unfold KV at r ⊢;unfold zjn without;induction r with
 |nil=>exact .nil
 | @cons p q ps qs h t ih=>
  obtain⟨h1,h2⟩:=h;rw[List.filter_cons,List.filter_cons];by_cases e:p.1=k
  ·have a:¬ decide (p.1≠k)=true:=by simp[e]
   have b:¬decide (q.1≠k)=true:=by simp[h1.symm.trans e]
   rw[if_neg a,if_neg b];exact ih
  have e':¬ q.1=k:=λz=>e Eu;have a:decide (p.1≠k)=true:=by simp[e]
  have b:decide (q.1≠k)=true:=by simp[e']
  rw[if_pos a,if_pos b];exact .cons ⟨h1,h2⟩ ih
def KV.length{kvs:List (κ×V)}{vs:List (κ×Value)}(r:YW vs):kvs.length=vs.length:=Zh r
def dropK_le(kvs:Tn (κ×V))(k:κ):(VS k).length≤kvs.length:=Wv _ _
end
def zhr{P:Nk}{w:Nn}{k:Key}{u:Value}(r:XH u):(WA w).is k u=true:=by
 cases k with
 |inl i=>obtain⟨t,e⟩:=(show ∃t,u=JK t from r);subst e;exact mixKind_int P w i t
 |inr x=>obtain⟨t,e⟩:=(show ∃t,u=WN t from r);subst e;exact zeg P w x t
theorem items_are{P:Nk}{w:Nn}:∀{ks:List Key} {us:Nj},Vals yb us→ItemsAre Cu ks us
 |[],_,r=>by rw[Xr]at r;cases r;exact .nil
 |k::ks,_,r=>by
  rw[Ql]at r;cases r with
  |cons h t=>exact .cons (zhr h) (items_are t)
abbrev KT(H:Hp):List (List Key×V)→List (List Key×Addr×Value)→Prop:=Paired λp q=>p.1=q.1∧H q.2.1=some yR∧De q.2.2
def KT.val{H:Hp}{kvs:List (List Key×V)}{xs:List (List Key×Addr×Value)}(r:K7 xs)(k:List Key):RelO (YO k) ((atKey xs k).map (·.2)):=by
 induction r with
 |nil=>exact True.intro
 | @cons p q ps qs h t ih=>
  obtain⟨h1,_,h2⟩:=h;by_cases e:p.1=k
  ·have e':q.1=k:=h1.symm.trans e;have b:atKey (q::qs) k=some q.2:=by simp[atKey,Ko,e']
   rw[zct e,b];exact h2
  have e':¬ q.1=k:=λz=>e Eu;have b:atKey (q::qs) k=atKey qs k:=by simp[atKey,Ko,e']
  rw[zb2 e,b];exact ih
def KT.repl{H:Hp}{kvs:List (List Key×V)}{xs:List (List Key×Addr×Value)}(r:K7 xs)(k:List Key){y:V}{u:Value}(ry:YC u) :
  KT H (kvs.map λkv=>if kv.1=k then(kv.1,y) else kv) (xs.map (putAt k u)):=by
 induction r with
 |nil=>exact .nil
 |@cons p q ps qs h t ih=>
  rw[Ql,Ql];refine .cons ?_ ih;obtain⟨h1,h2,h3⟩:=h;unfold putAt;by_cases e:p.1=k
  ·rw[if_pos e,if_pos (h1.symm.trans e)];exact⟨h1,h2,ry⟩
  rw[if_neg e,if_neg (λz=>e Eu)];exact⟨h1,h2,h3⟩
def KT.put{H:Hp}{kvs:List (List Key×V)}{xs:List (List Key×Addr×Value)}(r:K7 xs)(k:List Key){b:Nc}{y:V}{u:Value}(hb:RU b LN)(ry:YC u) :
  KT H (YZ k y) (storedH xs k b u):=by
 have e:(kvs.any λkv=>decide (kv.1=k))=(atKey xs k).isSome:=by rw[zih,(r.val k).isSome_eq,Option.isSome_map]
 unfold putK storedH;rw[e];by_cases q:(atKey xs k).isSome=true
 ·rw[if_pos q,if_pos q];exact r.repl k ry
 rw[if_neg q,if_neg q];exact Paired.snoc r ⟨rfl,hb,ry⟩
def KT.keeps{H H':Hp}{kvs:List (List Key×V)}{xs:List (List Key×Addr×Value)}(r:K7 xs)(ht:∀b ys,H b=some Ic→H' b=some Ic):KT H' kvs xs:=
 Paired.mapP r λ_ _ z=>⟨z.1,ht _ _ z.2.1,z.2.2⟩
section
variable{P:Nk}{w:Nn}{H:Hp}{h:No}{a:Nc}
def rd_of{u:HO}(ok:WG h)(e:Bw u):WO u:=e.ok ok
def dk_rd{kvs:List (Key×V)}(ok:WG h)(e:Bw Rg):kvs.length≤sizeLine∧(a==sysModules)=false∧∃vs,YW vs∧h.DictOf Cu a vs:=
 show WO Rg from rd_of ok e
def dk_of{kvs:List (Key×V)}(ok:WG h)(e:Cj Rg):kvs.length≤sizeLine∧(a==sysModules)=false∧∃vs,YW vs∧h.DictOf Cu a vs:=dk_rd ok (HL e)
def zh3{ks:List Key}(ok:WG h)(e:Cj (.tup yb)):(OJ Cu).is h ks a:=by obtain⟨_,a8,r,o,h1,h2,n,h3⟩:=(show WO (.tup yb) from ok a _ e);exact⟨o,a8.toArray,n,h1,h2,h3,by simpa using items_are r⟩
def dt_rd{kvs:List (List Key×V)}(ok:WG h)(e:Bw TX):kvs.length≤sizeLine∧(a == sysModules)=false ∧
  ∃xs,K7 xs∧h.DictOfH (OJ Cu) a xs:=by
 obtain⟨z,y,xs,r,o,es,ep,h1,h2,h3,h4,h5⟩:=(show WO TX from rd_of ok e);refine⟨z,y,xs,r,o,es,ep,h1,h2,h3,h4,λx hx=>?_,h5⟩;have all:∀{l:List (List Key×V)} {m:List (List Key×Addr×Value)},KT H l m→∀x∈m,(OJ Cu).is h x.1 x.2.1:=by
  intro l m q;induction q with
  |nil=>intro x hx;exact nomatch hx
  |@cons p q ps qs hq t ih=>
   intro x hx;rcases Qj.mp hx with e|hx
   ·subst e;exact zh3 ok (by rw[←hq.1];exact hq.2.1)
   exact ih x hx
 exact all r x hx
def dt_of{kvs:List (List Key×V)}(ok:WG h)(e:Cj TX):kvs.length≤sizeLine∧(a==sysModules)=false ∧
  ∃xs,K7 xs∧h.DictOfH (OJ Cu) a xs:=dt_rd ok (HL e)
def DGet(H:Hp)(a:Nc)(y:V)(r:Option V):Prop:=
 (∃kvs k,Bw Rg∧y=kV k∧r=YO k)∨∃kvs k b,Bw TX∧y=.ref b∧H b=some LN∧r=YO k
def DPut(H:Hp)(a:Nc)(y v:V)(H':Hp):Prop:=
 (∃kvs k,H a=some Rg∧y=kV k∧kvs.length<sizeLine∧H'=ZS a (.dK ya)) ∨
 ∃kvs k b,H a=some TX∧y=.ref b∧H b=some LN∧kvs.length<sizeLine∧H'=ZS a (.dT ya)
def DGet.k{H:Hp}{a:Nc}{kvs:List (Key×V)}{k:Key}(e:Cj Rg):XI (kV k) (YO k):=.inl ⟨kvs,k,HL e,rfl,rfl⟩
def DGet.t{H:Hp}{a b:Nc}{kvs:List (List Key×V)}{k:List Key}(e:Cj TX)(eb:RU b LN):XI Io (YO k):=.inr ⟨kvs,k,b,HL e,rfl,eb,rfl⟩
def DPut.k{H:Hp}{a:Nc}{kvs:List (Key×V)}{k:Key}{v:V}(e:Cj Rg)(hl:kvs.length<sizeLine):DPut H a (kV k) v (ZS a (.dK ya)):=.inl ⟨kvs,k,e,rfl,hl,rfl⟩
def DPut.t{H:Hp}{a b:Nc}{kvs:List (List Key×V)}{k:List Key}{v:V}(e:Cj TX)(eb:RU b LN)(hl:kvs.length<sizeLine) :
  DPut H a Io v (ZS a (.dT ya)):=.inr ⟨kvs,k,b,e,rfl,eb,hl,rfl⟩
variable{X:Cx}{a7:Nd}{σ:St}{s:Ni}{y v:V}{u r:Value}{o:Option V}{A:Np}{E:Na}
def Inv.big(I:HI):sysModules<s.heap.objs.size:=by have h:mainGlobals<s.heap.objs.size:=(I.mod.glob.keeps I.bk).lt;exact Ww Hg h
def d_getItem{Q:Na}(hu:A.units+1<cLine)(I:HI)(g:XI y (RH v))(ry:YC u)(h:∀w' s',ZA H s'→YV w'→Q w' s') :
  wpAny Hk A (getItem Rm u) Q E s:=by
 rcases g with⟨kvs,k,e,ey,l⟩|⟨kvs,k,b,e,ey,eb,l⟩
 ·subst ey;obtain⟨z,hd,vs,rel,dd⟩:=JM e;obtain⟨w',hw,cJ⟩:=RelO.some_of (v:=v) (o:=valueAt vs k) (by rw[l];exact rel.val k);exact wpAny_getItem_of Ej dd.mapOf hw (h w' _ Sm cJ)
 subst ey;cases(show u=Value.ref b from ry);obtain⟨z,hd,xs,rel,dd⟩:=Br e;obtain⟨w',hw,cJ⟩:=RelO.some_of (v:=v) (o:=(atKey xs k).map (·.2)) (by rw[l];exact rel.val k);obtain⟨p,hp,ap⟩:=Option.map_eq_some_iff.mp hw;refine wpAny_getItem_heap TJ yc dd hp ?_;rw[ap];exact h w' _ Sm cJ
def d_in{Q:Na}(hu:A.units+1<cLine)(I:HI)(g:XI y o)(ry:YC u)(h:∀s',ZA H s'→Q (.bool o.isSome) s') :
  wpAny Hk A (compareOp .In u Rm) Q E s:=by
 rcases g with⟨kvs,k,e,ey,l⟩|⟨kvs,k,b,e,ey,eb,l⟩
 ·subst ey;obtain⟨z,hd,vs,rel,dd⟩:=JM e;refine wpAny_in_of Ej hd dd.mapOf ?_;rw[←(rel.val k).isSome_eq,←l];exact h _ Sm
 subst ey;cases(show u=Value.ref b from ry);obtain⟨z,hd,xs,rel,dd⟩:=Br e;refine wpAny_in_heap TJ yc hd dd ?_;have q:=(rel.val k).isSome_eq;rw[Option.isSome_map]at q;rw[←q,←l];exact h _ Sm
def d_notIn{Q:Na}(hu:A.units+1<cLine)(I:HI)(g:XI y o)(ry:YC u)(h:∀s',ZA H s'→Q (AH (!o.isSome)) s') :
  wpAny Hk A (compareOp .NotIn u Rm) Q E s:=by
 rcases g with⟨kvs,k,e,ey,l⟩|⟨kvs,k,b,e,ey,eb,l⟩
 ·subst ey;obtain⟨z,hd,vs,rel,dd⟩:=JM e;refine wpAny_notIn_of Ej hd dd.mapOf ?_;rw[←(rel.val k).isSome_eq,←l];exact h _ Sm
 subst ey;cases(show u=Value.ref b from ry);obtain⟨z,hd,xs,rel,dd⟩:=Br e;refine wpAny_notIn_heap TJ yc hd dd ?_;have q:=(rel.val k).isSome_eq;rw[Option.isSome_map]at q;rw[←q,←l];exact h _ Sm
def zfn{h':No}{t':Nat}{ob:HO}(I:HI)(mu:Mut (H a))(hs:U8 h')(he:∃q,h'.get? a=some q)(new:ZY (ZS a ob) h' a ob) :
  Inv X a7 σ (ZS a ob) {s with heap:=h',toks:=t'}:=
 I.write (x:=a) (e:=a) mu RT (λb q hb z=>(OO hb).trans z) he new
def dk_new{P:Nk}{w:Nn}{H':Hp}{h':No}{kvs:List (Key×V)}{vs:List (Key×Value)}(z:kvs.length≤sizeLine)(hd:(a==sysModules)=false)(rel:YW vs)(dd:h'.DictOf Cu a vs) :
  zbg P w H' h' a Rg:=⟨z,hd,vs,rel,dd⟩
def d_setItem{H':Hp}{Q:Unit→Shared→Prop}(hu:A.units+1<cLine)(I:HI)(g:DPut H a y v H')(ry:YC u)(rv:YV r)(h:∀s',ZA H' s'→Q () s') :
  wpAny Hk A (setItem Rm u r) Q E s:=by
 rcases g with⟨kvs,k,e,ey,l,eH⟩|⟨kvs,k,b,e,ey,eb,l,eH⟩
 ·subst ey eH;obtain⟨z,hd,vs,rel,dd⟩:=XJ e;have hz:vs.length≤sizeLine:=by rw[←rel.length];exact z
  have hl:(YZ k v).length≤sizeLine:=by have:=zei kvs k v;exact Zn ‹_› ‹_›
  refine wpAny_setItem_pairs (hsz:=hz) Ej dd λh' dl hs=>h _ ?_;have he:∃q,h'.get? a=some q:=let⟨q,_,_,hq,_⟩:=dl;⟨q,hq⟩;exact zfn I (by rw[e];exact True.intro) hs he (dk_new hl hd (rel.put k rv) dl)
 subst ey eH;cases(show u=Value.ref b from ry);obtain⟨z,hd,xs,rel,dd⟩:=dt_of I.hok e;have hz:xs.length≤sizeLine:=by rw[←Zh rel];exact z
 have hl:(YZ k v).length≤sizeLine:=by have:=zei kvs k v;exact Zn ‹_› ‹_›
 refine wpAny_setItem_heap (hsz:=hz) TJ yc dd λh' dl hs=>h _ ?_;obtain⟨q,es,ep,hq,h2,h3,h4,_,h5⟩:=dl;refine zfn I (by rw[e];exact True.intro) hs ⟨q,hq⟩ ⟨hl,hd,_,(rel.put k eb rv).keeps λc ys ec=>?_,q,es,ep,hq,h2,h3,h4,h5⟩;rw[zaf (zax ec e (λz=>nomatch z))];exact ec
variable{kvs:List (Key×V)}{k:Key}
def d_delItem{Q:Unit→Shared→Prop}(I:HI)(e:Cj Rg)(ry:XH u)(l:(YO k).isSome=true)(h:∀s',ZA (ZS a A5) s'→Q () s') :
  wpAny Hk A (delItem Rm u) Q E s:=by
 obtain⟨z,hd,vs,rel,dd⟩:=XJ e;refine wpAny_delItem_slot dd.typeIs Hg PySem.F.slot_dict_delitem
  (call_meetsIn PySem.F.slot_dict_delitem dd.typeIs PySem.F.entry_dict_delitem (PySem.F.args_dict_delitem_2 _ _) (meets_dict_delitem_pairs Ta a Ej) ⟨vs,dd,by rw[←rel.length];exact z,by rw[←(rel.val k).isSome_eq];exact l,λh' dl hs=>h _ ?_⟩)
 have he:∃q,h'.get? a=some q:=let⟨q,_,_,hq,_⟩:=dl;⟨q,hq⟩;exact zfn I (by rw[e];exact True.intro) hs he (Bx dl)
def d_pop{v:V}{more:Nj}{Q:Na}(I:HI)(e:Cj Rg)(ry:XH u)(l:YO k=some v)(hm:more=[]∨∃x,more=[x])(h:∀w' s',ZA (ZS a A5) s'→YV w'→Q w' s'):ZF A (call (.builtin "dict.pop") (.ref a::u::more)) Q E s:=by
 obtain⟨z,hd,vs,rel,dd⟩:=XJ e;obtain⟨w',hw,cJ⟩:=RelO.some_of (v:=v) (o:=valueAt vs k) (by rw[←l];exact rel.val k);have hp:(keyPart u).isSome=true:=by
  cases k with
  |inl i=>obtain⟨t,q⟩:=(show ∃t,u=JK t from ry);subst q;rfl
  |inr x=>obtain⟨t,q⟩:=(show ∃t,u=WN t from ry);subst q;rfl
 have ha:argsOk "dict.pop" ⟨.ref a::u::more,[]⟩:=by
  rcases hm with q|⟨x,q⟩
  ·subst q;exact PySem.F.args_dict_pop_2 _ _
  subst q;exact VT _
 refine call_meetsIn PySem.F.slot_dict_pop dd.typeIs PySem.F.entry_dict_pop ha (meets_dict_pop_there Ta a Ej more hm hp)
  ⟨vs,w',dd,by rw[←rel.length];exact z,hw,λh' dl hs=>h w' _ ?_ cJ⟩
 have he:∃q,h'.get? a=some q:=let⟨q,_,_,hq,_⟩:=dl;⟨q,hq⟩;exact zfn I (by rw[e];exact True.intro) hs he (Bx dl)
def d_popD{r:Value}{Q:Na}(I:HI)(e:Cj Rg)(ry:XH u)(l:YO k=none)(h:∀s',ZA H s'→Q r s') :
  wpAny Hk A (call (.builtin "dict.pop") [Rm,u,r]) Q E s:=by
 obtain⟨z,hd,vs,rel,dd⟩:=XJ e;have hn:valueAt vs k=none:=RelO.none_of (by rw[←l];exact rel.val k);have hp:(keyPart u).isSome=true:=by
  cases k with
  |inl i=>obtain⟨t,q⟩:=(show ∃t,u=JK t from ry);subst q;rfl
  |inr x=>obtain⟨t,q⟩:=(show ∃t,u=WN t from ry);subst q;rfl
 exact call_meetsIn PySem.F.slot_dict_pop dd.typeIs PySem.F.entry_dict_pop (VT _) (meets_dict_pop_default Ta a Ej hd hp r) ⟨vs,dd,hn,h _ Sm⟩
def d_len{Q:Na}(I:HI)(e:Bw Rg)(h:∀t s',ZA H s'→Q (.int kvs.length t) s'):ZF A (call (.builtin "len") [Rm]) Q E s:=by obtain⟨z,hd,vs,rel,dd⟩:=JM e;refine call_len_dict hd dd (by rw[←rel.length];rw[sizeLine_eq]at z;lia) ?_;rw[←rel.length];exact h _ _ Sm
def NoSl(i:Expr):Prop:=∀ov iv,subscripted i false ov iv=operate [ov,iv] (getItem ov iv)
end
def subD_of{prog:Nk}{w:Nn}{A:Np}{E:Na}{s:Ni}{env:Env}{value slice:Expr}{pos:Pos}{T id:String}{Q:Na}(hl:typeLookup Ib "__getitem__" = pure (RH Ci))(hs:NoSl slice)(h:ZG (eval value env) (λo s₁=>ZG (eval slice env) (λi s₂=>s₂.TypeIs o T∧ZG (getItem o i) Q E s₂) E s₁) E s) :
  wpAny HH A (Ep (.Subscript value slice pos)) Q E s:=by
 refine Subscript_ (wpAny_mono h (λo s₁ h₁=>VJ (λi s₂ h₂=>?_) λ_ _ x=>x) λ_ _ x=>x);obtain⟨hT,h₂⟩:=h₂;unfold subscriptTail;refine wpAny_bind ?_;rw[getitemInPython_of_ne hT.not_modules];refine wpAny_bind (wpAny_specialOf hT hl ?_);have fin:ZG (subscripted slice false o i) (λr s₃=>ZG (letTemporaryGo value o r >>= λ_=>pure r) Q E s₃) E s₂:=by rw[hs o i];exact wpAny_operating (VL (λr s₃ h₃=>wpAny_bind (wpAny_letTemporaryGo (RP h₃))) λ_ _ x=>x)
 first
  |exact wpAny_pure (wpAny_bind fin)
  |exact wpAny_bind (wpAny_pure (wpAny_bind fin))
  |exact wpAny_bind fin
def dict_typeIs{X:Cx}{a7:Nd}{σ:St}{H:Hp}{s:Ni}{a:Nc}{y:V}{o:Option V}(I:HI)(g:XI y o):s.TypeIs Rm "dict" :=by
 rcases g with⟨kvs,k,e,_,_⟩|⟨kvs,k,b,e,_,_,_⟩
 ·obtain⟨_,_,vs,_,dd⟩:=JM e;exact dd.typeIs
 obtain⟨_,_,xs,_,dd⟩:=Br e;exact dd.typeIs
inductive RDG(x y:V)(H:Hp)(Q:VK):Prop
 |mk (a:Nc) (v:V) (e:x=.ref a) (g:DGet H a y (some v)) (q:Q v H):RDG x y H Q
inductive RDI(x y:V)(H:Hp)(R:Option V→Prop):Prop
 |mk (a:Nc) (o:Option V) (e:x=.ref a) (g:DGet H a y o) (q:R o):RDI x y H R
inductive RDP(x y v:V)(H:Hp)(N:Hp→Prop):Prop
 |mk (a:Nc) (H4:Hp) (e:x=.ref a) (p:DPut H a y v H4) (q:N H4):RDP x y v H N
def tDGet(td ty:TE):TE:=λ σ H Q=>td σ H λx H1=>ty σ H1 λy H2=>RDG x y H2 Q
def tDIn(ty td:TE):TE:=λ σ H Q=>ty σ H λy H1=>td σ H1 λx H2=>RDI x y H2 λo=>Q (.bl o.isSome) H2
def tDNotIn(ty td:TE):TE:=λ σ H Q=>ty σ H λy H1=>td σ H1 λx H2=>RDI x y H2 λo=>Q (.bl (!o.isSome)) H2
def sDPut(td ty tv:TE):TS:=λD σ H=>tv σ H λv H1=>td σ H1 λx H2=>ty σ H2 λy H3=>RDP x y v H3 (D.nx σ)
section
variable{X:Cx}{o i e value:Expr}{pos bi tpos:Pos}{td ty tv:TE}
def pe_dget(hu:X.A.units+1<cLine)(ho:O6)(hi:yL)(hs:NoSl i):Z7 z0 (tDGet td ty):=by intro a7 s σ H Q I h;refine subD_of PySem.F.slot_dict_getitem.lookup hs (thn Tu λu s1 ⟨x,H1,I1,rx,q1⟩=>thn Ap λiv s2 ⟨y,H2,I2,ry,a,v,ex,g,q2⟩=>?_);subst ex;obtain rfl:u=Value.ref a:=rx;exact⟨dict_typeIs I2 g,d_getItem hu I2 g ry λw' s3 I3 cJ=>⟨v,H2,I3,cJ,q2⟩⟩
def pc_din(hu:X.A.units+1<cLine)(hi:yL)(ho:O6):PC X .In i o (tDIn ty td):=by intro a7 s σ H Q I h;refine thn SY λiv s1 ⟨y,H1,I1,ry,q1⟩=>thn Eb λu s2 ⟨x,H2,I2,rx,a,ov,ex,g,q2⟩=>?_;subst ex;obtain rfl:u=Value.ref a:=rx;exact d_in hu I2 g ry λs3 I3=>⟨.bl ov.isSome,H2,I3,rfl,q2⟩
def ze0(hu:X.A.units+1<cLine)(hi:yL)(ho:O6):PC X .NotIn i o (tDNotIn ty td):=by intro a7 s σ H Q I h;refine thn SY λiv s1 ⟨y,H1,I1,ry,q1⟩=>thn Eb λu s2 ⟨x,H2,I2,rx,a,ov,ex,g,q2⟩=>?_;subst ex;obtain rfl:u=Value.ref a:=rx;exact d_notIn hu I2 g ry λs3 I3=>⟨.bl (!ov.isSome),H2,I3,rfl,q2⟩
def zec(hu:X.A.units+1<cLine)(ho:O6)(hi:yL)(hv:Z7 value tv)(hs:swapsWith value (RH (.Subscript o i bi)) pos.line X.env=pure false) :
  PS X (.Assign [.Subscript o i bi] value pos) (sDPut td ty tv):=by
 intro a7 s σ H D I h;refine wpAny_Assign_Subscript (thn z6 λr s1 ⟨v,H1,I1,rv,q1⟩=>thn Eb λu s2 ⟨x,H2,I2,rx,q2⟩=>thn (hi a7 s2 σ H2 _ I2 q2) λiv s3 ⟨y,H3,I3,ry,a,H4,ex,g,q3⟩=>?_) hs;subst ex;obtain rfl:u=Value.ref a:=rx;exact d_setItem hu I3 g ry rv λs4 I4=>⟨σ,H4,I4,q3⟩
def dk_empty{P:Nk}{w:Nn}{H:Hp}(h:No)(hb:sysModules<h.objs.size):Y5 H (h.push {cls:=.type "dict",data:=.dict #[]}) h.objs.size (.dK []):=
 ⟨Tq,ES (Zd (Zi hb)),[],.nil,Heap.DictOf.new h⟩
def dt_empty{P:Nk}{w:Nn}{H:Hp}(h:No)(hb:sysModules<h.objs.size):Y5 H (h.push {cls:=.type "dict",data:=.dict #[]}) h.objs.size (.dT []):=
 ⟨Tq,ES (Zd (Zi hb)),[],.nil,_,#[],0,Tc,⟨rfl,rfl,rfl⟩,rfl,rfl,Zs⟩
def tDNewK:TE:=λ_ H Q=>∀p,H p=none→Q TR (ZS p (.dK []))
def tDNewT:TE:=λ_ H Q=>∀p,H p=none→Q TR (ZS p (.dT []))
def pe_dnewK:Z7 (.Dict [] [] pos) tDNewK:=λa7 s σ H Q I h=>wpAny_Dict_empty ⟨Hr,_,I.laid (a:=s.heap.objs.size) (o:=.dK []) (t':=s.toks) (λ_ _ q=>QQ q) HM AI,rfl,h _ SL⟩
def pe_dnewT:Z7 (.Dict [] [] pos) tDNewT:=λa7 s σ H Q I h=>wpAny_Dict_empty ⟨Hr,_,I.laid (a:=s.heap.objs.size) (o:=.dT []) (t':=s.toks) (λ_ _ q=>QQ q) HM (dt_empty s.heap I.big),rfl,h _ SL⟩
end
def tPairs:List (TE×TE)→St→Hp→(List (V×V)→Hp→Prop)→Prop
 |[],_,H,Q=>Q [] H
 |(tk,tv)::r,σ,H,Q=>tk σ H λx H1=>tv σ H1 λy H2=>tPairs r σ H2 λps H3=>Q ((x,y)::ps) H3
abbrev VV:List (V×V)→List (Value×Value)→Prop:=Paired λp q=>RelV p.1 q.1∧De q.2
def PPs(X:Cx)(pos:Pos)(keys:Tn Ar)(values:Nr)(trs:Tn (TE×TE)):Prop:=
 ∀(a7:Nd) (s:Ni) (σ:St) (H:Hp) (Q:List (V×V)→Hp→Prop),ZA H s→tPairs trs σ H Q →
  wpAny Hk X.A (evalPairs (pairTrees keys values X.env pos)) (λvs s'=>∃ps H',ZA H' s'∧VV ps vs∧Q ps H') X.xe s
def pps_nil{X:Cx}{pos:Pos}:Gm [] [] []:=λa7 s σ H Q I h=>pairTrees_nil_walk ⟨[],H,I,.nil,h⟩
def pps_cons{X:Cx}{pos:Pos}{k v:Expr}{ks:List Ar}{vs:Nr}{tk tv:TE}{trs:List (TE×TE)}(hk:Z7 k tk)(hv:Z7 v tv)(hr:Gm ks vs trs) :
  PPs X pos (some k::ks) (v::vs) ((tk,tv)::trs):=λa7 s σ H Q I h=>
 pairTrees_cons_walk (thn (hk a7 s σ H _ I h) λu s1 ⟨x,H1,I1,rx,q1⟩=>thn (hv a7 s1 σ H1 _ I1 q1) λw2 s2 ⟨y,H2,I2,ry,q2⟩=>thn (hr a7 s2 σ H2 _ I2 q2) λws s3 ⟨ps,H3,I3,rel,q3⟩=>⟨(x,y)::ps,H3,I3,yY ⟨rx,ry⟩ rel,q3⟩)
def zh2(kvs more:Tn (Key×V)):List (Key×V):=more.foldl (λai kv=>putK ai kv.1 kv.2) kvs
def KV.merge:∀{more:List (Key×V)} {rs:List (Key×Value)} {kvs:List (Key×V)} {vs:List (Key×Value)},KV more rs→YW vs→KV (zh2 kvs more) (merged vs rs):=by
 intro more rs kvs vs r;unfold KV at r;induction r generalizing kvs vs with
 |nil=>intro q;exact q
 |@cons p q ps qs h t ih=>
  intro r0;have e:KV A6 (stored vs q.1 q.2):=by have:=r0.put p.1 h.2;rw[←h.1];exact this
  exact ih e
theorem ze5:∀(more kvs:Tn (Key×V)),(zh2 kvs more).length≤kvs.length+more.length
 |[],kvs=>by show kvs.length≤kvs.length+0;exact Qi _
 |p::r,kvs=>by have h1:=ze5 r A6;have h2:=zei kvs p.1 p.2;show(zh2 A6 r).length≤_;rw[Zk];lia
theorem zia{P:Nk}{w:Nn}:∀{kvs:List (Key×V)} {ws:List (Value×Value)},VV (kvs.map λkv=>(kV kv.1,kv.2)) ws→∃rs,Carries Cu ws rs∧YW rs
 |[],_,r=>by rw[Xr]at r;cases r;exact⟨[],True.intro,.nil⟩
 |p::kvs,_,r=>by
  rw[Ql]at r;cases r with
  |@cons a b as bs h t=>obtain⟨rs,c,q⟩:=zia (P:=P) (w:=w) t;obtain⟨b1,b2⟩:=b;exact⟨(p.1,b2)::rs,⟨zhr h.1,rfl,c⟩,.cons ⟨rfl,h.2⟩ q⟩
def tDisp(trs:Tn (TE×TE)):TE:=λ σ H Q=>∀p,H p=none→tPairs trs σ (ZS p (.dK [])) λps H2=>H2 p=some (.dK [])∧∃kvs:List (Key×V),ps=kvs.map (λkv=>(kV kv.1,kv.2))∧kvs.length≤15∧Q TR (Q3 p (.dK (zh2 [] kvs)))
def pe_disp{X:Cx}{pos:Pos}{keys:List Ar}{values:Nr}{trs:List (TE×TE)}(h:Gm keys values trs)(am:keys.all (·.isSome)=true)(hl:keys.length=values.length)(h0:keys≠[])(h15:keys.length≤15):Z7 (.Dict keys values pos) (tDisp trs):=by
 intro a7 s σ H Q I q;have hn:=I.hok.fresh (Qi s.heap.objs.size);have I1:=I.laid (a:=s.heap.objs.size) (o:=.dK []) (h':=s.heap.push {cls:=.type "dict",data:=.dict #[]}) (t':=s.toks) (λ_ _ q=>QQ q) HM AI;refine wpAny_Dict_walk (knd:=Z0 X.w) am hl h0 h15 (thn (h a7 _ σ _ _ I1 (q _ hn)) λws s2 ⟨ps,H2,I2,rel,e,kvs,ep,lk,q2⟩=>?_);subst ep;obtain⟨rs,c,rk⟩:=zia (P:=X.prog) (w:=X.w) rel;obtain⟨z,hd,vs0,r0,dd⟩:=dk_of I2.hok e;cases r0;refine⟨rs,c,dd,λh' dl hs=>⟨Hr,_,?_,rfl,q2⟩⟩;have hz:(zh2 [] kvs).length≤sizeLine:=by have h1:=ze5 kvs [];rw[Kb]at h1;rw[sizeLine_eq];lia
 have he:∃q,h'.get? s.heap.objs.size=some q:=let⟨q,_,_,hq,_⟩:=dl;⟨q,hq⟩;exact zfn I2 (by rw[e];exact True.intro) hs he (dk_new hz hd (rk.merge .nil) dl)
structure M2(X:Cx)(o:Expr)(m:Str)(apos:Pos)(e f:Expr)(cpos:Pos):Prop where
 base:attributeBase o m X.env (Rj o)=eval o X.env
 few:((IS (starEach [e,f] X.env)).all (λx=>!x.1)&&(backToKw cpos (keywordEach [] X.env)).all (λx=>x.1.isSome)
  && decide (([e,f]:List Expr).length+([]:List Keyword).length+(if([]:List Keyword).isEmpty then 0 else 1)<30))=true
 line:(apos.endLine==cpos.line)=true
 trees:backTo cpos (starEach [e,f] X.env)=[(false,IN),(false,Rj f)]
def IsD(H:Hp)(a:Nc):Prop:=(∃kvs,Bw Rg)∨∃kvs,Bw TX
def isD_at{X:Cx}{a7:Nd}{σ:St}{H:Hp}{s:Ni}{a:Nc}(I:HI)(d:IsD H a) :
  s.TypeIs Rm "dict" ∧ (∀b,Value.ref a=.ref b→∃ob,s.heap.get? b=some ob∧ob.dict=none)∧(a==sysModules)=false:=by
 rcases d with⟨kvs,e⟩|⟨kvs,e⟩
 ·obtain⟨_,hd,vs,_,dd⟩:=JM e;refine⟨dd.typeIs,λb q=>?_,hd⟩;cases q;obtain⟨ob,_,_,h1,h2,_⟩:=dd;exact⟨ob,h1,h2.2.1⟩
 obtain⟨_,hd,xs,_,dd⟩:=Br e;refine⟨dd.typeIs,λb q=>?_,hd⟩;cases q;obtain⟨ob,_,_,h1,h2,_⟩:=dd;exact⟨ob,h1,h2.2.1⟩
section
variable{X:Cx}{a7:Nd}{σ:St}{H:Hp}{s:Ni}{a:Nc}{y d:V}{u r:Value}{o:Option V}{A:Np}{E:Na}
def d_get2{Q:Na}(hu:A.units+1<cLine)(I:HI)(g:XI y o)(ry:YC u)(rd:RelV d r)(h:∀w' s',ZA H s'→RelV (o.getD d) w'→Q w' s') :
  wpAny Hk A (call (.builtin "dict.get") [Rm,u,r]) Q E s:=by
 rcases g with⟨kvs,k,e,ey,l⟩|⟨kvs,k,b,e,ey,eb,l⟩
 ·subst ey;obtain⟨z,hd,vs,rel,dd⟩:=JM e;refine call_meetsIn PySem.F.slot_dict_get dd.typeIs PySem.F.entry_dict_get (VU _) (meets_dict_get_default Ta a Ej hd r) ⟨_,dd.mapOf,h _ _ Sm ?_⟩;rw[l];exact(rel.val k).getD rd
 subst ey;cases(show u=Value.ref b from ry);obtain⟨z,hd,xs,rel,dd⟩:=Br e;refine call_meetsIn PySem.F.slot_dict_get dd.typeIs PySem.F.entry_dict_get (VU _) (meetsH_dict_get_default (OJ Ta) a b hd r) ⟨TJ,k,xs,yc,dd,h _ _ Sm ?_⟩;rw[l];exact(rel.val k).getD rd
def tDGet2(td ty tx:TE):TE:=λ σ H Q=>td σ H λx H1=>∃a,x=.ref a∧IsD H1 a∧ty σ H1 λy H2=>tx σ H2 λz H3=>∃o,DGet H3 a y o∧Q (o.getD z) H3
def tDPop2(td ty tx:TE):TE:=λ σ H Q=>td σ H λx H1=>∃a,x=.ref a∧IsD H1 a∧ty σ H1 λy H2=>tx σ H2 λz H3=>∃kvs k,H3 a=some Rg∧y=kV k ∧
 (∀v,YO k=some v→Q v (QX a A5))∧(YO k=none→Q z H3)
end
section
variable{X:Cx}{o e f:Expr}{apos cpos:Pos}{td ty tx:TE}
def pe_dget2(hu:X.A.units+1<cLine)(ho:O6)(he:Z7 e ty)(hf:Z7 f tx)(m:M2 X o "get" apos e f cpos):Z7 (.Call (.Attribute o "get" apos) [e,f] [] cpos) (tDGet2 td ty tx):=by intro a7 s σ H Q I h;refine U5 PySem.F.slot_dict_get PySem.F.type_dict_get (thn Tu λu s1 ⟨x,H1,I1,rx,a,ex,d,q1⟩=>?_);subst ex;obtain rfl:u=Value.ref a:=rx;obtain⟨t1,t2,_⟩:=isD_at I1 d;refine⟨t1,t2,?_⟩;rw[m.trees];refine Xk rfl (Xu (Kd (thn As λiv s2 ⟨y,H2,I2,ry,q2⟩=>Kd (thn Au λfv s3 ⟨z,H3,I3,rz,ov,g,q3⟩=>Calls.spliced_nil ?_))));exact d_get2 hu I3 g ry rz λw' s4 I4 cJ=>⟨_,H3,I4,cJ,q3⟩
def pe_dpop2(ho:O6)(he:Z7 e ty)(hf:Z7 f tx)(m:M2 X o "pop" apos e f cpos):Z7 (.Call (.Attribute o "pop" apos) [e,f] [] cpos) (tDPop2 td ty tx):=by
 intro a7 s σ H Q I h;refine U5 PySem.F.slot_dict_pop PySem.F.type_dict_pop (thn Tu λu s1 ⟨x,H1,I1,rx,a,ex,d,q1⟩=>?_);subst ex;obtain rfl:u=Value.ref a:=rx;obtain⟨t1,t2,_⟩:=isD_at I1 d;refine⟨t1,t2,?_⟩;rw[m.trees];refine Xk rfl (Xu (Kd (thn As λiv s2 ⟨y,H2,I2,ry,q2⟩=>Kd (thn Au λfv s3 ⟨z,H3,I3,rz,kvs,k,ea,ey,q3,q4⟩=>Calls.spliced_nil ?_))));subst ey;cases l:YO k with
 |some v=>exact d_pop I3 ea ry l (SK ⟨fv,rfl⟩) λw' s4 I4 cJ=>⟨v,_,I4,cJ,q3 v l⟩
 |none=>exact d_popD I3 ea ry l λs4 I4=>⟨z,H3,I4,rz,q4 l⟩
end
end L2
namespace HT
open PySem PyProof.Rows
section
variable{prog:Nk}{w:Nn}{A:Np}{E:Na}{s:Ni}
def sIx(n d:Nat):Option Int→Nat
 |none=>d
 |some v=>if v<0 then(v+(n:Int)).toNat else min v.toNat n
def sIx_nat(n d k:Nat):sIx n d (some (k:Int))=min k n:=by show(if(k:Int)<0 then((k:Int)+(n:Int)).toNat else min (k:Int).toNat n)=min k n;rw[if_neg Hc,Ul]
end
end HT
namespace L2
open PySem PySem.Spec PyProof.Rows
abbrev TO:=St→Hp→(Option Int→Hp→Prop)→Prop
def PO(X:Cx)(e:Option Expr)(t:TO):Prop:=
 ∀(a7:Nd) (s:Ni) (σ:St) (H:Hp) (Q:Option Int→Hp→Prop),ZA H s→t σ H Q →
  wpAny Hk X.A (evalPart e X.env) (λu s'=>∃o H',ZA H' s'∧IsPart u o∧Q o H') X.xe s
def tNoPart:TO:=λ_ H Q=>Q none H
inductive RPt(x:V)(R:Int→Prop):Prop
 |mk (i:Int) (e:x=.int i) (q:R i):RPt x R
def tPart(t:TE):TO:=λ σ H Q=>t σ H λx H1=>RPt x λi=>Q (RH i) H1
section
variable{X:Cx}{e:Expr}{te:TE}{lo hi:Option Expr}{tl th:TO}{pos p2:Pos}
def zbx:PO X none tNoPart:=by intro a7 s σ H Q I h;rw[evalPart_none];exact wpAny_pure ⟨none,H,I,.none,h⟩
def zb3(h:CU):PO X (RH e) (tPart te):=by intro a7 s σ H Q I hw;rw[evalPart_some];refine thn (CB _ hw) λu s1 ⟨x,H1,I1,r1,q1⟩=>?_;obtain⟨i,rfl,q⟩:=q1;obtain⟨t,rfl⟩:=r1;exact⟨RH i,H1,I1,Lj i t,q⟩
def SlR(X:Cx)(r:V→Option Int→Option Int→Hp→VK→Prop):Prop:=
 ∀(a7:Nd) (s:Ni) (σ:St) (H:Hp) (x:V) (v vl vu:Value) (lo hi:Option Int) (sl:Nc) (Q:VK),ZA H s→WK v→s.heap.IsSliceOf sl vl vu .none→IsPart vl lo→IsPart vu hi→r x lo hi H Q →
  ∃T id,typeLookup Ib "__getitem__" = pure (RH Ci)∧s.TypeIs v T∧ZE (getItem v (Hf sl)) LJ X.xe s
def tSl(r:V→Option Int→Option Int→Hp→VK→Prop)(te:TE)(tl th:TO):TE:=λ σ H Q=>te σ H λx H1=>tl σ H1 λl H2=>th σ H2 λu H3=>r x l u H3 Q
def zbr{r:V→Option Int→Option Int→Hp→VK→Prop}(hr:SlR X r)(he:CU)(hl:PO X lo tl)(hu:PO X hi th):Z7 (Lb e A7) (tSl r te tl th):=by intro a7 s σ H Q I h;refine Subscript_ (thn So λv s1 ⟨x,H1,I1,r1,q1⟩=>?_);refine wpAny_Slice (thn (hl a7 s1 σ H1 _ I1 q1) λvl s2 ⟨l,H2,I2,pl,q2⟩=>thn (hu a7 s2 σ H2 _ I2 q2) λvu s3 ⟨u,H3,I3,pu,q3⟩=>?_);rw[evalPart_none];refine wpAny_pure ?_;have I4:ZA H3 {s3 with heap:=s3.heap.push {cls:=.type "slice",data:=.fields #[vl,vu,.none]}}:=I3.kept (t':=s3.toks) λb ob q=>QQ q;obtain⟨T,id,hT,ht,hg⟩:=hr a7 {s3 with heap:=s3.heap.push {cls:=.type "slice",data:=.fields #[vl,vu,.none]}} σ H3 x v vl vu l u s3.heap.objs.size Q I4 r1 (Heap.IsSliceOf.new ..) pl pu q3;show ZE (subscriptTail e A7 v A8) LJ X.xe {s3 with heap:=s3.heap.push {cls:=.type "slice",data:=.fields #[vl,vu,.none]}};exact tail_any (ops:=[A8,v]) ht hT hg (by with_unfolding_all rfl)
def cutV(xs:List V)(lo hi:Option Int):List V:=(xs.drop (QU 0 lo)).take (QU xs.length hi-QU 0 lo)
def zcr(xs:List V)(lo hi:Option Int):(FE lo hi).length≤xs.length:=by unfold cutV;rw[Za,Yu];lia
def ixN(n:Nat)(i:Int):Option Nat:=if 0≤i then(if i<n then some i.toNat else none) else if -(n:Int)≤i then some (i+n).toNat else none
def atI{α:Type}(xs:List α)(i:Int):Option α:=(MQ i).bind λj=>xs[j]?
def ixN_seq{n:Nat}{i:Int}{j:Nat}(h:ixN n i=some j):seqIndex? i n=some j∧j<n∧-(n:Int)≤i∧i<n:=by
 unfold ixN at h;by_cases h0:0≤i
 ·rw[Sk h0]at h;by_cases h1:i<n
  ·rw[Sk h1]at h;have e:i.toNat=j:=Qn h;exact⟨by rw[seqIndex_of h0 h1,e],Hc,Hc,h1⟩
  rw[if_neg h1]at h;cases h
 rw[Sz h0]at h;by_cases h1:-(n:Int)≤i
 ·rw[Sk h1]at h;have e:(i+n).toNat=j:=Qn h;exact⟨by rw[seqIndex_neg Hc h1,e],Hc,h1,Hc⟩
 rw[if_neg h1]at h;cases h
def atI_get{α:Type}{xs:List α}{i:Int}{v:α}(h:atI xs i=some v):∃j,seqIndex? i xs.length=some j∧xs[j]?=some v∧j<xs.length∧-(xs.length:Int)≤i∧i<xs.length:=by
 unfold atI at h;cases e:MQ i with
 |none=>rw[e]at h;cases h
 |some j=>rw[e]at h;obtain⟨h1,h2,h3,h4⟩:=ixN_seq e;exact⟨j,h1,h,h2,h3,h4⟩
def zav{α:Type}{xs:List α}{j:Nat}{v:α}(h:xs[j]?=some v):atI xs (j:Int)=some v:=by
 have hj:j<xs.length:=(Cm h).1;have e:MQ (j:Int)=some j:=by unfold ixN;rw[if_pos Hc,if_pos (by exact zar9 ‹_›)];simp
 unfold atI;rw[e];exact h
def PlainIx(b:Expr):Prop:=∀o i,subscripted b false o i=operate [o,i] (getItem o i)
def IxR(X:Cx)(r:R2):Prop:=
 ∀(value slice:Expr) (a7:Nd) (s:Ni) (σ:St) (H:Hp) (x y:V) (v u:Value) (Q:VK),ZA H s→WK v→YC u→r x y H Q →
  subscripted slice false v u=operate [v,u] (getItem v u)→ZE (subscriptTail value slice v u) LJ X.xe s
def MtR(X:Cx)(id:String)(r:V→List V→Hp→VK→Prop):Prop:=
 ∀(a7:Nd) (s:Ni) (σ:St) (H:Hp) (x:V) (xs:List V) (v:Value) (us:Nj) (Q:VK),ZA H s→WK v→Q5 us→r x xs H Q →
  wpAny Hk X.A (Fb (v::us)) LJ X.xe s
variable{a b:Expr}{ta tb:TE}
def za9{r:R2}(hr:FG r)(ha:LZ)(hb:Iz)(hs:PlainIx b):Z7 (Lb a b) (Di tb):=by intro a7 s σ H Q I h;exact Subscript_ (NE h λv u s2 x y H2 I2 rx ry q=>hr a b a7 s2 σ H2 x y v u Q I2 rx ry q (hs _ _))
inductive RrIxL(K:Nb)(x:V)(y:V)(H:Hp)(Q:VK):Prop
 |mk (p:_) (xs:_) (i:_) (v:_) (h0:x=.ref p) (h1:y=.int i) (h2:SqL K H p xs) (h3:atI xs i=some v) (h4:Q v H):RrIxL K x y H Q
def rIxL(K:Nb):R2:=λx y H Q=>RrIxL K x y H Q
inductive RrIxT(K:Nb)(x:V)(y:V)(H:Hp)(Q:VK):Prop
 |mk (p:_) (xs:_) (i:_) (v:_) (h0:x=.ref p) (h1:y=.int i) (h2:SqT K H p xs) (h3:atI xs i=some v) (h4:Q v H):RrIxT K x y H Q
def rIxT(K:Nb):R2:=λx y H Q=>RrIxT K x y H Q
inductive RrIxS(x:V)(y:V)(H:Hp)(Q:VK):Prop
 |mk (z:_) (i:_) (c:_) (h0:x=.str z) (h1:y=.int i) (h2:z.length≤sizeLine) (h3:atI z.cps.toList i=some c) (h4:Q (.str ⟨#[c]⟩) H):RrIxS  x y H Q
def rIxS:R2:=λx y H Q=>RrIxS  x y H Q
def zar:FG (rIxL X.K):=by
 intro value slice a7 s σ H x y v u Q I rx ry h hs;obtain⟨p,xs,i,z,rfl,rfl,hq,he,q⟩:=h;cases rx;obtain⟨t,rfl⟩:=ry;obtain⟨a8,r,pl,hz⟩:=I.list hq;obtain⟨j,h1,h2,h3,h4,h5⟩:=atI_get he;obtain⟨w,ew,cJ⟩:=r.get h2;have hl:=r.length;have hn:=ze3;have fin:QC Q w s:=⟨z,H,I,cJ,q⟩;by_cases h0:0≤i
 ·have hj:i.toNat=j:=by rw[seqIndex_of h0 h5]at h1;exact Qn h1
  exact item_listR pl.isList h0 Hc (by rw[hj];simpa using ew) fin hs
 have hj:(i+(a8.toArray.size:Int)).toNat=j:=by rw[seqIndex_neg Hc h4]at h1;rw[Qt,←hl];exact Qn h1
 exact subscriptTail_builtinR (x:=w) pl.isList.typeIs slot_list_getitem.lookup
  (wpAny_getItem_list_neg (Q:=λr s'=>r=w∧QC Q r s') pl.isList Hc (by rw[Qt]<;>lia) Hc (by rw[hj];simpa using ew) ⟨rfl,fin⟩) hs
def ze6:FG (rIxT X.K):=by
 intro value slice a7 s σ H x y v u Q I rx ry h hs;obtain⟨p,xs,i,z,rfl,rfl,hq,he,q⟩:=h;cases rx;obtain⟨t,rfl⟩:=ry;obtain⟨a8,r,pl,hz⟩:=I.tuple hq;obtain⟨j,h1,h2,h3,h4,h5⟩:=atI_get he;obtain⟨w,ew,cJ⟩:=r.get h2;have hl:=r.length;have hn:=ze3;have fin:QC Q w s:=⟨z,H,I,cJ,q⟩;exact subscriptTail_builtinR (x:=w) pl.typeIs slot_tuple_getitem.lookup
  (getItem_tuple (j:=j) (Q:=λr s'=>r=w∧QC Q r s') pl Hc Hc (by rw[Qt,←hl];exact h1) (Hd ew) ⟨rfl,fin⟩) hs
def ix_str:FG rIxS:=by
 intro value slice a7 s σ H x y v u Q I rx ry h hs;obtain⟨z,i,c,rfl,rfl,hz,he,q⟩:=h;obtain⟨t,rfl⟩:=rx;obtain⟨t',rfl⟩:=ry;obtain⟨j,h1,h2,h3,h4,h5⟩:=atI_get he;have hl:z.cps.toList.length=z.length:=by simp[Str.length]
 rw[hl]at h1 h4 h5;have hn:=ze3;exact tail_any OU slot_str_getitem.lookup (getItem_str (c:=c) (by have e1:decide (i < -(2 ^ 63:Int))=false:=decide_eq_false Hc;have e2:decide (i≥2 ^ 63)=false:=decide_eq_false Hc;rw[e1,e2,Bool.or_false]) (by rw[h1];simpa using h2) ⟨Sw ⟨#[c]⟩,H,Sm,⟨_,rfl⟩,q⟩) hs
def mapSeq_set(a8:Nj)(n j:Nat)(u:Value):Obj.mapSeq (·.setIfInBounds j u) {cls:=.type "list",data:=.seq a8.toArray n}={cls:=.type "list",data:=.seq (a8.set j u).toArray n}:=by simp[Obj.mapSeq]
def Inv.lst{a7:Nd}{σ:St}{H:Hp}{s:Ni}{p:Nc}{xs:List V}(I:HI)(h:RU p LC) :
  ∃(a8:Nj) (n:Nat),Q5 a8∧s.heap.get? p=some {cls:=.type "list",data:=.seq a8.toArray n}∧xs.length≤sizeLine:=by
 obtain⟨z,a8,n,r,e⟩:=XU h;exact⟨a8,n,r,e,z⟩
def Inv.lstUpd{a7:Nd}{σ:St}{H:Hp}{s:Ni}{p:Nc}{xs ys:List V}{a8 its':Nj}{n n':Nat}{f:Obj→Obj}(I:HI)(h:RU p LC)(ho:s.heap.get? p=some {cls:=.type "list",data:=.seq a8.toArray n})(hf:f {cls:=.type "list",data:=.seq a8.toArray n}={cls:=.type "list",data:=.seq its'.toArray n'})(r:YU its')(hz:ys.length≤sizeLine)(t:Nat) :
  Inv X a7 σ (TB p ys) {s with heap:=s.heap.update p f,toks:=t}:=by
 have e:(s.heap.update p f).get? p=some {cls:=.type "list",data:=.seq its'.toArray n'}:=by rw[Jt f ho (by rw[hf]<;>rfl),hf]
 refine I.write (x:=p) (e:=p) (by rw[h];trivial) RT (λb u hb q=>(NH A9).trans q) ⟨_,e⟩ ?_;exact⟨hz,its',n',r,e⟩
inductive RrSetL(o:V)(i:V)(v:V)(H:Hp)(Q:Hp→Prop):Prop
 |mk (p:_) (xs:_) (k:_) (j:_) (h0:o=.ref p) (h1:i=.int k) (h2:H p=some (.lst xs)) (h3:ixN xs.length k=some j) (h4:Q (upd H p (.lst (xs.set j v)))):RrSetL  o i v H Q
def rSetL:V→V→V→Hp→(Hp→Prop)→Prop:=λo i v H Q=>RrSetL  o i v H Q
def set_list:PSet X rSetL:=by
 intro a7 s σ H o i v ov iv u Q I ro ri rv h;obtain⟨p,xs,k,j,rfl,rfl,hp,hj,q⟩:=h;cases ro;obtain⟨t,rfl⟩:=ri;obtain⟨a8,n,r,ho,hz⟩:=I.lst hp;obtain⟨h1,h2,h3,h4⟩:=ixN_seq hj;have hl:=r.length;have hn:=ze3;have I':ZA (TB p (xs.set j v)) {s with heap:=s.heap.update p (Obj.mapSeq (·.setIfInBounds j u))}:=
  I.lstUpd hp ho (mapSeq_set a8 n j u) (r.set rv j) (Hm Jr hz) s.toks
 by_cases h0:0≤k
 ·have hk:k.toNat=j:=by rw[seqIndex_of h0 h4]at h1;exact Qn h1
  exact PySem.W.ki_setAt ho h0 Hc (by rw[Qt,←hl];exact h4) (by rw[hk];exact⟨_,I',q⟩)
 have hk:(k+(a8.toArray.size:Int)).toNat=j:=by rw[seqIndex_neg Hc h3]at h1;rw[Qt,←hl];exact Qn h1
 exact PySem.W.ki_setBack ho Hc (by rw[Qt,←hl];exact h3) Hc (by rw[hk];exact⟨_,I',q⟩)
def slice_bounds(lo hi:Option Int)(n:Nat):(sliceBounds lo hi none n).1=((HT.sIx n 0 lo:Nat):Int)∧(sliceBounds lo hi none n).2.1=((HT.sIx n n hi:Nat):Int)∧(sliceBounds lo hi none n).2.2=1:=by
 refine⟨?_,?_,rfl⟩
 ·cases lo with
  |none=>simp[sliceBounds,HT.sIx]
  |some i=>
   simp only[sliceBounds,HT.sIx,Option.getD_none,show(1:Int)>0 by decide,if_true];by_cases h:i<0
   ·simp only[h,if_true]<;>lia
   simp only[h,if_false]<;>lia
 cases hi with
 |none=>simp[sliceBounds,HT.sIx]
 |some i=>
  simp only[sliceBounds,HT.sIx,Option.getD_none,show(1:Int)>0 by decide,if_true];by_cases h:i<0
  ·simp only[h,if_true]<;>lia
  simp only[h,if_false]<;>lia
def zir(a8:Nj)(lo hi:Option Int):slicePick a8.toArray lo hi none=((a8.drop (Vo 0 lo)).take (Vo a8.length hi-Vo 0 lo)).toArray:=by obtain⟨h1,h2,h3⟩:=slice_bounds lo hi a8.toArray.size;unfold slicePick;rw[h1,h2,h3];simp only[sliceRange_one,pick_run,Qt]<;>rfl
end
section
variable{X:Cx}{a b:Expr}{ta tb:TE}{pos:Pos}
inductive RrSlL(K:Nb)(x:V)(lo:Option Int)(hi:Option Int)(H:Hp)(Q:VK):Prop
 |mk (a:_) (xs:_) (h0:x=.ref a) (h1:SqL K H a xs) (h2:∀p,H p=none→Q (.ref p) (upd H p (.lst (cutV xs lo hi)))):RrSlL K x lo hi H Q
def rSlL(K:Nb):V→Option Int→Option Int→Hp→VK→Prop:=λx lo hi H Q=>RrSlL K x lo hi H Q
def zcg:SlR X (rSlL X.K):=by intro a7 s σ H x v vl vu lo hi sl Q I rx hs pl pu h;obtain⟨a,xs,rfl,hx,q⟩:=h;cases rx;obtain⟨a8,r,ht,hz⟩:=I.list hx;have ad:=r.length;refine⟨"list",_,slot_list_getitem.lookup,ht.isList.typeIs,?_⟩;refine KD hs pl pu .none Hb ?_ (by rw[Qt]<;>exact zd9 ‹_› ‹_›);rw[zir,←ad];refine⟨Hr,_,I.laid (t':=s.toks) (o:=.lst (FE lo hi)) (λb ob q=>QQ q) HM ?_,rfl,AC⟩;exact⟨Zn (zcr xs lo hi) hz,_,0,(r.drop (QU 0 lo)).take (QU xs.length hi-QU 0 lo),Tc⟩
def zd6:V→Bool
 |.non=>true
 |.bl _=>true
 |.int _=>true
 |.str _=>true
 |_=>false
def eqV:V→V→Bool
 |.non,.non=>true
 |.bl a,.bl b=>a==b
 |.bl a,.int b=>(if a then 1 else 0)==b
 |.int a,.bl b=>a==(if b then 1 else 0)
 |.int a,.int b=>a==b
 |.str a,.str b=>a==b
 |_,_=>false
def eqAt_V{A:Np}{s:Ni}{y x:V}{u v:Value}(ry:YC u)(rx:WK v)(fy:zd6 y=true)(fx:zd6 x=true):UJ (eqV y x):=by
 cases y with
 |non=>
  cases ry;cases x with
  |non=>cases rx;exact SeqAt.EqAt.same _
  |bl b=>cases rx;exact SeqAt.EqAt.none_bool b
  |int b=>obtain⟨t,rfl⟩:=rx;exact SeqAt.EqAt.none_int b t
  |str b=>obtain⟨t,rfl⟩:=rx;exact SeqAt.EqAt.none_str b t
  |_=>exact absurd (show false=true from fx) Zj
 |bl a=>
  cases ry;cases x with
  |non=>cases rx;exact SeqAt.EqAt.bool_none a
  |bl b=>cases rx;exact SeqAt.EqAt.bool_bool a b
  |int b=>obtain⟨t,rfl⟩:=rx;exact SeqAt.EqAt.bool_int a b t
  |str b=>obtain⟨t,rfl⟩:=rx;exact SeqAt.EqAt.bool_str a b t
  |_=>exact absurd (show false=true from fx) Zj
 |int a=>
  obtain⟨t',rfl⟩:=ry;cases x with
  |non=>cases rx;exact SeqAt.EqAt.int_none a t'
  |bl b=>cases rx;exact SeqAt.EqAt.int_bool a t' b
  |int b=>obtain⟨t,rfl⟩:=rx;exact SeqAt.EqAt.int_int a t' b t
  |str b=>obtain⟨t,rfl⟩:=rx;exact SeqAt.EqAt.int_str a t' b t
  |_=>exact absurd (show false=true from fx) Zj
 |str a=>
  obtain⟨t',rfl⟩:=ry;cases x with
  |non=>cases rx;exact SeqAt.EqAt.str_none a t'
  |bl b=>cases rx;exact SeqAt.EqAt.str_bool a t' b
  |int b=>obtain⟨t,rfl⟩:=rx;exact SeqAt.EqAt.str_int a t' b t
  |str b=>obtain⟨t,rfl⟩:=rx;exact Ui a t' b t
  |_=>exact absurd (show false=true from fx) Zj
 |_=>exact absurd (show false=true from fy) Zj
def eqU(x:V)(u:Value):Bool:=match u with
 |.none=>eqV .non x
 |.bool b=>eqV Eg x
 |.int i _=>eqV OT x
 |.str z _=>eqV CO x
 |_=>false
def eqU_of{x y:V}{u:Value}(r:YC u)(f:zd6 y=true):eqU x u=eqV y x:=by
 cases y with
 |non=>cases r;rfl
 |bl b=>cases r;rfl
 |int i=>obtain⟨t,rfl⟩:=r;rfl
 |str z=>obtain⟨t,rfl⟩:=r;rfl
 |_=>exact absurd (show false=true from f) Zj
theorem zhm{x:V}:∀{xs:List V} {us:Nj},Q5 us→xs.all zd6=true→us.any LO=xs.any λy=>eqV y x
 |_,_,.nil,_=>rfl
 |y::xs,u::us,.cons r t,f=>by rw[Jw,Wf]at f;rw[Xh,Xh,eqU_of r f.1,zhm t f.2]
theorem zd2{A:Np}{s:Ni}{x:V}{v:Value}(rx:WK v)(fx:zd6 x=true):∀{xs:List V} {us:Nj},Q5 us→xs.all zd6=true→∀u∈us,UJ (eqU x u)
 |_,_,.nil,_=>λu hu=>by cases hu
 |y::xs,u::us,.cons r t,f=>λu' hu=>by
  rw[Jw,Wf]at f;rcases Qj.mp hu with rfl|hu
  ·rw[eqU_of r f.1];exact eqAt_V r rx f.1 fx
  exact zd2 rx fx t f.2 u' hu
def inV(x:V)(xs:List V):Bool:=xs.any λy=>eqV y x
inductive RrIn(K:Nb)(neg:Bool)(x:V)(y:V)(H:Hp)(Q:VK):Prop
 |mk (p:_) (xs:_) (h0:y=.ref p) (h1:(SqL K H p xs∨SqT K H p xs)) (h2:zd6 x=true) (h3:xs.all zd6=true) (h4:Q (.bl (if neg then !inV x xs else inV x xs)) H):RrIn K neg x y H Q
def rIn(K:Nb)(neg:Bool):R2:=λx y H Q=>RrIn K neg x y H Q
def op_in_seq:WH (compareOp .In) (rIn X.K false):=by
 intro a7 s σ H x y v u Q I rx ry h;obtain⟨p,xs,rfl,hq,fx,fs,q⟩:=h;cases ry;rcases hq with hq|hq
 ·obtain⟨a8,r,pl,hz⟩:=I.list hq;refine SeqAt.in_listAt LO pl.isList (λw hw=>BC zb) ⟨.bl _,H,I,rfl,?_⟩;rw[show a8.toArray.any LO=a8.any LO by simp,zhm r fs];exact q
 obtain⟨a8,r,pl,hz⟩:=I.tuple hq;refine SeqAt.in_tupleAt LO pl (λw hw=>BC zb) ⟨.bl _,H,I,rfl,?_⟩;rw[show a8.toArray.any LO=a8.any LO by simp,zhm r fs];exact q
def zdr:WH CP (rIn X.K true):=by
 intro a7 s σ H x y v u Q I rx ry h;obtain⟨p,xs,rfl,hq,fx,fs,q⟩:=h;cases ry;rcases hq with hq|hq
 ·obtain⟨a8,r,pl,hz⟩:=I.list hq;refine SeqAt.notIn_listAt LO pl.isList (λw hw=>BC zb) ⟨.bl _,H,I,rfl,?_⟩;rw[show a8.toArray.any LO=a8.any LO by simp,zhm r fs];exact q
 obtain⟨a8,r,pl,hz⟩:=I.tuple hq;refine SeqAt.notIn_tupleAt LO pl (λw hw=>BC zb) ⟨.bl _,H,I,rfl,?_⟩;rw[show a8.toArray.any LO=a8.any LO by simp,zhm r fs];exact q
def op_notIn_str:WH CP (λx y H Q=>Ex2 λi j=>Aj3 (x=.str i) (y=.str j) (Ca (!(!(Builtin.Str.occurrences j i 0 j.length 1).isEmpty)))):=by intro a7 s σ H x y v u Q I rx ry h;obtain⟨i,j,rfl,rfl,q⟩:=h;obtain⟨t,rfl⟩:=rx;obtain⟨t',rfl⟩:=ry;exact notIn_str ⟨.bl _,H,I,rfl,q⟩
def zak:YH (.builtin "len") (λxs H Q=>Ex2 λp ys=>Aj3 (xs=[TR]) (EL∨( SqT X.K H p ys)) (Q EM H)):=by
 intro a7 s σ H xs us Q I r h;obtain⟨p,ys,rfl,hq,q⟩:=h;obtain⟨u,rfl,rx⟩:=vals1 r;cases rx;have hn:=ze3;rcases hq with hq|hq
 ·obtain⟨a8,r',pl,hz⟩:=I.list hq;have ad:=r'.length;exact Calls.call_len_list pl.isList (by simp only[Qt]<;>lia) ⟨EM,H,Sm,⟨s.toks+1,by rw[Qt,ad]⟩,q⟩
 obtain⟨a8,r',pl,hz⟩:=I.tuple hq;have ad:=r'.length;exact len_tuple pl (by simp only[Qt]<;>lia) ⟨EM,H,Sm,⟨s.toks+1,by rw[Qt,ad]⟩,q⟩
def zbv:YH (.builtin "len") (λxs H Q=>Ex1 λz=>Aj3 (xs=[CO]) (z.length≤sizeLine) (Q (.int z.length) H)):=by intro a7 s σ H xs us Q I r h;obtain⟨z,rfl,hz,q⟩:=h;obtain⟨u,rfl,t,rfl⟩:=vals1 r;have hn:=ze3;exact len_str Hc ⟨.int z.length,H,Sm,⟨_,rfl⟩,q⟩
def zdy:YH (.type "list") (λxs H Q=>Ex2 λp ys=>Aj3 (xs=[TR]) (EL∨( SqT X.K H p ys)) (∀l,H l=none→Q Tb (TB l ys))):=by
 intro a7 s σ H xs us Q I r h;obtain⟨p,ys,rfl,hq,q⟩:=h;obtain⟨u,rfl,rx⟩:=vals1 r;cases rx;have fin:∀(a8:Nj),YU a8→ys.length≤sizeLine→∀(h':No) (c':Nat),(∀b o',s.heap.get? b=some o'→h'.get? b=some o') →
   h'.get? s.heap.objs.size=some {cls:=.type "list",dict:=none,data:=.seq a8.toArray c',slots:=#[]}→QC Q Hr {s with heap:=h'}:=λa8 r' hz h' c' kp e=>
  ⟨Hr,_,I.laid (t':=s.toks) kp HM (show ZY _ h' _ (Hv ys) from⟨hz,a8,c',r',e⟩),rfl,AC⟩
 rcases hq with hq|hq
 ·obtain⟨a8,r',pl,hz⟩:=I.list hq;have ad:=r'.length;obtain⟨o,ho,hc,n,hd⟩:=pl.isList;exact call_list_seq p RT ho hc hd (λh' c' kp e=>fin a8 r' hz h' c' kp e) (by simp only[Qt]<;>exact zd9 ‹_› ‹_›)
 obtain⟨a8,r',pl,hz⟩:=I.tuple hq;have ad:=r'.length;obtain⟨o,ho,hc,n,hd⟩:=pl;exact call_list_seq p (SK rfl) ho hc hd (λh' c' kp e=>fin a8 r' hz h' c' kp e) (by simp only[Qt]<;>exact zd9 ‹_› ‹_›)
def zjt:YH (.type "tuple") (λxs H Q=>Ex2 λp ys=>Aj2 (xs=[TR]) ((Aj2 EL (∀l,H l=none→Q Tb (ZS l Ic)))∨(Aj2 (Vl p ys) (Q TR H)))):=by
 intro a7 s σ H xs us Q I r h;obtain⟨p,ys,rfl,h⟩:=h;obtain⟨u,rfl,rx⟩:=vals1 r;cases rx;rcases h with⟨hq,q⟩|⟨hq,q⟩
 ·obtain⟨a8,r',pl,hz⟩:=I.list hq;have ad:=r'.length;refine call_tuple_list pl.isList (λh' kp=>?_) (by simp only[Qt]<;>exact zd9 ‹_› ‹_›);have I1:ZA H {s with heap:=h'}:=I.kept (t':=s.toks) kp;have I2:ZA (ZS h'.objs.size Ic) {s with heap:=h'.push {cls:=.type "tuple",data:=.seq a8.toArray}}:=
   I1.laid (t':=s.toks) (λb o e=>QQ e) HM (show ZY _ _ _ Ic from⟨hz,a8,r',IsTup.new _ _⟩)
  exact⟨.ref h'.objs.size,_,I2,rfl,q _ TZ⟩
 obtain⟨a8,r',pl,hz⟩:=I.tuple hq;exact call_tuple_same pl ⟨TR,H,I,rfl,q⟩
def tyV(K:Nb)(T:String)(x:V)(H:Hp):Prop:=match x with
 |.str _=>T = "str"
 |.int _=>T = "int"
 | .ref p=>(T = "list" ∧ ∃ xs,WU p xs)∨(T = "tuple" ∧ ∃ o,K.lookup p=some o∧o.cls=.type "tuple" ∧ o.dict=none) ∨
   (T = "dict" ∧ ((∃kvs,H p=some Rg)∨∃kvs,RU p TX))∨(T = "set" ∧ ∃S n,RU p (.set S n))
 |_=>False
def tyV_is{a7:Nd}{σ:St}{H:Hp}{s:Ni}{T:String}{x:V}{v:Value}(I:HI)(r:WK v)(ty:tyV X.K T x H) :
  s.TypeIs v T∧∀a,v=.ref a→∃ob,s.heap.get? a=some ob∧ob.dict=none:=by
 cases x with
 |str z=>obtain⟨t,rfl⟩:=r;cases(show T = "str" from ty);exact⟨OU,λ_ e=>nomatch e⟩
 |int i=>obtain⟨t,rfl⟩:=r;cases(show T = "int" from ty);exact⟨typeIs_int s i t,λ_ e=>nomatch e⟩
 | ref p=>
  cases r;rcases ty with⟨rfl,xs,hq⟩|⟨rfl,o,hk,hc,hd⟩|⟨rfl,hk⟩|⟨rfl,S,n,hk⟩
  ·obtain⟨a8,_,pl,_⟩:=I.list hq;refine⟨pl.isList.typeIs,λa e=>?_⟩;cases e;obtain⟨o,n,e,c,hd,_⟩:=pl;exact⟨o,e,hd⟩
  ·refine⟨⟨o,I.kIn p o hk,hc⟩,λa e=>?_⟩;cases e;exact⟨o,I.kIn _ o hk,hd⟩
  ·have z:∃ o,s.heap.get? p=some o∧o.ExactDict:=by
    rcases hk with⟨kvs,hk⟩|⟨kvs,hk⟩
    ·obtain⟨_,_,_,_,o,_,_,e,ex,_⟩:=XU hk;exact⟨o,e,ex⟩
    obtain⟨_,_,_,_,o,_,_,e,ex,_⟩:=XU hk;exact⟨o,e,ex⟩
   obtain⟨o,e,ex⟩:=z;refine⟨⟨o,e,ex.1⟩,λa e2=>?_⟩;cases e2;exact⟨o,e,ex.2.1⟩
  obtain⟨o,_,_,_,e,ex,_⟩:=XU hk;refine⟨⟨o,e,ex.1⟩,λa e2=>?_⟩;cases e2;exact⟨o,e,ex.2.1⟩
 |_=>exact False.elim ty
def tBM0(K:Nb)(T:String)(r:V→List V→Hp→VK→Prop)(to:TE):TE:=λ σ H Q=>to σ H λx H1=>tyV K T x H1∧r x [] H1 Q
def tBM(K:Nb)(T:String)(r:V→List V→Hp→VK→Prop)(to:TE)(t:TA):TE:=λ σ H Q=>to σ H λx H1=>tyV K T x H1∧t σ H1 λxs H2=>r x xs H2 Q
variable{o e:Expr}{es:Nr}{to:TE}{t:TA}{name:Str}{apos cpos:Pos}{T id:String}{r:V→List V→Hp→VK→Prop}
def pe_bm0(pa:PlainAttrs T)(slot:Slot T name id)(iA:typeOf Ci=pure (.type "method_descriptor"))(hm:MtR X id r)(ho:Z7 o to)(gB:attributeBase o name X.env (Rj o)=eval o X.env:=by rfl)(gb:(apos.endLine==cpos.line)=true:=by rfl):Z7 (.Call Av [] [] cpos) (tBM0 X.K T r to):=by intro a7 s σ H Q I h;refine wpAny_Call_method0_late gB gb (thn Tu λv s1 ⟨x,H1,I1,r1,ty,q1⟩=>?_);obtain⟨h1,h2⟩:=tyV_is I1 r1 ty;exact⟨T,id,pa,slot,iA,h1,h2,Xk rfl (PySem.evalArgs_none (hm a7 s1 σ H1 x [] v [] Q I1 r1 .nil q1))⟩
def zcj(pa:PlainAttrs T)(slot:Slot T name id)(iA:typeOf Ci=pure (.type "method_descriptor"))(hm:MtR X id r)(ho:Z7 o to)(ha:K1 (e::es) t)(gB:attributeBase o name X.env (Rj o)=eval o X.env:=by rfl)(v6:((IS (starEach (e::es) X.env)).all (λx=>!x.1) && (backToKw cpos (keywordEach [] X.env)).all (λx=>x.1.isSome)
   && decide ((e::es).length+([]:List Keyword).length+(if([]:List Keyword).isEmpty then 0 else 1)<30))=true:=by rfl)(gb:(apos.endLine==cpos.line)=true:=by rfl)(hs:starEach (e::es) X.env=(false,IN)::starEach es X.env:=by rfl)(km:(IS Sl).any (·.1)=false:=by rfl) :
  PE X (.Call Av (e::es) [] cpos) (tBM X.K T r to t):=by
 intro a7 s σ H Q I h;refine wpAny_Call_method_late gB v6 gb rfl (thn Tu λv s1 ⟨x,H1,I1,r1,ty,q1⟩=>?_);obtain⟨h1,h2⟩:=tyV_is I1 r1 ty;refine⟨T,id,pa,slot,iA,h1,h2,?_⟩;have hA:=ha cpos a7 s1 σ H1 _ I1 q1;rw[hs]at hA ⊢;refine Xk (by show(false||(backTo cpos Sl).any (·.1))=false;rw[km]<;>rfl) (Xu ?_);exact thn hA λus s2 ⟨vs,H2,I2,r2,q2⟩=>hm a7 s2 σ H2 x vs v us Q I2 r1 r2 q2
def MtM(X:Cx)(id:String)(r:V→List V→Hp→VK→Prop):Prop:=
 ∀(a7:Nd) (s:Ni) (σ:St) (H:Hp) (x:V) (xs:List V) (v:Value) (us:Nj) (Q:VK),ZA H s→WK v→Q5 us→r x xs H Q →
  wpAny Hk X.A (Fb (v::us)) LJ X.xe s
end
theorem Vals.one:∀{x:V} {us:Nj},Vals [x] us→∃u,us=[u]∧WK u
 |_,_,.cons r .nil=>⟨_,rfl,r⟩
theorem Vals.two:∀{x y:V} {us:Nj},Vals [x,y] us→∃u v,us=[u,v]∧WK u∧YC v
 |_,_,_,.cons r (.cons q .nil)=>⟨_,_,rfl,r,q⟩
theorem Vals.zero:∀{us:Nj},Vals [] us→us=[]
 |_,.nil=>rfl
def Vals.dropLast{xs:List V}{us:Nj}(h:Q5 us):Vals xs.dropLast us.dropLast:=by
 induction h with
 |nil=>exact .nil
 |cons r t ih=>
  cases t with
  |nil=>exact .nil
  |cons q t'=>exact .cons r ih
def Vals.reverse{xs:List V}{us:Nj}(h:Q5 us):Vals xs.reverse us.reverse:=by
 induction h with
 |nil=>exact .nil
 |cons r t ih=>rw[Ky,Ky];exact Vals.append ih (Su r)
def erase_last{α:Type}(l:List α):l.eraseIdx (l.length - 1)=l.dropLast:=by
 induction l with
 |nil=>rfl
 | cons a r ih=>
  cases r with
  |nil=>rfl
  |cons b r=>
   have e:(a::b::r).length-1=((b::r).length-1)+1:=by have h1:(a::b::r).length=r.length+2:=rfl;have h2:(b::r).length=r.length+1:=rfl;assumption
   rw[e,List.eraseIdx_cons_succ,ih]
   all_goals rfl
section
variable{X:Cx}{a7:Nd}{σ:St}{H:Hp}{s:Ni}{l b:Nc}{xs ys zs:List V}
def Inv.lset{a8 its':Nj}{n:Nat}{f:Array Value→Array Value}{t':Nat}(I:HI)(hH:RU l LC)(e:s.heap.get? l=some {cls:=.type "list",data:=.seq a8.toArray n})(hf:f a8.toArray=its'.toArray)(hv:YU its')(hz:ys.length≤sizeLine) :
  Inv X a7 σ (TB l ys) {s with heap:=s.heap.update l (Obj.mapSeq f),toks:=t'}:=by
 have q:=PySem.IsL.update e f;rw[hf]at q;refine I.write (x:=l) (e:=l) (by rw[hH];exact trivial) RT (λb' u hb hu=>(Wc s.heap (Obj.mapSeq f) A9).trans hu) ⟨_,q⟩ ?_;exact⟨hz,its',_,hv,q⟩
def Inv.lnew{a8:Nj}{t':Nat}(I:HI)(hv:YU a8)(hz:ys.length≤sizeLine) :
  Inv X a7 σ (An (Hv ys)) {s with heap:=s.heap.push {cls:=.type "list",data:=.seq a8.toArray},toks:=t'}:=
 I.laid (λ_ _ q=>QQ q) HM ⟨hz,a8,0,hv,Tc⟩
def Inv.fresh(I:HI):H s.heap.objs.size=none:=I.hok.fresh HM
def Inv.lstM(I:HI)(hH:RU l LC):xs.length≤sizeLine∧∃(a8:Nj) (n:Nat),Q5 a8∧xs.length=a8.length∧s.heap.get? l=some {cls:=.type "list",data:=.seq a8.toArray n}:=by obtain⟨z,a8,n,r,e⟩:=I.hok l _ hH;exact⟨z,a8,n,r,r.length,e⟩
end
section
variable{X:Cx}
inductive RrAppend(x:V)(vs:List V)(H:Hp)(Q:VK):Prop
 |mk (l:_) (xs:_) (y:_) (h0:x=.ref l) (h1:vs=[y]) (h2:H l=some (.lst xs)) (h3:xs.length<sizeLine) (h4:Q .non (upd H l (.lst (xs++[y])))):RrAppend  x vs H Q
def rAppend:V→List V→Hp→VK→Prop:=λx vs H Q=>RrAppend  x vs H Q
def zbc:MtM X "list.append" rAppend:=by intro a7 s σ H x vs v us Q I rx rv h;obtain⟨l,xs,y,rfl,rfl,hH,hz,q⟩:=h;cases rx;obtain⟨u,rfl,ru⟩:=rv.one;obtain⟨z,a8,n,r,hl,e⟩:=I.lstM hH;refine call_meets F.slot_list_append ⟨_,e,rfl⟩ F.entry_list_append (BO _) (PySem.list_append l a8.toArray n u (by rw[Qt];exact zd9 ‹_› ‹_›)) ⟨e,?_⟩;refine⟨.non,_,I.lset (its':=a8++[u]) hH e Hb (r.append (Su ru)) ?_,rfl,q⟩;rw[Qm,Uc];assumption
inductive RrPop(x:V)(vs:List V)(H:Hp)(Q:VK):Prop
 |mk (l:_) (xs:_) (y:_) (h0:x=.ref l) (h1:vs=[]) (h2:H l=some (.lst xs)) (h3:xs[xs.length-1]?=some y) (h4:Q y (upd H l (.lst xs.dropLast))):RrPop  x vs H Q
def rPop:V→List V→Hp→VK→Prop:=λx vs H Q=>RrPop  x vs H Q
def mt_pop:MtM X "list.pop" rPop:=by
 intro a7 s σ H x vs v us Q I rx rv h;obtain⟨l,xs,y,rfl,rfl,hH,hy,q⟩:=h;cases rx;have tQ:=rv.zero;subst tQ;obtain⟨z,a8,n,r,hl,e⟩:=I.lstM hH;obtain⟨u,hu,ru⟩:=r.get hy;have d7:a8.toArray[a8.toArray.size-1]?=some u:=by show a8.toArray[a8.length-1]?=some u;rw[←Uv,←hl];exact hu
 refine call_meets F.slot_list_pop ⟨_,e,rfl⟩ F.entry_list_pop (F.args_list_pop_1 _) (MeetsSeq.list_pop_last l a8.toArray n u d7 (by rw[Qt];exact zd9 ‹_› ‹_›)) ⟨e,?_⟩;refine⟨y,_,I.lset (its':=a8.dropLast) hH e ?_ r.dropLast ?_,ru,q⟩
 ·show a8.toArray.eraseIdxIfInBounds (a8.toArray.size - 1)=a8.dropLast.toArray;rw[Qt,List.eraseIdxIfInBounds_toArray,erase_last]
 rw[List.length_dropLast];lia
inductive RrCat(x:V)(y:V)(H:Hp)(Q:VK):Prop
 |mk (l:_) (b:_) (xs:_) (zs:_) (h0:x=.ref l) (h1:y=.ref b) (h2:H l=some (.lst xs)) (h3:H b=some (.lst zs)) (h4:xs.length+zs.length≤sizeLine) (h5:∀p,H p=none→Q (.ref p) (upd H p (.lst (xs++zs)))):RrCat  x y H Q
def rCat:R2:=λx y H Q=>RrCat  x y H Q
def zds:WH Pi rCat:=by
 intro a7 s σ H x y v u Q I rx ry h;obtain⟨l,b,xs,zs,rfl,rfl,hH,hB,hz,q⟩:=h;cases rx;cases ry;obtain⟨z,a8,n,r,hl,e⟩:=I.lstM hH;obtain⟨z2,aD,n2,r2,aj,e2⟩:=I.lstM hB;refine PySem.P.add_list e e2 ?_ (by rw[Qt,Qt];lia);have ea:a8.toArray++aD.toArray=(a8++aD).toArray:=by simp
 rw[ea];exact⟨Hf _,_,I.lnew (t':=s.toks) (r.append r2) (by rw[Qm];assumption),rfl,q _ I.fresh⟩
end
end L2
namespace Att
open PySem PySem.W PySem.Calls PyProof.Rows
def zhd{P:Params}{h:No}:∀(ns:List Int) (vs:Nj),WellAll P h vs (ns.map WData.int)→KG ns:=by
 intro ns;induction ns with
 |nil=>intro vs w;rw[Xr]at w;cases w;exact .nil
 |cons n ns ih=>
  intro vs w;rw[Ql]at w;cases w with
  |cons a b=>cases a;exact .cons _ _ (ih _ b)
def script_of{l:OpenLaw}{n:Nat}(hn:l.most=some n){P:Params}{h:No}{args:List WData}{jH:Nj}(iE:l.row.toRowW.claim.pre args=true)(f9:WellAll P h jH args) :
  ∃a vs ns,jH=[Lg a]∧args=[WData.list (ns.map WData.int)]∧h.get? a=some {cls:=.type "list",data:=.seq vs.toArray}∧KG ns∧ns.length≤n:=by
 have hsh:WShape.hasAll [] args [.list .int]=true:=(pre_splitW iE).1;have hc:l.pre.holds [] {args:=args}=true:=(pre_splitW iE).2;obtain⟨d,r,rfl,h1,h2⟩:=hasAllW_cons hsh;obtain rfl:=hasAllW_nil h2;obtain⟨xs,rfl,h3⟩:=hasW_list h1;obtain⟨ns,rfl⟩:=items_int h3;have ad:ns.length≤n:=by
  unfold OpenLaw.pre at hc;have h4:(WTm.not (.lt (.lit (.int (n:Int))) (.len (.arg 0)))).holds [] {args:=[.list (ns.map .int)]}=true:=by have h4:=(holds_andW hc).1;rw[hn]at h4;exact h4
  have h5:=condW_of h4 (w_not (w_lt w_lit (w_len_list (w_arg rfl))));rw[Qa]at h5;refine Xg λq=>?_;have q':(n:Int)<((ns.length:Nat):Int):=by exact zar9 ‹_›
  first
   |(rw[decide_eq_true q']at h5;exact absurd h5 (by decide))
   |(simp at h5;lia)
 cases f9 with
 |cons w1 w2=>
  cases w2;cases w1 with
  |list ho am=>exact⟨_,_,ns,rfl,rfl,ho,zhd ns _ am,ad⟩
def post_true(l:OpenLaw)(args:List WData):l.row.toRowW.claim.post args TD args=true:=
 postW_of (r:=l.row.toRowW) (X:=(true==true))
  (show WShape.has [] TD .bool=true by first|rfl|decide|simp[WShape.has,WShape.arms,WShape.armsAll])
  (show(WTm.eq .res (.lit TD)).value [] {args:=args,res:=some TD,after:=args}=some (AH (true==true)) from w_eq_bool (w_res rfl) w_lit) rfl
def attach_call{l:OpenLaw}{n:Nat}{q:Nk}{loose:Ng}{XP:(Str→Option Value)→Heap→Prop}{YP:World→Heap→Prop}{d:DefRec}(hn:l.most=some n)(pH:d.params.defaults=[])(call:∀ (w:Nn) (s₀ s₁:Ni) (mg mb:Nh) (fa:Nc) (o:Obj) (pm cd doc:Value) (a:Nc) (vs:Nj) (ns:List Int),
   Ground q loose [] XP w s₀ mg mb s₁.heap→YP w s₁.heap →
   s₁.heap.get? fa=some o→o.data=.func (docDef d.name d.params d.body d.scope pm cd doc)→s₁.heap.CodeRec cd d.name→mg d.name=some IT →
   s₁.heap.get? a=some {cls:=.type "list",data:=.seq vs.toArray}→KG ns→ns.length≤n→s₁.gens=#[] →
   codeAny (model l.prog w) callerA (.call IT ⟨[Rm],[]⟩) (λr s'=>r=.ok (.ret TD)∧OldK s₁.heap s'.heap∧s'.os=s₁.os∧AllBare s'.gens) s₁) :
  WalkO q loose XP YP l.row.toRowW d [] (λf vs=>NI vs):=by
 intro w s₀ s₁ mg mb G Y fa o pm cd doc dV kV ho hd ba hD uD hg args jH as iE hlay hrd f9 hlo;obtain rfl:dV=.none:=Dflts.none hD pH;obtain rfl:kV=.none:=Dflts.noKw hD;obtain⟨a,vs,ns,rfl,rfl,kE,gm,ad⟩:=script_of hn iE f9;refine enter_call (codeAny_mono (call w s₀ s₁ mg mb fa o pm cd doc a vs ns G Y ho (fd_plain hd) ba uD kE gm ad hg) λr s' hq=>?_);obtain⟨rfl,h2,h3,h4⟩:=hq;exact⟨.inl ⟨TD,TD,[],rfl,λ_=>rfl,TD,post_true l _,λ_=>⟨List.Pairwise.nil,λ_ hm=>(nomatch hm)⟩⟩,h2,h3,h4⟩
end Att
namespace L2
open PySem PySem.Spec PyProof.Rows
theorem vals_ints:∀{vs:Nj} {ns:List Int},KG ns→DP vs
 |_,_,.nil=>.nil
 |_,_,.cons n t h=>.cons ⟨t,rfl⟩ (vals_ints h)
def Only(H:Hp):Prop:=∀b,H b=none∨∃o xs,H b=some (LB (Hv xs))
def law_call{P:Nk}{w:Nn}{K:Nb}{mg mb:Nh}{CX:CXT}{k:Nat}{fa a:Nc}{fd:Nw}{x:Str}{sp:Sp}{s₁:Ni}{vs:Nj}{ns:List Int}(KX:K.In s₁.heap)(qZ:s₁.heap.Ns mainGlobals mg)(hb:s₁.heap.Ns builtinsNs mb)(rC:∀x:Str,x ≠ "__name__" → mb x=bootBuiltins x)(uK:s₁.heap.NoLimit)(hg:s₁.gens=#[])(ha:s₁.heap.get? a=some {cls:=.type "list",data:=.seq vs.toArray})(hi:KG ns)(hl:ns.length≤sizeLine)(hr:YT callerA)(F:∀base:Heap,K.In base→base.Ns mainGlobals mg→ZC CX k fa fd [x] sp)(pP:∀(s:Shared) (u:Value),J3 ⟨[u],[]⟩ [(x,u)])(bK:∀H:Hp,Only H→WU a CQ→sp [Rm] H (λv _=>v=.bl true) λ_ _ _=>False)(vI:∀H e s',CX [] H s₁ (λ_ _ _=>False) e s'→False) :
  codeAny TK callerA (.call IT ⟨[Rm],[]⟩) (λr s'=>r=.ok (.ret TD)∧OldK s₁.heap s'.heap∧s'.os=s₁.os∧AllBare s'.gens) s₁:=by
 have rv:=vals_ints hi;have lenV:=hi.length;have core:∀ H:Hp,Only H→WU a CQ→WG s₁.heap→(∀ b,H b≠none→b=a)→(H a≠none→K.lookup a=none) →
   codeAny TK callerA (.call IT ⟨[Rm],[]⟩) (λr s'=>r=.ok (.ret TD)∧OldK s₁.heap s'.heap∧s'.os=s₁.os∧AllBare s'.gens) s₁:=by
  intro H hO hS hok hA hK;have base_of:∀{b:Nc} {o:Obj},s₁.heap.get? b=some o→H b=none→(Be H).get? b=some o:=λe n=>hidT_get e n;have noA:∀{b:Nc} {o:Obj} {es:Array DictEntry} {ep:Nat},s₁.heap.get? b=some o→o.data=.dict es ep→H b=none:=λ{b o es ep} e d=>by
   cases q:H b with
   |none=>rfl
   |some u=>have e':b=a:=hA b (by rw[q];simp);subst e';rw[ha]at e;cases e;have d':Data.seq vs.toArray _=Data.dict es ep:=d;cases d'
  have nsK:∀{b:Nc} {m:Nh},s₁.heap.Ns b m→(Be H).Ns b m:=λ{b m} ⟨o,es,ep,e,d,r⟩=>⟨o,es,ep,base_of e (noA e d),d,r⟩;have hKb:K.In (Be H):=λb o e=>base_of (KX b o e) (by
   cases q:H b with
   |none=>rfl
   |some u=>have e':b=a:=hA b (by rw[q];simp);subst e';rw[hK (by rw[q];simp)]at e;cases e)
  have hM:Mod K mg (Be H):=⟨hKb,nsK qZ,⟨mb,nsK hb,rC⟩,let⟨mc,h1,h2⟩:=uK;⟨mc,nsK h1,h2⟩⟩;have e0:Env0 P w K mg (Be H) callerA [] s₁ H:=⟨rfl,hM,λb o e=>of_hidT e,Nat.le_of_eq (hidT_size _ _),trivial,λb hb=>absurd (show b∈([]:List Addr) from hb) Hb,hok,.of_eq hg⟩;refine codeAny_mono ((F _ hKb (nsK qZ)).run callerA [] s₁ H ⟨[Rm],[]⟩ [Rm] [Rm] _ _ hr e0 (pP s₁ Rm) (Su rfl) (bK H hO hS)) λr s' h=>?_;cases r with
  |error e=>exact(vI H e s' h).elim
  | ok fl=>
   cases fl with
   |next=>exact False.elim h
   |brk=>exact False.elim h
   |cont=>exact False.elim h
   | ret u=>
    obtain⟨v,H',os,bare,un,uu,r',q⟩:=h;have q':v=.bl true:=q;subst q';obtain rfl:u=Value.bool true:=r';refine⟨rfl,OldK.of_keep λb o e=>?_,os,bare⟩;cases q:H b with
    |none=>exact un.keep b o e q (by intro z;exact absurd (show b∈([]:List Addr) from z) Hb) Hb
    |some u=>
     rcases hO b with z|⟨ob,xs,z⟩
     ·rw[q]at z;cases z
     have z2:=un.frzs b ob _ z;obtain⟨e1,_⟩:=hok b _ z;obtain⟨e2,_⟩:=uu b _ z2;rw[e]at e1;cases e1;exact e2
 cases hk:K.lookup a with
 |some o=>have e:=KX a o hk;rw[ha]at e;cases e;refine core (λ_=>none) (λ_=>.inl rfl) (SK ⟨_,vs.toArray,_,hk,rfl,rfl,rfl,by rw[Qt,lenV];exact hl,Hd rv⟩) (λb u z=>by have z':(none:Option HO)=some u:=z;cases z') (λb z=>absurd rfl z) λz=>absurd rfl z
 | none=>
  refine core (λb=>if b=a then some (.frz {cls:=.type "list",data:=.seq vs.toArray} (Hv CQ)) else none) (λb=>?_) (HL (.inr ⟨{cls:=.type "list",data:=.seq vs.toArray},Sk rfl⟩)) (λb u z=>?_) (λb z=>?_) λ_=>hk
  ·by_cases hb:b=a
   ·exact .inr ⟨_,_,Sk hb⟩
   exact .inl (Sz hb)
  ·by_cases hb:b=a
   ·have z':=(Sk hb).symm.trans z;cases z';subst hb;exact⟨ha,yT hl,vs,_,rv,ha⟩
   have z':=(Sz hb).symm.trans z;cases z'
  by_cases hb:b=a
  ·exact hb
  exact absurd (Sz hb) z
def walk_of{l:PySem.W.OpenLaw}{n k:Nat}{q:Nk}{loose:Ng}{XP:(Str→Option Value)→Heap→Prop}{YP:World→Heap→Prop}{d:DefRec}{K:Params→PySem.W.Frag}{CX:World→CXT}{sp:World→Sp}{x:Str}(hn:l.most=some n)(bp:n≤sizeLine)(pH:d.params.defaults=[])(hr:YT callerA)(hY:∀(w:World) (h:Heap),YP w h→(K w.params).In h)(F:∀ (w:Nn) (mg:Nh) (fa:Nc) (h:No),(K w.params).In h→h.Ns mainGlobals mg→mg d.name=some IT →
   ∃fd:FuncData,(∀(s:Ni) (u:Value),J3 ⟨[u],[]⟩ [(x,u)]) ∧
    ∀base:Heap,(K w.params).In base→base.Ns mainGlobals mg→X3 Ev mg base (CX w) k fa fd [x] (sp w))(bK:∀(w:Nn) (H:Hp) (a:Nc) (ns:List Int),ns.length≤n→Only H→SqL Ev H a CQ→sp w [Rm] H (λv _=>v=.bl true) λ_ _ _=>False)(vI:∀(w:World) (H:Hp) (s:Shared) (e:Value) (s':Shared),CX w [] H s (λ_ _ _=>False) e s'→False) :
  PySem.W.WalkO q loose XP YP l.row.toRowW d [] (λf vs=>NI vs):=by
 refine Att.attach_call hn pH λw s₀ s₁ mg mb fa o pm cd doc a vs ns G Y ho hd ba uD kE gm ad hg=>?_;have KX:=hY w _ Y;obtain⟨fd,hb,hF⟩:=F w mg fa _ KX G.T.g uD;exact law_call KX G.T.g G.T.b G.T.builtins G.T.nolimit hg kE gm (Zn ad bp) hr hF hb (λH hO hS=>bK w H a ns ad hO hS) λH e s'=>vI w H s₁ e s'
def inClass(s:Stmt)(j:Nat):Stmt:=match s with
 |.ClassDef _ _ _ body _ _ _ _ _ _ _=>body.getD j (.Pass ⟨0,0,0,0⟩)
 |_=>.Pass ⟨0,0,0,0⟩
def zdv(s:Stmt):Arguments:=match s with
 |.FunctionDef _ a _ _ _ _ _ _ _ _=>a
 |_=>{posonlyargs:=[],args:=[],vararg:=none,kwonlyargs:=[],kw_defaults:=[],kwarg:=none,defaults:=[]}
def zch(s:Stmt):List Stmt:=match s with
 |.FunctionDef _ _ b _ _ _ _ _ _ _=>b
 |_=>[]
def zaj(s:Stmt):Scope:=match s with
 |.FunctionDef _ _ _ _ _ _ sc _ _ _=>sc
 |_=>{kind:=.function,names:=[],isGenerator:=false,isCoroutine:=false}
abbrev CX0:CXT:=λ_ _ _ _ _ _=>False
abbrev E0:XK:=λ_ _ _=>False
def zbb{X:Cx}:zfz CX0 X E0:=λ_ _ _ _ _ _ _ h=>h.elim
structure Fun(K:Nb)(x qual:Str)(st:Stmt)(f:Nc)(fd:Nw):Prop where
 ex:∃(oc:Value) (od:Option Addr) (kV doc pm:Value) (an:Option Addr) (cdv ct:Value) (osl:Array LM),
  fd=WI EZ .none kV doc pm an cdv ct∧K.lookup f=some ⟨oc,od,.func fd,osl⟩∧BB cdv qual=true
 kp:Y7 Lw=true
section
variable{P:Nk}{w:Nn}{K:Nb}{mg:Nh}{base:No}
def Fun.ok{x qual:Str}{st:Stmt}{f:Nc}{fd:Nw}{N ps:Ng}{k:Nat}{sp:Sp}(F:Eh)(S:K5 EZ)(len:∀vs H Q E,sp vs H Q E→vs.length=ps.length)(bJ:∀ (cdv:Value) (A:Np) (outer:List Env) (s:Ni) (H:Hp) (vs:List V) (Q:VK) (E:XK),YT SZ→sp vs H Q E →
   ∃t,PSs (JN E).nox P0 t∧t {nx:=λ_ H'=>Q .non H',rt:=Q} IR H):ZB (k+1) f fd ps sp:=by
 obtain⟨oc,od,kV,doc,pm,an,cdv,ct,osl,rfl,lk,ba⟩:=F.ex;refine fn_of lk ba S len λA outer s H vs Q E hr bK=>?_;obtain⟨t,h,q⟩:=bJ cdv A outer s H vs Q E hr bK;exact⟨t,h.nox,q⟩
def Fun.binds{x qual:Str}{st:Stmt}{f:Nc}{fd:Nw}{ps:Ng}(F:Eh)(h:∀(kV doc pm:Value) (an:Option Addr) (cdv ct:Value) (us:Nj),us.length=ps.length→bindArgs T9 ⟨us,[]⟩=pure Cn):QH fd ps []:=by obtain⟨oc,od,kV,doc,pm,an,cdv,ct,osl,rfl,lk,ba⟩:=F.ex;exact .all (h kV doc pm an cdv ct)
def fun_mk{x qual:Str}{st:Stmt}{f:Nc}{oc:Value}{od an:Option Addr}{osl:Array LM}{kV doc pm cdv ct:Value}(l:K.lookup f=some ⟨oc,od,.func T9,osl⟩)(c:BB cdv qual=true)(k:Y7 Lw=true):Z5 x qual st f T9:=⟨⟨oc,od,kV,doc,pm,an,cdv,ct,osl,rfl,l,c⟩,k⟩
def zb9{A:Np}{k:Nat}(hr:YT A):A.units+1<cLine:=Yh (Kk (by decide:1≤64) _) hr.units
variable{X:Cx}
def pv(i:Nat){x:Str}{pos:Pos}(hN:X.N[i]?=some x:=by rfl)(hv:VG x:=by first|exact Or.inl rfl|exact Or.inr (Or.inl rfl)|exact Or.inr ze)(hd:Rc=false:=by decide)(ba:(x==("__classdict__" : Str))=false:=by decide):Z7 Es (tVar i):=pe_var hN hv hd ba
def call_lenD:YH (.builtin "len") (λxs H Q=>Ex2 λa kvs=>Aj3 (xs=[V.ref a]) (Cj Rg) (Q (.int kvs.length) H)):=by intro a7 s σ H xs us Q I r h;obtain⟨a,kvs,rfl,ha,q⟩:=h;obtain⟨u,rfl,ru⟩:=vals1 r;cases ru;exact d_len I (HL ha) λt s' I'=>⟨.int kvs.length,H,I',⟨t,rfl⟩,q⟩
def iteF{A B:Prop}(h:B):if false=true then A else B:=by rw[if_neg Zj];exact h
def iteT{A B:Prop}(h:A):if true=true then A else B:=by rw[if_pos rfl];exact h
def ite2{c A B:Prop}[Decidable c](h1:c→A)(h2:¬c→B):if c then A else B:=by
 by_cases h:c
 ·rw[Sk h];exact h1 h
 rw[Sz h];exact h2 h
def clOf(sc:Scope)(env:Env):List (Str×Addr):=sc.names.foldl Rq []
theorem cl_fold:∀(l:Tn (Str×NameKind)) (cs:Tn (Str×Addr)),(∀y∈l,y.2=.free→∃c,env.cells.lookup y.1=some c) →
  (forIn l cs (λ(y:Str×NameKind) (r:Tn (Str×Addr))=>(do
   let(name,kind):=y
   if(kind==.free)=true then do
    let a ←cellOf env name
    pure (SB ((name,a)::r))
   else pure (SB r):Sem (ForInStep (Tn (Str×Addr))))))=(pure (l.foldl Rq cs):Sem (Tn (Str×Addr)))
 |[],cs,_=>rfl
 | (n,k)::r,cs,h=>by
  rw[List.forIn_cons];have ih:=λcs=>cl_fold (env:=env) r cs λy hy=>h y Ps;by_cases hk:(k==NameKind.free)=true
  ·obtain⟨c,hc⟩:=h (n,k) Qd (Hd hk);have cA:env.cells.lookup n=some c:=hc;have e:cellOf env n=pure c:=by unfold cellOf;rw[cA]
   rw[Xn];dsimp only;rw[if_pos hk,if_pos hk,e,cA];exact ih _
  rw[Xn];dsimp only;rw[if_neg hk,if_neg hk];exact ih _
def zb6(h:∀y∈sc.names,y.2=.free→∃c,env.cells.lookup y.1=some c):closureFor sc env=pure (WJ env):=by unfold closureFor;have e:=cl_fold (env:=env) sc.names [] h;exact(congrArg (λt:Sem (Tn (Str×Addr))=>t >>= λcs=>pure cs) e).trans rfl
theorem clOf_in{env:Env}{x:Str}{c:Nc}:∀(l:Tn (Str×NameKind)) (cs:Tn (Str×Addr)),(∀y∈l,y.2=.free→∃c,env.cells.lookup y.1=some c)→(∀x c,cs.lookup x=some c→env.cells.lookup x=some c) →
  (l.foldl Rq cs).lookup x=some c→env.cells.lookup x=some c
 |[],cs,_,hc,e=>hc _ _ e
 | (n,k)::r,cs,h,hc,e=>by
  rw[Xn]at e;refine clOf_in r _ (λy hy=>h y Ps) ?_ e;by_cases hk:(k==NameKind.free)=true
  ·obtain⟨a,ha⟩:=h (n,k) Qd (Hd hk);have ha':env.cells.lookup n=some a:=ha;dsimp only;rw[if_pos hk,ha'];intro x c q;rw[Jk]at q;cases hx:x==n with
   |true=>
    rw[hx]at q;have q':a=c:=Qn q;have:x=n:=by simpa using hx
    rw[this,←q'];exact ha'
   |false=>rw[hx]at q;exact hc x c q
  dsimp only;rw[if_neg hk];exact hc
theorem zjq{env:Env}{x:Str}:∀(l:Tn (Str×NameKind)) (cs:Tn (Str×Addr)),((x,NameKind.free)∈l∨∃c,cs.lookup x=some c) →
  ∃c,(l.foldl Rq cs).lookup x=some c
 |[],cs,h=>by
  rcases h with h|h
  ·exact absurd h Hb
  exact h
 | (n,k)::r,cs,h=>by
  rw[Xn];refine zjq r _ ?_;rcases h with h|⟨c,h⟩
  ·rcases Qj.mp h with e|e
   ·obtain⟨rfl,rfl⟩:=Ks e;exact .inr ⟨(env.cells.lookup x).getD 0,by dsimp only;rw[if_pos Ho,List.lookup_cons];simp⟩
   exact .inl e
  refine .inr ?_;dsimp only;by_cases hk:(k==NameKind.free)=true
  ·rw[Sk hk,Jk];cases hx:x==n with
   |true=>exact⟨xf⟩
   |false=>exact⟨c,h⟩
  rw[if_neg hk];exact⟨c,h⟩
end
structure Blk(X:Cx)(sc:Scope)(M:Ng)(ix:Nv):Prop where
 kind:sc.kind=.function
 nocell:∀y∈sc.names,y.2≠.cell
 names:∀y∈sc.names,y.2=.local→sc.names.lookup y.1=some .local
 frees:∀y∈sc.names,y.2=.free→X.env.scope.names.lookup y.1=some .cell∨X.env.scope.names.lookup y.1=some .free
 len:ix.length=M.length
 nd:M.Nodup
 caps:∀(j i:Nat) (x:Str),M[j]?=some x→ix[j]?=some (RH i)→X.N[i]?=some x∧sc.names.lookup x=some .free
def inner(ix:Nv)(σ:St):St:=ix.map λo=>match o with|none=>none|some i=>(σ[i]?).join
def zi1{sc:Scope}{env:Env}{x:Str}{oz:Option Str}(hn:∀ y∈sc.names,y.2=.cell→oz=some y.1)(h:(relabel sc env).names.lookup x=some .cell∨(relabel sc env).names.lookup x=some .free):(x,NameKind.free)∈sc.names∨oz=some x:=by
 have key:∀k',k'=.cell∨k'=.free→(x,k')∈(relabel sc env).names→(x,NameKind.free)∈sc.names∨oz=some x:=λk' gT hm=>by
  obtain⟨⟨n,k⟩,hy,e⟩:=Qf.mp hm;dsimp only at e;by_cases hb:(k==NameKind.free&&env.scope.kind==.function&&env.kindOf n==some .cell)=true
  ·rw[Sk hb]at e;obtain⟨rfl,_⟩:=Ks e;have hk:k=.free:=by have:=(Bool.and_eq_true_iff.mp (Bool.and_eq_true_iff.mp hb).1).1;simpa using this
   rw[hk]at hy;exact .inl hy
  rw[Sz hb]at e;obtain⟨rfl,rfl⟩:=Ks e;rcases gT with q|q
  ·exact .inr (hn _ hy q)
  rw[q]at hy;exact .inl hy
 rcases h with h|h
 ·exact key _ RT (Uo h)
 exact key _ (SK rfl) (Uo h)
def ocl(oz:Option Str)(C:Nc)(cl:List (Str×Addr)):List (Str×Addr):=match oz with
 |none=>cl
 |some z=>(z,C+1)::cl
def och(oz:Option Str)(h:No):Heap:=match oz with
 |none=>h
 |some _=>h.push {cls:=.type "cell",data:=.cell none}
structure BlkG(X:Cx)(sc:Scope)(oz:Option Str)(M:Ng)(ix:Nv):Prop where
 kind:sc.kind=.function
 own:∀y∈sc.names,y.2=.cell→oz=some y.1
 one:∀n cl,cellsFrom (n+1) sc.names cl=Mb n cl
 psh:∀h,pushCells h sc.names=Mc h
 zc:∀z,oz=some z→sc.names.lookup z=some .cell
 names:∀y∈sc.names,y.2=.local→sc.names.lookup y.1=some .local
 frees:∀y∈sc.names,y.2=.free→X.env.scope.names.lookup y.1=some .cell∨X.env.scope.names.lookup y.1=some .free
 len:ix.length=M.length
 nd:M.Nodup
 caps:∀(j i:Nat) (x:Str),M[j]?=some x→ix[j]?=some (RH i)→X.N[i]?=some x∧sc.names.lookup x=some .free
theorem zjs:∀{l:List (Str×NameKind)} (_:∀y∈l,y.2≠.cell),(∀n cl,cellsFrom n l cl=cl)∧∀h,pushCells h l=h
 |[],_=>⟨Hw,λ_=>rfl⟩
 |(a,k)::t,h=>by obtain⟨h1,h2⟩:=zjs λy hy=>h y Ps;have hk:(k==NameKind.cell)=false:=beq_eq_false_iff_ne.mpr (h (a,k) Qd);exact⟨λn cl=>by unfold cellsFrom;rw[hk];exact h1 n cl,λg=>by unfold pushCells;rw[hk];exact h2 g⟩
def Blk.g{X:Cx}{sc:Scope}{M:Ng}{ix:Nv}(B:Y0 ix):BlkG X sc none M ix:=
 ⟨B.kind,λy hy h=>absurd h (B.nocell y hy),λn cl=>(zjs B.nocell).1 _ cl,(zjs B.nocell).2,λ_ h=>(by cases h),B.names,B.frees,B.len,B.nd,B.caps⟩
def zcz(X:Cx)(sc:Scope)(oz:Option Str)(M:Ng)(C:Nc)(a7:Nd)(ex:Nl)(s:Ni)(H:Hp):Cx:=
 {X with N:=M,s₀:=s,H₀:=H,env:=compEnvC sc (Mb C Ld) C X.env,outer:=X.stack,ex:=ex,fn:=λx=>oz==some x,pn:=X.pn++a7,xe:=λ_ _=>False}
abbrev zcs(X:Cx)(sc:Scope)(M:Ng)(C:Nc)(a7:Nd)(ex:Nl)(s:Ni)(H:Hp):Cx:=zcz X sc none M C a7 ex s H
section
variable{M:Model}{A:Np}{E:Na}{s:Ni}
def zh1{sc:Scope}{g:Nc}{cl:List (Str×Addr)}{q:Str}{env:Env}{oz:Option Str}{Q:Env→Shared→Prop}(one:∀n cl,cellsFrom (n+1) sc.names cl=Mb n cl)(psh:∀h,pushCells h sc.names=Mc h)(hQ:Q (newEnv sc s.heap.objs.size g (Mb s.heap.objs.size cl) q none .none (RH env) builtinsNs) {s with heap:=Mc (s.heap.push {cls:=.type "dict",data:=.dict #[]})}) :
  wpAny M A (newFunctionEnv sc g cl [] q none .none (RH env)) Q E s:=by
 simp only[newFunctionEnv,Option.isSome_some,if_true];refine wpAny_bind (wpAny_alloc ?_);refine wpAny_bind (wpAny_layCells _ (λname kind cells=>by cases uP:kind==NameKind.cell<;>simp[uP]) _ _ _ _ ?_);rw[psh,show({s with heap:=s.heap.push {cls:=.type "dict",data:=.dict #[]}}:Shared).heap.objs.size=s.heap.objs.size+1 from Ut ..,one];exact wpAny_pure hQ
end
section
variable{X:Cx}{sc:Scope}{oz:Option Str}{M:Ng}{ix:Nv}{a7:Nd}{σ:St}{H:Hp}{s:Ni}
def BlkG.clos(B:Bf ix)(I:HI):∀y∈sc.names,y.2=.free→∃c,X.env.cells.lookup y.1=some c:=λy hy hf=>I.ok.has y.1 (by rcases B.frees y hy hf with z|z;exact .inl z;exact .inr z)
def Blk.clos(B:Y0 ix)(I:HI):∀y∈sc.names,y.2=.free→∃c,X.env.cells.lookup y.1=some c:=B.g.clos I
def zjh{ex:Nl}{s':Ni}{C:Nc}(B:Bf ix)(I:HI)(hx:∀ b∈ex,QK b)(ae:∀ b∈ex,b < s.heap.objs.size)(hC:C=s.heap.objs.size)(hn:s'.heap.Ns C λ_=>none)(hz:∀z,oz=some z→s'.heap.IsCell (C+1) none)(hk:∀b o,s.heap.get? b=some o→s'.heap.get? b=some o)(hg:s'.gens=s.gens)(ho:s'.os=s.os):Inv (Z8 H) [] Oz H s':=by
 have cls:=B.clos I;have cin:∀x c,(WJ X.env).lookup x=some c→X.env.cells.lookup x=some c:=λx c e=>clOf_in sc.names [] cls (λ_ _ z=>by cases z) e;have cne:∀x c,(WJ X.env).lookup x=some c→c<s.heap.objs.size:=λx c e=>by obtain⟨v,q⟩:=U' (cin x c e);exact q.lt
 have zne:∀c:Addr,c<s.heap.objs.size→c≠C+1:=λc h e=>by rw[e,hC]at h;exact absurd (Wn h) OS
 have zin:∀x c,(Mb C Ld).lookup x=some c→(oz=some x∧c=C+1)∨oz≠some x∧(WJ X.env).lookup x=some c:=λx c e=>by
  cases oz with
  |none=>exact .inr ⟨λz=>(by cases z),e⟩
  |some zn=>
   have e:((zn,C+1)::WJ X.env).lookup x=some c:=e;rw[Jk]at e;cases q:x==zn with
   |true=>rw[q]at e;exact .inl ⟨by rw[eq_of_beq q],(Qn e).symm⟩
   |false=>rw[q]at e;exact .inr ⟨λz=>(by rw[Qn z,beq_self_eq_true]at q;cases q),e⟩
 have zout:∀x c,oz≠some x→(WJ X.env).lookup x=some c→(Mb C Ld).lookup x=some c:=λx c hx e=>by
  cases oz with
  |none=>exact e
  |some zn=>show((zn,C+1)::WJ X.env).lookup x=_;rw[Jk,beq_eq_false_iff_ne.mpr λz=>hx (by rw[z])];exact e
 refine⟨⟨I.ok.mod,?_,I.ok.glob,I.ok.blt,?_,λx y c h1 h2=>?_,λx hx=>?_,λx c h e=>?_,I.ok.hd,I.ok.frames,RT,λb hb=>?_,I.bs,?_,λb o e hb=>?_,λb hb=>?_,I.stack,I.stkFree⟩,
  ?_,?_,Un.kept hk,⟨_,hn,λj x v e1 e2 e3=>?_⟩,λx c e=>?_,?_,λx c e=>?_,λp hp=>?_,I.hok.kept hk,?_⟩
 ·show (relabel sc X.env).kind=.function;exact B.kind
 ·show s.heap.objs.size≤C;rw[hC];exact Qi _
 ·rcases zin x c h1 with⟨a,b⟩|⟨_,a⟩ <;> rcases zin y c h2 with⟨a',b'⟩|⟨_,a'⟩
  ·exact Qn (a.symm.trans a')
  ·exact absurd b (zne c (cne y c a'))
  ·exact absurd b' (zne c (cne x c a))
  exact I.ok.inj x y c (cin x c a) (cin y c a')
 ·by_cases q:oz=some x
  ·exact⟨C+1,by show(Mb C Ld).lookup x=_;rw[q];show((x,C+1)::WJ X.env).lookup x=_;rw[Jk,beq_self_eq_true]⟩
  obtain⟨c,hc⟩:=zjq (env:=X.env) sc.names [] (HL ((zi1 B.own hx).resolve_right q));exact⟨c,zout x c q hc⟩
 ·have h':oz=some x:=by have:(oz==some x)=true:=h;exact eq_of_beq this
  rcases zin x c e with⟨_,b⟩|⟨b,_⟩
  ·show s.heap.objs.size≤c;rw[b,hC];exact Kt _
  exact absurd h' b
 ·have:=ae b hb;refine⟨λz=>?_,λx c e=>(zin x c e).elim (λq h=>zne b this (h.symm.trans q.2)) λe=>(hx b hb).2.2.2.2.1 x c (cin x c e.2)⟩;have z':b=C:=z;rw[z',hC]at this;exact Wj _ this
 ·exact Df I.sz
 ·rcases (hx b hb).2.2.2.1 with z|z
  ·exact MO e z
  have h1:b < X.base.objs.size:=Qu e;have h2:=I.ok.bsz;have h3:X.s₀.heap.objs.size≤b:=z;exact absurd (Zx h1 (Zn h2 h3)) OS
 ·intro z;rcases Qj.mp (V2 z) with q|q
  ·exact(hx b hb).2.1 q
  exact(hx b hb).2.2.1 q
 ·exact ho
 ·rw[hg];exact I.bare
 ·have hj:∃ i,ix[j]?=some (RH i)∧σ[i]?=some (RH v):=by
   unfold inner at e2;rw[Qo]at e2;cases q:ix[j]? with
   |none=>rw[q]at e2;cases e2
   | some o=>
    rw[q]at e2;cases o with
    |none=>cases e2
    |some i=>
     have rM:(σ[i]?).join=some v:=Qn e2;cases q2:σ[i]? with
     |none=>rw[q2]at rM;cases rM
     |some w=>rw[q2]at rM;exact⟨i,rfl,by rw[q2];exact congrArg some rM⟩
  obtain⟨i,hi,hσ⟩:=hj;obtain⟨hN,bH⟩:=B.caps j i x e1 hi;have hm:=Uo bH;have dQ:=B.frees (x,.free) hm rfl;obtain⟨m,_,hl⟩:=I.loc;obtain⟨u,ru,lk⟩:=hl i x v hN hσ (by rcases dQ with z|z;exact .inr (HL z);exact .inr (SK z));refine⟨u,ru,.inr ?_⟩;obtain⟨c,hc⟩:=zjq (env:=X.env) sc.names [] (HL hm);have cA:=cin x c hc;have lk2:s.heap.IsCell c (RH u):=by
   rcases lk with⟨k,_⟩|⟨_,c',e',z⟩
   ·have k':X.env.scope.names.lookup x=some .local:=k;rcases dQ with q|q<;>(rw[show X.env.scope.names.lookup x=_ from q]at k';cases k')
   rw[cA]at e';cases e';exact z
  refine⟨?_,c,zout x c (λq=>by rw[B.zc x q]at bH;cases bH) hc,?_⟩
  ·have e3':Vis (relabel sc X.env) x:=e3;rcases e3' with z|z|z
   ·exfalso;have:=@lookup_relabel_local;have dh:∀(l:List (Str×NameKind)),l.lookup x=some .free→(l.map λ(y:Str×NameKind)=>match y with|(n,k)=>if(k==NameKind.free&&X.env.scope.kind==.function&&X.env.kindOf n==some .cell) then(n,NameKind.cell) else(n,k)).lookup x≠some .local:=by
     intro l;induction l with
     |nil=>intro h;cases h
     | cons y r ih=>
      obtain⟨n,k⟩:=y;intro h;rw[Jk]at h;rw[Ql];dsimp only;by_cases hb:(k==NameKind.free&&X.env.scope.kind==.function&&X.env.kindOf n==some .cell)=true
      ·rw[Sk hb,Jk];cases hx:x==n with
       |true=>intro q;cases q
       |false=>rw[hx]at h;exact ih h
      rw[Sz hb,Jk];cases hx:x==n with
      |true=>rw[hx]at h;intro q;have h':k=NameKind.free:=Qn h;have q':k=NameKind.local:=Qn q;rw[h']at q';cases q'
      |false=>rw[hx]at h;exact ih h
    exact dh sc.names bH z
   ·exact .inl z
   exact .inr z
  obtain⟨o,aw,dj⟩:=lk2;exact⟨o,hk c o aw,dj⟩
 ·rcases zin x c e with⟨a,b⟩|⟨_,b⟩
  ·rw[b];exact⟨none,hz x a⟩
  obtain⟨v,o,aw,dj⟩:=U' (cin x c b);exact⟨v,o,hk c o aw,dj⟩
 ·show H C=none;rw[hC];exact I.hok.fresh HM
 ·rcases zin x c e with⟨_,b⟩|⟨_,b⟩
  ·rw[b];exact I.hok.fresh (by rw[hC];exact Kt _)
  exact JL (cin x c b)
 ·have df:p∈X.pn++a7:=by have:p∈(X.pn++a7)++[]:=hp;rwa[Zq]at this
  obtain⟨e,n,ne,nf,d⟩:=Y6 df;refine⟨hk _ _ e,n,?_,λz=>?_,d⟩
  ·intro z;have z':p.1=C:=z;have:=Qu e;rw[z',hC]at this;exact Wj _ this
  rcases Qj.mp (I.stkSub _ z) with q|q
  ·exact ne q
  exact nf q
 unfold inner;rw[Qa];exact B.len
def inv_blk(B:Y0 ix)(I:HI)(hx:∀b∈ex,QK b)(ae:∀b∈ex,b<s.heap.objs.size)(hC:C=s.heap.objs.size)(hn:s'.heap.Ns C λ_=>none)(hk:∀b o,s.heap.get? b=some o→s'.heap.get? b=some o)(hg:s'.gens=s.gens)(ho:s'.os=s.os):Inv (ZR H) [] Oz H s':=zjh B.g I hx ae hC hn (λ_ h=>by cases h) hk hg ho
def PTs(X:Cx)(ifs:Nr)(t:TT):Prop:=
 ∀(a7:Nd) (s:Ni) (σ:St) (H:Hp) (Q:Bool→Hp→Prop),ZA H s→t σ H Q →
  wpAny Hk X.A (forIn ifs true λc r=>if r=true then do let ok ←isTrue c X.env (Rj c);pure (SB ok) else pure (SB r)) (V3 Q) X.xe s
def tAll:TT:=λ_ H Q=>Q true H
def zbw:PTs X [] tAll:=λ_ _ _ H _ I h=>wpAny_tests_nil ⟨H,I,h⟩
def zfh(h:VI c t):PTs X [c] t:=λa7 s σ H Q I q=>wpAny_tests_one (CB Q q)
def zfw{prog:Nk}{w:Nn}{A:Np}{s:Ni}{elt target iter:Expr}{ifs:Nr}{scope:Scope}{pos:Pos}{it ai:Value}{env:Env}{R:Nx}(I:Nat→Shared→Prop)(turn:∀ n s,I n s→wpAny (model prog w) A (pyNext it) (λr s₁=>match r with
   |none=>R yd s₁
   | some v=>ZG Pa (λ_ s₁'=>ZG zN (λ_ s₂=>
     wpAny HH A (forIn ifs true λc r=>if r=true then do let ok ←isTrue c env (Ep c);pure (SB ok) else pure (SB r)) (λok s₃=>
      if ok=true then ZG (Ep elt) (λx s₄=>wpAny HH A (call (.builtin "list.append") [ai,x]) (λ_ s₅=>∃m,m<n∧I m s₅) (λ_ _=>False) s₄) (λ_ _=>False) s₃
      else ∃m,m<n∧I m s₃) (λ_ _=>False) s₂) (λ_ _=>False) s₁') (λ_ _=>False) s₁) (λ_ _=>False) s)(n:Nat)(h:I n s):codeAny HH A (.compLoop (.ListComp elt [⟨target,iter,ifs,0⟩] scope pos) 0 it ai env) R s:=by
 refine codeAny_loop rfl I (λn s hI=>?_) n h;show ZQ A ((compTurn (.ListComp elt [⟨target,iter,ifs,0⟩] scope pos) 0 it ai env).onRaise (λx=>do noteFrame x env;theTreesLotGoes x)) _ _ s;refine wpAny_noted ?_;rw[compTurn_list];refine wpAny_bind (wpAny_standAt (wpAny_bind (MR (λr s₁ h₁=>?_) λ_ _ h'=>h'.elim)));cases r with
 |none=>exact wpAny_pure h₁
 |some v=>
  refine wpAny_bind (VJ (λ_ s₁' h₁'=>?_) λ_ _ h'=>h'.elim);refine wpAny_bind (Gn (λ_ s₂ h₂=>wpAny_bind (VL (λok s₃ h₃=>?_) λ_ _ h'=>h'.elim)) λ_ _ h'=>h'.elim);cases ok with
  |false=>exact wpAny_pure ⟨rfl,h₃⟩
  |true=>exact wpAny_bind (wpAny_bind (wpAny_mono h₃ (λx s₄ h₄=>wpAny_bind (wpAny_mono h₄ (λ_ s₅ h₅=>wpAny_pure (wpAny_pure ⟨rfl,h₅⟩)) λ_ _ h'=>h'.elim)) λ_ _ h'=>h'.elim))
def rLC(g:TG)(tc:TT)(te:TE)(Q:VK)(J:It)(τ:St)(H1:Hp):Prop:=∃W:Nat→Nat→List V→St→Hp→Prop,(∃m,W 0 m [] τ H1)∧∀i m ys τ H,W i m ys τ H →
 (V5 H∧∀D,H D=none→Q Sv (TB D ys)) ∨
 (D7 H∧ys.length<sizeLine∧∀x H',XE H'→g x τ H' λ τ2 H2=>tc τ2 H2 λb H3=>if b=true then te τ2 H3 λy H4=>∃m',m'<m∧W HY m' (ys++[y]) τ2 H4 else ∃m',m'<m∧W HY m' ys τ2 H3)
def tLC(ix:Nv)(wi:TI)(g:TG)(tc:TT)(te:TE):TE:=λ σ H Q=>wi σ H λJ H1=>YI H1
def lc_blockG{tg elt iter:Expr}{ifs:Nr}{pos:Pos}{g:TG}{tc:TT}{te:TE}{fp:Nl}{it:Nc}{tn:Nat→Heap→Prop}{J:It}{Q:VK}{RR:Value→Addr→Result→Shared→Prop}{E:Na}(B:Bf ix)(hc:X.calm=true)(hg:∀C ex s H,NJ g)(ht:∀C ex s H,Md tc)(he:∀C ex s H,MS te)(I:HI)(T:JB tn)(h0:PL)(hf:∀b∈fp,QK b)(q:YI H)(lD:RK) :
  wpAny Hk X.A (newList []) (λai s₃=>ZE Ry (λcenv s₄=>codeAny Hk X.A (.compStart Hs 0 SW ai {cenv with scope:=relabel sc X.env}) CC s₄) E s₃) E s:=by
 refine wpAny_newObj_type (zh1 B.one B.psh ?_);dsimp only;generalize hD:s.heap.objs.size=D;generalize fk:s.heap.push {cls:=.type "list",dict:=none,data:=.seq ([]:List Value).toArray}=g2;generalize kW:Mc (g2.push {cls:=.type "dict",data:=.dict #[]})=h₁;have kp:∀(q:No) (b:Nc) (o:Obj),q.get? b=some o→(Mc q).get? b=some o:=λq b o e=>by
  cases oz with
  |none=>exact e
  |some _=>exact QQ e
 have hns₁:h₁.Ns g2.objs.size (λ_=>none):=kW▸(Heap.Ns.new g2 (.type "dict")).keeps λb o e=>kp _ b o e;have hz₁:∀z,oz=some z→h₁.IsCell (g2.objs.size+1) none:=λz ez=>by have e:(g2.push {cls:=.type "dict",data:=.dict #[]}).objs.size=g2.objs.size+1:=Ut ..;rw[←kW,←e,ez];exact⟨_,Tc,rfl⟩
 have hC:g2.objs.size=D+1:=by rw[←fk,Ut,hD]
 have k2:∀b o,s.heap.get? b=some o→g2.get? b=some o:=λb o e=>by rw[←fk];exact QQ e
 have I3:ZA H {s with heap:=g2}:=I.kept (t':=s.toks) k2;have HD:H D=none:=I.hok.fresh Pt;have fD:QK D:=I.fpOk Pt HD;have D2:g2.get? D=some {cls:=.type "list",dict:=none,data:=.seq ([]:List Value).toArray}:=by rw[←fk,←hD];exact UE rfl
 have k1:∀b o,g2.get? b=some o→h₁.get? b=some o:=λb o e=>kW▸kp _ b o Cz;have fpx:∀b∈D::fp,QK b:=λb hb=>by
  rcases Qj.mp hb with e|e
  ·rw[e];exact fD
  exact hf b e
 have fplt:∀b∈D::fp,b<g2.objs.size:=λb hb=>by
  rcases Qj.mp hb with e|e
  ·rw[e,hC];exact Wa _
  obtain⟨o,q,_⟩:=WW h0 b e;exact Qu (k2 b o q)
 have fpD:D∉fp:=λhm=>by obtain⟨o,q,_⟩:=WW h0 D hm;have:=Qu q;rw[hD]at this;exact Wj _ this
 generalize ao:VB (D::fp) {s with heap:=g2} H=Y;have IY:JX [] Oz H {s with heap:=h₁,toks:=s.toks+([]:List (Str×Value)).length}:=by rw[←ao];exact B4 rfl
 have Yg:=ao▸hg g2.objs.size (D::fp) {s with heap:=g2} H;have Yt:=ao▸ht g2.objs.size (D::fp) {s with heap:=g2} H;have Ye:=ao▸he g2.objs.size (D::fp) {s with heap:=g2} H;have eP:Y.prog=X.prog:=by rw[←ao];rfl
 have eW:Y.w=X.w:=by rw[←ao];rfl
 have eK:Y.K=X.K:=by rw[←ao];rfl
 have eA:Y.A=X.A:=by rw[←ao];rfl
 have eC:Y.calm=true:=by rw[←ao];exact hc
 have eE:Y.env=compEnvC sc (JY Ld) g2.objs.size X.env:=by rw[←ao];rfl
 have eX:Y.xe=λ_ _=>False:=by rw[←ao];rfl
 have eEx:Y.ex=D::fp:=by rw[←ao];rfl
 have eFs:Y.fs=frs X.stack:=by rw[←ao];rfl
 have ePn:Y.pn=X.pn++a7:=by rw[←ao];rfl
 have eL:Y.env.locals=g2.objs.size:=by rw[eE];rfl
 have qj:Y.H₀=H:=by rw[←ao];rfl
 have jE:Y.s₀={s with heap:=g2}:=by rw[←ao];rfl
 have fY:∀{H':Hp} {pl:Nd} {b:Nc},b∈D::fp→H' b=none→(∀p∈pl,p.1≠b)→NK pl H' b:=λ{H' pl b} hb hn hp=>by
  obtain⟨f0,f1,f2,f3,f4,f5⟩:=fpx b hb;refine⟨hn,?_,?_,.inl CZ,Dl CZ |>.2,λp df=>?_⟩
  ·rw[eL];exact Zi ye
  ·rw[eFs];intro z;rcases Qj.mp (Dm z) with q|q
   ·exact f1 q
   exact f2 q
  rw[ePn]at df;rcases Qe.mp df with z|z
  ·exact f5 p z
  exact hp p z
 obtain⟨W,⟨m0,w0⟩,turn⟩:=q;have loop:∀ sN:Shared,sN={ s with heap:=h₁,toks:=s.toks+([]:List (Str×Value)).length } →
   codeAny Hk X.A LG E1 sN:=by
  rintro sN rfl;refine zfw (λn s'=>Ex6 λi τ H' ys a8 k=>Aj7 (JX [] τ H' s') EW (∀b∈D::fp,H' b=none) (s'.heap.get? D=some {cls:=.type "list",data:=.seq (a8:Nj).toArray k}) (YU a8) (ys.length≤sizeLine) OV) ?_ m0
   ⟨0,Oz,H,[],[],0,IY,QW h0 λb _ o e=>k1 b o Ew,λb hb=>(fpx b hb).1,k1 _ _ D2,.nil,Tq,w0⟩
  rintro n s5 ⟨i,τ,H5,ys,a8,k,I5,t5,n5,d5,v5,z5,w5⟩;have oD:∀{s':Ni} {its':Nj} {k':Nat},s'.heap.get? D=some {cls:=.type "list",data:=.seq its'.toArray k'}→∀b∈[D],∃o,s'.heap.get? b=some o∧∀v,o.data≠.cell v:=λ{s' its' k'} e b hb=>by rw[Qc.mp hb];exact⟨_,e,λv z=>by cases z⟩
  have hZ:JX ([]++zb4 [D] s5.heap) τ H5 s5:=I5.pinned (λb hb=>fY (by rw[Qc.mp hb];exact Qd) (n5 b (by rw[Qc.mp hb];exact Qd)) Hb) (oD d5);have pD:∀p∈zb4 [D] s5.heap,p.1=D∧p.2={cls:=.type "list",data:=.seq a8.toArray k}:=λp hp=>by obtain⟨e1,e2⟩:=ze2 hp;have dk:p.1=D:=Qc.mp e1;rw[dk,d5]at e2;exact⟨dk,(Qn e2).symm⟩
  have fN:∀{H':Hp},(∀b∈fp,H' b=none)→∀b∈fp,NK ([]++zb4 [D] s5.heap) H' b:=λhn b hb=>fY LP zO λp hp z=>by rw[Jq]at hp;rw[(pD p hp).1]at z;exact fpD (z▸hb)
  rcases K8 w5 with⟨stop,qn⟩|⟨go,zl,step⟩
  ·have h6:=UT (λ_ _=>False) hZ (fN λb hb=>n5 b LP) t5 stop;rw[eA]at h6;refine thn h6 λr s6 ⟨hr,I6⟩=>?_;subst hr;have d6:s6.heap.get? D=some {cls:=.type "list",data:=.seq a8.toArray k}:=by have hp:=zbl (fp:=[D]) TL d5;exact(I6.pin (D,_) (YG hp)).1
   have H5D:H5 D=none:=n5 D Qd;obtain⟨mL,nL,_⟩:=I6.loc;rw[eL]at nL;have CD:g2.objs.size≠D:=by rw[hC];exact Nat.succ_ne_self _
   refine lD D _ mL ys H5 s6 ?_ (qn D H5D) nL ?_ (by rw[hC,hD];exact Wa _)
   ·have u6:=I6.base;rw[eFs,eEx,qj,jE]at u6;refine I3.call' (ch:=D::fp) (I6.os.trans (by rw[jE])) ⟨u6.keep,u6.slot,λb o e n hx=>?_,u6.there,λb xs e=>?_,λb o u e=>?_,λb ps e=>?_⟩ ?_ I6.bare λb hb=>?_
    ·rw[zaf (λz=>hx AJ)];exact u6.free b o e n hx
    ·rw[zaf Ex];exact u6.tups b xs e
    ·rw[zaf Ex];exact u6.frzs b o u e
    ·rw[zaf Ex];exact u6.tbls b ps e
    ·have iS:=I6.hok;rw[eP,eW]at iS;intro b u e;by_cases hb:b=D
     ·subst hb;rw[zad]at e;cases e;exact⟨z5,a8,k,v5,d6⟩
     rw[Pm]at e;exact(iS b u e).stay (λc v _ q=>q) (λc q=>by rw[zaf IU];exact q) λc xs q=>by rw[zaf IU];exact q
    obtain⟨f0,f1,f2,f3,f4,f5⟩:=fpx b hb;exact⟨f3,f1,f4,f5⟩
   rw[zaf CD];have:=I6.free;rw[eL]at this;exact this
  have h6:=UU (λ_ _=>False) hZ (fN λb hb=>n5 b LP) t5 go;rw[eA]at h6;refine thn h6 λr s6 ⟨u,hr,h7⟩=>?_;subst hr;refine thn h7 λ_ s7 ⟨x,H7,I7,r7,y7,t7,n7⟩=>?_;have qq:=K9 (WW t7);have h8:=Yg _ s7 τ H7 x u _ qq r7 (Go y7);rw[eP,eW,eA,eX,eE]at h8;refine thn h8 λ_ s8 ⟨τ8,H8,I8,q8⟩=>?_;have h9:=Yt _ s8 τ8 H8 _ I8 q8;rw[eP,eW,eA,eX,eE]at h9;refine thn h9 λok s9 ⟨H9,I9,q9⟩=>?_;have again:∀{τ':St} {H':Hp} {s':Ni},JX (([]++zb4 [D] s5.heap)++V7 s7.heap) τ' H' s'→s'.heap.get? D=some {cls:=.type "list",data:=.seq a8.toArray k}∧H' D=none∧tn HY s'.heap∧∀b∈fp,H' b=none:=λ{τ' H' s'} I'=>by
   have pp:∀{b:Nc} {o:Obj},b∈fp→s7.heap.get? b=some o→s'.heap.get? b=some o∧H' b=none:=λ{b o} hb e=>
    let z:=I'.pin (b,o) L9
    ⟨z.1,z.2.1⟩
   have hp:=zbl (fp:=[D]) TL d5;have z:=I'.pin (D,_) (YG EJ);refine⟨z.1,z.2.1,QW t7 λb hb o e=>(pp hb e).1,λb hb=>?_⟩;obtain⟨o,e,_⟩:=WW t7 b hb;exact(pp hb e).2
  have drop:∀{pl:Nd} {τ':St} {H':Hp} {s':Ni},JX pl τ' H' s'→JX [] τ' H' s':=λI'=>I'.pins_of Hb;cases ok with
  |false=>rw[if_neg Hg]at q9 ⊢;obtain⟨m',hm,w9⟩:=q9;obtain⟨d9,H9D,t9,n9⟩:=again I9;exact⟨m',hm,i+1,τ8,H9,ys,a8,k,drop I9,t9,λb hb=>(PQ hb).elim (λe=>e▸H9D) (n9 b),d9,v5,z5,w9⟩
  | true=>
   rw[if_pos rfl]at q9 ⊢;have gF:=Ye _ s9 τ8 H9 _ I9 q9;rw[eP,eW,eA,eX,eE]at gF;refine thn gF λy dU ⟨yv,cB,lM,lQ,m',hm,iQ⟩=>?_;obtain⟨lH,H10D,sk,sU⟩:=again lM;refine call_meets F.slot_list_append ⟨_,lH,rfl⟩ F.entry_list_append (BO _) (KH (by rw[Qt,←v5.length];assumption)) ⟨lH,?_⟩;have q:=DQ (λa=>a.push y);have vU:yU=(a8++[y]).toArray:=by simp
   rw[vU]at q;have kk:∀b o,b≠D→dU.heap.get? b=some o→(dU.heap.update D (Obj.mapSeq λa=>a.push y)).get? b=some o:=λb o hb e=>(Wc dU.heap (Obj.mapSeq λa=>a.push y) A9).trans e;obtain⟨g0,g1,g2',g3,g4,g5⟩:=fY (pl:=[]) (H':=cB) (b:=D) Qd H10D Hb;have mZ:=(drop lM).turned (h':=dU.heap.update D (Obj.mapSeq λa=>a.push y)) (t':=dU.toks) (it:=D) kk H10D g1 g3 g4 g5;exact⟨m',hm,i+1,τ8,cB,ys++[yv],a8++[y],_,mZ,QW sk λb hb o e=>kk b o (λz=>fpD (z▸hb)) e,λb hb=>(PQ hb).elim (λe=>e▸H10D) (sU b),q,v5.append (Su lQ),
    by rw[Qm,Uc];assumption,iQ⟩
 exact codeAny_compStart_list IV (Vp (QW h0 λb _ o e=>k1 b o Ew) IV)
def lc_block{tg elt iter:Expr}{ifs:Nr}{pos:Pos}{g:TG}{tc:TT}{te:TE}{fp:Nl}{it:Nc}{tn:Nat→Heap→Prop}{J:It}{Q:VK}{RR:Value→Addr→Result→Shared→Prop}{E:Na}(B:Y0 ix)(hc:X.calm=true)(hg:∀C ex s H,J4 g)(ht:∀C ex s H,UZ tc)(he:∀C ex s H,J8 elt te)(I:HI)(T:JB tn)(h0:PL)(hf:∀b∈fp,QK b)(q:YI H)(lD:RK) :
  wpAny Hk X.A (newList []) (λai s₃=>ZE Ry (λcenv s₄=>codeAny Hk X.A (.compStart Hs 0 SW ai {cenv with scope:=relabel sc X.env}) CC s₄) E s₃) E s:=lc_blockG B.g hc hg ht he I T h0 hf q lD
def Inv.letgo{C:Nc}{m:Nh}{h':No}{s₀:No}(I:HI)(hn:s.heap.Ns C m)(hC:H C=none)(ae:X.env.locals<s₀.objs.size)(cI:∀x c,X.env.cells.lookup x=some c→c<s₀.objs.size)(hp:∀p∈X.pn++a7,p.1<s₀.objs.size)(aH:X.s₀.heap.objs.size≤s₀.objs.size)(hc:s₀.objs.size<C)(hs:Heap.SameBut C s.heap h'):ZA H {s with heap:=h'}:=
 I.turned (t':=s.toks) (it:=C) (λb o hb e=>(OO hb).trans e) hC (Yo (Ww ae hc)) (SK (Zn aH (Zt hc))) (λx c e=>Zi (Ww (cI x c e) hc)) λp q=>Zi (Ww (hp p q) hc)
def Inv.cl_lt(I:HI):∀x c,X.env.cells.lookup x=some c→c<s.heap.objs.size:=λx c e=>by obtain⟨v,q⟩:=U' e;exact q.lt
def Inv.pin_lt(I:HI):∀p∈X.pn++a7,p.1<s.heap.objs.size:=λp hp=>Qu (Y6 hp).1
def pe_lcC(B:Bf ix)(hc:X.calm=true)(hi:Ox)(hg:∀C a7 ex s H,NJ g)(ht:∀C a7 ex s H,Md tc)(he:∀C a7 ex s H,MS te)(hs:∀x,foldedSetIterable iter X.env x=pure x:=by intro _;rfl):Z7 Hs (XL te):=by intro a7 s σ H Q I h;rw[eval_ListComp];refine wpAny_comprehension_free (use:=none) rfl hs Ek B.kind B.names (thn SY λv s1 h1=>thn h1 λitv s2 h2=>?_);obtain⟨it,fp,tn,J,H2,e,I2,T,aQ,f2,q⟩:=h2;subst e;refine lc_blockG (RR:=λai C=>compPost Hk X.A X.xe none LJ ai C) B hc (hg · a7) (ht · a7) (he · a7) I2 T aQ f2 q ?_;intro D C m ys H' s' I' q' hn hC ae;refine⟨m,hn,λh' dy=>⟨Sv,_,I'.letgo hn hC I2.lt I2.cl_lt I2.pin_lt I2.sz ae dy,rfl,q'⟩⟩
def zd5(B:Y0 ix)(hc:X.calm=true)(hi:Ox)(hg:∀C a7 ex s H,J4 g)(ht:∀C a7 ex s H,UZ tc)(he:∀C a7 ex s H,J8 elt te)(hs:∀x,foldedSetIterable iter X.env x=pure x:=by intro _;rfl):Z7 Hs (XL te):=pe_lcC B.g hc hi hg ht he hs
def ps_lc(hN:X.N.Nodup)(di:X.N[i]?=some y)(hy:X.env.scope.names.lookup y=some .local)(B:Y0 ix)(hc:X.calm=true)(hi:Ox)(hg:∀C a7 ex s H,J4 g)(ht:∀C a7 ex s H,UZ tc)(he:∀C a7 ex s H,J8 elt te)(ow:swapsWith Hs (RH CH) spos.line X.env=pure true)(hs:∀x,foldedSetIterable iter X.env x=pure x:=by intro _;rfl):K0 (.Assign [CH] Hs spos) (tAsg (XL te) Ei):=by
 intro a7 s σ H D' I h;rw[exec_Assign_Name_used _ _ _ _ ow];refine wpAny_bind (wpAny_standAt (wpAny_bind ?_));show ZQ X.A (do let _ ←comprehension Hs sc X.env _ (newList []) false LK Pu) _ _ s;refine wpAny_bind (wpAny_mono (wpAny_comprehension_free (use:=some Tj) (Q:=λ_ s'=>JF D' .next s') rfl hs Ek B.kind B.names
  (thn SY λv s1 h1=>thn h1 λitv s2 h2=>?_)) (λ_ s' hq=>wpAny_pure (RP hq)) λ_ _ e=>e)
 obtain⟨it,fp,tn,J,H2,e,I2,T,aQ,f2,q⟩:=h2;subst e;refine lc_block (RR:=λai C=>compPost Hk X.A X.xe Pu (λ_ s'=>JF D' .next s') ai C) B hc (hg · a7) (ht · a7) (he · a7) I2 T aQ f2 q ?_;intro D C m ys H' s' I' q' hn hC ae;show ZQ X.A OL _ _ s';refine wpAny_assign_Name (BP (v:=.ref D) rfl (λlP qr ⟨a,sb,ha⟩=>?_) C0);have aC:C≠a:=by
  rcases ha with z|z
  ·rw[z];exact Yo Aw
  exact Yo (X0 ae)
 have bp:=hn.sameBut sb aC;exact⟨m,bp,λh' dy=>⟨_,_,Tr,q'⟩⟩
end
end L2
namespace Tim
open PySem PyProof.Rows
def gallopT:Bool→Keyed→Array Keyed→Nat→Nat→Nat→StateT SortSt Sem (Option Nat):=sortPriv% PySem.Builtin.gallop
def mergeLoT:Array Keyed→Array Keyed→StateT SortSt Sem (Array Keyed):=sortPriv% PySem.Builtin.mergeLo
def mergeHiT:Array Keyed→Array Keyed→StateT SortSt Sem (Array Keyed):=sortPriv% PySem.Builtin.mergeHi
section
variable{prog:Nk}{w:Nn}{A:Np}{E:Na}{s:Ni}{kd:SortKind}{O:KeyOrd}{key:Keyed→O.α}{a₀:Array Keyed}
def Cmp(prog:Nk)(w:Nn)(A:Np)(E:Na)(s:Ni)(kd:SortKind)(O:KeyOrd)(key:Keyed→O.α)(a₀:Array Keyed):Prop:=
 ∀(x y:Keyed) (st:SortSt) (Q:Option Bool→SortSt→Prop),x∈a₀.toList→y∈a₀.toList→kindOf st=kd→Q (RH (O.blt (key x) (key y))) st→ZM (lt' x y) Q st
def gk(O:KeyOrd)(key:Keyed→O.α)(xs:Array Keyed)(i:Nat):O.α:=match xs[i]? with
 |some p=>key p
 |none=>key (.none,.none)
def zfl{xs:Array Keyed}{i:Nat}{p:Keyed}(h:xs[i]?=some p):ZP xs i=key p:=by unfold gk;rw[h]
def ze7{xs ys:Array Keyed}{i j:Nat}(h:xs[i]?=ys[j]?):ZP xs i=ZP ys j:=by unfold gk;rw[h]
def Of(a₀ xs:Array Keyed):Prop:=∀(i:Nat) (p:Keyed),xs[i]?=some p→p∈a₀.toList
def za2(O:KeyOrd)(key:Keyed→O.α)(left:Bool)(ky:Keyed)(arr:Array Keyed)(i:Nat):Bool:=if left=true then O.blt (ZP arr i) yf else !(O.blt yf (ZP arr i))
def za0{arr:Array Keyed}{i:Nat}{p:Keyed}{Q:Keyed→SortSt→Prop}{st:SortSt}(h:arr[i]?=some p)(q:Q p st):ZM (elem' arr i) Q st:=by rw[elem'_eq,h];exact wpS_pure q
def beyondT(left:Bool)(ky:Keyed)(arr:Array Keyed)(i:Nat):U0 (Option Bool):=do
 let x ←elem' arr i
 if left=true then lt' x ky else do
  let r ←lt' ky x
  pure (r.map λz=>!z)
def wpS_beyond{left:Bool}{ky:Keyed}{arr:Array Keyed}{i:Nat}{Q:Option Bool→SortSt→Prop}{st:SortSt}(C:QD a₀)(hk:kindOf st=kd)(hO:BQ arr)(hy:ky∈a₀.toList)(hi:i<arr.size)(q:Q (RH (Q7 i)) st):ZM (DR i) Q st:=by
 have e:=getElem?_pos arr i hi;unfold beyondT;refine wpS_bind (za0 e ?_);have m:=hO _ _ e;unfold za2 at q;rw[zfl e]at q;cases left with
 |true=>exact C _ _ _ _ m hy hk q
 |false=>exact wpS_bind (C _ _ _ _ hy m hk (wpS_pure q))
def zck{left:Bool}{ky:Keyed}{arr:Array Keyed}{base n hint:Nat}{Q:Option Nat→SortSt→Prop}{st:SortSt}(C:QD a₀)(hk:kindOf st=kd)(hO:BQ arr)(hy:ky∈a₀.toList)(hb:base+n≤arr.size)(hh:hint<n)(mono:∀i j,i≤j→j<n→Q7 (base+j)=true→Q7 (base+i)=true)(h:∀k,k≤n→(∀i,i<k→Q7 (base+i)=true)→(∀i,k≤i→i<n→Q7 (base+i)=false)→Q (RH k) st) :
  wpS HH A E s (gallopT left ky arr base n hint) Q st:=by
 generalize hP:(λi=>Q7 (base+i))=P;have eP:∀i,Q7 (base+i)=P i:=λi=>by rw[←hP]
 simp only[eP]at mono h;have ask:∀{i:Nat} {Q':Option Bool→SortSt→Prop},i<n→Q' (RH (P i)) st→ZM (DR (base+i)) Q' st:=λ{i Q'} hi q=>wpS_beyond C hk hO hy Rr (Hm eP q);have anti:∀i j,i≤j→j<n→P i=false→P j=false:=λi j dG hj hi=>by
  cases e:P j with
  |false=>rfl
  |true=>rw[mono i j dG hj e]at hi;exact hi
 have last:∀(f:Nat→(Option IW×Nat×Nat)→U0 (ForInStep (Option IW×Nat×Nat))) (lo hi:Nat),lo≤hi→hi≤n→(∀i,i<lo→P i=true)→(∀i,hi≤i→i<n→P i=false) →
   (∀x l r Q',l≥r→Q' (ForInStep.done (none,l,r)) st→ZM (f x (none,l,r)) Q' st) →
   (∀x l r Q',¬l≥r→r≤n→(P (l+(r-l)/2)=true→Q' (SB (none,l+(r-l)/2+1,r)) st)→(P (l+(r-l)/2)=false→Q' (SB (none,l,l+(r-l)/2)) st)→ZM (f x (none,l,r)) Q' st) →
   wpS HH A E s (forIn [:n] (none,lo,hi) f) (λc aa=>aa=st∧∃k,c=(none,k,k)∧k≤n∧(∀i,i<k→P i=true)∧(∀i,k≤i→i<n→P i=false)) st:=by
  intro f lo hi h1 h2 h3 h4 f1 f2;refine wpS_forRange
   (I:=λx c aa=>Aj2 (aa=st) (Ex2 λl r=>Aj6 (c=(none,l,r)) (l≤r) (r≤n) (r-l≤n-x) (∀i,i<l→P i=true) (∀i,r≤i→i<n→P i=false))) ?step ?fin ?init
  case init=>exact⟨rfl,lo,hi,rfl,h1,h2,Hc,h3,h4⟩
  case fin=>
   rintro c aa ⟨rfl,l,r,rfl,a1,a2,a3,a4,a5⟩;have:l=r:=by lia
   subst this;exact⟨rfl,l,rfl,a2,a4,a5⟩
  case step=>
   rintro x c aa _ hx ⟨rfl,l,r,rfl,a1,a2,a3,a4,a5⟩;by_cases cz:l≥r
   ·refine f1 x l r _ cz ?_;have:l=r:=by exact Kn ‹_› ‹_›
    subst this;exact⟨rfl,l,rfl,a2,a4,a5⟩
   refine f2 x l r _ cz a2 (λe=>?_) λe=>?_
   ·exact⟨rfl,_,xf,Hc,by assumption,Hc,λi hi=>mono i _ Hc Hc e,a5⟩
   exact⟨rfl,_,xf,by exact BN _,Hc,Hc,a4,λi g1 g2=>anti _ i g1 g2 e⟩
 unfold gallopT;refine wpS_bind (ask (i:=hint) hh ?_);cases e0:P hint with
 | true=>
  refine wpS_bind (wpS_mono (wpS_forRange
   (I:=λx c aa=>Aj2 (aa=st) (Ex2 λla of=>Aj5 (c=(none,la,of)) (P (hint+la)=true) (hint+la<n) (la<of) (x<of)))
   (Q:=λc aa=>Aj2 (aa=st) (Ex2 λla of=>Aj5 (c=(none,la,of)) (P (hint+la)=true) (hint+la<n) (la<of) ((n-hint≤of)∨(Aj2 (of<n-hint) (P (hint+of)=false))))) ?step ?fin ?init) ?post)
  case init=>exact⟨rfl,0,1,rfl,e0,hh,by exact Qi _,by exact Qi _⟩
  case fin=>rintro c aa ⟨rfl,la,of,rfl,a1,a2,a3,a4⟩;exact⟨rfl,la,of,rfl,a1,a2,a3,HL Hc⟩
  case step=>
   rintro x c aa _ hx ⟨rfl,la,of,rfl,a1,a2,a3,a4⟩;dsimp only;by_cases cz:of≥n-hint
   ·rw[Sk cz];exact wpS_pure ⟨rfl,la,of,rfl,a1,a2,a3,HL cz⟩
   rw[Sz cz];refine wpS_bind (ask (i:=hint+of) Hc ?_);cases e:P (hint+of) with
   |true=>exact wpS_pure ⟨rfl,of,2*of+1,rfl,e,Hc,Hc,Hc⟩
   |false=>exact wpS_pure ⟨rfl,la,of,rfl,a1,a2,a3,SK ⟨Hc,e⟩⟩
  case post=>
   rintro c aa ⟨rfl,la,of,rfl,a1,a2,a3,a4⟩;refine wpS_bind (wpS_mono (last _ (hint+la+1) (hint+min of (n-hint)) Hc Hc (λi hi=>mono i _ Hc a2 a1) ?_ ?_ ?_) ?_)
   ·intro i g1 g2;rcases a4 with a4|⟨a4,a5⟩
    ·lia
    exact anti _ i Hc g2 a5
   ·intro x l r Q' cz q;dsimp only;rw[if_pos cz];exact wpS_pure q
   ·intro x l r Q' cz hr q1 q2;dsimp only;rw[if_neg cz];refine wpS_bind (ask (i:=l+(r-l)/2) Hc ?_);cases e:P (l+(r-l)/2) with
    |true=>exact wpS_pure (q1 e)
    |false=>exact wpS_pure (q2 e)
   rintro c aa ⟨rfl,k,rfl,b1,b2,b3⟩;exact wpS_pure (h k b1 b2 b3)
 | false=>
  refine wpS_bind (wpS_mono (wpS_forRange
   (I:=λx c aa=>Aj2 (aa=st) (Ex2 λla of=>Aj5 (c=(none,la,of)) (P (hint-la)=false) (la≤hint) (la<of) (x<of)))
   (Q:=λc aa=>Aj2 (aa=st) (Ex2 λla of=>Aj5 (c=(none,la,of)) (P (hint-la)=false) (la≤hint) (la<of) ((hint+1≤of)∨(Aj2 (of<hint+1) (P (hint-of)=true))))) ?step ?fin ?init) ?post)
  case init=>exact⟨rfl,0,1,rfl,e0,by exact Zm _,by exact Qi _,by exact Qi _⟩
  case fin=>rintro c aa ⟨rfl,la,of,rfl,a1,a2,a3,a4⟩;exact⟨rfl,la,of,rfl,a1,a2,a3,HL Hc⟩
  case step=>
   rintro x c aa _ hx ⟨rfl,la,of,rfl,a1,a2,a3,a4⟩;dsimp only;by_cases cz:of≥hint+1
   ·rw[Sk cz];exact wpS_pure ⟨rfl,la,of,rfl,a1,a2,a3,HL cz⟩
   rw[Sz cz];refine wpS_bind (ask (i:=hint-of) Hc ?_);cases e:P (hint-of) with
   |true=>exact wpS_pure ⟨rfl,la,of,rfl,a1,a2,a3,SK ⟨Hc,e⟩⟩
   |false=>exact wpS_pure ⟨rfl,of,2*of+1,rfl,e,Hc,Hc,Hc⟩
  case post=>
   rintro c aa ⟨rfl,la,of,rfl,a1,a2,a3,a4⟩;refine wpS_bind (wpS_mono (last _ (hint+1-min of (hint+1)) (hint-la) Hc Hc ?_ (λi g1 g2=>anti _ i g1 g2 a1) ?_ ?_) ?_)
   ·intro i hi;rcases a4 with a4|⟨a4,a5⟩
    ·lia
    exact mono i _ Hc Hc a5
   ·intro x l r Q' cz q;dsimp only;rw[if_pos cz];exact wpS_pure q
   ·intro x l r Q' cz hr q1 q2;dsimp only;rw[if_neg cz];refine wpS_bind (ask (i:=l+(r-l)/2) Hc ?_);cases e:P (l+(r-l)/2) with
    |true=>exact wpS_pure (q1 e)
    |false=>exact wpS_pure (q2 e)
   rintro c aa ⟨rfl,k,rfl,b1,b2,b3⟩;exact wpS_pure (h k b1 b2 b3)
end
section
variable{σ α β:Type}{M:Model}{A:Np}{E:Na}{s:Ni}{Q:α→σ→Prop}{st:σ}{c:Prop}[Decidable c]
def gen_post{m:MT α}(h:∀Q0:α→σ→Prop,(∀r aa,Q r aa→Q0 r aa)→JO m Q0 st):JO m Q st:=h Q λ_ _ z=>z
def jp_if{f:Unit→β→MT α}{x y:β}(h:∀z,JO (f () z) Q st):JO (if c then f () x else f () y) Q st:=by
 split
 ·exact h _
 exact h _
def zci{x y:MT α}(h1:c→JO x Q st)(h2:¬c→JO y Q st):JO (if c then x else y) Q st:=by
 split
 next z=>exact h1 z
 next z=>exact h2 z
end
section
variable{prog:Nk}{w:Nn}{A:Np}{E:Na}{s:Ni}{kd:SortKind}{O:KeyOrd}{key:Keyed→O.α}{a₀:Array Keyed}
def le(O:KeyOrd)(key:Keyed→O.α)(x y:Keyed):Prop:=O.kle (key x) (key y)
structure Jn(O:KeyOrd)(key:Keyed→O.α)(all out ra rb:List Keyed):Prop where
 perm:(out++ra++rb).Perm all
 so:out.Pairwise SU
 lo:∀x∈out,∀y,(y∈ra∨y∈rb)→QA x y
 sa:ra.Pairwise SU
 sb:rb.Pairwise SU
variable{all out ra rb seg:List Keyed}
def Jn.appA(j:QP all out (seg++ra) rb)(h:∀x∈seg,∀y∈rb,QA x y):QP all (out++seg) ra rb:=by
 obtain⟨s1,s2,s3⟩:=Zz.mp j.sa;refine⟨?_,Zz.mpr ⟨j.so,s1,λx hx y hy=>j.lo x hx y (HL (YN hy))⟩,λx hx y hy=>?_,s2,j.sb⟩
 ·have:=j.perm;simpa[Qz] using this
 rcases Qe.mp hx with q|q
 ·rcases hy with z|z
  ·exact j.lo x q y (HL PX)
  exact j.lo x q y (SK z)
 rcases hy with z|z
 ·exact s3 x q y z
 exact h x q y z
def Jn.appB(j:QP all out ra (seg++rb))(h:∀x∈seg,∀y∈ra,QA x y):QP all (out++seg) ra rb:=by
 obtain⟨s1,s2,s3⟩:=Zz.mp j.sb;refine⟨?_,Zz.mpr ⟨j.so,s1,λx hx y hy=>j.lo x hx y (SK (YN hy))⟩,λx hx y hy=>?_,j.sa,s2⟩
 ·have p1:(out++seg++ra++rb).Perm (out++ra++(seg++rb)):=by rw[Qz out seg,Qz out,Qz,Qz];refine Ud out ?_;rw[←Qz,←Qz];exact Xc rb Ur
  exact p1.trans j.perm
 rcases Qe.mp hx with q|q
 ·rcases hy with z|z
  ·exact j.lo x q y (HL z)
  exact j.lo x q y (SK PX)
 rcases hy with z|z
 ·exact h x q y z
 exact s3 x q y z
def Mg(O:KeyOrd)(key:Keyed→O.α)(all res:List Keyed):Prop:=res.Perm all∧res.Pairwise SU
def Jn.finA(j:QP all out ra []):Q8 all (out++ra):=
 ⟨by have:=j.perm;rwa[Zq]at this,Zz.mpr ⟨j.so,j.sa,λx hx y hy=>j.lo x hx y (HL hy)⟩⟩
def Jn.finB(j:QP all out [] rb):Q8 all (out++rb):=
 ⟨by have:=j.perm;rwa[Zq]at this,Zz.mpr ⟨j.so,j.sb,λx hx y hy=>j.lo x hx y C0⟩⟩
def Jn.finL(j:QP all out ra rb)(h:∀x∈rb,∀y∈ra,QA x y):Q8 all (out++rb++ra):=by
 refine⟨List.Perm.trans ?_ j.perm,Zz.mpr ⟨Zz.mpr ⟨j.so,j.sb,λx hx y hy=>j.lo x hx y C0⟩,j.sa,λx hx y hy=>?_⟩⟩
 ·rw[Qz,Qz];exact Ud out Ur
 rcases Qe.mp hx with q|q
 ·exact j.lo x q y (HL hy)
 exact h x q y hy
def zcf{a:Array Keyed}{i:Nat}(h:i<a.size):a.toList.drop i=a[i]::a.toList.drop HY:=by rw[Yc (Hd h)];simp
def zca{a:Array Keyed}{i:Nat}:(a.extract i a.size).toList=a.toList.drop i:=by
 have:(a.extract i a.size).toList=(RC i).take (a.size-i):=by simp
 rw[this];exact Qr Hb
def zhh{a:Array Keyed}{i k:Nat}(h:i+k≤a.size):(Cb (i+k)).toList++a.toList.drop (i+k)=a.toList.drop i:=by
 have e:(Cb (i+k)).toList=(RC i).take k:=by simp[List.take_drop]
 rw[e,←List.drop_drop];exact Zr _ _
def zbm{x y z:Keyed}(h1:QA x y)(h2:QA y z):QA x z:=Wk h1 h2
def zdi{x y:Keyed}{l:List Keyed}(p:(x::l).Pairwise SU)(h:y∈x::l):QA x y:=by
 rcases Qj.mp h with e|e
 ·rw[e];exact Jc _
 exact(Uf.mp p).1 y e
def Jn.pushB{a b:Array Keyed}{o:Array Keyed}{ia ib:Nat}(j:O7)(h1:ia<a.size)(h2:ib<b.size)(h:QA b[ib] a[ia]) :
  Jn O key all (o.push b[ib]).toList (RC ia) (To (ib+1)):=by
 rw[Xd];rw[zcf h2]at j;refine j.appB (seg:=[b[ib]]) λx hx y hy=>?_;rw[Qc.mp hx];have p:=j.sa;rw[zcf h1]at p hy;exact zbm h Id
def Jn.pushA{a b:Array Keyed}{o:Array Keyed}{ia ib:Nat}(j:O7)(h1:ia<a.size)(h2:ib<b.size)(h:QA a[ia] b[ib]) :
  Jn O key all (o.push a[ia]).toList (RC (ia+1)) (To ib):=by
 rw[Xd];rw[zcf h1]at j;refine j.appA (seg:=[a[ia]]) λx hx y hy=>?_;rw[Qc.mp hx];have p:=j.sb;rw[zcf h2]at p hy;exact zbm h Id
def zg3{a:Array Keyed}{i k:Nat}{x:Keyed}(h:i+k≤a.size)(hx:x∈(Cb (i+k)).toList):∃m,∃(hm:i+m<a.size),m<k∧x=a[i+m]:=by
 obtain⟨m,hm,e⟩:=Ze hx;have hz:(Cb (i+k)).toList.length=k:=by simp;lia
 refine⟨m,Hc,by exact zar7 ‹_› ‹_›,?_⟩;rw[←e];simp
def Jn.runA{a b:Array Keyed}{o:Array Keyed}{ia ib k:Nat}(j:O7)(h1:ia+k≤a.size)(h2:ib<b.size)(h:∀m (hm:ia+m<a.size),m<k→QA a[ia+m] b[ib]) :
  Jn O key all (o++a.extract ia (ia+k)).toList (RC (ia+k)) (To ib):=by
 rw[Yl];rw[←zhh h1]at j;refine j.appA λx hx y hy=>?_;obtain⟨m,hm,kH,rfl⟩:=zg3 h1 hx;have p:=j.sb;rw[zcf h2]at p hy;exact zbm (h m hm kH) Id
def Jn.runB{a b:Array Keyed}{o:Array Keyed}{ia ib k:Nat}(j:O7)(h1:ib+k≤b.size)(h2:ia<a.size)(h:∀m (hm:ib+m<b.size),m<k→QA b[ib+m] a[ia]) :
  Jn O key all (o++b.extract ib (ib+k)).toList (RC ia) (To (ib+k)):=by
 rw[Yl];rw[←zhh h1]at j;refine j.appB λx hx y hy=>?_;obtain⟨m,hm,kH,rfl⟩:=zg3 h1 hx;have p:=j.sa;rw[zcf h2]at p hy;exact zbm (h m hm kH) Id
def gk_at{xs:Array Keyed}{i:Nat}(h:i<xs.size):ZP xs i=key xs[i]:=zfl (getElem?_pos xs i h)
def srt_get{xs:Array Keyed}(p:xs.toList.Pairwise SU){i j:Nat}(dG:i≤j)(hj:j<xs.size):QA (xs[i]'(Yh dG hj)) xs[j]:=by
 rcases Ji i j with h|h
 ·have:=Jp.mp p i j (by simpa using Yh dG hj) Pw h;simpa using this
 have e:i=j:=by exact Kn ‹_› ‹_›
 subst e;exact Jc _
def zda{ky:Keyed}{xs:Array Keyed}{base n:Nat}(p:xs.toList.Pairwise SU)(hb:base+n≤xs.size):∀i j,i≤j→j<n→WP false ky xs (base+j)=true→WP false ky xs (base+i)=true:=by intro i j dG hj h;unfold za2 at h ⊢;rw[gk_at Hc]at h ⊢;simp only[Ws,if_false,Wi]at h ⊢;exact Wk (srt_get p (show base+i≤base+j by lia) Rr) (show FH _ from h)
def zdn{ky:Keyed}{xs:Array Keyed}{base n:Nat}(p:xs.toList.Pairwise SU)(hb:base+n≤xs.size):∀i j,i≤j→j<n→WP true ky xs (base+j)=true→WP true ky xs (base+i)=true:=by intro i j dG hj h;unfold za2 at h ⊢;rw[gk_at Hc]at h ⊢;simp only[if_true]at h ⊢;exact Xm (srt_get p (show base+i≤base+j by lia) Rr) h
def right_le{ky:Keyed}{xs:Array Keyed}{i:Nat}(h:i<xs.size)(e:WP false ky xs i=true):QA xs[i] ky:=by unfold za2 at e;rw[gk_at h]at e;simp only[Ws,if_false,Wi]at e;exact e
def right_lt{ky:Keyed}{xs:Array Keyed}{i:Nat}(h:i<xs.size)(e:WP false ky xs i=false):O.klt yf (key xs[i]):=by unfold za2 at e;rw[gk_at h]at e;simp only[Ws,if_false,Ka]at e;exact e
def left_lt{ky:Keyed}{xs:Array Keyed}{i:Nat}(h:i<xs.size)(e:WP true ky xs i=true):O.klt (key xs[i]) yf:=by unfold za2 at e;rw[gk_at h]at e;simp only[if_true]at e;exact e
def left_le{ky:Keyed}{xs:Array Keyed}{i:Nat}(h:i<xs.size)(e:WP true ky xs i=false):QA ky xs[i]:=by unfold za2 at e;rw[gk_at h]at e;simp only[if_true]at e;exact e
def SG(st aa:SortSt):Prop:=∃g,aa=KR (RV st) g (P3 st)
def wpS_mergeLo{a b:Array Keyed}{Q:Array Keyed→SortSt→Prop}{st:SortSt}(C:QD a₀)(hk:kindOf st=kd)(oa:BQ a)(ob:BQ b)(sa:a.toList.Pairwise SU)(sb:b.toList.Pairwise SU)(ha:0<a.size)(hb:0<b.size)(h0:O.klt (key b[0]) (key a[0]))(hl:∀y∈b.toList,QA y a[a.size-1])(h:∀(res:Array Keyed) (aa:SortSt),Q8 Hl res.toList→FJ aa→Q res aa):ZM (mergeLoT a b) Q st:=by
 have ia_:∀i (hi:i<a.size),a[i]∈a₀.toList:=λi hi=>oa i _ (getElem?_pos a i hi);have ib_:∀i (hi:i<b.size),b[i]∈a₀.toList:=λi hi=>ob i _ (getElem?_pos b i hi);have ea:∀i (hi:i<a.size),a[i]?=some a[i]:=λi hi=>getElem?_pos a i hi;have eb:∀i (hi:i<b.size),b[i]?=some b[i]:=λi hi=>getElem?_pos b i hi;have sgk:∀{aa},FJ aa→kindOf aa=kd:=λ⟨g,e⟩=>by rw[e];exact hk
 have endB:∀{o:Array Keyed} {i k:Nat},QP Hl o.toList (RC i) (To k)→k=b.size→Q8 Hl (o++a.extract i++b.extract k).toList:=λ{o i k} j e=>by
  rw[Yl,Yl,zca,zca];have z:b.toList.drop k=[]:=by rw[e];simp
  rw[z]at j ⊢;rw[Zq];exact j.finA
 have endA:∀{o:Array Keyed} {i k:Nat},QP Hl o.toList (RC i) (To k)→i=a.size→Q8 Hl (o++a.extract i++b.extract k).toList:=λ{o i k} j e=>by
  rw[Yl,Yl,zca,zca];have z:a.toList.drop i=[]:=by rw[e];simp
  rw[z]at j ⊢;rw[Zq];exact j.finB
 have endL:∀{o:Array Keyed} {i k:Nat},QP Hl o.toList (RC i) (To k)→i+1=a.size→Q8 Hl (o++b.extract k++a.extract i).toList:=λ{o i k} j e=>by
  rw[Yl,Yl,zca,zca];refine j.finL λx hx y hy=>?_;rw[zcf Hc]at hy;have z:a.toList.drop HY=[]:=by rw[e];simp
  rw[z]at hy;rw[Qc.mp hy];have:=hl x (Wo hx);have e2:a.size-1=i:=by lia
  simp only[e2]at this;exact this
 unfold mergeLoT;refine wpS_bind (IX (wpAny_rule ⟨rfl,?_⟩));refine wpS_bind (za0 (eb 0 hb) ?_);have j0:QP Hl (#[b[0]]:Array Keyed).toList (RC 0) (To 1):=by have j:QP Hl (#[]:Array Keyed).toList (RC 0) (To 0):=⟨Hb,List.Pairwise.nil,λx hx=>by simp at hx,sa,sb⟩;exact j.pushB ha hb (We h0)
 by_cases c1:b.size=1
 ·rw[Sk (by simp[c1])];exact wpS_pure (h _ _ (endB j0 c1.symm) ⟨_,rfl⟩)
 rw[if_neg (by simp;lia)];by_cases c2:a.size=1
 ·rw[Sk (by simp[c2])];exact wpS_pure (h _ _ (endL j0 Hc) ⟨_,rfl⟩)
 rw[if_neg (by simp;lia)];refine wpS_bind (wpS_get ?_);refine wpS_bind (wpS_mono (wpS_forRange
  (I:=λx c aa=>YE (Ex4 λo i k g=>Aj5 (c=(none,o,i,k,g)) (i+1<a.size) (k<b.size) E2 (x≤i+k)))
  (Q:=λc aa=>YE Th) ?step ?fin ?init) ?post)
 case init=>exact⟨⟨xf⟩,_,0,1,xf,Hc,Hc,j0,by exact Zm _⟩
 case fin=>rintro c aa ⟨_,o,i,k,g,rfl,a1,a2,a3,a4⟩;exfalso;lia
 case post=>rintro c aa ⟨g,res,r,rfl,m⟩;exact wpS_pure (h res aa m g)
 case step=>
  rintro x c bd _ hx ⟨g1,o1,i1,k1,mg,rfl,a1,a2,a3,a4⟩;dsimp -zeta only;refine wpS_bind (wpS_mono (wpS_forRange
   (I:=λy c aa=>Aj2 (aa=bd) (Ex5 λo i k ac bc=>Aj5 (c=(none,o,i,k,ac,bc)) (i+1<a.size) (k<b.size) E2 (i1+k1+y≤i+k)))
   (Q:=λc aa=>Aj2 (aa=bd) (Th∨(Ex5 λo i k ac bc=>Aj5 (c=(none,o,i,k,ac,bc)) (i+1<a.size) (k<b.size) E2 (i1+k1<i+k)))) ?step1 ?fin1 ?init1) ?post1)
  case init1=>exact⟨rfl,o1,i1,k1,0,0,rfl,a1,a2,a3,by exact Qi _⟩
  case fin1=>rintro c aa ⟨_,o,i,k,ac,bc,rfl,b1,b2,b3,b4⟩;exfalso;lia
  case step1=>
   rintro y c aQ _ hy ⟨rfl,o,i,k,ac,bc,rfl,b1,b2,b3,b4⟩;dsimp -zeta only;refine wpS_bind (za0 (eb k b2) (wpS_bind (za0 (ea i HJ) (IZ (C _ _ _ _ (ib_ k b2) (ia_ i HJ) (sgk g1) ?_)))));cases e:O.blt (key b[k]) (key (a[i]'(by exact Zt ‹_›))) with
   |true=>
    dsimp -zeta only;rw[if_pos rfl];refine wpS_bind (za0 (eb k b2) ?_);have j:=b3.pushB HJ b2 (We (show VW _ from e));by_cases d1:k+1=b.size
    ·rw[Sk (by simp[d1])];exact wpS_pure ⟨rfl,HL ⟨_,_,rfl,endB j d1⟩⟩
    rw[Sz (by simp[d1])];by_cases d2:bc+1≥mg
    ·rw[Sk d2];exact wpS_pure ⟨rfl,SK ⟨_,i,k+1,_,_,rfl,b1,by exact zar5 ‹_› ‹_›,j,Hc⟩⟩
    rw[Sz d2];exact wpS_pure ⟨rfl,_,i,k+1,_,_,rfl,b1,by exact zar5 ‹_› ‹_›,j,by exact zar4 ‹_›⟩
   |false=>
    dsimp -zeta only;rw[if_neg Hb];refine wpS_bind (za0 (ea i HJ) ?_);have j:=b3.pushA HJ b2 (show QA _ _ from e);by_cases d1:i+1+1=a.size
    ·rw[Sk (by simp[d1])];exact wpS_pure ⟨rfl,HL ⟨_,_,rfl,endL j d1⟩⟩
    rw[Sz (by simp[d1])];by_cases d2:ac+1≥mg
    ·rw[Sk d2];exact wpS_pure ⟨rfl,SK ⟨_,i+1,k,_,_,rfl,by exact zar5 ‹_› ‹_›,b2,j,Hc⟩⟩
    rw[Sz d2];exact wpS_pure ⟨rfl,_,i+1,k,_,_,rfl,by exact zar5 ‹_› ‹_›,b2,j,Hc⟩
  case post1=>
   rintro c aQ ⟨rfl,⟨res,r,rfl,m⟩|⟨o2,i2,k2,ac2,bc2,rfl,b1,b2,b3,b4⟩⟩
   ·exact wpS_pure ⟨g1,res,_,rfl,m⟩
   dsimp -zeta only;refine wpS_bind (IX (wpAny_rule ⟨rfl,?_⟩));refine wpS_bind (wpS_mono (wpS_forRange
    (I:=λy c aa=>YE (Ex6 λo i k g ac bc=>Aj5 (c=(none,o,i,k,g,ac,bc)) (i+1<a.size) (k<b.size) E2 (i2+k2≤i+k)))
    (Q:=λc aa=>YE (Th∨(Ex6 λo i k g ac bc=>Aj5 (c=(none,o,i,k,g,ac,bc)) (i+1<a.size) (k<b.size) E2 (i2+k2≤i+k)))) ?step2 ?fin2 ?init2) ?post2)
   case init2=>exact⟨g1,o2,i2,k2,_,_,xf,b1,b2,b3,HM⟩
   case fin2=>rintro c aa ⟨g,o,i,k,g',ac,bc,rfl,c1,c2,c3,c4⟩;exact⟨g,SK ⟨o,i,k,g',ac,bc,rfl,c1,c2,c3,c4⟩⟩
   case post2=>
    rintro c aS ⟨g3,⟨res,r,rfl,m⟩|⟨o3,i3,k3,g',wb,vW,rfl,c1,c2,c3,c4⟩⟩
    ·exact wpS_pure ⟨g3,res,_,rfl,m⟩
    dsimp -zeta only;refine wpS_bind (wpS_modify ?_);obtain⟨gg,e3⟩:=g3;exact wpS_pure ⟨⟨_,by rw[e3]⟩,o3,i3,k3,_,rfl,c1,c2,c3,Hc⟩
   case step2=>
    rintro y c aS _ hy ⟨g3,o3,i3,k3,mg3,wb,vW,rfl,c1,c2,c3,c4⟩;refine gen_post λQ0 dJ=>?_;dsimp -zeta only;have sgm:∀g',FJ (LD g'):=λg'=>by obtain⟨g,e⟩:=g3;exact⟨g',by rw[e]⟩
    extract_lets -underBinder+onlyGivenNames s1 out s2 ia s3 ib s4 mn s5 ac bc jp;refine jp_if (f:=jp) λm'=>?_;refine wpS_bind (wpS_modify ?_);refine wpS_bind (za0 (eb k3 c2) ?_);refine wpS_bind (zck (base:=i3) (n:=a.size-i3) (hint:=0) C yg oa (ib_ k3 c2) Hc Hc (zda sa Hc) λk q1 q2 q3=>?_);dsimp -zeta only;have jL:∀hi:i3+k<a.size,O.klt (key b[k3]) (key a[i3+k]):=λhi=>right_lt hi (q3 k HM Hc);have jr:=c3.runA (k:=k) Hc c2 λm hm kH=>right_le hm (q2 m kH);extract_lets -underBinder+onlyGivenNames ac' jp2;have h2:∀(n':Nat) (o':Array Keyed) (f1:n'+1<a.size),i3≤n'→QP Hl o'.toList (RC n') (To k3)→O.klt (key b[k3]) (key (a[n']'(by exact Zt ‹_›)))→ZM (jp2 () o' n') Q0 (LD m'):=by
     intro n' o' f1 f2 fJ fl;have f0:n'<a.size:=by exact Zt ‹_›
     refine wpS_bind (za0 (eb k3 c2) ?_);have fK:=fJ.pushB f0 c2 (We fl);refine zci (λd=>?_) (λd=>?_)
     ·exact wpS_pure (OH ⟨L8,HL ⟨_,_,rfl,endB fK zg⟩⟩)
     have d':¬k3+1=b.size:=λz=>d Sx;refine wpS_bind (za0 (ea n' f0) ?_);refine wpS_bind (zck (base:=k3+1) (n:=b.size-(k3+1)) (hint:=0) C yg ob (ia_ n' f0) Hc Hc (zdn sb Hc) λk' r1 r2 r3=>?_);dsimp -zeta only;have js:=fK.runB (k:=k') Hc f0 λm hm kH=>We (left_lt hm (r2 m kH));have nH:=λhi:k3+1+k'<b.size=>left_le hi (r3 k' HM Hc);extract_lets -underBinder+onlyGivenNames bc' jp3;have h3:∀(m2:Nat) (o2:Array Keyed) (p1:m2<b.size),k3+1≤m2→QP Hl o2.toList (RC n') (To m2)→QA a[n'] b[m2]→ZM (jp3 () o2 m2) Q0 (LD m'):=by
      intro m2 o2 p1 p2 pJ pl;refine wpS_bind (za0 (ea n' f0) ?_);have pK:=pJ.pushA f0 p1 pl;refine zci (λd=>?_) (λd=>?_)
      ·exact wpS_pure (OH ⟨L8,HL ⟨_,_,rfl,endL pK zg⟩⟩)
      have d2:¬n'+1+1=a.size:=λz=>d Sx;refine zci (λ_=>?_) (λ_=>?_)
      ·exact wpS_pure (OH ⟨L8,SK ⟨_,n'+1,m2,_,_,_,rfl,by exact zar5 ‹_› ‹_›,p1,pK,Hc⟩⟩)
      exact wpS_pure (OH ⟨L8,_,n'+1,m2,_,_,_,rfl,by exact zar5 ‹_› ‹_›,p1,pK,Hc⟩)
     refine zci (λkz=>?_) (λkz=>?_)
     ·refine zci (λd4=>?_) (λd4=>?_)
      ·exact wpS_pure (OH ⟨L8,HL ⟨_,_,rfl,endB js (SS d4)⟩⟩)
      have d4':¬k3+1+k'=b.size:=λz=>d4 Sx;have p1:k3+1+k'<b.size:=by lia
      exact h3 (k3+1+k') _ p1 (BN _) js (nH p1)
     have nI:k'=0:=Nat.eq_zero_of_not_pos kz;have p1:k3+1<b.size:=by exact zar5 ‹_› ‹_›
     subst nI;exact h3 (k3+1) _ p1 HM fK (nH p1)
    refine zci (λkz=>?_) (λkz=>?_)
    ·refine zci (λd=>?_) (λd=>?_)
     ·exact wpS_pure (OH ⟨L8,HL ⟨_,_,rfl,endL jr zg⟩⟩)
     refine zci (λe=>?_) (λe=>?_)
     ·exact wpS_pure (OH ⟨L8,HL ⟨_,_,rfl,endA jr (SS e)⟩⟩)
     have d':¬i3+k+1=a.size:=λz=>d Sx;have e':¬i3+k=a.size:=λz=>e Sx;have f1:i3+k+1<a.size:=by lia
     exact h2 (i3+k) _ f1 (BN _) jr (jL HJ)
    have nI:k=0:=Nat.eq_zero_of_not_pos kz;subst nI;exact h2 i3 _ c1 HM c3 (jL HJ)
def opp(O:KeyOrd):KeyOrd where
 α:=O.α
 blt:=λa b=>O.blt b a
 irrefl:=O.irrefl
 trans:=λa b c h1 h2=>O.trans c b a h2 h1
 negTrans:=λa b c h=>(O.negTrans c b a h).symm
 total:=λa b h1 h2=>O.total a b h2 h1
def Jn.finM(j:QP all out ra rb)(h:∀x∈ra,∀y∈rb,QA x y):Q8 all (out++ra++rb):=
 ⟨j.perm,Zz.mpr ⟨Zz.mpr ⟨j.so,j.sa,λx hx y hy=>j.lo x hx y (HL hy)⟩,j.sb,λx hx y hy=>by
  rcases Qe.mp hx with q|q
  ·exact j.lo x q y C0
  exact h x q y hy⟩⟩
abbrev Jh(O:KeyOrd)(key:Keyed→O.α)(all:List Keyed)(o a b:Array Keyed)(na nb:Nat):Prop:=WL (ST na).reverse (CL nb).reverse
def Mg.flip{res:List Keyed}(m:Mg (opp O) key all res):Q8 all res.reverse:=
 ⟨(Kx res).trans m.1,List.pairwise_reverse.mpr (m.2.imp λh=>h)⟩
def zdb{a:Array Keyed}{n:Nat}(h:n<a.size):(ST (n+1)).reverse=a[n]::(ST n).reverse:=by
 rw[List.take_add_one];have e:a.toList[n]?=some a[n]:=by simp[h]
 rw[e];simp
def rev_seg{a:Array Keyed}{i n:Nat}(hi:i≤n)(h:n≤a.size):(Cb n).toList.reverse++(ST i).reverse=(ST n).reverse:=by
 rw[←List.reverse_append];congr 1;have e:(Cb n).toList=(ST n).drop i:=by simp[List.drop_take]
 rw[e];have e2:a.toList.take i=(ST n).take i:=by rw[List.take_take];congr 1;lia
 rw[e2];exact Zr _ _
def zd3{a:Array Keyed}{n:Nat}:(a.extract 0 n).toList=a.toList.take n:=by simp
variable{a b o:Array Keyed}{na nb:Nat}
def Jh.pushA(j:II all (na+1) (nb+1))(h1:na<a.size)(h2:nb<b.size)(h:QA b[nb] a[na]):Q9 all (o.push a[na]) a b na (nb+1):=by show BR _;rw[Xd];have j':WL (ST (na+1)).reverse (CL (nb+1)).reverse:=j;rw[zdb h1]at j';refine Jn.appA (seg:=[a[na]]) j' λx hx y hy=>?_;rw[Qc.mp hx];have p:=j'.sb;rw[zdb h2]at p hy;exact zbm (O:=opp O) h Id
def Jh.pushB(j:II all (na+1) (nb+1))(h1:na<a.size)(h2:nb<b.size)(h:QA a[na] b[nb]):Q9 all (o.push b[nb]) a b (na+1) nb:=by show BR _;rw[Xd];have j':WL (ST (na+1)).reverse (CL (nb+1)).reverse:=j;rw[zdb h2]at j';refine Jn.appB (seg:=[b[nb]]) j' λx hx y hy=>?_;rw[Qc.mp hx];have p:=j'.sa;rw[zdb h1]at p hy;exact zbm (O:=opp O) h Id
def mem_ext{a:Array Keyed}{i n:Nat}{x:Keyed}(h:n≤a.size)(hx:x∈(Cb n).toList.reverse):∃m,∃(hm:m<a.size),i≤m∧m<n∧x=a[m]:=by
 obtain⟨m,hm,e⟩:=Ze (Wl.mp hx);have hz:(Cb n).toList.length=n-i:=by simp;lia
 refine⟨i+m,Hc,by exact BN _,Hc,?_⟩;rw[←e];simp
def Jh.runA{at_:Nat}(j:II all na (nb+1))(hi:at_≤na)(h1:na≤a.size)(h2:nb<b.size)(h:∀m (hm:m<a.size),at_≤m→m<na→QA b[nb] a[m]):Q9 all (o++(a.extract at_ na).reverse) a b at_ (nb+1):=by show BR _;rw[Yl,Kg];have j':WL (ST na).reverse (CL (nb+1)).reverse:=j;rw[←rev_seg hi h1]at j';refine Jn.appA j' λx hx y hy=>?_;obtain⟨m,hm,m1,m2,rfl⟩:=mem_ext h1 hx;have p:=j'.sb;rw[zdb h2]at p hy;exact zbm (O:=opp O) (h m hm m1 m2) Id
def Jh.runB{at_:Nat}(j:II all (na+1) nb)(hi:at_≤nb)(h1:nb≤b.size)(h2:na<a.size)(h:∀m (hm:m<b.size),at_≤m→m<nb→QA a[na] b[m]):Q9 all (o++(b.extract at_ nb).reverse) a b (na+1) at_:=by show BR _;rw[Yl,Kg];have j':WL (ST (na+1)).reverse (CL nb).reverse:=j;rw[←rev_seg hi h1]at j';refine Jn.appB j' λx hx y hy=>?_;obtain⟨m,hm,m1,m2,rfl⟩:=mem_ext h1 hx;have p:=j'.sa;rw[zdb h2]at p hy;exact zbm (O:=opp O) (h m hm m1 m2) Id
def wpS_mergeHi{Q:Array Keyed→SortSt→Prop}{st:SortSt}(C:QD a₀)(hk:kindOf st=kd)(oa:BQ a)(ob:BQ b)(sa:a.toList.Pairwise SU)(sb:b.toList.Pairwise SU)(ha:0<a.size)(hb:0<b.size)(h0:O.klt (key b[0]) (key a[0]))(hl:∀y∈b.toList,QA y a[a.size-1])(h:∀(res:Array Keyed) (aa:SortSt),Q8 Hl res.toList→FJ aa→Q res aa):ZM (mergeHiT a b) Q st:=by
 have ia_:∀i (hi:i<a.size),a[i]∈a₀.toList:=λi hi=>oa i _ (getElem?_pos a i hi);have ib_:∀i (hi:i<b.size),b[i]∈a₀.toList:=λi hi=>ob i _ (getElem?_pos b i hi);have ea:∀i (hi:i<a.size),a[i]?=some a[i]:=λi hi=>getElem?_pos a i hi;have eb:∀i (hi:i<b.size),b[i]?=some b[i]:=λi hi=>getElem?_pos b i hi;have sgk:∀{aa},FJ aa→kindOf aa=kd:=λ⟨g,e⟩=>by rw[e];exact hk
 have endA:∀{o:Array Keyed} {i k:Nat},Q9 Hl o a b i k→i=0→Q8 Hl (a.extract 0 i++b.extract 0 k++o.reverse).toList:=λ{o i k} j e=>by subst e;have j':Jn (opp O) key Hl o.toList [] (CL k).reverse:=j;have m:=j'.finB.flip;rw[Yl,Yl,Kg,zd3,zd3];simpa using m
 have endB:∀{o:Array Keyed} {i k:Nat},Q9 Hl o a b i k→k=0→Q8 Hl (a.extract 0 i++b.extract 0 k++o.reverse).toList:=λ{o i k} j e=>by subst e;have j':Jn (opp O) key Hl o.toList (ST i).reverse []:=j;have m:=j'.finA.flip;rw[Yl,Yl,Kg,zd3,zd3];simpa using m
 have endL:∀{o:Array Keyed} {i k:Nat},Q9 Hl o a b i k→k=1→Q8 Hl (b.extract 0 k++a.extract 0 i++o.reverse).toList:=λ{o i k} j e=>by
  subst e;have m:=(Jn.finM j λx hx y hy=>?_).flip
  ·rw[Yl,Yl,Kg,zd3,zd3];simpa using m
  rw[zdb hb]at hy;simp only[List.take_zero,List.reverse_nil,Qc]at hy;rw[hy];have bh:x∈a.toList:=Wh (Wl.mp hx);have e0:a.toList=a[0]::a.toList.drop 1:=by have:=zcf (a:=a) ha;simpa using this
  rw[e0]at bh sa;exact Wk (O:=O) (We h0) (zdi sa bh)
 obtain⟨n0,hn0⟩:∃n0,a.size=n0+1:=⟨a.size-1,Hc⟩;obtain⟨m0,jk⟩:∃m0,b.size=m0+1:=⟨b.size-1,Hc⟩;have cF:n0<a.size:=by lia
 have jj:m0<b.size:=by lia
 have j0:Q9 Hl (#[a[n0]]:Array Keyed) a b n0 b.size:=by
  have j:Q9 Hl (#[]:Array Keyed) a b (n0+1) (m0+1):=by have e1:a.toList.take (n0+1)=a.toList:=Qr (by simp;lia);have e2:b.toList.take (m0+1)=b.toList:=Qr (by simp;lia);show BR _;rw[e1,e2];exact⟨by simpa using List.Perm.append (Kx _) (Kx _),List.Pairwise.nil,λx hx=>by simp at hx,List.pairwise_reverse.mpr (sa.imp λh=>h),List.pairwise_reverse.mpr (sb.imp λh=>h)⟩
  rw[jk];refine j.pushA cF jj ?_;have:=hl b[m0] Hb;have e2:a.size-1=n0:=by lia
  simp only[e2]at this;exact this
 unfold mergeHiT;refine wpS_bind (IX (wpAny_rule ⟨rfl,?_⟩));have e2:a.size-1=n0:=by lia
 simp -zeta only[e2];refine wpS_bind (za0 (ea n0 cF) ?_);by_cases c1:n0=0
 ·rw[Sk (by simp[c1])];exact wpS_pure (h _ _ (endA j0 c1) ⟨_,rfl⟩)
 rw[if_neg (Sa c1)];by_cases c2:b.size=1
 ·rw[Sk (by simp[c2])];exact wpS_pure (h _ _ (endL j0 c2) ⟨_,rfl⟩)
 rw[if_neg (Sa c2)];refine wpS_bind (wpS_get ?_);obtain⟨n1,rfl⟩:∃n1,n0=n1+1:=⟨n0-1,by exact zar14 ‹_›⟩;obtain⟨m1,bG⟩:∃m1,b.size=m1+1+1:=⟨b.size-2,Hc⟩;rw[show b.size=m1+1+1 from bG]at j0;refine wpS_bind (wpS_mono (wpS_forRange
  (I:=λx c aa=>YE (Ex4 λo i k g=>Aj5 (c=(none,i+1,k+1+1,o,g)) (i<a.size) (k+1<b.size) (II Hl HY (k+1+1)) (i+k+x+4≤a.size+b.size)))
  (Q:=λc aa=>YE Th) ?step ?fin ?init) ?post)
 case init=>exact⟨⟨xf⟩,_,n1,m1,_,by rw[bG],HJ,Hc,j0,Hc⟩
 case fin=>rintro c aa ⟨_,o,i,k,g,rfl,a1,a2,a3,a4⟩;exfalso;lia
 case post=>rintro c aa ⟨g,res,r,rfl,m⟩;exact wpS_pure (h res aa m g)
 case step=>
  rintro x c bd _ hx ⟨g1,o1,i1,k1,mg,rfl,a1,a2,a3,a4⟩;dsimp -zeta only;refine wpS_bind (wpS_mono (wpS_forRange
   (I:=λy c aa=>Aj2 (aa=bd) (Ex5 λo i k ac bc=>Aj5 (c=(none,i+1,k+1+1,o,ac,bc)) (i<a.size) (k+1<b.size) (II Hl HY (k+1+1)) (i+k+y≤i1+k1)))
   (Q:=λc aa=>Aj2 (aa=bd) (Th∨(Ex5 λo i k ac bc=>Aj5 (c=(none,i+1,k+1+1,o,ac,bc)) (i<a.size) (k+1<b.size) (II Hl HY (k+1+1)) (i+k<i1+k1)))) ?step1 ?fin1 ?init1) ?post1)
  case init1=>exact⟨rfl,o1,i1,k1,0,0,rfl,a1,a2,a3,by exact Qi _⟩
  case fin1=>rintro c aa ⟨_,o,i,k,ac,bc,rfl,b1,b2,b3,b4⟩;exfalso;lia
  case step1=>
   rintro y c aQ _ hy ⟨rfl,o,i,k,ac,bc,rfl,b1,b2,b3,b4⟩;dsimp -zeta only;simp only[Nat.add_sub_cancel];refine wpS_bind (za0 (eb (k+1) b2) (wpS_bind (za0 (ea i b1) (IZ (C _ _ _ _ (ib_ (k+1) b2) (ia_ i b1) (sgk g1) ?_)))));cases e:O.blt (key b[k+1]) (key a[i]) with
   |true=>
    dsimp -zeta only;rw[if_pos rfl];refine wpS_bind (za0 (ea i b1) ?_);have j:=b3.pushA b1 b2 (We (show VW _ from e));by_cases d1:i=0
    ·rw[Sk (by simp[d1])];exact wpS_pure ⟨rfl,HL ⟨_,_,rfl,endA j d1⟩⟩
    rw[Sz (by simp[d1])];obtain⟨i',rfl⟩:∃i',i=i'+1:=⟨i-1,by exact zar14 ‹_›⟩;by_cases d2:ac+1≥mg
    ·rw[Sk d2];exact wpS_pure ⟨rfl,SK ⟨_,i',k,_,_,rfl,HJ,b2,j,Hc⟩⟩
    rw[Sz d2];exact wpS_pure ⟨rfl,_,i',k,_,_,rfl,HJ,b2,j,Hc⟩
   |false=>
    dsimp -zeta only;rw[if_neg Hb];refine wpS_bind (za0 (eb (k+1) b2) ?_);have j:=b3.pushB b1 b2 (show QA _ _ from e);by_cases d1:k+1=1
    ·rw[Sk (Hd d1)];exact wpS_pure ⟨rfl,HL ⟨_,_,rfl,endL j d1⟩⟩
    rw[Sz (Hd d1)];obtain⟨k',rfl⟩:∃k',k=k'+1:=⟨k-1,Hc⟩;by_cases d2:bc+1≥mg
    ·rw[Sk d2];exact wpS_pure ⟨rfl,SK ⟨_,i,k',_,_,rfl,b1,HJ,j,Hc⟩⟩
    rw[Sz d2];exact wpS_pure ⟨rfl,_,i,k',_,_,rfl,b1,HJ,j,Hc⟩
  case post1=>
   rintro c aQ ⟨rfl,⟨res,r,rfl,m⟩|⟨o2,i2,k2,ac2,bc2,rfl,b1,b2,b3,b4⟩⟩
   ·exact wpS_pure ⟨g1,res,_,rfl,m⟩
   dsimp -zeta only;refine wpS_bind (IX (wpAny_rule ⟨rfl,?_⟩));refine wpS_bind (wpS_mono (wpS_forRange
    (I:=λy c aa=>YE (Ex6 λo i k g ac bc=>Aj5 (c=(none,i+1,k+1+1,o,g,ac,bc)) (i<a.size) (k+1<b.size) (II Hl HY (k+1+1)) (i+k≤i2+k2)))
    (Q:=λc aa=>YE (Th∨(Ex6 λo i k g ac bc=>Aj5 (c=(none,i+1,k+1+1,o,g,ac,bc)) (i<a.size) (k+1<b.size) (II Hl HY (k+1+1)) (i+k≤i2+k2)))) ?step2 ?fin2 ?init2) ?post2)
   case init2=>exact⟨g1,o2,i2,k2,_,_,xf,b1,b2,b3,HM⟩
   case fin2=>rintro c aa ⟨g,o,i,k,g',ac,bc,rfl,c1,c2,c3,c4⟩;exact⟨g,SK ⟨o,i,k,g',ac,bc,rfl,c1,c2,c3,c4⟩⟩
   case post2=>
    rintro c aS ⟨g3,⟨res,r,rfl,m⟩|⟨o3,i3,k3,g',wb,vW,rfl,c1,c2,c3,c4⟩⟩
    ·exact wpS_pure ⟨g3,res,_,rfl,m⟩
    dsimp -zeta only;refine wpS_bind (wpS_modify ?_);obtain⟨gg,e3⟩:=g3;exact wpS_pure ⟨⟨_,by rw[e3]⟩,o3,i3,k3,_,rfl,c1,c2,c3,Hc⟩
   case step2=>
    rintro y c aS _ hy ⟨g3,o3,i3,k3,mg3,wb,vW,rfl,c1,c2,c3,c4⟩;refine gen_post λQ0 dJ=>?_;dsimp -zeta only;have sgm:∀g',FJ (LD g'):=λg'=>by obtain⟨g,e⟩:=g3;exact⟨g',by rw[e]⟩
    extract_lets -underBinder+onlyGivenNames s1 na s2 nb s3 out s4 mn s5 ac bc jp;refine jp_if (f:=jp) λm'=>?_;refine wpS_bind (wpS_modify ?_);refine wpS_bind (za0 (eb (k3+1) c2) ?_);refine wpS_bind (zck (n:=i3+1) (hint:=i3) C yg oa (ib_ (k3+1) c2) Hc (by exact Qi _) (zda sa Hc) λmY q1 q2 q3=>?_);dsimp -zeta only;have jr:=c3.runA (at_:=mY) q1 (by assumption) c2 λm hm m1 m2=>We (right_lt hm (by have:=q3 m m1 m2;rwa[Ki]at this));have jL:=λ(t:Nat) (ht:t<mY) (hi:t<a.size)=>right_le (O:=O) (key:=key) (ky:=b[k3+1]) hi (by have:=q2 t ht;rwa[Ki]at this);extract_lets -underBinder+onlyGivenNames kk ac' jp2;have h2:∀(n':Nat) (o':Array Keyed) (f1:n'<a.size),n'≤i3→Q9 Hl o' a b (n'+1) (k3+1+1)→QA a[n'] b[k3+1]→ZM (jp2 () (n'+1) o') Q0 (LD m'):=by
     intro n' o' f1 f2 fJ fl;refine wpS_bind (za0 (eb (k3+1) c2) ?_);have fK:=fJ.pushB f1 c2 fl;refine zci (λd=>?_) (λd=>?_)
     ·exact wpS_pure (OH ⟨L8,HL ⟨_,_,rfl,endL fK zg⟩⟩)
     have d':¬k3+1=1:=λz=>d Sx;refine wpS_bind (za0 (ea n' f1) ?_);refine wpS_bind (zck (n:=k3+1) (hint:=k3) C yg ob (ia_ n' f1) Hc (by exact Qi _) (zdn sb Hc) λlI r1 r2 r3=>?_);dsimp -zeta only;have js:=fK.runB (at_:=lI) r1 HJ f1 λm hm m1 m2=>left_le hm (by have:=r3 m m1 m2;rwa[Ki]at this);have nH:=λ(t:Nat) (ht:t<lI) (hi:t<b.size)=>We (left_lt (O:=O) (key:=key) (ky:=a[n']) hi (by have:=r2 t ht;rwa[Ki]at this));extract_lets -underBinder+onlyGivenNames tq bc' jp3;have h3:∀(m2:Nat) (o2:Array Keyed) (p1:m2+1<b.size),m2≤k3→Q9 Hl o2 a b (n'+1) (m2+1+1)→QA b[m2+1] a[n']→ZM (jp3 () (m2+1+1) o2) Q0 (LD m'):=by
      intro m2 o2 p1 p2 pJ pl;refine wpS_bind (za0 (ea n' f1) ?_);have pK:=pJ.pushA f1 p1 pl;refine zci (λd=>?_) (λd=>?_)
      ·exact wpS_pure (OH ⟨L8,HL ⟨_,_,rfl,endA pK zg⟩⟩)
      have d2:¬n'=0:=λz=>d Sx;cases n' with
      |zero=>exact absurd rfl d2
      |succ t=>
       refine zci (λ_=>?_) (λ_=>?_)
       ·exact wpS_pure (OH ⟨L8,SK ⟨_,t,m2,_,_,_,rfl,HJ,p1,pK,Hc⟩⟩)
       exact wpS_pure (OH ⟨L8,_,t,m2,_,_,_,rfl,HJ,p1,pK,Hc⟩)
     refine zci (λkz=>?_) (λkz=>?_)
     ·refine zci (λd4=>?_) (λd4=>?_)
      ·exact wpS_pure (OH ⟨L8,HL ⟨_,_,rfl,endL js (SS d4)⟩⟩)
      refine zci (λd5=>?_) (λd5=>?_)
      ·exact wpS_pure (OH ⟨L8,HL ⟨_,_,rfl,endB js (SS d5)⟩⟩)
      have d4':¬lI=1:=λz=>d4 Sx;have d5':¬lI=0:=λz=>d5 Sx;obtain⟨m2,e2⟩:∃m2,lI=m2+1+1:=⟨lI-2,Hc⟩;have:=h3 m2 _ Hc Hc (by rw[←e2];exact js) (nH (m2+1) Hc Hc);rw[←e2]at this;exact this
     have nI:¬ k3+1 - lI > 0:=kz;obtain⟨m2,e2⟩:∃m2,k3=m2+1:=⟨k3-1,Hc⟩;have:=h3 m2 _ Hc Hc (by rw[←e2];exact fK) (nH (m2+1) Hc Hc);rw[←e2]at this;exact this
    refine zci (λkz=>?_) (λkz=>?_)
    ·refine zci (λd=>?_) (λd=>?_)
     ·exact wpS_pure (OH ⟨L8,HL ⟨_,_,rfl,endA jr zg⟩⟩)
     have d':¬mY=0:=λz=>d Sx;obtain⟨n',e1⟩:∃n',mY=n'+1:=⟨mY-1,by exact zar14 ‹_›⟩;have:=h2 n' _ Hc Hc (by rw[←e1];exact jr) (jL n' Hc Hc);rw[←e1]at this;exact this
    have nI:¬ i3+1 - mY > 0:=kz;exact h2 i3 _ c1 HM c3 (jL i3 Hc c1)
variable{pre:Array Keyed}{p:Array (Nat×Nat×Nat)}{lo:Nat}
structure Bs(kd:SortKind)(a₀:Array Keyed)(p:Array (Nat×Nat×Nat))(lo:Nat)(pre:Array Keyed)(st:SortSt):Prop where
 kind:kindOf st=kd
 failed:failedOf st=none
 pend:pendingOf st=p
 perm:(Rb st).Perm a₀
 head:∀k,k<lo→(Rb st)[k]?=pre[k]?
def Bs.size{st:SortSt}(B:Z1 st):(Rb st).size=a₀.size:=B.perm.size_eq
def Bs.mem{st:SortSt}(B:Z1 st){i:Nat}(hi:i<a₀.size):∃q,(Rb st)[i]?=some q∧q∈a₀.toList:=by
 have di:i<(Rb st).size:=by rw[B.size];exact hi
 exact⟨_,getElem?_pos _ i di,(Um.mp B.perm).mem_iff.mp Hb⟩
def zht{st:SortSt}{i j:Nat}{Q:Option Bool→SortSt→Prop}(C:QD a₀)(B:Z1 st)(hi:i<a₀.size)(hj:j<a₀.size)(h:Q (RH (O.blt (ZP Ck i) (ZP Ck j))) st):ZM (ltAt' i j) Q st:=by obtain⟨x,e1,m1⟩:=B.mem hi;obtain⟨y,e2,m2⟩:=B.mem hj;rw[zfl e1,zfl e2]at h;rw[ltAt'_eq];refine wpS_bind (wpS_get ?_);refine wpS_bind (za0 e1 (IZ (za0 e2 ?_)));exact C x y st Q m1 m2 B.kind h
def zhg{xs:Array Keyed}{i j:Nat}(hj:j≤xs.size)(k:Nat):ZP (Gp i j ((j-i)/2)) k=if i≤k∧k<j then ZP xs (i+j-1-k) else ZP xs k:=by
 have e:=getElem?_mirror_all (i:=i) hj k;split
 next h=>rw[if_pos h]at e;exact ze7 e
 next h=>rw[if_neg h]at e;exact ze7 e
def gk_bubble{xs:Array Keyed}{src d:Nat}(hs:src<xs.size)(hd:d≤src)(k:Nat):ZP (bubble xs src d) k=if k=src-d then ZP xs src else if src-d<k∧k≤src then ZP xs (k-1) else ZP xs k:=by
 have e:=getElem?_bubble hs d hd k;split
 next h=>rw[if_pos h]at e;exact ze7 e
 next h=>
  rw[if_neg h]at e;split
  next h'=>rw[if_pos h']at e;exact ze7 e
  next h'=>rw[if_neg h']at e;exact ze7 e
def Bs.mirror{st:SortSt}{i j:Nat}(B:Z1 st)(hi:lo≤i)(hj:j≤a₀.size):Z1 (setArr st (mirror Ck i j ((j-i)/2))):=
 ⟨B.kind,B.failed,B.pend,(mirror_perm _ _ _ _).trans B.perm,λk hk=>by have e:=getElem?_mirror_all (xs:=arrOf st) (i:=i) (j:=j) (by rw[B.size];exact hj) k;rw[if_neg Hc]at e;exact e.trans (B.head k hk)⟩
def Bs.bubble{st:SortSt}{src d:Nat}(B:Z1 st)(hs:src<a₀.size)(hd:lo+d≤src):Z1 (setArr st (bubble Ck src d)):=
 ⟨B.kind,B.failed,B.pend,(bubble_perm _ _ _).trans B.perm,λk hk=>by have e:=getElem?_bubble (xs:=arrOf st) (src:=src) (by rw[B.size];exact hs) d Hc k;rw[if_neg Hc,if_neg Hc]at e;exact e.trans (B.head k hk)⟩
def Up(O:KeyOrd)(key:Keyed→O.α)(xs:Array Keyed)(lo hi:Nat):Prop:=∀i j,lo≤i→i≤j→j<hi→O.kle (ZP xs i) (ZP xs j)
def Dn(O:KeyOrd)(key:Keyed→O.α)(xs:Array Keyed)(lo hi:Nat):Prop:=∀i j,lo≤i→i≤j→j<hi→O.kle (ZP xs j) (ZP xs i)
def Up.one{xs:Array Keyed}:Y1 xs lo (lo+1):=λi j h1 h2 h3=>by
 have:i=j:=by lia
 subst this;exact Jc _
def Dn.one{xs:Array Keyed}:Bg xs lo (lo+1):=λi j h1 h2 h3=>by
 have:i=j:=by lia
 subst this;exact Jc _
def Up.snoc{xs:Array Keyed}{n:Nat}(u:Y1 xs lo (lo+n))(hn:1≤n)(h:O.kle (ZP xs (lo+n-1)) (ZP xs (lo+n))):Y1 xs lo (lo+(n+1)):=λi j h1 h2 h3=>by
 by_cases hj:j<lo+n
 ·exact u i j h1 h2 hj
 have ej:j=lo+n:=by lia
 subst ej;by_cases hi:i=lo+n
 ·subst hi;exact Jc _
 exact Wk (u i (lo+n-1) h1 Hc Hc) h
def Dn.snoc{xs:Array Keyed}{n:Nat}(u:Bg xs lo (lo+n))(hn:1≤n)(h:O.kle (ZP xs (lo+n)) (ZP xs (lo+n-1))):Bg xs lo (lo+(n+1)):=λi j h1 h2 h3=>by
 by_cases hj:j<lo+n
 ·exact u i j h1 h2 hj
 have ej:j=lo+n:=by lia
 subst ej;by_cases hi:i=lo+n
 ·subst hi;exact Jc _
 exact Wk h (u i (lo+n-1) h1 Hc Hc)
def Dn.turn{xs:Array Keyed}{hi:Nat}(d:Bg xs lo hi)(h:hi≤xs.size):Y1 (Gp lo hi ((hi-lo)/2)) lo hi:=λi j h1 h2 h3=>by rw[zhg h,zhg h,if_pos Hc,if_pos Hc];exact d _ _ Hc Hc Hc
def gk_same{xs:Array Keyed}{i j:Nat}(hj:j≤xs.size)(h:∀k,i≤k→k<j→ZP xs k=ZP xs (j-1))(k:Nat):ZP (Gp i j ((j-i)/2)) k=ZP xs k:=by
 rw[zhg hj];split
 next q=>rw[h _ Hc Hc,h k Hc Hc]
 next=>rfl
def wpS_ite{α:Type}{b:Bool}{x y:U0 α}{Q:α→SortSt→Prop}{st:SortSt}(h1:b=true→ZM x Q st)(h2:b=false→ZM y Q st):ZM (if b=true then x else y) Q st:=by
 cases b with
 |true=>rw[if_pos rfl];exact h1 rfl
 |false=>rw[if_neg Hb];exact h2 rfl
def wpS_binary{st:SortSt}{n ok:Nat}{Q:Bool→SortSt→Prop}(C:QD a₀)(hn:lo+n≤a₀.size)(hok:ok≤n)(B:Z1 st)(u:Y1 Ck lo (lo+ok))(h:∀aa,Z1 aa→Y1 TC lo (lo+n)→Q true aa):ZM (binarySort' lo n ok) Q st:=by
 rw[binarySort'_eq];refine wpS_bind (wpS_mono (wpS_forRange (I:=λk c aa=>Aj3 (c=(none,())) (Z1 aa) (Y1 TC lo (lo+min k n))) (Q:=λc aa=>Aj3 (c=(none,())) (Z1 aa) (Y1 TC lo (lo+n))) ?step ?fin ?init) ?post)
 case post=>rintro c aa ⟨rfl,B',u'⟩;exact wpS_pure (h aa B' u')
 case init=>
  refine⟨rfl,B,λi j h1 h2 h3=>?_⟩;by_cases z:ok=0
  ·exact Up.one (lo:=lo) i j h1 h2 Hc
  exact u i j h1 h2 Hc
 case fin=>rintro c aa ⟨e,B',u'⟩;exact⟨e,B',λi j h1 h2 h3=>u' i j h1 h2 Hc⟩
 case step=>
  rintro k c aa hak iI ⟨rfl,B',u'⟩;rw[show min k n=k by lia]at u';refine wpS_bind (wpS_mono (wpS_forRange
   (I:=λx c aT=>Aj2 (aT=aa) (Ex2 λl r=>Aj6 (c=(none,l,r)) (l≤r) (r≤k) (r-l≤k-x) (∀i,i<l→O.kle (zf (lo+i)) (zf (lo+k))) (∀i,r≤i→i<k→O.klt (zf (lo+k)) (zf (lo+i)))))
   (Q:=λc aT=>Aj2 (aT=aa) (Ex1 λl=>Aj4 (c=(none,l,l)) (l≤k) (∀i,i<l→O.kle (zf (lo+i)) (zf (lo+k))) (∀i,l≤i→i<k→O.klt (zf (lo+k)) (zf (lo+i))))) ?is ?if_ ?ii) ?ip)
  case ii=>exact⟨rfl,0,k,rfl,by exact Zm _,by exact Qi _,by exact Qi _,λi hi=>by lia,λi g1 g2=>by lia⟩
  case if_=>
   rintro c aT ⟨rfl,l,r,rfl,b1,b2,b3,b4,b5⟩;have:l=r:=by lia
   subst this;exact⟨rfl,l,rfl,b2,b4,b5⟩
  case is=>
   rintro x c aT _ hx ⟨rfl,l,r,rfl,b1,b2,b3,b4,b5⟩;dsimp only;by_cases ge:l≥r
   ·rw[Sk ge];have:l=r:=by exact Kn ‹_› ‹_›
    subst this;exact wpS_pure ⟨rfl,l,rfl,b2,b4,b5⟩
   rw[Sz ge];refine wpS_bind (FK B' Rr Hc ?_);cases e:O.blt (ZP Px (lo+k)) (ZP Px (lo+(l+r)/2)) with
   |true=>exact wpS_pure ⟨rfl,l,(l+r)/2,rfl,Hc,Hc,Hc,b4,λi g1 g2=>KeyOrd.klt_of_klt_of_kle (show VW _ from e) (u' _ _ (by exact BN _) Hc Hc)⟩
   |false=>exact wpS_pure ⟨rfl,(l+r)/2+1,r,rfl,Hc,by assumption,Hc,λi g1=>Wk (u' (lo+i) (lo+(l+r)/2) (by exact BN _) Hc Hc) (show FH _ from e),b5⟩
  case ip=>
   rintro c aT ⟨rfl,l,rfl,b2,b4,b5⟩;show Do (do moveDown' (lo+k) (lo+l);pure (SB (none,()))) _ _;rw[moveDown'_eq];have hb:=B'.bubble (src:=lo+k) (d:=lo+k-(lo+l)) Rr Hc;refine wpS_bind (Pj (wpS_pure ⟨rfl,hb,?_⟩));rw[show min (k+1) n=k+1 by lia];have hk:lo+k<(Rb aT).size:=by rw[B'.size];exact zar2 ‹_› ‹_›
   intro i j h1 h2 h3;show O.kle (ZP (Vq (lo+k) (lo+k-(lo+l))) i) (ZP (Vq (lo+k) (lo+k-(lo+l))) j);rw[gk_bubble hk Hc,gk_bubble hk Hc,show lo+k-(lo+k-(lo+l))=lo+l by lia];have lo_:∀t,lo≤t→t<lo+l→O.kle (ZP Px t) (ZP Px (lo+k)):=λt t1 t2=>by have:=b4 (t-lo) Hc;rwa[show lo+(t-lo)=t by lia]at this
   have hi_:∀t,lo+l≤t→t<lo+k→O.kle (ZP Px (lo+k)) (ZP Px t):=λt t1 t2=>by have:=b5 (t-lo) Hc Hc;rw[show lo+(t-lo)=t by lia]at this;exact We this
   repeat' split
   all_goals first
    |(exfalso;lia)
    |exact Jc _
    |exact lo_ _ (by assumption) (by lia)
    |exact hi_ _ (by lia) (by lia)
    |exact u' _ _ (by lia) (by lia) (by lia)
def wpS_count{st:SortSt}{nrem:Nat}{Q:Option Nat→SortSt→Prop}(C:QD a₀)(hn:lo+nrem≤a₀.size)(h1:1≤nrem)(B:Z1 st)(h:∀m aa,Z1 aa→1≤m→m≤nrem→Y1 TC lo (lo+m)→Q (RH m) aa):ZM (countRun' lo nrem) Q st:=by
 have asc:∀(f:Nat→(Option IW×Nat)→U0 (ForInStep (Option IW×Nat))) (a:Nat) (bd:SortSt),Z1 bd→1≤a→a≤nrem→Y1 C3 lo (lo+a) →
   (∀x y Q',1≤y→y<nrem→(O.klt (ZP C3 (lo+y)) (ZP C3 (lo+y-1))→Q' (ForInStep.done (none,y)) bd)→(O.kle (ZP C3 (lo+y-1)) (ZP C3 (lo+y))→Q' (SB (none,y+1)) bd)→ZM (f x (none,y)) Q' bd) →
   wpS HH A E s (forIn [a:nrem] (none,a) f) (λc aa=>aa=bd∧∃n,c=(none,n)∧a≤n∧n≤nrem∧Y1 C3 lo (lo+n)∧(n=nrem∨O.klt (ZP C3 (lo+n)) (ZP C3 (lo+n-1)))) bd:=by
  intro f a bd B1 a1 a2 u1 hf;refine wpS_forRange (I:=λx c aa=>Aj3 (aa=bd) (c=(none,x)) (Y1 C3 lo (lo+x))) ?step ?fin ⟨rfl,rfl,u1⟩
  case fin=>rintro c aa ⟨rfl,rfl,u'⟩;rw[show max a nrem=nrem by lia]at u' ⊢;exact⟨rfl,nrem,rfl,a2,HM,u',RT⟩
  case step=>rintro x c aa g1 g2 ⟨rfl,rfl,u'⟩;exact hf x x _ (by exact Zn ‹_› ‹_›) g2 (λe=>⟨rfl,x,rfl,g1,HJ,u',SK e⟩) λe=>⟨rfl,rfl,u'.snoc (by exact Zn ‹_› ‹_›) e⟩
 rw[countRun'_eq];refine wpS_bind (wpS_mono (asc _ 1 st B HM h1 Up.one ?_) ?_)
 ·intro x y Q' y1 y2 q1 q2;dsimp only;refine wpS_bind (FK B Rr Hc ?_);cases e:O.blt (ZP Ck (lo+y)) (ZP Ck (lo+y-1)) with
  |true=>exact wpS_pure (q1 e)
  |false=>exact wpS_pure (q2 e)
 rintro c aa ⟨rfl,n,rfl,n1,n2,u,bp⟩;dsimp only;by_cases d1:n=nrem
 ·rw[Sk (by simp[d1])];exact wpS_pure (h n _ B n1 n2 u)
 rw[if_neg (Sa d1)];have ae:=bp.resolve_left d1;by_cases d2:n>1
 focus
  rw[if_pos d2];refine wpS_bind (FK B Rr Hc ?_);cases e:O.blt (zf lo) (zf (lo+n-1)) with
  |true=>dsimp only;rw[if_pos rfl];exact wpS_pure (h n _ B n1 n2 u)
  |false=>?_
  dsimp only;rw[if_neg Hb];have eq_:∀k,lo≤k→k<lo+n→ZP TC k=ZP TC (lo+n-1):=λk k1 k2=>KeyOrd.kle_antisymm (u k _ k1 Hc Hc) (Wk (show FH _ from e) (u lo k HM k1 k2));have B2:=B.mirror (i:=lo) (j:=lo+n) HM Hc;have same:=gk_same (O:=O) (key:=key) (xs:=arrOf aa) (i:=lo) (j:=lo+n) (by rw[B.size];lia) eq_;refine wpS_bind (wpS_reverse ?_);have D2:Bg (XM (lo+n) ((lo+n-lo)/2)) lo (lo+n):=λi j i1 i2 i3=>by rw[same,same,eq_ j (by exact Zn ‹_› ‹_›) i3,eq_ i i1 (by exact Yh ‹_› ‹_›)];exact Jc _
  have L2:O.klt (ZP (XM (lo+n) ((lo+n-lo)/2)) (lo+n)) (ZP (XM (lo+n) ((lo+n-lo)/2)) (lo+n-1)):=by rw[same,same];exact ae
 rotate_left
 focus
  rw[if_neg d2];have en:n=1:=by lia
  subst en;have B2:=B;have D2:Bg TC lo (lo+1):=Dn.one;have L2:=ae
 all_goals
  refine wpS_bind (IX (wpAny_rule ⟨rfl,?_⟩));have D3:=D2.snoc (by assumption) (We L2);refine wpS_bind (wpS_mono (wpS_forRange
   (I:=λx c aQ=>Ex1 λq=>Aj7 (c=(none,x,q)) (Z1 aQ) (Bg CI lo (lo+x)) (2≤x) (x≤nrem) (q+1≤x) (∀i,lo+x-(q+1)≤i→i<lo+x→ZP CI i=ZP CI (lo+x-1)))
   (Q:=λc aQ=>Ex2 λx q=>Aj7 (c=(none,x,q)) (Z1 aQ) (Bg CI lo (lo+x)) (2≤x) (x≤nrem) (q+1≤x) (∀i,lo+x-(q+1)≤i→i<lo+x→ZP CI i=ZP CI (lo+x-1)))
   ?step ?fin ⟨0,rfl,B2,D3,Hc,Hc,Hc,λi i1 i2=>by congr 1;lia⟩) ?post)
  case fin=>rintro c aQ ⟨q,rfl,b1,b2,b3,b4,b5,b6⟩;exact⟨_,q,rfl,b1,b2,b3,b4,b5,b6⟩
  case step=>
   rintro x c aQ x1 x2 ⟨q,rfl,b1,b2,b3,b4,b5,b6⟩;dsimp only;refine wpS_bind (FK b1 Rr Hc ?_);cases e1:O.blt (ZP CI (lo+x)) (ZP CI (lo+x-1)) with
   | true=>
    dsimp only;rw[if_pos rfl];by_cases q0:q>0
    ·rw[Sk q0];refine wpS_bind (wpS_reverse (wpS_pure ?_));have sm:=gk_same (O:=O) (key:=key) (xs:=arrOf aQ) (i:=lo+x-(q+1)) (j:=lo+x) (by rw[b1.size];lia) b6;refine⟨0,rfl,b1.mirror Hc Hc,?_,by exact zar16 ‹_›,by assumption,by exact K' _,λi i1 i2=>by congr 1;lia⟩;refine Dn.snoc (λi j i1 i2 i3=>?_) HJ ?_
     ·show DS (ZP (Y' _) _);rw[sm,sm];exact b2 i j i1 i2 i3
     show DS (ZP (Y' _) _);rw[sm,sm];exact We (show VW _ from e1)
    rw[Sz q0];exact wpS_pure ⟨0,rfl,b1,b2.snoc HJ (We (show VW _ from e1)),by exact zar16 ‹_›,by assumption,by exact K' _,λi i1 i2=>by congr 1;lia⟩
   | false=>
    dsimp only;rw[if_neg Hb];refine wpS_bind (FK b1 Hc Rr ?_);cases e2:O.blt (ZP CI (lo+x-1)) (ZP CI (lo+x)) with
    |true=>dsimp only;rw[if_pos rfl];exact wpS_pure ⟨x,q,rfl,b1,b2,b3,b4,b5,b6⟩
    |false=>
     dsimp only;rw[if_neg Hb];have eqx:=Dp e1 e2;refine wpS_pure ⟨q+1,rfl,b1,b2.snoc HJ (by rw[eqx];exact Jc _),by exact zar16 ‹_›,by assumption,by exact zar4 ‹_›,λi i1 i2=>?_⟩;rw[show lo+(x+1)-1=lo+x by lia];by_cases ix:i=lo+x
     ·rw[ix]
     rw[eqx];exact b6 i Hc Hc
  case post=>
   rintro c aQ ⟨x,q,rfl,b1,b2,b3,b4,b5,b6⟩;dsimp only;have sm:=gk_same (O:=O) (key:=key) (xs:=arrOf aQ) (i:=lo+x-(q+1)) (j:=lo+x) (by rw[b1.size];lia) b6;by_cases q0:q>0
   focus
    rw[if_pos q0];refine wpS_bind (wpS_reverse ?_);have B5:=b1.mirror (i:=lo+x-(q+1)) (j:=lo+x) Hc Hc;have D5:Bg (PyProof.Rows.mirror CI (lo+x-(q+1)) (lo+x) ((lo+x-(lo+x-(q+1)))/2)) lo (lo+x):=λi j i1 i2 i3=>by rw[sm,sm];exact b2 i j i1 i2 i3
   rotate_left
   focus
    rw[if_neg q0];have B5:=b1;have D5:=b2
   all_goals
    refine wpS_bind (wpS_reverse ?_);have B6:=B5.mirror (i:=lo) (j:=lo+x) HM Hc;have U6:=D5.turn (Zn (show lo+x≤a₀.size by lia) (Nat.le_of_eq B5.size.symm));refine wpS_bind (wpS_mono (asc _ x _ B6 HJ b4 U6 ?_) ?_)
    ·intro z y Q' y1 y2 q1 q2;dsimp only;refine wpS_bind (FK B6 Rr Hc ?_);show Do (if _=true then _ else _) _ _;exact wpS_ite (λe=>wpS_pure (q1 e)) λe=>wpS_pure (q2 e)
    rintro c st6 ⟨rfl,m,rfl,m1,m2,um,_⟩;exact wpS_pure (h m _ B6 Hc m2 um)
def PR:List (Nat×Nat×Nat)→Nat→List SH→Prop
 |[],_,[]=>True
 |q::ps,off,g::gs=>q.1=off∧q.2.1=g.length∧PR ps (off+g.length) gs
 |_,_,_=>False
theorem PR.split:∀{dq dX:List (Nat×Nat×Nat)} {off:Nat} {gs:List SH},PR (dq++dX) off gs→∃g1 g2,gs=g1++g2∧g1.length=dq.length∧PR dq off g1∧PR dX (off+g1.flatten.length) g2
 |[],_,off,gs,h=>⟨[],gs,rfl,rfl,trivial,Hd h⟩
 |q::dq,dX,off,[],h=>False.elim h
 |q::dq,dX,off,g::gs,⟨h1,h2,h3⟩=>by obtain⟨g1,g2,e,l,p1,p2⟩:=PR.split h3;refine⟨g::g1,g2,by rw[e];rfl,Sa l,⟨h1,h2,p1⟩,?_⟩;rw[Yj,Qm,←Nat.add_assoc];exact p2
theorem PR.join:∀{dq dX:List (Nat×Nat×Nat)} {off:Nat} {g1 g2:List SH},PR dq off g1→PR dX (off+g1.flatten.length) g2→PR (dq++dX) off (g1++g2)
 |[],_,_,[],_,_,h=>by simpa using h
 |[],_,_,_::_,_,h,_=>False.elim h
 |_::_,_,_,[],_,h,_=>False.elim h
 |q::dq,dX,off,g::g1,g2,⟨h1,h2,h3⟩,h=>⟨h1,h2,PR.join h3 (by rw[Yj,Qm,←Nat.add_assoc]at h;exact h)⟩
theorem PR.len:∀{ps:List (Nat×Nat×Nat)} {off:Nat} {gs:List SH},PR ps off gs→ps.length=gs.length
 |[],_,[],_=>rfl
 |[],_,_::_,h=>False.elim h
 |_::_,_,[],h=>False.elim h
 |_::ps,_,_::gs,⟨_,_,h⟩=>by simp[PR.len h]
def mid_at{arr:Array Keyed}{F M S:List Keyed}(e:arr.toList=F++(M++S)){j:Nat}(hj:j<M.length):arr[F.length+j]?=some M[j]:=by
 have:arr[F.length+j]?=arr.toList[F.length+j]?:=by simp
 rw[this,e,Jm (by exact BN _),show F.length+j-F.length=j by lia,Xw hj];simp
def mid_ext{arr:Array Keyed}{F M S:List Keyed}(e:arr.toList=F++(M++S)){i j:Nat}(hi:i≤j)(hj:j≤M.length):(arr.extract (F.length+i) (F.length+j)).toList=(M.drop i).take (j-i):=by
 have e1:(arr.extract (F.length+i) (F.length+j)).toList=(arr.toList.drop (F.length+i)).take (F.length+j-(F.length+i)):=by simp
 rw[e1,e,←List.drop_drop,List.drop_left,List.drop_append_of_le_length (by exact Zn ‹_› ‹_›),show F.length+j-(F.length+i)=j-i by lia];rw[List.take_append_of_le_length (HG Yu)]
theorem put_back{sa:Nat}:∀(l:List Keyed) (n:Nat) (arr:Array Keyed) (F M S:List Keyed),arr.toList=F++(M++S)→F.length=sa+n→M.length=l.length →
  ((l.zipIdx n).foldl (λ(a:Array Keyed) (q:Keyed×Nat)=>a.setIfInBounds (sa+q.2) q.1) arr).toList=F++(l++S)
 |[],n,arr,F,M,S,e,_,hl=>by have:M=[]:=Ku.mp (Hd hl);rw[this]at e;simpa using e
 |p::l,n,arr,F,[],S,e,_,hl=>by simp at hl
 |p::l,n,arr,F,m::M,S,e,hf,hl=>by
  rw[List.zipIdx_cons,Xn];have e2:(arr.setIfInBounds (sa+n) p).toList=(F++[p])++(M++S):=by rw[Array.toList_setIfInBounds,e,←hf,MJ HM,Nat.sub_self];simp
  have:=put_back (sa:=sa) l (n+1) _ (F++[p]) M S e2 (by rw[Qm];simp;lia) (Hd hl);rw[this];simp
structure Rn(kd:SortKind)(O:KeyOrd)(key:Keyed→O.α)(a₀:Array Keyed)(gs:List (List Keyed))(rest:List Keyed)(st:SortSt):Prop where
 kind:kindOf st=kd
 failed:failedOf st=none
 perm:(Rb st).Perm a₀
 arr:(Rb st).toList=gs.flatten++rest
 pend:PR (RV st).toList 0 gs
 srt:∀g∈gs,g.Pairwise SU∧g≠[]
def Rn.of{gs:List SH}{rest:List Keyed}{st:SortSt}(R:Cs):BQ Ck:=λi p e=>by
 refine(Um.mp R.perm).mem_iff.mp ?_;have:(Rb st).toList[i]?=some p:=by simpa using e
 exact Yz this
def pw_get{M:List Keyed}(p:M.Pairwise SU){i j:Nat}(dG:i≤j)(hj:j<M.length):QA (M[i]'(Yh dG hj)) M[j]:=by
 rcases Ji i j with h|h
 ·exact Jp.mp p i j (Yh dG hj) hj h
 have e:i=j:=by exact Kn ‹_› ‹_›
 subst e;exact Jc _
def wpS_set{Q:PUnit→SortSt→Prop}{st aa:SortSt}(h:Q ⟨⟩ aa):ZM (set aa:U0 PUnit) Q st:=by unfold wpS;rw[StateT.run_set];exact wpAny_pure ⟨rfl,h⟩
def zgd{i:Nat}{gs:List SH}{rest:List Keyed}{Q:Bool→SortSt→Prop}{st:SortSt}(C:QD a₀)(R:Cs)(hi:i+1 < (RV st).size)(h:∀aE aa,Z3 aE rest aa→aE.length+1=gs.length→aE.flatten.length=gs.flatten.length→Q true aa):ZM (mergeAt' i) Q st:=by
 obtain⟨dq,q1,q2,dX,hp,hl⟩:∃dq q1 q2 dX,(RV st).toList=dq++q1::q2::dX∧dq.length=i:=by
  have h1:i<(RV st).toList.length:=by simp;exact Zt ‹_›
  have h2:i+1<(RV st).toList.length:=by simp;assumption
  refine⟨(RV st).toList.take i,(RV st).toList[i],(RV st).toList[i+1],(RV st).toList.drop (i+2),?_,ym⟩;rw[←Yc h2,←Yc h1,Zr]
 have pr:=R.pend;rw[hp]at pr;obtain⟨g1,gt,rfl,hg1,pr1,sH⟩:=pr.split;obtain _|⟨RA,_|⟨RB,g2⟩⟩:=gt
 ·exact False.elim sH
 ·exact False.elim sH.2.2
 obtain⟨sa,na,pw⟩:=q1;obtain⟨sb,nb,pw2⟩:=q2;obtain⟨e1,e2,e3,e4,sG⟩:=sH;simp only[Ki]at e1 e2 e3 e4 sG;subst e1 e2 e3 e4;have x1:(RV st)[i]?=some (g1.flatten.length,RA.length,pw):=by
  have:(RV st)[i]?=(RV st).toList[i]?:=by simp
  rw[this,hp,←hl];simp
 have x2:(RV st)[i+1]?=some (g1.flatten.length+RA.length,RB.length,pw2):=by
  have:(RV st)[i+1]?=(RV st).toList[i+1]?:=by simp
  rw[this,hp,←hl];simp
 have sA:=R.srt RA Hb;have sB:=R.srt RB Hb;have hA:0<RA.length:=Ub.mpr sA.2;have hB:0<RB.length:=Ub.mpr sB.2;have arr:(Rb st).toList=g1.flatten++((RA++RB)++(g2.flatten++rest)):=by rw[R.arr];simp
 generalize hF:g1.flatten=F at x1 x2 arr sG hp;have hsz:F.length+(RA.length+RB.length)≤(Rb st).size:=by have:=congrArg List.length arr;simp only[Qm,Zy]at this;lia
 have at_:∀j (hj:j<(RA++RB).length),(Rb st)[F.length+j]?=some (RA++RB)[j]:=λj hj=>mid_at arr hj;have atA:∀j (hj:j<RA.length),(Rb st)[F.length+j]?=some RA[j]:=λj hj=>by rw[at_ j (HG Qm),List.getElem_append_left hj]
 have atB:∀j (hj:j<RB.length),(Rb st)[F.length+RA.length+j]?=some RB[j]:=λj hj=>by rw[Nat.add_assoc,at_ (RA.length+j) (HG Qm),List.getElem_append_right (by exact BN _)];simp
 have memA:∀j (hj:j<RA.length),RA[j]∈a₀.toList:=λj hj=>R.of _ _ (atA j hj);have memB:∀j (hj:j<RB.length),RB[j]∈a₀.toList:=λj hj=>R.of _ _ (atB j hj);have fin:∀(M:List Keyed) (aa:SortSt),M.Perm (RA++RB)→M.Pairwise SU→kindOf aa=kd→failedOf aa=none→(Rb aa).toList=F++(M++(g2.flatten++rest)) →
   pendingOf aa=((RV st).setIfInBounds i (F.length,RA.length+RB.length,pw)).eraseIdxIfInBounds HY→Q true aa:=by
  intro M aa m1 m2 m3 m4 m5 m6;have ml:=m1.length_eq;rw[Qm]at ml;refine h (g1++M::g2) aa ⟨m3,m4,?_,?_,?_,λg hg=>?_⟩ (by simp;lia) ?_
  ·refine Um.mpr (List.Perm.trans ?_ (Um.mp R.perm));rw[m5,arr];exact Ud F (Xc _ m1)
  ·rw[m5,←hF];simp
  ·have e:(RV aa).toList=dq++(F.length,RA.length+RB.length,pw)::dX:=by
    rw[m6];have e1:((RV st).setIfInBounds i (F.length,RA.length+RB.length,pw)).toList=dq++(F.length,RA.length+RB.length,pw)::(F.length+RA.length,RB.length,pw2)::dX:=by rw[Array.toList_setIfInBounds,hp,←hl,MJ HM,Nat.sub_self];rfl
    rw[Array.toList_eraseIdxIfInBounds,e1,←hl,List.eraseIdx_append_of_length_le (by exact BN _)];simp
   rw[e];refine pr1.join ⟨by rw[Ki,hF],by rw[←ml],?_⟩;rw[Ki,hF,ml,←Nat.add_assoc];exact sG
  ·rcases Qe.mp hg with z|z
   ·exact R.srt g (YN z)
   rcases Qj.mp z with z|z
   ·rw[z];exact⟨m2,λq=>by rw[q]at ml;simp at ml;lia⟩
   exact R.srt g CN
  simp only[Wu,Yj,Qm];lia
 have gkA:∀j (hj:j<RA.length),ZP Ck (F.length+j)=key RA[j]:=λj hj=>zfl (atA j hj);have gkB:∀j (hj:j<RB.length),ZP Ck (F.length+RA.length+j)=key RB[j]:=λj hj=>zfl (atB j hj);unfold mergeAt';refine wpS_bind (wpS_get ?_);rw[x1,x2];dsimp only;refine wpS_bind (wpS_set ?_);refine wpS_bind (za0 (by have:=atB 0 hB;rwa[Nat.add_zero]at this) ?_);refine wpS_bind (FM (memB 0 hB) (Zn (show F.length+RA.length≤F.length+(RA.length+RB.length) by lia) hsz) hA ?_ λk k1 k2 k3=>?_)
 ·intro x y xy hy;unfold za2;rw[gkA x (by exact Yh ‹_› ‹_›),gkA y hy];simp only[Ws,if_false,Wi];exact λe=>Wk (pw_get sA.1 xy hy) (show FH _ from e)
 have k2':∀j (hj:j<k) (cG:j<RA.length),QA RA[j] RB[0]:=λj hj cG=>by have:=k2 j hj;unfold za2 at this;rw[gkA j cG]at this;simp only[Ws,if_false,Wi]at this;exact this
 have k3':∀j (hj:k≤j) (cG:j<RA.length),O.klt (key RB[0]) (key RA[j]):=λj hj cG=>by have:=k3 j hj cG;unfold za2 at this;rw[gkA j cG]at this;simp only[Ws,if_false,Ka]at this;exact this
 dsimp only;have B0:∀y∈RB,QA RB[0] y:=λy hy=>by obtain⟨j,hj,e⟩:=Ze hy;rw[←e];exact pw_get sB.1 Tq hj
 by_cases c1:RA.length-k=0
 ·rw[Sk (by simp[c1])];refine wpS_pure (fin (RA++RB) _ I0 (Zz.mpr ⟨sA.1,sB.1,λx hx y hy=>?_⟩) R.kind R.failed arr rfl);obtain⟨j,hj,e⟩:=Ze hx;rw[←e];exact zbm (k2' j Hc hj) (B0 y hy)
 rw[if_neg (Sa c1)];have cV:F.length+k+(RA.length-k)-1=F.length+(RA.length-1):=by lia
 have lA:RA.length-1<RA.length:=by exact zar1 ‹_›
 refine wpS_bind (za0 (by rw[cV];exact atA _ lA) ?_);refine wpS_bind (FM (memA _ lA) (Zn (show F.length+RA.length+RB.length≤F.length+(RA.length+RB.length) by lia) hsz) Hy ?_ λm n1 n2 n3=>?_)
 ·intro x y xy hy;unfold za2;rw[gkB x (by exact Yh ‹_› ‹_›),gkB y hy];simp only[if_true];exact λe=>Xm (pw_get sB.1 xy hy) (show VW _ from e)
 have n2':∀j (hj:j<m) (cG:j<RB.length),O.klt (key RB[j]) (key RA[RA.length-1]):=λj hj cG=>by have:=n2 j hj;unfold za2 at this;rw[gkB j cG]at this;simp only[if_true]at this;exact this
 have n3':∀j (hj:m≤j) (cG:j<RB.length),QA RA[RA.length-1] RB[j]:=λj hj cG=>by have:=n3 j hj cG;unfold za2 at this;rw[gkB j cG]at this;simp only[if_true]at this;exact this
 have AL:∀x∈RA,QA x RA[RA.length-1]:=λx hx=>by obtain⟨j,hj,e⟩:=Ze hx;rw[←e];exact pw_get sA.1 Hc lA
 dsimp only;by_cases c2:m=0
 ·rw[Sk (by simp[c2])];refine wpS_pure (fin (RA++RB) _ I0 (Zz.mpr ⟨sA.1,sB.1,λx hx y hy=>?_⟩) R.kind R.failed arr rfl);obtain⟨j,hj,e⟩:=Ze hy;rw[←e];exact zbm (AL x hx) (n3' j Hc hj)
 rw[if_neg (Sa c2)];have eX:((Rb st).extract (F.length+k) (F.length+RA.length)).toList=RA.drop k:=by rw[mid_ext arr (by assumption) (by rw[Qm];exact BN _),List.drop_append_of_le_length (by assumption),List.take_append_of_le_length (HS Yu)];exact Qr (HS Yu)
 have eY:((Rb st).extract (F.length+RA.length) (F.length+RA.length+m)).toList=RB.take m:=by rw[Nat.add_assoc,mid_ext arr (by exact BN _) (HG Qm),List.drop_left,show RA.length+m-RA.length=m by lia]
 generalize hX:(Rb st).extract (F.length+k) (F.length+RA.length)=Xs at eX;generalize hY:(Rb st).extract (F.length+RA.length) (F.length+RA.length+m)=Ys at eY;have lX:Xs.size=RA.length-k:=by rw[←Zy,eX,Yu]
 have lY:Ys.size=m:=by rw[←Zy,eY,Za];lia
 have gX:∀j (hj:j<Xs.size),Xs[j]=RA[k+j]'(by lia):=λj hj=>by
  have:Xs.toList[j]?=some (RA[k+j]'(by lia)):=by rw[eX,List.getElem?_drop];exact Qb Hc
  have e2:Xs.toList[j]?=some Xs[j]:=by simp[hj]
  rw[e2]at this;exact Qn this
 have gY:∀j (hj:j<Ys.size),Ys[j]=RB[j]'(by lia):=λj hj=>by
  have:Ys.toList[j]?=some (RB[j]'(by lia)):=by rw[eY,List.getElem?_take_of_lt (by exact zar7 ‹_› ‹_›)];exact Qb Hc
  have e2:Ys.toList[j]?=some Ys[j]:=by simp[hj]
  rw[e2]at this;exact Qn this
 have oX:BQ Xs:=λj q e=>by
  have hj:j<Xs.size:=by
   rcases Ji j Xs.size with z|z
   ·exact z
   rw[getElem?_neg Xs j Hc]at e;cases e
  rw[getElem?_pos Xs j hj]at e;rw[←Qn e,gX j hj];exact memA _ _
 have oY:BQ Ys:=λj q e=>by
  have hj:j<Ys.size:=by
   rcases Ji j Ys.size with z|z
   ·exact z
   rw[getElem?_neg Ys j Hc]at e;cases e
  rw[getElem?_pos Ys j hj]at e;rw[←Qn e,gY j hj];exact memB _ _
 have pX:Xs.toList.Pairwise SU:=by rw[eX];exact sA.1.sublist (Xz _ _)
 have pY:Ys.toList.Pairwise SU:=by rw[eY];exact sB.1.sublist PY
 have zX:0<Xs.size:=by lia
 have zY:0<Ys.size:=by lia
 have first:O.klt (key Ys[0]) (key Xs[0]):=by rw[gY 0 zY,gX 0 zX];exact k3' _ (by exact Qi _) _
 have lastX:Xs[Xs.size-1]=RA[RA.length-1]:=by rw[gX (Xs.size-1) Hy];congr 1;lia
 have lst:∀y∈Ys.toList,QA y Xs[Xs.size-1]:=λy hy=>by rw[lastX];rw[eY]at hy;obtain⟨j,hj,e⟩:=Ze hy;rw[Za]at hj;rw[←e,Ja];exact We (n2' j Hc Hc)
 have done:∀ (res:Array Keyed) (aa:SortSt),Q8 (Xs.toList++Ys.toList) res.toList→SG (KR (((RV st).setIfInBounds i (F.length,RA.length+RB.length,pw)).eraseIdxIfInBounds HY) (gallopOf st) (P3 st)) aa →
   wpS HH A E s (do
    modify λz=>SortSt.mk' (kindOf z) (res.toList.zipIdx.foldl (λ(a:Array Keyed) (q:Keyed×Nat)=>a.setIfInBounds (F.length+k+q.2) q.1) (Rb z)) (RV z) (gallopOf z) (P3 z)
    let z ←get
    pure (P3 z).isNone) Q aa:=by
  intro res aa mg ⟨g,est⟩;subst est;refine wpS_bind (Pj (IZ (wpS_get ?_)));have oS:failedOf st=none:=R.failed;show Do (pure (P3 st).isNone) _ _;rw[oS];rw[eX,eY]at mg;have perm2:(RA.take k++(res.toList++RB.drop m)).Perm (RA++RB):=by
   have e1:RA++RB=RA.take k++((RA.drop k++RB.take m)++RB.drop m):=by rw[Qz (RA.drop k),Zr,←Qz,Zr]
   rw[e1];exact Ud _ (Xc _ mg.1)
  have memR:∀x∈res.toList,x∈RA.drop k∨x∈RB.take m:=λx hx=>Qe.mp (mg.1.mem_iff.mp hx);have sorted2:(RA.take k++(res.toList++RB.drop m)).Pairwise SU:=by
   refine Zz.mpr ⟨sA.1.sublist PY,Zz.mpr ⟨mg.2,sB.1.sublist (Xz _ _),λx hx y hy=>?_⟩,λx hx y hy=>?_⟩
   ·rcases memR x hx with z|z
    ·obtain⟨j,hj,e⟩:=Ze hy;rw[Yu]at hj;rw[←e,List.getElem_drop];exact zbm (AL x (Wo z)) (n3' _ (by exact BN _) Hc)
    have:=sB.1;rw[←Zr m RB]at this;exact(Zz.mp this).2.2 x z y hy
   have xle:QA x RB[0]:=by obtain⟨j,hj,e⟩:=Ze hx;rw[Za]at hj;rw[←e,Ja];exact k2' j Hc Hc
   rcases Qe.mp hy with z|z
   ·rcases memR y z with z|z
    ·have:=sA.1;rw[←Zr k RA]at this;exact(Zz.mp this).2.2 x hx y z
    exact zbm xle (B0 y (Wh z))
   exact zbm xle (B0 y (Wo z))
  refine wpS_pure (fin _ _ perm2 sorted2 R.kind rfl ?_ rfl);have vZ:(Rb st).toList=(F++RA.take k)++((RA.drop k++RB.take m)++(RB.drop m++(g2.flatten++rest))):=by
   rw[arr];have e1:RA++RB=RA.take k++((RA.drop k++RB.take m)++RB.drop m):=by rw[Qz (RA.drop k),Zr,←Qz,Zr]
   rw[e1];simp only[Qz]
  have lr:=mg.1.length_eq;have pb:=put_back (sa:=F.length+k) res.toList 0 Ck _ _ _ vZ (by rw[Qm,Za];lia) lr.symm;refine Eq.trans pb ?_;simp only[Qz]
 by_cases c3:RA.length-k≤m
 ·rw[Sk c3];exact wpS_bind (wpS_mergeLo C R.kind oX oY pX pY zX zY first lst done)
 rw[Sz c3];exact wpS_bind (wpS_mergeHi C R.kind oX oY pX pY zX zY first lst done)
theorem PR.congr:∀{ps gH:List (Nat×Nat×Nat)} {off:Nat} {gs:List SH},(ps.map λq=>(q.1,q.2.1))=(gH.map λq=>(q.1,q.2.1))→PR ps off gs→PR gH off gs
 |[],[],_,_,_,h=>h
 |[],_::_,_,_,e,_=>by simp at e
 |_::_,[],_,_,e,_=>by simp at e
 |q::ps,q'::gH,off,[],e,h=>False.elim h
 |q::ps,q'::gH,off,g::gs,e,⟨h1,h2,h3⟩=>by rw[Ql,Ql]at e;obtain⟨e1,e2⟩:=List.cons.inj e;have e3:=congrArg Prod.fst e1;have e4:=congrArg Prod.snd e1;exact⟨e3.symm.trans h1,e4.symm.trans h2,PR.congr e2 h3⟩
def flat_ge{gs:List SH}(h:∀g∈gs,g≠[]):gs.length≤gs.flatten.length:=by
 induction gs with
 |nil=>simp
 |cons g gs ih=>have h1:0<g.length:=Ub.mpr (h g Qd);have h2:=ih λg hg=>h g (QL hg);rw[Yj,Qm,Zk];lia
def Rn.size{gs:List SH}{rest:List Keyed}{st:SortSt}(R:Cs):gs.flatten.length+rest.length=a₀.size:=by have e:=congrArg List.length R.arr;rw[Qm,Zy,R.perm.size_eq]at e;exact e.symm
def Rn.psize{gs:List SH}{rest:List Keyed}{st:SortSt}(R:Cs):(RV st).size=gs.length:=by have e:=R.pend.len;rwa[Zy]at e
def Rn.found{gs:List SH}{rest:List Keyed}{st aa:SortSt}{n:Nat}(R:Cs)(B:Bs kd a₀ (RV st) gs.flatten.length Ck aa)(u:Y1 TC gs.flatten.length (gs.flatten.length+n))(hn:n≤rest.length) :
  ∃G r,G.length=n∧G.Pairwise SU∧Z3 gs (G++r) aa:=by
 have sz:(Rb aa).size=(Rb st).size:=by rw[B.size,R.perm.size_eq]
 have hz:=R.size;have e1:(Rb aa).toList.take gs.flatten.length=gs.flatten:=by
  have:(Rb aa).toList.take gs.flatten.length=(Rb st).toList.take gs.flatten.length:=by
   apply List.ext_getElem?;intro k;rw[List.getElem?_take,List.getElem?_take];split
   next hk=>have:=B.head k hk;simpa using this
   next=>rfl
  rw[this,R.arr,List.take_left]
 refine⟨((Rb aa).toList.drop gs.flatten.length).take n,((Rb aa).toList.drop gs.flatten.length).drop n,?_,?_,⟨B.kind,B.failed,B.perm,?_,by rw[B.pend];exact R.pend,R.srt⟩⟩
 ·rw[Za,Yu,Zy,B.size];lia
 ·refine Jp.mpr λi j hi hj dG=>?_;rw[Za,Yu,Zy,B.size]at hi hj;rw[Ja,Ja,List.getElem_drop,List.getElem_drop];have:=u (gs.flatten.length+i) (gs.flatten.length+j) (by exact BN _) Hc Hc;rw[gk_at (by rw[B.size];lia),gk_at (by rw[B.size];lia)]at this;rw[Xl,Xl];exact this
 rw[Zr]
 conv=>lhs;rw[←Zr gs.flatten.length (Rb aa).toList,e1]
def map_mod(f:Nat×Nat×Nat→Nat×Nat×Nat)(hf:∀q,((f q).1,(f q).2.1)=(q.1,q.2.1))(l:Tn (Nat×Nat×Nat))(i:Nat):((l.modify i f).map λq=>(q.1,q.2.1))=l.map λq=>(q.1,q.2.1):=by
 apply List.ext_getElem?;intro k;rw[Qo,Qo,List.getElem?_modify];cases l[k]? with
 |none=>simp
 |some q=>
  by_cases e:i=k
  ·simp[e];exact Ks (hf q)
  simp[e]
def Rn.mod{gs:List SH}{rest:List Keyed}{st:SortSt}(R:Cs)(i:Nat)(f:Nat×Nat×Nat→Nat×Nat×Nat)(hf:∀q,((f q).1,(f q).2.1)=(q.1,q.2.1)):Z3 gs rest (setPending st ((RV st).modify i f)):=
 ⟨R.kind,R.failed,R.perm,R.arr,by show PR ((RV st).modify i f).toList 0 gs;rw[Array.toList_modify];exact R.pend.congr (map_mod f hf _ i).symm,R.srt⟩
def wpS_sortAll{st:SortSt}{Q:Unit→SortSt→Prop}(C:QD a₀)(hk:kindOf st=kd)(hf:failedOf st=none)(hp:(Rb st).Perm a₀)(fV:pendingOf st=#[])(h:∀aa,(Rb aa).Perm a₀→failedOf aa=none→(Rb aa).toList.Pairwise SU→Q () aa):ZM sortRuns' Q st:=by
 have R0:Z3 [] (Rb st).toList st:=⟨hk,hf,hp,Hb,by rw[fV];trivial,λg hg=>by simp at hg⟩;rw[sortRuns'_eq];refine wpS_bind (wpS_get ?_);dsimp only;have hz:(Rb st).size=a₀.size:=hp.size_eq;rw[hz];generalize minRun' a₀.size a₀.size 0=mr;refine wpS_bind (wpS_mono (wpS_forRange
  (I:=λx c aa=>Ex2 λgs rest=>Aj3 (c=(none,gs.flatten.length)) (Z3 gs rest aa) (x≤gs.flatten.length))
  (Q:=λc aa=>Ex2 λgs rest=>Aj3 (c=(none,gs.flatten.length)) (Z3 gs rest aa) (a₀.size≤gs.flatten.length)) ?step ?fin ⟨[],_,rfl,R0,Tq⟩) ?post)
 case fin=>rintro c aa ⟨gs,rest,rfl,R,hx⟩;exact⟨gs,rest,rfl,R,by assumption⟩
 case step=>
  rintro x c bd _ hx ⟨gs,rest,rfl,R,qH⟩;dsimp only;have ig:=R.size;by_cases c0:gs.flatten.length≥a₀.size
  ·rw[Sk c0];exact wpS_pure ⟨gs,rest,rfl,R,c0⟩
  rw[if_neg c0];have B0:Bs kd a₀ (RV bd) gs.flatten.length C3 bd:=⟨R.kind,R.failed,rfl,R.perm,Hw⟩;refine wpS_bind (wpS_count C Hc Hc B0 λm aQ B2 m1 m2 u2=>?_);dsimp only;by_cases c1:m<mr
  focus
   rw[if_pos c1];refine wpS_bind (IX (wpAny_rule ⟨rfl,?_⟩));refine wpS_bind (wpS_binary C Hc Hc B2 u2 λaS B3 u3=>?_);rw[if_neg Hb];obtain⟨G,r,g1,g2,R3⟩:=R.found B3 u3 Hc;have G0:1≤G.length:=by lia
  rotate_left
  focus
   rw[if_neg c1];obtain⟨G,r,g1,g2,R3⟩:=R.found B2 u2 Hc;have G0:1≤G.length:=by exact zar6 ‹_› ‹_›
  all_goals
   refine wpS_bind (wpS_get ?_);have push:∀{aE:List SH} {bg:SortSt},Z3 aE (G++r) bg→aE.flatten.length=gs.flatten.length→Z3 (aE++[G]) r (SortSt.mk' (kindOf bg) (Rb bg) ((RV bg).push (gs.flatten.length,G.length,0)) (gallopOf bg) (P3 bg)):=by
    intro aE bg R4 e4;refine⟨R4.kind,R4.failed,R4.perm,?_,?_,λg hg=>?_⟩
    ·have:=R4.arr;simp only[Wu,Yj,Jx,Zq,Qz];exact this
    ·show PR ((RV bg).push _).toList 0 _;rw[Xd];exact R4.pend.join ⟨by rw[Ki,e4],rfl,trivial⟩
    rcases Qe.mp hg with z|z
    ·exact R4.srt g z
    rw[CT z];exact⟨g2,λq=>by rw[q]at G0;simp at G0⟩
   have nx:∀{aE:List SH},aE.flatten.length=gs.flatten.length→x+1≤(aE++[G]).flatten.length∧(aE++[G]).flatten.length=gs.flatten.length+G.length:=λ{aE} e=>by simp only[Wu,Yj,Jx,Zq,Qm];lia
   rw[←g1];split
   next=>
    refine wpS_bind (wpS_mono (wpS_forRange (I:=λ_ c bg=>Aj2 (c=(none,())) (Ex1 λaE=>Aj2 (Z3 aE (G++r) bg) (aE.flatten.length=gs.flatten.length))) (Q:=λc bg=>Aj2 (c=(none,())) (Ex1 λaE=>Aj2 (Z3 aE (G++r) bg) (aE.flatten.length=gs.flatten.length))) ?istep (λ_ _ z=>z) ⟨rfl,gs,R3,rfl⟩) ?ipost)
    case istep=>
     rintro y c bg _ _ ⟨rfl,aE,R4,e4⟩;refine wpS_bind (wpS_get ?_);by_cases hs:(RV bg).size>1
     ·rw[Sk hs,getElem?_pos (RV bg) ((RV bg).size - 2) Hc];dsimp only;split
      ·exact wpS_pure ⟨rfl,aE,R4,e4⟩
      refine wpS_bind (zgd C R4 Hc λvL nj R5 l5 f5=>?_);rw[if_neg Hb];exact wpS_pure ⟨rfl,vL,R5,f5.trans e4⟩
     rw[Sz hs];exact wpS_pure ⟨rfl,aE,R4,e4⟩
    case ipost=>rintro c bg ⟨rfl,aE,R4,e4⟩;dsimp only;refine wpS_bind (wpS_modify (IZ (Pj (wpS_pure ?_))));exact⟨aE++[G],r,by rw[(nx e4).2],push (R4.mod _ _ λq=>rfl) e4,(nx e4).1⟩
   next=>refine wpS_bind (Pj (wpS_pure ?_));exact⟨gs++[G],r,by rw[(nx rfl).2],push R3 rfl,(nx rfl).1⟩
 case post=>
  rintro c bd ⟨gs,rest,rfl,R,hx⟩;dsimp only;have ig:=R.size;have er:rest=[]:=Ku.mp Hc;subst er;have cz:=flat_ge λg hg=>(R.srt g hg).2;refine wpS_bind (wpS_mono (wpS_forRange (I:=λx c bg=>Aj2 (c=(none,())) (Ex1 λaE=>Aj2 (Z3 aE [] bg) (aE.length+x≤a₀.size+1))) (Q:=λc bg=>Aj2 (c=(none,())) (Ex1 λaE=>Aj2 (Z3 aE [] bg) (aE.length≤1))) ?istep ?ifin ⟨rfl,gs,R,by rw[Kb]at ig;lia⟩) ?ipost)
  case ifin=>rintro c bg ⟨rfl,aE,R4,e4⟩;exact⟨rfl,aE,R4,Hc⟩
  case istep=>
   rintro y c bg _ _ ⟨rfl,aE,R4,e4⟩;refine wpS_bind (wpS_get ?_);have gP:=R4.psize;by_cases hs:(RV bg).size≤1
   ·rw[Sk hs];exact wpS_pure ⟨rfl,aE,R4,by exact zd9 ‹_› ‹_›⟩
   rw[Sz hs];refine wpS_bind (zgd C R4 ?_ λvL nj R5 l5 f5=>?_)
   ·repeat' split
    all_goals lia
   rw[Sz Hb];exact wpS_pure ⟨rfl,vL,R5,Hc⟩
  case ipost=>
   rintro c bg ⟨rfl,aE,R4,e4⟩;refine wpS_pure (h bg R4.perm R4.failed ?_);have ea:=R4.arr;rw[Zq]at ea;obtain _|⟨g,_|⟨g',gs''⟩⟩:=aE
   ·rw[ea];exact List.Pairwise.nil
   ·rw[ea];simpa using(R4.srt g Qd).1
   simp at e4
end
section
variable{prog:Nk}{w:Nn}{A:Np}{E:Na}{s:Ni}{kd:SortKind}{O:KeyOrd}{kv:Value→O.α}
def perm_back{l:List Keyed}{vs:Nj}(h:l.Perm (vs.map λv=>(v,v))):(Iy (·.2)).Perm vs∧∀p∈l,p.1=p.2:=by
 refine⟨?_,λp hp=>?_⟩
 ·have:=h.map (·.2);rwa[Zc,show((λ(p:Keyed)=>p.2)∘λv=>(v,v))=id from rfl,Kf]at this
 obtain⟨v,_,e⟩:=Qf.mp (h.mem_iff.mp hp);rw[←e]
def out_of{l:List Keyed}{vs:Nj}(h:l.Perm (vs.map λv=>(v,v)))(p:l.Pairwise (le O λp=>kv p.1)):(Iy (·.2)).Perm vs∧(Iy (·.2)).Pairwise λx y=>NM (kv y):=by obtain⟨h1,h2⟩:=perm_back h;refine⟨h1,Wx.mpr (p.imp_of_mem λ{x y} hx hy q=>?_)⟩;rw[←h2 x hx,←h2 y hy];exact q
end
end Tim
namespace Tm
open PySem PyProof.Rows PySem.W MeetsSeq MeetsSeq2 MeetsSeq3 SeqRoads2
open AutoSeq1 (wpAny_loadPart')
section
variable{prog:Nk}{w:Nn}{A:Np}{E:Na}{s:Ni}{R:List Value→Prop}{vs:Nj}
structure zbi(prog:Nk)(w:Nn)(A:Np)(E:Na)(s:Ni)(R:List Value→Prop)(vs:Nj):Prop where
 few:vs.length<2→R vs
 go:2≤vs.length→∃kd:SortKind,(∀Q:SortKind→Shared→Prop,Q kd s→ZG zP Q E s) ∧
  ∀Q:Unit→SortSt→Prop,(∀aa,(Rb aa).Perm Oa→failedOf aa=none→R ((Rb aa).toList.map (·.2))→Q () aa)→ZM sortRuns' Q (SortSt.mk' kd (vs.toArray.zip vs.toArray) #[] 7 none)
def zc4(vs:Nj):(pairsOf vs).toList=vs.map λv=>(v,v):=by
 rw[pairsOf_toList];induction vs with
 |nil=>rfl
 |cons v r ih=>rw[List.zip_cons_cons,Ql,ih]
def perm_back{l:List Keyed}{vs:Nj}(h:l.Perm (vs.map λv=>(v,v))):(Iy (·.2)).Perm vs:=by have:=h.map (·.2);rwa[Zc,show((λ(p:Keyed)=>p.2)∘λv=>(v,v))=id from rfl,Kf]at this
def zbi.ordT{O:KeyOrd}{kv:Value→O.α}(h:RX):WQ (λws=>ws.Pairwise λx y=>NM (kv y)) vs:=by
 refine⟨λh2=>?_,λh2=>?_⟩
 ·obtain _|⟨v,_|⟨v',r⟩⟩:=vs
  ·exact List.Pairwise.nil
  ·exact MK _
  exact absurd h2 Hb
 obtain⟨kd,a1,a2⟩:=h h2;refine⟨kd,a1,λQ q=>?_⟩;refine Tim.wpS_sortAll (kd:=kd) (O:=O) (key:=λp=>kv p.1) (a₀:=pairsOf vs) (λx y st Q' hx hy hk hq=>?_) rfl rfl (.refl _) rfl λaa hp hf hs=>?_
 ·rw[zc4]at hx hy;obtain⟨v,hv,rfl⟩:=Qf.mp hx;obtain⟨u,hu,rfl⟩:=Qf.mp hy;rw[lt'_eq];refine wpS_bind (wpS_get ?_);rw[hk];refine wpS_bind (IX (Lf (a2 v u hv hu _ _ ⟨rfl,?_⟩)));exact wpS_pure hq
 exact q aa hp hf (Tim.out_of (by rw[←zc4];exact Um.mp hp) hs).2
def zbi.weak{R R':List Value→Prop}(T:WQ R vs)(h:∀l,R l→R' l):WQ R' vs:=
 ⟨λh2=>h _ (T.few h2),λh2=>let⟨kd,a,b⟩:=T.go h2;⟨kd,a,λQ q=>b Q λaa p1 p2 r=>q aa p1 p2 (h _ r)⟩⟩
def zbi.ord{O:KeyOrd}{kv:Value→O.α}(h:RX):WQ (λws=>vs.length<64→ws.Pairwise λx y=>NM (kv y)) vs:=
 (zbi.ordT h).weak λ_ h _=>h
abbrev strO:KeyOrd:=strKind.toKeyOrd
def kvS(v:Value):List Nat:=(strOf v).cps.toList
def zes(hv:∀v∈vs,∃x t,v=.str x t):WQ (λws=>vs.length<64→ws.Pairwise λx y=>strO.kle (kvS x) (kvS y)) vs:=by
 refine .ord λh2=>⟨oneType',λQ q=>kas_kind (T:=.type "str") h2 (λv hm=>?_) Hg Hg q,λx y hx hy Q E' q=>?_⟩
 ·obtain⟨x,t,rfl⟩:=hv v hm;exact Looks.of_pure rfl
 obtain⟨a,t,rfl⟩:=hv x hx;obtain⟨b,u,rfl⟩:=hv y hy;rw[keyLt'_oneType];exact oneLt_str q
def sort_list{a:Nc}{n:Nat}{P:Fin→Shared→Prop}(ho:s.heap.get? a=some (seqObj "list" vs.toArray n))(hz:vs.length≤sizeLine)(hS:∀s':Shared,(∀b o,b≠a→s.heap.get? b=some o→s'.heap.get? b=some o)→YL A E s' R vs)(h:∀ws:List Value,ws.Perm vs→R ws→P (.done Ey) {s with heap:=sortedHeap s.heap a vs ws.toArray}) :
  wpAny HH A (Builtin.«list.sort» ⟨[Rm],[]⟩) P E s:=by
 have lt:a<s.heap.objs.size:=Qu ho;rw[list_sort_plain];refine wpAny_bind (listItems_at ho rfl (HN (listUpdate_at ho rfl ?_ (hsz:=by simpa using hz) (hsz2:=by simp))));obtain⟨e1,k1⟩:∃e,(s.heap.update a (Obj.mapSeq λ_=>#[])).get? a=some (seqObj "list" #[] e):=⟨_,get?_update_seq ho λ_=>#[]⟩;refine wpAny_bind (seqEpoch_at k1 rfl (La (wpAny_newTuple (HN (wpAny_newList (wpAny_holding ?_))))));show ZG _ P E {s with heap:=((s.heap.update a (Obj.mapSeq λ_=>#[])).push (seqObj "tuple" vs.toArray 0)).push (seqObj "list" #[] 0)};generalize hg:((s.heap.update a (Obj.mapSeq λ_=>#[])).push (seqObj "tuple" vs.toArray 0)).push (seqObj "list" #[] 0)=g;have k6:g.get? a=some (seqObj "list" #[] e1):=by rw[←hg];exact QQ (QQ k1)
 have kk:∀b o,b≠a→s.heap.get? b=some o→g.get? b=some o:=λb o hb e=>by rw[←hg];exact QQ (QQ ((Wc s.heap _ A9).trans e))
 have eh:∀out,sortedHeap s.heap a vs out=g.update a (Obj.mapSeq λ_=>out):=λout=>by rw[←hg];rfl
 have S:=hS {s with heap:=g} kk;dsimp only;have fin:∀(l:Array Keyed),l.toList.Perm (vs.map λv=>(v,v))→R (l.toList.map (·.2))→P (.done Ey) {s with heap:=g.update a (Obj.mapSeq λ_=>l.map (·.2))}:=λl p1 p2=>by have:=h _ (perm_back p1) p2;rw[eh]at this;rw[show l.map (·.2)=(l.toList.map (·.2)).toArray by rw[←Array.toList_map]];exact this
 have lz:vs.toArray.size=vs.length:=Qt;have szOk:∀l:Array Keyed,l.toList.Perm (vs.map λv=>(v,v))→(Iy (·.2)).size≤sizeLine+1:=λl p1=>by rw[Array.size_map,←Zy,p1.length_eq,Qa];exact zar16 ‹_›
 by_cases few:vs.toArray.size<2
 ·rw[Sk few,Sk few];refine wpAny_bind RM;rw[StateT.run_pure];have pr:(pairsOf vs).toList.Perm (vs.map λv=>(v,v)):=by rw[zc4]
  refine wpAny_bind (RP (La (seqEpoch_at k6 rfl (HN (listUpdate_at k6 rfl ?_ (hsz:=by simp) (hsz2:=szOk Oa pr))))));simp only[bne_self_eq_false,Ws,if_false];refine wpAny_pure (fin Oa pr ?_);rw[zc4,Zc,show((λ(p:Keyed)=>p.2)∘λv=>(v,v))=id from rfl,Kf];exact S.few (by rw[←lz];exact few)
 rw[Sz few,Sz few];obtain⟨kd,ask,C⟩:=S.go Hc;refine wpAny_bind (ask _ ?_);refine wpAny_bind (wpAny_mono (C (λ_ aa=>Aj3 ((Rb aa).Perm Oa) (failedOf aa=none) (R ((Rb aa).toList.map (·.2)))) λaa p1 p2 p3=>⟨p1,p2,p3⟩) ?_ λ_ _ e=>e);rintro⟨⟨⟩,aa⟩ s' ⟨rfl,p1,p2,p3⟩;have pr:(Rb aa).toList.Perm (vs.map λv=>(v,v)):=by rw[←zc4];exact Um.mp p1
 dsimp only;refine wpAny_bind (seqEpoch_at k6 rfl (HN (listUpdate_at k6 rfl ?_ (hsz:=by simp) (hsz2:=szOk (arrOf aa) pr))));rw[p2];simp only[bne_self_eq_false,Ws,if_false];exact wpAny_pure (fin _ pr p3)
def zfc{x:Value}{G:List Value→Prop}{R:List Value→List Value→Prop}{Q:Na}(vh:∀(E':Na) (R:List Value→Shared→Prop),(∀(g:No) (tk:Nat) (vs:Nj),HF→s.heap.objs.size≤g.objs.size→G vs→R vs {s with heap:=g,toks:=tk})→wpAny HH A.in1 (collect x) R E' s)(hz:∀vs,G vs→vs.length≤sizeLine)(hS:∀vs,G vs→∀(A':Around) (E':Value→Shared→Prop) (s':Shared),A'.units≤A.units+8→(∀b o,s.heap.get? b=some o→s'.heap.get? b=some o)→YL A' E' s' (R vs) vs)(h:∀(vs ws:Nj) (l:Nc) (g:No) (tk e:Nat),G vs→ws.Perm vs→R vs ws→s.heap.objs.size≤l→HF→g.get? l=some (seqObj "list" ws.toArray e)→Q Tb {s with heap:=g,toks:=tk}) :
  wpAny HH A (call (.builtin "sorted") [x]) Q E s:=by
 refine Calls.call_function_entry kind_sorted plain_sorted entry_sorted (args_sorted1 _) ?_;unfold Builtin.«sorted»;refine wpAny_bind (m:=checkCount "sorted" 1 1 _) (wpAny_pure (wpAny_bind (vh _ _ λg tk vs kg le hG=>?_)));have hzv:=hz vs hG;refine wpAny_bind (wpAny_newList ?_ (hsz:=hzv));have o1:(g.push (seqObj "list" vs.toArray 0)).get? g.objs.size=some (seqObj "list" vs.toArray 0):=UE rfl;show ZQ _ _ _ _ {s with heap:=g.push (seqObj "list" vs.toArray 0),toks:=tk};refine wpAny_bind (wpAny_holding (wpAny_call_entry slot_list_sort ⟨_,o1,rfl⟩ entry_list_sort (sort_list (R:=R vs) o1 hzv (λs' k=>hS vs hG _ _ s' ?_ λb o e=>k b o (λz=>?_) (QQ (kg b o e))) λws p1 p2=>⟨_,rfl,?_⟩) (args_list_sort _)))
 ·show A.units+1+1≤A.units+8;lia
 ·have lt:b < g.objs.size:=Qu (kg b o e);rw[z]at lt;exact absurd lt OS
 obtain⟨e,he⟩:=sortedHeap_at (out:=ws.toArray) o1;refine wpAny_pure ⟨_,rfl,h vs ws _ _ _ e hG p1 p2 le (λb o q=>?_) he⟩;have lt:b<g.objs.size:=Qu (kg b o q);rw[sortedHeap_old Py (by rw[size_push'];exact Js lt)];exact QQ (kg b o q)
def zhj{T:String}{r d:Nc}{n:Nat}{P:Nat→Value→Prop}{OK:Heap→Prop}{R:List Value→Shared→Prop}(K:KdlSrc prog w T r d n P OK)(hh:A.handled=none)(ok:OK s.heap)(hn:n≤sizeLine)(h:∀(g:No) (tk:Nat) (ai:Array Value),HF→s.heap.objs.size≤g.objs.size→ItemsOf P ai n→R ai.toList {s with heap:=g,toks:=tk}) :
  wpAny HH A (collect (Hf r)) R E s:=by
 have there:=K.there _ ok;unfold collect;refine wpAny_bind (wpAny_runValue (codeAny_builtin entry_proto_collect' ?_));rw[Wt PySem.F.plain_proto_collect _];show ZQ A.in1 (newList [] >>= λl=>again (.builtin "list.__iadd__" ⟨[l,Hf r],[]⟩)) _ _ s;refine wpAny_bind (wpAny_newObj_type (RP ⟨plainId_quiet PySem.F.plain_list_iadd _,codeAny_builtin entry_list_iadd' ?_⟩));rw[Wt PySem.F.plain_list_iadd _];show ZQ A.in1 (Builtin.List.listExtendWith Hr
  (.ref r) Hr) _ _ _
 have lJ:(s.heap.push {cls:=.type "list",data:=.seq ([]:List Value).toArray}).get? s.heap.objs.size=some {cls:=.type "list",data:=.seq #[]}:=UE rfl;refine wpAny_mono (kdl_extend (A:=A) (s:={s with heap:=s.heap.push {cls:=.type "list",data:=.seq ([]:List Value).toArray}})
  (R:=λ(q:Result) (s':Ni)=>∃ (g:No) (tk:Nat) (ai:Array Value) (c:Nat),q=.ok (.ret Hr)∧s'={ s with heap:=g,toks:=tk } ∧
   (∀b o,s.heap.get? b=some o→g.get? b=some o)∧g.get? s.heap.objs.size=some {cls:=.type "list",dict:=none,data:=.seq ai c,slots:=#[]}∧ItemsOf P ai n)
  K hh (K.keep _ _ ok λb _ o e=>QQ e) s.heap.objs.size (Yo there.1) (Yo there.2) Hr 0 lJ
  (λg tk ai c hk hS ha=>⟨g,tk,ai,c,rfl,rfl,λb o e=>hk b o Cw Cz,hS,ha⟩) hn) (λfin s' x=>?_) λe s' x=>?_
 ·cases fin with
  |done f=>obtain⟨g,tk,ai,c,e,rfl,hk,hS,ha⟩:=x;cases e;show ZQ A (load s.heap.objs.size >>= _) _ _ _;exact wpAny_bind CM
  |again c1=>refine⟨x.1,codeAny_mono x.2 λq s2 y=>?_⟩;obtain⟨g,tk,ai,c,rfl,rfl,hk,hS,ha⟩:=y;show ZQ A (load s.heap.objs.size >>= _) _ _ _;exact wpAny_bind CM
 obtain⟨_,_,_,_,e',_⟩:=x;cases e'
def sorted_any{Q:Na}(hl:s.heap.IsList l vs.toArray)(hz:vs.length≤sizeLine)(hS:∀(A':Around) (E':Value→Shared→Prop) (s':Shared),A'.units≤A.units+8→(∀b o,s.heap.get? b=some o→s'.heap.get? b=some o)→YL A' E' s' R vs)(h:∀(ws:Nj) (l:Nc) (g:No) (tk e:Nat),ws.Perm vs→R ws→s.heap.objs.size≤l→HF→g.get? l=some (seqObj "list" ws.toArray e)→Q Tb {s with heap:=g,toks:=tk}) :
  wpAny HH A (call (.builtin "sorted") [Tb]) Q E s:=
 zfc (G:=λus=>us=vs) (R:=λ_=>R) (λE' R' hR=>collect_list hl (hR _ _ _ (λb o e=>(NH (Zd Cw)).trans Cz) (by rw[Heap.size_update,size_push'];exact Kt _) rfl) hz) (λus e=>e▸hz) (λus e=>e▸hS) λus ws l g tk e e' p1 p2=>h ws l g tk e (e'▸p1) p2
def str_ext{a b:Str}(h:a.cps.toList=b.cps.toList):a=b:=by cases a;cases b;exact congrArg _ (Array.toList_inj.mp h)
def str_ne{a b:Str}(h:¬a=b):¬a.cps.toList=b.cps.toList:=λq=>h (str_ext q)
def pairO(O P:KeyOrd):KeyOrd where
 α:=O.α×P.α
 blt a b:=O.blt a.1 b.1||(!Gq a.1&&P.blt a.2 b.2)
 irrefl a:=by rw[O.irrefl,P.irrefl];rfl
 trans a b c h1 h2:=by
  simp only[Jd,Wf,Wi]at *;rcases h1 with h1|⟨n1,h1⟩
  ·rcases h2 with h2|⟨n2,h2⟩
   ·exact .inl (Gr h2)
   exact .inl (VX n2)
  rcases h2 with h2|⟨n2,h2⟩
  ·exact .inl (Xm n1 h2)
  exact .inr ⟨Wk n1 n2,P.trans _ _ _ h1 h2⟩
 negTrans a b c h:=by
  simp only[Jd,Wf,Wi]at *;rcases h with h|⟨n,h⟩
  ·rcases O.negTrans _ b.1 _ h with q|q
   ·exact .inl PZ
   exact .inr PZ
  cases e1:O.blt a.1 b.1 with
  |true=>exact .inl RT
  | false=>
   cases e2:Gq c.1 with
   |true=>exact .inr RT
   |false=>
    have n1:Gq a.1=false:=Wk (O:=O) (a:=a.1) (b:=c.1) (c:=b.1) n e2;have n2:O.blt c.1 b.1=false:=Wk (O:=O) (a:=b.1) (b:=a.1) (c:=c.1) e1 n;rcases P.negTrans _ b.2 _ h with q|q
    ·exact .inl (SK ⟨n1,q⟩)
    exact .inr (SK ⟨n2,q⟩)
 total a b h1 h2:=by simp only[Bool.or_eq_false_iff,Bool.and_eq_false_iff,Ka]at *;have e1:=Dp h1.1 h2.1;obtain⟨a1,a2⟩:=a;obtain⟨b1,b2⟩:=b;simp only at e1 h1 h2;subst e1;have i:=O.irrefl a1;rw[i]at h1 h2;have p1:P.blt a2 b2=false:=h1.2.elim (λz=>by cases z) id;have p2:P.blt b2 a2=false:=h2.2.elim (λz=>by cases z) id;rw[P.total _ _ p1 p2]
def zhc(h:No):Value→List Value
 | .ref a=>match h.get? a with
  |some o=>match o.data with
   |.seq xs _=>xs.toList
   |_=>[]
  |none=>[]
 |_=>[]
def zhb(e:h.get? a=some o)(d:o.data=.seq xs n):zhc h Rm=xs.toList:=by unfold zhc;dsimp only;rw[e];dsimp only;rw[d]
def kvP(h:No)(v:Value):List Nat×List Nat:=(kvS ((zhc h v).getD 0 .none),kvS ((zhc h v).getD 1 .none))
def zel(h:No)(v:Value)(x:Str)(q:Value):Prop:=∃a o t n,v=.ref a∧h.get? a=some o∧o.cls=.type "tuple" ∧ o.data=.seq #[.str x t,q] n
def zel.key(p:J9 q):kvP h v=(x.cps.toList,kvS q):=by obtain⟨a,o,t,n,rfl,e,c,d⟩:=p;unfold kvP;rw[zhb e d];rfl
end
theorem katTups(k:∀b o,h.get? b=some o→s.get? b=some o):∀(vs:Nj),(∀v∈vs,∃x q,J9 q)→∃fs,KatTups s vs fs∧fs.length=vs.length∧∀f∈fs,∃x t,f=.str x t
 |[],_=>⟨[],.nil,rfl,λf hf=>by cases hf⟩
 |v::vs,hv=>by
  obtain⟨fs,h1,h2,h3⟩:=katTups k vs λu hu=>hv u (QL hu);obtain⟨x,q,a,o,t,n,rfl,e,c,d⟩:=hv v Qd;refine⟨.str x t::fs,.cons E3 c d rfl h1,by rw[Zk,Zk,h2],λf hf=>?_⟩;rcases Qj.mp hf with z|z
  ·exact⟨x,t,z⟩
  exact h3 f z
section
variable{prog:Nk}{w:Nn}{A:Np}{E:Na}{s:Ni}{vs:Nj}{h:No}
def kind_tups(k:∀b o,h.get? b=some o→s.heap.get? b=some o)(hv:∀v∈vs,∃x q,J9 q)(h2:2≤vs.length)(q:Q (tuples' true) s):ZG zP Q E s:=by obtain⟨fs,h1,h3,h4⟩:=katTups k vs hv;refine kat_kind (T:=.type "str") h1 Hc (λf hf=>?_) Hg q;obtain⟨x,t,rfl⟩:=h4 f hf;exact Looks.of_pure rfl
def blt_p:(Bh strO).blt (x,y) (x',y')=if x=x' then decide (y<y') else decide (x<x'):=by
 show(decide (x<x')||(!decide (x'<x)&&decide (y<y')))=_;split
 ·rename_i e;subst e;rw[decide_eq_false (Ux x)];rfl
 rename_i ne;by_cases h1:x<x'
 ·rw[decide_eq_true h1];rfl
 rw[decide_eq_false h1,decide_eq_true (Kj λh2=>ne (strO.total _ _ (Se h1) (Se h2)))];rfl
def zd8(k:∀ b o,h.get? b=some o→s.heap.get? b=some o)(hv:∀ v∈vs,∃ x q,J9 q)(hd:∀ v∈vs,∀ u∈vs,∀ x p q,J9 p→zel h u x q→v=u∨∃ y t y' t',p=.str y t∧q=.str y' t'):WQ (λws=>ws.Pairwise λx y=>(Bh strO).kle (kvP h x) (kvP h y)) vs:=by
 refine .ordT λh2=>⟨tuples' true,λQ q=>kind_tups k hv h2 q,λv v' hx hy Q E' q=>?_⟩;have same:=hd v hx v' hy;obtain⟨x,z,p⟩:=hv v hx;obtain⟨x',z',p'⟩:=hv v' hy;have P:=p;have P':=p';rw[P.key,P'.key,blt_p]at q;obtain⟨a,o,t,n,rfl,e,c,d⟩:=p;obtain⟨a',o',t',n',rfl,e',c',d'⟩:=p';refine kat_lt E3 d (k _ _ e') d' ?_;show KatLex _ _ _ _ _ _ [(WN t,NN t'),(z,z')] 0 s;refine kat_cons (wpAny_eqBool_str ?_);by_cases ex:x=x'
 ·subst ex;rw[if_pos rfl]at q;rw[decide_eq_true rfl];refine kat_yes (kat_cons ?_);rcases same x z z' P P' with e2|⟨y,u,y',u',rfl,rfl⟩
  ·cases e2;rw[e]at e';cases e';rw[d]at d';have d2:(#[WN t,z]:Array Value)=#[WN t',z']:=by injection d'
   have d3:z=z':=by have:=congrArg (λa:Array Value=>a[1]?) d2;simpa using this
   subst d3;rw[decide_eq_false (Ux _)]at q;exact SeqAt.EqAt.same z _ _ _ _ (kat_yes (kat_nil q))
  refine wpAny_eqBool_str ?_;by_cases ey:y=y'
  ·subst ey;rw[show kvS (Bq u')=kvS (Bq u) from rfl,decide_eq_false (Ux _)]at q;rw[decide_eq_true rfl];exact kat_yes (kat_nil q)
  rw[Se ey];exact kat_no (kat_one _ _ (lt_str q))
 rw[Se ex];rw[if_neg (str_ne ex)]at q;exact kat_no (oneLt_str q)
def ziq(k:∀b o,h.get? b=some o→s.heap.get? b=some o)(hv:∀v∈vs,∃x q,J9 q)(hd:∀v∈vs,∀u∈vs,∀x p q,J9 p→zel h u x q→v=u∨∃y t y' t',p=.str y t∧q=.str y' t'):WQ (λws=>vs.length<64→ws.Pairwise λx y=>(Bh strO).kle (kvP h x) (kvP h y)) vs:=
 (zd8 k hv hd).weak λ_ h _=>h
end
end Tm
namespace L2
open PySem PySem.Spec PyProof.Rows
def zgc{K:Nb}{a:Nc}{zs:Ng}{g:TG}{tb:TS}{D:Ends}{σ:St}{H:Hp}(Pv:Nat→St→Hp→Prop)(h0:ED)(hl:∀i σ H,i≤(zs.map V.str).length→Pv i σ H→WU a Sb)(hs:∀i (hi:i<zs.length) σ H,Pv i σ H→g (.str zs[i]) σ H λ σ2 H2=>tb {D with nx:=Pv HY,ct:=Pv HY,bk:=D.nx} σ2 H2)(hd:∀σ H,Pv (zs.map V.str).length σ H→W8 H) :
  ∃W:Nat→Nat→St→Hp→Prop,(∃m,W 0 m σ H)∧∀i m σ H,W i m σ H →
   ((BZ a).stop i H∧W8 H)∨((BZ a).go i H∧∃N:St→Hp→Prop,HK∧∀x H',(BZ a).yld i H x H'→g x σ H' λ σ2 H2=>tb {D with nx:=N,ct:=N,bk:=D.nx} σ2 H2):=
 zb5 Pv h0 hl (λi x σ H e p=>by
  have hi:i<zs.length:=by have:=(Cm e).1;rwa[Qa]at this
  rw[Qo,Qb hi]at e;cases e;exact hs i hi σ H p) hd
section
variable{X:Cx}
inductive RrIndex(x:V)(vs:List V)(H:Hp)(Q:VK):Prop
 |mk (l:Nc) (xs:List V) (y:V) (j:Nat) (h0:x=.ref l) (h1:vs=[y]) (h2:H l=some (.lst xs)) (h3:zd6 y=true) (h4:xs.all zd6=true) (h5:(∃z,xs[j]?=some z∧eqV z y=true)) (h6:(∀m z,m<j→xs[m]?=some z→eqV z y=false)) (h7:Q (.int j) H):RrIndex x vs H Q
def rIndex:V→List V→Hp→VK→Prop:=λx vs H Q=>RrIndex x vs H Q
def zd1:MtM X "list.index" rIndex:=by
 intro a7 s σ H x vs v us Q I rx rv h;obtain⟨l,xs,y,j,rfl,rfl,hH,fy,fs,⟨z,hz,ez⟩,dh,q⟩:=h;cases rx;obtain⟨u,rfl,ru⟩:=rv.one;obtain⟨zz,a8,n,r,hl,e⟩:=I.lstM hH;have hn:=ze3;obtain⟨wv,hw,cJ⟩:=r.get hz;have hj:j<a8.length:=(Cm hw).1;have fl:∀{i:Nat} {a:V},xs[i]?=some a→zd6 a=true:=λ{i a} q=>Zw.mp fs a (Yz q);refine call_meets F.slot_list_index ⟨_,e,rfl⟩ F.entry_list_index (F.args_list_index_2 _ _)
  (SeqAt.list_indexAt l a8.toArray n none #[] u (eqU y) j Pw Hc ?_ ?_) ⟨e,λa ha=>zd2 ru fy r fs a (Hd ha),?_⟩
 ·have e1:a8[j]=wv:=by have:=Qb hj;rw[this]at hw;exact Qn hw
  show eqU y (a8.toArray[j])=true;rw[Uh,e1,eqU_of cJ (fl hz)];exact ez
 ·intro m hm ae;have uF:m<a8.length:=by simpa using hm
  have bG:m<xs.length:=by exact zar6 ‹_› ‹_›
  have gx:xs[m]?=some xs[m]:=Qb bG;obtain⟨wm,hwm,rm⟩:=r.get gx;have e1:a8[m]=wm:=by have:=Qb uF;rw[this]at hwm;exact Qn hwm
  show eqU y (a8.toArray[m])=false;rw[Uh,e1,eqU_of rm (fl gx)];exact dh m _ ae gx
 exact⟨SX j,H,Sm,⟨xf⟩,q⟩
inductive RrInsert(x:V)(vs:List V)(H:Hp)(Q:VK):Prop
 |mk (l:Nc) (xs:List V) (y:V) (k:Nat) (h0:x=.ref l) (h1:vs=[.int k,y]) (h2:H l=some (.lst xs)) (h3:xs.length<sizeLine) (h4:k≤xs.length) (h5:Q .non (upd H l (.lst (xs.take k++y::xs.drop k)))):RrInsert x vs H Q
def rInsert:V→List V→Hp→VK→Prop:=λx vs H Q=>RrInsert x vs H Q
def zg1:MtM X "list.insert" rInsert:=by
 intro a7 s σ H x vs v us Q I rx rv h;obtain⟨l,xs,y,k,rfl,rfl,hH,hz,hk,q⟩:=h;cases rx;obtain⟨u1,u,rfl,⟨t,rfl⟩,ru⟩:=rv.two;obtain⟨zz,a8,n,r,hl,e⟩:=I.lstM hH;have hn:=ze3;obtain⟨i,hi⟩:∃i:Int,i=(k:Int):=⟨_,rfl⟩;have v4:¬(!Builtin.List.listFitsIndex i)=true:=by rw[fitsIndex_both Hc Hc];exact Zj
 have hsz:a8.toArray.size≤sizeLine:=by rw[Qt];exact zd9 ‹_› ‹_›
 have M:=AutoSeq1.list_insert_list_int_val_1 l a8.toArray n i t u v4 hsz;rw[←hi];refine call_meets F.slot_list_insert ⟨_,e,rfl⟩ F.entry_list_insert (F.args_list_insert_3 _ _ _) M ⟨e,?_⟩;refine⟨.non,_,I.lset (its':=a8.take k++u::a8.drop k) hH e ?_ ((r.take k).append (yY ru (r.drop k))) ?_,rfl,q⟩
 ·have e1:¬ (i < 0):=by lia
  have e2:min i.toNat a8.toArray.size=k:=by rw[Qt];lia
  show(a8.toArray.extract 0 (if i<0 then(i+((a8.toArray.size:Nat):Int)).toNat else min i.toNat a8.toArray.size)).push u++a8.toArray.extract (if i<0 then(i+((a8.toArray.size:Nat):Int)).toNat else min i.toNat a8.toArray.size)=_;rw[if_neg e1,e2];apply Array.toList_inj.mp;simp;rw[Qr (HS Yu)]
 simp;lia
theorem zem:∀{zs:Ng} {a8:Nj},JZ a8→∃l:List (Str×Tok),a8=PySem.strValues l∧l.map (·.1)=zs
 |[],_,.nil=>⟨[],rfl,rfl⟩
 |z::zs,_,.cons r t=>by obtain⟨tk,rfl⟩:=r;obtain⟨l,rfl,e⟩:=zem t;exact⟨(z,tk)::l,rfl,by rw[Ql,e]⟩
def zig{a7:Nd}{s:Ni}{σ:St}{H:Hp}{p:Nc}{ys:List V}(hc:X.calm=true)(I:HI)(hq:EL){Q:Na}(h:∀ (a8:Nj) (It:Nc) (h1:No),YU a8→Walks X.prog X.w X.A.in1 It [It,p] [It] a8.toArray.size (λi v=>a8.toArray[i]?=some v) (λi h=>h.IsListIter It p i∧h.IsList p a8.toArray)→(h1.IsListIter It p 0∧h1.IsList p a8.toArray)→(∀ b∈[It,p],b < h1.objs.size) →
   (∀(h':No) (tk:Nat),(∀b o,b∉[It]→h1.get? b=some o→h'.get? b=some o)→ZA H {s with heap:=h',toks:=tk})→Q (Hf It) {s with heap:=h1}) :
  wpAny Hk X.A.in1 (pyIter TR) Q X.xe s:=by
 obtain⟨a8,rv,pl,hz⟩:=I.list hq;refine wpAny_pyIter_list pl.isList ?_;have lt:p<s.heap.objs.size:=by obtain⟨o,n,e,_⟩:=pl;exact Qu e
 refine h a8 s.heap.objs.size _ rv (Walks.list (show X.A.in1.handled=none from I.ok.hd hc) _ _ Py _) ⟨⟨_,Tc,rfl,rfl⟩,?_⟩ (λb hb=>?_) λh' tk k=>I.kept (t':=tk) λb o e=>?_
 ·obtain⟨o,e,r⟩:=pl.isList;exact⟨o,Cz,r⟩
 ·rcases Qj.mp hb with e|e
  ·rw[e];simp[Heap.push]
  rw[Qc.mp e];simp[Heap.push];exact Js lt
 exact k b o (λz=>absurd (Qu e) (by rw[Qc.mp z];exact Wj _)) Cz
theorem zed(ns:List Int):∀k,k≤ns.length→preSum (λi=>ns.getD i 0) k=(ns.take k).sum
 |0,_=>rfl
 |k+1,h=>by show preSum (λi=>ns.getD i 0) k+ns.getD k 0=_;have hk:k<ns.length:=h;rw[zed ns k HJ,Qk hk,List.sum_append,List.sum_singleton];congr 1;simp[List.getD,hk]
theorem zhu:∀{ns:List Int} {a8:Nj},DP a8→∀(i:Nat) (v:Value),a8[i]?=some v→∃t,v=Value.int (ns.getD i 0) t
 |[],_,.nil,i,v,e=>by simp at e
 |n::ns,_,.cons r t,0,v,e=>by obtain⟨tk,rfl⟩:=r;simp at e;subst e;exact⟨tk,rfl⟩
 |n::ns,_,.cons r t,i+1,v,e=>by obtain⟨tk,h⟩:=zhu t i v OR;exact⟨tk,by rw[h];simp⟩
def sum_small{ns:List Int}(hb:∀n∈ns,0≤n∧n≤1000000):0≤ns.sum∧ns.sum≤1000000*(ns.length:Int):=by
 induction ns with
 |nil=>simp
 |cons a r ih=>have h1:=hb a Qd;have h2:=ih λn hn=>hb n (QL hn);rw[Yy,Zk];lia
def call_sum(hc:X.calm=true):YH (.builtin "sum") (λxs H Q=>Ex2 λ(p:Nc) (ns:List Int)=>Aj5 (xs=[TR]) (QT p CQ) (ns.length≤1000000) (∀n∈ns,0≤n∧n≤1000000) (Q (.int ns.sum) H)):=by
 intro a7 s σ H xs us Q I r h;obtain⟨p,ns,rfl,hq,hl,hb,q⟩:=h;obtain⟨u,rfl,rx⟩:=vals1 r;cases rx;refine call_sum_walk (zig hc I hq λa8 It h1 rv W st lt keep=>⟨It,_,_,_,_,_,λi=>ns.getD i 0,rfl,W,st,lt,λi v e=>zhu rv i v OR,λj hj=>?_,λh' tk t' k=>⟨.int ns.sum,H,Fd k,⟨t',?_⟩,q⟩⟩)
 ·have aj:=rv.length;rw[Qa]at aj;have my:j<ns.length:=by rw[aj];simpa using hj
  have s1:=sum_small (ns:=ns.take (j+1)) λn hn=>hb n (Wh hn);rw[Za]at s1;have g:ns.getD j 0=ns[j]:=by simp[List.getD,my]
  have g2:=hb _ (Qq my);refine⟨?_,?_⟩
  ·show InLong (ns.getD j 0);rw[g];unfold InLong;lia
  rw[zed ns (j+1) my];unfold InLong;lia
 have aj:=rv.length;rw[Qa]at aj;rw[Qt,zed ns _ Hc,←aj,Qr HM]
theorem zhv:∀{bs:List Bool} {a8:Nj},Vals (bs.map V.bl) a8→∀(i:Nat) (v:Value),a8[i]?=some v→v=Value.bool (bs.getD i true)
 |[],_,.nil,i,v,e=>by simp at e
 |n::ns,_,.cons r t,0,v,e=>by cases r;simp at e;subst e;rfl
 |n::ns,_,.cons r t,i+1,v,e=>by have h:=zhv t i v OR;rw[h];simp
def all_range(bs:List Bool):(List.range bs.length).all (λi=>bs.getD i true)=bs.all id:=by
 rw[Yn,Zw,Zw];constructor
 ·intro h x hx;obtain⟨i,hi,e⟩:=Ze hx;have:=h i (Wg.mpr hi);simp[List.getD,hi]at this;rw[←e];exact this
 intro h i hi;have di:=Wg.mp hi;simp[List.getD,di];exact h _ (Qq di)
def call_all(hc:X.calm=true):YH (.builtin "all") (λxs H Q=>Ex2 λ(p:Nc) (bs:List Bool)=>Aj3 (xs=[TR]) (QT p (bs.map V.bl)) (Ca (bs.all id))):=by
 intro a7 s σ H xs us Q I r h;obtain⟨p,bs,rfl,hq,q⟩:=h;obtain⟨u,rfl,rx⟩:=vals1 r;cases rx;refine call_all_walk (zig hc I hq λa8 It h1 rv W st lt keep=>⟨It,_,_,_,_,_,λi=>bs.getD i true,rfl,W,st,λi v s' Q' E' e q'=>?_,λh' tk k=>⟨.bl (bs.all id),H,Fd k,?_,q⟩⟩)
 ·have e':=zhv rv i v OR;subst e';exact wpAny_truthy_bool q'
 have aj:=rv.length;rw[Qa]at aj;show Value.bool _=Value.bool _;rw[Qt,←aj,all_range]
end
end L2
namespace L2
open PySem PySem.Spec PyProof.Rows Tm
def Vals.perm{ws us:Nj}(p:ws.Perm us):∀{ys:List V},YU us→∃zs,zs.Perm ys∧Vals zs ws:=by
 induction p with
 |nil=>intro ys r;cases r;exact⟨[],.nil,.nil⟩
 |cons x q ih=>
  intro ys r;cases r with
  |cons r1 r2=>obtain⟨zs,h1,h2⟩:=ih r2;exact⟨_::zs,h1.cons _,yY r1 h2⟩
 | swap x y l=>
  intro ys r;cases r with
  |cons r1 r2=>
   cases r2 with
   |cons r3 r4=>exact⟨_,List.Perm.swap ..,yM⟩
 |trans _ _ ih1 ih2=>intro ys r;obtain⟨zs,h1,h2⟩:=ih2 r;obtain⟨gG,h3,h4⟩:=ih1 h2;exact⟨gG,h3.trans h1,h4⟩
theorem Vals.pairwise{α:Type}{R:α→α→Prop}{kv:Value→α}{kV:V→α}:∀{zs:List V} {ws:Nj},Vals zs ws→(∀v∈zs,∀u,YV u→kv u=kV v)→ws.Pairwise (λa b=>R (kv a) (kv b))→zs.Pairwise λa b=>R (kV a) (kV b)
 |_,_,.nil,_,_=>.nil
 |v::zs,u::ws,.cons r t,hk,h=>by rw[Uf]at h ⊢;refine⟨λb hb=>?_,Vals.pairwise t (λv hv=>hk v Pz) h.2⟩;obtain⟨i,hi,e⟩:=Ze hb;obtain⟨x,hx,rx⟩:=Vals.get t (i:=i) (x:=b) (by rw[Qb hi,e]);have:=h.1 x (Yz hx);rw[hk v Qd u r,hk b LP x rx]at this;exact this
section
variable{X:Cx}
def zea{a7:Nd}{s:Ni}{σ:St}{H:Hp}{p:Nc}{ys:List V}{R:List Value→List Value→Prop}{Q:VK}(I:HI)(hq:EL)(hS:∀a8,YU a8→∀(A':Around) (E':Value→Shared→Prop) (s':Shared),A'.units≤X.A.units+8→(∀b o,s.heap.get? b=some o→s'.heap.get? b=some o)→zbi X.prog X.w A' E' s' (R a8) a8)(h:∀(l:Nc) (ws:List V) (a8 us:Nj),H l=none→ws.Perm ys→YU a8→Vals ws us→R a8 us→Q Tb (TB l ws)) :
  wpAny Hk X.A (call (.builtin "sorted") [TR]) LJ X.xe s:=by
 obtain⟨a8,r,pl,hz⟩:=I.list hq;refine sorted_any pl.isList (by rw[←r.length];exact hz) (hS a8 r) λws l g tk e p1 p2 le k he=>?_;obtain⟨zs,q1,q2⟩:=Vals.perm p1 r;exact⟨Tb,_,I.laid (t':=tk) k le (show ZY _ g _ (Hv zs) from⟨by rw[q1.length_eq];exact hz,ws,e,q2,he⟩),rfl,h l zs a8 ws (IK le) q1 r q2 p2⟩
def leS(x y:Str):Prop:=¬y.cps.toList<x.cps.toList
def txV:V→List Nat
 |.str x=>x.cps.toList
 |_=>[]
def strs_perm{ws:List V}{zs:Ng}(pm:ws.Perm Sb):∃ts:List Str,ws=ts.map V.str∧ts.Perm zs:=by
 have a1:∀v∈ws,∃x,v=V.str x:=λv hv=>by obtain⟨x,_,e⟩:=Qf.mp (pm.mem_iff.mp hv);exact⟨x,e.symm⟩
 have a2:∃ts:List Str,ws=ts.map V.str:=by
  clear pm;induction ws with
  |nil=>exact⟨[],rfl⟩
  |cons v r ih=>obtain⟨ts,e⟩:=ih λv hv=>a1 v Pz;obtain⟨x,e2⟩:=a1 v Qd;exact⟨x::ts,by rw[e,e2];rfl⟩
 obtain⟨ts,rfl⟩:=a2;refine⟨ts,rfl,?_⟩;have:=pm.map (λv=>match v with | .str x=>x|_=>Str.empty);rw[Zc,Zc]at this;simpa[Function.comp_def] using this
def zfr{zs:Ng}{a8:Nj}(r:JZ a8):∀v∈a8,∃x t,v=.str x t:=λv hv=>by obtain⟨l,rfl,e⟩:=zem r;obtain⟨pr,_,e2⟩:=Qf.mp hv;exact⟨_,_,e2.symm⟩
def txV_str{zs:Ng}:∀v∈zs.map V.str,∀u,YV u→kvS u=txV v:=λv hv u ru=>by obtain⟨x,_,rfl⟩:=Qf.mp hv;obtain⟨t,rfl⟩:=ru;rfl
def strs_out{zs ts:Ng}{a8 us:Nj}(r:JZ a8)(r2:Vals (ts.map V.str) us)(p:a8.length<64→us.Pairwise λx y=>strO.kle (kvS x) (kvS y))(h:zs.length<64):ts.Pairwise leS:=by have p2:=Vals.pairwise (R:=λa b=>strO.kle a b) (kV:=txV) r2 txV_str (p (by rw[←r.length,Qa];exact h));rw[Wx]at p2;exact p2.imp of_decide_eq_false
def zf1:YH (.builtin "sorted") (λxs H Q=>Ex2 λ(p:Nc) (zs:Ng)=>Aj3 (xs=[TR]) (QT p Sb) (∀(l:Nc) (ws:Ng),H l=none→ws.Perm zs→(zs.length<64→ws.Pairwise leS)→Q Tb (TB l Sc))):=by intro a7 s σ H xs us Q I r h;obtain⟨p,zs,rfl,hq,q⟩:=h;obtain⟨u,rfl,rx⟩:=vals1 r;cases rx;refine zea I hq (λa8 r A' E' s' _ _=>zes (zfr r)) λl ws a8 us hl p1 r1 r2 p2=>?_;obtain⟨ts,rfl,p3⟩:=strs_perm p1;exact q l ts hl p3 (strs_out r1 r2 p2)
def zf4(I:HI)(e:Cj (.tup [.str x,z])):∃q,RelV z q∧Fe Rm x q:=by obtain⟨_,a8,r,o,e1,c,n,d⟩:=YD e;obtain⟨u,w',rfl,⟨t,rfl⟩,rz⟩:=vals2 r;exact⟨w',rz,a,o,t,n,rfl,e1,c,d⟩
def zge(r:YU a8):∀v∈a8,∃b∈ys,RelV b v:=λv hv=>by
 obtain⟨i,hi,e⟩:=Ze hv;have hl:=r.length;have aB:i<ys.length:=by exact zar6 ‹_› ‹_›
 obtain⟨u,hu,ru⟩:=r.get (i:=i) (Qb aB);rw[Qb hi,e]at hu;cases hu;exact⟨_,Af,ru⟩
def zf5(a:J9 p)(b:zel h v y q):x=y∧p=q:=by
 obtain⟨a,o,t,n,rfl,e,c,d⟩:=a;obtain⟨a',o',t',n',e0,e',c',d'⟩:=b;cases e0;rw[e]at e';cases e';rw[d]at d';have d2:(#[WN t,p]:Array Value)=#[Bq t',q]:=by injection d'
 have d3:=congrArg (λa:Array Value=>a[0]?) d2;have d4:=congrArg (λa:Array Value=>a[1]?) d2;simp at d3 d4;exact⟨d3.1,d4⟩
def rowV(H:Hp):V→List Nat
 |.ref a=>match H a with
  |some (.tup [x,_])=>txV x
  |_=>[]
 |_=>[]
def zde(e:Cj (.tup [x,y])):Ff Rm=txV x:=by unfold rowV;dsimp only;rw[e]
def zf2:YH (.builtin "sorted") (λxs H Q=>Ex2 λ(p:Nc) (ys:List V)=>Aj5 (xs=[TR]) EL (∀v∈ys,∃a x z,v=.ref a∧H a=some (.tup [CF,z])) (∀v∈ys,∀u∈ys,Ff v=Ff u→v=u) (∀(l:Nc) (ws:List V),H l=none→ws.Perm ys→(ys.length<64→ws.Pairwise λa b=>strO.kle (Ff a) (Ff b))→Q Tb (TB l ws))):=by
 intro a7 s σ H xs us Q I r h;obtain⟨p,ys,rfl,hq,hy,hd,q⟩:=h;obtain⟨u,rfl,rx⟩:=vals1 r;cases rx;have back:∀a8,YU a8→∀v∈a8,∃b∈ys,RelV b v∧∃a x z q,b=.ref a∧v=.ref a∧H a=some (.tup [CF,z])∧Fe v x q:=λa8 r v hv=>by obtain⟨b,hb,rb⟩:=zge r v hv;obtain⟨a,x,z,rfl,e2⟩:=hy b hb;have rb':=rb;cases rb;obtain⟨q',_,T⟩:=zf4 I e2;exact⟨_,hb,rb',a,x,z,q',rfl,rfl,e2,T⟩
 refine zea I hq (λa8 r A' E' s' _ k=>ziq k (λv hv=>?_) λv hv u hu x p q T T'=>?_) λl ws a8 us hl p1 r1 r2 p2=>q l ws hl p1 λh64=>?_
 ·obtain⟨b,hb,rb,a,x,z,q,_,_,_,T⟩:=back a8 r v hv;exact⟨x,q,T⟩
 ·obtain⟨b,hb,rb,a,x1,z,q1,rfl,rfl,e1,T1⟩:=back a8 r v hv;obtain⟨c,hc,rc,a',x2,z',q2,rfl,rfl,e2,T2⟩:=back a8 r u hu;have h1:=(zf5 T T1).1;have h2:=(zf5 T' T2).1;subst h1;subst h2;have:=hd _ hb _ hc (by rw[zde e1,zde e2]);cases this;exact .inl rfl
 refine Vals.pairwise (R:=λa b=>strO.kle a b) (kv:=λu=>(Me u).1) r2 (λv hv u ru=>?_) ((p2 (by rw[← r1.length];exact h64)).imp λh=>(Bool.or_eq_false_iff.mp h).1);obtain⟨a,x,z,rfl,e2⟩:=hy v (p1.mem_iff.mp hv);cases ru;obtain⟨q',_,T⟩:=zf4 I e2;rw[T.key,zde e2];rfl
def dk_at{a7:Nd}{s:Ni}{σ:St}{H:Hp}{d:Nc}{kvs:List (Key×V)}(I:HI)(rd:Pk) :
  kvs.length≤sizeLine∧(d==sysModules)=false∧∃vs ep,YW vs∧s.heap.DictAt Ta d vs ep∧vs.length=kvs.length:=by
 obtain⟨z,y,vs,r,hd⟩:=rd.ok I.hok;obtain⟨ep,ha⟩:=hd.dictAt;exact⟨z,y,vs,ep,r,ha,(Zh r).symm⟩
def KV.get{kvs:List (Key×V)}{vs:List (Key×Value)}(r:YW vs){i:Nat}(e:vs[i]?=some (k,x)):∃v,kvs[i]?=some (k,v)∧YV x:=by
 induction r generalizing i with
 |nil=>simp at e
 |cons h t ih=>
  cases i with
  |zero=>simp at e;subst e;exact⟨_,by simp;exact Km h.1 rfl,h.2⟩
  |succ j=>obtain⟨v,h1,h2⟩:=ih (i:=j) OR;exact⟨v,Hd h1,h2⟩
def key_rel(h:(WA w).is k v=true):XH v:=by
 rcases keyIs_shape h with⟨i,t,rfl,rfl⟩|⟨x,t,rfl,rfl⟩
 ·exact⟨t,rfl⟩
 exact⟨t,rfl⟩
def keys_vals{P:Nk}{w:Nn}{kvs:List (Key×V)}{vs:List (Key×Value)}{ai:Array Value}(r:YW vs)(hl:vs.length=kvs.length)(h:ItemsOf (λi v=>∃k x,vs[i]?=some (k,x)∧(WA w).is k v=true) ai vs.length):Vals (kvs.map λp=>kV p.1) ai.toList:=by
 have g:∀(i:Nat),i<kvs.length→∃v,ai.toList[i]?=some v∧RelV (kV ((kvs.map Prod.fst).getD i (HL 0))) v:=λi hi=>by
  have aB:i<ai.size:=by rw[h.1];exact zar6 ‹_› ‹_›
  have e:ai[i]?=some ai[i]:=by simp[aB]
  obtain⟨k,x,e1,e2⟩:=h.2 i _ e;obtain⟨v',e3,_⟩:=KV.get r e1;refine⟨ai[i],Hm Uv e,?_⟩;have e4:(kvs.map Prod.fst).getD i (HL 0)=k:=by rw[Qx,Qo,e3];rfl
  rw[e4];exact key_rel e2
 have hsz:ai.toList.length=kvs.length:=by rw[Zy,h.1];exact hl
 clear h r hl;generalize ai.toList=l at g hsz;induction kvs generalizing l with
 |nil=>have:l=[]:=Ku.mp hsz;subst this;exact .nil
 | cons p t ih=>
  cases l with
  |nil=>cases hsz
  |cons u us=>
   refine .cons ?_ (ih us (λi hi=>?_) (Hd hsz))
   ·obtain⟨v,e1,e2⟩:=g 0 Hb;simp at e1;subst e1;exact e2
   obtain⟨v,e1,e2⟩:=g HY (Hd hi);exact⟨v,Hd e1,Hd e2⟩
def zhs(hc:X.calm=true):YH (.type "list") (λxs H Q=>Ex2 λ(d:Nc) (kvs:Tn (Key×V))=>Aj3 (xs=[OY]) Pk (∀l,H l=none→Q Tb (ZS l (.lst (kvs.map λp=>kV p.1))))):=by intro a7 s σ H xs us Q I r h;obtain⟨d,kvs,rfl,hq,q⟩:=h;obtain⟨u,rfl,rx⟩:=vals1 r;cases rx;obtain⟨z,lo,vs,ep,rk,ha,hl⟩:=VY hq;refine PySem.W.kdl_call zQ SO ha (Hm hl z) λh' tk ai c k e hi=>?_;have rv:=keys_vals rk hl hi;exact⟨Hf _,_,I.laid (t':=tk) k HM (show ZY _ h' _ (Hv _) from⟨yT z,ai.toList,c,rv,by rw[e]⟩),rfl,AC⟩
def zbp(hc:X.calm=true):YH (.builtin "sorted") (λxs H Q=>Ex3 λ(d:Nc) (kvs:Tn (Key×V)) (zs:Ng)=>Aj4 (xs=[OY]) Pk ((kvs.map λp=>kV p.1)=zs.map V.str) (∀(l:Nc) (ws:Ng),H l=none→ws.Perm zs→(zs.length<64→ws.Pairwise leS)→Q Tb (TB l Sc))):=by
 intro a7 s σ H xs us Q I r h;obtain⟨d,kvs,zs,rfl,hq,ez,q⟩:=h;obtain⟨u,rfl,rx⟩:=vals1 r;cases rx;obtain⟨z,lo,vs,ep,rk,ha,hl⟩:=VY hq;refine zfc (G:=λa8=>JZ a8) (λE' R hR=>zhj zQ (show X.A.in1.handled=none from I.ok.hd hc) ha (Hm hl z) λg tk ai k le hi=>hR g tk _ k le (ez▸keys_vals rk hl hi))
  (λa8 r=>by rw[←r.length,←ez,Qa];exact z) (λa8 r A' E' s' _ _=>zes (zfr r)) λa8 ws l g tk e r p1 p2 le k he=>?_
 obtain⟨gG,q1,q2⟩:=Vals.perm p1 r;obtain⟨ts,rfl,p3⟩:=strs_perm q1;refine⟨Tb,_,I.laid (t':=tk) k le (show ZY _ g _ (Hv _) from⟨?_,ws,e,q2,he⟩),rfl,q l ts (IK le) p3 (strs_out r q2 p2)⟩;rw[q1.length_eq,←ez,Qa];exact z
variable{a7:Nd}{σ:St}{H:Hp}{s:Ni}
def Inv.freeze(I:HI)(hd:RU d u)(ho:s.heap.get? d=some o)(mu:Mut (RH u)):ZA (ZS d PN) s:=by
 have ne:∀b,H b=none→b≠d:=λb e z=>by rw[z,hd]at e;cases e
 have nt:∀b xs,H b=some SV→b≠d:=λb xs e z=>by rw[z,hd]at e;cases e;exact mu
 have nf:∀b o' u',H b=some LQ→b≠d:=λb o' u' e z=>by rw[z,hd]at e;cases e;exact mu
 have nb:∀b ps,H b=some AG→b≠d:=λb ps e z=>by rw[z,hd]at e;cases e;exact mu
 have no:∀b a,H b=some ET→b≠d:=λb a e z=>by rw[z,hd]at e;cases e;exact mu
 refine I.un (h':=s.heap) (t':=s.toks) ⟨λb o e _ _ _=>e,λb o e _ _ _=>⟨o.slots,e⟩,λb o e n _=>by rw[zaf (ne b n)];exact n,λb o e _=>⟨o,e⟩,λb xs e=>by rw[zaf (nt b xs e)];exact e,
  λb o' u' e=>by rw[zaf (nf b o' u' e)];exact e,λb ps e=>⟨#[],by rw[zaf (nb b ps e),e];simp⟩⟩ λb v e=>?_
 by_cases hb:b=d
 ·subst hb;rw[zad]at e;cases e;exact⟨ho,(UX u hd).stay (λc v _ q=>q) (λc q=>by rw[zaf P4];exact q) λc xs q=>by rw[zaf Pb];exact q⟩
 rw[Pm]at e;exact(UX v e).stay (λc v _ q=>q) (λc q=>by rw[zaf P4];exact q) λc xs q=>by rw[zaf Pb];exact q
def Inv.thaw(I:HI)(hd:RU d PN)(hx:∀o' u',X.H₀ d≠some LQ):ZA (ZS d u) s:=by
 have ne:∀b,H b=none→b≠d:=λb e z=>by rw[z,hd]at e;cases e
 have nt:∀b xs,H b=some SV→b≠d:=λb xs e z=>by rw[z,hd]at e;cases e
 have nb:∀b ps,H b=some AG→b≠d:=λb ps e z=>by rw[z,hd]at e;cases e
 have no:∀b a,H b=some ET→b≠d:=λb a e z=>by rw[z,hd]at e;cases e
 have B:=I.base;refine⟨I.ok,I.os,I.bare,⟨B.keep,B.slot,λb o e n hx=>?_,B.there,λb xs e=>?_,λb o' u' e=>?_,λb ps e=>?_⟩,I.loc,I.cell,?_,λx c e=>?_,λp hp=>?_,λb v e=>?_,I.len⟩
 ·have:=B.free b o e n hx;rw[zaf (ne b this)];exact this
 ·have:=B.tups b xs e;rw[zaf (nt b xs this)];exact this
 ·have:=B.frzs b o' u' e;have nd:b≠d:=λz=>hx o' u' (z▸e);rw[zaf nd];exact this
 ·obtain⟨m,q⟩:=B.tbls b ps e;exact⟨m,Hq (nb b _ q) q⟩
 ·rw[zaf (ne _ I.free)];exact I.free
 ·rw[zaf (ne c (JL e))];exact JL e
 ·obtain⟨h1,h2,h3⟩:=Y6 hp;exact⟨h1,Hq (ne _ h2) h2,h3⟩
 by_cases hb:b=d
 ·subst hb;rw[zad]at e;cases e;exact(show s.heap.get? b=some o∧ZY H s.heap b u from UX _ hd).2.stay (λc v _ q=>q) (λc q=>by rw[zaf P4];exact q) λc xs q=>by rw[zaf Pb];exact q
 rw[Pm]at e;exact(UX v e).stay (λc v _ q=>q) (λc q=>by rw[zaf P4];exact q) λc xs q=>by rw[zaf Pb];exact q
inductive Thaw(X:Cx)(R:Hp→Prop)(H':Hp):Prop
 |mk (d:Nc) (o:Obj) (u:HO) (h:H' d=some (.frz o u)) (n:∀o' u',X.H₀ d≠some (.frz o' u')) (q:R (upd H' d u)):Thaw X R H'
def tThaw(X:Cx)(t:TE):TE:=λ σ H Q=>t σ H λv H'=>Fg (Q v) H'
def pe_thaw(h:Z7 e t):Z7 e (tThaw X t):=by intro a7 s σ H Q I q;refine thn (CB _ q) λu s' ⟨v,H',I',r,d,o,w',e1,e2,e3⟩=>?_;exact⟨v,_,KI e2,r,e3⟩
def sThaw(X:Cx)(t:TS):TS:=λD σ H=>t {nx:=λ σ' H'=>Fg (D.nx σ') H',rt:=λv H'=>Fg (D.rt v) H',bk:=λ σ' H'=>Fg (D.bk σ') H',ct:=λ σ' H'=>Fg (D.ct σ') H'} σ H
def ps_thaw{st:Stmt}{t:TS}(h:K0 st t):K0 st (sThaw X t):=by
 intro a7 s σ H D I q;refine thn (CB _ q) λf s' z=>?_;cases f with
 |next=>obtain⟨σ',H',I',d,o,w',e1,e2,e3⟩:=z;exact⟨σ',_,KI e2,e3⟩
 |brk=>obtain⟨σ',H',I',d,o,w',e1,e2,e3⟩:=z;exact⟨σ',_,KI e2,e3⟩
 |cont=>obtain⟨σ',H',I',d,o,w',e1,e2,e3⟩:=z;exact⟨σ',_,KI e2,e3⟩
 |ret u=>obtain⟨v,σ',H',I',r,d,o,w',e1,e2,e3⟩:=z;exact⟨v,σ',_,KI e2,r,e3⟩
def Itd(d:Nc)(o:Obj)(kvs:Tn (Key×V)):It:=
 ⟨λi H=>H d=some zh∧i<kvs.length,λi H x H'=>H'=H∧∃p,kvs[i]?=some p∧x=kV p.1,λi H=>H d=some zh∧kvs.length≤i⟩
def frz_at(I:HI)(e:RU d zh):s.heap.get? d=some o∧ZY H s.heap d Rg:=I.hok d _ e
def zh9{h:No}{kvs:List (Key×V)}{vs vs':List (Key×Value)}{ep ep':Nat}(ho:h.get? d=some o)(a:h.DictAt Cu d vs ep)(o':Obj)(h':No)(aw:h'.get? d=some o):h'.DictAt Cu d vs ep:=by obtain⟨q,es,e,r⟩:=a;rw[ho]at e;cases e;exact⟨o,es,aw,r⟩
theorem turn_dict{P:Nk}{w:Nn}{K:Nb}{tg:Expr}{o:Obj}{kvs:List (Key×V)}{vs:List (Key×Value)}{ep:Nat}{h0:No}(d it:Nc)(rk:YW vs)(hl:vs.length=kvs.length)(h00:h0.get? d=some o)(lJ:h0.DictAt Cu d vs ep) :
  Turn P w K tg (FQ kvs) [it] it (λi h=>h.IsKeyIter it d i vs.length ep) where
 mem:=by simp
 obj:=λi h st b hb=>by
  have e:b=it:=by simpa using hb
  subst e;obtain⟨o,e,c,d⟩:=st;exact⟨o,e,λv z=>by rw[d]at z;cases z⟩
 keep:=λi h h' st k=>st.at λo e=>k it Hb o e
 item:=by
  intro X hP hw hK hc i a7 s σ H E I hf st hg;subst hP hw hK;obtain⟨fz,hi⟩:=hg;obtain⟨ho,_⟩:=frz_at I fz;have DA:s.heap.DictAt Ta d vs ep:=zh9 (kvs:=kvs) (vs':=vs) (ep':=ep) h00 lJ o s.heap ho;obtain⟨f0,f1,f2,f3,f4,f5⟩:=hf it Hb;have aB:i<vs.length:=by exact zar6 ‹_› ‹_›
  obtain⟨v',e3,_⟩:=KV.get rk (i:=i) (k:=vs[i].1) (x:=vs[i].2) (Qb aB);refine wpAny_pyNext_dict_item st DA (k:=vs[i].1) (v:=vs[i].2) (Qb aB) λkey h' hk aa sb=>?_;have I1:ZA H {s with heap:=h'}:=I.turned (t':=s.toks) (λb o hb e=>(Oy hb).trans e) f0 f1 f3 f4 f5;obtain⟨o2,e,c,d2⟩:=id aa;exact⟨key,rfl,go_of (s:={s with heap:=h'}) e c d2 Hg ⟨kV vs[i].1,H,I1,key_rel hk,⟨rfl,_,e3,rfl⟩,aa,λb hb=>(hf b hb).1⟩⟩
 done:=by intro X hP hw hK hc i a7 s σ H E I hf st hg;subst hP hw hK;obtain⟨fz,hi⟩:=hg;obtain⟨ho,_⟩:=frz_at I fz;have DA:s.heap.DictAt Ta d vs ep:=zh9 (kvs:=kvs) (vs':=vs) (ep':=ep) h00 lJ o s.heap ho;obtain⟨f0,f1,f2,f3,f4,f5⟩:=hf it Hb;exact wpAny_pyNext_dict_end SO st DA (Us Hc) λh' eb=>⟨rfl,I.turned (t':=s.toks) (λb o hb e=>eb b o hb e) f0 f1 f3 f4 f5⟩
 self:=λ_ _ _ _ _ st h=>wpAny_pyIter_keyiter st h
inductive RIDi(x:V)(H:Hp)(R:It→Hp→Prop):Prop
 |mk (d:Nc) (kvs:List (Key×V)) (e:x=.ref d) (h:H d=some (.dK kvs)) (q:∀o,R (Itd d o kvs) (upd H d (.frz o (.dK kvs)))):RIDi x H R
def iDict(td:TE):TI:=λ σ H R=>td σ H λx H1=>RIDi x H1 R
def zgm{tg l:Expr}{tl:TE}(hl:O5):JG l (iDict tl):=by
 intro a7 s σ H R I h;refine thn Lc λv s1 ⟨x,H1,I1,r1,q1⟩=>?_;obtain⟨d,kvs,e,hd,q⟩:=q1;subst e;cases r1;obtain⟨z,lo,vs,ep,rk,ha,ad⟩:=dk_at I1 (HL hd);obtain⟨o,es,ho,r⟩:=id ha;refine wpAny_pyIter_dict lo ha ?_;have I2:=I1.freeze hd ho trivial;have I3:ZA (QN d zh) {s1 with heap:=s1.heap.push {cls:=.type "dict_keyiterator",data:=.fields #[OY,AD,.int vs.length 0,Lj ep 0]}}:=I2.kept (t':=s1.toks) λb o e=>QQ e;refine⟨s1.heap.objs.size,[s1.heap.objs.size],_,_,xf,I3,turn_dict d _ rk ad ho ha,⟨_,Tc,rfl,rfl⟩,λb hb=>?_,q o⟩;have e:b=s1.heap.objs.size:=by simpa using hb
 subst e;exact I2.fpOk HM (I2.hok.fresh HM)
def for_dict{d:Nc}{o:Obj}{kvs:List (Key×V)}{g:TG}{tb:TS}{D:Ends}{σ:St}{H:Hp}(Pv:Nat→St→Hp→Prop)(h0:ED)(hl:∀i σ H,i≤kvs.length→Pv i σ H→H d=some zh)(hs:∀i p σ H,kvs[i]?=some p→Pv i σ H→g (kV p.1) σ H λ σ2 H2=>tb {D with nx:=Pv HY,ct:=Pv HY,bk:=D.nx} σ2 H2)(hd:∀σ H,Pv kvs.length σ H→W8 H) :
  ∃W:Nat→Nat→St→Hp→Prop,(∃m,W 0 m σ H)∧∀i m σ H,W i m σ H →
   ((FQ kvs).stop i H∧W8 H)∨((FQ kvs).go i H∧∃N:St→Hp→Prop,HK∧∀x H',(FQ kvs).yld i H x H'→g x σ H' λ σ2 H2=>tb {D with nx:=N,ct:=N,bk:=D.nx} σ2 H2):=by
 refine⟨λi m σ H=>m=kvs.length-i∧i≤kvs.length∧Pv i σ H,⟨kvs.length,Hb,Tq,h0⟩,?_⟩;rintro i m σ H ⟨rfl,hi,p⟩;have q:=hl i σ H hi p;by_cases ae:i<kvs.length
 ·refine .inr ⟨⟨q,ae⟩,Pv HY,fun σ' H' p'=>⟨kvs.length - HY,Hy,rfl,ae,p'⟩,λx H' y=>?_⟩;obtain⟨e,pr,e2,rfl⟩:=y;subst e;exact hs i pr σ _ e2 p
 have e:i=kvs.length:=by exact zar3 ‹_› ‹_›
 subst e;exact .inl ⟨⟨q,HM⟩,Pn⟩
end
end L2
namespace Enu
open PySem PyProof.Rows
open AutoSeq1 (wpAny_loadPart')
section
variable{prog:Nk}{w:Nn}{A:Np}{E:Na}{s:Ni}
def next_item(st:zF)(ht:IH)(hx:xs[i]?=some x)(hQ:∀g,g.IsTupleIter j t HY→Dc g→Q x {s with heap:=g}):ZG OW Q E s:=by obtain⟨o,ho,hc,hd⟩:=id st;obtain⟨p,hp,_,k,hk⟩:=ht;unfold Builtin.SmallTypes.nextOf;refine wpAny_bind (wpAny_callSpecial?_slot (name:=Str.ofString "__next__") st.typeIs Uu (JH ?_ (Xx _)));show ZQ _ (field E4 0 >>= _) _ _ s;refine wpAny_bind (U1 (x:=.ref t) rfl ?_);show ZQ _ (if(Value.ref t==.none)=true then _ else _) _ _ s;rw[if_neg (show ¬((Value.ref t==.none)=true) from Zj)];show ZQ _ (field E4 1 >>= _) _ _ s;refine wpAny_bind (U1 (x:=.int i 0) rfl ?_);show ZQ _ (seqItems? Lx >>= _) _ _ s;refine wpAny_bind (Dq ?_);simp only[Ul,hx];refine wpAny_bind (JP Hb (CJ ⟨x,rfl,RP (hQ _ ⟨_,yN,(Obj.cls_mapFields ..).trans hc,by rw[Uj hd];simp[rawInt]⟩ (Ue ..))⟩))
def next_end(hh:A.handled=none)(st:zF)(ht:IH)(hx:xs[i]?=none)(hE:∀g e,Dr g→(∃o,g.get? e=some o∧o.cls=.type "StopIteration")→E CA {s with heap:=g}):ZG OW Q E s:=by
 obtain⟨o,ho,hc,hd⟩:=id st;obtain⟨p,hp,_,k,hk⟩:=ht;unfold Builtin.SmallTypes.nextOf;refine wpAny_bind (wpAny_callSpecial?_slot (name:=Str.ofString "__next__") st.typeIs Uu (JH ?_ (Xx _)));show ZQ _ (field E4 0 >>= _) _ _ s;refine wpAny_bind (U1 (x:=.ref t) rfl ?_);show ZQ _ (if(Value.ref t==.none)=true then _ else _) _ _ s;rw[if_neg (show ¬((Value.ref t==.none)=true) from Zj)];show ZQ _ (field E4 1 >>= _) _ _ s;refine wpAny_bind (U1 (x:=.int i 0) rfl ?_);show ZQ _ (seqItems? Lx >>= _) _ _ s;refine wpAny_bind (Dq ?_);simp only[Ul,hx];refine wpAny_bind (zi (JP Hb ?_));show ZQ _ (newExc (.type "StopIteration") [] >>= _) _ _ _;refine wpAny_bind ?_;simp only[newExc,newTuple];refine wpAny_bind (wpAny_newObj_type (wpAny_bind (m:=firstArgMember _ _) (wpAny_of_eq (a:=Value.none) (by first|rfl|(simp only[firstArgMember];rfl)) (wpAny_newObj_type ?_ (by size_fits)))) (by size_fits));simp only[raiseNew];refine wpAny_bind (wpAny_handled ?_)
 first|rw[show A.in1.handled=none from hh] | rw[hh]
 refine wpAny_bind (RP (wpAny_throw (hE _ _ (((Ue ..).extBut.push _).push _) ⟨_,UE rfl,rfl⟩)))
theorem drawsT(hh:A.handled=none)(j t:Nc)(az:t≠j)(xs:Array Value) :
  Draws prog w A j [j,t] xs.size (λi v=>xs[i]?=some v) (λi h=>h.IsTupleIter j t i∧h.IsTuple t xs) where
 live:=λ_ _ st=>let⟨o,ho,_⟩:=st.1;⟨o,ho⟩
 frame:=λi h h' st k=>⟨st.1.at λo e=>k j Hb o e,let⟨o,e,r⟩:=st.2;⟨o,k t Hb o e,r⟩⟩
 item:=λi s Q E hi st hQ=>by refine next_item st.1 st.2 (x:=xs[i]) Ae λg a b=>?_;obtain⟨o,e,r⟩:=st.2;exact hQ _ g s.toks Ae ⟨a,o,(b.2 t az).trans e,r⟩ b
 done:=λs Q E st hE=>next_end hh st.1 st.2 Hb hE
def new_tuple(t:Nc)(xs:Array Value)(n:Nat)(dct:Option Addr)(sl:Array LM) :
  Meets (Builtin.«enumerate.__new__» ⟨[.type "enumerate",Lx],[]⟩) (λ_ R s=>s.heap.get? t=some {cls:=.type "tuple",dict:=dct,data:=.seq xs n,slots:=sl} ∧
   R (.ok (.ret (.ref (s.heap.push {cls:=.type "tuple_iterator",data:=.fields #[Lx,AD]}).objs.size)))
    {s with heap:=(s.heap.push {cls:=.type "tuple_iterator",data:=.fields #[Lx,AD]}).push {cls:=.type "enumerate",data:=.fields #[.none,PM,Hr,CG 0,.none,.none]}}):=
 .of_wp λprog w A R s h=>by
  obtain⟨hp,g,d,tk,os⟩:=s;obtain⟨hl,h⟩:=h;have dw:=sub_enumerate;have hL:Heap.IsTuple (Shared.heap ⟨hp,g,d,tk,os⟩) t xs:=⟨_,hl,rfl,n,rfl⟩;wp_walk using wpAny_loadPart' hl;refine wpAny_stack_any λst=>wpAny_pure ?_;split
  ·rename_i c _ _ _ _ _;cases(c==Value.type "enumerate")<;>(wp_walk using wpAny_loadPart' hl,wpAny_pyIter_tuple hL;exact⟨xf,h⟩)
  wp_walk using wpAny_loadPart' hl,wpAny_pyIter_tuple hL;exact⟨xf,h⟩
def call_enum(hL:IH)(h:∀g,IsEnum g HR s.heap.objs.size 0 .none→g.IsTupleIter s.heap.objs.size t 0→g.objs.size=s.heap.objs.size+2→HF→Q (Hf HR) {s with heap:=g}) :
  wpAny HH A (call (.type "enumerate") [Lx]) Q E s:=by
 obtain⟨⟨c,dct,dt,sl⟩,hl,hc,n,hd⟩:=hL;replace hc:c=.type "tuple" :=hc;replace hd:dt=.seq xs n:=hd;subst hc hd;refine callType_new F.called_enumerate Hg (F.typeCall_enumerate_1 _) (F.newCall_enumerate_1 _) (λobj=>F.args_object_init_2 obj _) F.entry_enumerate_new (new_tuple t xs n dct sl) ⟨hl,?_⟩;have hz:(s.heap.push {cls:=.type "tuple_iterator",data:=.fields #[Lx,AD]}).objs.size=s.heap.objs.size+1:=Ut ..;show _∧_;rw[hz];have he:IsEnum ((s.heap.push {cls:=.type "tuple_iterator",data:=.fields #[Lx,AD]}).push {cls:=.type "enumerate",data:=.fields #[.none,PM,Hr,CG 0,.none,.none]}) HR s.heap.objs.size 0 .none:=by have q:=Qy (s.heap.push {cls:=.type "tuple_iterator",data:=.fields #[Lx,AD]}) (o:={cls:=.type "enumerate",data:=.fields #[.none,PM,Hr,CG 0,.none,.none]}) rfl;rw[hz]at q;exact q
 exact⟨⟨_,he,rfl⟩,h _ he ⟨_,QQ Tc,rfl,rfl⟩ (by rw[Ut,hz]) λb o x=>QQ (QQ x)⟩
end
end Enu
namespace L2
open PySem PySem.Spec PyProof.Rows Enu
def Ite(a:Nc)(K:Nb):It:=
 ⟨λi H=>∃xs,JA xs∧i<xs.length,λi H x H'=>∃y t,(∀xs,JA xs→xs[i]?=some y)∧H t=none∧x=.ref t∧H'=ZS t (.tup [OT,y]),λi H=>∃xs,JA xs∧xs.length≤i⟩
theorem turn_enum{P:Nk}{w:Nn}{K:Nb}{elts:Nr}{kk:Nat}{pos:Pos}(a e j:Nc)(v8:e≠j)(haj:a≠j)(hae:e≠a) :
  Turn P w K (.Tuple elts kk pos) (Ite a K) [e,j] e (λi h=>(∃old,IsEnum h e j i old)∧h.IsTupleIter j a i) where
 mem:=by simp
 obj:=λi h st b hb=>by
  rcases Qj.mp hb with z|z
  ·subst z;obtain⟨old,q⟩:=st.1;exact⟨_,q,λv z=>by have z':Data.fields _=Data.cell v:=z;cases z'⟩
  rw[CT z];obtain⟨o,q,c,d⟩:=st.2;exact⟨o,q,λv z=>by rw[d]at z;cases z⟩
 keep:=λi h h' st k=>⟨let⟨old,q⟩:=st.1;⟨old,k e Hb _ q⟩,st.2.at λo q=>k j Hb o q⟩
 item:=by
  intro X hP hw hK hc i a7 s σ H E I hf st hg;subst hP hw hK;obtain⟨xs,hq,hi⟩:=hg;obtain⟨a8,rv,p,hz⟩:=I.tuple hq;have hl:=rv.length;obtain⟨⟨old,he⟩,hit⟩:=st;have hh:X.A.in1.handled=none:=I.ok.hd hc;refine wpAny_pyNext_enum_itemD (drawsT hh j a haj a8.toArray) he ⟨hit,p⟩ (by simp;exact zar7 ‹_› ‹_›) v8 (by simp[v8,hae]) λx g tk hP ho hs hT hsz hk=>⟨Hr,rfl,?_⟩;have fr:∀b,b∈[e,j]→QK b:=hf;obtain⟨e0,e1,e2,e3,e4,e5⟩:=hf e Hb;obtain⟨j0,j1,j2,j3,j4,j5⟩:=hf j Hb;have hHe:∀b u,H b=some u→b≠e∧b≠j:=λb u q=>⟨λz=>(by rw[z,e0]at q;cases q),λz=>(by rw[z,j0]at q;cases q)⟩;have I1:ZA H {s with heap:=g,toks:=tk+1}:=by
   refine I.step (g':=s.gens) (d':=s.drawn) (ch:=[e,j]) (λb hb=>?_) (λb o _ _ hc q _=>hk b o (λz=>hc CN) (λz=>hc CN) q) (λb o _ _ hc q _=>⟨o.slots,hk b o (λz=>hc CN) (λz=>hc CN) q⟩) (λ_ _ _ _ n=>n)
    (λb o hc q=>⟨o,hk b o (λz=>hc CN) (λz=>hc CN) q⟩) (λ_ _ q=>q) (λ_ _ _ q=>q) (λb ps q=>⟨#[],by rw[q];simp⟩) (λm hm=>?_) (λb u q=>?_) I.bare
   ·rcases Qj.mp hb with z|z
    ·subst z;exact⟨e3,e1,e4,e5⟩
    rw[Qc.mp z];exact⟨j3,j1,j4,j5⟩
   ·obtain⟨o,es,ep,q,r⟩:=hm;exact⟨o,es,ep,hk _ o (Zd e1) (Zd j1) q,r⟩
   refine (UX u q).stay (λc v hc z=>?_) (λ_ z=>z) λ_ _ z=>z;have hcn:c≠e∧c≠j:=by
    rcases hc with rfl|hc
    ·exact hHe c u q
    exact hHe c _ hc
   exact hk c v hcn.1 hcn.2 z
  obtain⟨y,hy⟩:∃y,xs[i]?=some y:=⟨xs[i],Qb hi⟩;obtain⟨u,hu,ru⟩:=rv.get hy;have hP':a8[i]?=some x:=by simpa using hP
  rw[hu]at hP';have hux:u=x:=Qn hP';subst hux;have hN:H s.heap.objs.size=none:=I.hok.fresh HM;refine wpAny_letOwnedTupleGo_enum ho λg' aW dy=>?_;have nT:s.heap.objs.size≠e:=Yo (Qu he);have nJ:s.heap.objs.size≠j:=by obtain⟨o,q,_⟩:=hit;exact Yo (Qu q)
  have I2:ZA H {s with heap:=g',toks:=tk+1}:=Inv.turned (s:={s with heap:=g,toks:=tk+1}) (t':=tk+1) (it:=e) I1 (λb o hb q=>(dy.2 b hb).trans q) e0 e1 e3 e4 e5;have mQ:g'.get? s.heap.objs.size=some {cls:=.type "tuple",data:=.seq #[Lj i tk,u]}:=(dy.2 _ nT).trans hT;have I3:ZA (An (.tup [OT,y])) {s with heap:=g',toks:=tk+1}:=by
   refine⟨I2.ok,I2.os,I2.bare,⟨I2.base.keep,I2.base.slot,λb o q n hx=>?_,I2.base.there,λb zs q=>?_,λb o v q=>?_,λb ps q=>?_⟩,I2.loc,I2.cell,?_,λz c q=>?_,λpp hp=>?_,λb v q=>?_,I2.len⟩
   ·have lt:b < s.heap.objs.size:=Zx (Qu q) I.sz;rw[zaf Py];exact I2.base.free b o q n hx
   ·have:=I2.base.tups b zs q;rw[zaf (zab this hN)];exact this
   ·have:=I2.base.frzs b o v q;rw[zaf (zab this hN)];exact this
   ·obtain⟨m,z⟩:=I2.base.tbls b ps q;exact⟨m,Hq (AK z hN) z⟩
   ·rw[zaf (Zi I.lt)];exact I2.free
   ·rw[zaf (Zi (I.cl_lt z c q))];exact I2.freeC z c q
   ·obtain⟨h1,h2,h3⟩:=I2.pin pp hp;exact⟨h1,Hq (Zi (I.pin_lt pp hp)) h2,h3⟩
   by_cases hb:b=s.heap.objs.size
   ·subst hb;rw[zad]at q;cases q;exact⟨LE,[Lj i tk,u],yY ⟨tk,rfl⟩ (Su ru),_,mQ,rfl,xf⟩
   rw[Pm]at q;exact(I2.hok b v q).stay (λc v _ z=>z) (λc z=>by rw[zaf (AK z hN)];exact z) λc zs z=>by rw[zaf (AK z hN)];exact z
  refine⟨Hr,_,I3,rfl,⟨y,_,λys hys=>by rw[I.tuple_inj hys hq];exact hy,hN,rfl,rfl⟩,⟨⟨u,Hd aW⟩,?_⟩,λb hb=>?_⟩
  ·exact hs.1.at λo q=>(dy.2 j (Zd v8)).trans q
  rcases Qj.mp hb with z|z
  ·rw[z,zaf (Zd nT)];exact e0
  rw[Qc.mp z,zaf (Zd nJ)];exact j0
 done:=by intro X hP hw hK hc i a7 s σ H E I hf st hg;subst hP hw hK;obtain⟨xs,hq,hi⟩:=hg;obtain⟨a8,rv,p,hz⟩:=I.tuple hq;have hl:=rv.length;obtain⟨⟨old,he⟩,hit⟩:=st;obtain⟨j0,j1,j2,j3,j4,j5⟩:=hf j Hb;have hh:X.A.in1.handled=none:=I.ok.hd hc;have hT:s.TypeIs CA "enumerate" :=⟨_,he,rfl⟩;unfold pyNext;refine wpAny_bind (Lf (wpAny_callSpecial?_slot (name:=Str.ofString "__next__") hT F.slot_enumerate_next (wpAny_call_entry F.slot_enumerate_next hT F.entry_enumerate_next ?_ (F.args_enumerate_next_1 _))));show ZQ _ (field CA 2 >>= _) _ _ _;refine wpAny_bind (wpAny_field he rfl (x:=.ref j) rfl (wpAny_bind (next_end hh hit p (by simp;exact zd9 ‹_› ‹_›) λg x hg hx=>?_)));obtain⟨o,ho,hc⟩:=hx;refine wpAny_bind (wpAny_isInstance (T:= "StopIteration") (b:=true) ⟨o,ho,hc⟩ isSubtype_stop (wpAny_pure ⟨rfl,?_⟩));exact I.turned (t':=s.toks) (λb o hb q=>hg b o hb q) j0 j1 j3 j4 j5
 self:=λA i s Q E st h=>by obtain⟨⟨old,he⟩,_⟩:=st;exact Ds h
section
variable{X:Cx}
def iEnum(K:Nb)(ta:TA):TI:=λ σ H R=>ta σ H λvs H1=>∃a,vs=[Rm]∧(∃xs,SqT K H1 a xs)∧R (Ite a K) H1
def pi_enum(hg:Vk "enumerate")(hm:X.mg "enumerate" = none)(ha:K1 [a] ta)(hs:starEach [a] X.env=[(false,Rj a)]:=by rfl) :
  PI X (.Tuple elts kk tpos) (.Call (.Name "enumerate" p) [a] [] pos) (iEnum X.K ta):=by
 intro a7 s σ H R I h;refine Call_ (Bp boot_enumerate (Jf (thn SD λus s1 ⟨vs,H1,I1,r1,q1⟩=>?_) hs rfl));obtain⟨t,e,⟨xs,hq⟩,q⟩:=q1;subst e;obtain⟨u,rfl,ru⟩:=vals1 r1;cases ru;obtain⟨a8,rv,pl,hz⟩:=I1.tuple hq;have lt:t<s1.heap.objs.size:=by obtain⟨o,q,_⟩:=pl;exact Qu q
 refine call_enum pl λg he hit hsz k=>Ds ?_;have I2:ZA H1 {s1 with heap:=g}:=I1.kept (t':=s1.toks) k;refine⟨s1.heap.objs.size+1,[s1.heap.objs.size+1,s1.heap.objs.size],_,_,H1,rfl,I2,turn_enum t _ _ (Nat.succ_ne_self _) Py (Yo (Js lt)),⟨⟨_,he⟩,hit⟩,λb hb=>?_,q⟩;have mK:s1.heap.objs.size≤b:=by
  rcases Qj.mp hb with z|z
  ·rw[z];exact Kt _
  rw[Qc.mp z];exact Qi _
 exact I1.fpOk mK (I1.hok.fresh mK)
def for_enum{K:Nb}{a:Nc}{xs:List V}{g:TG}{tb:TS}{D:Ends}{σ:St}{H:Hp}(Pv:Nat→St→Hp→Prop)(h0:ED)(hl:∀i σ H,i≤xs.length→Pv i σ H→H a=some SV)(hs:∀i x t σ H,xs[i]?=some x→Pv i σ H→H t=none→g Lx σ (ZS t (.tup [OT,x])) λ σ2 H2=>tb {D with nx:=Pv HY,ct:=Pv HY,bk:=D.nx} σ2 H2)(hd:∀σ H,Pv xs.length σ H→W8 H) :
  ∃W:Nat→Nat→St→Hp→Prop,(∃m,W 0 m σ H)∧∀i m σ H,W i m σ H →
   ((Ite a K).stop i H∧W8 H)∨((Ite a K).go i H∧∃N:St→Hp→Prop,HK∧∀x H',(Ite a K).yld i H x H'→g x σ H' λ σ2 H2=>tb {D with nx:=N,ct:=N,bk:=D.nx} σ2 H2):=by
 refine⟨λi m σ H=>m=xs.length-i∧i≤xs.length∧Pv i σ H,⟨xs.length,Hb,Tq,h0⟩,?_⟩;rintro i m σ H ⟨rfl,hi,p⟩;have q:=hl i σ H hi p;by_cases ae:i<xs.length
 ·refine .inr ⟨⟨xs,Tg q,ae⟩,Pv HY,fun σ' H' p'=>⟨xs.length - HY,Hy,rfl,ae,p'⟩,λx H' y=>?_⟩;obtain⟨z,t,e1,e3,rfl,rfl⟩:=y;exact hs i z t σ H (e1 xs (Tg q)) p e3
 have e:i=xs.length:=by exact zar3 ‹_› ‹_›
 subst e;exact .inl ⟨⟨xs,Tg q,HM⟩,Pn⟩
def Its(x:Str):It:=⟨λi _=>i<x.cps.size,λi H v H'=>H'=H∧∃c,x.cps[i]?=some c∧v=.str ⟨#[c]⟩,λi _=>x.cps.size≤i⟩
theorem turn_str{P:Nk}{w:Nn}{K:Nb}{tg:Expr}{x:Str}{t:Tok}(it:Nc):X2 (Its x) [it] it (λi h=>h.IsStrIter it "str_ascii_iterator" x t i) where
 mem:=by simp
 obj:=λi h st b hb=>by rw[Qc.mp hb];obtain⟨o,e,c,d⟩:=st;exact⟨o,e,λv z=>by rw[d]at z;cases z⟩
 keep:=λi h h' st k=>let⟨o,ho,r⟩:=st;⟨o,k it Hb o ho,r⟩
 item:=by intro X hP hw hK hc i a7 s σ H E I hf st hg;subst hP hw hK;obtain⟨f0,f1,f2,f3,f4,f5⟩:=hf it Hb;have hi:i<x.cps.size:=hg;refine wpAny_pyNext_ascii_item st (c:=x.cps[i]) Ae λh' aa sb=>?_;have I1:ZA H {s with heap:=h',toks:=s.toks+1}:=I.turned (λb o hb e=>(Oy hb).trans e) f0 f1 f3 f4 f5;obtain⟨o,e,c,d⟩:=id aa;exact⟨xf,go_of (s:={s with heap:=h',toks:=s.toks+1}) e c d Hg ⟨Sw ⟨#[x.cps[i]]⟩,H,I1,⟨xf⟩,⟨rfl,_,Ae,rfl⟩,aa,λb hb=>(hf b hb).1⟩⟩
 done:=by intro X hP hw hK hc i a7 s σ H E I hf st hg;subst hP hw hK;obtain⟨f0,f1,f2,f3,f4,f5⟩:=hf it Hb;have hi:x.cps.size≤i:=hg;exact wpAny_pyNext_ascii_end SO st Ae λh' eb=>⟨rfl,I.turned (t':=s.toks) (λb o hb e=>eb b o hb e) f0 f1 f3 f4 f5⟩
 self:=λ_ _ _ _ _ st h=>wpAny_pyIter_striter_ascii st h
def iStr(tl:TE):TI:=λ σ H R=>tl σ H λv H1=>∃x:Str,v=.str x∧x.cps.all (· < 128)=true∧R (Its x) H1
def pi_str{tg l:Expr}{tl:TE}(hl:O5):JG l (iStr tl):=by intro a7 s σ H R I h;refine thn Lc λv s1 ⟨y,H1,I1,r1,q1⟩=>?_;obtain⟨x,e,ha,q⟩:=q1;subst e;obtain⟨t,rfl⟩:=r1;refine wpAny_pyIter_ascii ha ?_;refine⟨s1.heap.objs.size,[s1.heap.objs.size],_,_,H1,rfl,I1.kept (t':=s1.toks) λb o e=>QQ e,turn_str (t:=t) _,⟨_,Tc,rfl,rfl⟩,λb hb=>?_,q⟩;rw[Qc.mp hb];exact Bd TZ
def op_le_str:WH (compareOp .LtE) (λx y H Q=>Ex2 λi j=>Aj3 (x=.str i) (y=.str j) (Ca (!decide (j.cps.toList<i.cps.toList)))):=by intro a7 s σ H x y v u Q I rx ry h;obtain⟨i,j,rfl,rfl,q⟩:=h;obtain⟨t,rfl⟩:=rx;obtain⟨t',rfl⟩:=ry;exact PySem.P.le_str (QM rfl)
end
end L2
namespace L2
open PySem PySem.Spec PyProof.Rows
section
variable{X:Cx}{a7:Nd}{σ:St}{H:Hp}{s:Ni}
inductive RrNil(neg:Bool)(K:Nb)(x:V)(y:V)(H:Hp)(Q:VK):Prop
 |mk (l:_) (b:_) (xs:_) (h0:x=.ref l) (h1:y=.ref b) (h2:SqL K H l xs) (h3:SqL K H b []) (h4:Q (.bl (if neg then !xs.isEmpty else xs.isEmpty)) H):RrNil neg K x y H Q
def rNil(neg:Bool)(K:Nb):R2:=λx y H Q=>RrNil neg K x y H Q
def ze1(hu:X.A.units<cLine):WH Cy (rNil false X.K):=by
 intro a7 s σ H x y v u Q I rx ry h;obtain⟨l,b,xs,rfl,rfl,h1,h2,q⟩:=h;cases rx;cases ry;obtain⟨a8,r,pl,_⟩:=I.list h1;obtain⟨aD,r2,du,_⟩:=I.list h2;cases r2;cases r with
 |nil=>exact SeqAt.eq_listAt (e:=λ_=>true) pl.isList du.isList rfl hu (λj h1 _=>by simp at h1) ⟨Tz,H,I,rfl,q⟩
 |cons a t=>exact SeqAt.eq_list_lengthsAt pl.isList du.isList Hb hu ⟨S9,H,I,rfl,q⟩
def zgq(hu:X.A.units<cLine):QJ (rNil true X.K):=by
 intro a7 s σ H x y v u Q I rx ry h;obtain⟨l,b,xs,rfl,rfl,h1,h2,q⟩:=h;cases rx;cases ry;obtain⟨a8,r,pl,_⟩:=I.list h1;obtain⟨aD,r2,du,_⟩:=I.list h2;cases r2;cases r with
 |nil=>exact SeqAt.RcNeAt.lists (e:=λ_=>true) pl.isList du.isList rfl hu (λj h1 _=>by simp at h1) _ _ _ _ ⟨S9,H,I,rfl,q⟩
 |cons a t=>exact SeqAt.RcNeAt.lists_lengths pl.isList du.isList Hb hu _ _ _ _ ⟨Tz,H,I,rfl,q⟩
def eq_pairs(I:HI)(hu:A.units < cLine)(ha:Cj (.tup [.str x,.str y]))(hb:RU b (.tup [.str x',.str y'])) :
  SeqAt.EqAt A s Rm Io (decide ((x,y)=(x',y'))):=by
 obtain⟨_,a8,r,p⟩:=YD ha;obtain⟨_,aD,r2,p2⟩:=UX _ hb;obtain⟨u1,u2,rfl,⟨t1,rfl⟩,⟨t2,rfl⟩⟩:=vals2 r;obtain⟨w1,w2,rfl,⟨t3,rfl⟩,⟨t4,rfl⟩⟩:=vals2 r2;by_cases lB:a=b
 ·subst lB;rw[ha]at hb;cases hb;rw[decide_eq_true rfl];exact SeqAt.EqAt.same _
 have key:=SeqAt.RcAt.tuples (A:=A) (s:=s) (e:=λj=>if j=0 then x == x' else y == y') p p2 hu λj j1 j2=>by
  have jQ:j<2:=by simpa using j1
  match j,jQ with
  |0,_=>exact Ui x t1 x' t3
  |1,_=>exact Ui y t2 y' t4
 have e:((S1 (min (#[WN t1,Bq t2]:Array Value).size (#[NN t3,Value.str y' t4]:Array Value).size)).all (λj=>if j=0 then x==x' else y==y')&&(#[WN t1,Bq t2]:Array Value).size==(#[NN t3,Value.str y' t4]:Array Value).size)=decide ((x,y)=(x',y')):=by
  show((S1 2).all (λj=>if j=0 then x==x' else y==y')&&true)=_;rw[show List.range 2=[0,1] from rfl];by_cases hx:x=x'
  ·by_cases hy:y=y'
   ·simp[hx,hy]
   simp[hx,hy]
  simp[hx]
 have tu:SeqAt.RcAt A s Rm Io (decide ((x,y)=(x',y'))):=e▸key;exact SeqAt.EqAt.of_refs lB tu
inductive RrInP(neg:Bool)(K:Nb)(x:V)(y:V)(H:Hp)(Q:VK):Prop
 |mk (a p:Nc) (q:Str×Str) (as:Nl) (qs:Nt) (h0:x=.ref a) (h1:y=.ref p) (h2:H a=some (.tup [.str q.1,.str q.2])) (h3:SqL K H p (as.map V.ref)) (h4:Paired (λb (r:Str×Str)=>H b=some (.tup [Iv,Iw])) as qs) (h5:Ca (if neg then !decide (q∈qs) else decide (q∈qs))):FU Q
def rInP(neg:Bool)(K:Nb):R2:=λx y H Q=>FU Q
def in_pairs(I:HI)(hu:X.A.units+1 < cLine)(ha:Cj (.tup [.str q.1,.str q.2]))(rv:DT a8)(pq:Paired (λb (r:Str×Str)=>H b=some (.tup [Iv,Iw])) as qs):∃e:Value→Bool,(∀y∈a8,SeqAt.EqAt X.A.in1 s y Rm (e y))∧a8.any e=decide (q∈qs):=by
 refine⟨λv=>match v with | .ref b=>(match H b with|some (.tup [.str x,.str y])=>decide ((x,y)=q)|_=>false)|_=>false,?_,?_⟩
 ·intro y hy;obtain⟨b,hb,rb⟩:=zge rv y hy;obtain⟨c,hc,rfl⟩:=Qf.mp hb;cases rb;obtain⟨i,hi,ei⟩:=Ze hc;obtain⟨r,_,hr⟩:∃r,r∈qs∧H c=some (.tup [Iv,Iw]):=by
   clear rv hy hb hi ei i;induction pq with
   |nil=>cases hc
   |cons h t ih=>
    rcases Qj.mp hc with z|z
    ·subst z;exact⟨_,Qd,h⟩
    obtain⟨r,h1,h2⟩:=ih z;exact⟨r,QL h1,h2⟩
  dsimp only;rw[hr];exact eq_pairs I (by show X.A.units+1<cLine;exact hu) hr ha
 induction pq generalizing a8 with
 |nil=>cases rv;simp
 | cons h t ih=>
  cases rv with
  | cons r1 r2=>
   cases r1;rw[Xh,ih r2];dsimp only;rw[h];rename_i r _ rs _;have:decide (q∈r::rs)=(decide ((r.1,r.2)=q)||decide (q∈rs)):=by
    rw[Yn];simp only[decide_eq_true_eq,Qj,Jd];constructor
    ·rintro (z|z)
     ·exact .inl z.symm
     exact .inr z
    rintro (z|z)
    ·exact .inl z.symm
    exact .inr z
   rw[this]
def zhn(hu:X.A.units+1<cLine):WH CP (rInP true X.K):=by intro a7 s σ H x y v u Q I rx ry h;obtain⟨a,p,q,as,qs,rfl,rfl,ha,hq,pq,q'⟩:=h;cases rx;cases ry;obtain⟨a8,r,pl,_⟩:=I.list hq;obtain⟨e,h1,h2⟩:=in_pairs I hu ha r pq;refine SeqAt.notIn_listAt e pl.isList (λw hw=>h1 w zb) ⟨.bl _,H,I,?_,q'⟩;show Value.bool (!(a8.toArray.any e))=_;rw[show a8.toArray.any e=a8.any e by simp,h2];rfl
theorem argBest_lt:∀k,argBest bt k≤k
 |0=>Qi _
 |k+1=>by
  show(if bt (k+1) (argBest bt k)=true then k+1 else argBest bt k)≤k+1;split
  ·exact Qi _
  exact Xy (argBest_lt k)
theorem zdm(f:Nat→List Nat):∀k j,j≤k→¬f j<f (argBest (λi j=>decide (f i<f j)) k)
 |0,j,h=>by
  have:j=0:=by lia
  subst this;exact Ux _
 | k+1,j,h=>by
  show ¬f j<f (if decide (f (k+1)<f (argBest (λi j=>decide (f i<f j)) k))=true then k+1 else argBest (λi j=>decide (f i<f j)) k);by_cases ae:f (k+1)<f (argBest (λi j=>decide (f i<f j)) k)
  ·rw[Sk (Rh ae)];by_cases hj:j=k+1
   ·subst hj;exact Ux _
   intro z;exact zdm f k j Hc (List.lt_trans z ae)
  rw[Sz (Hd ae)];by_cases hj:j=k+1
  ·subst hj;exact ae
  exact zdm f k j Hc
def ze9(hc:X.calm=true):YH (.builtin "min") (λxs H Q=>Ex2 λ(p:Nc) (zs:Ng)=>Aj4 (xs=[TR]) (QT p Sb) (zs≠[]) (∀z∈zs,(∀y∈zs,leS z y)→Q CO H)):=by
 intro a7 s σ H xs us Q I r h;obtain⟨p,zs,rfl,hq,az,q⟩:=h;obtain⟨u,rfl,rx⟩:=vals1 r;cases rx;have bY:0<zs.length:=Ub.mpr az;refine call_min_walk (zig hc I hq λa8 It h1 rv W st lt keep=>⟨It,_,_,_,_,_,λi j=>decide ((SI i).cps.toList<(SI j).cps.toList),rfl,W,st,lt,?_,λi j vi vj s' Q' E' hi hj ki=>?_,λv h' tk hv k=>?_⟩)
 ·have:=rv.length;rw[Qa]at this;rw[Qt];exact zar7 ‹_› ‹_›
 ·have gs:∀ (i:Nat) (v:Value),a8.toArray[i]?=some v→∃ t,v=.str (SI i) t:=λi v e=>by
   have e':a8[i]?=some v:=by simpa using e
   have hi:i<a8.length:=(Cm e').1;have hl:=rv.length;rw[Qa]at hl;have aB:i<zs.length:=by exact zar6 ‹_› ‹_›
   obtain⟨u,e2,t,e3⟩:=rv.get (i:=i) (x:=.str zs[i]) (Sa aB);rw[e']at e2;cases e2;exact⟨t,by rw[e3];simp[List.getD,aB]⟩
  obtain⟨t1,rfl⟩:=gs i vi hi;obtain⟨t2,rfl⟩:=gs j vj hj;exact lt_str ki
 have hl:=rv.length;rw[Qa]at hl;have hk:=argBest_lt (bt:=λi j=>decide ((SI i).cps.toList<(SI j).cps.toList)) (a8.toArray.size-1);generalize hb:argBest (λi j=>decide ((SI i).cps.toList<(SI j).cps.toList)) (a8.toArray.size-1)=b at hv hk;have eT:b<zs.length:=by rw[Qt]at hk;lia
 have bD:a8[b]?=some v:=by simpa using hv
 obtain⟨u,e2,t,e3⟩:=rv.get (i:=b) (x:=.str zs[b]) (Sa eT);rw[bD]at e2;cases e2;refine⟨.str zs[b],H,Fd k,⟨t,e3⟩,q _ (Qq eT) λy hy=>?_⟩;obtain⟨j,hj,ej⟩:=Ze hy;have:=zdm (λi=>(SI i).cps.toList) (a8.toArray.size-1) j (HG Qt);rw[hb]at this;have g1:zs.getD b Str.empty=zs[b]:=by simp[List.getD,eT]
 have g2:zs.getD j Str.empty=y:=by simp[List.getD,hj,ej]
 rw[g1,g2]at this;exact this
end
section
variable{X:Cx}
def zfy:YH (.type "dict") (λxs H Q=>Ex2 λ(d:Nc) (kvs:Tn (Key×V))=>Aj3 (xs=[OY]) Pk (∀l,H l=none→Q Tb (ZS l Rg))):=by intro a7 s σ H xs us Q I r h;obtain⟨d,kvs,rfl,hq,q⟩:=h;obtain⟨u,rfl,rx⟩:=vals1 r;cases rx;obtain⟨z,lo,vs,ep,rk,ha,hl⟩:=VY hq;refine kt_call_dict lo ha.dictOf (Hm hl z) λh' hd sb=>?_;have lt:d<s.heap.objs.size:=ha.lt_size;have k:∀b o,s.heap.get? b=some o→h'.get? b=some o:=λb o e=>(sb.2 b Cw).trans Cz;have nS:(s.heap.objs.size==sysModules)=false:=beq_eq_false_iff_ne.mpr (Yo I.big);exact⟨Hf _,_,I.laid (t':=s.toks) k HM (show ZY _ h' _ Rg from⟨z,nS,vs,rk,hd⟩),rfl,AC⟩
def eqV_self{x:V}(f:zd6 x=true):eqV x x=true:=by
 cases x with
 |non=>rfl
 |bl b=>exact beq_self_eq_true b
 |int i=>exact beq_self_eq_true i
 |str z=>exact beq_self_eq_true z
 |_=>cases f
def KV.value{kvs:List (Key×V)}{vs:List (Key×Value)}(r:YW vs){k:Key}{v:V}(nd:(kvs.map (·.1)).Nodup)(h:(k,v)∈kvs):∃ y,valueAt vs k=some y∧YV y:=by
 induction r with
 |nil=>cases h
 | @cons p q ps qs e t ih=>
  rw[Ql,Qw]at nd;rcases Qj.mp h with z|z
  ·refine⟨q.2,?_,?_⟩
   ·unfold valueAt;rw[Wp (by rw[←e.1,←z];simp)];rfl
   have:=e.2;rw[←z]at this;exact this
  obtain⟨y,h1,h2⟩:=ih nd.2 z;refine⟨y,?_,h2⟩;have ne:p.1≠k:=λw=>nd.1 (by rw[w];exact Qf.mpr ⟨_,z,rfl⟩);unfold valueAt at h1 ⊢;rw[Wq (by rw[←e.1];simpa using ne)];exact h1
end
end L2
namespace DictR
open PySem PyProof.Rows PySem.Spec
def zg2:typeLookup (.type "list") "keys" = pure none:=am_miss_of_fast Hz
section
variable{prog:Nk}{w:Nn}{A:Np}{E:Na}{s:Ni}
def no_keys{a:Nc}{xs:Array Value}{k:Nat}{sl:Array LM}{Q:Option Value→Shared→Prop}(hx:s.heap.get? a=some {cls:=.type "list",dict:=none,data:=.seq xs k,slots:=sl})(hA:A.handled=none)(h:∀g tk,HF→Q none {s with heap:=g,toks:=tk}):ZG (getAttr? Rm "keys") Q E s:=by
 obtain⟨hp,g,d,tk,os⟩:=s;have hT:∀t',(⟨hp,g,d,t',os⟩:Shared).TypeIs Rm "list" :=λ_=>⟨_,hx,rfl⟩;have f1:=sub_AttributeError;have f3:=F.slot_list_getattribute.lookup;have f4:=F.slot_list_getattribute.bind Rm;have f5:=am_list_getattr_none;unfold getAttr? getAttrBy? getAttrBy
 repeat(any_goals (first|assumption|exact hT _|((with_reducible show ZQ _ (call (Value.builtin "list.__getattribute__") _ _) _ _ _);refine call_meets F.slot_list_getattribute (hT _) am_entry_list_getattribute (F.args_list_getattribute_2 _ _) (meets_getattribute_miss_list a xs k sl "keys" _ zg2 Hz Hz) ⟨hx,hA,λh' nh e bh=>?_⟩)|wp_step))
 obtain⟨t',u',he⟩:=bh.there;show ZQ _ IA _ _ _;unfold getattributeRaised
 repeat(any_goals (first|assumption|wp_step))
 exact h h' nh bh.keeps
def entry_loop:entryFor table "dict.update.loop" = some Builtin.«dict.update.loop»:=entryFor_of_tree (by kernel_rfl)
def plain_loop:plainId "dict.update.loop" = true:=by decide+kernel
structure Row(K:Type) where
 a:Addr
 o:Obj
 k:K
 key:Value
 val:Value
 n:Nat
end
section
variable{prog:Nk}{w:Nn}{A:Np}{E:Na}{s:Ni} {K:Type}[DecidableEq K]{knd:KeyKind prog w K}
def RowAt(knd:KeyKind prog w K)(h:No)(r:Row K):Prop:=h.get? r.a=some r.o∧r.o.cls=.type "tuple" ∧ r.o.data=.seq #[r.key,r.val] r.n∧knd.is r.k r.key=true
def stored_new{kvs:List (K×Value)}(h:k∉kvs.map (·.1)):stored kvs k v=kvs++[(k,v)]:=by unfold stored;rw[if_neg];intro z;obtain⟨p,hp,e⟩:=Yv.mp z;exact h (Ob ⟨p,hp,Te e⟩)
def loop{R:Nx}{I l:Nc}(hh:A.handled=none)(rows:Tn (Row K))(d:Nc)(vf:d≠I)(gW:d≠l)(hlI:l≠I)(hr:∀ r∈rows,r.a≠d∧r.a≠I)(nd:(rows.map (·.k)).Nodup)(hz:rows.length≤sizeLine) :
  ∀(m i:Nat) (s:Ni),rows.length-i=m→i≤rows.length→s.heap.IsListIter I l i→s.heap.IsList l (rows.map λr=>Value.ref r.a).toArray→(∀r∈rows,Gs r)→s.heap.DictOf knd d ((rows.take i).map λr=>(r.k,r.val)) →
   (∀g tk,(∀b o,b≠d→b≠I→s.heap.get? b=some o→g.get? b=some o)→g.DictOf knd d (rows.map λr=>(r.k,r.val))→R (.ok Ey) {s with heap:=g,toks:=tk}) →
   codeAny HH A (.builtin "dict.update.loop" ⟨[OY,Hf I,CG i,.none],[]⟩) R s:=by
 intro m;induction m with
 |zero=>
  intro i s hm hi st hl hR hd hQ;obtain rfl:i=rows.length:=by lia
  refine codeAny_builtin entry_loop ?_;rw[Wt plain_loop _];show ZQ A.in1 (pyNext (Hf I) >>= _) _ _ s;refine wpAny_bind (wpAny_pyNext_list_end (show A.in1.handled=none from hh) st hl Hb λg eb=>?_);show ZQ A.in1 (Mf [] >>= λ_=>ret Value.none) _ _ _;refine wpAny_bind (show ZQ A.in1 (pure ()) _ _ _ from wpAny_pure (wpAny_pure (hQ g s.toks (λb o _ hb e=>eb b o hb e) ?_)));rw[Qr HM]at hd;exact hd.extBut eb vf
 | succ m ih=>
  intro i s hm hi st hl hR hd hQ;have lt:i<rows.length:=by lia
  obtain⟨e1,e2,e3,e4⟩:=hR rows[i] (Qq lt);obtain⟨n1,n2⟩:=hr rows[i] (Qq lt);refine codeAny_builtin entry_loop ?_;rw[Wt plain_loop _];show ZQ A.in1 (pyNext (Hf I) >>= _) _ _ s;refine wpAny_bind (Bn hl (x:=.ref rows[i].a) (Sa lt) λg aa sb=>?_);have k1:∀b o,b≠I→s.heap.get? b=some o→g.get? b=some o:=λb o hb e=>(Oy hb).trans e;have pM:g.DictOf knd d ((rows.take i).map λr=>(r.k,r.val)):=hd.sameBut sb vf;refine wpAny_bind (wpAny_holding ?_);refine wpAny_bind (wpAny_tryCatch ?_);show ZQ A.in1 (Builtin.Dict.pairItems (.ref rows[i].a)) _ _ _;unfold Builtin.Dict.pairItems;refine wpAny_bind (wpAny_typeOf (T:= "tuple") ⟨_,k1 _ _ n2 e1,e2⟩ ?_);rw[if_pos Hg];refine wpAny_bind (wpAny_seqItems (k1 _ _ n2 e1) e3 RM);show ZQ A.in1 (holding [rows[i].key,rows[i].val] (dictSet d rows[i].key rows[i].val)) _ _ _;have nk:rows[i].k∉((rows.take i).map λr=>(r.k,r.val)).map (·.1):=by
   rw[Zc];intro q;obtain⟨r,aP,bQ⟩:=Qf.mp q;obtain⟨j,hj,ej⟩:=Ze aP;rw[Za]at hj;rw[Ja]at ej;have cG:j<rows.length:=by lia
   have:(rows.map (·.k))[j]'(Hd cG)=(rows.map (·.k))[i]'(Hd lt):=by rw[Zp,Zp,ej];exact bQ
   have:=(Wm nd).mp this;lia
  refine wpAny_holding (wpAny_dictSet_pairs (knd:=knd) e4 pM (λg2 pL dm=>?_) (by rw[Qa,Za];lia));rw[stored_new nk]at pL;have jx:g2.DictOf knd d ((rows.take HY).map λr=>(r.k,r.val)):=by rw[Qk lt,Qp];exact pL
  have k2:∀b o,b≠d→b≠I→s.heap.get? b=some o→g2.get? b=some o:=λb o hJ eT e=>(dm.2 b hJ).trans (k1 b o eT e);have hc:((i:Int)+1)=((i+1:Nat):Int):=by push_cast;rfl
  refine wpAny_pure ⟨AE,?_⟩;rw[hc];refine ih HY _ Hc lt ?_ ?_ (λr oA=>?_) jx λg3 sj k3 cp=>?_
  ·obtain⟨o,q,z⟩:=aa;exact⟨o,(dm.2 I (Zd vf)).trans q,z⟩
  ·obtain⟨o,q,z⟩:=hl;exact⟨o,k2 l o (Zd gW) hlI q,z⟩
  ·obtain⟨q1,q2⟩:=hR r oA;exact⟨k2 _ _ (hr r oA).1 (hr r oA).2 q1,q2⟩
  exact hQ g3 sj (λb o hJ eT e=>k3 b o hJ eT (k2 b o hJ eT e)) cp
def call{l:Nc}{rows:List (Row K)}{Q:Na}{xk:Nat}(hh:A.handled=none)(hl:s.heap.get? l=some {cls:=.type "list",data:=.seq (rows.map λr=>Value.ref r.a).toArray xk})(hR:∀r∈rows,Gs r)(nd:(rows.map (·.k)).Nodup)(hz:rows.length≤sizeLine)(h:∀g tk,g.DictOf knd s.heap.objs.size (rows.map λr=>(r.k,r.val))→HF→Q Hr {s with heap:=g,toks:=tk}) :
  wpAny HH A (call (.type "dict") [Tb]) Q E s:=by
 refine callType_codes (Q₁:=λobj s₁=>obj=.ref s.heap.objs.size∧s₁={s with heap:=s.heap.push {cls:=.type "dict",data:=.dict #[]}}) PySem.F.kt_called_dict OX PySem.F.entry_dict_init (kt_code_dict_new _ ⟨rfl,rfl⟩) ?_;rintro obj s₁ ⟨rfl,rfl⟩;have bo:(s.heap.push {cls:=.type "dict",data:=.dict #[]}).DictOf knd s.heap.objs.size []:=Heap.DictOf.new s.heap;refine⟨bo.typeIs,Mh _,?_⟩;unfold Builtin.«dict.__init__»;refine wpAny_bind ?_;unfold Builtin.Dict.selfAndRest;refine wpAny_bind (Vi (show ZQ _ (pure (s.heap.objs.size,[Lg l])) _ _ _ from wpAny_pure ?_));show ZQ _ (Builtin.Dict.updateFrom "dict.__init__" s.heap.objs.size Tb [] .none) _ _ _;unfold Builtin.Dict.updateFrom;have ax:(s.heap.push {cls:=.type "dict",data:=.dict #[]}).get? l=some {cls:=.type "list",data:=.seq (rows.map λr=>Value.ref r.a).toArray xk}:=QQ hl;refine wpAny_bind (wpAny_typeOf (T:= "list") ⟨_,ax,rfl⟩ ?_);rw[if_pos Hg];refine wpAny_bind (no_keys ax (by first|exact hh|(show A.handled=none;exact hh)) λg tk kg=>?_);simp only[Option.isNone_none,if_true];refine wpAny_bind (wpAny_rule ?_);have ltl:l<s.heap.objs.size:=Qu hl;have dg:g.DictOf knd s.heap.objs.size []:=by obtain⟨o,es,ep,q,z⟩:=bo;exact⟨o,es,ep,kg _ _ q,z⟩
 have hlg:g.IsList l (rows.map λr=>Value.ref r.a).toArray:=⟨_,kg _ _ ax,rfl,xk,rfl⟩;have ltd:s.heap.objs.size<g.objs.size:=by obtain⟨o,es,ep,q,z⟩:=dg;exact Qu q
 have lts:∀b o,s.heap.get? b=some o→b≠s.heap.objs.size∧b≠g.objs.size:=λb o e=>⟨Cw,Zi (Ww (Qu e) ltd)⟩;refine wpAny_bind (wpAny_pyIter_list (s:={s with heap:=g,toks:=tk}) hlg (RP ⟨AE,?_⟩));refine loop (knd:=knd) (I:=g.objs.size) (l:=l) (by first|exact hh|(show A.handled=none;exact hh)) rows s.heap.objs.size (Zi ltd) (Yo ltl) (Zi (Ww ltl ltd)) (λr hr=>lts r.a r.o (hR r hr).1) nd hz _ 0 _ rfl Tq ⟨_,Tc,rfl,rfl⟩ ?_ (λr hr=>?_) ?_ λg2 lN k2 hd=>?_
 ·obtain⟨o,q,z⟩:=hlg;exact⟨o,QQ q,z⟩
 ·obtain⟨q1,q2⟩:=hR r hr;exact⟨QQ (kg _ _ (QQ q1)),q2⟩
 ·exact dg.push _
 exact⟨rfl,h g2 lN hd λb o e=>k2 b o (lts b o e).1 (lts b o e).2 (QQ (kg _ _ Cz))⟩
end
end DictR
namespace L2
open PySem PySem.Spec PyProof.Rows
section
variable{X:Cx}
abbrev RowsAt(H:Hp):List Addr→List (Str×V)→Prop:=Paired λa p=>H a=some (.tup [.str p.1,p.2])
theorem rows_of(I:HI):∀{as:Nl} {ps:List (Str×V)},RowsAt H as ps →
  ∃rows:List (DictR.Row Key),rows.map (·.a)=as∧(∀r∈rows,DictR.RowAt Ta s.heap r)∧rows.map (·.k)=ps.map (λp=>Sum.inr p.1)∧KV (ps.map λp=>((Sum.inr p.1:Key),p.2)) (rows.map λr=>(r.k,r.val))
 |_,_,.nil=>⟨[],rfl,λr hr=>(by cases hr),rfl,.nil⟩
 |a::as,p::ps,.cons h t=>by
  obtain⟨rows,e1,e2,e3,e4⟩:=rows_of I t;obtain⟨_,a8,r,o,q,c,n,d⟩:=YD h;obtain⟨u,w',rfl,⟨tk,rfl⟩,rz⟩:=vals2 r;refine⟨⟨a,o,yD,.str p.1 tk,w',n⟩::rows,by rw[Ql,e1],λx hx=>?_,by rw[Ql,Ql,e3],.cons ⟨rfl,rz⟩ e4⟩;rcases Qj.mp hx with z|z
  ·subst z;exact⟨q,c,d,zeg _ _ _ _⟩
  exact e2 x z
def zcd(hc:X.calm=true):YH (.type "dict") (λxs H Q=>Ex3 λ(p:Nc) (as:Nl) (ps:Tn (Str×V))=>Aj5 (xs=[TR]) (RU p (Hv (as.map V.ref))) (RowsAt H as ps) ((ps.map (·.1)).Nodup) (∀ l,H l=none→Q Tb (ZS l (.dK (ps.map λp=>((Sum.inr p.1:Key),p.2)))))):=by
 intro a7 s σ H xs us Q I r h;obtain⟨p,as,ps,rfl,hp,hr,nd,q⟩:=h;obtain⟨u,rfl,rx⟩:=vals1 r;cases rx;obtain⟨hz,a8,n,rv,hl,e⟩:=I.lstM hp;obtain⟨rows,e1,e2,e3,e4⟩:=rows_of I hr;have eits:a8=rows.map λr=>Value.ref r.a:=by
  have dk:=e1;clear hz hl e hp e4 e3 e2 hr e1 q;induction rows generalizing as a8 with
  |nil=>subst dk;cases rv;rfl
  | cons r rs ih=>
   cases as with
   |nil=>cases dk
   |cons a as=>
    rw[Ql]at dk rv;injection dk with h1 h2;cases rv with
    |cons r1 r2=>cases r1;rw[Ql,h1,ih _ _ r2 h2]
 subst eits;have ad:rows.length≤sizeLine:=by rw[Qa]at hz hl;rw[Qa]at hl;exact zd9 ‹_› ‹_›
 have ndk:(rows.map (·.k)).Nodup:=by rw[e3,show(λp:Str×V=>(Sum.inr p.1:Key))=(Sum.inr:Str→Key)∘(λp:Str×V=>p.1) from rfl,←Zc];exact Ba _ (λa b z q=>z AY) nd
 refine DictR.call (knd:=Z0 X.w) (rows:=rows) (xk:=n) SO e e2 ndk ad λg tk hd k=>?_;have nS:(s.heap.objs.size==sysModules)=false:=beq_eq_false_iff_ne.mpr (Yo I.big);refine⟨Hf _,_,I.laid (t':=tk) k HM (show ZY _ g _ (.dK _) from⟨?_,nS,_,e4,hd⟩),rfl,AC⟩;have:=Zh e4;rw[Qa,Qa]at this;rw[Qa];lia
def zjp{prog:Nk}{w:Nn}{A:Np}{s:Ni}{kx vx target iter:Expr}{ifs:Nr}{scope:Scope}{pos:Pos}{it:Value}{D:Nc}{env:Env}{R:Nx}(I:Nat→Shared→Prop)(turn:∀ n s,I n s→wpAny (model prog w) A (pyNext it) (λr s₁=>match r with
   |none=>R yd s₁
   | some v=>ZG Pa (λ_ s₁'=>ZG zN (λ_ s₂=>
     wpAny HH A (forIn ifs true λc r=>if r=true then do let ok ←isTrue c env (Ep c);pure (SB ok) else pure (SB r)) (λok s₃=>
      if ok=true then ZG (Ep kx) (λkv s₄=>ZG (Ep vx) (λvv s₅=>wpAny HH A (dictSet D kv vv) (λ_ s₆=>∃m,m<n∧I m s₆) (λ_ _=>False) s₅) (λ_ _=>False) s₄) (λ_ _=>False) s₃
      else ∃m,m<n∧I m s₃) (λ_ _=>False) s₂) (λ_ _=>False) s₁') (λ_ _=>False) s₁) (λ_ _=>False) s)(n:Nat)(h:I n s):codeAny HH A (.compLoop (.DictComp kx vx [⟨target,iter,ifs,0⟩] scope pos) 0 it Sv env) R s:=by
 refine codeAny_loop rfl I (λn s hI=>?_) n h;show ZQ A ((compTurn (.DictComp kx vx [⟨target,iter,ifs,0⟩] scope pos) 0 it Sv env).onRaise (λx=>do noteFrame x env;theTreesLotGoes x)) _ _ s;refine wpAny_noted ?_;rw[compTurn_dict];refine wpAny_bind (wpAny_standAt (wpAny_bind (MR (λr s₁ h₁=>?_) λ_ _ h'=>h'.elim)));cases r with
 |none=>exact wpAny_pure h₁
 |some v=>
  refine wpAny_bind (VJ (λ_ s₁' h₁'=>?_) λ_ _ h'=>h'.elim);refine wpAny_bind (Gn (λ_ s₂ h₂=>wpAny_bind (VL (λok s₃ h₃=>?_) λ_ _ h'=>h'.elim)) λ_ _ h'=>h'.elim);cases ok with
  |false=>exact wpAny_pure ⟨rfl,h₃⟩
  |true=>exact wpAny_bind (wpAny_bind (wpAny_mono h₃ (λkv s₄ h₄=>wpAny_bind (wpAny_holding (wpAny_mono h₄ (λvv s₅ h₅=>wpAny_bind (wpAny_standAt (wpAny_holding (wpAny_mono h₅ (λ_ s₆ h₆=>wpAny_pure ⟨rfl,h₆⟩) λ_ _ h'=>h'.elim)))) λ_ _ h'=>h'.elim))) λ_ _ h'=>h'.elim))
variable{sc:Scope}{M:Ng}{ix:Nv}{a7:Nd}{σ:St}{H:Hp}{s:Ni}
def rDC(g:TG)(tc:TT)(tk tv:TE)(Q:VK)(J:It)(τ:St)(H1:Hp):Prop:=∃W:Nat→Nat→List (Key×V)→St→Hp→Prop,(∃m,W 0 m [] τ H1)∧∀i m ys τ H,W i m ys τ H →
 (V5 H∧∀D,H D=none→Q Sv (ZS D yh)) ∨
 (D7 H∧ys.length<sizeLine∧∀x H',XE H'→g x τ H' λ τ2 H2=>tc τ2 H2 λb H3=>if b=true then tk τ2 H3 λkv H4=>tv τ2 H4 λy H5=>∃k,kv=kV k∧∃m',m'<m∧W HY m' (putK ys k y) τ2 H5 else ∃m',m'<m∧W HY m' ys τ2 H3)
def tDC(ix:Nv)(wi:TI)(g:TG)(tc:TT)(tk tv:TE):TE:=λ σ H Q=>wi σ H λJ H1=>Mi H1
def dc_block{tg kx vx iter:Expr}{ifs:Nr}{pos:Pos}{g:TG}{tc:TT}{tk tv:TE}{fp:Nl}{it:Nc}{tn:Nat→Heap→Prop}{J:It}{Q:VK}{RR:Value→Addr→Result→Shared→Prop}{E:Na}(B:Y0 ix)(hc:X.calm=true)(hg:∀C ex s H,J4 g)(ht:∀C ex s H,UZ tc)(hk:∀C ex s H,J8 kx tk)(he:∀C ex s H,J8 vx tv)(I:HI)(T:JB tn)(h0:PL)(hf:∀b∈fp,QK b)(q:Mi H)(lD:∀D C m ys H' s',ZA (UB D yh) s'→Q Sv (UB D yh)→s'.heap.Ns C m→UB D yh C=none→s.heap.objs.size<C→RR Sv C yd s') :
  wpAny Hk X.A newDict (λai s₃=>ZE Ry (λcenv s₄=>codeAny Hk X.A (.compStart (.DictComp kx vx [⟨tg,iter,ifs,0⟩] sc pos) 0 SW ai {cenv with scope:=relabel sc X.env}) CC s₄) E s₃) E s:=by
 refine wpAny_newObj_type (wpAny_newFunctionEnv B.nocell (by intro y hy;simp at hy) (λh₁ hns₁ hsb₁=>?_) B.kind);dsimp only at hns₁ hsb₁ ⊢;generalize hD:s.heap.objs.size=D at hns₁ hsb₁ ⊢;generalize fk:s.heap.push {cls:=.type "dict",dict:=none,data:=.dict #[]}=g2 at hns₁ hsb₁ ⊢;have hC:g2.objs.size=D+1:=by rw[←fk,Ut,hD]
 have k2:∀b o,s.heap.get? b=some o→g2.get? b=some o:=λb o e=>by rw[←fk];exact QQ e
 have I3:ZA H {s with heap:=g2}:=I.kept (t':=s.toks) k2;have HD:H D=none:=I.hok.fresh Pt;have fD:QK D:=I.fpOk Pt HD;have D2:g2.get? D=some {cls:=.type "dict",dict:=none,data:=.dict #[]}:=by rw[←fk,←hD];exact UE rfl
 have nS:(D==sysModules)=false:=beq_eq_false_iff_ne.mpr (by rw[←hD];exact Yo I.big);have k1:∀b o,g2.get? b=some o→h₁.get? b=some o:=λb o e=>by have hb:b≠g2.objs.size:=Zi (Qu e);exact(hsb₁.2 b hb).trans Cz
 have DN:h₁.DictOf Ta D []:=by
  have q:g2.DictOf Ta D []:=by rw[←fk,←hD];exact Heap.DictOf.new s.heap
  obtain⟨o,es,ep,e,r⟩:=q;exact⟨o,es,ep,k1 _ _ e,r⟩
 have fpx:∀b∈D::fp,QK b:=λb hb=>by
  rcases Qj.mp hb with e|e
  ·rw[e];exact fD
  exact hf b e
 have fplt:∀b∈D::fp,b<g2.objs.size:=λb hb=>by
  rcases Qj.mp hb with e|e
  ·rw[e,hC];exact Wa _
  obtain⟨o,q,_⟩:=WW h0 b e;exact Qu (k2 b o q)
 have fpD:D∉fp:=λhm=>by obtain⟨o,q,_⟩:=WW h0 D hm;have:=Qu q;rw[hD]at this;exact Wj _ this
 generalize ao:zcs X sc M g2.objs.size a7 (D::fp) {s with heap:=g2} H=Y;have IY:JX [] Oz H {s with heap:=h₁,toks:=s.toks+([]:List (Str×Value)).length}:=by rw[←ao];exact inv_blk B I3 fpx fplt rfl hns₁ k1 rfl rfl
 have Yg:=ao▸hg g2.objs.size (D::fp) {s with heap:=g2} H;have Yt:=ao▸ht g2.objs.size (D::fp) {s with heap:=g2} H;have Yk:=ao▸hk g2.objs.size (D::fp) {s with heap:=g2} H;have Ye:=ao▸he g2.objs.size (D::fp) {s with heap:=g2} H;have eP:Y.prog=X.prog:=by rw[←ao];rfl
 have eW:Y.w=X.w:=by rw[←ao];rfl
 have eK:Y.K=X.K:=by rw[←ao];rfl
 have eA:Y.A=X.A:=by rw[←ao];rfl
 have eC:Y.calm=true:=by rw[←ao];exact hc
 have eE:Y.env=compEnvC sc Ld g2.objs.size X.env:=by rw[←ao];rfl
 have eX:Y.xe=λ_ _=>False:=by rw[←ao];rfl
 have eEx:Y.ex=D::fp:=by rw[←ao];rfl
 have eFs:Y.fs=frs X.stack:=by rw[←ao];rfl
 have ePn:Y.pn=X.pn++a7:=by rw[←ao];rfl
 have eL:Y.env.locals=g2.objs.size:=by rw[eE];rfl
 have qj:Y.H₀=H:=by rw[←ao];rfl
 have jE:Y.s₀={s with heap:=g2}:=by rw[←ao];rfl
 have fY:∀{H':Hp} {pl:Nd} {b:Nc},b∈D::fp→H' b=none→(∀p∈pl,p.1≠b)→NK pl H' b:=λ{H' pl b} hb hn hp=>by
  obtain⟨f0,f1,f2,f3,f4,f5⟩:=fpx b hb;refine⟨hn,?_,?_,.inl CZ,Dl CZ |>.2,λp df=>?_⟩
  ·rw[eL];exact Zi ye
  ·rw[eFs];intro z;rcases Qj.mp (Dm z) with q|q
   ·exact f1 q
   exact f2 q
  rw[ePn]at df;rcases Qe.mp df with z|z
  ·exact f5 p z
  exact hp p z
 obtain⟨W,⟨m0,w0⟩,turn⟩:=q;have loop:∀ sN:Shared,sN={ s with heap:=h₁,toks:=s.toks+([]:List (Str×Value)).length } →
   codeAny Hk X.A (.compLoop (.DictComp kx vx [⟨tg,iter,ifs,0⟩] sc pos) 0 SW Sv (compEnvC sc Ld g2.objs.size X.env)) E1 sN:=by
  rintro sN rfl;refine zjp (λn s'=>Ex5 λi τ H' ys vs=>Aj7 (JX [] τ H' s') EW (∀b∈D::fp,H' b=none) (s'.heap.DictOf Ta D vs) (KV ys vs) (ys.length≤sizeLine) OV) ?_ m0
   ⟨0,Oz,H,[],[],IY,QW h0 λb _ o e=>k1 b o Ew,λb hb=>(fpx b hb).1,DN,.nil,Tq,w0⟩
  rintro n s5 ⟨i,τ,H5,ys,vs,I5,t5,n5,dd5,v5,z5,w5⟩;obtain⟨o5,lG,vQ,d5,rO⟩:=id dd5;have nc5:∀v,o5.data≠.cell v:=λv z=>by obtain⟨_,q,_⟩:=rO;rw[q]at z;cases z
  have oD:∀b∈[D],∃o,s5.heap.get? b=some o∧∀v,o.data≠.cell v:=λb hb=>by rw[Qc.mp hb];exact⟨_,d5,nc5⟩
  have hZ:JX ([]++zb4 [D] s5.heap) τ H5 s5:=I5.pinned (λb hb=>fY (by rw[Qc.mp hb];exact Qd) (n5 b (by rw[Qc.mp hb];exact Qd)) Hb) oD;have pD:∀p∈zb4 [D] s5.heap,p.1=D∧p.2=o5:=λp hp=>by obtain⟨e1,e2⟩:=ze2 hp;have dk:p.1=D:=Qc.mp e1;rw[dk,d5]at e2;exact⟨dk,(Qn e2).symm⟩
  have fN:∀{H':Hp},(∀b∈fp,H' b=none)→∀b∈fp,NK ([]++zb4 [D] s5.heap) H' b:=λhn b hb=>fY LP zO λp hp z=>by rw[Jq]at hp;rw[(pD p hp).1]at z;exact fpD (z▸hb)
  rcases K8 w5 with⟨stop,qn⟩|⟨go,zl,step⟩
  ·have h6:=UT (λ_ _=>False) hZ (fN λb hb=>n5 b LP) t5 stop;rw[eA]at h6;refine thn h6 λr s6 ⟨hr,I6⟩=>?_;subst hr;have d6:s6.heap.get? D=some o5:=by have hp:=zbl (fp:=[D]) TL d5;exact(I6.pin (D,_) (YG hp)).1
   have H5D:H5 D=none:=n5 D Qd;obtain⟨mL,nL,_⟩:=I6.loc;rw[eL]at nL;have CD:g2.objs.size≠D:=by rw[hC];exact Nat.succ_ne_self _
   refine lD D _ mL ys H5 s6 ?_ (qn D H5D) nL ?_ (by rw[hC,hD];exact Wa _)
   ·have u6:=I6.base;rw[eFs,eEx,qj,jE]at u6;refine I3.call' (ch:=D::fp) (I6.os.trans (by rw[jE])) ⟨u6.keep,u6.slot,λb o e n hx=>?_,u6.there,λb xs e=>?_,λb o u e=>?_,λb ps e=>?_⟩ ?_ I6.bare λb hb=>?_
    ·rw[zaf (λz=>hx AJ)];exact u6.free b o e n hx
    ·rw[zaf Ex];exact u6.tups b xs e
    ·rw[zaf Ex];exact u6.frzs b o u e
    ·rw[zaf Ex];exact u6.tbls b ps e
    ·have iS:=I6.hok;rw[eP,eW]at iS;intro b u e;by_cases hb:b=D
     ·subst hb;rw[zad]at e;cases e;exact⟨z5,nS,vs,v5,o5,lG,vQ,d6,rO⟩
     rw[Pm]at e;exact(iS b u e).stay (λc v _ q=>q) (λc q=>by rw[zaf IU];exact q) λc xs q=>by rw[zaf IU];exact q
    obtain⟨f0,f1,f2,f3,f4,f5⟩:=fpx b hb;exact⟨f3,f1,f4,f5⟩
   rw[zaf CD];have:=I6.free;rw[eL]at this;exact this
  have h6:=UU (λ_ _=>False) hZ (fN λb hb=>n5 b LP) t5 go;rw[eA]at h6;refine thn h6 λr s6 ⟨u,hr,h7⟩=>?_;subst hr;refine thn h7 λ_ s7 ⟨x,H7,I7,r7,y7,t7,n7⟩=>?_;have qq:=K9 (WW t7);have h8:=Yg _ s7 τ H7 x u _ qq r7 (Go y7);rw[eP,eW,eA,eX,eE]at h8;refine thn h8 λ_ s8 ⟨τ8,H8,I8,q8⟩=>?_;have h9:=Yt _ s8 τ8 H8 _ I8 q8;rw[eP,eW,eA,eX,eE]at h9;refine thn h9 λok s9 ⟨H9,I9,q9⟩=>?_;have again:∀{τ':St} {H':Hp} {s':Ni},JX (([]++zb4 [D] s5.heap)++V7 s7.heap) τ' H' s'→s'.heap.get? D=some o5∧H' D=none∧tn HY s'.heap∧∀b∈fp,H' b=none:=λ{τ' H' s'} I'=>by
   have pp:∀{b:Nc} {o:Obj},b∈fp→s7.heap.get? b=some o→s'.heap.get? b=some o∧H' b=none:=λ{b o} hb e=>
    let z:=I'.pin (b,o) L9
    ⟨z.1,z.2.1⟩
   have hp:=zbl (fp:=[D]) TL d5;have z:=I'.pin (D,_) (YG EJ);refine⟨z.1,z.2.1,QW t7 λb hb o e=>(pp hb e).1,λb hb=>?_⟩;obtain⟨o,e,_⟩:=WW t7 b hb;exact(pp hb e).2
  have drop:∀{pl:Nd} {τ':St} {H':Hp} {s':Ni},JX pl τ' H' s'→JX [] τ' H' s':=λI'=>I'.pins_of Hb;cases ok with
  |false=>rw[if_neg Hg]at q9 ⊢;obtain⟨m',hm,w9⟩:=q9;obtain⟨d9,H9D,t9,n9⟩:=again I9;exact⟨m',hm,i+1,τ8,H9,ys,vs,drop I9,t9,λb hb=>(PQ hb).elim (λe=>e▸H9D) (n9 b),⟨o5,lG,vQ,d9,rO⟩,v5,z5,w9⟩
  | true=>
   rw[if_pos rfl]at q9 ⊢;have gF:=Yk _ s9 τ8 H9 _ I9 q9;rw[eP,eW,eA,eX,eE]at gF;refine thn gF λkv dU ⟨kw,cB,lM,lQ,q10⟩=>?_;have rH:=Ye _ dU τ8 cB _ lM q10;rw[eP,eW,eA,eX,eE]at rH;refine thn rH λy sD ⟨yv,dS,mZ,r11,kk,ek,m',hm,qu⟩=>?_;subst ek;obtain⟨d11,H11D,t11,n11⟩:=again mZ;have vV:sD.heap.DictOf Ta D vs:=⟨o5,lG,vQ,d11,rO⟩;have cX:(Z0 X.w).is kk kv=true:=by
    cases kk with
    |inl i=>obtain⟨t,rfl⟩:=lQ;exact keyIs_int i t
    |inr x=>obtain⟨t,rfl⟩:=lQ;exact keyIs_str x t
   refine wpAny_dictSet_pairs (knd:=Z0 X.w) cX vV (λh' dj sb=>?_) (by rw[←Zh v5];assumption);have kkp:∀b o,b≠D→sD.heap.get? b=some o→h'.get? b=some o:=λb o hb e=>(Oy hb).trans e;obtain⟨g0,g1,g2',g3,g4,g5⟩:=fY (pl:=[]) (H':=dS) (b:=D) Qd H11D Hb;have I12:=(drop mZ).turned (h':=h') (t':=sD.toks+1) (it:=D) kkp H11D g1 g3 g4 g5;refine⟨m',hm,i+1,τ8,dS,putK ys kk yv,stored vs kk y,I12,QW t11 λb hb o e=>kkp b o (λz=>fpD (z▸hb)) e,λb hb=>(PQ hb).elim (λe=>e▸H11D) (n11 b),dj,v5.put kk r11,?_,qu⟩;unfold putK;split
   ·rw[Qa];exact z5
   rw[Qm,Uc];assumption
 exact codeAny_compStart_dict IV (Vp (QW h0 λb _ o e=>k1 b o Ew) IV)
def ps_dc(hN:X.N.Nodup)(di:X.N[i]?=some y)(hy:X.env.scope.names.lookup y=some .local)(B:Y0 ix)(hc:X.calm=true)(hi:Ox)(hg:∀C a7 ex s H,J4 g)(ht:∀C a7 ex s H,UZ tc)(hk:∀C a7 ex s H,J8 kx tk)(he:∀C a7 ex s H,J8 vx tv)(ow:swapsWith (.DictComp kx vx [⟨tg,iter,ifs,0⟩] sc pos) (RH CH) spos.line X.env=pure true)(hs:∀x,foldedSetIterable iter X.env x=pure x:=by intro _;rfl):K0 (.Assign [CH] (.DictComp kx vx [⟨tg,iter,ifs,0⟩] sc pos) spos) (tAsg (tDC ix wi g tc tk tv) Ei):=by
 intro a7 s σ H D' I h;rw[exec_Assign_Name_used _ _ _ _ ow];refine wpAny_bind (wpAny_standAt (wpAny_bind ?_));show ZQ X.A (do let _ ←comprehension (.DictComp kx vx [⟨tg,iter,ifs,0⟩] sc pos) sc X.env _ newDict false LK Pu) _ _ s;refine wpAny_bind (wpAny_mono (wpAny_comprehension_free (use:=some Tj) (Q:=λ_ s'=>JF D' .next s') rfl hs Ek B.kind B.names
  (thn SY λv s1 h1=>thn h1 λitv s2 h2=>?_)) (λ_ s' hq=>wpAny_pure (RP hq)) λ_ _ e=>e)
 obtain⟨it,fp,tn,J,H2,e,I2,T,aQ,f2,q⟩:=h2;subst e;refine dc_block (RR:=λai C=>compPost Hk X.A X.xe Pu (λ_ s'=>JF D' .next s') ai C) B hc (hg · a7) (ht · a7) (hk · a7) (he · a7) I2 T aQ f2 q ?_;intro D C m ys H' s' I' q' hn hC ae;show ZQ X.A OL _ _ s';refine wpAny_assign_Name (BP (v:=.ref D) rfl (λlP qr ⟨a,sb,ha⟩=>?_) C0);have aC:C≠a:=by
  rcases ha with z|z
  ·rw[z];exact Yo Aw
  exact Yo (X0 ae)
 have bp:=hn.sameBut sb aC;exact⟨m,bp,λh' dy=>⟨_,_,Tr,q'⟩⟩
end
end L2
namespace RawD
open PySem PyProof.Rows PySem.W
def At(h:No)(a:Nc)(es:Array DictEntry)(ep:Nat):Prop:=∃o,h.get? a=some o∧o.ExactDict∧o.data=.dict es ep
def At.typeIs{s:Ni}{a:Nc}{es:Array DictEntry}{ep:Nat}(x:At s.heap a es ep):s.TypeIs Rm "dict" :=let⟨o,e,c,_⟩:=x;⟨o,e,c.1⟩
def At.keep{h g:No}{a:Nc}{es:Array DictEntry}{ep:Nat}(x:At h a es ep)(k:∀o,h.get? a=some o→g.get? a=some o):At g a es ep:=let⟨o,e,r⟩:=x;⟨o,k _ e,r⟩
section
variable{prog:Nk}{w:Nn}{A:Np}{E:Na}{s:Ni}{d:Nc}{es:Array DictEntry}{ep:Nat}
def iter{Q:Na}(nS:(d==sysModules)=false)(m:Mj ep)(q:Q Hr {s with heap:=s.heap.push {cls:=.type "dict_keyiterator",data:=.fields #[OY,AD,.int es.size 0,Lj ep 0]}}):ZG (pyIter OY) Q E s:=by obtain⟨o,ho,hc,hd⟩:=id m;refine wpAny_pyIter_slot m.typeIs F.slot_dict_iter (wpAny_call_entry F.slot_dict_iter m.typeIs F.entry_dict_iter ?_ (F.args_dict_iter_1 _));unfold Builtin.«dict.__iter__»;refine wpAny_bind ?_;unfold Builtin.Dict.dictSlotNone;refine wpAny_bind (wpAny_notOrdered_dict m.typeIs (show ZQ _ (pure (Lg d)) _ _ s from wpAny_pure ?_));show ZQ _ (Builtin.Dict.showsAll d >>= _) _ _ s;unfold Builtin.Dict.showsAll;rw[if_neg (Hm nS Zj)];refine wpAny_bind (RP (La (wpAny_dictEntries ho hd (HN (wpAny_dictEpoch ho hd ?_)))));refine wpAny_bind (wpAny_newObj_type (RP ⟨_,rfl, "dict_keyiterator",_,⟨_,UE rfl,rfl⟩,Jl.lookup,?_⟩));simpa[rawInt] using q
def item{j:Nc}{i:Nat}{Q:Option Value→Shared→Prop}(st:OE)(m:Mj ep)(hi:i<es.size)(hQ:∀g,g.IsKeyIter j d HY es.size ep→Dc g→Q (some es[i].key) {s with heap:=g}):ZG (pyNext E4) Q E s:=by
 obtain⟨o,ho,hc,hd⟩:=id st;obtain⟨od,eI,ba,eR⟩:=id m;unfold pyNext;refine wpAny_bind (Lf (wpAny_callSpecial?_slot (name:=Str.ofString "__next__") st.typeIs Jl (U9 ?_ IB)));refine wpAny_bind (zR (wpAny_bind ?_))
 first|refine wpAny_bind (WD RM)|refine wpAny_bind (WS RM)
 refine wpAny_bind (Dt ?_);have kB:Builtin.Dict_items.ownsTuple "dict_keyiterator" = false:=by decide
 simp only[kB,Ws,if_false];show ZQ _ (if(Value.ref d==.none)=true then _ else _) _ _ s;rw[if_neg (show ¬((Value.ref d==.none)=true) from Zj)];refine wpAny_bind (zR (BD ?_));rw[if_neg Hb];refine wpAny_bind (zR (XB ?_));rw[if_neg Hb];refine wpAny_pure ?_;simp only[show ¬((i:Int)<0) from by lia,if_false,Ul,Yp hi];refine wpAny_bind ?_
 first|refine wpAny_bind (WD RM)|refine wpAny_bind (WS RM)
 refine wpAny_bind (wpAny_isOneOf_keyiter st.typeIs ?_);show ZQ _ (setField E4 1 (CG ((i:Int)+1)) >>= _) _ _ s;refine wpAny_bind (JP Hb ?_);have aa:(s.heap.update j (Obj.mapFields (·.setIfInBounds 1 (CG ((i:Int)+1))))).IsKeyIter j d HY es.size ep:=
  ⟨_,yN,(Obj.cls_mapFields ..).trans hc,by rw[Uj hd];simp[rawInt]⟩
 refine wpAny_bind (wpAny_holding (wpAny_bind (wpAny_isOneOf_keyiter (s:={s with heap:=s.heap.update j (Obj.mapFields (·.setIfInBounds 1 (CG ((i:Int)+1))))}) aa.typeIs ?_)));show ZQ _ (pure es[i].key) _ _ _;exact wpAny_pure (CJ ⟨_,rfl,RP (hQ _ aa (Ue ..))⟩)
def done{j:Nc}{i:Nat}{Q:Option Value→Shared→Prop}(hh:A.handled=none)(st:OE)(m:Mj ep)(hi:es.size≤i)(hQ:∀g,Dr g→Q none {s with heap:=g}):ZG (pyNext E4) Q E s:=by
 obtain⟨o,ho,hc,hd⟩:=id st;obtain⟨od,eI,ba,eR⟩:=id m;unfold pyNext;refine wpAny_bind (Lf (wpAny_callSpecial?_slot (name:=Str.ofString "__next__") st.typeIs Jl (U9 ?_ IB)));refine wpAny_bind (zR (wpAny_bind ?_))
 first|refine wpAny_bind (WD RM)|refine wpAny_bind (WS RM)
 refine wpAny_bind (Dt ?_);have kB:Builtin.Dict_items.ownsTuple "dict_keyiterator" = false:=by decide
 simp only[kB,Ws,if_false];show ZQ _ (if(Value.ref d==.none)=true then _ else _) _ _ s;rw[if_neg (show ¬((Value.ref d==.none)=true) from Zj)];refine wpAny_bind (zR (BD ?_));rw[if_neg Hb];refine wpAny_bind (zR (XB ?_));rw[if_neg Hb];refine wpAny_pure ?_;simp only[show ¬((i:Int)<0) from by lia,if_false,Ul,Array.getElem?_eq_none hi];refine wpAny_bind ?_
 first|refine wpAny_bind (WD RM)|refine wpAny_bind (WS RM)
 show ZQ _ (setField E4 0 .none >>= _) _ _ s;refine wpAny_bind (JP Hb ?_);show ZQ _ (newExc (.type "StopIteration") [] >>= _) _ _ _;refine wpAny_bind ?_;simp only[newExc,newTuple];refine wpAny_bind (wpAny_newObj_type (wpAny_bind (m:=firstArgMember _ _) (wpAny_of_eq (a:=Value.none) (by first|rfl|(simp only[firstArgMember];rfl)) (wpAny_newObj_type ?_ (by size_fits)))) (by size_fits));simp only[raiseNew];refine wpAny_bind (wpAny_handled ?_)
 first|rw[show A.in1.handled=none from hh] | rw[hh]
 refine wpAny_bind (RP (wpAny_throw ?_));refine wpAny_bind (wpAny_isInstance (T:= "StopIteration") (b:=true) ⟨_,Tc,rfl⟩ isSubtype_stop ?_);exact wpAny_pure (hQ _ (((Ue ..).extBut.push _).push _))
theorem src(nS:(d==sysModules)=false):KdlSrc prog w "dict" d d es.size (λi v=>∃e,es[i]?=some e∧v=e.key) (λh=>At h d es ep) where
 type:=λ_ m=>m.typeIs
 there:=λ_ m=>let⟨_,e,_⟩:=m;⟨Qu e,Qu e⟩
 keep:=λ_ _ m k=>m.keep λo e=>k d RT o e
 notList:=by decide
 notTuple:=by decide
 hint:=λ_ _ _ _ m q=>kdl_hint_dict m.typeIs q
 iter:=λA s hh m=>by
  have lt:d<s.heap.objs.size:=let⟨_,e,_⟩:=m;Qu e;refine⟨_,λi h=>h.IsKeyIter s.heap.objs.size d i es.size ep∧At h d es ep,λ_ _ q=>iter nS m q,?_,⟨_,Tc,rfl,rfl⟩,m.keep λo e=>QQ e⟩;exact
   {sub:=λb hb=>by simp at hb;simp[hb]
    frame:=λi h g st k=>⟨st.1.at λo e=>k _ Hb o e,st.2.keep λo e=>k d Hb o e⟩
    item:=λi s' Q E hi st hQ=>item st.1 st.2 hi λg a b=>hQ _ g s'.toks ⟨_,Yp hi,rfl⟩ ⟨a,st.2.keep λo e=>(b.2 d Py).trans e⟩ λc o hc e=>(b.2 c (λz=>hc CN)).trans e
    done:=λs' Q E st hQ=>done hh st.1 st.2 HM λg a=>hQ g s'.toks λc o hc e=>a c o (λz=>hc CN) e
    self:=λ_ _ _ _ st q=>wpAny_pyIter_keyiter st.1 q}
end
end RawD
namespace L2
open PySem PySem.Spec PyProof.Rows Tm
def kP(q:Str×Str):List Key:=[Sum.inr q.1,Sum.inr q.2]
abbrev zbh(H:Hp):List Addr→List (Str×Str)→Prop:=Paired λb r=>H b=some (.tup [Iv,Iw])
section
variable{X:Cx}
def zdh{α β:Type}{R:α→β→Prop}{as cr:List α}(p:cr.Perm as):∀{bs:List β},WE as bs→∃hW,hW.Perm bs∧WE cr hW:=by
 induction p with
 |nil=>intro bs r;cases r;exact⟨[],.nil,.nil⟩
 |cons x q ih=>
  intro bs r;cases r with
  |cons r1 r2=>obtain⟨zs,h1,h2⟩:=ih r2;exact⟨_::zs,h1.cons _,yY r1 h2⟩
 | swap x y l=>
  intro bs r;cases r with
  |cons r1 r2=>
   cases r2 with
   |cons r3 r4=>exact⟨_,List.Perm.swap ..,yM⟩
 |trans _ _ ih1 ih2=>intro bs r;obtain⟨zs,h1,h2⟩:=ih2 r;obtain⟨gG,h3,h4⟩:=ih1 h2;exact⟨gG,h3.trans h1,h4⟩
def pairs_mem{H:Hp}{as:Nl}{qs:Nt}(r:FV as qs){a:Nc}(ha:a∈as):∃r:Str×Str,H a=some (.tup [Iv,Iw]):=by
 induction r with
 |nil=>cases ha
 |cons h t ih=>
  rcases Qj.mp ha with zz|zz
  ·subst zz;exact⟨_,h⟩
  exact ih zz
end
end L2
namespace L2
open PySem PySem.Spec PyProof.Rows
def fsk{N P:Ng}{sc:Scope}(a:sc.kind=.function:=by rfl)(b:sc.isCoroutine=false:=by rfl)(c:sc.isGenerator=false:=by rfl)(d:N.Nodup:=by decide+kernel)(e:N.take P.length=P:=by rfl)(f:∀x∈P,sc.names.lookup x=some .local∨sc.names.lookup x=some .cell:=by decide+kernel)(g:∀y∈sc.names,y.2≠.free:=by decide+kernel):zam N P sc:=⟨a,b,c,d,e,f,g⟩
section
variable{X:Cx}
def zaq(i:Nat){x:Str}{e:Expr}{te:TE}{pos bi:Pos}(hN:X.N.Nodup)(he:CU)(hi:X.N[i]?=some x:=by rfl)(hx:UG x:=by exact Or.inl rfl)(hs:swapsWith e (RH yS) pos.line X.env=pure false:=by rfl)(hf:X.fn x=true∨X.env.scope.names.lookup x=some .local:=by first|exact .inl rfl|exact .inr rfl|assumption) :
  PS X (.Assign [yS] e pos) (tAsg te Ei):=ps_set hN hi hx he hs hf
def za7(i:Nat){x:Str}{pos:Pos}(hN:X.N.Nodup)(hi:X.N[i]?=some x:=by rfl)(hx:UG x:=by exact Or.inl rfl)(hf:X.fn x=true∨X.env.scope.names.lookup x=some .local:=by first|exact .inl rfl|exact .inr rfl|assumption):D6 Ei:=pg_name hN hi hx hf
def zdg{o i:Expr}{td ty:TE}{pos:Pos}(hu:X.A.units+1<cLine)(ho:O6)(hi:yL)(hs:NoSl i:=by exact λ_ _=>rfl):Z7 z0 (tDGet td ty):=pe_dget hu ho hi hs
def Fun.okL{P:Nk}{w:Nn}{K:Nb}{mg:Nh}{base:No}{x qual:Str}{st:Stmt}{f:Nc}{fd:Nw}{N ps:Ng}{k:Nat}{sp:Sp}(F:Eh)(S:K5 EZ)(bJ:∀ (cdv:Value) (A:Np) (outer:List Env) (s:Ni) (H:Hp) (vs:List V) (Q:VK) (E:XK),YT SZ→sp vs H Q E →
   ∃t,PSs (JN E).nox P0 t∧t {nx:=λ_ H'=>Q .non H',rt:=Q} IR H)(len:∀vs H Q E,sp vs H Q E→vs.length=ps.length:=by intro _ _ _ _ h;cases h;subst_vars;rfl):ZB (k+1) f fd ps sp:=F.ok S len bJ
def chkB(sc:Scope)(M:Ng)(ix:Nv)(N:Ng)(S:Scope):Bool:=
 decide (sc.kind=.function)&&sc.names.all (λy=>decide (y.2≠.cell))&&sc.names.all (λy=>!decide (y.2=.local)||decide (sc.names.lookup y.1=some .local))&&sc.names.all (λy=>!decide (y.2=.free)||decide (S.names.lookup y.1=some .cell)||decide (S.names.lookup y.1=some .free)) &&
 decide (ix.length=M.length)&&decide M.Nodup&&(M.zip ix).all (λp=>match p.2 with
  |none=>true
  |some i=>decide (N[i]?=some p.1)&&decide (sc.names.lookup p.1=some .free))
def mkB{X:Cx}{sc S:Scope}{M N ps:Ng}{ix:Nv}(F:K5 S)(hN:X.N=N:=by exact rfl)(hS:X.env.scope=S:=by exact rfl)(h:chkB sc M ix N S=true:=by decide+kernel):Y0 ix:=by
 subst hN hS;unfold chkB at h;simp only[Wf,decide_eq_true_eq,Zw,Jd,Wi,decide_eq_false_iff_not]at h;obtain⟨⟨⟨⟨⟨⟨h1,h2⟩,h3⟩,h4⟩,h5⟩,h6⟩,h7⟩:=h;refine⟨h1,h2,λy hy e=>(h3 y hy).resolve_left λz=>z e,λy hy e=>?_,h5,h6,λj i x e1 e2=>?_⟩
 ·rcases h4 y hy with (z|z)|z
  ·exact absurd e z
  ·exact .inl z
  exact .inr z
 have:=h7 (x,RH i) (Yz (i:=j) (by rw[List.getElem?_zip_eq_some];exact⟨e1,e2⟩));simpa using this
end
end L2
namespace K21
open PySem L2
abbrev qR:Str:= "_law_rounds_here"
abbrev qP:Str:= "_law_pot_here"
abbrev qM:Str:= "_law_many"
abbrev qO:Str:= "_law_other"
abbrev qS:Str:= "_law_script"
abbrev qN:Str:= "_law_names_here"
def top(i:Nat):Stmt:=PySem.Challenge.pw_fivehues_k15_mirrored_and_renamed.main.body.getD i (.Pass ⟨0,0,0,0⟩)
def eOf:Stmt→Expr
 |.Assign _ e _=>e
 |.Return (some e) _=>e
 |.For _ e _ _ _=>e
 |.While e _ _ _=>e
 |_=>.Name "" ⟨0,0,0,0⟩
def aOf(i:Nat):Expr→Expr
 |.Call _ a _ _=>a.getD i (.Name "" ⟨0,0,0,0⟩)
 |.BinOp l _ r _=>[l,r].getD i l
 |.BoolOp _ a _=>a.getD i (.Name "" ⟨0,0,0,0⟩)
 |.Compare _ _ a _=>a.getD i (.Name "" ⟨0,0,0,0⟩)
 |e=>e
def scOf:Expr→Scope
 |.ListComp _ _ sc _=>sc
 |.DictComp _ _ _ sc _=>sc
 |_=>{kind:=.function,names:=[],isGenerator:=false,isCoroutine:=false}
abbrev sAt(s:Stmt)(i:Nat):Stmt:=(zch s).getD i (.Pass ⟨0,0,0,0⟩)
def Pot(H:Hp)(p:Nc)(b m:Int):Prop:=H p=some (.lst [SX b,SX m])∧0≤b∧0≤m∧m<2147483648
inductive IspTake(vs:List V)(H:Hp)(Q:VK):Prop
 |mk (p:Nc) (b m n:Int) (h0:vs=[.ref p,.int n]) (h1:Pot H p b m) (h2:0<n) (h3:n<1073741824) (h4:∀(d b' m':Int) (H':Hp),0≤d→d<n→Pot H' p b' m'→(∀c o,H c=some o→c≠p→H' c=some o)→Q (.int d) H'):IspTake vs H Q
def zeq:Sp:=λvs H Q _=>IspTake vs H Q
end K21
namespace Wb
section
variable{α:Type}[DecidableEq α]
def nxt(zs:List α)(x:α):α:=zs.getD ((zs.idxOf x+1)%zs.length) x
def ins(zs:List α):Option α→α→List α
 |none,n=>n::zs
 |some c,n=>zs.take (zs.idxOf c+1)++n::zs.drop (zs.idxOf c+1)
abbrev Rs(α:Type):=List (α×List α)
def row(rs:Rs α)(x:α):List α:=((rs.find? λp=>decide (p.1=x)).map (·.2)).getD []
def zbj(rs:Rs α)(x:α)(r:List α):Rs α:=rs.map λp=>if p.1=x then(p.1,r) else p
def stp(rs:Rs α)(s:α×α):α×α:=(s.2,nxt (BS s.2) s.1)
end
end Wb
namespace K21
open PySem L2 Wb
def Keep(xs:Nl)(H H':Hp):Prop:=∀c o,H c=some o→c∉xs→H' c=some o
def Keep.refl:WB H:=λ_ _ e _=>e
def Keep.trans(a:WB H1)(b:Keep xs H1 H2):WB H2:=λc o e n=>b c o (a c o e n) n
def Keep.sub(a:WB H1)(h:∀x∈xs,x∈ys):Keep ys H H1:=λc o e n=>a c o e λz=>n (h c z)
def Keep.new(h:H l=none):WB (ZS l o):=λc u e _=>by rw[zaf (B7 h)];exact e
def nwk{o:HO}(h:H a=none)(e:ZS a o=H'):Keep [] H H'∧H' a=some o:=by subst e;exact⟨Ht h,zad⟩
def Keep.wr(h:l∈xs):WB (ZS l o):=λc u e n=>by rw[zaf (λz=>n (Hm z h))];exact e
abbrev Ent:=Str×List Str×Addr
abbrev eWV(es:List Ent):List (Key×V):=es.map λe=>((Sum.inr e.1:Key),SC)
structure RAt(H:Hp)(d:Nc)(es:List Ent):Prop where
 dc:H d=some Ru
 ro:∀e∈es,H e.2.2=some Ll
 nd:(es.map (·.1)).Nodup
def rsOf(es:List Ent):Rs Str:=es.map λe=>(e.1,e.2.1)
def RAt.keep(r:RAt H d es)(k:WB H')(hd:d∉xs)(h:∀e∈es,e.2.2∉xs):RAt H' d es:=⟨zG,λe he=>k _ _ C4 (h e he),r.nd⟩
def zd7{es:List Ent}(nd:(es.map (·.1)).Nodup){e:Ent}(h:e∈es):valV (es.map λe=>((Sum.inr e.1:Key),SC)) yi=some Oc:=by
 induction es with
 |nil=>cases h
 |cons a t ih=>
  rw[Ql,Qw]at nd;rw[Ql];rcases Qj.mp h with z|z
  ·subst z;exact zct rfl
  rw[zb2]
  ·exact ih nd.2 z
  intro q;exact nd.1 (by rw[Ug q];exact Qf.mpr ⟨e,z,rfl⟩)
def val_out{es:List Ent}{x:Str}(h:x∉es.map (·.1)):valV (es.map λe=>((Sum.inr e.1:Key),SC)) TQ=none:=by
 induction es with
 |nil=>rfl
 |cons a t ih=>
  rw[Ql,Qj,not_or]at h;rw[Ql,zb2]
  ·exact ih h.2
  intro q;exact h.1 (Ug q).symm
def zbt(nd:(es.map (·.1)).Nodup)(h:e∈es):ZO e.1=e.2.1:=by
 unfold row rsOf;induction es with
 |nil=>cases h
 |cons a t ih=>
  rw[Ql,Qw]at nd;rw[Ql];rcases Qj.mp h with z|z
  ·subst z;rw[Wp Hb];rfl
  rw[Wq]
  ·exact ih nd.2 z
  intro q;exact nd.1 (by rw[of_decide_eq_true q];exact Qf.mpr ⟨e,z,rfl⟩)
def put_new{es:List Ent}{x:Str}{r:Ng}{a:Nc}(h:x∉es.map (·.1)):putK (eWV es) TQ Rm=(es++[(x,r,a)]).map λe=>((Sum.inr e.1:Key),SC):=by rw[zf8 _ (val_out h),Qp];rfl
def zhi{xs:List V}{k:Nat}(h:k≤xs.length):FE none (some (k:Int))=xs.take k:=by
 unfold cutV;have e1:QU 0 none=0:=rfl;have e2:QU xs.length (some (k:Int))=k:=by rw[HT.sIx_nat];lia
 rw[e1,e2];simp
def zdl{xs:List V}{k:Nat}(h:k≤xs.length):FE (some (k:Int)) none=xs.drop k:=by
 unfold cutV;have e1:QU 0 (some (k:Int))=k:=by rw[HT.sIx_nat];lia
 have e2:QU xs.length none=xs.length:=rfl;rw[e1,e2,Qr (HS Yu)]
def zhf{zs:Ng}{x:Str}(h:x∈zs):zs.idxOf x<zs.length:=Jv.mpr h
def zjj{zs:Ng}{x:Str}(h:x∈zs):(∃ z,(zs.map V.str)[zs.idxOf x]?=some z∧eqV z CF=true)∧∀ m z,m < zs.idxOf x→(zs.map V.str)[m]?=some z→eqV z CF=false:=by
 refine⟨⟨CF,?_,beq_self_eq_true x⟩,λm z hm e=>?_⟩
 ·rw[Qo,Qb (zhf h),Jy];rfl
 rw [Qo]at e;have bG:m<zs.length:=Ww hm (zhf h);rw[Qb bG]at e;cases e;show(zs[m]==x)=false;refine beq_eq_false_iff_ne.mpr λq=>?_;have az:∀(l:Ng) (j:Nat) (hj:j<l.length),l[j]=x→l.idxOf x≤j:=by
  intro l;induction l with
  |nil=>intro j hj;simp at hj
  | cons a t ih=>
   intro j hj e;rw[List.idxOf_cons];cases j with
   |zero=>have e':a=x:=e;rw[e'];simp
   |succ i=>
    have:=ih i Pw OR;by_cases h:a=x
    ·rw[h];simp
    have hb:(a == x)=false:=beq_eq_false_iff_ne.mpr h;rw[hb];simp;assumption
 have:=az zs m bG q;lia
def zc9(zs:Ng):(zs.map V.str).all zd6=true:=by rw[Zw];intro v hv;obtain⟨x,_,rfl⟩:=Qf.mp hv;rfl
end K21
namespace Wb
section
variable{α:Type}[DecidableEq α]
def itr(rs:Rs α)(s:α×α):Nat→α×α
 |0=>s
 |n+1=>stp rs (UC s n)
def IsSt(rs:Rs α)(s:α×α):Prop:=∃p∈rs,p.1=s.2∧s.1∈p.2
def allSt(rs:Rs α):List (α×α):=rs.flatMap λp=>p.2.map λx=>(x,p.1)
def mem_allSt{rs:Rs α}{s:α×α}:s∈allSt rs↔Va s:=by
 unfold allSt IsSt;rw[List.mem_flatMap];constructor
 ·rintro⟨p,hp,h⟩;obtain⟨x,hx,rfl⟩:=Qf.mp h;exact⟨p,hp,rfl,hx⟩
 rintro⟨p,hp,e,hx⟩;exact⟨p,hp,Ob ⟨s.1,hx,by rw[e]⟩⟩
def Clo(rs:Rs α):Prop:=∀s,Va s→Va (stp rs s)
theorem itr_st{rs:Rs α}(c:Clo rs){s:α×α}(h:Va s):∀n,Va (UC s n)
 |0=>h
 |n+1=>c _ (itr_st c h n)
def run(rs:Rs α)(s:α×α)(n:Nat):List (α×α):=(S1 n).map (UC s)
def run_succ(rs:Rs α)(s:α×α)(n:Nat):Ml (n+1)=Ml n++[UC s n]:=by unfold run;rw[List.range_succ,List.map_append];rfl
def zg0{l m:List (α×α)}(nd:l.Nodup)(h:∀x∈l,x∈m):l.length≤m.length:=by
 induction l generalizing m with
 |nil=>exact Zm _
 |cons a t ih=>rw[Qw]at nd;have ha:=h a Qd;have:=ih (m:=m.erase a) nd.2 λx hx=>(List.mem_erase_of_ne (λe=>nd.1 (by rw[←e];exact hx))).mpr (h x Od);rw[List.length_erase_of_mem ha]at this;have hp:0<m.length:=Kz ha;rw[Zk];lia
end
end Wb
namespace K21
open PySem L2 Wb
section
variable{P:Nk}{w:Nn}{K:Nb}{mg:Nh}{base:No}
def zbh.keep{H H':Hp}{as:Nl}{qs:Nt}(r:FV as qs)(k:∀b x y,H b=some (.tup [x,y])→H' b=some (.tup [x,y])):zbh H' as qs:=by
 induction r with
 |nil=>exact .nil
 |cons h t ih=>exact .cons (k _ _ _ h) ih
end
end K21
namespace Wb
section
variable{α:Type}[DecidableEq α]
structure Gen(G:Rs α→Prop):Prop where
 clo:∀rs,G rs→Clo rs
 nd:∀rs,G rs→(rs.map (·.1)).Nodup
 sub:∀rs,G rs→∀p∈rs,p.2.Nodup∧∀x∈p.2,x∈rs.map (·.1)
 sy:∀rs,G rs→∀p∈rs,∀x∈p.2,p.1∈BS x
 nil:G []
 new:∀rs x,G rs→x∉rs.map (·.1)→G (rs++[(x,[])])
 leaf:∀rs x p c,G rs→x∉rs.map (·.1)→p∈rs→(∀y,c=some y→y∈p.2)→(c=none→p.2=[])→G (zbj (zbj (rs++[(x,[])]) p.1 zj) x [p.1])
 tie:∀rs c p n,G rs→p∈rs→c∈p.2→(UC (c,p.1) n).2≠p.1→(UC (c,p.1) n).2∉p.2 →
  G (zbj (Fh p.1 (Gu (UC (c,p.1) n).2)) (UC (c,p.1) n).2 (ins (BS (UC (c,p.1) n).2) (some (UC (c,p.1) n).1) p.1))
def zcp{l m:List α}(nd:l.Nodup)(h:∀x∈l,x∈m):l.length≤m.length:=by
 induction l generalizing m with
 |nil=>exact Zm _
 |cons a t ih=>rw[Qw]at nd;have ha:=h a Qd;have:=ih (m:=m.erase a) nd.2 λx hx=>(List.mem_erase_of_ne (λe=>nd.1 (by rw[←e];exact hx))).mpr (h x Od);rw[List.length_erase_of_mem ha]at this;have hp:0<m.length:=Kz ha;rw[Zk];lia
def Gen.rows{G:Rs α→Prop}(g:Gen G){rs:Rs α}(h:G rs):∀p∈rs,p.2.length≤rs.length:=λp hp=>by obtain⟨a,b⟩:=g.sub rs h p hp;have:=zcp a b;rwa[Qa]at this
def Gen.steps{G:Rs α→Prop}(g:Gen G){rs:Rs α}(h:G rs)(hl:rs.length≤40):(allSt rs).length≤1600:=by
 have key:∀(l:Rs α) (n:Nat),(∀p∈l,p.2.length≤n)→(allSt l).length≤l.length*n:=by
  intro l n;induction l with
  |nil=>intro _;simp[allSt]
  |cons a t ih=>intro hh;have h1:=ih λp hp=>hh p (QL hp);have h2:=hh a Qd;unfold allSt at h1 ⊢;rw[List.flatMap_cons,Qm,Qa,Zk,Nat.succ_mul];lia
 have:=key rs rs.length (g.rows h);have:rs.length*rs.length≤40*40:=Nat.mul_le_mul hl hl;exact Zn ‹_› ‹_›
end
end Wb
namespace K21
open PySem L2 Wb
def pot_ne{H:Hp}{p a:Nc}{b m:Int}{zs:Ng}(h:M5 m)(ha:Cj (Hv (zs.map V.str))):a≠p:=zax ha h.1 (by
 intro z;have z':zs.map V.str=[SX b,SX m]:=by injection z
 cases zs with
 |nil=>cases z'
 |cons x t=>rw[Ql]at z';injection z' with z1 _;cases z1)
def Pot.keep{H H':Hp}{p:Nc}{b m:Int}{xs:Nl}(h:M5 m)(k:WB H')(hp:p∉xs):Pot H' p b m:=⟨k _ _ h.1 hp,h.2⟩
def zau{H H':Hp}{p:Nc}(h:∀c o,H c=some o→c≠p→H' c=some o):Keep [p] H H':=λc o e n=>h c o e λz=>n (by rw[z];exact Qc.mpr rfl)
section
variable{P:Nk}{w:Nn}{K:Nb}{mg:Nh}{base:No}
def zjk{x:Str}{zs:Ng}:inV CF Sb=decide (x∈zs):=by
 unfold inV;rw[Yn,Yv,decide_eq_true_iff];constructor
 ·rintro⟨v,hv,e⟩;obtain⟨y,hy,rfl⟩:=Qf.mp hv;have e':y=x:=eq_of_beq e;rw[←e'];exact hy
 intro h;exact⟨CF,Rw x h,beq_self_eq_true x⟩
def zaw{c:Bool}{A B:Prop}(h:c=false)(b:B):if c=true then A else B:=by rw[h];exact iteF b
def za4{c:Bool}{A B:Prop}(h:c=true)(a:A):if c=true then A else B:=by rw[h];exact iteT a
def zg8(es:List Ent):((eWV es).map λp=>kV p.1)=(es.map (·.1)).map V.str:=by rw[Zc,Zc];rfl
def zbf(z:Str):Prop:=1≤z.length∧z.length≤8∧∀c∈z.cps.toList,97≤c∧c≤122
def nodup_of_map{α β:Type}{f:α→β}{l:List α}(h:(Iy f).Nodup):l.Nodup:=by
 induction l with
 |nil=>exact Zs
 |cons a t ih=>rw[Ql,Qw]at h;exact Qw.mpr ⟨λz=>h.1 (Rw a z),ih h.2⟩
def zi8{α β:Type}{f:α→β}{l:List α}(nd:l.Nodup)(h:∀a∈l,∀b∈l,f a=f b→a=b):(Iy f).Nodup:=by
 induction l with
 |nil=>exact Zs
 |cons a t ih=>rw[Qw]at nd;rw[Ql,Qw];refine⟨λz=>?_,ih nd.2 λx hx y hy=>h x Od y Ps⟩;obtain⟨b,hb,e⟩:=Qf.mp z;exact nd.1 (h b LP a Qd e▸hb)
def zgz{β:Type}{f:Nat→β}{n:Nat}(h:∀a,a<n→∀b,b<n→f a=f b→a=b):((S1 n).map f).Nodup:=
 zi8 List.nodup_range λa ha b hb=>h a (Wg.mp ha) b (Wg.mp hb)
def zdu:Str:= "abcdefghijklmnopqrstuvwxyz"
def letters_at:∀i:Fin 26,zdu.cps.toList[i.1]?=some (97+i.1):=by decide+kernel
def zeh:zdu.length≤sizeLine:=by decide+kernel
def letter_at{j:Int}(h0:0≤j)(h1:j<26):KJ j=some (97+j.toNat):=by obtain⟨n,rfl⟩:=Zo h0;exact zav (letters_at ⟨n,by exact zar8 ‹_›⟩)
def zap(k:WB H')(h:H' l=none)(hx:l∉xs):H l=none:=by
 cases z:H l with
 |none=>rfl
 |some o=>rw[k _ _ z hx]at h;cases h
def Keep.cut(k:Keep (l::xs) H H')(h:H l=none):WB H':=λc o ec hc=>k c o ec (by have:c≠l:=JT h;simp[this,hc])
end
end K21
namespace K21
open PySem L2 Wb Tm
def leS_anti(a b:Str)(h:leS a b)(g:leS b a):a=b:=by have e:a.cps.toList=b.cps.toList:=List.le_antisymm (Oe h) (Oe g);cases a;cases b;congr 1;exact Array.toList_inj.mp e
def leP(p q:Str×Str):Prop:=(Bh strO).kle (p.1.cps.toList,p.2.cps.toList) (q.1.cps.toList,q.2.cps.toList)
end K21
namespace K21
open PySem L2 Wb
abbrev sWeb:Stmt:=top 22
abbrev sPlaces:Stmt:=NO 1
structure TAt(H:Hp)(d:Nc)(es:List Ent):Prop where
 dc:H d=some Ru
 ro:∀e∈es,H e.2.2=some (.tup RN)
 nd:(es.map (·.1)).Nodup
def TAt.keep(r:TAt H d es)(k:WB H')(hd:d∉xs)(h:∀e∈es,e.2.2∉xs):TAt H' d es:=⟨zG,λe he=>k _ _ C4 (h e he),r.nd⟩
structure WAt(H:Hp)(C x dx d:Nc)(es:List Ent):Prop where
 ob:H x=some (.ins C dx [("rounds",OY)])
 ta:TAt H d es
def WAt.keep(r:Vb d es)(k:WB H')(hx:x∉xs)(hd:d∉xs)(h:∀e∈es,e.2.2∉xs):By d es:=
 ⟨k _ _ r.ob hx,r.ta.keep k hd h⟩
def WAt.pot(r:Vb d es)(h:M5 m)(k:Keep [p] H H'):By d es:=
 r.keep k (by simpa using zax r.ob h.1 Hh) (by simpa using zax r.ta.dc h.1 Hh) λe he=>by simpa using zax (r.ta.ro e he) h.1 Hh
inductive IspPlaces(C:Nc)(vs:List V)(H:Hp)(Q:VK):Prop
 |mk (x dx d:Nc) (es:List Ent) (h0:vs=[.ref x]) (h1:WAt H C x dx d es) (h2:∀l,H l=none→Q (.ref l) (upd H l (.lst ((es.map (·.1)).map V.str)))):IspPlaces C vs H Q
def zer(C:Nc):Sp:=λvs H Q _=>IspPlaces C vs H Q
def zgk(h:ws.Perm Sj):∃cr:List Addr,ws=cr.map V.ref∧cr.Perm as:=by
 have key:∀ws:List V,(∀v∈ws,∃a,v=V.ref a)→∃cr:List Addr,ws=cr.map V.ref:=by
  intro ws;induction ws with
  |nil=>intro _;exact⟨[],rfl⟩
  |cons v t ih=>intro hh;obtain⟨a,rfl⟩:=hh v Qd;obtain⟨cr,rfl⟩:=ih λv hv=>hh v Pz;exact⟨a::cr,rfl⟩
 obtain⟨cr,rfl⟩:=key ws λv hv=>by obtain⟨a,_,rfl⟩:=Qf.mp (h.mem_iff.mp hv);exact⟨a,rfl⟩
 refine⟨cr,rfl,?_⟩;have:=h.map (λv:V=>match v with | .ref a=>a|_=>0);rw[Zc,Zc]at this;have e:∀l:List Addr,l.map ((λv:V=>match v with | .ref a=>a|_=>0)∘V.ref)=l:=λl=>Kf l;rw[e,e]at this;exact this
section
variable{P:Nk}{w:Nn}{K:Nb}{mg:Nh}{base:No}
def scPlaces:zam ["self"] ["self"] (zaj sPlaces):=fsk
def ok_places(F:Z5 "places" "Web.places" sPlaces f fd)(cW:V8 C)(nW:VQ "rounds")(aZ:mg "list" = none):ZB 1 f fd ["self"] zk:=by refine F.okL scPlaces Hi;obtain⟨x,dx,d,es,rfl,wt,k⟩:=h;have hx:=wt.ob;have T:=wt.ta;refine⟨_,zag (zaz (zba (zhs rfl) Ho aZ Kv (RG yj))),?_⟩;refine⟨xf,x,C,dx,_,xf,hx,cW,nW,rfl,d,xf,.inl T.dc,λl hl=>?_⟩;rw[zg8];exact k l hl
def za1:∀{as:List α} {bs:List β},WE as bs→∀{i:Nat} (hi:i<as.length),∃aB:i<bs.length,R as[i] bs[i]:=by
 intro as bs r;induction r with
 |nil=>intro i hi;simp at hi
 |cons h t ih=>
  intro i hi;cases i with
  |zero=>exact⟨Hb,h⟩
  |succ j=>obtain⟨a,b⟩:=ih (i:=j) (Hd hi);exact⟨Hd a,b⟩
end
end K21
namespace L2
open PySem PySem.Spec PyProof.Rows
def zfv(h1:leS x y)(h2:leS y x):x=y:=Tm.str_ext (List.le_antisymm (Oe h1) (Oe h2))
section
variable{X:Cx}
def op_ne_lists(hu:X.A.units<cLine):QJ (λx y H Q=>Ex3 λl b zs=>Aj5 (x=.ref l) (y=.ref b) (QT l Og) (QT b Og) (Q S9 H)):=by
 intro a7 s σ H x y v u Q I rx ry h;obtain⟨l,b,zs,rfl,rfl,h1,h2,q⟩:=h;cases rx;cases ry;obtain⟨a8,r,pl,_⟩:=I.list h1;obtain⟨aD,r2,du,_⟩:=I.list h2;have l1:=r.length;have l2:=r2.length;refine SeqAt.RcNeAt.lists (e:=λ_=>true) pl.isList du.isList (by rw[Qt,Qt];lia) hu (λj j1 j2=>?_) _ _ _ _ ⟨S9,H,I,?_,q⟩
 ·have a1:j < (QY zs).length:=by rw[l1];simpa using j1
  have a2:j<zs.length:=by simpa using a1
  have g:(QY zs)[j]?=some (.str zs[j]):=by simp[a2]
  obtain⟨u1,e1,t1,rfl⟩:=r.get g;obtain⟨u2,e2,t2,rfl⟩:=r2.get g;rw[Uh,Uh,(Cm e1).2,(Cm e2).2];have:=Ui (A:=X.A.in1) (s:=s) zs[j] t1 zs[j] t2;rw[beq_self_eq_true]at this;exact this
 show Value.bool _=Value.bool false;simp
def Apart(R:Obj→Prop):Prop:=∀o v,R o→R (Obj.mapFields (λvs=>vs.setIfInBounds 1 v) o)
def HasR(R:Obj→Prop)(h:No)(a:Nc):Prop:=∃o,h.get? a=some o∧R o
variable{M:Model}{A:Np}{E:Na}{s:Ni}{B:No}{env:Env}{outer:List Env}{L e:Nc}{cls a0:Value}{R:Obj→Prop}{Q:Unit→Shared→Prop}
def entryR{ob:Obj}{fs:Array Value}{hd:Value}{b:Bool}(cR:Apart R)(f1:A.frames=some (env::outer))(f2:s.heap.FunFrames B (env::outer))(f3:env.frame=some L)(g1:s.heap.get? e=some ob)(g2:B.StaysIn s.heap)(g3:B.get? e=none)(d1:ob.data=.fields fs)(d2:fs[0]?=some a0)(d3:1<fs.size)(r:R ob)(k:∀h',Vr e→Heap.HeldW B (env::outer) e ob.cls a0 L h'→s.heap.UpToSlots h'→Q () {s with heap:=h'}) :
  wpAny M A (frameOf env >>= λx=>entryPlaceOf L b >>= λpl=>EntryCells.newEntry hd x .none (CG L) .none pl >>= λy=>setField CA 1 y) Q E s:=by
 have ne:e∉(env::outer).filterMap (·.frame):=by intro z;obtain⟨_,o,ho,hn⟩:=f2.mem z;rw[g1]at ho;cases ho;exact hn fs d1
 refine wpAny_bind (wpAny_frameOf_fun f1 f2 f3 λh1 q1=>wpAny_bind (wpAny_entryPlaceOf λpl aU=>?_));unfold EntryCells.newEntry newFields;refine wpAny_bind (wpAny_newObj_type ?_ (aU.sizeOk5 _ _ _ _ _));have e1:h1.get? e=some ob:=(q1.2.1 e ne).trans g1;have s1:B.StaysIn h1:=λc o hc=>(q1.2.1 c (by intro z;rw[(f2.mem z).1]at hc;cases hc)).trans (g2 c o hc);generalize hE:([hd,Lg L,.none,CG L,.none]++(if pl.isEmpty then List.replicate 6 Value.none else pl)).toArray=ent;have e3:ent[3]?=some (CG L):=by
  rw[←hE]
  first|(simp;done)|(rcases aU with rfl|⟨_,_,_,_,_,_,_,rfl⟩<;>simp)
 have e2:=Qg (h:=h1) {cls:=.type "traceback",dict:=none,data:=.fields ent} e1;refine wpAny_setField e2 d1 d3 ?_;generalize hT:h1.objs.size=T at *;have te:T≠e:=hT▸Yo (Qu e1);have dd:=Uj d1 (λvs=>vs.setIfInBounds 1 (Lg T));have e4:=Jt (Obj.mapFields λvs=>vs.setIfInBounds 1 (Lg T)) e2 (Kh dd);have e5:=(Wc (h1.push {cls:=.type "traceback",dict:=none,data:=.fields ent}) (Obj.mapFields λvs=>vs.setIfInBounds 1 (Lg T)) (Zd te)).trans (hT▸Qy h1 rfl);have kp:∀c o,c≠e→h1.get? c=some o→((h1.push {cls:=.type "traceback",dict:=none,data:=.fields ent}).update e (Obj.mapFields λvs=>vs.setIfInBounds 1 (Lg T))).get? c=some o:=λc o hc q=>by rw[NH (Zd hc)];exact QQ q
 have nr:∀c o,s.heap.get? c=some o→(∀vs,o.data≠.fields vs)→c≠e:=by rintro c o hc hn rfl;rw[g1]at hc;cases hc;exact hn fs d1
 refine k _ ⟨_,e4,cR _ _ r⟩ ⟨λc o q=>kp c o (by rintro rfl;rw[g3]at q;cases q) (s1 c o q),g3,f2.of_keeps λc o q hn=>?_,?_⟩ λc o q hn=>?_
 ·obtain⟨sl,q1⟩:=q1.2.2 c o q;exact⟨_,kp c _ Cl q1,rfl⟩
 ·refine⟨_,_,T,_,_,e4,⟨Obj.cls_mapFields _ _,?_⟩,dd,by simp[d3],hT ▸ s1.fresh,te,e5,rfl,e3⟩;rw[Array.getElem?_setIfInBounds_ne Hg];exact d2
 obtain⟨sl,q1⟩:=q1.2.2 c o q;exact⟨sl,kp c _ Cl q1⟩
def noteR(cR:Apart R)(f1:A.frames=some (env::outer))(f3:env.frame=some L)(fl:Y2 (env::outer) e cls a0 s.heap)(r:X5 e)(k:∀h',Vr e→Heap.HeldW B (env::outer) e cls a0 L h'→s.heap.UpToSlots h'→Q () {s with heap:=h'}):YB (noteFrame CA env) Q E s:=by
 obtain⟨g2,g3,f2,ob,fs,T,oT,ts,g1,⟨rfl,d2⟩,d1,d4,t1,t2,t3,t4,t5⟩:=fl;obtain⟨ob',z,r⟩:=r;rw[g1]at z;cases z;unfold noteFrame;simp only[f3];refine wpAny_bind (Mm d1 d4 ?_);rw[if_pos Hb];refine wpAny_bind (wpAny_field t3 t4 t5 ?_);rw[if_neg (by simp[rawInt])];refine wpAny_bind (Du (Xv.mp t5).1 ?_);have ot:∀c,c≠T→(s.heap.update T (Obj.mapFields (·.setIfInBounds 3 Value.none))).get? c=s.heap.get? c:=λc hc=>NH (Zd hc);have nr:∀c o,s.heap.get? c=some o→(∀vs,o.data≠.fields vs)→c≠T:=by rintro c o hc hn rfl;rw[t3]at hc;cases hc;exact hn ts t4
 refine entryR cR f1 (f2.of_keeps λc o q hn=>⟨o,(ot c Cl).trans q,rfl⟩) f3 ((ot e (Zd t2)).trans g1) (λc o q=>(ot c (by rintro rfl;rw[t1]at q;cases q)).trans (g2 c o q)) g3 d1 d2 (Xv.mp d4).1 r λh' r' hh us=>k h' r' hh λc o q hn=>us c o ((ot c Cl).trans q) hn
def landR{l:List Env}{fl:Value}(g2:B.StaysIn s.heap)(g3:B.get? e=none)(f2:s.heap.FunFrames B l)(tr:s.heap.TracedAtW B e cls a0 fl)(r:X5 e)(k:∀h',Vr e→Y2 l e cls a0 h'→s.heap.UpToSlots h'→Q () {s with heap:=h'}):YB (setFlight CA none) Q E s:=by
 obtain⟨ob,fs,T,oT,ts,g1,d2,d1,d4,t1,t2,t3,t4,t5⟩:=tr;have z3:3<ts.size:=(Xv.mp t5).1;unfold setFlight;refine wpAny_bind (Mm d1 d4 ?_);rw[if_pos Hb];refine Du z3 ?_;generalize hu:s.heap.update T (Obj.mapFields λvs=>vs.setIfInBounds 3 ((none:Option Addr).elim Value.none λf=>rawInt f))=u;have ot:∀c,c≠T→u.get? c=s.heap.get? c:=λc hc=>hu▸NH (Zd hc);have nr:∀c o,s.heap.get? c=some o→(∀vs,o.data≠.fields vs)→c≠T:=by rintro c o hc hn rfl;rw[t3]at hc;cases hc;exact hn ts t4
 refine k u (r.imp λo z=>⟨(ot e (Zd t2)).trans z.1,z.2⟩) ⟨λc o q=>(ot c (by rintro rfl;rw[t1]at q;cases q)).trans (g2 c o q),g3,f2.of_keeps λc o q hn=>⟨o,(ot c Cl).trans q,rfl⟩,?_⟩ λc o q hn=>⟨o.slots,(ot c Cl).trans q⟩;exact⟨ob,fs,T,_,_,(ot e (Zd t2)).trans g1,d2,d1,d4,t1,t2,hu▸Jt _ t3 (Kh (Uj t4 _)),Uj t4 _,Sa z3⟩
def leaveR(cR:Apart R)(f1:A.frames=some (env::outer))(f3:env.frame=some L)(fl:Y2 (env::outer) e cls a0 s.heap)(r:X5 e)(k:∀h',Vr e→Y2 outer e cls a0 h'→s.heap.UpToSlots h'→Q () {s with heap:=h'}):YB (leaving env CA) Q E s:=by unfold leaving;refine wpAny_bind (noteR cR f1 f3 fl r λh1 r1 hd u1=>landR (s:={s with heap:=h1}) hd.1 hd.2.1 hd.2.2.1 hd.2.2.2 r1 λh2 r2 f2 u2=>k h2 r2 ⟨f2.1,f2.2.1,f2.2.2.1.2.2,f2.2.2.2⟩ (u1.trans u2))
def leaveMadeR{h:No}{vs:Nj}(cR:Apart R)(f1:A.frames=some (env::outer))(f3:env.frame=some L)(g2:B.StaysIn h)(f2:h.FunFrames B (env::outer))(hx:Heap.MadeExcOf h s.heap e cls vs)(r:X5 e)(k:∀h' t,Vr e→Y2 outer e cls Lx h'→s.heap.UpToSlots h'→Q () {s with heap:=h'}):YB (leaving env CA) Q E s:=by
 obtain⟨t,g1,tn,tt⟩:=hx.there;have g3:B.get? e=none:=by
  cases z:B.get? e with
  |none=>rfl
  |some o=>have:=g2 e o z;rw[hx.new]at this;cases this
 obtain⟨ob',z,r⟩:=r;rw[g1]at z;cases z;unfold leaving noteFrame;simp only[f3];refine wpAny_bind (HN (Mm rfl (x:=.none) rfl ?_));rw[if_neg Hg];refine entryR (a0:=.ref t) cR f1 (f2.of_keeps λc o q _=>⟨o,hx.keeps c o q,rfl⟩) f3 g1 (λc o q=>hx.keeps c o (g2 c o q)) g3 rfl rfl Hb r λh1 r1 hd u1=>?_;exact landR (s:={s with heap:=h1}) hd.1 hd.2.1 hd.2.2.1 hd.2.2.2 r1 λh2 r2 fl u2=>k h2 t r2 ⟨fl.1,fl.2.1,fl.2.2.1.2.2,fl.2.2.2⟩ (u1.trans u2)
def LoneO(o:Obj):Prop:=∃vs,o.data=.fields vs∧vs[2]?=some .none
def apart_lone:Apart LoneO:=by rintro o v ⟨vs,hd,h2⟩;exact⟨_,Uj hd _,by rw[Array.getElem?_setIfInBounds_ne Hg];exact h2⟩
def zbg.got{P:Nk}{w:Nn}{H:Hp}{h:No}{a:Nc}{o:HO}(x:WO o):∃u,h.get? a=some u:=by
 cases o with
 |lst xs=>obtain⟨_,_,_,_,e⟩:=x;exact⟨_,e⟩
 |tup xs=>obtain⟨_,_,_,u,e,_⟩:=x;exact⟨u,e⟩
 |dK kvs=>obtain⟨_,_,_,_,o,_,_,e,_⟩:=x;exact⟨_,e⟩
 |dT kvs=>obtain⟨_,_,_,_,o,_,_,e,_⟩:=x;exact⟨_,e⟩
 |set S n=>obtain⟨o,_,_,_,e,_⟩:=x;exact⟨_,e⟩
 |ins C dx fs=>obtain⟨_,_,_,e,_⟩:=x;exact⟨_,e⟩
 |own y=>obtain⟨_,e⟩:=x;exact⟨_,e⟩
 |xd fs=>obtain⟨_,⟨_,_,_,e,_⟩,_⟩:=x;exact⟨_,e⟩
 |rng lo hi=>obtain⟨_,_,_,e⟩:=x;exact⟨_,e⟩
 |frz ob u=>obtain⟨e,_⟩:=x;exact⟨_,e⟩
 |tbl ps=>exact⟨_,(show h.get? a=some _ from x)⟩
 |met f y=>exact⟨_,(show h.get? a=some _ from x)⟩
 |ext φ=>obtain⟨_,⟨_,e⟩,_⟩:=x;exact⟨_,e⟩
def LoneD(dd:Option Addr)(o:Obj):Prop:=LoneO o∧o.dict=dd
def zek{dd:Option Addr}:Apart (LoneD dd):=by rintro o v ⟨h,hd⟩;refine⟨apart_lone o v h,?_⟩;obtain⟨c,d,da,sl⟩:=o;cases da<;>exact hd
end
inductive CXr(P:Nk)(w:Nn)(outer:List Env)(H:Hp)(s:Ni)(E:XK)(e:Value)(s':Ni):Prop
 | mk (a:Nc) (cls a0:Value) (dd:Option Addr) (H':Hp) (B:No) (he:e=.ref a) (os:s'.os=s.os) (bare:AllBare s'.gens) (un:Un (frs outer) [] H H' s.heap s'.heap) (hok:HOk P w H' s'.heap)
   (hB:∀b o,s.heap.get? b=some o→b∉frs outer→∃u,B.get? b=some u) (hT:∀b o,H' b=some o→∃u,B.get? b=some u) (fl:Y2 outer a cls a0 s'.heap) (ln:M6 a) (q:E cls dd H'):XN w outer H s E e s'
def flyUn{P:Nk}{w:Nn}{l:List Env}{H H':Hp}{h g h' B base:No}(un:Un (frs l) [] H H' h g)(hok:WT H' g)(hB:∀b o,h.get? b=some o→b∉frs l→∃u,B.get? b=some u)(hT:∀b o,H' b=some o→∃u,B.get? b=some u)(hg:B.StaysIn g)(hh:B.StaysIn h')(fr:g.FunFrames base l)(us:g.UpToSlots h'):Un (frs l) [] H H' h h'∧WT H' h':=by
 have same:∀b o u,B.get? b=some u→g.get? b=some o→h'.get? b=some o:=λb o u e q=>by have:=hg b u e;rw[q]at this;cases this;exact hh b _ e
 refine⟨⟨λb o e n hb hx=>?_,λb o e n hb hx=>?_,un.free,λb o e hx=>?_,un.tups,un.frzs,un.tbls⟩,λb o e=>?_⟩
 ·obtain⟨u,eu⟩:=hB b o e hb;exact same b o u eu (un.keep b o e n hb hx)
 ·obtain⟨sl,e1⟩:=un.slot b o e n hb hx;obtain⟨_,o',aw,hd⟩:=fr.mem hb;obtain⟨lO,e2⟩:=us b _ e1 λvs z=>by rw[e1]at aw;cases aw;exact hd vs z
  exact⟨lO,e2⟩
 ·by_cases hb:b∈frs l
  ·obtain⟨_,o',aw,hd⟩:=fr.mem hb;obtain⟨lO,e2⟩:=us b _ aw hd;exact⟨_,e2⟩
  obtain⟨u,eu⟩:=hB b o e hb;exact⟨u,hh b u eu⟩
 refine (hok b o e).stay (λc v hc q=>?_) (λ_ q=>q) λ_ _ q=>q;obtain⟨u,eu⟩:∃u,B.get? c=some u:=by
  rcases hc with rfl|hc
  ·exact hT _ _ e
  exact hT _ _ hc
 exact same c v u eu q
def Inv.fly{X:Cx}{a7:Nd}{σ:St}{H H':Hp}{s s':Ni}{B h':No}(I:HI)(os:s'.os=s.os)(bare:AllBare s'.gens)(un:Un (frs X.stack) [] H H' s.heap s'.heap)(hok:YX H' s'.heap)(hB:∀b o,s.heap.get? b=some o→b∉frs X.stack→∃u,B.get? b=some u)(hT:∀b o,H' b=some o→∃u,B.get? b=some u)(hg:B.StaysIn s'.heap)(hh:B.StaysIn h')(fr:s'.heap.FunFrames B X.stack)(us:s'.heap.UpToSlots h') :
  Inv X a7 σ H' {s' with heap:=h'}:=by
 obtain⟨u,k⟩:=flyUn un hok hB hT hg hh fr us;exact I.call' (s':={s' with heap:=h'}) (ch:=[]) os u k bare λb z=>absurd z Hb
def Inv.out{X:Cx}{a7:Nd}{σ:St}{H H':Hp}{s s':Ni}{B:No}{E:XK}{a:Nc}{cls a0:Value}{dd:Option Addr}(I:HI)(l0:X.ex=[])(J:ZA H' s')(hB:∀b o,s.heap.get? b=some o→b∉frs X.stack→∃u,B.get? b=some u)(hT:∀b o,H' b=some o→∃u,B.get? b=some u)(fl:Y2 X.outer a cls a0 s'.heap)(ln:M6 a)(q:E cls dd H'):CXr X.prog X.w X.outer X.H₀ X.s₀ E Rm s':=by
 refine⟨a,cls,a0,dd,H',B,rfl,J.os,J.bare,by have:=J.base;rw[l0]at this;exact this,J.hok,λb o e hb=>?_,hT,fl,ln,q⟩;obtain⟨o',e'⟩:=YK (by rw[l0];simp);refine hB b o' e' λz=>?_;rcases Qj.mp (V2 z) with r|r
 ·exact absurd (UO I.ok.above) (by rw[r];exact Wj _)
 exact hb r
def PassesS(CX:CXT)(X:Cx)(E:St→XK):Prop:=∀(a7:Nd) (σ:St) (H:Hp) (s:Ni) (e:Value) (s':Ni),ZA H s→CX X.stack H s (E σ) e s'→X.xe e s'
section
variable{P:Nk}{w:Nn}{K:Nb}{mg:Nh}{base:No}{N ps:Ng}{qual:Str}{scope:Scope}{f:Nc}{cd:Value}{A:Np}{outer:List Env}{s:Ni}{H:Hp}{E:XK}
def passR{E':XK}(h:∀c d H,E' c d H→E c d H):zfz Ec (ZL E) E':=by intro a7 σ H1 s1 e s' I hx;obtain⟨a,cls,a0,dd,H',B,rfl,os,bare,un,hok,hB,hT,fl,ln,q⟩:=hx;refine leaveR zek I.ok.frames rfl fl ln λh' ln' fl' us=>?_;exact I.out rfl (I.fly os bare un hok hB hT fl.1 fl'.1 fl.2.2.1 us) hB hT fl' ln' (h _ _ _ q)
def raiseR{a7:Nd}{σ:St}{H1:Hp}{s1:Ni}{h1:No}{e:Nc}{cls:Value}{vs:Nj}(I:Inv (ZL E) a7 σ H1 s1)(hx:Heap.MadeExcOf s1.heap h1 e cls vs)(q:E cls none H1) :
  (ZL E).xe CA {s1 with heap:=h1}:=by
 have aK:∀b o,s1.heap.get? b=some o→b∉frs RD→∃u,(UP yl).get? b=some u:=λb o e nb=>⟨o,PySem.W.hideAll_get _ e nb⟩;have av:Heap.StaysIn (UP yl) s1.heap:=λb o e=>PySem.W.of_hideAll _ e;have cH:=PySem.W.funFrames_hide (as:=frs RD) I.stack λenv he b hb=>List.mem_filterMap.mpr ⟨env,he,hb⟩;have hT:∀b o,H1 b=some o→∃u,(UP yl).get? b=some u:=λb o e=>by have ae:=I.hok.lt e;obtain⟨u,hu⟩:∃u,s1.heap.get? b=some u:=(UX o e).got;exact aK b u hu λz=>by rw[I.stkFree b z]at e;cases e
 refine leaveMadeR (B:=UP yl) (zek (dd:=none)) I.ok.frames rfl av cH hx (hx.there.elim λt z=>⟨_,z.1,⟨_,rfl,rfl⟩,rfl⟩) λh' t ln fl us=>?_;refine I.out rfl (I.fly (s':=s1) rfl I.bare Un.refl I.hok aK hT av fl.1 cH ((Heap.UpToSlots.of_keeps hx.keeps).trans us)) aK hT fl ln q
abbrev bmVE:List Value:=[.type "ValueError",.type "Exception",.type "BaseException",.type "object"]
end
structure Exc(K:Nb)(C:Nc):Prop where
 inK:JU C bmVE "ValueError.__new__" = true
def exc_obj{K:Nb}{h:No}{C:Nc}{bmB:Nj}{newId:String}(X:K.In h)(q:JU C bmB newId=true) :
  ∃bm N nm qn bs hdct sn sub ab col dd k0 k1 k2 k3 k5 mN,h.get? C=some (excClassObj nm qn C N bs bm hdct sn sub ab col dd k0 k1 k2 k3 k5 newId)∧h.Ns N mN∧mN "__init__" = none∧OwnTail h bmB bm:=by
 unfold PySem.W.excIn at q;split at q
 ·rename_i dd cd sl ho;split at q
  ·rename_i C' bm k0 k1 k2 k3 n k5 hm hs;simp only[Wf,beq_iff_eq,Wi]at q;obtain⟨⟨⟨⟨⟨rfl,rfl⟩,pI⟩,ht⟩,hok⟩,r9⟩:=q;obtain⟨nm,bs,mro,ns,qn,hd,sn,sub,ab,col,del⟩:=cd;dsimp only at hm pI hok r9;subst hm pI;have hsl:sl=#[k0,k1,k2,k3,RH (.builtin n),k5]:=by obtain⟨l⟩:=sl;simp only at hs;rw[hs]
   subst hsl;exact⟨bm,ns,nm,qn,bs,hd,sn,sub,ab,col,dd,k0,k1,k2,k3,k5,_,X _ _ ho,.of_isNs (PySem.W.isNs_of_in X hok),PySem.W.nsMap_none_of_in X hok r9,PySem.W.tail_of_in X ht⟩
  cases q
 cases q
section
variable{P:Nk}{w:Nn}{K:Nb}{mg:Nh}{base:No}{N ps:Ng}{qual:Str}{scope:Scope}{f:Nc}{cd:Value}{A:Np}{outer:List Env}{s:Ni}{H:Hp}{E:XK}
def tRaise(C:Nc)(E:XK)(t:TA):TS:=λ_ σ H=>t σ H λvs H1=>Aj2 (vs.length≤sizeLine) (E SE none H1)
def zi4{x:Str}{C:Nc}{e₀:Expr}{rest:Nr}{np cpos pos:Pos}{t:TA}(c:Exc K C)(hg:Gl (ZL E) x)(hm:mg x=some SE)(ha:PA (ZL E) (e₀::rest) t)(cY:Rc=false:=by decide)(he:starEach (e₀::rest) IQ=(false,eval e₀ IQ)::starEach rest IQ:=by rfl)(aU:(backTo cpos (starEach rest IQ)).any (·.1)=false:=by rfl) :
  PS (ZL E) (.Raise (RH (.Call (Tp x np) (e₀::rest) [] cpos)) none pos) (tRaise C E t):=by
 intro a7 s1 σ H1 D I h;obtain⟨tl,N',nm,q,bs,hdct,sn,sub,ab,col,dd,k0,k1,k2,k3,k5,mN,hC,hN,r9,T⟩:=exc_obj I.ok.mod.kin c.inK;refine wpAny_Raise_call_subT (C:=C) (nm:=nm) (q:=q) (N:=N') (bs:=bs) (bm:=tl) (hdct:=hdct) (sn:=sn) (sub:=sub) (ab:=ab) (col:=col) (dd:=dd) (k0:=k0) (k1:=k1) (k2:=k2) (k3:=k3) (k5:=k5)
  PySem.F.excBase_ValueError (mN:=mN) (T.hasType PySem.F.excBase_ValueError.hasBase) (I.ok.hd rfl) (by rw[show starEach (e₀::rest) (ZL E).env=_ from he];show(false||(backTo cpos (starEach rest (ZL E).env)).any (·.1))=false;rw[show(IS (starEach rest (ZL E).env)).any (·.1)=false from aU];rfl) r9 (XC ⟨rfl,?_⟩ cY)
 have h2:=ha cpos a7 s1 σ H1 _ I h;rw[show starEach (e₀::rest) (ZL E).env=_ from he]at h2 ⊢;exact Xu (wpAny_mono h2 (λus s2 ⟨vs,H2,I2,r,hl,q2⟩=>⟨rfl,by rw[←r.length];exact hl,I2.bk _ _ hC,hN.keeps I2.bk,T.keeps I2.bk,λh' e hx=>raiseR I2 hx q2⟩) λ_ _ y=>y)
def Fun.okX{x qual:Str}{st:Stmt}{f:Nc}{fd:Nw}{N ps:Ng}{k:Nat}{sp:Sp}(F:Eh)(S:K5 EZ)(len:∀vs H Q E,sp vs H Q E→vs.length=ps.length)(bJ:∀ (cdv:Value) (A:Np) (outer:List Env) (s:Ni) (H:Hp) (vs:List V) (Q:VK) (E:XK),YT SZ→sp vs H Q E →
   ∃t,PSs (cxOf Ec P w K mg base N qual EZ f cdv A outer s H E) P0 t∧t {nx:=λ_ H'=>Q .non H',rt:=Q} IR H):ZC Ec (k+1) f fd ps sp:=by
 obtain⟨oc,od,kV,doc,pm,an,cdv,ct,osl,rfl,lk,ba⟩:=F.ex;exact fn_of lk ba S len λA outer s H vs Q E hr bK=>bJ cdv A outer s H vs Q E hr bK
end
section
variable{X:Cx}{CX:CXT}{k:Nat}{f C:Nc}{fd:Nw}{ps:Ng}{sp:Sp}{dvs:List V}{ds:Nj}{E:St→XK}{x m:Str}{p pos apos:Pos}{e o:Expr}{es:Nr}{ta:TE}{t:TA}
def run_fnS{a7:Nd}{σ:St}{H:Hp}{s:Ni}{Q:VK}{us:Nj}{vs:List V}(F:ZX sp)(hr:YT X.A)(hb:WY ds)(hd:BA ds)(hx:PassesS CX X E)(I:HI)(r:VP us)(h:sp (vs++dvs) H Q (E σ)):ZE (call Lw us) LJ X.xe s:=by
 have r2:Vals (vs++dvs) (us++ds):=r.append hd;have hl:(us++ds).length=ps.length:=by rw[←r2.length];exact MP h
 refine wpAny_call (codeAny_mono (Da ⟨us,[]⟩ (us++ds) (vs++dvs) Q (E σ) hr I.env0 (hb s us I.kIn hl) r2 h) λr s' hq=>?_);cases r with
 |error e=>exact hx a7 σ H s e s' I hq
 |ok fl=>
  cases fl with
  |ret u=>exact I.after hq
  |next=>exact False.elim hq
  |brk=>exact False.elim hq
  |cont=>exact False.elim hq
def tCallS(sp:Sp)(dvs:List V)(E:St→XK)(t:TA):TE:=λ σ H Q=>t σ H λvs H1=>sp (vs++dvs) H1 Q (E σ)
def pe_callS(F:ZX sp)(hr:YT X.A)(hg:Vk x)(hm:X.mg x=some Lw)(hk:Fa Lw=true)(hb:WY ds)(hd:BA ds)(hx:PassesS CX X E)(ha:K1 (e::es) t)(cY:Rc=false:=by decide)(he:starEach (e::es) X.env=(false,IN)::starEach es X.env:=by rfl)(aU:(L4 Sl).any (·.1)=false:=by rfl) :
  PE X (.Call IP (e::es) [] pos) (tCallS sp dvs E t):=by
 intro a7 s σ H Q I h;refine wpAny_Call_Name_kw (XC ?_ cY);refine Xt (h₀:=X.base) I.ok.mod.kin hk (thn SD λus s1 ⟨vs,H1,I1,r,q⟩=>⟨I1.kIn,?_⟩) he aU;exact run_fnS F hr hb hd hx I1 r q
def zen{X:Cx}{a7:Nd}{σ:St}{H:Hp}{s:Ni}{M:Model}{A:Np}{E:Na}{i:Nat}{x:Str}{pos:Pos}{Q:Unit→Shared→Prop}(I:HI)(hN:X.N.Nodup)(hi:X.N[i]?=some x)(hk:X.env.scope.names.lookup x=some .local)(h:∀s',ZD EF H s'→Q () s'):YB (do bindName X.env x .none;unbindBehindTheSuite X.env x pos) Q E s:=by
 obtain⟨m,hn,hl⟩:=id I.loc;have lj:(X.env.scope.kind==.class||(X.env.scope.kind==.module&&X.env.locals != X.env.globals))=false:=by rw[I.ok.kind];rfl
 refine wpAny_nameGoes_keeps hk hn lj λh' v rf hs=>h _ ?_;obtain⟨oL,_,_,hoL,_⟩:=id hn;have neL:∀b o,X.s₀.heap.get? b=some o→b≠X.env.locals:=λb o e=>Zi Cv;refine⟨I.ok,I.os,I.bare,⟨λb o e n hb hx=>(OO EU).trans (UV hx),λb o e n hb hx=>?_,I.base.free,λb o e hx=>?_,I.base.tups,I.base.frzs,I.base.tbls⟩,⟨_,rf,λj y v' e1 e2 e3=>?_⟩,λy c e=>?_,I.free,I.freeC,λp hp=>?_,λb ob e=>?_,by simpa using I.len⟩
 ·obtain⟨sl,e1⟩:=UW hx;exact⟨sl,(OO EU).trans e1⟩
 ·obtain⟨o',e1⟩:=YK hx;exact⟨o',(OO EU).trans e1⟩
 ·have hj:j≠i:=λz=>by
   subst z;rw[List.getElem?_set]at e2;split at e2
   ·split at e2<;>cases e2
   ·contradiction
  rw[List.getElem?_set_ne (Zd hj)]at e2;obtain⟨u',r',q⟩:=hl j y v' e1 e2 e3;refine⟨u',r',?_⟩;rcases q with⟨k,e⟩|⟨k,c,e,z⟩
  ·refine .inl ⟨k,?_⟩;have:y≠x:=λe=>hj (Gj (e▸hi));simp[this,e]
  exact .inr ⟨k,c,e,Ai (I.cne y c e)⟩
 ·obtain⟨w',z⟩:=I.cell y c e;exact⟨w',Ai (I.cne y c e)⟩
 ·obtain⟨e,n,ne,nf,d⟩:=Y6 hp;exact⟨(hs.2 p.1 ne).trans e,n,ne,nf,d⟩
 refine (UX ob e).stay (λc w' hc q=>(hs.2 c ?_).trans q) (λ_ q=>q) λ_ _ q=>q;rintro rfl;rcases hc with hc|hc
 ·rw[←hc,I.free]at e;cases e
 rw[I.free]at hc;cases hc
def Ends.off(i:Nat)(D:Ends):Ends:={nx:=λ σ H=>D.nx EF H,rt:=D.rt,bk:=λ σ H=>D.bk EF H,ct:=λ σ H=>D.ct EF H}
end
abbrev Cx.tried(X:Cx)(E:Na)(pn:Nd):Cx:={X with xe:=E,pn:=pn}
abbrev Cx.suite(X:Cx)(a:Nc):Cx:={X with A:=X.A.mark (Hj a),calm:=false,xe:=λ_ _=>False}
section
variable{X:Cx}{a7:Nd}{σ:St}{H:Hp}{s:Ni}{E:Na}{a:Nc}
def Cx.Ok.tried(ok:X.Ok)(E:Na)(pn:Nd):(M7 pn).Ok:=
 ⟨ok.mod,ok.kind,ok.glob,ok.blt,ok.above,ok.inj,ok.has,ok.cab,ok.hd,ok.frames,ok.stk,ok.exf,ok.bs,ok.bsz,ok.noex,ok.exfs,ok.funs,ok.frf⟩
def Inv.tried(I:HI)(E:Na):Inv (M7 (X.pn++a7)) [] σ H s:=
 ⟨I.ok.tried E _,I.os,I.bare,I.base,I.loc,I.cell,I.free,I.freeC,λp hp=>Y6 (by rwa[Zq]at hp),I.hok,I.len⟩
def Inv.untried{pn:Nd}{pins':Nd}(ok:X.Ok)(I:Inv (M7 (X.pn++a7)) pins' σ H s):ZA H s:=
 ⟨ok,I.os,I.bare,I.base,I.loc,I.cell,I.free,I.freeC,λp hp=>Y6 EJ,I.hok,I.len⟩
def Inv.suite(I:HI)(a:Nc):Inv (X.suite a) a7 σ H s:=
 ⟨⟨I.ok.mod,I.ok.kind,I.ok.glob,I.ok.blt,I.ok.above,I.ok.inj,I.ok.has,I.ok.cab,(λh=>nomatch h),I.ok.frames,I.ok.stk,I.ok.exf,I.ok.bs,I.ok.bsz,I.ok.noex,I.ok.exfs,I.ok.funs,I.ok.frf⟩,I.os,I.bare,I.base,I.loc,I.cell,I.free,I.freeC,I.pin,I.hok,I.len⟩
def SP.untried{D:Ends}{f:Flow}(ok:X.Ok)(h:SP (M7 (X.pn++a7)) [] D f s):JF D f s:=by
 cases f with
 |next=>obtain⟨σ',H',I,q⟩:=h;exact⟨σ',H',I.untried (pn:=[]) ok,q⟩
 |brk=>obtain⟨σ',H',I,q⟩:=h;exact⟨σ',H',I.untried (pn:=[]) ok,q⟩
 |cont=>obtain⟨σ',H',I,q⟩:=h;exact⟨σ',H',I.untried (pn:=[]) ok,q⟩
 |ret u=>obtain⟨v,σ',H',I,r,q⟩:=h;exact⟨v,σ',H',I.untried (pn:=[]) ok,r,q⟩
end
end L2
namespace L2
open PySem PySem.Spec PyProof.Rows PySem.W PySem.Builtin PySem.Builtin.ObjectAttr PySem.Builtin.Getset_descriptor
structure ExI(K:Nb)(D:Nc):Prop where
 ga:findIn K Sv "__getattribute__" = some (RH (.builtin "BaseException.__getattribute__"))
 nga:findIn K Sv "__getattr__" = some none
 bx:mroIn K D (.type "BaseException")=some true
 at_:findIn K Sv "__class__" = some Ie
 gs:specialIn K Hu "__get__" = some Pr
 tk:takesIn K Hu=some true
 ob:mroIn K D (.type "object")=some true
def ExI.cl{K:Nb}{D:Nc}(c:M8 D):(clsIn K D).isSome=true:=by
 have h:=c.ob;unfold mroIn at h;cases z:clsIn K D with
 |none=>rw[z]at h;cases h
 |some _=>rfl
abbrev ExAt(x:Nc)(cls:Value)(h:No):Prop:=∃o,h.get? x=some o∧o.cls=cls
def ExAt.type{M:Model}{x:Nc}{cls:Value}{h:No}(p:ExAt x cls h):Vs (typeOf T8) cls:=by obtain⟨o,ho,rfl⟩:=p;exact(Looks.ld ho).andThen .now
section
variable{prog:Nk}{w:Nn}{A:Np}{E:Na}{s:Ni}{K:Nb}{x D:Nc}
def ex_find{M:Model}{h:No}(c:M8 D)(X:K.In h)(p:JV h):Vs (find T8 Sv "__class__") (.bind Re Hu):=by have L1:=looks_findIn (M:=M) X c.at_;have L2:Vs (getOf Ie) Pr:=looks_specialIn X c.gs;have L3:=looks_takesIn (M:=M) X c.tk;refine L1.andThen (L2.andThen ?_);exact(show Vs (dataDescriptor? Ie Pr) (RH (Re,Hu)) from L3.andThen .now).andThen (Looks.tag .now)
def ex_class_get{tp:Value}{R:Nx}(X:K.In s.heap)(p:JV s.heap)(hm:mroIn K D (.type "object")=some true)(h:R (Ip Sv) s):codeAny HH A (.call Re ⟨[Hu,T8,tp],[]⟩) R s:=by
 obtain⟨hh,g,dr,t,os⟩:=s;have L0:=p.type (M:=model prog w);have L1:=looks_mroIn (M:=model prog w) X hm;refine codeAny_call_builtin KF.slot_gs.plain KF.entry_gs (KF.slot_gs.check _ _ _ _ _ _ _ _ KF.type_class (KF.args_gs _ _ _) ?_);unfold Builtin.«getset_descriptor.__get__» descrGet;rw[dga_obj];refine wpAny_bind RM;unfold descrGetter descrCheckInstance descrNameAndClass isInstance;simp only[KF.owner_class]
 repeat lk
 refine⟨Dv Hz,codeAny_builtin KF.entry_class ?_⟩;unfold Builtin.«object.__class__» shownTypeOf
 repeat lk
 exact h
def ex_check{M:Model}{nameV:Value}{Q:Unit→Shared→Prop}(c:M8 D)(X:K.In s.heap)(p:JV s.heap)(hq:Q () s):YB (checkBuiltinCall "BaseException.__getattribute__" ⟨[T8,nameV],[]⟩) Q E s:=by
 obtain⟨h,g,d,t,os⟩:=s;have hk:builtinKind "BaseException.__getattribute__" = some .slot:=by decide+kernel
 have kb:splitId "BaseException.__getattribute__" = some ("BaseException", "__getattribute__"):=by decide+kernel
 have ha:=F.args_bexc_ga T8 nameV;have L0:=p.type (M:=M);have L1:=looks_mroIn (M:=M) X c.bx;have LI:Vs (isInstance T8 (.type "BaseException")) true:=L0.andThen L1;simp only[checkBuiltinCall,hk,kb];refine wpAny_bind (LI.at ?_)
 repeat(first|lk|wp_step)
 exact hq
def ex_entry{tk:Tok}{Q:Fin→Shared→Prop}(c:M8 D)(X:K.In s.heap)(p:JV s.heap)(hq:Q (.done (.ret Sv)) s):ZG (Builtin.«object.__getattribute__» ⟨[T8,.str "__class__" tk],[]⟩) Q E s:=by have p':=p;have X':=X;obtain⟨h,g,d,t,os⟩:=s;have L0:=p.type (M:=model prog w);have M1:=ex_find (M:=model prog w) c X p;refine wpAny_bind (CJ (wpAny_bind (RP (La (Looks.at L0 (HN (M1.at ?_)))))));show ZQ _ (holding _ (call _ [_,T8,Sv]) >>= ret) _ _ _;exact wpAny_bind (EN (wpAny_call (ex_class_get (s:=⟨h,g,d,t,os⟩) X p c.ob (RP hq))))
def ex_class{Q:Option Value→Shared→Prop}(c:M8 D)(X:K.In s.heap)(p:JV s.heap)(h:Q (Hj D) {s with toks:=s.toks+1}):ZG (getAttr? T8 "__class__") Q E s:=by
 obtain⟨hh,g,d,t,os⟩:=s;have L0:=p.type (M:=model prog w);have L1:=looks_findIn (M:=model prog w) X c.ga;have L2:=looks_findIn (M:=model prog w) X c.nga;have qH:(Value.builtin "BaseException.__getattribute__" == Value.builtin "object.__getattribute__")=false:=by decide+kernel
 have f3:=PySem.F.excAttr_ValueError.ga.bind T8;unfold getAttr? getAttrBy? getAttrBy;refine wpAny_bind (wpAny_mkText (wpAny_bind (wpAny_attempt (EN (La (Looks.at L0 (HN (L1.at ?_))))))));dsimp only;rw[if_neg (by rw[qH,Bool.and_false];exact Zj)];unfold getAttrByItsOwn hookBefore;rw[if_pos (show onTheHeap (Lg D)=true from rfl)];refine wpAny_bind (Looks.at L2 (HN (Lf (wpAny_holding ?_))));unfold callGetattribute;rw[if_neg (by exact Zj)];unfold boundAndCalled;rw[f3];refine wpAny_bind RM;show ZQ _ (call (.builtin "BaseException.__getattribute__") [T8,.str "__class__" t]) _ _ _;refine wpAny_call (codeAny_call_builtin PySem.F.excAttr_ValueError.ga.plain PySem.F.entry_bexc_ga (ex_check (s:=⟨hh,g,d,t+1,os⟩) c X p (ex_entry (s:=⟨hh,g,d,t+1,os⟩) c X p ?_)));show ZQ _ (handedOut Sv) _ _ _;exact handed_on rfl (RP h)
theorem ex_kit{K:Nb}{x D:Nc}(c:M8 D):KitX K T8 Sv (ExAt x Sv) where
 ty:=λ_ _ _ p=>p.type
 it:=λ_ _ X _=>by
  have iO:=c.cl;unfold clsIn at iO;split at iO
  ·rename_i c' d' cd' lO ho;intro A' Q' E' s' k q;unfold isType loadHead;exact wpAny_bind (wpAny_loadPart (k _ _ (X _ _ ho)) (RP q))
  cases iO
 ne:=λh tp dd a8 n sl X iC=>by
  have iO:=c.cl;refine Bool.eq_false_iff.mpr λq=>?_;have e:D=tp:=Value.ref.inj (SS q);subst e;unfold clsIn at iO;split at iO
  ·rename_i c' d' cd' lO ho;have z:=(X _ _ ho).symm.trans iC;cases z
  cases iO
 ca:=λX p k=>ex_class c X p k
end
end L2
namespace L2
open PySem PySem.Spec PyProof.Rows
section
variable{X:Cx}
def zgu(hu:X.A.units<cLine):WH Cy (λx y H Q=>Ex3 λl b zs=>Aj5 (x=.ref l) (y=.ref b) (QT l Og) (QT b Og) (Q Tz H)):=by
 intro a7 s σ H x y v u Q I rx ry h;obtain⟨l,b,zs,rfl,rfl,h1,h2,q⟩:=h;cases rx;cases ry;obtain⟨a8,r,pl,_⟩:=I.list h1;obtain⟨aD,r2,du,_⟩:=I.list h2;have l1:=r.length;have l2:=r2.length;refine SeqAt.eq_listAt (e:=λ_=>true) pl.isList du.isList (by rw[Qt,Qt];lia) hu (λj j1 j2=>?_) ⟨Tz,H,I,?_,q⟩
 ·have a1:j < (QY zs).length:=by rw[l1];simpa using j1
  have a2:j<zs.length:=by simpa using a1
  have g:(QY zs)[j]?=some (.str zs[j]):=by simp[a2]
  obtain⟨u1,e1,t1,rfl⟩:=r.get g;obtain⟨u2,e2,t2,rfl⟩:=r2.get g;rw[Uh,Uh,(Cm e1).2,(Cm e2).2];have:=Ui (A:=X.A.in1) (s:=s) zs[j] t1 zs[j] t2;rw[beq_self_eq_true]at this;exact this
 show Value.bool _=Value.bool true;simp
variable{K:Nb}{o e tg l:Expr}{es:Nr}{to tl:TE}{t:TA}{name:Str}{apos cpos:Pos}{T id:String}{r:V→List V→Hp→VK→Prop}
def pi_listK(hK:X.K=K)(hl:O5):JG l (iList K tl):=hK▸za6 hl
end
def lc_words{K:Nb}{g:TG}{tc:TT}{te:TE}{Q:VK}{a:Nc}{τ:St}{H:Hp}{as:Nl}{ps:List (Str×Bool)}(T:St→Prop)(ha:WU a Sj)(hp:Paired (λa p=>H a=some (.tup [.str p.1,.bl p.2])) as ps)(hn:as.length≤sizeLine)(h0:T τ)(hs:∀b w t,H b=some (.tup [Sw w,.bl t])→∀τ,T τ→∀(k1:V→St→Hp→Prop) (k0:St→Hp→Prop),(t=true→∀τ2,T τ2→k1 (Sw w) τ2 H)→(t=false→∀τ2,T τ2→k0 τ2 H)→g Io τ H λ τ2 H2=>tc τ2 H2 λb H3=>if b=true then te τ2 H3 λy H4=>k1 y τ2 H4 else k0 τ2 H3)(q:∀D,H D=none→Q Sv (ZS D (.lst ((ps.filter (·.2)).map λp=>V.str p.1)))):M9 H:=by
 have hl:=Zh hp;have at_:∀{as:Nl} {ps:List (Str×Bool)} (i:Nat),Paired (λa p=>H a=some (.tup [.str p.1,.bl p.2])) as ps→∀(h1:i<as.length) (h2:i<ps.length),H as[i]=some (.tup [.str ps[i].1,.bl ps[i].2]):=by
  intro as ps i r;induction r generalizing i with
  |nil=>intro h1;cases h1
  |cons h t ih=>
   intro h1 h2;cases i with
   |zero=>exact h
   |succ i=>exact ih i (Kw h1) (Kw h2)
 have gS:(as.map V.ref).length=as.length:=Qa ..;refine⟨λi m ys τ H1=>Aj5 (H1=H) (T τ) (m=as.length-i) (i≤as.length) (ys=((ps.take i).filter (·.2)).map λp=>V.str p.1),⟨_,rfl,h0,rfl,Tq,rfl⟩,?_⟩;rintro i m ys τ H1 ⟨rfl,ht,rfl,hi,rfl⟩;by_cases ae:i<as.length
 ·have uJ:i < ps.length:=by lia
  refine .inr ⟨⟨Sj,.ref as[i],ha,by rw[Qo,Qb ae];rfl⟩,?_,?_⟩
  ·rw[Qa];exact Yh (Wv ..) ym
  rintro x H' ⟨rfl,hx⟩;have bh:=hx _ ha;rw[Qo,Qb ae]at bh;have iq:V.ref as[i]=x:=Qn bh;subst iq;have tk:ps.take HY=ps.take i++[ps[i]]:=Qk uJ;have bv:=at_ i hp ae uJ;generalize ps[i]=p at tk bv;refine hs as[i] p.1 p.2 bv τ ht _ _ (λht τ2 h2=>?_) (λht τ2 h2=>?_)
  ·exact⟨_,Hy,rfl,h2,rfl,ae,by rw[tk,Yq,Qp,Yd (by exact ht)];rfl⟩
  exact⟨_,Hy,rfl,h2,rfl,ae,by rw[tk,Yq,Qp,Yf (by rw[ht];decide)];simp⟩
 have e:i=as.length:=by lia
 subst e;refine .inl ⟨⟨Sj,ha,HS gS⟩,λD hD=>?_⟩;rw[Qr Hc];exact q D hD
section
variable{X:Cx}
def zhl:YH (.builtin "isinstance") (λxs H Q=>Ex4 λ(x:V) (T:String) (t:Value) (b:Bool)=>Aj4 (xs=[x,.ty T]) (NF t) (XG Ib=some b) (Ca b)):=by intro a7 s σ H xs us Q I r h;obtain⟨x,T,t,b,rfl,ty,e,q⟩:=h;obtain⟨u,w',rfl,rx,e2⟩:=vals2 r;have e':w'=Value.type T:=e2;subst e';exact FX e λtk=>⟨Eg,H,Sm,rfl,q⟩
end
end L2
namespace L2
open PySem
def ps_no:K0 st (λ_ _ _=>False):=λ_ _ _ _ _ _ h=>h.elim
def pe_tyN(hg:Vk x)(hm:X.mg x=none)(hv:bootBuiltins x=some Ib)(hn:x ≠ "__name__" :=by decide)(cY:Rc=false:=by decide):Z7 Es (tC (.ty T)):=by intro a7 s σ H Q I h;exact Bp hv ⟨.ty T,H,I,rfl,h⟩ hn cY
end L2
namespace K21
open PySem L2 Wb
abbrev ziy:Stmt:=top 16
inductive Odd(H:Hp):V→Prop
 |tx (z:Str) (h:z.cps.all (· < 128)=true) (h2:z.cps.size≤1000):Odd H (.str z)
 |non:Odd H .non
 |bl (b:Bool):Odd H (.bl b)
 |int (i:Int):Odd H (.int i)
 |ls (a:Nc) (xs:List V) (h:H a=some (.lst xs)):Odd H (.ref a)
 |tp (a:Nc) (xs:List V) (h:H a=some (.tup xs)):Odd H (.ref a)
def Odd.keep{H H':Hp}{v:V}(h:Vc v)(k:Keep [] H H'):Odd H' v:=by
 cases h with
 |tx z h h2=>exact .tx z h h2
 |non=>exact .non
 |bl b=>exact .bl b
 |int i=>exact .int i
 |ls a xs h=>exact .ls a xs (k _ _ h Hb)
 |tp a xs h=>exact .tp a xs (k _ _ h Hb)
def sgn(c:Nat):Bool:=decide (97≤c∧c≤122)
def nmS(z:Str):Bool:=decide (1≤z.cps.size∧z.cps.size≤8)&&z.cps.toList.all sgn
def nmV:V→Bool
 |.str z=>nmS z
 |_=>false
def zef{z:Str}:nmS z=true↔zbf z:=by
 unfold nmS zbf sgn;rw[Wf,decide_eq_true_iff,Zw,and_assoc];constructor
 ·rintro⟨h1,h2,h3⟩;exact⟨h1,h2,λc hc=>of_decide_eq_true (h3 c hc)⟩
 rintro⟨h1,h2,h3⟩;exact⟨h1,h2,λc hc=>decide_eq_true (h3 c hc)⟩
def zgb{H:Hp}{z:Str}(h:zbf z):Vc CO:=by refine .tx z ?_ (Zn h.2.1 Hg);rw[Array.all_eq_true];intro i hi;have:=h.2.2 z.cps[i] (by rw[Array.mem_toList_iff];exact Array.getElem_mem hi);exact decide_eq_true Hc
inductive IspIsName(vs:List V)(H:Hp)(Q:VK):Prop
 |mk (v:V) (h0:vs=[v]) (h1:Odd H v) (h2:∀H',Keep [] H H'→Q (.bl (nmV v)) H'):IspIsName vs H Q
def zf6:Sp:=λvs H Q _=>IspIsName vs H Q
def nd1:(["sign"]:List Str).Nodup:=by decide+kernel
section
variable{P:Nk}{w:Nn}{K:Nb}{mg:Nh}{base:No}
def scIsName:zam ["thing"] ["thing"] (zaj ziy):=fsk
def ok_isname(F:Z5 "is_name" "is_name" ziy f fd)(hML:mg "MOST_LETTERS" = some (Lj 8 tk))(br:mg "isinstance" = none)(fM:mg "str" = none)(ad:RE)(am:mg "all" = none):ZB 1 f fd ["thing"] zf6:=by
 refine F.okL scIsName Hi;obtain⟨v,rfl,hv,k⟩:=h;have hu:=zb9 hr;have aH  :=sizeLine_eq;refine⟨_,zae (Am (OI (zah zhl Ho br Yw (Lq (pe_tyN (T:= "str") rfl fM PyProof.Rows.boot_str)))) (zag xb))
  (zag (zaz (pe_and (pe_chain op_le op_le zai (C5 SA) (zee (v:=.int 8) rfl hML ⟨tk,rfl⟩))
   (pe_one (Fi Ho am PyProof.Rows.boot_all (zaa (zd5 (M:=["sign"]) (ix:=[none]) (mkB scIsName) rfl (pi_str Sd) (λC a7 ex s H=>UQ nd1)
      (λC a7 ex s H=>zbw) (λC a7 ex s H=>pe_chain op_le_str op_le_str za8 Sd za8)) zac)))))),?_⟩
 cases hv with
 |non=>exact⟨xf,_,_,_,false,rfl,.non,rfl,xf,Q6 SR⟩
 |bl b=>exact⟨xf,_,_,_,false,rfl,Eg,rfl,xf,Q6 SR⟩
 |int i=>exact⟨xf,_,_,_,false,rfl,OT,rfl,xf,Q6 SR⟩
 |ls a xs h=>exact⟨xf,_,_,_,false,rfl,Hv h,rfl,xf,Q6 SR⟩
 |tp a xs h=>exact⟨xf,_,_,_,false,rfl,.tup h,rfl,xf,Q6 SR⟩
 |tx z asc hz0=>
 refine⟨xf,_,_,_,true,rfl,CO,rfl,xf,QF ?_⟩;refine⟨xf,z,rfl,(by show z.cps.size≤sizeLine;lia),_,xf,rfl,xf,?_⟩;have nof:¬(1≤z.cps.size∧z.cps.size≤8)→Q S9 H:=λq=>by
  have e:nmV CO=false:=by show nmS z=false;unfold nmS;rw[decide_eq_false q];rfl
  have:=k H Keep.refl;rwa[e]at this
 rcases Ji z.cps.size 1 with h1|h1
 ·exact zaw (Se (by show ¬(1:Int)≤(z.cps.size:Int);lia)) ⟨_,rfl,QF (nof λq=>by lia)⟩
 refine za4 (Rh (by show(1:Int)≤(z.cps.size:Int);lia)) ?_;refine⟨_,xf,rfl,xf,?_⟩;rcases Ji 8 z.cps.size with h2|h2
 ·exact zaw (Se (by show ¬(z.cps.size:Int)≤8;lia)) (nof λq=>by lia)
 refine za4 (Rh (by show(z.cps.size:Int)≤8;lia)) ?_;refine⟨xf,z,rfl,asc,λi m ys τ H1=>Aj5 (H1=H) (m=z.cps.size-i) (i≤z.cps.size) (ys=((EG i).map sgn).map V.bl) (Ex1 λx0=>τ=[x0]),⟨_,rfl,rfl,Tq,rfl,none,rfl⟩,?_⟩;rintro i m ys τ H1 ⟨rfl,rfl,hi,rfl,x0,rfl⟩;by_cases ae:i<z.cps.size
 ·refine .inr ⟨ae,by rw[Qa,Qa,Za];lia,?_⟩;rintro y H' ⟨rfl,c,hc,rfl⟩;have eN:i<z.cps.toList.length:=by rw[Zy];exact ae
  have rA:z.cps.toList[i]=c:=by rw[Yp ae]at hc;rw[Xl];exact Qn hc
  have tk:(EG HY).map sgn=(EG i).map sgn++[sgn c]:=by rw[Qk eN,Qp,rA];rfl
  have l1:(!decide ((⟨#[c]⟩:Str).cps.toList<("a" : Str).cps.toList))=decide (97≤c):=by
   rw[show("a" : Str).cps.toList=[97] from by decide+kernel];show(!decide ([c]<[97]))=_;rw[Yn,Wi,decide_eq_false_iff_not,decide_eq_true_iff,List.cons_lt_cons_iff];constructor
   ·intro h;exact Xg λq=>h PZ
   rintro h (q|⟨_,q⟩)
   ·lia
   exact Ux _ q
  have l2:(!decide (("z" : Str).cps.toList<(⟨#[c]⟩:Str).cps.toList))=decide (c≤122):=by
   rw[show("z" : Str).cps.toList=[122] from by decide+kernel];show(!decide ([122]<[c]))=_;rw[Yn,Wi,decide_eq_false_iff_not,decide_eq_true_iff,List.cons_lt_cons_iff];constructor
   ·intro h;exact Xg λq=>h PZ
   rintro h (q|⟨_,q⟩)
   ·lia
   exact Ux _ q
  refine⟨xf,_,xf,rfl,xf,?_⟩;rw[l1];by_cases bu:97≤c
  ·refine za4 (Rh bu) ⟨_,_,rfl,rfl,_,zar1 ‹_›,rfl,rfl,ae,?_,_,rfl⟩;rw[tk,Qp,l2];unfold sgn;rw[show decide (97≤c∧c≤122)=decide (c≤122) from decide_eq_decide.mpr ⟨λq=>q.2,λq=>⟨bu,q⟩⟩];rfl
  refine zaw (Se bu) ⟨_,zar1 ‹_›,rfl,rfl,ae,?_,_,rfl⟩;rw[tk,Qp,show sgn c=false from decide_eq_false λq=>bu q.1];rfl
 have e:i=z.cps.size:=by exact zar3 ‹_› ‹_›
 subst e;refine .inl ⟨HM,λD hD=>?_⟩;rw[Qr (HS Zy)];refine⟨D,z.cps.toList.map sgn,rfl,Ef,?_⟩;have e:nmV CO=(z.cps.toList.map sgn).all id:=by show nmS z=_;unfold nmS;rw[decide_eq_true ⟨h1,h2⟩,Bool.true_and,List.all_map];rfl
 rw[←e];exact k _ (Ht hD)
end
end K21
namespace SetD
open PySem PyProof.Rows PySem.Spec
def dd(l:Ng):List Str:=l.foldl (λa x=>if x∈a then a else a++[x]) []
def dd_snoc(l:Ng)(x:Str):dd (l++[x])=if x∈dd l then dd l else dd l++[x]:=by unfold dd;rw[List.foldl_append];rfl
def dd_all(l:Ng):(dd l).Nodup∧(∀ x,x∈dd l↔x∈l)∧(dd l).length≤l.length∧((dd l).length=l.length↔l.Nodup):=by
 have key:∀n (l:Ng),l.length=n→(dd l).Nodup∧(∀x,x∈dd l↔x∈l)∧(dd l).length≤l.length∧((dd l).length=l.length↔l.Nodup):=by
  intro n;induction n with
  |zero=>intro l h;rw[Xj h];exact⟨Zs,λ_=>Iff.rfl,HM,λ_=>Zs,λ_=>rfl⟩
  | succ n ih=>
   intro l h;have az:l≠[]:=λe=>by rw[e]at h;cases h
   obtain⟨t,x,rfl⟩:∃t x,l=t++[x]:=⟨l.dropLast,l.getLast az,(List.dropLast_concat_getLast az).symm⟩;rw[Qm,Uc]at h;obtain⟨h1,h2,h3,h4⟩:=ih t Hc;rw[dd_snoc];have hx:x∈dd t↔x∈t:=h2 x;by_cases q:x∈dd t
   ·rw[Sk q];refine⟨h1,λy=>?_,HG Qm,λe=>?_,λnd=>?_⟩
    ·rw[h2,Qe,Qc];exact⟨.inl,λz=>z.elim id λz=>z▸hx.mp q⟩
    ·rw[Qm,Uc]at e;lia
    rw[Zf]at nd;exact absurd rfl (nd.2.2 x (hx.mp q) x Qd)
   rw[Sz q,Qm,Qm,Uc];have nd1:∀{u:Ng},u.Nodup→x∉u→(u++[x]).Nodup:=λ{u} hu hn=>by rw[Zf];exact⟨hu,EO ⟨Hb,Zs⟩,λa ha b hb e=>hn (by rw[Qc.mp hb]at e;exact e▸ha)⟩
   refine⟨nd1 h1 q,λy=>by rw[Qe,Qe,h2],Hc,λe=>nd1 (h4.mp Hc) λz=>q (hx.mpr z),λnd=>?_⟩;rw[h4.mpr (Zf.mp nd).1]
 exact key _ l rfl
def cn(l:Ng):Nat:=(dd l).length
def cn_le(l:Ng):cn l≤l.length:=(dd_all l).2.2.1
def cn_snoc(l:Ng)(x:Str):cn (l++[x])=if x∈l then cn l else cn l+1:=by
 unfold cn;rw[dd_snoc];by_cases h:x∈l
 ·rw[if_pos ((dd_all l).2.1 x |>.mpr h),if_pos h]
 rw[if_neg (λz=>h ((dd_all l).2.1 x |>.mp z)),if_neg h,Qm];rfl
section
variable{prog:Nk}{w:Nn}{A:Np}{R:Nx}{I:Nc}{fp wr:Nl}{G:Array GenState→Array GenState→Prop}{n:Nat}{P:Nat→Value→Prop}{St:Nat→Shared→Prop}
def loop(W:WalksS prog w A.in1 I fp wr G n P St)(S:Nc)(rF:S∉fp)(zs:Ng)(hz:zs.length=n)(iz:∀i v,P i v→∃t,v=.str (SI i) t)(hb:n+1<scanBound) :
  ∀(k i:Nat) (s:Ni),n-i=k→i≤n→St i s→s.heap.SetOf E5 S (λx=>decide (x∈zs.take i)) (cn (OA i)) →
   (∀s',Moved (S::wr) G s s'→s'.heap.SetOf E5 S (λx=>decide (x∈zs.take n)) (cn (OA n))→R (.ok Ey) s')→codeAny HH A (.builtin "set.update.loop" ⟨[Hf S,Hf I],[]⟩) R s:=by
 have hSw:S∉wr:=λh=>rF (W.sub _ h);have sub:∀b∈wr,b∈S::wr:=λb q=>QL q;intro k;induction k with
 |zero=>
  intro i s hk hi av hS hR;obtain rfl:i=n:=by lia
  refine codeAny_builtin F.entry_set_update_loop ?_;rw[Mn _];show ZQ A.in1 (pyNext (Hf I) >>= _) _ _ s;refine wpAny_bind (W.done s _ _ av λs' hm=>(show ZQ A.in1 (ret Value.none) _ _ s' from wpAny_pure (hR s' (hm.mono sub) ?_)));obtain⟨o,es,ep,t,ho,rest⟩:=hS;exact⟨o,es,ep,t,hm.heap S _ hSw ho,rest⟩
 |succ k ih=>
  intro i s hk hi av hS hR;have lt:i<n:=by lia
  refine codeAny_builtin F.entry_set_update_loop ?_;rw[Mn _];show ZQ A.in1 (pyNext (Hf I) >>= _) _ _ s;refine wpAny_bind (W.item i s _ _ lt av λv s' hP ka hm=>?_);obtain⟨t,rfl⟩:=iz i v hP;have aB:i<zs.length:=by exact zar6 ‹_› ‹_›
  have eg:zs.getD i Str.empty=zs[i]:=by simp[List.getD,aB]
  rw[eg];have gE:s'.heap.SetOf E5 S (λx=>decide (x∈zs.take i)) (cn (OA i)):=by obtain⟨o,es,ep,tb,ho,rest⟩:=hS;exact⟨o,es,ep,tb,hm.heap S _ hSw ho,rest⟩
  show ZQ A.in1 (holding [Value.str zs[i] t] (setAdd S (.str zs[i] t)) >>= _) _ _ s';refine wpAny_bind (wpAny_holding ?_);unfold setAdd;refine wpAny_holding (HN ((Z2 w).pyHash (k:=zs[i]) (by simp[PySem.strKind,Value.isStrOf]) ?_));refine wpAny_setAddHashed_of (knd:=Z2 w) (k:=zs[i]) (by simp[PySem.strKind,Value.isStrOf]) rfl gE (by have:=cn_le (OA i);rw[Za]at this;lia) λg sb vB=>?_;have hSi:g.SetOf E5 S (λx=>decide (x∈zs.take HY)) (cn (OA HY)):=by refine SetOf_congr vB (λx=>?_) (by rw[Qk aB,cn_snoc];by_cases q:zs[i]∈zs.take i<;>simp[q]);rw[Yn];simp only[Jd,decide_eq_true_eq];rw[Qk aB,Qe,Qc]
  refine wpAny_pure ⟨plainId_quiet F.plain_set_update_loop _,ih HY _ Hc lt (W.frame _ s' _ _ ka (by first|exact Qi _|exact Kt _) λb q o e=>?_) hSi λs2 bG hS3=>hR s2 (Moved.trans W.gtrans ((hm.mono sub).then_heap (by first|exact Qi _|exact Kt _) λb o q e=>?_) bG) hS3⟩
  ·rw[sb.2 b (λz:b=S=>rF (by rw[←z];exact q))];exact e
  rw[sb.2 b (λz:b=S=>q AJ)];exact e
variable{E:Na}{s:Ni}
def call_gen{x:Value}{zs:Ng}{Q:Na}(hh:A.handled=none)(fe:∀ (led:Bool) (B:Np) (F:Na) (R:Unit→Shared→Prop),B.handled=none→(∀ (g:No) (tk:Nat),g.SetOf E5 s.heap.objs.size (λx=>decide (x∈zs)) (cn zs)→(∀ b o,s.heap.get? b=some o→g.get? b=some o)→R () { s with heap:=g,toks:=tk }) →
   wpAny HH B (Builtin.Frozenset.updateFrom "set.__init__" s.heap.objs.size x) R F {s with heap:=s.heap.push {cls:=.type "set",dict:=none,data:=.set #[] 0 Sh}})(h:∀(g:No) (tk:Nat),g.SetOf E5 s.heap.objs.size (λx=>decide (x∈zs)) (cn zs)→HF→Q Hr {s with heap:=g,toks:=tk}) :
  wpAny HH A (call (.type "set") [x]) Q E s:=by
 obtain⟨c,tl,hmro⟩:=Uw.mro;have hmade:=Uw.made;have dw:=Uw.sub;refine wpAny_call (codeAny_of_tree (show ZQ _ (callAny (.type "set") _) _ _ _ from wpAny_pure ⟨Dv Hz,codeAny_builtin PySem.F.entry_type_call ?_⟩));rw[Around.under_plain (weight_type_call_type "set" [x] []) rfl];have h1:=Uw.notType;have h2:=Uw.canCreate;have mJ:=PySem.F.typeCall_set_1 x
 repeat(any_goals (first|assumption|wp_step))
 refine codeAny_mono (code_set_new_1 x (E:=E) (Q₁:=λobj s₁=>∃led:Bool,obj=.ref s.heap.objs.size∧s₁={s with heap:=s.heap.push {cls:=.type "set",dict:=none,data:=.set #[] 0 Sh}}) λled=>⟨led,rfl,rfl⟩) λr s1 hr=>?_;cases r with
 |error e=>exact hr
 | ok fl=>
  cases fl with
  | ret obj=>
   obtain⟨led,rfl,rfl⟩:=hr;have hS:(s.heap.push {cls:=.type "set",dict:=none,data:=.set #[] 0 Sh}).get? s.heap.objs.size=some {cls:=.type "set",dict:=none,data:=.set #[] 0 Sh}:=UE rfl;have hT:Shared.TypeIs {s with heap:=s.heap.push {cls:=.type "set",dict:=none,data:=.set #[] 0 Sh}} Hr "set" :=⟨_,hS,rfl⟩;have hli:=Uw.init.lookup;have hbi:=Uw.init.bind Hr
   repeat(any_goals (first|assumption|wp_step))
   refine codeAny_mono (codeAny_call_builtin (R:=wants (λr s₂=>r=.none∧∃g tk,s₂={s with heap:=g,toks:=tk}∧g.SetOf E5 s.heap.objs.size (λx=>decide (x∈zs)) (cn zs)∧HF) E)
    Uw.init.plain PySem.F.entry_set_init (check_set_init_1 hT ?_)) λr2 s2 bQ=>?_
   ·unfold Builtin.«set.__init__» noKeywords;generalize hU:Builtin.Frozenset.updateFrom=U;wp_walk;subst hU;refine fe led _ _ _ (Sa hh) λg tk gE hk=>?_;exact wpAny_pure ⟨rfl,g,tk,rfl,gE,hk⟩
   cases r2 with
   |error e=>exact bQ
   | ok fl2=>
    cases fl2 with
    |ret r=>
     obtain⟨rfl,g,tk,rfl,gE,gT⟩:=bQ
     repeat(any_goals (first|assumption|wp_step))
     exact h _ _ gE gT
    |_=>exact bQ.elim
  |_=>exact hr.elim
def call_set{l:Nc}{a8:Nj}{zs:Ng}{Q:Na}(hh:A.handled=none)(hl:s.heap.IsList l a8.toArray)(hz:zs.length=a8.length)(iz:∀(i:Nat) (v:Value),a8[i]?=some v→∃t,v=.str (SI i) t)(hb:a8.length+1<scanBound)(h:∀(g:No) (tk:Nat),g.SetOf E5 s.heap.objs.size (λx=>decide (x∈zs)) (cn zs)→HF→Q Hr {s with heap:=g,toks:=tk}) :
  wpAny HH A (call (.type "set") [Tb]) Q E s:=by
 refine call_gen hh (λled B F R hB h=>?_) h;obtain⟨ol,kC,cI,nl,gW⟩:=hl;obtain⟨ocls,odict,odata,oslots⟩:=ol;simp only at cI gW;subst cI;subst gW;have hS:(s.heap.push {cls:=.type "set",dict:=none,data:=.set #[] 0 Sh}).get? s.heap.objs.size=some {cls:=.type "set",dict:=none,data:=.set #[] 0 Sh}:=UE rfl;have ur:(s.heap.push {cls:=.type "set",dict:=none,data:=.set #[] 0 Sh}).get? l=some {cls:=.type "list",dict:=odict,data:=.seq a8.toArray nl,slots:=oslots}:=QQ kC;have hsls:=PySem.F.sub_list_set;have hslf:=PySem.F.sub_list_frozenset;have az:(Value.type "list" == Value.type "dict")=false:=by decide
 have ax:(s.heap.push {cls:=.type "set",dict:=none,data:=.set #[] 0 Sh}).IsList l a8.toArray:=⟨_,ur,rfl,nl,rfl⟩;unfold Builtin.Frozenset.updateFrom;generalize hPI:pyIter=PI;wp_walk;subst hPI;refine wpAny_pyIter_list ax (HN (wpAny_runValue ?_));have hlS:l<s.heap.objs.size:=Qu kC;have z1:(s.heap.push {cls:=.type "set",dict:=none,data:=.set #[] 0 Sh}).objs.size=s.heap.objs.size+1:=Ut ..;have uz:l≠(s.heap.push {cls:=.type "set",dict:=none,data:=.set #[] 0 Sh}).objs.size:=by rw[z1];exact Zi (Js hlS)
 have rF:s.heap.objs.size∉[(s.heap.push {cls:=.type "set",dict:=none,data:=.set #[] 0 Sh}).objs.size,l]:=by rw[z1];simp only[Qj,List.not_mem_nil,or_false,not_or];exact⟨Zi z4,Yo hlS⟩
 refine loop ((Walks.list (Sa hB) _ l uz a8.toArray).toS) s.heap.objs.size rF zs (Hm Qt hz) (λi v hv=>iz i v (Hd hv)) (Hm Qt hb) _ 0 _ rfl Tq ⟨⟨_,Tc,rfl,rfl⟩,(ax.push _)⟩ ?_ ?_
 ·exact SetOf_congr ((setObjOf_fresh (knd:=Z2 w) led).setOf (QQ hS) (by unfold scanBound;exact K' _)) (λ_=>by simp) rfl
 intro s' hm gE;obtain⟨g,g',d',nh,sO⟩:=s';have eg:g'=s.gens:=hm.gens;have ed:d'=s.drawn:=hm.drawn;have eo:sO=s.os:=hm.os;subst eg;subst ed;subst eo;show ZQ _ _ _ _ _;refine wpAny_pure (h g nh ?_ λb o e=>?_)
 ·have e1:a8.toArray.size=zs.length:=by rw[Qt,hz]
  rw[e1,Qr HM]at gE;exact gE
 have vp:b < s.heap.objs.size:=Qu e;refine hm.heap b o ?_ (QQ Cz);rw[z1];simp only[Qj,List.not_mem_nil,or_false,not_or];exact⟨Zi vp,Zi (Js vp)⟩
end
end SetD
namespace L2
open PySem PySem.Spec PyProof.Rows
def setD(P:Nk)(w:Nn)(a:Nc)(zs:Ng):HO:=.ext λh=>h.SetOf (PySem.strKind P w) a (λx=>decide (x∈zs)) Oh
section
variable{X:Cx}
def zdx(hc:X.calm=true):YH (.type "set") (λxs H Q=>Ex2 λ(p:Nc) (zs:Ng)=>Aj4 (xs=[TR]) (QT p Sb) (zs.length≤1000) (∀l,H l=none→Q Tb (ZS l (Q1 l zs)))):=by
 intro a7 s σ H xs us Q I r h;obtain⟨p,zs,rfl,hq,hz,q⟩:=h;obtain⟨u,rfl,rx⟩:=vals1 r;cases rx;obtain⟨a8,rv,pl,_⟩:=I.list hq;have hl:=rv.length;rw[Qa]at hl;refine SetD.call_set (zs:=zs) SO pl.isList hl (λi v e=>?_) (by unfold scanBound;lia) λg tk hS k=>?_
 ·have hi:i < a8.length:=(Cm e).1;have aB:i<zs.length:=by exact zar6 ‹_› ‹_›
  obtain⟨u,e2,t,e3⟩:=rv.get (i:=i) (x:=.str zs[i]) (Sa aB);rw[e]at e2;cases e2;exact⟨t,by rw[e3];simp[List.getD,aB]⟩
 refine⟨Hf _,_,I.laid (t':=tk) k HM (show ZY _ g _ Ax from⟨hS,?_,λh1 h2 p1 k1=>?_⟩),rfl,AC⟩
 ·obtain⟨o,_,_,_,e,_⟩:=hS;exact⟨o,e⟩
 obtain⟨o,es,ep,t,e,rest⟩:=p1;exact⟨o,es,ep,t,k1 o e,rest⟩
def zfa:YH (.builtin "len") (λxs H Q=>Ex2 λ(p:Nc) (zs:Ng)=>Aj4 (xs=[TR]) (RU p (Q1 p zs)) (zs.length≤1000) (Q (SX Oh) H)):=by intro a7 s σ H xs us Q I r h;obtain⟨p,zs,rfl,hq,hz,q⟩:=h;obtain⟨u,rfl,rx⟩:=vals1 r;cases rx;obtain⟨⟨o,es,ep,t,ho,l0,hd,mH,iH,hb,hf,hn⟩,_⟩:=(show ZY H s.heap p (Q1 p zs) from XU hq);exact call_len_set ho l0 hd hf (by rw[hn];have:=SetD.cn_le zs;lia) ⟨SX Oh,H,Sm,⟨_,by rw[hn]⟩,q⟩
end
end L2
namespace L2
open PySem
def lc_at(T:St→Prop)(ys:List V)(hl:ys.length=xs.length)(ha:WU a xs)(hn:xs.length≤sizeLine)(h0:T τ)(hs:∀(i:Nat) (hi:i<xs.length) (di:i<ys.length),∀τ,T τ→∀k:V→St→Hp→Prop,(∀τ2,T τ2→k ys[i] τ2 H)→g xs[i] τ H λ τ2 H2=>te τ2 H2 λy H4=>k y τ2 H4)(q:∀D,H D=none→Q Sv (TB D ys)):ML H:=by
 refine⟨λi m zs τ H1=>Aj5 (H1=H) (T τ) (m=xs.length-i) (i≤xs.length) (zs=ys.take i),⟨_,rfl,h0,rfl,Tq,rfl⟩,?_⟩;rintro i m zs τ H1 ⟨rfl,ht,rfl,hi,rfl⟩;by_cases ae:i<xs.length
 ·refine .inr ⟨⟨xs,xs[i],ha,Qb ae⟩,by rw[Za];lia,?_⟩;rintro x H' ⟨rfl,hx⟩;have bh:=hx xs ha;rw[Qb ae]at bh;have iq:xs[i]=x:=Qn bh;rw[←iq];refine hs i ae (by exact zar6 ‹_› ‹_›) τ ht (λy τ2 H4=>∃m',m'<xs.length-i∧Aj5 (H4=H') (T τ2) (m'=xs.length-HY) (i+1≤xs.length) (ys.take i++[y]=ys.take HY)) λ τ2 h2=>?_;exact⟨_,Hy,rfl,h2,rfl,ae,by rw[Qk (by exact zar6 ‹_› ‹_›:i<ys.length)]⟩
 have e:i=xs.length:=by exact zar3 ‹_› ‹_›
 refine .inl ⟨⟨xs,ha,Hc⟩,λD hD=>?_⟩;rw[Qr Hc];exact q D hD
end L2
namespace K21
open PySem L2 Wb
structure RwAt(H:Hp)(l:Nc)(as:Nl)(es:List Ent):Prop where
 ls:H l=some PB
 ts:Paired (HX H) as es
 ro:∀e∈es,H e.2.2=some Ll
def RwAt.keep(r:VC es)(k:Keep [] H H'):NP l as es:=
 ⟨k _ _ r.ls Hb,Paired.imp' (λ_ _ h=>k _ _ h Hb) r.ts,λe he=>k _ _ C4 Hb⟩
abbrev zf7:Stmt:=top 17
abbrev sTwice:Stmt:=top 18
abbrev ziw:Stmt:=top 19
abbrev Ro:=V×List V×Addr
structure RoAt(H:Hp)(l:Nc)(as:Nl)(rs:List Ro):Prop where
 ls:H l=some PB
 ts:Paired (λa (r:Ro)=>H a=some (.tup [r.1,.ref r.2.2])) as rs
 ro:∀r∈rs,H r.2.2=some (.lst r.2.1)
def RoAt.keep{H H':Hp}{l:Nc}{as:Nl}{rs:List Ro}(r:Dw rs)(k:Keep [] H H'):RoAt H' l as rs:=
 ⟨k _ _ r.ls Hb,Paired.imp' (λ_ _ h=>k _ _ h Hb) r.ts,λe he=>k _ _ C4 Hb⟩
def OddR(H:Hp)(r:Ro):Prop:=r.2.1.length≤100∧Vc r.1∧∀x∈r.2.1,Vc x
def okR(r:Ro):Bool:=(r.1::r.2.1).all nmV
inductive zie(C:Nc)(vs:List V)(H:Hp)(Q:VK)(E:XK):Prop
 |mk (l:Nc) (as:Nl) (rs:List Ro) (h0:vs=[.ref l]) (h1:RoAt H l as rs) (h2:∀r∈rs,OddR H r) (h3:∀H',Keep [] H H'→(rs.all okR=true→Q .non H')∧(rs.all okR=false→E (.ref C) none H')):zie C vs H Q E
def spNoNames(C:Nc):Sp:=zie C
def twOk(es:List Ent):Bool:=(es.map (·.1)::es.map λe=>e.2.1).all λzs=>decide zs.Nodup
inductive IspTwice(C:Nc)(vs:List V)(H:Hp)(Q:VK)(E:XK):Prop
 |mk (l:Nc) (as:Nl) (es:List Ent) (h0:vs=[.ref l]) (h1:RwAt H l as es) (h2:es.length≤60) (h4:∀e∈es,e.2.1.length≤100) (h5:∀H',Keep [] H H'→(twOk es=true→Q .non H')∧(twOk es=false→E (.ref C) none H')):IspTwice C vs H Q E
def spTwice(C:Nc):Sp:=IspTwice C
section
variable{P:Nk}{w:Nn}{K:Nb}{mg:Nh}{base:No}
def zey:zam ["rows", "place", "around", "thing"] ["rows"] (zaj zf7):=fsk
def ok_nonames(F:Z5 "refuse_no_names" "refuse_no_names" zf7 f fd)(cN:Exc K C)(nN:mg "NoName" = some SE)(FN:Z5 "is_name" "is_name" ziy fn fdn)(bN:QH fdn ["thing"] [])(mN:mg "is_name" = some (Hf fn))(GN:ZB 1 fn fdn ["thing"] zf6):ZC Ec 2 f fd ["rows"] (spNoNames C):=by
 refine F.okX zey (λvs H Q E h=>by obtain⟨l,as,rs,rfl,_⟩:=h;rfl) Hi;obtain⟨l,as,rs,rfl,R,hok,k⟩:=h;have hu:=zb9 hr;have aH  :=sizeLine_eq;refine⟨_,zag (Bo yn (Mo (zbe (za7 1 zey.nd) (yo (za7 2 zey.nd))))
  (zag (Bo (za6 (J5 (zay Sn) Sr)) (FY zey.nd)
   (zag (Am (OI (zao GN hr rfl mN FN.kp bN .nil zbb TF)) yZ))))),?_⟩
 refine⟨xf,l,rfl,⟨_,OB⟩,zb5 (xs:=as.map V.ref) (λi σ H'=>Aj3 ((rs.take i).all okR=true) (Keep [] H H') (Ex3 λx1 x2 x3=>σ=[Ix,x1,x2,x3])) ⟨rfl,Keep.refl,none,none,none,rfl⟩ (λi σ H' _ hh=>SqL.of (hh.2 _ _ R.ls Hb)) ?_ ?_⟩
 ·rintro i y σ H1 hx ⟨am,k1,x1,x2,x3,rfl⟩;have hi:i<as.length:=by have:=(Cm hx).1;rwa[Qa]at this
  have jS:y=.ref as[i]:=by rw[Qo,Qb hi]at hx;exact(Qn hx).symm
  subst jS;obtain⟨aB,bv⟩:=za1 R.ts hi;have gN:=Qq aB;obtain⟨cg,cF,bp⟩:=hok _ gN;have aY:=k1 _ _ (R.ro _ gN) Hb;have tk:rs.take HY=rs.take i++[rs[i]]:=Qk aB;have pQ:∀x∈rs[i].1::rs[i].2.1,nmV x=false→rs.all okR=false:=λx hx hb=>by rw[Bool.eq_false_iff];intro z;have:=Zw.mp z _ gN;have:=Zw.mp this x hx;rw[hb]at this;cases this
  generalize rs[i]=r at bv gN cg cF bp aY tk pQ;refine⟨as[i],xf,Tg (k1 _ _ bv Hb),rfl,_,xf,_,xf,rfl,?_⟩;refine⟨xf,LR,λq hq=>?_⟩;have nq:r.2.2≠q:=zab aY hq;refine⟨xf,q,r.2.2,_,xf,rfl,zad,(Hq nq aY),(by show 1+_≤sizeLine;lia),λq2 cQ=>?_⟩;have k2:Keep [] H (Pq (QN q (.lst [r.1])) q2 (Hv ([r.1]++r.2.1))):=(Tv Ez).trans (Ht cQ);have kh:(Pq (QN q (.lst [r.1])) q2 (Hv ([r.1]++r.2.1))) q2=some (Hv (r.1::r.2.1)):=zad;generalize upd (QN q (.lst [r.1])) q2 (Hv ([r.1]++r.2.1))=H2 at k2 kh;refine⟨q2,rfl,⟨_,Hn kh⟩,zb5 (xs:=r.1::r.2.1) (λj σ H'=>Aj3 (((r.1::r.2.1).take j).all nmV=true) (Keep [] H2 H') (Ex3 λx1 x2 x3=>σ=[Ix,x1,x2,x3])) ⟨rfl,Keep.refl,_,_,_,rfl⟩ (λj σ H' _ hh=>SqL.of (Oi kh Hb)) ?_ ?_⟩
  ·rintro j y σ H3 hy ⟨rl,k3,y1,y2,y3,rfl⟩;have hym:=Yz hy;have iG:Odd H3 y:=by
    have:Vc y:=by
     rcases Qj.mp hym with e|e
     ·rw[e];exact cF
     exact bp y e
    exact this.keep (Co k3)
   refine⟨xf,y,rfl,iG,λH4 k4=>⟨_,rfl,?_⟩⟩;have cC:=(Co k3).trans k4;cases hb:nmV y with
   |true=>refine QF ⟨?_,LU k4,_,_,_,rfl⟩;obtain⟨hj,e⟩:=Zb.mp hy;rw[Qk hj,List.all_append,rl,e,Jw,hb];rfl
   |false=>exact Q6 ⟨LR,(k _ cC).2 (pQ y hym hb)⟩
  rintro σ H3 ⟨rl,k3,y1,y2,y3,rfl⟩;rw[Qr HM]at rl;refine⟨?_,Co k3,_,_,xf⟩;rw[tk,List.all_append,am,Jw,show okR r=true from rl];rfl
 rintro σ H1 ⟨am,k1,x1,x2,x3,rfl⟩;rw[Qa,Zh R.ts,Qr HM]at am;exact(k H1 k1).1 am
def ndPA:(["place", "around"]:List Str).Nodup:=by decide+kernel
def zgh:zam ["rows", "places", "names"] ["rows"] (zaj sTwice):=fsk
def zi5(hK:X.K=K)(hc:X.calm=true)(h:Dg t)(hn:(Tt es).length=n:=by rfl)(av:(Tt es).findIdx? (·.1)=none:=by rfl):BL (gTup K n t):=hK▸pg_tup hc h hn av
def ok_twice(F:Z5 "refuse_twice" "refuse_twice" sTwice f fd)(cN:Exc K C)(nN:mg "Twice" = some SE)(ad:RE)(eD:mg "set" = none):ZC Ec 1 f fd ["rows"] (spTwice C):=by
 refine F.okX zgh (λvs H Q E h=>by obtain⟨l,as,es,rfl,_⟩:=h;rfl) Hi;obtain⟨l,as,es,rfl,R,mH,hok,k⟩:=h;have hu:=zb9 hr;have aH  :=sizeLine_eq;refine⟨_,zae (ps_lc (i:=1) (M:=["place", "around"]) (ix:=[none,none]) zgh.nd rfl rfl (mkB zgh) rfl yn
   (λC a7 ex s H=>zi5 (K:=K) (n:=2) rfl rfl Ay)
   (λC a7 ex s H=>zbw) (λC a7 ex s H=>pv 0) rfl)
  (zag (Bo (za6 (J5 (zay Sn) (zd5 (M:=["place", "around"]) (ix:=[none,none]) (mkB zgh) rfl yn
   (λC a7 ex s H=>zi5 (K:=K) (n:=2) rfl rfl Ay)
   (λC a7 ex s H=>zbw) (λC a7 ex s H=>pv 1)))) (za7 2 zgh.nd)
   (zag (zbu (Gv Ed
    (QV Ho ad Zl SQ) Sq) yZ zas)))),?_⟩
 have c9:as.length=es.length:=Zh R.ts;refine⟨xf,l,rfl,⟨_,OB⟩,lc_at (xs:=as.map V.ref) (λ τ=>∃x0 x1,τ=[x0,x1]) ((es.map (·.1)).map V.str) (by rw[Qa,Qa,Qa,c9]) OB SJ ⟨none,none,rfl⟩ ?_ (λD hD=>?_)⟩
 ·rintro i hi di τ ⟨x0,x1,rfl⟩ kk hk;rw[Qa]at hi;obtain⟨aB,bv⟩:=za1 R.ts hi;rw[Zp];refine⟨as[i],xf,Tg bv,rfl,_,xf,_,xf,rfl,xf,?_⟩;have e:((es.map (·.1)).map V.str)[i]=V.str es[i].1:=by rw[Zp,Zp]
  rw[e]at hk;exact hk _ ⟨_,_,rfl⟩
 generalize ny:ZS D _=H1;obtain⟨k1,hD1⟩:=Vu ny;have R1:=R.keep k1;refine⟨xf,LR,λq hq=>?_⟩;generalize qH2:QN q _=H2;obtain⟨k2,cQ⟩:=nwk hq qH2;have R2:=R1.keep k2;refine⟨xf,l,rfl,⟨_,Oj⟩,lc_at (xs:=as.map V.ref) (λ τ=>∃x0 x1,τ=[x0,x1]) (es.map λe=>V.ref e.2.2) (by rw[Qa,Qa,c9]) Oj SJ ⟨none,none,rfl⟩ ?_ (λD2 mV=>?_)⟩
 ·rintro i hi di τ ⟨x0,x1,rfl⟩ kk hk;rw[Qa]at hi;obtain⟨aB,bv⟩:=za1 R2.ts hi;rw[Zp];refine⟨as[i],xf,Tg bv,rfl,_,xf,_,xf,rfl,xf,?_⟩;rw[Zp]at hk;exact hk _ ⟨_,_,rfl⟩
 generalize sF:Q3 D2 _=H3;obtain⟨k3,qc⟩:=nwk mV sF;refine⟨q,D2,_,xf,rfl,Cp cQ,qc,(by rw[Qa];show 1+_≤sizeLine;lia),λq4 qV=>?_⟩;generalize jJ:QX q4 _=H4;obtain⟨k4,oG⟩:=nwk qV jJ;have cC:Keep [] H H4:=((Tv k2).trans k3).trans k4;have aZ:∀(i:Nat) (y:V),([V.ref D]++es.map λe=>V.ref e.2.2)[i]?=some y→∃(a:Nc) (zs:Ng),y=V.ref a∧H4 a=some Ol∧zs.length≤100∧(es.map (·.1)::es.map λe=>e.2.1)[i]?=some zs:=λi y hy=>by
  cases i with
  |zero=>cases hy;exact⟨D,HV,rfl,k4 _ _ (Cp (zS hD1)) Hb,by rw[Qa];exact Zn mH Hg,rfl⟩
  |succ i=>have hy:(es.map λe=>V.ref e.2.2)[i]?=some y:=hy;rw[Qo]at hy;obtain⟨e,he,rfl⟩:=Option.map_eq_some_iff.mp hy;refine⟨e.2.2,e.2.1,rfl,cC _ _ (R.ro e (Yz he)) Hb,hok e (Yz he),?_⟩;show(es.map λe=>e.2.1)[i]?=_;rw[Qo,he];rfl
 refine⟨q4,rfl,⟨_,Hn oG⟩,zb5 (xs:=[V.ref D]++es.map λe=>V.ref e.2.2) (λi σ H'=>Aj3 (((es.map (·.1)::es.map λe=>e.2.1).take i).all (λzs=>decide zs.Nodup)=true) (Keep [] H4 H') (Ex2 λx1 x2=>σ=[Ix,x1,x2])) ⟨rfl,Keep.refl,_,_,rfl⟩ (λi σ H' _ hh=>SqL.of (Oi oG Hb)) ?_ ?_⟩
 ·rintro i y σ H5 hy ⟨rE,k5,x1,x2,rfl⟩;obtain⟨a,zs,rfl,ha,cu,hz⟩:=aZ i y hy;have ha:=k5 _ _ ha Hb;refine⟨xf,a,zs,rfl,Hn ha,Hc,λt ht=>?_⟩;have sT:a≠t:=zab ha ht;have c1:=(EH zs).2.2;refine⟨t,zs,rfl,zad,Hc,xf,a,xf,Ss (by rw[zaf sT];exact ha),_,xf,rfl,xf,?_⟩;rw[Qa];by_cases hn:zs.Nodup
  ·have:=c1.2.mpr hn;refine zaw (decide_eq_false (by show ¬((SetD.cn zs:Nat):Int)<_;unfold SetD.cn;lia)) ⟨?_,TU AM,_,_,rfl⟩;obtain⟨hj,e⟩:=Zb.mp hz;rw[Qk hj,List.all_append,rE,e,Jw,decide_eq_true hn];rfl
  have h1:(SetD.dd zs).length≠zs.length:=λe=>hn (c1.2.mp e);have h2:=c1.1;refine za4 (decide_eq_true (by show((SetD.cn zs:Nat):Int)<_;unfold SetD.cn;lia)) ⟨LR,(k _ (cC.trans (TU AM))).2 ?_⟩;rw[Bool.eq_false_iff];intro z;exact hn (Te (Zw.mp z zs (Yz hz)))
 rintro σ H5 ⟨rE,k5,x1,x2,rfl⟩;rw[Qr Hb]at rE;exact(k H5 (cC.trans k5)).1 rE
inductive IspOneWay(vs:List V)(H:Hp)(Q:VK):Prop
 |mk (l:Nc) (as:Nl) (es:List Ent) (h0:vs=[.ref l]) (h1:RwAt H l as es) (h2:(es.map (·.1)).Nodup) (h3:(∀e∈es,e.1∉e.2.1∧∀x∈e.2.1,∃e'∈es,e'.1=x∧e.1∈e'.2.1)) (h4:∀H',Keep [] H H'→Q .non H'):IspOneWay vs H Q
def spOneWay:Sp:=λvs H Q _=>IspOneWay vs H Q
abbrev sLeast:Stmt:=top 21
def Frst(zs:Ng):Prop:=∀y t,zs=y::t→∀z∈zs,leS y z
inductive IspLeast(vs:List V)(H:Hp)(Q:VK):Prop
 |mk (a:Nc) (zs:Ng) (h0:vs=[.ref a]) (h1:H a=some (.lst (zs.map V.str))) (h2:zs.length≤100) (h3:∀(t:Nc) (j:Nat) (H':Hp),j≤zs.length→Frst (zs.drop j++zs.take j)→H' t=some (.tup ((zs.drop j++zs.take j).map V.str))→H t=none→Keep [] H H'→Q (.ref t) H'):IspLeast vs H Q
def spLeast:Sp:=λvs H Q _=>IspLeast vs H Q
def zc5{α β γ:Type}{R:α→γ→Prop}{f:β→γ}:∀{as:List α} {bs:List β},Paired (λa b=>R a (f b)) as bs→WE as (bs.map f):=by
 intro as bs r;induction r with
 |nil=>exact .nil
 |cons h t ih=>exact .cons h ih
def zex:zam ["rows", "rounds", "one", "around", "other"] ["rows"] (zaj ziw):=fsk
def ok_oneway{f:Nc}{fd:Nw}(F:Z5 "refuse_one_way" "refuse_one_way" ziw f fd)(aI:mg "dict" = none):ZB 1 f fd ["rows"] spOneWay:=by
 refine F.okL zex Hi;obtain⟨l,as,es,rfl,R,bw,hok,k⟩:=h;have hu:=zb9 hr;have aH  :=sizeLine_eq;refine⟨_,zae (Mp zex.nd (X6 Ho aI Jg SA))
  (zag (QS yn (Mo (zbe (za7 2 zex.nd) (yo (FY zex.nd))))
   (zag (QS (za6 S0) (za7 4 zex.nd)
    (zag (yp (zi2 (FZ (pv 4) Sr Sq) (zgl (zan zdr Sr (pe_dget2 hu Sf (pv 4) SM ⟨rfl,rfl,rfl,rfl⟩) rfl))))))))),?_⟩
 have gP:(es.map λe:Ent=>(e.1,SC)).map (·.1)=es.map (·.1):=by rw[Zc];rfl
 refine⟨xf,l,as,es.map λe=>(e.1,SC),rfl,R.ls,zc5 R.ts,Hm gP bw,λd hd=>?_⟩;have gQ:((es.map λe:Ent=>(e.1,SC)).map λp=>((Sum.inr p.1:Key),p.2))=eWV es:=by rw[Zc];rfl
 rw[gQ];generalize ny:ZS d _=H1;obtain⟨k1,pM⟩:=nwk hd ny;have R1:=R.keep k1;refine⟨xf,l,rfl,⟨_,yO⟩,zb5 (xs:=as.map V.ref) (λi σ H'=>Aj2 (Keep [] H1 H') (Ex3 λx2 x3 x4=>σ=[Ix,Eo,x2,x3,x4])) ⟨Keep.refl,none,none,none,rfl⟩ (λi σ H' _ hh=>SqL.of (hh.1 _ _ R1.ls Hb)) ?_ ?_⟩
 ·rintro i y σ H2 hx ⟨k2,x2,x3,x4,rfl⟩;have hi:i<as.length:=by have:=(Cm hx).1;rwa[Qa]at this
  have jS:y=.ref as[i]:=by rw[Qo,Qb hi]at hx;exact(Qn hx).symm
  subst jS;obtain⟨aB,bv⟩:=za1 R1.ts hi;obtain⟨cF,bp⟩:=hok _ Af;have aY:=k2 _ _ (R1.ro _ Af) Hb;refine⟨as[i],xf,Tg (zS bv),rfl,_,xf,_,xf,rfl,?_⟩;refine⟨xf,es[i].2.2,rfl,⟨_,Hn aY⟩,zb5 (xs:=es[i].2.1.map V.str) (λj σ H'=>Aj2 (Keep [] H2 H') (Ex1 λx4=>σ=[Ix,Eo,RH (.str es[i].1),RH (.ref es[i].2.2),x4])) ⟨Keep.refl,_,rfl⟩ (λj σ H' _ hh=>SqL.of (hh.1 _ _ aY Hb)) ?_ ?_⟩
  ·rintro j y σ H3 hy ⟨k3,y4,rfl⟩;obtain⟨z,hz,rfl⟩:=Qf.mp (Yz hy);obtain⟨e',aW,hez,aK⟩:=bp z hz;have az:z≠es[i].1:=λq=>cF (q▸hz);have jx:=k3 _ _ (zS pM) Hb;refine⟨xf,xf,rfl,xf,zaw (decide_eq_false (λq=>az (by injection q))) ?_⟩;refine⟨xf,xf,d,rfl,.inl ⟨_,HL jx⟩,xf,TY,λq hq=>?_⟩;have ndq:d≠q:=zab jx hq;have cp:(QX q HP) d=some Ru:=by rw[zaf ndq];exact jx
   have hr4:(QX q HP) e'.2.2=some (Hv (e'.2.1.map V.str)):=by have h3:=k3 _ _ (zS (R1.ro e' aW)) Hb;rw[zaf (AK h3 hq)];exact h3
   have dg:=DGet.k (k:=Sum.inr z) cp;rw[←hez,zd7 bw aW,hez]at dg;refine⟨_,dg,e'.2.2,xf,Ss hr4,rfl,zc9 _,xf,?_⟩;refine zaw (by rw[if_pos rfl,zjk,decide_eq_true aK];rfl) ?_;exact⟨LU (Ht hq),xf⟩
  rintro σ H3 ⟨k3,y4,rfl⟩;exact⟨Co k3,_,_,xf⟩
 rintro σ H2 ⟨k2,x2,x3,x4,rfl⟩;exact k H2 (Tv k2)
def scLeast:zam ["around", "at"] ["around"] (zaj sLeast):=fsk
def ok_least(F:Z5 "from_least" "from_least" sLeast f fd)(dE:mg "min" = none)(tT:mg "tuple" = none):ZB 1 f fd ["around"] spLeast:=by
 refine F.okL scLeast Hi;obtain⟨a,zs,rfl,ha,hz,k⟩:=h;have aH  :=sizeLine_eq;refine⟨_,zae (Mp scLeast.nd (pe_ifExp (zf9 Sd (by intro _;rfl)) Ee zai))
  (zag (yk (zba zjt Ho tT PyProof.Rows.boot_tuple (RG (Rp 0 1))))),?_⟩
 have aA:(zs.map V.str).length=zs.length:=Qa ..;refine⟨xf,_,.inl ⟨_,Hn ha,rfl⟩,?_⟩;by_cases iZ:zs=[]
 ·refine zaw (by rw[iZ];rfl) ?_;have h0:0≤zs.length:=Zm _;refine⟨xf,xf,xf,a,xf,Hn ha,λp1 h1=>?_⟩;have n1:a≠p1:=zab ha h1;refine⟨xf,xf,xf,a,xf,Hn (by rw[zaf n1];exact ha),λp2 h2=>?_⟩;have fq:p1≠p2:=zab (o:=_) zad h2;refine⟨p1,p2,_,xf,rfl,C7,zad,?_,λp3 h3=>?_⟩
  ·have q1:=Bi (RH (0:Int)) none;have q2:=Bi none (RH (0:Int));rw[aA]at q1 q2;show _+_≤sizeLine;lia
  have ecut:W9 (RH (0:Int)) none++W9 none (RH (0:Int))=(zs.drop (0:Nat)++zs.take (0:Nat)).map V.str:=by show W9 (RH (((0:Nat)):Int)) none++W9 none (RH (((0:Nat)):Int))=_;rw[zdl (Hm aA h0),zhi (Hm aA h0),Qp,Ju,Uk]
  rw[ecut];refine⟨p3,xf,.inl ⟨Ef,λt ht=>?_⟩⟩;have kk:Keep [] H _:=(((Ht h1).trans C8).trans Ig).trans (Keep.new (o:=.tup ((zs.drop (0:Nat)++zs.take (0:Nat)).map V.str)) ht);exact k t (0:Nat) _ h0 (λy t' e=>by rw[iZ]at e;cases e) zad (zap (xs:=[]) (((Ht h1).trans C8).trans Ig) ht Hb) kk
 refine za4 (by cases hh:zs with
  |nil=>exact absurd hh iZ
  |cons _ _=>rfl) ?_
 refine⟨xf,RI ha,xf,a,zs,rfl,Hn ha,iZ,λz bU cu=>?_⟩;obtain⟨i1,i2⟩:=zjj bU;have hj:zs.idxOf z≤zs.length:=Zt yq;refine⟨a,_,_,xf,rfl,ha,rfl,zc9 _,i1,i2,?_⟩;refine⟨xf,xf,xf,a,xf,Hn ha,λp1 h1=>?_⟩;have n1:a≠p1:=zab ha h1;refine⟨xf,xf,xf,a,xf,Hn (by rw[zaf n1];exact ha),λp2 h2=>?_⟩;have fq:p1≠p2:=zab (o:=_) zad h2;refine⟨p1,p2,_,xf,rfl,C7,zad,?_,λp3 h3=>?_⟩
 ·have q1:=Bi (RH (Tw:Int)) none;have q2:=Bi none (RH (Tw:Int));rw[aA]at q1 q2;show _+_≤sizeLine;lia
 have ecut:W9 (RH (Tw:Int)) none++W9 none (RH (Tw:Int))=(zs.drop Tw++zs.take Tw).map V.str:=by rw[zdl Cc,zhi Cc,Qp,Ju,Uk]
 rw[ecut];refine⟨p3,xf,.inl ⟨Ef,λt ht=>?_⟩⟩;have kk:Keep [] H _:=(((Ht h1).trans C8).trans Ig).trans (Keep.new (o:=.tup ((zs.drop Tw++zs.take Tw).map V.str)) ht);exact k t Tw _ hj (λy t' e w hw=>by
  have hy:y=z:=by rw[Yc yq,Jy]at e;injection e with e _;exact e.symm
  rw[hy];exact cu w ((Qe.mp hw).elim (λq=>Wo q) λq=>Wh q)) zad (zap (xs:=[]) (((Ht h1).trans C8).trans Ig) ht Hb) kk
end
end K21
namespace Wb
section lk
variable{β:Type}
def Lk(f:β→β):β→List β→β→Prop
 |s,[],e=>f s=e
 |s,x::t,e=>f s=x∧XO x t e
def lk_app:∀{A:List β} {s:β},XO s (A++x::B) e↔XO s A x∧XO x B e:=by
 intro A;induction A with
 |nil=>intro s;exact Iff.rfl
 |cons a t ih=>intro s;show f s=a∧XO a (t++x::B) e↔(f s=a∧XO a t x)∧XO x B e;rw[ih,and_assoc]
def zje:∀{t:List β} {s:β},(∀y,y=s∨y∈t→g y=f y)→Bj e→Lk g s t e:=by
 intro t;induction t with
 |nil=>intro s h k;exact(h s RT).trans k
 |cons a t ih=>
  intro s h k;refine⟨(h s RT).trans k.1,ih (λy hy=>h y (.inr ?_)) k.2⟩;rcases hy with z|z
  ·rw[z];exact Qd
  exact QL z
def Cyc(f:β→β)(c:List β):Prop:=∃s t,c=s::t∧Bj s
def zdk(h:Cyc f (A++x::B)):XO x (B++A) x:=by
 obtain⟨s,t,e,k⟩:=h;cases A with
 |nil=>cases e;rw[Zq];exact k
 |cons a A'=>cases e;obtain⟨k1,k2⟩:=lk_app.mp k;exact lk_app.mpr ⟨k2,k1⟩
def cyc_congr(h:∀y∈c,g y=f y)(k:Cyc f c):Cyc g c:=by obtain⟨s,t,e,k⟩:=k;subst e;exact⟨s,t,rfl,zje (λy hy=>h y Pd) k⟩
end lk
section nx
variable{α:Type}[DecidableEq α]
def zbk{A B:List α}{w:α}(h:w∉A):(B++A++[w]).head?=some (nxt (A++w::B) w):=by
 have hi:(A++w::B).idxOf w=A.length:=by rw[List.idxOf_append,if_neg h,List.idxOf_cons_self];lia
 unfold nxt;rw[hi,Qm,Zk];cases B with
 |nil=>
  have e:(A.length+1)%(A.length+(([]:List α).length+1))=0:=by simp
  rw[e];cases A with
  |nil=>rfl
  |cons a t=>rfl
 | cons b t=>
  have e:(A.length+1)%(A.length+((b::t).length+1))=A.length+1:=Nat.mod_eq_of_lt (HG Zk);rw[e];have:(A++w::b::t).getD (A.length+1) w=b:=by
   rw[Qx,Jm (by exact BN _)];have:A.length+1-A.length=1:=by lia
   rw[this];rfl
  rw[this];rfl
def zcc{zs:List α}{c:α}(h:c∈zs)(nd:zs.Nodup):∃A B,zs=A++c::B∧c∉A∧c∉B:=by
 obtain⟨A,B,e⟩:=Wr h;refine⟨A,B,e,?_,?_⟩
 ·rw[e,Zf]at nd;exact λz=>nd.2.2 _ z _ Qd rfl
 rw[e,Zf,Qw]at nd;exact nd.2.1.1
def zc7{A B:List α}{c n:α}(h:c∉A):ins (A++c::B) (RH c) n=A++c::n::B:=by
 have hi:(A++c::B).idxOf c=A.length:=by rw[List.idxOf_append,if_neg h,List.idxOf_cons_self];lia
 show(A++c::B).take ((A++c::B).idxOf c+1)++n::(A++c::B).drop ((A++c::B).idxOf c+1)=_;rw[hi];have e1:(A++c::B).take (A.length+1)=A++[c]:=by
  rw[List.take_append,Qr (by exact BN _)];have:A.length+1-A.length=1:=by lia
  rw[this];rfl
 have e2:(A++c::B).drop (A.length+1)=B:=by
  rw[List.drop_append,Jz (by exact BN _)];have:A.length+1-A.length=1:=by lia
  rw[this];rfl
 rw[e1,e2,Qz];rfl
variable{zs:List α}{c n:α}
def mem_ins(hc:c∈zs)(nd:zs.Nodup){w:α}:w∈UH n↔w=n∨w∈zs:=by
 obtain⟨A,B,rfl,h1,h2⟩:=NQ nd;rw[zc7 h1];simp only[Qe,Qj];constructor
 ·rintro (h|h|h|h)
  ·exact .inr PV
  ·exact .inr (SK PV)
  ·exact .inl h
  exact .inr (.inr (SK h))
 rintro (h|h|h|h)
 ·exact .inr (SK PV)
 ·exact .inl h
 ·exact .inr PV
 exact .inr (.inr (SK h))
def zjf(hc:c∈zs)(nd:zs.Nodup):(UH n).length=zs.length+1:=by obtain⟨A,B,rfl,h1,h2⟩:=NQ nd;rw[zc7 h1];simp only[Qm,Zk];lia
def nd_ins(hc:c∈zs)(nd:zs.Nodup)(hn:n∉zs):(UH n).Nodup:=by
 obtain⟨A,B,rfl,h1,h2⟩:=NQ nd;rw[zc7 h1];rw[Zf,Qw]at nd;rw[Qe,Qj,not_or,not_or]at hn;obtain⟨nA,⟨ncB,nB⟩,nAB⟩:=nd;rw[Zf,Qw,Qw];refine⟨nA,⟨?_,hn.2.2,nB⟩,λa ha b hb=>?_⟩
 ·rw[Qj,not_or];exact⟨λe=>hn.2.1 e.symm,ncB⟩
 rcases Qj.mp hb with z|z
 ·rw[z];exact nAB a ha c Qd
 rcases Qj.mp z with y|y
 ·rw[y];exact λe=>hn.1 (e▸ha)
 exact nAB a ha b (QL y)
def zgy(hc:c∈zs)(nd:zs.Nodup):Fj c=n:=by obtain⟨A,B,rfl,h1,h2⟩:=NQ nd;rw[zc7 h1];have k:=zbk (B:=n::B) h1;exact(Qn k).symm
def zgx(hc:c∈zs)(nd:zs.Nodup)(hn:n∉zs):Fj n=XQ c:=by
 obtain⟨A,B,rfl,h1,h2⟩:=NQ nd;rw[zc7 h1];rw[Qe,Qj,not_or,not_or]at hn;have e:A++c::n::B=(A++[c])++n::B:=by rw[Qz];rfl
 have hnA:n∉A++[c]:=by rw[Qe,not_or,Qc];exact⟨hn.1,hn.2.1⟩
 have k1:=zbk (B:=B) hnA;have k2:=zbk (B:=B) h1;rw[←e]at k1;refine Qn (k1.symm.trans (Eq.trans ?_ k2));cases B with
 |cons b t=>rfl
 |nil=>cases A with
  |nil=>rfl
  |cons a t=>rfl
def zgw(hc:c∈zs)(nd:zs.Nodup)(hn:n∉zs){w:α}(hw:w∈zs)(tO:w≠c):Fj w=XQ w:=by
 obtain⟨A,B,rfl,h1,h2⟩:=NQ nd;rw[zc7 h1];rw[Zf,Qw]at nd;obtain⟨nA,⟨ncB,nB⟩,nAB⟩:=nd;rw[Qe,Qj,not_or,not_or]at hn;rcases Qe.mp hw with h|h
 ·obtain⟨A1,A2,rfl,g1,g2⟩:=zcc h nA;have k1:=zbk (A:=A1) (B:=A2++c::n::B) g1;have k2:=zbk (A:=A1) (B:=A2++c::B) g1;rw[Qz,Yr,Qz,Yr];refine Qn (k1.symm.trans (Eq.trans ?_ k2));cases A2<;>rfl
 rcases Qj.mp h with z|z
 ·exact absurd z tO
 obtain⟨B1,B2,rfl,g1,g2⟩:=zcc z nB;have hwA:w∉A:=λq=>nAB _ q _ zm rfl;have o9:w≠n:=λq=>hn.2.2 (q▸z);have m1:w∉A++c::n::B1:=by simp only[Qe,Qj,not_or];exact⟨hwA,tO,o9,g1⟩
 have m2:w∉A++c::B1:=by simp only[Qe,Qj,not_or];exact⟨hwA,tO,g1⟩
 have k1:=zbk (B:=B2) m1;have k2:=zbk (B:=B2) m2;have e1:A++c::n::(B1++w::B2)=(A++c::n::B1)++w::B2:=by rw[Qz];rfl
 have e2:A++c::(B1++w::B2)=(A++c::B1)++w::B2:=by rw[Qz];rfl
 rw[e1,e2];refine Qn (k1.symm.trans (Eq.trans ?_ k2));cases B2 with
 |cons b t=>rfl
 |nil=>cases A<;>rfl
def nxt_rot(nd:zs.Nodup)(k:Nat){w:α}(hw:w∈zs):nxt (zs.drop k++zs.take k) w=XQ w:=by
 obtain⟨A,B,rfl,h1,h2⟩:=zcc hw nd;have k2:=zbk (B:=B) h1;by_cases hk:k≤A.length
 ·have e:(A++w::B).drop k++(A++w::B).take k=A.drop k++w::(B++A.take k):=by
   rw[List.drop_append,List.take_append];have:k-A.length=0:=by lia
   rw[this,List.drop_zero,List.take_zero,Zq,Qz];rfl
  have k1:=zbk (A:=A.drop k) (B:=B++A.take k) (λz=>h1 (Wo z));rw[e];refine Qn (k1.symm.trans (Eq.trans ?_ k2));rw[Qz B,Zr]
 have e:(A++w::B).drop k++(A++w::B).take k=(B.drop (k - A.length - 1)++A)++w::B.take (k - A.length - 1):=by
  rw[List.drop_append,List.take_append,Jz Hc,Qr Hc];have:k-A.length=(k-A.length-1)+1:=by lia
  conv=>lhs;rw[this]
  rw[List.drop_succ_cons,List.take_succ_cons,Jq,Qz]
 have k1:=zbk (A:=B.drop (k-A.length-1)++A) (B:=B.take (k-A.length-1)) (λz=>by
  rcases Qe.mp z with y|y
  ·exact h2 (Wo y)
  exact h1 y)
 rw[e];refine Qn (k1.symm.trans (Eq.trans ?_ k2));rw[←Qz,Zr]
end nx
section
variable{α:Type}[DecidableEq α]
def st(r:α→List α)(s:α×α):α×α:=(s.2,nxt (r s.2) s.1)
inductive Conn(r:α→List α)(x:α):α→Prop
 |refl:Conn r x x
 |step {y z:α}:Conn r x y→z∈r y→Conn r x z
def Conn.trans{r:α→List α}{x y z:α}(a:Dx y)(b:Conn r y z):Dx z:=by
 induction b with
 |refl=>exact a
 |step _ h ih=>exact .step ih h
def Conn.mono(h:∀x y,y∈r x→y∈r' x)(a:Dx y):Conn r' x y:=by
 induction a with
 |refl=>exact .refl
 |step _ hz ih=>exact .step ih (h _ _ hz)
def wt(ns:List α)(r:α→List α)(a9:α→α)(t:α):Int:=(ns.map λx=>if a9 x=t then 2+(if r x=[] then 2 else 0)-((r x).length:Int) else 0).sum
def ct(cs:List (Tn (α×α)))(a9:α→α)(t:α):Int:=(cs.map λc=>if(c.any λs=>decide (a9 s.1=t))=true then(2:Int) else 0).sum
structure Cert(ns:List α)(r:α→List α)(cs:List (List (α×α)))(a9:α→α):Prop where
 nd:ns.Nodup
 ro:∀x,x∉ns→r x=[]
 rn:∀x,(r x).Nodup
 ir:∀x,x∉r x
 sy:∀x y,y∈r x→x∈r y
 cf:cs.flatten.Nodup
 cm:∀s,s∈cs.flatten↔s.1∈r s.2
 cy:∀c∈cs,Fk c
 ln:∀x∈ns,a9 x∈ns
 la:∀x y,y∈r x→a9 y=a9 x
 co:∀x∈ns,∀y∈ns,a9 x=a9 y→Dx y
 eu:∀x∈ns,JC P6+YR P6=4
end
section
variable{α:Type}[DecidableEq α] {ns:List α}{r r':α→List α}{cs:List (List (α×α))}{a9:α→α}
def Cert.inn(C:QI a9){x y:α}(h:y∈r x):x∈ns:=Kj λz=>by rw[Fl z]at h;cases h
def Cert.inn'(C:QI a9){x y:α}(h:y∈r x):y∈ns:=C.inn (C.sy x y h)
def sum_upd{g g':α→Int}:∀ {l:List α},l.Nodup→a∈l→(∀ x∈l,x≠a→g' x=g x)→(Iy g').sum=(Iy g).sum+(g' a - g a):=by
 intro l;induction l with
 |nil=>intro _ h;cases h
 | cons b t ih=>
  intro nd h e;rw[Qw]at nd;rw[Ql,Ql,Yy,Yy];by_cases hb:b=a
  ·have:(t.map g').sum=(t.map g).sum:=by congr 1;exact Wd λx hx=>e x Od λz=>nd.1 (by rw[hb,←z];exact hx)
   rw[this,hb];lia
  have h':a∈t:=by
   rcases Qj.mp h with z|z
   ·exact absurd z.symm hb
   exact z
  rw[ih nd.2 h' λx hx=>e x Od,e b Qd hb];lia
def zcu{β:Type}{g g':β→Int}{l:List β}(h:∀x∈l,g' x=g x):(Iy g').sum=(Iy g).sum:=by congr 1;exact Wd h
def zjr(C:QI a9){N R:List (Tn (α×α))}{c0 news:List (α×α)}(hR:∀c∈R,c∈cs)(cj:cs.flatten.Perm (c0++R.flatten))(hN:N.flatten.Perm (news++c0))(bw:news.Nodup)(dh:∀s∈news,s.1∉r s.2)(iH:∀s:α×α,s.1∈r' s.2↔s∈news∨s.1∈r s.2)(hcy:∀c∈N,Dy c)(av:∀s:α×α,s.1∈r s.2→s∉c0→st r' s=Dz s) :
  (N++R).flatten.Nodup∧(∀s,s∈(N++R).flatten↔s.1∈r' s.2)∧∀c∈N++R,Dy c:=by
 have hp:(N++R).flatten.Perm (news++cs.flatten):=by rw[Wu];refine(Xc _ hN).trans ?_;rw[Qz];exact Ud _ cj.symm
 refine⟨?_,λs=>?_,λc hc=>?_⟩
 ·rw[hp.nodup_iff,Zf];exact⟨bw,C.cf,λa ha b hb e=>dh a ha (by rw[e];exact(zo b).mp hb)⟩
 ·rw[hp.mem_iff,Qe,iH,C.cm]
 rcases Qe.mp hc with z|z
 ·exact hcy c z
 refine cyc_congr (λy hy=>?_) (Mq (hR c z));have hyR:y∈R.flatten:=Yi.mpr ⟨c,z,hy⟩;refine av y ((zo y).mp (cj.mem_iff.mpr (YG hyR))) λo4=>?_;have:=cj.nodup_iff.mp C.cf;rw[Zf]at this;exact this.2.2 y o4 y hyR rfl
def sum_zero{β:Type}{g:β→Int}:∀{l:List β},(∀x∈l,g x=0)→(Iy g).sum=0:=by
 intro l;induction l with
 |nil=>intro _;rfl
 |cons a t ih=>intro h;rw[Ql,Yy,h a Qd,ih λx hx=>h x Od];rfl
def Cert.inc(C:QI a9){c:List (α×α)}(hc:c∈cs){s:α×α}(hs:s∈c):s.1∈r s.2:=(zo s).mp (Om ⟨c,hc,hs⟩)
def ct_lab{af:α→α}{t:α}(h:∀c∈cs,∀s∈c,af s.1=a9 s.1):ct cs af t=YR t:=by
 refine zcu λc hc=>?_;have:(c.any λs=>decide (af s.1=t))=c.any λs=>decide (a9 s.1=t):=by
  rw[Yn,Yv,Yv];constructor
  ·rintro⟨s,hs,e⟩;exact⟨s,hs,by rwa[h c hc s hs]at e⟩
  rintro⟨s,hs,e⟩;exact⟨s,hs,by rw[h c hc s hs];exact e⟩
 rw[this]
def cert_new(C:QI a9){x:α}(hx:x∉ns){af:α→α}(hl:∀y∈ns,af y=a9 y)(bq:af x=x):Cert (ns++[x]) r cs af:=by
 have hrx:r x=[]:=Fl hx;have ne:∀{y},y∈ns→y≠x:=λ{y} hy e=>hx (e▸hy);have aK:∀c∈cs,∀s∈c,s.1∈ns:=λc hc s hs=>C.inn' (Mr hs);have mJ:∀t,ct cs af t=YR t:=λt=>ct_lab λc hc s hs=>hl _ (aK c hc s hs);have lx:∀y∈ns,a9 y≠x:=λy hy e=>hx (e▸C.ln y hy);have vg:YR x=0:=sum_zero λc hc=>if_neg λz=>by obtain⟨s,hs,e⟩:=Yv.mp z;exact lx _ (aK c hc s hs) (Te e)
 have hw:∀t,wt (ns++[x]) r af t=JC t+if x=t then 4 else 0:=λt=>by
  unfold wt;rw[Qp,List.sum_append,Ql,Xr,Yy,List.sum_nil];congr 1
  ·exact zcu λz hz=>by rw[hl z hz]
  rw[bq,hrx];simp
 refine⟨?_,λy hy=>C.ro y λz=>hy (YN z),C.rn,C.ir,C.sy,C.cf,C.cm,C.cy,λy hy=>?_,λy z hz=>?_,λy hy z hz e=>?_,λy hy=>?_⟩
 ·rw[Zf];exact⟨C.nd,EO ⟨Hb,Zs⟩,λa ha b hb=>by rw[Qc.mp hb];exact ne ha⟩
 ·rcases Qe.mp hy with h|h
  ·rw[hl y h];exact YN (C.ln y h)
  rw[Qc.mp h,bq];exact YG Qd
 ·rw[hl _ (El hz),hl _ (yr hz)];exact C.la y z hz
 ·rcases Qe.mp hy with h|h <;> rcases Qe.mp hz with g|g
  ·rw[hl _ h,hl _ g]at e;exact C.co y h z g e
  ·rw[hl _ h,CT g,bq]at e;exact absurd e (lx y h)
  ·rw[hl _ g,CT h,bq]at e;exact absurd e.symm (lx z g)
  rw[Qc.mp h,Qc.mp g];exact .refl
 rw[mJ,hw];rcases Qe.mp hy with h|h
 ·rw[hl _ h,if_neg (λz=>lx y h z.symm)];have:=C.eu y h;lia
 rw[CT h,bq,Sk rfl,vg];have:JC x=0:=sum_zero λz hz=>if_neg (lx z hz);rw[this];rfl
end
section
variable{β:Type}
def zjd:∀{t:List β},g s'=f s→(∀y∈t,g y=f y)→Bj e→Lk g s' t e:=by
 intro t;cases t with
 |nil=>intro h _ k;exact h.trans k
 |cons a t=>intro h hh k;exact⟨h.trans k.1,zje (λy hy=>hh y Pd) k.2⟩
def lk_lab{γ:Type}{f:β→β}{lb:β→γ}{e:β}:∀{t:List β} {s:β},(∀y,y=s∨y∈t→lb (f y)=lb y)→Bj e→∀y∈t,lb y=lb s:=by
 intro t;induction t with
 |nil=>intro s _ _ y hy;cases hy
 |cons a t ih=>
  intro s h k y hy;have ha:lb a=lb s:=by rw[←k.1];exact h s RT
  rcases Qj.mp hy with z|z
  ·rw[z];exact ha
  rw[← ha];exact ih (λy hy=>h y (SK Pd)) k.2 y z
def zi6{l m:List Int}(h:l.Perm m):l.sum=m.sum:=by
 induction h with
 |nil=>rfl
 |cons x _ ih=>rw[Yy,Yy,ih]
 |swap x y l=>rw[Yy,Yy,Yy,Yy];lia
 |trans _ _ a b=>exact a.trans b
end
section
variable{α:Type}[DecidableEq α]{ns:List α}{r r':α→List α}{cs:List (List (α×α))}{a9 af:α→α}
def ct_perm{aF:List (Tn (α×α))}(h:cs.Perm aF)(t:α):YR t=ct aF a9 t:=zi6 (h.map _)
def zfo(c:Tn (α×α))(t:α):ct (c::cs) a9 t=(if(c.any λs=>decide (a9 s.1=t))=true then(2:Int) else 0)+YR t:=by unfold ct;rw[List.map_cons,List.sum_cons]
def Cert.one_lab(C:QI a9){c:List (α×α)}(hc:c∈cs){s u:α×α}(hs:s∈c)(hu:u∈c):a9 u.1=a9 s.1:=by
 obtain⟨A,B,rfl⟩:=Wr hs;have k:=zdk (C.cy _ hc);have hl:∀y,y=s∨y∈B++A→a9 (Dz y).1=a9 y.1:=λy hy=>by
  have d7:y∈A++s::B:=by
   rcases hy with z|z
   ·rw[z];exact hs
   rcases Qe.mp z with q|q
   ·exact YG (QL q)
   exact YN q
  exact(C.la _ _ (Mr d7)).symm
 rcases Qe.mp hu with z|z
 ·exact lk_lab (lb:=λy:α×α=>a9 y.1) hl k u PX
 rcases Qj.mp z with q|q
 ·rw[q]
 exact lk_lab (lb:=λy:α×α=>a9 y.1) hl k u (YN q)
def zfp{c:List (α×α)}(h:∀s∈c,a9 s.1=u)(az:c≠[]):(c.any λs=>decide (a9 s.1=t))=decide (u=t):=by
 rw[Yn,Yv,decide_eq_true_iff];constructor
 ·rintro⟨s,hs,e⟩;rw[←h s hs];exact of_decide_eq_true e
 intro e;cases c with
 |nil=>exact absurd rfl az
 |cons s _=>exact⟨s,Qd,Rh ((h s Qd).trans e)⟩
def zcm(hc:c∈cs):cs.flatten.Perm (c++(cs.erase c).flatten):=by have:=Xb (Xi hc);rwa[Yj]at this
def zfx(C:QI a9)(hp:p∈ns)(hx:x∉ns)(h1:r' x=[p])(h3:∀ y,y≠x→y≠p→r' y=r y)(hm:∀ w,w∈r' p↔w=x∨w∈r p)(hn:(r' p).Nodup)(ad:(r' p).length=(r p).length+1)(hl:∀y∈ns,af y=a9 y)(bq:af x=a9 p)(hc:aF.flatten.Nodup∧(∀s,s∈aF.flatten↔s.1∈r' s.2)∧∀c∈aF,Dy c)(mJ:∀t,ct aF af t=YR t+if a9 p=t then(if r p=[] then 2 else 0) else 0):Cert (ns++[x]) r' aF af:=by
 have fj:p≠x:=λe=>hx (e▸hp);have hrx:r x=[]:=Fl hx;have ne:∀{y},y∈ns→y≠x:=λ{y} hy e=>hx (e▸hy);have sub:∀z y,y∈r z→y∈r' z:=λz y hy=>by
  by_cases hz:z=p
  ·rw[hz]at hy ⊢;exact(hm y).mpr C0
  rw[h3 z (ne (yr hy)) hz];exact hy
 have hw:∀t,wt (ns++[x]) r' af t=JC t-if a9 p=t then(if r p=[] then 2 else 0) else 0:=λt=>by
  unfold wt;rw[Qp,List.sum_append,Ql,Xr,Yy,List.sum_nil,bq,h1];have e1:(ns.map λy=>if af y=t then(2:Int)+(if r' y=[] then 2 else 0)-((r' y).length:Int) else 0).sum=(ns.map λy=>if a9 y=t then(2:Int)+(if r' y=[] then 2 else 0)-((r' y).length:Int) else 0).sum:=
   zcu λy hy=>by rw[hl y hy]
  rw[e1,sum_upd (g:=λy=>if a9 y=t then(2:Int)+(if r y=[] then 2 else 0)-((r y).length:Int) else 0) C.nd hp (λy hy bj=>by rw[h3 y (ne hy) bj])];have az:r' p≠[]:=λe=>by rw[e]at ad;simp at ad
  by_cases ht:a9 p=t
  ·simp only[ht,if_true,az,if_false,ad];by_cases fT:r p=[]
   ·simp[fT];lia
   simp[fT];lia
  simp only[ht,if_false];lia
 refine⟨?_,λy hy=>?_,λy=>?_,λy=>?_,λy z hz=>?_,hc.1,hc.2.1,hc.2.2,λy hy=>?_,λy z hz=>?_,λy hy z hz e=>?_,λy hy=>?_⟩
 ·rw[Zf];exact⟨C.nd,EO ⟨Hb,Zs⟩,λa ha b hb=>by rw[Qc.mp hb];exact ne ha⟩
 ·rw[Qe,not_or,Qc]at hy;rw[h3 y hy.2 (λe=>hy.1 (e▸hp))];exact C.ro y hy.1
 ·by_cases eB:y=x
  ·rw[eB,h1];exact Qw.mpr ⟨Hb,Zs⟩
  by_cases bj:y=p
  ·rw[bj];exact hn
  rw[h3 y eB bj];exact C.rn y
 ·by_cases eB:y=x
  ·rw[eB,h1,Qc];exact Zd fj
  by_cases bj:y=p
  ·rw[bj,hm,not_or];exact⟨fj,C.ir p⟩
  rw[h3 y eB bj];exact C.ir y
 ·by_cases eB:y=x
  ·rw[eB,h1,Qc]at hz;rw[hz,eB];exact(hm x).mpr RT
  by_cases bj:y=p
  ·rw[bj]at hz ⊢;rcases(hm z).mp hz with q|q
   ·rw[q,h1];exact Qd
   exact sub z p (C.sy p z q)
  rw[h3 y eB bj]at hz;exact sub z y (C.sy y z hz)
 ·rcases Qe.mp hy with h|h
  ·rw[hl y h];exact YN (C.ln y h)
  rw[Qc.mp h,bq];exact YN (C.ln p hp)
 ·by_cases eB:y=x
  ·rw[eB,h1,Qc]at hz;rw[hz,eB,bq,hl p hp]
  by_cases bj:y=p
  ·rw[bj]at hz ⊢;rcases(hm z).mp hz with q|q
   ·rw[q,bq,hl p hp]
   rw[hl _ (El q),hl p hp];exact Ms z q
  rw[h3 y eB bj]at hz;rw[hl _ (El hz),hl _ (yr hz)];exact C.la y z hz
 ·have xp:Conn r' x p:=.step .refl (by rw[h1];exact Qd);rcases Qe.mp hy with h|h<;>rcases Qe.mp hz with g|g
  ·rw[hl _ h,hl _ g]at e;exact(C.co y h z g e).mono sub
  ·rw[hl _ h,CT g,bq]at e;rw[Qc.mp g];exact .step ((C.co y h p hp e).mono sub) ((hm x).mpr RT)
  ·rw[hl _ g,CT h,bq]at e;rw[Qc.mp h];exact xp.trans ((C.co p hp z g e).mono sub)
  rw[Qc.mp h,Qc.mp g];exact .refl
 have key:∀ u∈ns,wt (ns++[x]) r' af (a9 u)+ct aF af (a9 u)=4:=λu hu=>by rw[hw,mJ];have:=C.eu u hu;lia
 rcases Qe.mp hy with h|h
 ·rw[hl _ h];exact key y h
 rw[Qc.mp h,bq];exact key p hp
def zgv(p:α):nxt [p] p=p:=by unfold nxt;simp
def leaf_mem(C:QI a9)(hp:p∈ns)(hx:x∉ns)(h1:r' x=[p])(h3:∀ y,y≠x→y≠p→r' y=r y)(hm:∀ w,w∈r' p↔w=x∨w∈r p) :
  ∀s:α×α,s.1∈r' s.2↔s∈[(x,p),(p,x)]∨s.1∈r s.2:=λs=>by
 obtain⟨a,b⟩:=s;have fj:p≠x:=λe=>hx (e▸hp);show a∈r' b↔(a,b)∈[(x,p),(p,x)]∨a∈r b;rw[Qj,Qc,Prod.mk.injEq,Prod.mk.injEq];by_cases rB:b=x
 ·subst rB;rw[h1,C.ro b hx,Qc];constructor
  ·intro e;exact .inl (SK ⟨e,rfl⟩)
  rintro ((⟨_,e⟩|⟨e,_⟩)|e)
  ·exact absurd e.symm fj
  ·exact e
  cases e
 by_cases jB:b=p
 ·subst jB;rw[hm];constructor
  ·rintro (e|e)
   ·exact .inl (HL ⟨e,rfl⟩)
   exact .inr e
  rintro ((⟨e,_⟩|⟨_,e⟩)|e)
  ·exact .inl e
  ·exact absurd e rB
  exact .inr e
 rw[h3 b rB jB];constructor
 ·exact .inr
 rintro ((⟨_,e⟩|⟨_,e⟩)|e)
 ·exact absurd e jB
 ·exact absurd e rB
 exact e
def leaf_nd(fj:p≠x):([(x,p),(p,x)]:List (α×α)).Nodup:=by rw[Qw,Qc];exact⟨λe=>fj (Ks e).1.symm,EO ⟨Hb,Zs⟩⟩
def leaf_no(C:QI a9)(hx:x∉ns):∀s∈([(x,p),(p,x)]:List (α×α)),s.1∉r s.2:=λs hs h=>by
 rcases Qj.mp hs with e|e
 ·rw[e]at h;exact hx (El h)
 rw[Qc.mp e]at h;exact hx (yr h)
def cert_leaf0(C:QI a9)(hp:p∈ns)(hx:x∉ns)(qU:r p=[])(h1:r' x=[p])(h2:r' p=[x])(h3:∀ y,y≠x→y≠p→r' y=r y)(hl:∀ y∈ns,af y=a9 y)(bq:af x=a9 p) :
  Cert (ns++[x]) r' ([(x,p),(p,x)]::cs) af:=by
 have fj:p≠x:=λe=>hx (e▸hp);have hm:∀w,w∈r' p↔w=x∨w∈r p:=λw=>by rw[h2,qU,Qc];simp
 refine DB (by rw[h2];exact Qw.mpr ⟨Hb,Zs⟩) (by rw[h2,qU];rfl) hl bq ?_ λt=>?_
 ·refine zjr (N:=[[(x,p),(p,x)]]) (R:=cs) (c0:=[]) (news:=[(x,p),(p,x)]) C (λc h=>h) (by rw[Jq]) Hb (leaf_nd fj) (leaf_no C hx) (NR hm) (λc hc=>?_) λs hs _=>?_
  ·rw[CT hc];refine⟨(x,p),[(p,x)],rfl,?_,?_⟩
   ·show (p,KK x)=(p,x);rw[h2,zgv]
   show (x,nxt (r' x) p)=(x,p);rw[h1,zgv]
  have tZ:s.2≠x:=λe=>hx (e ▸ C.inn hs);have bK:s.2≠p:=λe=>by rw[e,qU]at hs;cases hs
  unfold st;rw[h3 s.2 tZ bK]
 rw[zfo,zfp (u:=a9 p) (λs hs=>?_) Hb]
 ·have:ct cs af t=YR t:=ct_lab λc hc s hs=>hl _ (El (Mr hs));rw[this];simp only[decide_eq_true_eq,qU,if_true];lia
 rcases Qj.mp hs with e|e
 ·rw[e];exact bq
 rw[Qc.mp e];exact hl p hp
def cert_leaf(C:QI a9)(hp:p∈ns)(hx:x∉ns)(hc:c∈r p)(h1:r' x=[p])(h2:r' p=Fm x)(h3:∀ y,y≠x→y≠p→r' y=r y)(hl:∀ y∈ns,af y=a9 y)(bq:af x=a9 p) :
  ∃aF,Cert (ns++[x]) r' aF af:=by
 have fj:p≠x:=λe=>hx (e▸hp);have ja:x∉r p:=λh=>hx (El h);have hm:∀w,w∈r' p↔w=x∨w∈r p:=λw=>by rw[h2];exact mem_ins hc LS
 obtain⟨c1,bu,bV⟩:=Yi.mp ((zo (c,p)).mpr hc);obtain⟨A,B,eV⟩:=Wr bV;have k:=zdk (eV▸C.cy c1 bu);have old:∀y∈c1,y.1∈r y.2:=λy hy=>Mt hy;have nd1:c1.Nodup:=by have:=(zcm bu).nodup_iff.mp C.cf;rw[Zf]at this;exact this.1
 have av:∀s:α×α,s.1∈r s.2→s≠(c,p)→st r' s=Dz s:=λs hs az=>by
  have tZ:s.2≠x:=λe=>hx (e▸C.inn hs);by_cases bK:s.2=p
  ·unfold st;rw[bK,h2];rw[bK]at hs;rw[zgw hc LS ja hs (λe=>az (Km e bK))]
  unfold st;rw[h3 s.2 tZ bK]
 have inBA:∀y∈B++A,y∈c1∧y≠(c,p):=λy hy=>by
  rw[eV]at nd1 ⊢;rw[Zf,Qw]at nd1;rcases Qe.mp hy with z|z
  ·exact⟨YG zm,λe=>nd1.2.1.1 (e▸z)⟩
  exact⟨YN z,λe=>nd1.2.2 y z (c,p) Qd e⟩
 refine⟨[(c,p)::(p,x)::(x,p)::(B++A)]++cs.erase c1,DB (by rw[h2];exact Fn ja) (by rw[h2];exact zjf hc LS) hl bq ?_ λt=>?_⟩
 ·refine zjr (c0:=c1) (news:=[(x,p),(p,x)]) C (λc h=>List.mem_of_mem_erase h) (zcm bu) ?_ (leaf_nd fj) (leaf_no C hx) (NR hm) (λc' cA=>?_) λs hs hn=>av s hs λe=>hn (e ▸ bV)
  ·rw[eV];refine Kl.mpr λa=>?_;simp only[Yj,Jx,Zq,Xa,Xo,List.count_nil];lia
  rw[CT cA];refine⟨(c,p),xf,?_,?_,zjd (f:=st r) (s:=(c,p)) ?_ (λy hy=>av y (old y (inBA y hy).1) (inBA y hy).2) k⟩
  ·show (p,KK c)=(p,x);rw[h2,zgy hc LS]
  ·show (x,nxt (r' x) p)=(x,p);rw[h1,zgv]
  show (p,KK x)=(p,nxt (r p) c);rw[h2,zgx hc LS ja]
 have az:r p≠[]:=Kp hc;have e2:YR t=ct (c1::cs.erase c1) a9 t:=ct_perm (Xi bu) t;have e3:Gw af t=Gw a9 t:=ct_lab λc h s hs=>hl _ (El (C.inc (List.mem_of_mem_erase h) hs));have lc:∀s∈c1,a9 s.1=a9 p:=λs hs=>(VM hs).trans (Ms c hc);rw[e2,zfo,List.singleton_append,zfo,e3,zfp (u:=a9 p) lc (Kp bV),zfp (u:=a9 p) (λs hs=>?_) Hb,if_neg az]
 ·simp
 rcases Qj.mp hs with e|hs
 ·rw[e];exact(hl _ (El hc)).trans (Ms c hc)
 rcases Qj.mp hs with e|hs
 ·rw[e];exact hl p hp
 rcases Qj.mp hs with e|hs
 ·rw[e];exact bq
 rw[hl _ (El (old s (inBA s hs).1))];exact lc s (inBA s hs).1
def cert_tie(C:QI a9)(bu:c1∈cs)(bV:(c,p)∈c1)(de:(a,o)∈c1)(mw:o≠p)(dh:o∉r p)(h1:r' p=Fm o)(h2:r' o=ins (r o) (RH a) p)(h3:∀ y,y≠p→y≠o→r' y=r y) :
  ∃aF,Cert ns r' aF a9:=by
 have hc:c∈r p:=Mt bV;have ha:a∈r o:=Mt de;have hp:p∈ns:=C.inn hc;have ho:o∈ns:=C.inn ha;have r6:p∉r o:=λh=>dh (C.sy o p h);have jj:∀w,w∈r' p↔w=o∨w∈r p:=λw=>by rw[h1];exact mem_ins hc LS
 have bG:∀w,w∈r' o↔w=p∨w∈r o:=λw=>by rw[h2];exact mem_ins ha E6
 have gc:a9 o=a9 p:=by rw[←C.la o a ha,←Ms c hc];exact VM de
 obtain⟨A,B,eV⟩:=Wr bV;have k:=zdk (eV▸C.cy c1 bu);have old:∀y∈c1,y.1∈r y.2:=λy hy=>Mt hy;have nd1:c1.Nodup:=by have:=(zcm bu).nodup_iff.mp C.cf;rw[Zf]at this;exact this.1
 have u7:(a,o)∈B++A:=by
  rw[eV]at de;rcases Qe.mp de with z|z
  ·exact YG z
  rcases Qj.mp z with q|q
  ·exact absurd (Ks q).2 mw
  exact YN q
 obtain⟨A2,B2,qd⟩:=Wr u7;rw[qd]at k;obtain⟨k1,k2⟩:=lk_app.mp k;have pm:c1.Perm ((c,p)::(A2++(a,o)::B2)):=by rw[eV,←qd];refine Kl.mpr λa=>?_;simp only[Xa,Xo];lia
 have qy:=pm.nodup_iff.mp nd1;rw[Qw,Zf,Qw]at qy;obtain⟨n1,n2,⟨n3,n4⟩,n5⟩:=qy;have inA:∀y∈A2,y∈c1∧y≠(c,p)∧y≠(a,o):=λy hy=>⟨pm.mem_iff.mpr (QL (YN hy)),λe=>n1 (e▸YN hy),λe=>n5 y hy (a,o) Qd e⟩;have inB:∀y∈B2,y∈c1∧y≠(c,p)∧y≠(a,o):=λy hy=>⟨pm.mem_iff.mpr (QL (YG Ps)),λe=>n1 (e▸YG Ps),λe=>n3 (e▸hy)⟩;have av:∀s:α×α,s.1∈r s.2→s≠(c,p)→s≠(a,o)→st r' s=Dz s:=λs hs cF bp=>by
  by_cases bK:s.2=p
  ·unfold st;rw[bK,h1];rw[bK]at hs;rw[zgw hc LS dh hs (λe=>cF (Km e bK))]
  by_cases qL:s.2=o
  ·unfold st;rw[qL,h2];rw[qL]at hs;rw[zgw ha E6 r6 hs (λe=>bp (Km e qL))]
  unfold st;rw[h3 s.2 bK qL]
 have sub:∀z y,y∈r z→y∈r' z:=λz y hy=>by
  by_cases hz:z=p
  ·rw[hz]at hy ⊢;exact(jj y).mpr C0
  by_cases ig:z=o
  ·rw[ig]at hy ⊢;exact(bG y).mpr C0
  rw[h3 z hz ig];exact hy
 have iH:∀s:α×α,s.1∈r' s.2↔s∈[(o,p),(p,o)]∨s.1∈r s.2:=λs=>by
  obtain⟨u,b⟩:=s;show u∈r' b↔(u,b)∈[(o,p),(p,o)]∨u∈r b;rw[Qj,Qc,Prod.mk.injEq,Prod.mk.injEq];by_cases jB:b=p
  ·subst jB;rw[jj];constructor
   ·rintro (e|e)
    ·exact .inl (HL ⟨e,rfl⟩)
    exact .inr e
   rintro ((⟨e,_⟩|⟨_,e⟩)|e)
   ·exact .inl e
   ·exact absurd e.symm mw
   exact .inr e
  by_cases vm:b=o
  ·subst vm;rw[bG];constructor
   ·rintro (e|e)
    ·exact .inl (SK ⟨e,rfl⟩)
    exact .inr e
   rintro ((⟨_,e⟩|⟨e,_⟩)|e)
   ·exact absurd e jB
   ·exact .inl e
   exact .inr e
  rw[h3 b jB vm];constructor
  ·exact .inr
  rintro ((⟨_,e⟩|⟨_,e⟩)|e)
  ·exact absurd e jB
  ·exact absurd e vm
  exact e
 have nnd:([(o,p),(p,o)]:List (α×α)).Nodup:=by rw[Qw,Qc];exact⟨λe=>mw (Ks e).1,EO ⟨Hb,Zs⟩⟩
 have dI:=zjr (N:=[(c,p)::(p,o)::B2,(a,o)::(o,p)::A2]) (R:=cs.erase c1) (c0:=c1) (news:=[(o,p),(p,o)]) (r':=r') C (λc h=>List.mem_of_mem_erase h) (zcm bu) (by
   refine List.Perm.trans ?_ (Ud _ pm.symm);refine Kl.mpr λa=>?_;simp only[Yj,Jx,Zq,Xa,Xo,List.count_nil];lia) nnd (λs hs h=>by
    rcases Qj.mp hs with e|e
    ·rw[e]at h;exact dh h
    rw[Qc.mp e]at h;exact r6 h) iH (λc' cA=>by
   rcases Qj.mp cA with e|e
   ·rw[e];refine⟨(c,p),xf,?_,zjd (f:=st r) (s:=(a,o)) ?_ (λy hy=>av y (old y (inB y hy).1) (inB y hy).2.1 (inB y hy).2.2) k2⟩
    ·show (p,KK c)=(p,o);rw[h1,zgy hc LS]
    show (o,nxt (r' o) p)=(o,nxt (r o) a);rw[h2,zgx ha E6 r6]
   rw[CT e];refine⟨(a,o),xf,?_,zjd (f:=st r) (s:=(c,p)) ?_ (λy hy=>av y (old y (inA y hy).1) (inA y hy).2.1 (inA y hy).2.2) k1⟩
   ·show (o,nxt (r' o) a)=(o,p);rw[h2,zgy ha E6]
   show (p,KK o)=(p,nxt (r p) c);rw[h1,zgx hc LS dh]) λs hs hn=>av s hs (λe=>hn (e▸bV)) λe=>hn (e▸de)
 refine⟨_,C.nd,λy hy=>?_,λy=>?_,λy=>?_,λy z hz=>?_,dI.1,dI.2.1,dI.2.2,C.ln,λy z hz=>?_,λy hy z hz e=>(C.co y hy z hz e).mono sub,λy hy=>?_⟩
 ·rw[h3 y (λe=>hy (e▸hp)) (λe=>hy (e▸ho))];exact C.ro y hy
 ·by_cases bj:y=p
  ·rw[bj,h1];exact Fn dh
  by_cases d0:y=o
  ·rw[d0,h2];exact nd_ins ha E6 r6
  rw[h3 y bj d0];exact C.rn y
 ·by_cases bj:y=p
  ·rw[bj,jj,not_or];exact⟨Zd mw,C.ir p⟩
  by_cases d0:y=o
  ·rw[d0,bG,not_or];exact⟨mw,C.ir o⟩
  rw[h3 y bj d0];exact C.ir y
 ·by_cases bj:y=p
  ·rw[bj]at hz ⊢;rcases(jj z).mp hz with q|q
   ·rw[q];exact(bG p).mpr RT
   exact sub z p (C.sy p z q)
  by_cases d0:y=o
  ·rw[d0]at hz ⊢;rcases(bG z).mp hz with q|q
   ·rw[q];exact(jj o).mpr RT
   exact sub z o (C.sy o z q)
  rw[h3 y bj d0]at hz;exact sub z y (C.sy y z hz)
 ·by_cases bj:y=p
  ·rw[bj]at hz ⊢;rcases(jj z).mp hz with q|q
   ·rw[q];exact gc
   exact Ms z q
  by_cases d0:y=o
  ·rw[d0]at hz ⊢;rcases(bG z).mp hz with q|q
   ·rw[q];exact gc.symm
   exact C.la o z q
  rw[h3 y bj d0]at hz;exact C.la y z hz
 have e2:YR zp=ct (c1::cs.erase c1) a9 zp:=ct_perm (Xi bu) _;have lc:∀s∈c1,a9 s.1=a9 p:=λs hs=>(VM hs).trans (Ms c hc);have l1:∀s∈(c,p)::(p,o)::B2,a9 s.1=a9 p:=λs hs=>by
  rcases Qj.mp hs with e|hs
  ·rw[e];exact Ms c hc
  rcases Qj.mp hs with e|hs
  ·rw[e]
  exact lc s (inB s hs).1
 have l2:∀s∈(a,o)::(o,p)::A2,a9 s.1=a9 p:=λs hs=>by
  rcases Qj.mp hs with e|hs
  ·rw[e];exact(C.la o a ha).trans gc
  rcases Qj.mp hs with e|hs
  ·rw[e];exact gc
  exact lc s (inA s hs).1
 have mJ:ct ([(c,p)::(p,o)::B2,(a,o)::(o,p)::A2]++cs.erase c1) a9 zp=YR zp+if a9 p=a9 y then 2 else 0:=by rw[e2,zfo,Yr,zfo,Yr,zfo,Jq,zfp lc (Kp bV),zfp l1 Hb,zfp l2 Hb];simp only[decide_eq_true_eq];split<;>lia
 have hw:wt ns r' a9 zp=JC zp-if a9 p=a9 y then 2 else 0:=by
  have aP:∀{zs:List α} {w n:α},w∈zs→zs.Nodup→ins zs (RH w) n≠[]:=λ{zs w n} hw nd e=>by have:=zjf (n:=n) hw nd;rw[e]at this;simp at this
  unfold wt;have s1:=sum_upd (g:=λx=>if a9 x=a9 y then(2:Int)+(if r x=[] then 2 else 0)-((r x).length:Int) else 0)
   (g':=λx=>if x=p then(if a9 p=a9 y then(2:Int)+(if r' p=[] then 2 else 0)-((r' p).length:Int) else 0) else if a9 x=a9 y then(2:Int)+(if r x=[] then 2 else 0)-((r x).length:Int) else 0) C.nd hp (λx _ hx=>if_neg hx)
  have s2:=sum_upd (g:=λx=>if x=p then(if a9 p=a9 y then(2:Int)+(if r' p=[] then 2 else 0)-((r' p).length:Int) else 0) else if a9 x=a9 y then(2:Int)+(if r x=[] then 2 else 0)-((r x).length:Int) else 0)
   (g':=λx=>if a9 x=a9 y then (2:Int)+(if r' x=[] then 2 else 0) - ((r' x).length:Int) else 0) C.nd ho (λx _ hx=>by
    by_cases ja:x=p
    ·rw[if_pos ja,ja]
    rw[if_neg ja,h3 x ja hx])
  rw[s2,s1];simp only[if_true,mw,if_false,gc,h1,h2,aP hc LS,aP ha E6,zjf hc LS,zjf ha E6,Kp hc,Kp ha];by_cases ht:a9 p=a9 y
  ·simp only[ht,if_true];lia
  simp only[ht,if_false];lia
 rw[mJ,hw];have:=C.eu y hy;lia
end
section
variable{α:Type}[DecidableEq α]
def Good(rs:Rs α):Prop:=∃cs a9,Cert (rs.map (·.1)) (row rs) cs a9
def cyc_next{β:Type}{f:β→β}{c:List β}(h:Cyc f c){s:β}(hs:s∈c):f s∈c:=by
 obtain⟨A,B,rfl⟩:=Wr hs;have k:=zdk h;cases e:B++A with
 |nil=>rw[e]at k;rw[show f s=s from k];exact hs
 |cons a t=>
  rw[e]at k;rw[k.1];have:a∈B++A:=by rw[e];exact Qd
  rcases Qe.mp this with z|z
  ·exact YG zm
  exact YN z
end
section
variable{α:Type}[DecidableEq α] {rs:Rs α}
def zfu(nd:(rs.map (·.1)).Nodup){p:α×List α}(h:p∈rs):BS p.1=p.2:=by
 unfold row;induction rs with
 |nil=>cases h
 |cons a t ih=>
  rw[Ql,Qw]at nd;rcases Qj.mp h with z|z
  ·subst z;rw[Wp Hb];rfl
  rw[Wq]
  ·exact ih nd.2 z
  intro q;exact nd.1 (by rw[of_decide_eq_true q];exact Qf.mpr ⟨p,z,rfl⟩)
def zeb(h:x∉rs.map (·.1)):BS x=[]:=by
 unfold row;rw[List.find?_eq_none.mpr]
 ·rfl
 intro p hp q;exact h (of_decide_eq_true q▸Qf.mpr ⟨p,hp,rfl⟩)
def zdj(nd:(rs.map (·.1)).Nodup){s:α×α}:Va s↔s.1∈BS s.2:=by
 constructor
 ·rintro⟨p,hp,e,h⟩;rw[←e,zfu nd hp];exact h
 intro h;by_cases hx:s.2∈rs.map (·.1)
 ·obtain⟨p,hp,e⟩:=Qf.mp hx;have e':p.1=s.2:=e;rw[←e',zfu nd hp]at h;exact⟨p,hp,e',h⟩
 rw[zeb hx]at h;cases h
def zc6(x:α)(rr:List α):(Fh x rr).map (·.1)=rs.map (·.1):=by unfold zbj;rw[Zc];refine Wd λp _=>?_;show(if p.1=x then(p.1,rr) else p).1=p.1;split<;>rfl
def zcx{x:α}{rr:List α}(h:x∈rs.map (·.1)):row (Fh x rr) x=rr:=by
 unfold row zbj;induction rs with
 |nil=>cases h
 |cons a t ih=>
  rw[Ql];by_cases hx:a.1=x
  ·rw[if_pos hx,Wp (Hd hx)];rfl
  rw[Sz hx,Wq (Hd hx)];refine ih ?_;rw[Ql]at h;rcases Qj.mp h with z|z
  ·exact absurd z.symm hx
  exact z
def zcl{x y:α}{rr:List α}(h:y≠x):row (Fh x rr) y=BS y:=by
 unfold row zbj;induction rs with
 |nil=>rfl
 |cons a t ih=>
  rw[Ql];by_cases hy:a.1=y
  ·have hx:a.1≠x:=λe=>h (hy ▸ e);rw[if_neg hx,Wp zq,Wp zq]
  have h1:(if a.1=x then (a.1,rr) else a).1=a.1:=by split <;> rfl
  rw[Wq (by rw[h1];simpa using hy),Wq zq];exact ih
def row_snoc{x:α}(h:x∉rs.map (·.1)):row (rs++[(x,[])])=row rs:=by
 funext y;unfold row;rw[List.find?_append];cases e:rs.find? λp=>decide (p.1=y) with
 |some p=>rfl
 |none=>
  rw[Option.none_or];by_cases hy:x=y
  ·rw[Wp zq];rfl
  rw[Wq zq];rfl
theorem zbs:Gen (Good (α:=α)) where
 clo:=λrs ⟨cs,a9,C⟩ s hs=>by obtain⟨c,hc,h⟩:=Yi.mp ((zo s).mpr ((zdj C.nd).mp hs));exact(zdj C.nd).mpr ((zo _).mp (Om ⟨c,hc,cyc_next (Mq hc) h⟩))
 nd:=λrs ⟨cs,a9,C⟩=>C.nd
 sub:=λrs ⟨cs,a9,C⟩ p hp=>by have e:=DC hp;exact⟨e▸C.rn p.1,λx hx=>C.inn' (x:=p.1) (Hm e hx)⟩
 sy:=λrs ⟨cs,a9,C⟩ p hp x hx=>C.sy p.1 x (by rw[DC hp];exact hx)
 nil:=by
  refine⟨[],id,⟨Zs,Hw,λ_=>Zs,λ_ h=>?_,λ_ _ h=>?_,Zs,λs=>⟨λh=>?_,λh=>?_⟩,λc h=>?_,λ_ h=>?_,λ_ _ h=>?_,λ_ h=>?_,λ_ h=>?_⟩⟩
  ·exact absurd h yt
  ·exact absurd h yt
  ·cases h
  ·exact absurd h yt
  ·cases h
  ·cases h
  ·exact absurd h yt
  ·cases h
  cases h
 new:=λrs x ⟨cs,a9,C⟩ hx=>by refine⟨cs,λy=>if y=x then x else a9 y,?_⟩;rw[row_snoc hx,Qp];exact cert_new C hx (λy hy=>if_neg (λe:y=x=>hx (e▸hy))) (Sk rfl)
 leaf:=λrs x p c ⟨cs,a9,C⟩ hx hp hc jA=>by
  have mt:p.1∈rs.map (·.1):=Qf.mpr ⟨p,hp,rfl⟩;have fj:p.1≠x:=λe=>hx (e▸mt);have e0:(zbj (zbj (rs++[(x,[])]) p.1 zj) x [p.1]).map (·.1)=rs.map (·.1)++[x]:=by rw[zc6,zc6,Qp];rfl
  have tN:x∈(zbj (rs++[(x,[])]) p.1 zj).map (·.1):=by rw[zc6,Qp];exact YG Qd
  have uk:p.1∈(rs++[(x,([]:List α))]).map (·.1):=by rw[Qp];exact YN mt
  have r1:row (zbj (zbj (rs++[(x,[])]) p.1 zj) x [p.1]) x=[p.1]:=zcx tN;have r2:row (zbj (zbj (rs++[(x,[])]) p.1 zj) x [p.1]) p.1=BE x:=by rw[zcl fj,zcx uk]
  have r3:∀y,y≠x→y≠p.1→row (zbj (zbj (rs++[(x,[])]) p.1 zj) x [p.1]) y=BS y:=λy h1 h2=>by rw[zcl h1,zcl h2,row_snoc hx]
  have er:=DC hp;have hl:∀y∈rs.map (·.1),(λy=>if y=x then a9 p.1 else a9 y) y=a9 y:=λy hy=>if_neg (λe:y=x=>hx (e▸hy));have bq:(λy=>if y=x then a9 p.1 else a9 y) x=a9 p.1:=if_pos rfl;unfold Good;rw[e0];cases c with
  |none=>have h0:=jA rfl;refine⟨_,_,cert_leaf0 C mt hx (er.trans h0) r1 ?_ r3 hl bq⟩;rw[r2,h0];rfl
  |some y=>have hy:=hc y rfl;obtain⟨aF,C'⟩:=cert_leaf C mt hx (c:=y) (Hm er hy) r1 (by rw[r2,er]) r3 hl bq;exact⟨aF,_,C'⟩
 tie:=λrs c p n ⟨cs,a9,C⟩ hp hc h1 h2=>by
  have er:=DC hp;obtain⟨c1,bu,bV⟩:=Yi.mp ((zo (c,p.1)).mpr (Hm er hc));have de:∀n,UC (c,p.1) n∈c1:=λn=>by
   induction n with
   |zero=>exact bV
   |succ n ih=>exact cyc_next (C.cy c1 bu) ih
  have u5:=de n;generalize UC (c,p.1) n=q at h1 h2 u5;have mt:p.1∈rs.map (·.1):=Qf.mpr ⟨p,hp,rfl⟩;have oE:q.2∈rs.map (·.1):=C.inn (Mt u5);unfold Good;rw[zc6,zc6];obtain⟨aF,C'⟩:=cert_tie (r':=row (zbj (Fh p.1 (Gu q.2)) q.2 (ins (BS q.2) (some q.1) p.1))) C bu bV (a:=q.1) (o:=q.2) u5 h1 (Hm er h2)
   (by rw[zcl (Zd h1),zcx mt,er]) (by rw[zcx (Hm zc6 oE)]) (λy h3 h4=>by rw[zcl h4,zcl h3])
  exact⟨aF,a9,C'⟩
end
section
variable{α:Type}[DecidableEq α]{ns lR:List α}{r r':α→List α}{cs:List (List (α×α))}{a9:α→α}
def ziz(zs:List α)(k:Nat):(zs.drop k++zs.take k).Perm zs:=by refine Ur.trans ?_;rw[Zr]
def zdw(C:QI a9)(hn:lR.Perm ns)(hr:∀x,∃k,r' x=(r x).drop k++(r x).take k):Cert lR r' cs a9:=by
 have hp:∀x,(r' x).Perm (r x):=λx=>by obtain⟨k,e⟩:=hr x;rw[e];exact ziz _ k
 have hm:∀{x y},y∈r' x↔y∈r x:=λ{x y}=>(hp x).mem_iff;have av:∀s:α×α,s.1∈r s.2→st r' s=Dz s:=λs hs=>by obtain⟨k,e⟩:=hr s.2;unfold st;rw[e,Fo hs]
 have hw:∀t,wt lR r' a9 t=JC t:=λt=>by unfold wt;rw[zi6 (hn.map _)];refine zcu λx _=>?_;have h1:=(hp x).length_eq;have h2:(r' x=[])=(r x=[]):=propext ⟨λe=>by rw[e]at h1;exact Xj h1.symm,λe=>by rw[e]at h1;exact Xj h1⟩;simp only[h1,h2]
 refine⟨hn.nodup_iff.mpr C.nd,λx hx=>?_,λx=>(hp x).nodup_iff.mpr (C.rn x),λx h=>C.ir x (hm.mp h),λx y h=>hm.mpr (C.sy x y (hm.mp h)),C.cf,λs=>(zo s).trans hm.symm,λc hc=>?_,λx hx=>hn.mem_iff.mpr (C.ln x IC),λx y h=>C.la x y (hm.mp h),λx hx y hy e=>?_,λx hx=>?_⟩
 ·have:=hp x;rw[Fl (λz=>hx (hn.mem_iff.mpr z))]at this;exact List.Perm.eq_nil this
 ·exact cyc_congr (λy hy=>av y (Mr hy)) (Mq hc)
 ·exact(C.co x IC y (hn.mem_iff.mp hy) e).mono λ_ _ h=>hm.mpr h
 rw[hw];exact C.eu x IC
end
end Wb
namespace K21
open PySem L2 Wb
abbrev sSteps:Stmt:=top 9
structure BAt(H:Hp)(b:Nc)(bs:List ((Str×Str)×Addr))(r:Nu):Prop where
 dc:H b=some (.dT (bs.map λe=>(zr,Po)))
 tp:∀e∈bs,H e.2=some (.tup [.str (Dz e.1).1,.str (Dz e.1).2])
 nd:(bs.map (·.1)).Nodup
def BAt.keep{H H':Hp}{b:Nc}{bs:List ((Str×Str)×Addr)}{r:Nu}{xs:Nl}(h:BAt H b bs r)(k:WB H')(hb:b∉xs)(ht:∀e∈bs,e.2∉xs):BAt H' b bs r:=
 ⟨k _ _ h.dc hb,λe he=>k _ _ (h.tp e he) (ht e he),h.nd⟩
def kP_inj{s u:Str×Str}(h:kP s=kP u):s=u:=by unfold kP at h;injection h with h1 h2;injection h2 with h2 _;exact Km (Ug h1) (Ug h2)
def valT_out{bs:List ((Str×Str)×Addr)}{s:Str×Str}(h:s∉bs.map (·.1)):valV (bs.map λe=>(zr,Po)) yu=none:=by
 induction bs with
 |nil=>rfl
 |cons a t ih=>
  rw[Ql,Qj,not_or]at h;rw[Ql,zb2]
  ·exact ih h.2
  intro q;exact h.1 (kP_inj q).symm
def valT_in{bs:List ((Str×Str)×Addr)}(nd:(bs.map (·.1)).Nodup){e:(Str×Str)×Addr}(h:e∈bs):valV (bs.map λe=>(zr,Po)) zr=some (.ref e.2):=by
 induction bs with
 |nil=>cases h
 |cons a t ih=>
  rw[Ql,Qw]at nd;rw[Ql];rcases Qj.mp h with z|z
  ·subst z;exact zct rfl
  rw[zb2]
  ·exact ih nd.2 z
  intro q;exact nd.1 (by rw[kP_inj q];exact Qf.mpr ⟨e,z,rfl⟩)
inductive IspSteps(vs:List V)(H:Hp)(Q:VK):Prop
 |mk (d:Nc) (es:List Ent) (h0:vs=[.ref d]) (h1:TAt H d es) (h2:es.length≤60) (h3:(∀e∈es,e.2.1.Nodup∧e.2.1.length≤100)) (h4:∀(b:Nc) (bs:List ((Str×Str)×Addr)) (H':Hp),BAt H' b bs (row (rsOf es))→(∀s,s∈bs.map (·.1)↔s.1∈row (rsOf es) s.2)→bs.length≤10000→H b=none→Keep [] H H'→Q (.ref b) H'):IspSteps vs H Q
def spSteps:Sp:=λvs H Q _=>IspSteps vs H Q
def pidx(n j:Nat):Nat:=if j=0 then n-1 else j-1
def atI_prev{zs:List V}{j:Nat}(hj:j<zs.length):atI zs ((j:Int)-1)=zs[XR j]?:=by
 unfold pidx;by_cases h:j=0
 ·subst h;rw[if_pos rfl];unfold atI ixN;have e1:¬(0:Int)≤((0:Nat):Int)-1:=by lia
  have e2:-(zs.length:Int)≤((0:Nat):Int)-1:=by lia
  rw[if_neg e1,if_pos e2];show zs[(((0:Nat):Int)-1+(zs.length:Int)).toNat]?=_;congr 1;lia
 rw[Sz h];have e:(j:Int)-1=((j-1:Nat):Int):=by lia
 rw[e,zav (Qb Hc),Qb Hc]
def idx_at{zs:Ng}(nd:zs.Nodup){i:Nat}(hi:i<zs.length):zs.idxOf zs[i]=i:=by have h1:zs.idxOf zs[i]<zs.length:=zhf EA;have h2:zs[zs.idxOf zs[i]]=zs[i]:=Jy h1;exact(Wm nd).mp h2
def nxt_idx{zs:Ng}(nd:zs.Nodup){j:Nat}(hj:j<zs.length)(hp:XR j<zs.length):XQ zs[XR j]=zs[j]:=by
 unfold nxt;rw[Gx hp];have e:(XR j+1)%zs.length=j:=by
  unfold pidx;by_cases h:j=0
  ·rw[Sk h,h];have:zs.length-1+1=zs.length:=by lia
   rw[this,Nat.mod_self]
  rw[Sz h];have:j-1+1=j:=by lia
  rw[this,Nat.mod_eq_of_lt hj]
 rw[e,Qx,Qb hj];rfl
section
variable{P:Nk}{w:Nn}{K:Nb}{mg:Nh}{base:No}
def zfd:zam ["rounds", "behind", "place", "around", "at", "to"] ["rounds"] (zaj sSteps):=fsk
def ok_steps{f:Nc}{fd:Nw}(F:Z5 "steps_behind" "steps_behind" sSteps f fd)(pG:mg "enumerate" = none):ZB 1 f fd ["rounds"] spSteps:=by
 refine F.okL zfd Hi;obtain⟨d,es,rfl,T,aO,hok,k⟩:=h;have hu:=zb9 hr;have aH  :=sizeLine_eq;refine⟨_,zae (Mp zfd.nd pe_dnewT)
  (zae (ps_thaw (QS (zgm Sd) (za7 2 zfd.nd)
   (zae (B8 zfd.nd (JJ Sr))
   (zag (QS (pi_enum rfl pG TF) (Mo (zbe (za7 4 zfd.nd) (yo (za7 5 zfd.nd))))
    (zag (X7 (zbz (zaa (za9 ze6 S0 (Mu Ty zai) Hw) SQ)) (zbz (Z6 Al)) rfl)))))))
  (zag (yk Sf))),?_⟩
 refine λb hb=>?_;have nfz:∀o' u',H d≠some LQ:=λo' u' z=>by rw[T.dc]at z;cases z
 have nbd:d≠b:=Mv hb;have k1:Keep [] H (ZS b (.dT [])):=Keep.new hb;have hJ:BAt (ZS b (.dT [])) b [] HU:=⟨zad,λe he=>(by cases he),Zs⟩;have T1:TAt (ZS b (.dT [])) d es:=M' Hb (λ_ _=>by simp);generalize ZS b (.dT [])=H1 at k1 hJ T1;have hbm:∀{H':Hp} {bs:List ((Str×Str)×Addr)},BAt H' b bs HU→b≠d:=λ_=>Zd nbd;refine⟨_,rfl,d,_,rfl,T1.dc,λo=>for_dict (λi σ H'=>Aj4 (Ex4 λx2 x3 x4 x5=>σ=[Eo,Hj b,x2,x3,x4,x5]) (H' d=some PD) (Keep [d,b] H1 H') (Ex1 λbs=>KS (bs.length≤100*i) (∀s,s∈bs.map (·.1)↔s.2∈(OC i).map (·.1)∧s.1∈ZO s.2)))
  ⟨⟨_,_,_,_,rfl⟩,zad,Rv,[],hJ.keep (xs:=[d]) Rv (Rx nbd) (λe he=>by cases he),Tq,λs=>⟨λh=>(by cases h),λh=>(by cases h.1)⟩⟩
  (λi σ H' _ hh=>hh.2) ?_ ?_⟩
 ·rintro i pr σ H2 uh ⟨⟨x2,x3,x4,x5,rfl⟩,hz,k2,bs,eT,gz,dF⟩;have hi:i<es.length:=by have:=(Cm uh).1;rwa[Qa]at this
  have g1:pr=((Sum.inr es[i].1:Key),V.ref es[i].2.2):=by rw[Qo,Qb hi]at uh;exact(Qn uh).symm
  subst g1;have aG:es[i]∈es:=Qq hi;obtain⟨bw,oW⟩:=hok _ aG;have u8:ZO es[i].1=es[i].2.1:=zbt T.nd aG;have fO:=T1.ro _ aG;have nrd:es[i].2.2≠d:=zax fO T1.dc Hh;have nrb:es[i].2.2≠b:=zax fO hJ.dc Hh;have ke:=k2 _ _ fO (by simp[nrd,nrb]);refine⟨xf,xf,d,.ref es[i].2.2,rfl,HL ⟨_,Sum.inr es[i].1,SK ⟨o,hz⟩,rfl,(zd7 T.nd aG).symm⟩,?_⟩;have bo:es[i].1∉(OC i).map (·.1):=by
   have h1:(es.map (·.1)).take HY=(es.map (·.1)).take i++[es[i].1]:=by rw[Qk (yT hi),Zp]
   have h2:((es.map (·.1)).take HY).Nodup:=Jo PY T.nd;rw[h1,Zf,←Uk]at h2;exact λz=>h2.2.2 _ z _ TL rfl
  refine⟨_,rfl,es[i].2.2,rfl,⟨_,Tg ke⟩,for_enum (xs:=es[i].2.1.map V.str) (λj σ H'=>Aj4 (Ex2 λx4 x5=>σ=[Eo,Hj b,RH (.str es[i].1),RH (.ref es[i].2.2),x4,x5]) (H' d=some PD) (Keep [d,b] H1 H') (Ex1 λbs=>KS (bs.length≤100*i+j) (∀s,s∈bs.map (·.1)↔(s.2∈(OC i).map (·.1)∧s.1∈ZO s.2)∨∃(m:Nat) (hm:m<j) (hp:pidx es[i].2.1.length m<es[i].2.1.length),s=(es[i].2.1[Rz m],es[i].1))))
   ⟨⟨_,_,rfl⟩,hz,k2,bs,eT,gz,λs=>(dF s).trans ⟨.inl,λh=>by
    rcases h with z|⟨m,hm,_⟩
    ·exact z
    exact absurd hm (Nat.not_lt_zero m)⟩⟩ (λj σ H' _ hh=>hh.3 _ _ fO (by simp[nrd,nrb])) ?_ ?_⟩
  ·rintro j y t σ H3 hy ⟨⟨y4,y5,rfl⟩,tI,k3,mX,lm,pO,gf⟩ ht;have hj:j<es[i].2.1.length:=by have:=(Cm hy).1;rwa[Qa]at this
   have o0:y=.str es[i].2.1[j]:=by rw[Qo,Qb hj]at hy;exact(Qn hy).symm
   subst o0;have uj:pidx es[i].2.1.length j<es[i].2.1.length:=by unfold pidx;split<;>lia
   have ud:=k3 _ _ fO (by simp[nrd,nrb]);have k4:Keep [] H3 (QX t (.tup [SX j,.str es[i].2.1[j]])):=Keep.new ht;refine⟨t,xf,Tg zad,rfl,_,xf,_,xf,rfl,?_⟩;generalize QX t (.tup [SX j,.str es[i].2.1[j]])=H4 at k4;refine⟨xf,xf,LE,λv hv=>?_⟩;generalize qH5:WC v _=H5;obtain⟨k5,hv5⟩:=nwk hv qH5;have i9:Keep [] H3 H5:=k4.trans k5;have uc:=i9 _ _ ud Hb;have hV:atI (es[i].2.1.map V.str) ((j:Int)-1)=some (.str es[i].2.1[yP]):=by rw[atI_prev (yT hj),Qa,Qo,Qb uj];rfl
   refine⟨xf,xf,xf,_,xf,rfl,es[i].2.2,_,_,xf,rfl,Tg uc,hV,xf,LE,λq hq=>?_⟩;have k6:Keep [] H5 (Q4 q (.tup [.str es[i].2.1[yP],.str es[i].1])):=Keep.new hq;have oF:(Q4 q (.tup [.str es[i].2.1[yP],.str es[i].1])) q=some (.tup ((kP (es[i].2.1[yP],es[i].1)).map kV)):=zad;generalize Q4 q (.tup [.str es[i].2.1[yP],.str es[i].1])=H6 at k6 oF;have tE:Keep [] H3 H6:=i9.trans k6;have rD:BAt H6 b mX HU:=lm.keep tE Hb (λ_ _=>by simp);have hv6:=k6 _ _ hv5 Hb;have hz6:=tE _ _ tI Hb;refine⟨b,xf,DPut.t rD.dc oF SJ,?_⟩;have gn:(es[i].2.1[yP],es[i].1)∉mX.map (·.1):=λz=>by
    rcases(gf _).mp z with⟨z1,_⟩|⟨m,hm,qX,e⟩
    ·exact bo z1
    have e1:=(Ks e).1;have e2:=(Wm bw).mp e1;unfold pidx at e2;by_cases uY:j=0
    ·lia
    rw[Sz uY]at e2;by_cases jk:m=0
    ·rw[if_pos jk]at e2;lia
    rw[if_neg jk]at e2;lia
   have kj:putK (mX.map λe=>(zr,Po)) (kP (es[i].2.1[yP],es[i].1)) (Hf v)=(mX++[((es[i].2.1[yP],es[i].1),v)]).map λe=>(zr,Po):=by rw[zf8 _ (valT_out gn),Qp];rfl
   have av:UK (es[i].2.1[yP],es[i].1)=(es[i].1,es[i].2.1[j]):=by show(es[i].1,nxt (ZO es[i].1) es[i].2.1[yP])=_;rw[u8,nxt_idx bw hj uj]
   refine⟨⟨_,xf⟩,Hq nbd hz6,(LU (tE.sub Hb)).trans Rv,_,⟨by rw[zad,kj],λe he=>?_,?_⟩,?_,λs=>?_⟩
   ·rcases Qe.mp he with z|z
    ·have:=rD.tp e z;rw[zaf (zax this rD.dc Hh)];exact this
    rw[Qc.mp z,av,zaf (zax hv6 rD.dc Hh)];exact hv6
   ·rw[Qp,Zf];refine⟨lm.nd,EO ⟨Hb,Zs⟩,λx hx y hy e=>?_⟩;have d7:y=(es[i].2.1[yP],es[i].1):=by simpa using hy
    exact gn (by rw[←d7,←e];exact hx)
   ·rw[Qm];show _+1≤_;exact zar4 ‹_›
   rw[Qp,Qe,gf];constructor
   ·rintro ((z|⟨m,hm,hp,e⟩)|z)
    ·exact .inl z
    ·exact .inr ⟨m,by exact zar16 ‹_›,hp,e⟩
    exact .inr ⟨j,by exact Qi _,uj,Hd z⟩
   rintro (z|⟨m,hm,hp,e⟩)
   ·exact .inl (HL z)
   by_cases hmj:m < j
   ·exact .inl (SK ⟨m,hmj,hp,e⟩)
   have:m=j:=by lia
   subst this;exact .inr (Hm e Qd)
  rintro σ H3 ⟨⟨y4,y5,rfl⟩,tI,k3,mX,lm,pO,gf⟩;rw[Qa]at gf pO;refine⟨⟨_,_,_,xf⟩,tI,k3,mX,lm,Hc,λs=>(gf s).trans ?_⟩;have bn:(OC HY).map (·.1)=(OC i).map (·.1)++[es[i].1]:=by rw[Qk hi,Qp];rfl
  rw[bn,Qe,Qc];constructor
  ·rintro (⟨z1,z2⟩|⟨m,hm,hp,e⟩)
   ·exact⟨HL z1,z2⟩
   rw[e];exact⟨SK rfl,by rw[u8];exact Qq hp⟩
  rintro⟨z1|z1,z2⟩
  ·exact .inl ⟨z1,z2⟩
  refine .inr ?_;rw[z1,u8]at z2;obtain⟨q,hq,e⟩:=Ze z2;by_cases cV:q+1<es[i].2.1.length
  ·have uo:pidx es[i].2.1.length (q+1) < es[i].2.1.length:=by unfold pidx;rw[Sz Hc];assumption
   refine⟨q+1,cV,uo,Km ?_ z1⟩;show s.1=es[i].2.1[Rz (q+1)];rw[←e];congr 1
  have uo:pidx es[i].2.1.length 0 < es[i].2.1.length:=by unfold pidx;rw[Sk rfl];lia
  refine⟨0,Hc,uo,Km ?_ z1⟩;show s.1=es[i].2.1[Rz 0];rw[←e];congr 1;unfold pidx;rw[if_pos rfl];lia
 rintro σ H2 ⟨⟨x2,x3,x4,x5,rfl⟩,hz,k2,bs,eT,gz,dF⟩;rw[Qa]at dF gz;rw[Qr HM]at dF;refine⟨d,o,_,hz,nfz,?_⟩;have kf:Keep [] H (Q3 d Ru):=λc u ec _=>by
  have nc:c≠b:=JT hb;by_cases ba:c=d
  ·subst ba;rw[zad,←T.dc];exact ec
  rw[zaf ba];exact k2 c u E7 (by simp[ba,nc])
 refine⟨xf,k b bs _ (eT.keep (xs:=[d]) Rv (Rx nbd) (λe he=>by simpa using zax (eT.tp e he) hz Hh)) (λs=>?_) Hc hb kf⟩;rw[dF];constructor
 ·exact λh=>h.2
 intro h;refine⟨?_,h⟩;obtain⟨p,hp,e,_⟩:=(zdj (rs:=rsOf es) (by unfold rsOf;rw[List.map_map];exact T.nd)).mpr h;obtain⟨en,dH,rfl⟩:=Qf.mp hp;exact Qf.mpr ⟨en,dH,e⟩
end
end K21
namespace Tm
open PySem PyProof.Rows PySem.W MeetsSeq MeetsSeq2 MeetsSeq3 SeqRoads2
open AutoSeq1 (wpAny_loadPart')
def lexB(O:KeyOrd):List O.α→List O.α→Bool
 |[],[]=>false
 |[],_::_=>true
 |_::_,[]=>false
 |x::xs,y::ys=>NS y||(!F' x&&lexB O xs ys)
def ze4{O:KeyOrd}{x y:O.α}{xs ys:List O.α}:lexB O (x::xs) (y::ys)=(NS y||(!F' x&&lexB O xs ys)):=rfl
def listO(O:KeyOrd):KeyOrd where
 α:=List O.α
 blt:=lexB O
 irrefl a:=by
  induction a with
  |nil=>rfl
  |cons x t ih=>show(NS x||(!NS x&&lexB O t t))=false;rw[O.irrefl,ih];rfl
 trans a b c h1 h2:=by
  induction a generalizing b c with
  | nil=>
   cases c with
   |cons z u=>rfl
   |nil=>cases b with
    |nil=>exact h1
    |cons y v=>cases h2
  | cons x t ih=>
   cases b with
   |nil=>cases h1
   | cons y v=>
    cases c with
    |nil=>cases h2
    | cons z u=>
     rw[ze4,Jd,Wf,Wi]at *;rcases h1 with h1|⟨n1,h1⟩
     ·rcases h2 with h2|⟨n2,h2⟩
      ·exact .inl (Gr h2)
      exact .inl (VX n2)
     rcases h2 with h2|⟨n2,h2⟩
     ·exact .inl (Xm n1 h2)
     exact .inr ⟨Wk n1 n2,ih _ _ h1 h2⟩
 negTrans a b c h:=by
  induction a generalizing b c with
  |nil=>
   cases b with
   |nil=>exact .inr h
   |cons y v=>exact .inl rfl
  | cons x t ih=>
   cases c with
   |nil=>cases h
   | cons z u=>
    cases b with
    |nil=>exact .inr rfl
    | cons y v=>
     rw[ze4,Jd,Wf,Wi]at *;rw[ze4,Jd,Wf,Wi];rcases h with h|⟨n,h⟩
     ·rcases O.negTrans _ y _ h with q|q
      ·exact .inl PZ
      exact .inr PZ
     cases e1:NS y with
     |true=>exact .inl RT
     | false=>
      cases e2:F' z with
      |true=>exact .inr RT
      |false=>
       have n1:F' x=false:=Wk (O:=O) (a:=x) (b:=z) (c:=y) n e2;have n2:O.blt z y=false:=Wk (O:=O) (a:=y) (b:=x) (c:=z) e1 n;rcases ih v u h with q|q
       ·exact .inl (SK ⟨n1,q⟩)
       exact .inr (SK ⟨n2,q⟩)
 total a b h1 h2:=by
  induction a generalizing b with
  |nil=>cases b with
   |nil=>rfl
   |cons y v=>cases h1
  |cons x t ih=>cases b with
   |nil=>cases h2
   |cons y v=>rw[ze4,Bool.or_eq_false_iff,Bool.and_eq_false_iff,Ka]at h1 h2;have e1:=Dp h1.1 h2.1;subst e1;have i:=O.irrefl x;rw[i]at h1 h2;rw[ih v (h1.2.elim (λz=>by cases z) id) (h2.2.elim (λz=>by cases z) id)]
abbrev kyL(zs:Tn (Str×Tok)):List Sg:=zs.map λp=>p.1.cps.toList
def lt_loopT(l b:Nc)(xs ys:Tn (Str×Tok))(n n2:Nat)(k:Nat) :
  ∀ i:Nat,min xs.length ys.length - i=k→i≤min xs.length ys.length→Meets (Builtin.«list.__eq__.loop» ⟨[Tb,Io,CG i,CG 0],[]⟩)
   (λA R s=>s.heap.get? l=some { cls:=.type "list",data:=.seq (Lh xs).toArray n }∧s.heap.get? b=some { cls:=.type "list",data:=.seq (Lh ys).toArray n2 } ∧
    R (Ip (AH (BF (kyL (xs.drop i)) (kyL (ys.drop i))))) s):=by
 have get:∀(zs:Tn (Str×Tok)) (i:Nat),(Lh zs).toArray[((i:Nat):Int).toNat]?=zs[i]?.map λp=>Value.str p.1 p.2:=λzs i=>by simp[strValues]
 have sz:∀zs:List (Str×Tok),(Lh zs).toArray.size=zs.length:=λzs=>by simp[strValues]
 induction k with
 | zero=>
  intro i hk kM prog w A R s h;obtain⟨hp,g,d,tk,os⟩:=s;obtain⟨hl,hb,h⟩:=h;wp_walk using wpAny_loadPart' hl,wpAny_loadPart' hb;rw[get,get];by_cases hx:i<xs.length
  ·have hy:ys[i]?=none:=by simp;lia
   rw[hy,Qb hx];dsimp only[Option.map_some,Option.map_none];wp_walk using wpAny_loadPart' hl,wpAny_loadPart' hb;rw[Yc hx,Jz (l:=ys) Hc]at h;show R (Ip (.bool (decide ((Lh xs).toArray.size<(Lh ys).toArray.size)))) _;rw[sz,sz,decide_eq_false Hc];exact h
  have bh:xs[i]?=none:=by simp;lia
  rw[bh];dsimp only[Option.map_some,Option.map_none];wp_walk using wpAny_loadPart' hl,wpAny_loadPart' hb;rw[Jz (l:=xs) Hc]at h;show R (Ip (.bool (decide ((Lh xs).toArray.size<(Lh ys).toArray.size)))) _;rw[sz,sz];by_cases hy:i<ys.length
  ·rw[Yc hy]at h;rw[decide_eq_true Hc];exact h
  rw[Jz Hc]at h;rw[decide_eq_false Hc];exact h
 | succ k ih=>
  intro i hk kM prog w A R s h;obtain⟨hp,g,d,tk,os⟩:=s;obtain⟨hl,hb,h⟩:=h;wp_walk using wpAny_loadPart' hl,wpAny_loadPart' hb;have hx:i<xs.length:=by lia
  have hy:i<ys.length:=by lia
  rw[get,get,Qb hx,Qb hy];dsimp only[Option.map_some];have hc:((i:Int)+1)=((i+1:Nat):Int):=by push_cast;rfl
  have ex:xs.drop i=xs[i]::xs.drop HY:=Yc hx;have ey:ys.drop i=ys[i]::ys.drop HY:=Yc hy;rw[ex,ey]at h;refine wpAny_bind (wpAny_eqBool_str ?_);by_cases he:xs[i].1=ys[i].1
  ·rw[Rh he];wp_walk;rw[hc];have e2:BF (kyL (xs[i]::xs.drop HY)) (kyL (ys[i]::ys.drop HY))=BF (kyL (xs.drop HY)) (kyL (ys.drop HY)):=by show(strO.blt _ _||(!strO.blt _ _&&BF _ _))=_;rw[show(λp:Str×Tok=>p.1.cps.toList) ys[i]=(λp:Str×Tok=>p.1.cps.toList) xs[i] from by show ys[i].1.cps.toList=xs[i].1.cps.toList;rw[he],strO.irrefl];rfl
   rw[e2]at h;exact⟨plainId_quiet plain_eq_loop _,codeAny_builtin entry_eq_loop (by rw[Gy _];exact ih HY Hc Hc prog w A R _ ⟨hl,hb,h⟩)⟩
  rw[Se he];wp_walk using wpAny_loadPart' hl,wpAny_loadPart' hb;rw[get,get,Qb hx,Qb hy];dsimp only[Option.map_some];refine wpAny_bind (show ZQ _ (compareOp .Lt (Value.str xs[i].1 xs[i].2) (Value.str ys[i].1 ys[i].2)) _ _ _ from lt_str ?_);wp_walk;have e2:BF (kyL (xs[i]::xs.drop HY)) (kyL (ys[i]::ys.drop HY))=strO.blt xs[i].1.cps.toList ys[i].1.cps.toList:=by
   show(strO.blt _ _||(!strO.blt _ _&&BF _ _))=_;cases h1:strO.blt xs[i].1.cps.toList ys[i].1.cps.toList with
   |true=>rfl
   |false=>
    cases h2:strO.blt ys[i].1.cps.toList xs[i].1.cps.toList with
    |true=>rfl
    |false=>exact absurd (str_ext (strO.total _ _ h1 h2)) he
  rw[e2]at h;exact h
def list_ltT(l b:Nc)(xs ys:Tn (Str×Tok))(n n2:Nat):Meets (Builtin.«list.__lt__» ⟨[Tb,Io],[]⟩)
   (λA R s=>s.heap.get? l=some { cls:=.type "list",data:=.seq (Lh xs).toArray n }∧s.heap.get? b=some { cls:=.type "list",data:=.seq (Lh ys).toArray n2 } ∧
    R (Ip (AH (BF (kyL xs) (kyL ys)))) s):=by
 intro prog w A R s h;obtain⟨hp,g,d,tk,os⟩:=s;obtain⟨hl,hb,h⟩:=h;have f3:=AutoSeq1.sub_list_list;wp_walk using wpAny_loadPart' hl,wpAny_loadPart' hb;exact⟨plainId_quiet plain_eq_loop _,codeAny_builtin entry_eq_loop (by rw[Gy _];exact lt_loopT l b xs ys n n2 _ 0 rfl Tq prog w A R _ ⟨hl,hb,h⟩)⟩
def kvL(h:No)(v:Value):List Sg:=(zhc h v).map kvS
section
variable{prog:Nk}{w:Nn}{A:Np}{E:Na}{s:Ni}
def kvL_ref{h:No}{a:Nc}{xs:List (Str×Tok)}{n:Nat}(e:h.get? a=some {cls:=.type "list",data:=.seq (Lh xs).toArray n}):kvL h Rm=kyL xs:=by unfold kvL;rw[zhb e rfl];simp only[strValues,Zc];rfl
def zgg{vs:Nj}{h:No}(hu:A.units<cLine)(k:∀b o,h.get? b=some o→s.heap.get? b=some o)(hv:∀v∈vs,∃a xs n,v=.ref a∧h.get? a=some {cls:=.type "list",data:=.seq (Lh xs).toArray n}):WQ (λws=>ws.Pairwise λx y=>(listO strO).kle (kvL h x) (kvL h y)) vs:=by
 refine .ordT λh2=>⟨oneType',λQ q=>kas_kind (T:=.type "list") h2 (λv hm=>?_) Hg Hg q,λx y hx hy Q E' q=>?_⟩
 ·obtain⟨a,xs,n,rfl,e⟩:=hv v hm;exact(Looks.ld E3).andThen .now
 obtain⟨a,xs,n,rfl,e⟩:=hv x hx;obtain⟨b,ys,m,rfl,e'⟩:=hv y hy;rw[kvL_ref e,kvL_ref e']at q;rw[keyLt'_oneType,oneLt'_eq];simp only[if_true];refine wpAny_bind (wpAny_cRoomFor hu ?_);refine wpAny_bind (wpAny_callSpecialIfBound?_slot ⟨_,E3,rfl⟩ F.slot_list_lt (call_meets F.slot_list_lt ⟨_,E3,rfl⟩ F.entry_list_lt (F.args_list_lt_2 _ _) (list_ltT a b xs ys n m) ⟨E3,k _ _ e',?_⟩));exact wpAny_truthy_bool q
end
end Tm
namespace L2
open PySem PySem.Spec PyProof.Rows Tm
def lstV(H:Hp):V→List Sg
 |.ref a=>match H a with
  |some (.lst xs)=>xs.map txV
  |_=>[]
 |_=>[]
def zjb(e:RU a LC):lstV H Rm=xs.map txV:=by unfold lstV;dsimp only;rw[e]
section
variable{X:Cx}
def zc0(hu:X.A.units+8<cLine):YH (.builtin "sorted") (λxs H Q=>Ex2 λ(p:Nc) (ys:List V)=>Aj4 (xs=[TR]) EL (∀v∈ys,∃a zs,v=.ref a∧H a=some (Hv Og)) (∀(l:Nc) (ws:List V),H l=none→ws.Perm ys→(ws.Pairwise λa b=>(listO strO).kle (lstV H a) (lstV H b))→Q Tb (TB l ws))):=by
 intro a7 s σ H xs us Q I r h;obtain⟨p,ys,rfl,hq,hy,q⟩:=h;obtain⟨u,rfl,rx⟩:=vals1 r;cases rx;refine zea I hq (λa8 r A' E' s' hA k=>zgg (by exact Yh ‹_› ‹_›) k λv hv=>?_) λl ws a8 us hl p1 r1 r2 p2=>q l ws hl p1 ?_
 ·obtain⟨b,hb,ru⟩:=zge r v hv;obtain⟨a,zs,rfl,e2⟩:=hy b hb;cases ru;obtain⟨_,aD,n,r2,e3⟩:=YD e2;obtain⟨l2,rfl,_⟩:=zem r2;exact⟨a,l2,n,rfl,e3⟩
 refine Vals.pairwise (R:=λa b=>(listO strO).kle a b) r2 (λv hv u ru=>?_) p2;obtain⟨a,zs,rfl,e2⟩:=hy v (p1.mem_iff.mp hv);cases ru;obtain⟨_,aD,n,r3,e3⟩:=YD e2;obtain⟨l2,rfl,z⟩:=zem r3;rw[kvL_ref e3,zjb e2];rw[←z,Zc,Zc];rfl
def keyP(p:Str×Str):List Nat×List Nat:=(p.1.cps.toList,p.2.cps.toList)
def leP(a b:Str×Str):Prop:=(Bh strO).kle (keyP a) (keyP b)
def zcn{α β γ:Type}{R:α→β→Prop}{S:γ→γ→Prop}{f:α→γ}{g:β→γ}{as:List α}{bs:List β}(h:WE as bs)(e:∀ a b,R a b→f a=g b)(p:as.Pairwise λx y=>S (f x) (f y)):bs.Pairwise λx y=>S (g x) (g y):=by
 have mem:∀{as:List α} {bs:List β},WE as bs→∀b∈bs,∃a∈as,R a b:=λ{as bs} h=>by
  induction h with
  |nil=>intro b hb;cases hb
  |cons h t ih=>
   intro b hb;rcases Qj.mp hb with z|z
   ·exact⟨_,Qd,z▸h⟩
   obtain⟨a,ha,r⟩:=ih b z;exact⟨a,QL ha,r⟩
 induction h with
 |nil=>exact .nil
 |cons h t ih=>rw[Uf]at p;refine Uf.mpr ⟨λb hb=>?_,ih p.2⟩;obtain⟨a,ha,r⟩:=mem t b hb;rw[←e _ _ h,←e _ _ r];exact p.1 a ha
def zhk(hc:X.calm=true):YH (.builtin "sorted") (λxs H Q=>Ex3 λ(d:Nc) (kvs:Tn (List Key×V)) (qs:Nt)=>Aj4 (xs=[OY]) (RU d TX) (kvs.map (·.1)=qs.map kP) (∀ (l:Nc) (as:Nl) (ws:Nt),H l=none→ws.Perm qs→FV as ws→ws.Pairwise leP→Q Tb (TB l Sj))):=by
 intro a7 s σ H xs us Q I r h;obtain⟨d,kvs,qs,rfl,hq,ek,q⟩:=h;obtain⟨u,rfl,rx⟩:=vals1 r;cases rx;obtain⟨z,lo,ts,rk,o,es,ep,e1,e2,e3,e4,e5⟩:=(show ZY H s.heap d TX from I.hok d _ hq);have lJ:RawD.At s.heap d es ep:=⟨o,e1,e2,e3⟩;have ad:kvs.length=ts.length:=Zh rk;have aO:es.size=ts.length:=by rw[←Zy,e4,Qa]
 have jo:FV (ts.map λt=>t.2.1) qs:=by
  clear e4 e5 aO ad lJ z q hq;induction rk generalizing qs with
  |nil=>
   cases qs with
   |nil=>exact .nil
   |cons a b=>cases ek
  |@cons p t ps i6 h1 t1 ih=>
   cases qs with
   |nil=>cases ek
   |cons a b=>rw[Ql,Ql]at ek;injection ek with k1 k2;refine .cons ?_ (ih _ k2);have:=h1.2.1;rw[k1]at this;exact this
 have oj:∀ai:Array Value,ItemsOf (λi v=>∃e,es[i]?=some e∧v=e.key) ai es.size→ai.toList=(ts.map λt=>t.2.1).map Value.ref:=λai hi=>by
  apply List.ext_getElem?;intro i;rw[Qo,Qo];by_cases ae:i<es.size
  ·have uI:i < ai.size:=by rw[hi.1];exact ae
   have a1:ai[i]?=some ai[i]:=Yp uI;obtain⟨e,h1,h2⟩:=hi.2 i _ a1;rw[Uv,a1,h2];have h3:es.toList[i]?=some e:=by rw[Uv];exact h1
   rw[e4,Qo]at h3;cases ht:ts[i]? with
   |none=>rw[ht]at h3;cases h3
   |some t=>rw[ht]at h3;have h4:entryOfKey (OJ Ta) t=e:=Qn h3;rw[←h4];rfl
  have a1:ai.toList[i]?=none:=by rw[Uv];exact Array.getElem?_eq_none (by rw[hi.1];lia)
  have a2:ts[i]?=none:=Us Hc;rw[a1,a2];rfl
 have hvr:∀as:List Addr,DT (as.map Value.ref):=λas=>by
  induction as with
  |nil=>exact .nil
  |cons a r ih=>exact .cons rfl ih
 refine zfc (R:=λa8 ws=>ws.Pairwise λx y=>(Bh strO).kle (Me x) (Me y)) (G:=λa8=>a8=(ts.map λt=>t.2.1).map Value.ref) (λE' R hR=>zhj (RawD.src lo) (show X.A.in1.handled=none from I.ok.hd hc) lJ Hc λg tk ai k le hi=>hR g tk _ k le (oj ai hi))
  (λa8 e=>by rw[e,Qa,Qa];exact zd9 ‹_› ‹_›) (λa8 e A' E' s' _ k=>?_) λa8 ws l g tk e r p1 p2 le k he=>?_
 ·have all:∀ v∈a8,∃ x y t,Fe v x (.str y t):=λv hv=>by rw[e]at hv;obtain⟨a,ha,rfl⟩:=Qf.mp hv;obtain⟨rr,oA⟩:∃r:Str×Str,H a=some (.tup [Iv,Iw]):=pairs_mem jo ha;obtain⟨q',⟨t,rfl⟩,T⟩:=zf4 I oA;exact⟨_,_,t,T⟩
  refine zd8 k (λv hv=>let⟨x,y,t,T⟩:=all v hv;⟨x,_,T⟩) λv hv u hu x p q T T'=>.inr ?_;obtain⟨_,y,t,T1⟩:=all v hv;obtain⟨_,y',t',T2⟩:=all u hu;exact⟨y,t,y',t',(zf5 T T1).2,(zf5 T' T2).2⟩
 subst r;obtain⟨as,rfl,p3⟩:∃as:List Addr,ws=as.map Value.ref∧as.Perm (ts.map λt=>t.2.1):=by
  have key:∀{ws:Nj} {bs:Nl},ws.Perm (bs.map Value.ref)→∃as:List Addr,ws=as.map Value.ref∧as.Perm bs:=λ{ws bs} pm=>by
   have a2:∃as:List Addr,ws=as.map Value.ref:=by
    have a1:∀v∈ws,∃a,v=Value.ref a:=λv hv=>by obtain⟨a,_,e⟩:=Qf.mp (pm.mem_iff.mp hv);exact⟨a,e.symm⟩
    clear pm;induction ws with
    |nil=>exact⟨[],rfl⟩
    |cons v r ih=>obtain⟨as,e⟩:=ih λv hv=>a1 v Pz;obtain⟨x,e2⟩:=a1 v Qd;exact⟨x::as,by rw[e,e2];rfl⟩
   obtain⟨as,rfl⟩:=a2;refine⟨as,rfl,?_⟩;have:=pm.map (λv=>match v with | .ref a=>a|_=>0);rw[Zc,Zc]at this;simpa[Function.comp_def] using this
  exact key p1
 obtain⟨qs',q1,q2⟩:=zdh p3 jo;refine⟨Tb,_,I.laid (t':=tk) k le (show ZY _ g _ (Hv _) from⟨?_,as.map Value.ref,e,hvr as,he⟩),rfl,q l as qs' (IK le) q1 q2 ?_⟩
 ·rw[Qa,p3.length_eq,Qa];exact zd9 ‹_› ‹_›
 rw[Wx]at p2;refine zcn (f:=λa=>Me Rm) (g:=keyP) q2 (λa b e=>?_) p2;obtain⟨q',⟨t,rfl⟩,T⟩:=zf4 I e;rw[T.key];rfl
end
end L2
namespace K21
open PySem L2 Wb Tm PySem.W PyProof.Rows
def leP_antisymm{a b:Str×Str}(h1:leP a b)(h2:leP b a):a=b:=by have e:=NT h2;unfold keyP at e;injection e with e1 e2;exact Km (str_ext e1) (str_ext e2)
def leP_total(a b:Str×Str):leP a b∨leP b a:=by
 cases h:(Bh strO).blt (keyP b) (keyP a) with
 |false=>exact .inl h
 |true=>exact .inr (We h)
structure zfq(r:Nu)(L:Nt):Prop where
 cy:∃s t,L=s::t∧Lk (st r) s t s∧∀u∈L,leP s u
structure zbq(r:Nu)(Ls:List (List (Str×Str))):Prop where
 fa:∀L∈Ls,VD L
 nd:Ls.flatten.Nodup
 al:∀s,s∈Ls.flatten↔s.1∈r s.2
def lk_clo{β:Type}{f:β→β}{e:β}:∀{t:List β} {s:β},Bj e→∀u,u=s∨u∈t→f u=e∨f u∈t:=by
 intro t;induction t with
 |nil=>
  intro s h u hu;rcases hu with rfl|hu
  ·exact .inl h
  cases hu
 |cons a t ih=>
  intro s h u hu;rcases hu with rfl|hu
  ·exact .inr (by rw[h.1];exact Qd)
  rcases ih h.2 u (PQ hu) with z|z
  ·exact .inl z
  exact .inr zm
def lk_all{β:Type}{f:β→β}{e:β}{P:β→Prop}(hP:∀u,P u→P (f u)):∀{t:List β} {s:β},Bj e→P s→∀u∈t,P u:=by
 intro t;induction t with
 |nil=>intro s h hs u hu;cases hu
 |cons a t ih=>
  intro s h hs u hu;have ha:P a:=h.1▸hP s hs;rcases Qj.mp hu with z|z
  ·rw[z];exact ha
  exact ih h.2 ha u z
def lk_eq{β:Type}{f:β→β}{e:β}:∀{t t':List β} {s:β},Bj e→XO s t' e→e∉t→e∉t'→t=t':=by
 intro t;induction t with
 |nil=>
  intro t' s h h' n n';cases t' with
  |nil=>rfl
  |cons x u=>exact absurd (by rw[show x=e from h'.1.symm.trans h];exact Qd) n'
 |cons a t ih=>
  intro t' s h h' n n';cases t' with
  |nil=>exact absurd (by rw[show a=e from h.1.symm.trans h'];exact Qd) n
  |cons x u=>have e1:a=x:=h.1.symm.trans h'.1;subst e1;rw[ih h.2 h'.2 (λz=>n zm) λz=>n' zm]
def zfq.sub{r:Nu}{L L':Nt}(a:VD L)(b:VD L'){s:Str×Str}(h:s∈L)(h':s∈L'):∀u∈L,u∈L':=by
 obtain⟨s0,t,rfl,k,_⟩:=a;obtain⟨i7,t',rfl,k',_⟩:=b;obtain⟨A,B,e⟩:=Wr h;have c:Fk (A++s::B):=⟨s0,t,e.symm,k⟩;have hl:=zdk c;have clo:∀u,u∈i7::t'→Dz u∈i7::t':=λu hu=>by
  rcases lk_clo k' u (PQ hu) with z|z
  ·rw[z];exact Qd
  exact QL z
 have al:=lk_all (P:=λu=>u∈i7::t') clo hl h';intro u hu;rw[e]at hu;rcases Qe.mp hu with z|z
 ·exact al u PX
 rcases Qj.mp z with y|y
 ·rw[y];exact h'
 exact al u (YN y)
def zfq.one{r:Nu}{L L':Nt}(a:VD L)(b:VD L')(n:L.Nodup)(n':L'.Nodup){s:Str×Str}(h:s∈L)(h':s∈L'):L=L':=by have s1:=a.sub b h h';have s2:=b.sub a h' h;obtain⟨s0,t,rfl,k,m⟩:=a;obtain⟨i7,t',rfl,k',m'⟩:=b;have e:=leP_antisymm (m i7 (s2 _ Qd)) (m' s0 (s1 _ Qd));subst e;rw[lk_eq k k' (Qw.mp n).1 (Qw.mp n').1]
def flat_nd{β:Type}:∀{Ls:List (List β)},Ls.flatten.Nodup→(∀L∈Ls,L≠[])→Ls.Nodup∧∀L∈Ls,L.Nodup:=by
 intro Ls;induction Ls with
 |nil=>intro _ _;exact⟨Zs,λL h=>by cases h⟩
 |cons L t ih=>
  intro h n;rw[Yj,Zf]at h;obtain⟨h1,h2⟩:=ih h.2.1 λL' cq=>n L' (QL cq);refine⟨Qw.mpr ⟨λz=>?_,h1⟩,λL' cq=>?_⟩
  ·obtain⟨x,hx⟩:=List.exists_mem_of_ne_nil L (n L Qd);exact h.2.2 x hx x (Om ⟨L,z,hx⟩) rfl
  rcases Qj.mp cq with z|z
  ·rw[z];exact h.1
  exact h2 L' z
def zbq.row{r:Nu}{Ls:List HQ}(a:DD Ls):Ls.Nodup∧∀L∈Ls,L.Nodup:=
 flat_nd a.nd λL hL=>by obtain⟨s,t,e,_⟩:=(a.fa L hL).cy;rw[e];exact Fp _
def zbq.sub{r:Nu}{Ls dL:List HQ}(a:DD Ls)(b:DD dL):∀L∈Ls,L∈dL:=λL hL=>by
 obtain⟨s,t,e,_⟩:=(a.fa L hL).cy;have hs:s∈L:=by rw[e];exact Qd
 obtain⟨L',cq,dy⟩:=Yi.mp ((b.al s).mpr ((a.al s).mp (Om ⟨L,hL,hs⟩)));rw[(a.fa L hL).one (b.fa L' cq) (a.row.2 L hL) (b.row.2 L' cq) hs dy];exact cq
def zbq.one{r:Nu}{Ls dL:List HQ}(a:DD Ls)(b:DD dL):Ls.Perm dL:=
 (Ke a.row.1 b.row.1).mpr λL=>⟨a.sub b L,b.sub a L⟩
def zbq.turn{r r':Nu}{Ls:List HQ}(a:DD Ls)(hm:∀s:Str×Str,s.1∈r s.2↔s.1∈r' s.2)(hs:∀s:Str×Str,s.1∈r s.2→st r' s=Dz s):zbq r' Ls:=by refine⟨λL hL=>?_,a.nd,λs=>(a.al s).trans (hm s)⟩;obtain⟨s,t,e,k,m⟩:=(a.fa L hL).cy;refine⟨s,t,e,zje (λy hy=>hs y ((a.al y).mp (Om ⟨L,hL,by rw[e];exact Qj.mpr hy⟩))) k,m⟩
def leL(a b:Ng):Prop:=(listO strO).kle (a.map λx=>x.cps.toList) (b.map λx=>x.cps.toList)
def leL_antisymm{a b:Ng}(h1:leL a b)(h2:leL b a):a=b:=by
 have e:=NT h2;clear h1 h2;induction a generalizing b with
 |nil=>cases b with
  |nil=>rfl
  |cons y u=>cases e
 |cons x t ih=>cases b with
  |nil=>cases e
  |cons y u=>rw[Ql,Ql]at e;injection e with e1 e2;rw[str_ext e1,ih e2]
def rows_one{xs ys:List E8}(p:xs.Perm ys)(h1:xs.Pairwise leL)(h2:ys.Pairwise leL):xs=ys:=
 p.eq_of_pairwise (λa b _ _=>leL_antisymm) h1 h2
end K21
namespace K21
open PySem L2 Wb
abbrev zhz:Stmt:=top 10
def zf0(H:Hp)(a:Nc)(h:Str):Prop:=∃t:List Str,H a=some (Hv ((h::t).map V.str))
def zcq(es:List Ent):List Str:=(es.filter λe=>e.2.1.isEmpty).map (·.1)
def zbn(H:Hp)(a:Nc)(zs:Ng):Prop:=H a=some Ol
abbrev sing(x:Str):List Str:=[x]
abbrev nmL(L:Nt):List Str:=L.map (·.1)
inductive IspFaces(vs:List V)(H:Hp)(Q:VK):Prop
 |mk (d:Nc) (es:List Ent) (cs:List (List (Str×Str))) (a9:Nq) (h0:vs=[.ref d]) (h1:TAt H d es) (h2:es.length≤60) (h3:(∀e∈es,e.2.1.length≤100)) (h4:Cert (es.map (·.1)) (row (rsOf es)) cs a9) (h5:∀(l:Nc) (as:Nl) (hd hc:Ng) (aF:List (List (Str×Str))) (H':Hp),H' l=some (.lst (as.map V.ref))→as.length≤20000→Paired (zf0 H') as hd→hd.Perm (zcq es++hc)→aF.Perm cs→Paired (λh c=>∃s∈c,s.1=h) hc aF→Keep [] H H'→Q Tb H'):IspFaces vs H Q
def spFaces:Sp:=λvs H Q _=>IspFaces vs H Q
inductive IspFacesO(vs:List V)(H:Hp)(Q:VK):Prop
 |mk (d:Nc) (es:List Ent) (cs:List (List (Str×Str))) (a9:Nq) (h0:vs=[.ref d]) (h1:TAt H d es) (h2:es.length≤60) (h3:(∀e∈es,e.2.1.length≤100)) (h4:Cert (es.map (·.1)) (row (rsOf es)) cs a9) (h5:∀(l:Nc) (as:Nl) (zss:List (List Str)) (Ls aF:List (List (Str×Str))) (H':Hp),H' l=some (.lst (as.map V.ref))→as.length≤20000→Paired (zbn H') as zss→zss.Perm ((zcq es).map sing++Ls.map nmL)→zss.Pairwise leL→zbq (row (rsOf es)) Ls→aF.Perm cs→Paired List.Perm Ls aF→H l=none→(∀a∈as,H a=none)→Keep [] H H'→Q (.ref l) H'):IspFacesO vs H Q
def zio:Sp:=λvs H Q _=>IspFacesO vs H Q
def pt_truthK{X:Cx}{K:Nb}{a:Expr}{ta:TE}(hK:X.K=K)(ha:LZ)(he:∀whole,isTrue a X.env whole=(do let v ←whole;standAt a.pos;holding [v] PU)) :
  PT X a (λ σ H Q=>ta σ H λx H'=>RTr K x H' Q):=hK▸zf9 ha he
def ndF:(["place", "rounds"]:List Str).Nodup:=by decide+kernel
def valG_out{gs:Nt}{s:Str×Str}(h:s∉gs):valV (gs.map λs=>(yu,LH)) yu=none:=by
 induction gs with
 |nil=>rfl
 |cons a t ih=>
  rw[Qj,not_or]at h;rw[Ql,zb2]
  ·exact ih h.2
  intro q;exact h.1 (kP_inj q).symm
def valG_in{gs:Nt}{s:Str×Str}(h:s∈gs):valV (gs.map λs=>(yu,LH)) yu=some Tz:=by
 induction gs with
 |nil=>cases h
 |cons a t ih=>
  rw[Ql];by_cases e:a=s
  ·exact zct (by rw[e])
  rw[zb2 (λq=>e (kP_inj q))];rcases Qj.mp h with z|z
  ·exact absurd z.symm e
  exact ih z
def lk_get{β:Type}{f:β→β}{e:β}:∀{t:List β} {s:β},Bj e→∀k,k<(s::t).length→f ((s::t).getD k e)=(s::t).getD (k+1) e:=by
 intro t;induction t with
 |nil=>
  intro s h k hk;have:k=0:=by simp at hk;exact hk
  subst this;exact h
 |cons a t ih=>
  intro s h k hk;cases k with
  |zero=>exact h.1
  |succ n=>have:=ih h.2 n (Hd hk);simpa using this
def zh5{H H':Hp}{D g:Nc}{fa:Nl}{hd:Ng}{xs:Nl}(k:WB H')(h:Mw fa hd)(hx:∀a (h:Str) (t:Ng),H a=some (Hv ((h::t).map V.str))→a∉xs):Paired (zf0 H') fa hd:=
 Paired.imp' (λa h ⟨t,e⟩=>⟨t,k _ _ e (hx a h t e)⟩) h
theorem Paired.impM{α β:Type}{R S:α→β→Prop}:∀{as:List α} {bs:List β},(∀a b,b∈bs→R a b→S a b)→WE as bs→Paired S as bs
 |_,_,_,.nil=>.nil
 |_,_,h,.cons r t=>.cons (h _ _ Qd r) (Paired.impM (λa b hb=>h a b LP) t)
def zc2{H H':Hp}{fa:Nl}{zs:List E8}(k:Keep [] H H')(h:Bk fa zs):VN fa zs:=Paired.imp' (λa z e=>k _ _ e Hb) h
def least_at{ws:Nt}(h:ws.Pairwise leP){i:Nat}(hi:i<ws.length){u:Str×Str}(hu:u∈ws)(hn:u∉ws.take i):leP ws[i] u:=by
 rw[←Zr i ws]at hu;rcases Qe.mp hu with z|z
 ·exact absurd z hn
 rw[Yc hi]at z;rcases Qj.mp z with y|y
 ·rw[y];exact(leP_total _ _).elim id id
 have h2:=h.sublist (Xz i ws);rw[Yc hi,Uf]at h2;exact h2.1 u y
def zal{α β:Type}{R:α→β→Prop}:∀{as cr:List α} {bs hW:List β},WE as bs→WE cr hW→WE (as++cr) (bs++hW):=by
 intro as cr bs hW r r';induction r with
 |nil=>exact r'
 |cons h t ih=>exact .cons h ih
section
variable{P:Nk}{w:Nn}{K:Nb}{mg:Nh}{base:No}
def zdc:zam ["rounds", "behind", "found", "gone", "first", "face", "step"] ["rounds"] (zaj zhz):=fsk
def ok_facesO{f fs:Nc}{fd fds:Nw}(F:Z5 "faces_of" "faces_of" zhz f fd)(FS:Z5 "steps_behind" "steps_behind" sSteps fs fds)(bS:QH fds ["rounds"] [])(mS:mg "steps_behind" = some (Hf fs))(GS:ZB 1 fs fds ["rounds"] spSteps)(aJ:mg "sorted" = none):ZB 2 f fd ["rounds"] zio:=by
 refine F.okL zdc Hi;obtain⟨d,es,cs,a9,rfl,T,aO,bM,C,k⟩:=h;have hu:=zb9 hr;have tR:(IO (PyProof.Rows.envOfC "faces_of" (zaj zhz) s.heap.objs.size f cdv)).units+8<cLine:=Yh (Kk (by decide:8≤64) _) hr.units;have aH  :=sizeLine_eq;refine⟨_,zae (Mp zdc.nd (BT bS .nil zbb SA))
  (zae (ps_thaw (ps_lc (i:=2) (M:=["place", "rounds"]) (ix:=[none,RH 0]) zdc.nd rfl rfl (mkB zdc) rfl (zgm Sd) (λC a7 ex s H=>UQ ndF)
    (λC a7 ex s H=>zfh (zdq (pt_truthK (K:=K) rfl (zdg (by exact hu) Sf Sd) (by intro _;rfl)))) (λC a7 ex s H=>zay SA) rfl))
  (zae (B8 zdc.nd pe_dnewT)
  (zae (QS (za6 (Pc (zhk rfl) Sn)) (za7 4 zdc.nd)
   (zae (DE zdc.nd SM)
   (zae (DF zdc.nd Ty)
   (zae (Fq (OZ (pv 6) S0)
    (zae (zec hu S0 (pv 6) pe_bl rfl)
    (zae (Ln EB (RG (za9 ze6 (pv 6) zai Hw)))
    (zag (DF zdc.nd (zdg hu Sf (pv 6)))))))
   (zag (zbu (zf9 EB (by intro _;rfl)) (zag (Ln Sr Al)) zas))))))
  (zag (yk (Pc (zc0 tR) SQ)))))),?_⟩
 have ak:∀e∈es,ZO e.1=e.2.1:=λe he=>zbt T.nd he;refine⟨xf,d,es,rfl,T,aO,λe he=>⟨ak e he▸C.rn e.1,bM e he⟩,λb bs H1 hJ dF gz hbfr k1=>?_⟩;have T1:TAt H1 d es:=M' Hb (λ_ _=>by simp);have nfz:∀o' u',H d≠some LQ:=λo' u' z=>by rw[T.dc]at z;cases z
 refine⟨_,rfl,d,_,rfl,T1.dc,λo=>⟨λi m ys τ H2=>Aj6 (m=es.length-i) (i≤es.length) (Ex1 λx0=>τ=[x0,Eo]) (H2 d=some PD) (Keep [d] H1 H2) (Ex1 λ(as:Nl)=>Aj4 (ys=as.map V.ref) (as.length≤i) (∀a∈as,H a=none) (Paired (zbn H2) as ((zcq (OC i)).map sing))),
  ⟨es.length,rfl,Tq,⟨none,rfl⟩,zad,En,[],rfl,Tq,(λa ha=>by cases ha),.nil⟩,?_⟩⟩
 rintro i m ys τ H2 ⟨rfl,hi,⟨x0,rfl⟩,hz,k2,fa,rfl,jw,cH,bZ⟩;have nV:∀{q:Nc},H2 q=none→H q=none:=λ{q} hq=>by refine zap k1 (zap k2 hq ?_) Hb;intro z;rw[Qc.mp z,hz]at hq;cases hq
 by_cases ae:i<es.length
 ·refine .inr ⟨⟨hz,by rw[Qa];exact ae⟩,by rw[Qa];lia,?_⟩;rintro y H' ⟨rfl,pr,e1,rfl⟩;have g1:pr=((Sum.inr es[i].1:Key),V.ref es[i].2.2):=by rw[Qo,Qb ae]at e1;exact(Qn e1).symm
  subst g1;have aG:es[i]∈es:=Qq ae;have gN:=T1.ro _ aG;have nri:es[i].2.2≠d:=zax gN T1.dc Hh;have ke:=k2 _ _ gN (Hd nri);have bn:es.take HY=es.take i++[es[i]]:=Qk ae;refine⟨xf,xf,d,.ref es[i].2.2,rfl,HL ⟨_,Sum.inr es[i].1,SK ⟨o,hz⟩,rfl,(zd7 T.nd aG).symm⟩,_,SK (HL ⟨_,SqT.of ke,rfl⟩),?_⟩;have iM:(es[i].2.1.map V.str).isEmpty=es[i].2.1.isEmpty:=by cases es[i].2.1<;>rfl
  cases hb:es[i].2.1.isEmpty with
  |false=>
   refine zaw (by rw[iM,hb];rfl) ⟨_,?_,rfl,ae,⟨_,rfl⟩,hz,k2,fa,rfl,by exact zar16 ‹_›,cH,?_⟩
   ·exact zar1 ‹_›
   unfold zcq;rw[bn,Yq,Yf (by rw[hb];decide),Ua,Zq];exact bZ
  | true=>
   refine za4 (by rw[iM,hb];rfl) ⟨_,rfl,LR,λq hq=>⟨_,?_,rfl,ae,⟨_,rfl⟩,?_,Co (Ht hq),fa++[q],?_,?_,?_,?_⟩⟩
   ·exact zar1 ‹_›
   ·rw[zaf (Fr hq)];exact hz
   ·rw[Qp];rfl
   ·rw[Qm];show _+1≤_;exact zar4 ‹_›
   ·intro a ha;rcases Qe.mp ha with z|z
    ·exact cH a z
    rw[Qc.mp z];exact nV hq
   unfold zcq;rw[bn,Yq,Yd (by rw[hb]),Ua,Qp,Qp];exact zal (zc2 Ez bZ) On
 have c8:i=es.length:=by exact zar3 ‹_› ‹_›
 subst c8;rw[Qr HM]at bZ;refine .inl ⟨⟨hz,HS Qa⟩,λD hD=>?_⟩;have ndD:d≠D:=Fr hD;refine⟨d,o,_,yw,nfz,?_⟩;have k3:Keep [] H1 (J0 Ru):=λc u ec _=>by
  by_cases ba:c=d
  ·subst ba;rw[zad,←T1.dc];exact ec
  have ec1:=k2 c u ec (Hd ba);rw[zaf ba,zaf (AK ec1 hD)];exact ec1
 have qc:(J0 Ru) D=some Iq:=by rw[zaf (Zd ndD)];exact zad
 have dA:Paired (zbn (J0 Ru)) fa ((zcq es).map sing):=Paired.imp' (λa h e=>by show BG a=_;rw[zaf (Ga hz Hh),zaf (B7 hD)];exact e) bZ;generalize J0 Ru=H3 at k3 qc dA;have lm:BAt H3 b bs HU:=hJ.keep k3 Hb (λ_ _=>by simp);refine λg hg=>?_;generalize jJ:QX g _=H4;obtain⟨k4,hg4⟩:=nwk hg jJ;have hb4:BAt H4 b bs HU:=lm.keep k4 Hb (λ_ _=>by simp);refine⟨xf,b,_,bs.map (·.1),rfl,hb4.dc,(by rw[Zc,Zc];rfl),λl as ws hl ag pa ay=>?_⟩;have k5:Keep [] H4 (TM l Sj):=Keep.new hl;have ce:(TM l Sj) l=some PB:=zad;have nz:zbh (TM l Sj) as ws:=zbh.keep pa λc x y ec=>k5 _ _ ec Hb;have nDl:D≠l:=zab (zT qc) hl;generalize WC l PB=H5 at k5 ce nz;have i9:Keep [] H3 H5:=k4.trans k5;have qb:=i9 _ _ qc Hb;have pk:=k5 _ _ hg4 Hb;have vo:BAt H5 b bs HU:=hb4.keep k5 Hb (λ_ _=>by simp);have cS:Paired (zbn H5) fa ((zcq es).map sing):=zc2 i9 dA;have lZ:Keep [] H H5:=(Tv k3).trans i9;have nlg:l≠g:=zax ce pk Hh;have nDg:D≠g:=zax qb pk Hh;have nbg:b≠g:=zab lm.dc hg;have nbD:b≠D:=zax vo.dc qb Hh;have c9:as.length=ws.length:=Zh nz;have f9:ws.length≤10000:=by rw[ag.length_eq,Qa];exact gz
 have notDg:∀{H':Hp} {rL:Nl} {gs:Nt},H' D=some (Hv (rL.map V.ref))→H' g=some (.dT (gs.map λs=>(yu,LH)))→∀a (h:Str) (t:Ng),zbn H' a (h::t)→a≠D∧a≠g:=λ{H' rL gs} e1 e2 a h t e=>
  ⟨Ga e1 (by
   intro z;have z':(h::t).map V.str=rL.map V.ref:=by injection z
   cases rL with
   |nil=>cases z'
   |cons x u=>rw[Ql,Ql]at z';injection z' with z1 _;cases z1),Ga e2 Hh⟩
 refine⟨l,rfl,⟨_,Hn ce⟩,zb5 (xs:=as.map V.ref) (λi σ H'=>Aj3 (Ex3 λx4 x5 x6=>σ=[Eo,Hj b,Hj D,Hj g,x4,x5,x6]) (Keep [D,g] H5 H') (Ex5 λ(gs:Nt) (dn rem:List HQ) (fa:Nl) (Ls:List HQ)=>Aj9 (H' g=some (.dT (gs.map λs=>(yu,LH)))) gs.Nodup (∀s,s∈gs↔s∈dn.flatten) (cs.Perm (dn++rem)) (∀s∈ws.take i,s∈gs) (H' D=some Iq) (VN fa ((zcq es).map sing++Ls.map nmL)) (Aj2 (DU dn) (∀L∈Ls,zfq HU L)) (Aj2 (∀a∈fa,H a=none) (fa.length≤100+i))))
  ⟨⟨_,_,_,rfl⟩,Keep.refl,[],[],cs,fa,[],pk,Zs,λs=>Iff.rfl,I0,λs hs=>(by cases hs),qb,by rw[Xr,Zq];exact cS,⟨.nil,λL hL=>by cases hL⟩,cH,Hc⟩
  (λi σ H' _ hh=>SqL.of (Oi ce (by simp[Zd nDl,nlg]))) ?_ ?_⟩
 ·rintro i y σ H6 hx ⟨⟨x4,x5,x6,rfl⟩,k6,gs,dn,rem,qi,eS,rp,jt,ju,cZ,mi,qa,fW,⟨ba,mU⟩,iK,pE⟩;have hi:i<as.length:=by have:=(Cm hx).1;rwa[Qa]at this
  have jS:y=.ref as[i]:=by rw[Qo,Qb hi]at hx;exact(Qn hx).symm
  subst jS;obtain⟨aB,lv⟩:=za1 nz hi;have nag:as[i]≠g:=zax lv pk Hh;have naD:as[i]≠D:=zax lv qb Hh;have pT:=k6 _ _ lv (by simp[nag,naD]);have hws:ws[i]∈ws:=Qq aB;have hsi:ws[i].1∈ZO ws[i].2:=(dF _).mp (ag.mem_iff.mp hws);have qI:∀{aE:Nt},(∀s∈gs,s∈aE)→ws[i]∈aE→∀s∈ws.take HY,s∈aE:=λ{aE} h1 h2 s hs=>by
   rw[Qk aB]at hs;rcases Qe.mp hs with z|z
   ·exact h1 s (mi s z)
   rw[Qc.mp z];exact h2
  refine⟨TY,λfl eQ=>?_⟩;have k7:Keep [] H6 (BU fl HP):=Keep.new eQ;have ck:(BU fl HP) fl=some HP:=zad;have nfD:fl≠D:=Zd (AK qa eQ);have nfg:fl≠g:=Zd (AK rp eQ);have nafl:as[i]≠fl:=zab pT eQ;generalize BU fl HP=H7 at k7 ck;have pj:=k7 _ _ rp Hb;have vH:=k7 _ _ qa Hb;have pS:=k7 _ _ pT Hb;have lW:Keep [D,g] H5 H7:=k6.trans yx;have vn:BAt H7 b bs HU:=vo.keep lW (by simp[nbD,nbg]) λe he=>by have h1:=vo.tp e he;simp[zax h1 qb Hh,zax h1 pk Hh]
  have nbfl:b≠fl:=zax vn.dc ck Hh;have oN:Paired (zbn H7) qi ((zcq es).map sing++eS.map nmL):=zc2 k7 fW;refine⟨xf,?_⟩;by_cases au:ws[i]∈gs
  ·-- it is gone already
   refine⟨λm σ H'=>Aj2 (σ=[Eo,Hj b,Hj D,Hj g,RH (.ref as[i]),Hj fl,RH (.ref as[i])]) (H'=H7),⟨0,rfl,rfl⟩,?_⟩;rintro m σ H' ⟨rfl,rfl⟩;have dg:=DGet.t (k:=kP ws[i]) pj pS;rw[valG_in au]at dg;refine⟨xf,xf,g,xf,dg,xf,QF ?_⟩;refine⟨xf,_,.inl ⟨_,Hn ck,rfl⟩,QF ?_⟩;exact⟨⟨_,_,xf⟩,lW,gs,dn,rem,qi,eS,pj,jt,ju,cZ,qI (λ_ h=>h) au,vH,oN,⟨ba,mU⟩,iK,by exact zar16 ‹_›⟩
  ·-- a new cycle
   obtain⟨c,dI,je⟩:=Yi.mp ((C.cm ws[i]).mpr hsi);obtain⟨A1,B1,eV⟩:=Wr je;have kK:=zdk (eV▸Mq dI);generalize hL:ws[i]::(B1++A1)=L;have eU:L.Perm c:=by rw[←hL,eV];refine Kl.mpr λa=>?_;simp only[Xa,Xo];lia
   have cj:=(Xb cZ).nodup_iff.mp C.cf;rw[Wu,Zf]at cj;have jy:c∈rem:=by
    rcases Qe.mp (cZ.mem_iff.mp dI) with z|z
    ·exact absurd ((ju _).mpr (Om ⟨c,z,je⟩)) au
    exact z
   have vC:∀s∈L,s∉gs:=λs hs hg=>by exact absurd rfl (cj.2.2 s ((ju s).mp hg) s (Om ⟨c,jy,eU.mem_iff.mp hs⟩))
   have pW:L.Nodup:=by rw[eU.nodup_iff];have:=(zcm dI).nodup_iff.mp C.cf;rw[Zf]at this;exact this.1
   have lE:∀s∈L,s.1∈ZO s.2:=λs hs=>C.inc dI (eU.mem_iff.mp hs);have hLpos:0<L.length:=by rw[←hL];simp
   have am:gs++L |>.Nodup:=Zf.mpr ⟨jt,pW,λa ha b' mK e=>vC b' mK (e▸ha)⟩
   have hsz:(gs++L).length≤10000:=by
    refine Zn (zg0 am (m:=bs.map (·.1)) λs hs=>?_) (yT gz);rcases Qe.mp hs with z|z
    ·obtain⟨c',cA,dy⟩:=Yi.mp ((ju s).mp z);exact(dF s).mpr (C.inc (cZ.mem_iff.mpr (YN cA)) dy)
    exact(dF s).mpr (lE s z)
   rw[Qm]at hsz;have iJ:∀k (hk:k<L.length),UK L[k]=L.getD (k+1) ws[i]:=λk hk=>by have:=lk_get kK k (Hm hL hk);rw[hL,Qx,Qb hk]at this;exact this
   refine⟨λm σ H'=>Ex2 λ(k:Nat) (t:Nc)=>Aj7 (m=L.length-k) (k≤L.length) (σ=[Eo,Hj b,Hj D,Hj g,RH (.ref as[i]),Hj fl,Hj t]) (Keep [g,fl] H7 H') (H' g=some (E9 k)) (H' fl=some (RS k)) (H' t=some (.tup [.str (L.getD k ws[i]).1,.str (L.getD k ws[i]).2])),
    ⟨_,0,as[i],rfl,Tq,rfl,Keep.refl,by rw[List.take_zero,Zq];exact pj,ck,by rw[←hL];exact pS⟩,?_⟩
   rintro m σ H8 ⟨k8,t,rfl,hk8,rfl,jO,pi,gu,mo⟩;have dg:=DGet.t (k:=kP (L.getD k8 ws[i])) pi mo;by_cases eM:k8<L.length
   ·have gv:L.getD k8 ws[i]=L[k8]:=by rw[Qx,Qb eM];rfl
    have bn:L.take (k8+1)=L.take k8++[L[k8]]:=Qk eM;have bo:L[k8]∉gs++L.take k8:=λz=>by
     rcases Qe.mp z with q|q
     ·exact vC _ (Qq eM) q
     have:=Jo (Kc (k8+1) L) pW;rw[bn,Zf]at this;exact this.2.2 _ q _ TL rfl
    rw[gv]at mo dg;rw[valG_out bo]at dg;refine⟨xf,xf,g,xf,dg,xf,Q6 ?_⟩;refine⟨_,λ σ' H' z=>z,?_⟩;have oZ:(HW k8).length<sizeLine:=by rw[Qa,Qm,Za];lia
    refine⟨xf,xf,g,xf,DPut.t (k:=kP L[k8]) pi mo oZ,?_⟩;have kj:putK (HW k8) (kP L[k8]) Tz=(gs++L.take (k8+1)).map λs=>(yu,LH):=by rw[zf8 _ (valG_out bo),bn,←Qz,Qp (l₂:=[L[k8]])];rfl
    rw[kj];have ntg:t≠g:=zax mo pi Hh;have ntfl:t≠fl:=zax mo gu Hh;have k9:Keep [g,fl] H7 (JD g (E9 (k8+1))):=jO.trans Rv;have hg9:(JD g (E9 (k8+1))) g=some (E9 (k8+1)):=zad;have kY:(JD g (E9 (k8+1))) fl=some (RS k8):=by rw[zaf nfg];exact gu
    have fG:(JD g (E9 (k8+1))) t=some (.tup [.str L[k8].1,.str L[k8].2]):=by rw[zaf ntg];exact mo
    generalize JD g (E9 (k8+1))=H9 at k9 hg9 kY fG;refine⟨xf,RI kY,xf,t,_,_,xf,rfl,Tg fG,zav (j:=0) rfl,fl,_,xf,rfl,kY,(by rw[Qa,Qa,Za];lia),?_⟩;have hfe:((L.take k8).map (·.1)).map V.str++[V.str L[k8].1]=((L.take (k8+1)).map (·.1)).map V.str:=by rw[bn,Qp,Qp];rfl
    rw[hfe];have ie:Keep [g,fl] H7 (Vv (RS (k8+1))):=k9.trans Rv;have pA:(Vv (RS (k8+1))) g=some (E9 (k8+1)):=by rw[zaf (Zd nfg)];exact hg9
    have jv:(Vv (RS (k8+1))) fl=some (RS (k8+1)):=zad;have ou:(Vv (RS (k8+1))) t=some (.tup [.str L[k8].1,.str L[k8].2]):=by rw[zaf ntfl];exact fG
    generalize Vv (RS (k8+1))=cB at ie pA jv ou;have lp:BAt cB b bs HU:=vn.keep ie (by simp[nbg,nbfl]) λe he=>by have h1:=vn.tp e he;simp[zax h1 pj Hh,zax h1 ck Hh]
    obtain⟨e,he,hee⟩:=Qf.mp ((dF L[k8]).mpr (lE _ (Qq eM)));have dg2:=DGet.t (k:=kP L[k8]) lp.dc ou;rw[←hee,valT_in lp.nd he]at dg2;have iC:=lp.tp e he;rw[hee,iJ k8 eM]at iC;refine⟨xf,xf,b,xf,dg2,L.length-(k8+1),Hy,k8+1,e.2,rfl,eM,rfl,ie,pA,jv,iC⟩
   have hk:k8=L.length:=by exact zar3 ‹_› ‹_›
   subst hk;have gv:L.getD L.length ws[i]=ws[i]:=by rw[Qx,Us HM];rfl
   rw[Qr HM]at pi gu dg;have hwL:ws[i]∈L:=by rw[←hL];exact Qd
   rw[gv,valG_in (YG hwL)]at dg;refine⟨xf,xf,g,xf,dg,xf,QF ?_⟩;have az:((L.map (·.1)).map V.str).isEmpty=false:=by rw[←hL];rfl
   refine⟨xf,_,.inl ⟨_,Hn gu,rfl⟩,za4 (by rw[az];rfl) ?_⟩;have hD8:=jO _ _ vH (by simp[nDg,Zd nfD]);refine⟨xf,RI hD8,xf,D,_,xf,rfl,hD8,SJ,?_⟩;have k9:Keep [D,g] H5 (JD D (Hv (qi.map V.ref++[Hf fl]))):=by
    refine Keep.trans (λc' u' ec cA=>?_) Rv;have h7:=lW c' u' ec cA;refine jO c' u' h7 ?_;have ncg:c'≠g:=λz=>cA CN;have ncf:c'≠fl:=λz=>by have:=k6 c' u' ec cA;rw[z,eQ]at this;cases this
    simp[ncg,ncf]
   refine⟨⟨_,_,xf⟩,k9,gs++L,dn++[c],rem.erase c,qi++[fl],eS++[L],Hq (Zd nDg) pi,am,λs=>?_,?_,qI (λs hs=>YN hs) (YG hwL),by rw[zad,Qp];rfl,?_,⟨zal ba (Su eU),λL' cq=>?_⟩,λa ha=>?_,by rw[Qm];show _+1≤_;exact zar4 ‹_›⟩
   ·rw[Qe,ju,Wu,Qe,Yj,Jx,Zq,eU.mem_iff]
   ·refine cZ.trans ?_;rw[Qz];exact Ud _ (Xi jy)
   ·rw[Qp,← Qz];refine zal (Paired.impM (λa zs hz e=>?_) oN) (.cons ?_ .nil)
    ·obtain⟨h,t,rfl⟩:∃ h t,zs=h::t:=by
      rcases Qe.mp hz with z|z
      ·obtain⟨y,_,rfl⟩:=Qf.mp z;exact⟨y,[],rfl⟩
      obtain⟨L',cq,rfl⟩:=Qf.mp z;obtain⟨s1,t1,e1,_⟩:=(mU L' cq).cy;exact⟨s1.1,t1.map (·.1),by rw[e1];rfl⟩
     have n1:=notDg vH pj a h t e;have naf:a≠fl:=Ga ck (by intro z;injection z with z;cases z);show BG a=_;rw[zaf n1.1];exact jO _ _ e (by simp[n1.2,naf])
    show BG fl=_;rw[zaf nfD,gu]
   ·rcases Qe.mp cq with z|z
    ·exact mU L' z
    rw[CT z];refine⟨ws[i],B1++A1,hL.symm,kK,λu hu=>?_⟩;exact least_at ay aB (Em ((dF u).mpr (lE u hu))) λz=>vC u hu (mi u z)
   rcases Qe.mp ha with z|z
   ·exact iK a z
   rw[CT z];refine zap lZ (zap k6 eQ ?_) Hb;simp[nfD,nfg]
 rintro σ H6 ⟨⟨x4,x5,x6,rfl⟩,k6,gs,dn,rem,qi,eS,rp,jt,ju,cZ,mi,qa,fW,⟨ba,mU⟩,iK,pE⟩;rw[Qa,c9,Qr HM]at mi;have ue:rem=[]:=by
  cases rem with
  |nil=>rfl
  |cons c rem'=>
   have pN:c∈cs:=cZ.mem_iff.mpr (YG Qd);obtain⟨s0,t0,jA,_⟩:=Mq pN;have aH:s0∈c:=by rw[jA];exact Qd
   have h1:s0∈ws:=ag.mem_iff.mpr ((dF s0).mpr (C.inc pN aH));have h2:=(ju s0).mp (mi s0 h1);have h3:=(Xb cZ).nodup_iff.mp C.cf;rw[Wu,Zf]at h3;exact absurd rfl (h3.2.2 s0 h2 s0 (Om ⟨c,Qd,aH⟩))
 rw[ue,Zq]at cZ;have w6:∀a zs,zbn H6 a zs→lstV H6 Rm=zs.map λx=>x.cps.toList:=λa zs e=>by rw[zjb e,Zc];rfl
 refine⟨xf,D,xf,Hn qa,λv hv=>?_,λl7 sf aR dz cv=>?_⟩
 ·obtain⟨a,ha,rfl⟩:=Qf.mp hv;obtain⟨j,hj,rfl⟩:=Ze ha;obtain⟨_,e⟩:=za1 fW hj;exact⟨_,xf,e⟩
 obtain⟨rQ,rfl,aN⟩:=zgk dz;obtain⟨n8,ji,cQ⟩:=zdh aN fW;have fl7:H l7=none:=by
  refine zap lZ (zap k6 aR ?_) Hb;intro z;rcases Qj.mp z with z|z
  ·rw[z,qa]at aR;cases aR
  rw[Qc.mp z,rp]at aR;cases aR
 rw[Wx]at cv;have hfz:eS.flatten.Perm dn.flatten:=by
  clear fW mU ji cQ mi ju cZ;induction ba with
  |nil=>exact .refl _
  |cons h t ih=>rw[Yj,Yj];exact h.append ih
 have vF:DV eS:=⟨mU,hfz.nodup_iff.mpr ((Xb cZ).nodup_iff.mp C.cf),λs=>(hfz.mem_iff.trans (Xb cZ).mem_iff.symm).trans (zo s)⟩;refine k l7 rQ n8 eS dn _ zad (by rw[aN.length_eq];rw[Qa]at pE;lia) (Paired.imp' (λa z e=>by show BG a=_;rw[zaf (B7 aR)];exact e) cQ) ji (show n8.Pairwise leL from zcn (S:=λa b=>(Tm.listO Tm.strO).kle a b) (f:=λa=>lstV H6 Rm) (g:=λz:List Str=>z.map λx:Str=>x.cps.toList) cQ w6 cv) vF cZ.symm ba fl7 (λa ha=>iK a (aN.mem_iff.mp ha)) ?_;refine(λc u ec _=>?_);have nD:c≠D:=λz=>by
  by_cases zd:c=d
  ·exact ndD (zd▸z)
  have h2:=k2 c u E7 (Hd zd);rw[z,hD]at h2;cases h2
 have nG:c≠g:=λz=>by have h1:=k3 c u E7 Hb;rw[z,hg]at h1;cases h1
 have:=k6 c u (lZ c u ec Hb) (by simp[nD,nG]);rw[zaf (zab this aR)];exact this
theorem hd_pair{H:Hp}:∀{as:Nl} {zss:List E8},(∀zs∈zss,∃h t,zs=h::t)→Bk as zss→Mw as (zss.map λz=>z.headD "")
 |_,_,_,.nil=>.nil
 |_,_,h,.cons r t=>by obtain⟨x,u,rfl⟩:=h _ Qd;exact .cons ⟨u,r⟩ (hd_pair (λzs hz=>h zs (QL hz)) t)
theorem hd_cyc{r:Nu}:∀{Ls cs:List HQ},(∀L∈Ls,VD L)→DU cs→Paired (λh c=>∃s∈c,s.1=h) (Ls.map λL=>(nmL L).headD "") cs
 |_,_,_,.nil=>.nil
 |_,_,h,.cons p t=>by obtain⟨s1,t1,rfl,_⟩:=(h _ Qd).cy;exact .cons ⟨s1,p.mem_iff.mp Qd,rfl⟩ (hd_cyc (λL hL=>h L (QL hL)) t)
def ok_faces{f:Nc}{fd:Nw}(G:ZB 2 f fd ["rounds"] zio):ZB 2 f fd ["rounds"] spFaces:=
 G.imp λvs H Q E h=>by
  obtain⟨d,es,cs,a9,h0,h1,h2,h3,h4,k⟩:=h;refine⟨d,es,cs,a9,h0,h1,h2,h3,h4,λl as zss Ls aF H' hl c9 pz pm so IF lh hp _ _ kk=>?_⟩;have ne:∀zs∈zss,∃h t,zs=h::t:=λzs hz=>by
   rcases Qe.mp (pm.mem_iff.mp hz) with z|z
   ·obtain⟨y,_,rfl⟩:=Qf.mp z;exact⟨y,[],rfl⟩
   obtain⟨L',cq,rfl⟩:=Qf.mp z;obtain⟨s1,t1,e1,_⟩:=(IF.fa L' cq).cy;exact⟨s1.1,t1.map (·.1),by rw[e1];rfl⟩
  refine k l as (zss.map λz=>z.headD "") (Ls.map λL=>(nmL L).headD "") aF H' hl c9 (hd_pair ne pz) ?_ lh (hd_cyc IF.fa hp) kk;have:=pm.map λz:List Str=>z.headD "";rw[Qp,Zc,Zc]at this;refine this.trans (.of_eq ?_);congr 1;exact List.map_id' _
abbrev sPiece:Stmt:=top 11
abbrev ziv:Stmt:=top 12
def marks(ks:Ng):List (Key×V):=ks.map λz=>((Sum.inr z:Key),LH)
def zii(h:x∉ks):valV (marks ks) TQ=none:=by
 unfold marks;induction ks with
 |nil=>rfl
 |cons a t ih=>
  rw[Qj,not_or]at h;rw[Ql,zb2]
  ·exact ih h.2
  intro q;exact h.1 (Ug q).symm
def valM_in(h:x∈ks):valV (marks ks) TQ=some Tz:=by
 unfold marks;induction ks with
 |nil=>cases h
 |cons a t ih=>
  rw[Ql];by_cases e:a=x
  ·exact zct (by rw[e])
  rw[zb2 (λq=>e AY)];rcases Qj.mp h with z|z
  ·exact absurd z.symm e
  exact ih z
def putM_new(h:x∉ks):VZ Tz=marks (ks++[x]):=by rw[zf8 _ (zii h)];unfold marks;rw[List.map_append];rfl
def putM_old(h:x∈ks):VZ Tz=marks ks:=by
 unfold putK marks;rw[if_pos]
 ·rw[Zc];refine Wd λz _=>?_;show(if(Sum.inr z:Key)=Sum.inr x then((Sum.inr z:Key),LH) else(Sum.inr z,LH))=_;split<;>rfl
 exact Yv.mpr ⟨_,Rw x h,Hb⟩
def mkeys(ks:Ng):((marks ks).map λp=>kV p.1)=ks.map V.str:=by unfold marks;rw[List.map_map];rfl
inductive IspPiece(vs:List V)(H:Hp)(Q:VK):Prop
 |mk (d:Nc) (es:List Ent) (cs:List (List (Str×Str))) (a9:Nq) (x:Str) (h0:vs=[.ref d,.str x]) (h1:TAt H d es) (h2:es.length≤60) (h3:Cert (es.map (·.1)) (row (rsOf es)) cs a9) (h4:x∈es.map (·.1)) (h5:∀(l:Nc) (zs:Ng) (H':Hp),H' l=some (.lst (zs.map V.str))→zs.Nodup→zs.Pairwise leS→(∀y,y∈zs↔y∈es.map (·.1)∧a9 y=a9 x)→H l=none→Keep [] H H'→Q (.ref l) H'):IspPiece vs H Q
def spPiece:Sp:=λvs H Q _=>IspPiece vs H Q
def seqO(b:Bool)(xs:List V):HO:=bif b then .tup xs else .lst xs
structure GAt(b:Bool)(H:Hp)(d:Nc)(es:List Ent):Prop where
 dc:H d=some Ru
 ro:∀e∈es,H e.2.2=some (seqO b RN)
 nd:(es.map (·.1)).Nodup
def GAt.keep(r:GAt b H d es)(k:WB H')(hd:d∉xs)(h:∀e∈es,e.2.2∉xs):GAt b H' d es:=⟨zG,λe he=>k _ _ C4 (h e he),r.nd⟩
def SqB(b:Bool)(K:Nb)(H:Hp)(a:Nc)(xs:List V):Prop:=bif b then JA xs else WU a xs
def ItB(b:Bool)(K:Nb)(a:Nc):It:=bif b then Fz a else BZ a
def SqB.of{b:Bool}{K:Nb}{H:Hp}{a:Nc}{xs:List V}(h:Cj (seqO b xs)):Gb H a xs:=by
 cases b
 ·exact SqL.of h
 exact SqT.of h
def GAt.sq{b:Bool}{K:Nb}{H:Hp}{d:Nc}{es:List Ent}{e:Ent}(r:GAt b H d es)(he:e∈es):Gb H e.2.2 RN:=SqB.of C4
def iB(b:Bool)(K:Nb)(tl:TE):TI:=λ σ H R=>tl σ H λx H1=>RI1 x (λa=>∃xs,Gb H1 a xs) λa=>R (Gc a) H1
def pi_b(b:Bool){X:Cx}{tg l:Expr}{tl:TE}(hl:O5):JG l (iB b X.K tl):=by
 cases b
 ·exact za6 hl
 exact pi_tup hl
def for_b(b:Bool){K:Nb}{a:Nc}{xs:List V}{g:TG}{tb:TS}{D:Ends}{σ:St}{H:Hp}(Pv:Nat→St→Hp→Prop)(h0:ED)(hl:∀i σ H,i≤xs.length→Pv i σ H→Gb H a xs)(hs:∀i x σ H,xs[i]?=some x→Pv i σ H→g x σ H λ σ2 H2=>tb {D with nx:=Pv HY,ct:=Pv HY,bk:=D.nx} σ2 H2)(hd:∀σ H,Pv xs.length σ H→W8 H) :
  ∃W:Nat→Nat→St→Hp→Prop,(∃m,W 0 m σ H)∧∀i m σ H,W i m σ H →
   ((Gc a).stop i H∧W8 H)∨((Gc a).go i H∧∃N:St→Hp→Prop,HK∧∀x H',(Gc a).yld i H x H'→g x σ H' λ σ2 H2=>tb {D with nx:=N,ct:=N,bk:=D.nx} σ2 H2):=by
 cases b
 ·exact zb5 Pv h0 hl hs hd
 exact for_tup Pv h0 hl hs hd
inductive IspPieceG(b:Bool)(vs:List V)(H:Hp)(Q:VK):Prop
 |mk (d:Nc) (es:List Ent) (x:Str) (h0:vs=[.ref d,.str x]) (h1:GAt b H d es) (h2:es.length≤60) (h3:∀z y,y∈row (rsOf es) z→y∈es.map (·.1)) (h4:x∈es.map (·.1)) (h5:∀(l:Nc) (zs:Ng) (H':Hp),H' l=some (.lst (zs.map V.str))→zs.Nodup→zs.Pairwise leS→(∀y,y∈zs↔Conn (row (rsOf es)) x y)→H l=none→Keep [] H H'→Q (.ref l) H'):IspPieceG b vs H Q
def spPieceG(b:Bool):Sp:=λvs H Q _=>IspPieceG b vs H Q
def zgj:zam ["rounds", "start", "reached", "waiting", "place", "other"] ["rounds", "start"] (zaj sPiece):=fsk
def ok_pieceG(b:Bool){f:Nc}{fd:Nw}(F:Z5 "piece_from" "piece_from" sPiece f fd)(aJ:mg "sorted" = none):ZB 1 f fd ["rounds", "start"] (spPieceG b):=by
 refine F.okL zgj Hi;obtain⟨d,es,x,rfl,T,aO,iN,hx,k⟩:=h;have hu:=zb9 hr;have aH  :=sizeLine_eq;refine⟨_,zae (BH zgj.nd (pe_disp (pps_cons Sf pe_bl pps_nil) rfl rfl Hg Hg))
  (zae (B8 zgj.nd (zay Sn))
  (zae (Fq (zf9 S0 (by intro _;rfl))
   (zae (BI zgj.nd (pe_bm0 Zg PySem.F.slot_list_pop PySem.F.type_list_pop mt_pop S0))
   (zag (QS (pi_b b (JJ Ty)) (za7 5 zgj.nd)
    (zag (zbu (OZ EB Sr)
     (zae (Mx rfl)
     (zag (Ln S0 Al))) zas))))))
  (zag (yk (Pe SQ))))),?_⟩
 have ak:∀e∈es,ZO e.1=e.2.1:=λe he=>zbt T.nd he;refine λre jg=>⟨_,rfl,zad,[(TQ,Tz)],rfl,(by show 1≤15;decide),?_⟩;have jk:(zh2 [] [((Sum.inr x:Key),LH)])=marks [x]:=rfl;rw[jk];have kre:Keep [] H (Pq (ZS re (.dK [])) re (.dK (marks [x]))):=by rw[upd_upd];exact Keep.new jg
 have eG:(Pq (ZS re (.dK [])) re (.dK (marks [x]))) re=some (.dK (marks [x])):=zad;generalize upd (ZS re (.dK [])) re (.dK (marks [x]))=H1 at kre eG;refine⟨xf,LR,λwa tP=>?_⟩;have k2:Keep [] H (QN wa (.lst [CF])):=kre.trans (Ht tP);have jT:H wa=none:=zap (xs:=[]) kre tP Hb;have oi:(QN wa (.lst [CF])) wa=some (Hv ([x].map V.str)):=zad;have qw:re≠wa:=zab eG tP;have fS:(QN wa (.lst [CF])) re=some (.dK (marks [x])):=by rw[zaf qw];exact eG
 generalize QN wa (.lst [CF])=H2 at k2 oi fS;have T2:GAt b H2 d es:=T.keep k2 Hb (λ_ _=>by simp);have sS:d≠re:=Mv jg;have ndw:d≠wa:=Mv jT;have rowne:∀e∈es,e.2.2≠re∧e.2.2≠wa:=λe he=>⟨AK (T.ro e he) jg,AK (T.ro e he) jT⟩;refine⟨λm σ H'=>Aj3 (Ex2 λx4 x5=>σ=[Eo,Li x,Hj re,Hj wa,x4,x5]) (Keep [re,wa] H2 H') (Ex2 λ(ks wl:Ng)=>Aj9 (H' re=some (TH ks)) (H' wa=some (Hv (wl.map V.str))) ks.Nodup wl.Nodup (∀z∈wl,z∈ks) (∀z∈ks,z∈es.map (·.1)∧NU z) (x∈ks) (∀z∈ks,z∉wl→∀y∈ZO z,y∈ks) (m=es.length+wl.length-ks.length)),
  ⟨_,⟨none,none,rfl⟩,Keep.refl,[x],[x],fS,oi,EO ⟨Hb,Zs⟩,EO ⟨Hb,Zs⟩,λz h=>h,λz h=>(by rw[Qc.mp h];exact⟨hx,.refl⟩),Qd,λz h h'=>absurd h h',rfl⟩,?_⟩
 rintro m σ H3 ⟨⟨x4,x5,rfl⟩,k3,ks,wl,cO,jV,iI,o9,qJ,kO,hxk,cI,rfl⟩;have hkle:ks.length≤es.length:=by have:=zcp iI (m:=es.map (·.1)) λz hz=>(kO z hz).1;rwa[Qa]at this
 have og:wl.length≤ks.length:=zcp o9 qJ;refine⟨xf,_,.inl ⟨_,Hn jV,rfl⟩,?_⟩;rcases List.eq_nil_or_concat wl with f9|⟨ini,z,f9⟩
 ·-- all are reached
  subst f9;refine QF ?_;refine⟨xf,re,_,ks,rfl,HL cO,mkeys ks,λl zs hl ag ay=>?_⟩;have kf:Keep [] H H3:=λc u ec _=>k3 c u (k2 c u ec Hb) (by simp[JT jg,JT jT]);refine k l zs _ zad (ag.nodup_iff.mpr iI) (ay Hc) (λy=>?_) (zap kf hl Hb) (kf.trans EC);rw[ag.mem_iff];constructor
  ·exact λh=>(kO y h).2
  intro hc;induction hc with
  |refl=>exact hxk
  |step _ hz ih=>exact cI _ ih Hb _ hz
 rw[List.concat_eq_append]at f9;subst f9;refine za4 (by rw[Qp];cases ini<;>rfl) ?_;refine⟨_,λ σ' H' zz=>zz,?_⟩;have dM:z∈ks:=qJ z (YG Qd);obtain⟨en,dH,cb⟩:=Qf.mp (kO z dM).1;have nY:en.1=z:=cb;rw[Zf]at o9;obtain⟨aK,_,ve⟩:=o9;have hzi:z∉ini:=λq=>ve z q z Qd rfl;have cV:((ini++[z]).map V.str)[((ini++[z]).map V.str).length-1]?=some CO:=by rw[Qp,Qm,Jm Hb];simp
 have gW:((ini++[z]).map V.str).dropLast=ini.map V.str:=by rw[Qp];exact List.dropLast_concat
 refine⟨xf,RI jV,wa,_,xf,rfl,jV,cV,?_⟩;rw[gW];have k4:Keep [re,wa] H2 (QX wa Le):=k3.trans Rv;have oh:(QX wa Le) wa=some Le:=zad;have fQ:(QX wa Le) re=some (TH ks):=by rw[zaf qw];exact cO
 generalize QX wa Le=H4 at k4 oh fQ;have T4:GAt b H4 d es:=T2.keep k4 (by simp[sS,ndw]) λe he=>by simp[(rowne e he).1,(rowne e he).2]
 have dg:DGet H4 d CO (RH (.ref en.2.2)):=by have:=DGet.k (k:=Sum.inr en.1) T4.dc;rw[zd7 T4.nd dH,nY]at this;exact this
 have hrz:ZO z=en.2.1:=by rw[←nY];exact ak en dH
 refine⟨_,rfl,_,rfl,d,_,rfl,dg,en.2.2,rfl,⟨_,GAt.sq T4 dH⟩,for_b b (xs:=en.2.1.map V.str) (λj σ H'=>Aj3 (Ex1 λx5=>σ=[Eo,Li x,Hj re,Hj wa,Li z,x5]) (Keep [re,wa] H2 H') (Ex1 λ(nw:Ng)=>Aj5 (H' re=some (TH (ks++nw))) (H' wa=some (Hv ((ini++nw).map V.str))) ((ks++nw).Nodup) (∀y∈nw,y∈es.map (·.1)∧NU y) (∀y∈en.2.1.take j,y∈ks++nw)))
  ⟨⟨_,rfl⟩,k4,[],Hm Zq fQ,Hm Zq oh,Hm Zq iI,λy hy=>(by cases hy),λy hy=>(by cases hy)⟩
  (λj σ H' _ hh=>(SqB.of (Oi (T2.ro en dH) (by simp[(rowne en dH).1,(rowne en dH).2])))) ?_ ?_⟩
 ·rintro j y σ H5 hy ⟨⟨y5,rfl⟩,k5,nw,cw,iw,dD,eJ,fF⟩;have hj:j<en.2.1.length:=by have:=(Cm hy).1;rwa[Qa]at this
  have o0:y=.str en.2.1[j]:=by rw[Qo,Qb hj]at hy;exact(Qn hy).symm
  subst o0;have il:en.2.1[j]∈ZO z:=by rw[hrz];exact Qq hj
  have bn:en.2.1.take (j+1)=en.2.1.take j++[en.2.1[j]]:=Qk hj;have hsz:(ks++nw).length≤es.length:=by
   have:=zcp dD (m:=es.map (·.1)) λq hq=>by
    rcases Qe.mp hq with h|h
    ·exact(kO q h).1
    exact(eJ q h).1
   rwa[Qa]at this
  have rP:=DGet.k (k:=Sum.inr en.2.1[j]) cw;by_cases aK:en.2.1[j]∈ks++nw
  ·rw[valM_in aK]at rP;refine⟨xf,xf,re,xf,rP,xf,QF ?_⟩;refine⟨⟨xf⟩,k5,nw,cw,iw,dD,eJ,λq hq=>?_⟩;rw[bn]at hq;rcases Qe.mp hq with h|h
   ·exact fF q h
   rw[Qc.mp h];exact aK
  rw[zii aK]at rP;refine⟨xf,xf,re,xf,rP,xf,Q6 ?_⟩;refine⟨xf,xf,re,xf,DPut.k (k:=Sum.inr en.2.1[j]) cw (by unfold marks;rw[List.length_map];lia),?_⟩;rw[putM_new aK];have jU:(Q4 re (TH (ks++nw++[en.2.1[j]]))) wa=some (Hv ((ini++nw).map V.str)):=by rw[zaf (Zd qw)];exact iw
  have eF:(Q4 re (TH (ks++nw++[en.2.1[j]]))) re=some (TH (ks++nw++[en.2.1[j]])):=zad;have k6:Keep [re,wa] H2 (Q4 re (TH (ks++nw++[en.2.1[j]]))):=k5.trans Rv;generalize Q4 re (TH (ks++nw++[en.2.1[j]]))=H6 at jU eF k6;rw[Qm]at hsz;rw[Qm,Zk,Kb]at og;refine⟨xf,RI jU,xf,wa,_,xf,rfl,jU,(by rw[Qa,Qm];lia),?_⟩;refine⟨⟨xf⟩,k6.trans Rv,nw++[en.2.1[j]],by rw[zaf qw,←Qz];exact eF,by rw[zad,←Qz,Qp (l₂:=[en.2.1[j]])];rfl,?_,λq hq=>?_,λq hq=>?_⟩
  ·rw[← Qz,Zf];refine⟨dD,EO ⟨Hb,Zs⟩,λa ha b hb e=>?_⟩;rw[Qc.mp hb]at e;exact aK (e▸ha)
  ·rcases Qe.mp hq with h|h
   ·exact eJ q h
   rw[CT h];exact⟨iN z _ il,.step (kO z dM).2 il⟩
  rw[bn]at hq;rw[←Qz];rcases Qe.mp hq with h|h
  ·exact YN (fF q h)
  exact YG h
 rintro σ H5 ⟨⟨y5,rfl⟩,k5,nw,cw,iw,dD,eJ,fF⟩;rw[Qa,Qr HM]at fF;have hsz:(ks++nw).length≤es.length:=by
  have:=zcp dD (m:=es.map (·.1)) λq hq=>by
   rcases Qe.mp hq with h|h
   ·exact(kO q h).1
   exact(eJ q h).1
  rwa[Qa]at this
 have fZ:=dD;rw[Zf]at fZ;refine⟨es.length+(ini++nw).length-(ks++nw).length,?_,⟨_,xf⟩,k5,ks++nw,ini++nw,cw,iw,dD,?_,?_,?_,YN hxk,?_,rfl⟩
 ·rw[Qm]at hsz;rw[Qm,Qm,Qm,Zk,Kb];rw[Qm,Zk,Kb]at og;lia
 ·rw[Zf];refine⟨aK,fZ.2.1,λa ha b hb e=>fZ.2.2 a (qJ a (YN ha)) b hb e⟩
 ·intro q hq;rcases Qe.mp hq with h|h
  ·exact YN (qJ q (YN h))
  exact YG h
 ·intro q hq;rcases Qe.mp hq with h|h
  ·exact kO q h
  exact eJ q h
 intro q hq oE y hy;rw[Qe,not_or]at oE;rcases Qe.mp hq with h|h
 ·by_cases hqz:q=z
  ·rw[hqz,hrz]at hy;exact fF y hy
  exact YN (cI q h (by rw[Qe,not_or,Qc];exact⟨oE.1,hqz⟩) y hy)
 exact absurd h oE.2
def ok_piece(F:Z5 "piece_from" "piece_from" sPiece f fd)(aJ:mg "sorted" = none):ZB 1 f fd ["rounds", "start"] spPiece:=
 (ok_pieceG true F aJ).imp λvs H Q E ⟨d,es,cs,a9,x,e,T,aO,C,hx,k⟩=>⟨d,es,x,e,⟨T.dc,T.ro,T.nd⟩,aO,λz y h=>C.inn' h,hx,λl zs H' h1 h2 h3 h4=>k l zs H' h1 h2 h3 λy=>(h4 y).trans ⟨λh=>by
  induction h with
  |refl=>exact⟨hx,rfl⟩
  |step _ il ih=>exact⟨El il,(C.la _ _ il).trans ih.2⟩,λh=>C.co x hx y h.1 h.2.symm⟩⟩
def IsPiece(ns:Ng)(a9:Nq)(zs:Ng):Prop:=zs.Nodup∧∃s∈ns,∀y,y∈zs↔y∈ns∧a9 y=a9 s
structure InRow(ns:Ng)(zss:List (List Str)):Prop where
 so:∀zs∈zss,zs.Pairwise leS
 hd:zss.Pairwise λa b=>a≠b∧∀x∈a.head?,∀y∈b.head?,leS x y
 al:∀y∈ns,∃zs∈zss,y∈zs
inductive IspPieces(vs:List V)(H:Hp)(Q:VK):Prop
 |mk (d:Nc) (es:List Ent) (cs:List (List (Str×Str))) (a9:Nq) (h0:vs=[.ref d]) (h1:TAt H d es) (h2:es.length≤60) (h3:Cert (es.map (·.1)) (row (rsOf es)) cs a9) (h4:∀(l:Nc) (as:Nl) (zss:List (List Str)) (H':Hp),H' l=some (.lst (as.map V.ref))→Paired (zbn H') as zss→(∀zs∈zss,IsPiece (es.map (·.1)) a9 zs)→InRow (es.map (·.1)) zss→H l=none→(∀a∈as,H a=none)→Keep [] H H'→Q (.ref l) H'):IspPieces vs H Q
def spPieces:Sp:=λvs H Q _=>IspPieces vs H Q
def zd0:zam ["rounds", "found", "reached", "start", "piece", "place"] ["rounds"] (zaj ziv):=fsk
def ok_pieces(F:Z5 "pieces_of" "pieces_of" ziv f fd)(FP:Z5 "piece_from" "piece_from" sPiece fp fdp)(bP:QH fdp ["rounds", "start"] [])(mP:mg "piece_from" = some (Hf fp))(GP:ZB 1 fp fdp ["rounds", "start"] spPiece)(aJ:mg "sorted" = none):ZB 2 f fd ["rounds"] spPieces:=by
 refine F.okL zd0 Hi;obtain⟨d,es,cs,a9,rfl,T,aO,C,k⟩:=h;have hu:=zb9 hr;have aH  :=sizeLine_eq;refine⟨_,zae (Mp zd0.nd SM)
  (zae (BH zd0.nd pe_dnewK)
  (zae (QS (za6 (Pe SA)) (FY zd0.nd)
   (zag (zbu (OZ S0 Sr)
    (zae (BI zd0.nd (NV bP .nil zbb (ZK TF)))
    (zae (Ln Sf Ly)
    (zag (QS (za6 Ty) (za7 5 zd0.nd)
     (zag (Mx rfl)))))) zas)))
  (zag (yk Sf)))),?_⟩
 refine⟨TY,λfo gU re jg=>?_⟩;have fP:H re=none:=zap (xs:=[]) (Ht gU) jg Hb;have sR:fo≠re:=zab (o:=_) zad jg;have k1:Keep [] H (Pq Cg re (.dK [])):=(Ht gU).trans (Ht jg);have gr:(Pq Cg re (.dK [])) fo=some HP:=by rw[zaf sR];exact zad
 have eG:(Pq Cg re (.dK [])) re=some (.dK []):=zad;generalize upd Cg re (.dK [])=H1 at k1 gr eG;have T1:TAt H1 d es:=M' Hb (λ_ _=>by simp);refine⟨xf,d,_,HV,rfl,.inl T1.dc,zg8 es,λl ws hl ag ay=>?_⟩;replace ay:=ay SJ;have k2:Keep [] H1 (QN l Ea):=Keep.new hl;have aj:(QN l Ea) l=some Ea:=zad;have nlf:l≠fo:=Zd (AK gr hl);generalize QN l Ea=H2 at k2 aj;have kX:=k2 _ _ gr Hb;have fS:=k2 _ _ eG Hb;have nlr:l≠re:=zax aj fS Hh;have T2:TAt H2 d es:=T1.keep k2 Hb (λ_ _=>by simp);have tq:Keep [] H H2:=k1.trans k2;have ndf:d≠fo:=Mv gU;have sS:d≠re:=Mv fP;have f9:ws.length=es.length:=by rw[ag.length_eq,Qa]
 refine⟨l,rfl,⟨_,Hn aj⟩,zgc (zs:=ws) (λi σ H'=>Aj3 (Ex3 λx3 x4 x5=>σ=[Eo,Hj fo,Hj re,x3,x4,x5]) (Keep [fo,re] H2 H') (Ex3 λ(as:Nl) (zss:List E8) (ks:Ng)=>Aj8 (H' fo=some PB) (H' re=some (TH ks)) (VN as zss) (∀zs∈zss,IsPiece HV a9 zs) (as.length≤i) ks.Nodup (∀z∈ks,z∈es.map (·.1)) (Aj7 (∀a∈as,a≠fo∧H a=none) (∀y∈ws.take i,y∈ks) (∀y∈ks,∃zs∈zss,y∈zs) (∀zs∈zss,∀y∈zs,y∈ks) (∀zs∈zss,∀x∈zs.head?,x∈ws.take i) (zss.Pairwise λa b=>a≠b∧∀x∈a.head?,∀y∈b.head?,leS x y) (∀zs∈zss,zs.Pairwise leS))))
  ⟨⟨_,_,_,rfl⟩,Keep.refl,[],[],[],kX,fS,.nil,λzs h=>(by cases h),Tq,Zs,λz h=>(by cases h),λz h=>(by cases h),λz h=>(by cases h),λz h=>(by cases h),λz h=>(by cases h),λz h=>(by cases h),List.Pairwise.nil,λz h=>(by cases h)⟩ (λi σ H' _ hh=>SqL.of (Oi aj (by simp[nlf,nlr]))) ?_ ?_⟩
 ·rintro i hi σ H3 ⟨⟨x3,x4,x5,rfl⟩,k3,as,zss,ks,gq,cO,dA,ko,vt,iI,mx,gC,c1,c2,c6,c3,c4,c5⟩;have dg:=DGet.k (k:=Sum.inr ws[i]) cO;have T3:TAt H3 d es:=T2.keep k3 (by simp[ndf,sS]) λe he=>by have h1:=T.ro e he;simp[zab h1 gU,zab h1 fP]
  by_cases aK:ws[i]∈ks
  ·rw[valM_in aK]at dg;refine⟨xf,xf,re,xf,dg,xf,QF ?_⟩;refine⟨⟨_,_,xf⟩,k3,as,zss,ks,gq,cO,dA,ko,by exact zar16 ‹_›,iI,mx,gC,λy hy=>?_,c2,c6,λzs h x hx=>Wh (i:=i) (by rw[List.take_take,Nat.min_eq_left (Kt i)];exact c3 zs h x hx),c4,c5⟩;rw[Qk hi]at hy;rcases Qe.mp hy with h|h
   ·exact c1 y h
   rw[Qc.mp h];exact aK
  rw[zii aK]at dg;refine⟨xf,xf,re,xf,dg,xf,Q6 ?_⟩;have iu:=ag.mem_iff.mp EA;refine⟨xf,xf,d,es,cs,a9,ws[i],rfl,T3,aO,C,iu,λp zs H4 c7 cb tH bU oM k4=>?_⟩;obtain⟨jN,uO⟩:∃jN,jN=ks:=⟨_,rfl⟩;rw[←uO]at cO iI mx aK c1 c2 c6;have gp:=k4 _ _ gq Hb;have fQ:=k4 _ _ cO Hb;have npf:p≠fo:=Zd (AK gq oM);have npr:p≠re:=zax c7 fQ Hh;refine⟨xf,RI gp,xf,fo,_,xf,rfl,gp,SJ,?_⟩;have k5:Keep [fo,re] H2 (TM fo (as.map V.ref++[Hf p])):=(LU PF).trans Rv;have pC:(TM fo (as.map V.ref++[Hf p])) fo=some (Hv ((as++[p]).map V.ref)):=by rw[zad,Qp];rfl
  have cw:(TM fo (as.map V.ref++[Hf p])) re=some (TH jN):=by rw[zaf (Zd sR)];exact fQ
  have bf:(TM fo (as.map V.ref++[Hf p])) p=some Ol:=by rw[zaf npf];exact c7
  have cS:Paired (zbn (TM fo (as.map V.ref++[Hf p]))) (as++[p]) (zss++[zs]):=by
   refine zal ?_ (Su bf);have:∀{as:Nl} {zss:List E8},Paired (zbn H3) as zss→(∀a∈as,a≠fo)→Paired (zbn (TM fo (as.map V.ref++[Hf p]))) as zss:=λ{as zss} r ha=>by
    have h2:∀(L:List V),Paired (zbn (TM fo L)) as zss:=λL=>by
     induction r with
     |nil=>exact .nil
     |cons h t ih=>exact .cons (by unfold zbn;rw[zaf (ha _ List.mem_cons_self)];exact k4 _ _ h Hb) (ih λa h=>ha a (NC h))
    exact h2 _
   exact this dA λa ha=>(gC a ha).1
  have pR:∀a∈as++[p],a≠fo∧H a=none:=λa ha=>by
   rcases Qe.mp ha with h|h
   ·exact gC a h
   rw[CT h];refine⟨npf,zap tq (zap k3 oM ?_) Hb⟩;simp[npf,npr]
  generalize WC fo (Hv (as.map V.ref++[TR]))=H5 at k5 pC cw bf cS;refine⟨_,rfl,p,rfl,⟨_,Hn bf⟩,zb5 (xs:=zs.map V.str) (λj σ H'=>Aj3 (Ex1 λx5=>σ=[Eo,Hj fo,Hj re,RH (.str ws[i]),Hj p,x5]) (Keep [re] H5 H') (Ex1 λ(ks:Ng)=>Aj4 (H' re=some (TH ks)) ks.Nodup (∀z∈ks,z∈es.map (·.1)) (∀z,z∈ks↔z∈jN∨z∈zs.take j)))
   ⟨⟨_,rfl⟩,Keep.refl,jN,cw,iI,mx,λz=>⟨.inl,λh=>h.elim id λh=>(by cases h)⟩⟩ (λj σ H' _ hh=>SqL.of (Oi bf (Hd npr))) ?_ ?_⟩
  ·rintro j y σ H6 hy ⟨⟨y5,rfl⟩,k6,jM,eF,gh,gj,cU⟩;have hj:j<zs.length:=by have:=(Cm hy).1;rwa[Qa]at this
   obtain⟨z,hz,rfl,ez⟩:∃z,z∈zs∧y=V.str z∧z=zs[j]:=by rw[Qo,Qb hj]at hy;exact⟨zs[j],Qq hj,(Qn hy).symm,rfl⟩
   have step:∀q,(q∈jM∨q=z)↔q∈jN∨q∈zs.take (j+1):=λq=>by rw[cU,Qk hj,Qe,Qc,ez,or_assoc]
   have hsz:jM.length≤es.length:=by have:=zcp gh gj;rwa[Qa]at this
   refine⟨xf,xf,re,xf,DPut.k (k:=Sum.inr z) eF (by unfold marks;rw[List.length_map];lia),⟨xf⟩,k6.trans Rv,?_⟩;by_cases dM:z∈jM
   ·exact⟨jM,by rw[zad,putM_old dM],gh,gj,λq=>by rw[←step q];exact⟨.inl,λh=>h.elim id λe=>e▸dM⟩⟩
   refine⟨jM++[z],by rw[zad,putM_new dM],?_,λq hq=>?_,λq=>by rw[← step q,Qe,Qc]⟩
   ·rw[Zf];refine⟨gh,EO ⟨Hb,Zs⟩,λa ha b hb e=>?_⟩;rw[Qc.mp hb]at e;exact dM (e▸ha)
   rcases Qe.mp hq with h|h
   ·exact gj q h
   rw[Qc.mp h];exact((bU z).mp hz).1
  rintro σ H6 ⟨⟨y5,rfl⟩,k6,jM,eF,gh,gj,cU⟩;rw[Qa,Qr HM]at cU;have mh:ws[i]∈zs:=(bU _).mpr ⟨iu,rfl⟩;have jq:zs.head?=some ws[i]:=by
   cases iY:zs with
   |nil=>rw[iY]at mh;cases mh
   | cons m t=>
    have hmz:m∈zs:=by rw[iY];exact Qd
    obtain⟨rg,gS⟩:=(bU m).mp hmz;obtain⟨j,hj,ej⟩:=Ze (Em rg);have h1:leS m ws[i]:=by
     rw[iY]at mh tH;rcases Qj.mp mh with q|q
     ·rw[q];exact λz=>Ux _ z
     exact(Uf.mp tH).1 _ q
    have dG:i≤j:=Xg λae=>by have jk:m∈jN:=c1 m (by rw[←ej,←Ja (j:=i) (h:=by rw[Za];lia)];exact Qq _);obtain⟨gG,ik,uB⟩:=c2 m jk;obtain⟨_,s,_,hs⟩:=ko gG ik;exact aK (c6 gG ik _ ((hs _).mpr ⟨iu,gS.symm.trans ((hs m).mp uB).2⟩))
    have h2:leS ws[i] m:=by
     rcases Nat.lt_or_eq_of_le dG with q|q
     ·rw[←ej];exact Jp.mp ay i j hi hj q
     subst q;rw[ej];exact λz=>Ux _ z
    rw[leS_anti _ _ h1 h2];rfl
  have tk:ws.take HY=ws.take i++[ws[i]]:=Qk hi;refine⟨⟨_,_,xf⟩,TU Pf,as++[p],zss++[zs],jM,k6 _ _ pC (Hd sR),eF,Paired.imp' (λa zs h=>k6 _ _ h (by simpa using Ny cw Hh)) cS,λq hq=>?_,by rw[Qm];show _+1≤_;exact zar4 ‹_›,gh,gj,pR,λy hy=>?_,λy hy=>?_,λq hq y hy=>?_,λq hq x hx=>?_,?_,λq hq=>?_⟩
  ·rcases Qe.mp hq with h|h
   ·exact ko q h
   rw[Qc.mp h];exact⟨cb,ws[i],iu,bU⟩
  ·rw[tk]at hy;rcases Qe.mp hy with h|h
   ·exact(cU y).mpr (HL (c1 y h))
   rw[Qc.mp h];exact(cU _).mpr (SK mh)
  ·rcases (cU y).mp hy with h|h
   ·obtain⟨z,hz,o0⟩:=c2 y h;exact⟨z,YN hz,o0⟩
   exact⟨zs,YG Qd,h⟩
  ·rcases Qe.mp hq with h|h
   ·exact(cU y).mpr (HL (c6 q h y hy))
   rw[Qc.mp h]at hy;exact(cU y).mpr C0
  ·rw[tk];rcases Qe.mp hq with h|h
   ·exact YN (c3 q h x hx)
   rw[CT h,jq]at hx;rw[←Qn hx];exact YG Qd
  ·rw[Zz];refine⟨c4,MK _,λa ha b hb=>⟨?_,λx hx y hy=>?_⟩⟩
   ·rintro rfl;rw[Qc.mp hb]at ha;exact aK (c6 zs ha _ mh)
   rw[Qc.mp hb,jq]at hy;rw[←Qn hy];obtain⟨j,hj,ej⟩:=Ze (c3 a ha x hx);rw[Za]at hj;rw[←ej,Ja];exact Jp.mp ay j i Hc hi Hc
  rcases Qe.mp hq with h|h
  ·exact c5 q h
  rw[Qc.mp h];exact tH
 rintro σ H3 ⟨⟨x3,x4,x5,rfl⟩,k3,as,zss,ks,gq,cO,dA,ko,vt,iI,mx,gC,c1,c2,c6,c3,c4,c5⟩;rw[Qa,Qr HM]at c1;refine⟨xf,k fo as zss H3 gq dA ko ⟨c5,c4,λy hy=>c2 y (c1 y (Em hy))⟩ gU (λa ha=>(gC a ha).2) λc u ec _=>k3 c u (tq c u ec Hb) (by simp[JT gU,JT fP])⟩
end
end K21
namespace L2
open PySem
def lc_filt(T:St→Prop)(q:V→Bool)(ha:WU a xs)(hn:xs.length≤sizeLine)(h0:T τ)(hs:∀x∈xs,∀τ,T τ→∀(k1:V→St→Hp→Prop) (k0:St→Hp→Prop),(q x=true→∀τ2,T τ2→k1 x τ2 H)→(q x=false→∀τ2,T τ2→k0 τ2 H)→g x τ H λ τ2 H2=>tc τ2 H2 λb H3=>if b=true then te τ2 H3 λy H4=>k1 y τ2 H4 else k0 τ2 H3)(hq:∀D,H D=none→Q Sv (TB D (xs.filter q))):M9 H:=by
 refine⟨λi m ys τ H1=>Aj5 (H1=H) (T τ) (m=xs.length-i) (i≤xs.length) (ys=(EE i).filter q),⟨_,rfl,h0,rfl,Tq,rfl⟩,?_⟩;rintro i m ys τ H1 ⟨rfl,ht,rfl,hi,rfl⟩;by_cases ae:i<xs.length
 ·have jw:((EE i).filter q).length≤i:=DG (by rw[Za];lia);refine .inr ⟨⟨xs,xs[i],ha,Qb ae⟩,Hc,?_⟩;rintro x H' ⟨rfl,hx⟩;have bh:=hx xs ha;rw[Qb ae]at bh;have iq:xs[i]=x:=Qn bh;have bn:xs.take HY=xs.take i++[x]:=by rw[Qk ae,iq]
  refine hs x (iq▸Qq ae) τ ht (λy τ2 H4=>∃m',m'<xs.length-i∧Aj5 (H4=H') (T τ2) (m'=xs.length-HY) (i+1≤xs.length) ((EE i).filter q++[y]=(EE HY).filter q))
   (λ τ2 H4=>∃m',m'<xs.length-i∧Aj5 (H4=H') (T τ2) (m'=xs.length-HY) (i+1≤xs.length) ((EE i).filter q=(EE HY).filter q)) (λug τ2 h2=>?_) λug τ2 h2=>?_
  ·exact⟨_,Hy,rfl,h2,rfl,ae,by rw[bn,Yq,Yd ug,Ua]⟩
  exact⟨_,Hy,rfl,h2,rfl,ae,by rw[bn,Yq,Yf (by rw[ug];decide),Ua,Zq]⟩
 have e:i=xs.length:=by exact zar3 ‹_› ‹_›
 subst e;refine .inl ⟨⟨xs,ha,HM⟩,λD hD=>?_⟩;rw[Qr HM];exact hq D hD
end L2
namespace K21
open PySem L2 Wb
def sum_filter{α:Type}{p:α→Bool}{f:α→Int}:∀l:List α,(l.map λx=>if p x=true then f x else 0).sum=((l.filter p).map f).sum:=by
 intro l;induction l with
 |nil=>rfl
 |cons a t ih=>
  rw[Ql,Yy,ih];by_cases h:p a=true
  ·rw[if_pos h,Yd h,Ql,Yy]
  rw[if_neg h,Yf h];lia
def sum_parts{α:Type}{f:α→List Str}:∀l:List α,(l.map λx=>(2:Int)+(if f x=[] then 2 else 0)-((f x).length:Int)).sum=2*(l.length:Int)+2*((l.filter λx=>(f x).isEmpty).length:Int)-(((l.map λx=>(f x).length).sum:Nat):Int):=by
 intro l;induction l with
 |nil=>rfl
 |cons a t ih=>
  rw[Ql,Yy,ih,Ql,Yy,Zk];by_cases h:f a=[]
  ·rw[Yd (by rw[h];rfl),Zk,if_pos h];lia
  rw[Yf (by rw[List.isEmpty_iff];exact h),if_neg h];lia
def sum_twos{α:Type}{p:α→Bool}:∀l:List α,(l.map λx=>if p x=true then(2:Int) else 0).sum=2*((l.filter p).length:Int):=by
 intro l;induction l with
 |nil=>rfl
 |cons a t ih=>
  rw[Ql,Yy,ih];by_cases h:p a=true
  ·rw[if_pos h,Yd h,Zk];lia
  rw[if_neg h,Yf h];lia
def iso_eq{es:List Ent}(nd:(es.map (·.1)).Nodup):zcq es=(es.map (·.1)).filter λx=>(ZO x).isEmpty:=by unfold zcq;rw[List.filter_map];congr 1;exact List.filter_congr λe he=>by show e.2.1.isEmpty=(ZO e.1).isEmpty;rw[zbt nd he]
def piece_count{es:List Ent}{cs aF:List HQ}{a9:Nq}(C:CW HU){zs hd hc:Ng}(hz:IsPiece HV a9 zs)(hh:hd.Perm (zcq es++hc))(lh:aF.Perm cs)(hp:Paired (λh c=>∃ s∈c,s.1=h) hc aF) :
  2*zs.length+2*(hd.filter λh=>decide (h∈zs)).length=(zs.map λx=>(ZO x).length).sum+4:=by
 obtain⟨cb,s,hs,bU⟩:=hz;have heu:=C.eu s hs;have p1:((es.map (·.1)).filter λx=>decide (a9 x=a9 s)).Perm zs:=(Ke (Jo Je C.nd) cb).mpr λy=>by rw[Uq,decide_eq_true_iff,bU]
 have e1:wt HV HU a9 (a9 s)=2*(zs.length:Int)+2*((zs.filter λx=>(ZO x).isEmpty).length:Int)-(((zs.map λx=>(ZO x).length).sum:Nat):Int):=by unfold wt;have:=sum_filter (p:=λx=>decide (a9 x=a9 s)) (f:=λx=>(2:Int)+(if ZO x=[] then 2 else 0)-((ZO x).length:Int)) HV;simp only[decide_eq_true_eq]at this;rw[this,zi6 (p1.map _),sum_parts]
 have e2:YR (a9 s)=2*((cs.filter λc=>c.any λu=>decide (a9 u.1=a9 s)).length:Int):=sum_twos _;have e3:(hd.filter λh=>decide (h∈zs)).length=((zcq es).filter λh=>decide (h∈zs)).length+(hc.filter λh=>decide (h∈zs)).length:=by rw[(hh.filter _).length_eq,Yq,Qm]
 have e4:((zcq es).filter λh=>decide (h∈zs)).length=(zs.filter λx=>(ZO x).isEmpty).length:=by
  refine List.Perm.length_eq ((Ke ?_ (Jo Je cb)).mpr λy=>?_)
  ·rw[iso_eq C.nd];exact Jo Je (Jo Je C.nd)
  rw[iso_eq C.nd,Uq,Uq,Uq,decide_eq_true_iff];exact⟨λ⟨⟨_,a⟩,b⟩=>⟨b,a⟩,λ⟨a,b⟩=>⟨⟨((bU y).mp a).1,b⟩,a⟩⟩
 have e5:(hc.filter λh=>decide (h∈zs)).length=(aF.filter λc=>c.any λu=>decide (a9 u.1=a9 s)).length:=by
  have aK:∀c∈aF,c∈cs:=λc h=>lh.mem_iff.mp h;clear lh e3 e4 hh;induction hp with
  |nil=>rfl
  |cons h t ih=>
   rename_i h0 c0 _ _;have iht:=ih λc hc=>aK c (QL hc);obtain⟨u,hu,rfl⟩:=h;have jA:=aK c0 Qd;have hun:u.1∈es.map (·.1):=C.inn' (C.inc jA hu);by_cases hz:u.1∈zs
   ·have hl:=((bU _).mp hz).2;have vy:(c0.any λu=>decide (a9 u.1=a9 s))=true:=Yv.mpr ⟨u,hu,Rh hl⟩;rw[Yd (Hd hz),Yd (p:=λc:List (Str×Str)=>c.any λu=>decide (a9 u.1=a9 s)) vy,Zk,Zk,iht]
   rw[Yf (Hd hz),Yf,iht];intro q;obtain⟨v,hv,e⟩:=Yv.mp q;exact hz ((bU _).mpr ⟨hun,(C.one_lab jA hv hu).trans (Te e)⟩)
 have e6:=(lh.filter λc=>c.any λu=>decide (a9 u.1=a9 s)).length_eq;lia
def ix_listK(hK:X.K=K):FG (rIxL K):=hK▸zar
def op_in_seqK(hK:X.K=K):WH (compareOp .In) (rIn K false):=hK▸op_in_seq
def zjw(hK:X.K=K):YH (.builtin "len") (λxs H Q=>Ex2 λp ys=>Aj3 (xs=[TR]) (WU p ys∨Gk ys) (Q EM H)):=hK▸zak
abbrev sFlat:Stmt:=top 20
inductive IspFlat(vs:List V)(H:Hp)(Q:VK):Prop
 |mk (d:Nc) (es:List Ent) (cs:List (List (Str×Str))) (a9:Nq) (h0:vs=[.ref d]) (h1:TAt H d es) (h2:es.length≤60) (h3:(∀e∈es,e.2.1.length≤100)) (h4:Cert (es.map (·.1)) (row (rsOf es)) cs a9) (h5:∀H',Keep [] H H'→Q .non H'):IspFlat vs H Q
def spFlat:Sp:=λvs H Q _=>IspFlat vs H Q
def ndFB:(["face", "piece"]:List Str).Nodup:=by decide+kernel
def inPc(H:Hp)(zs:Ng):V→Bool
 |.ref a=>match H a with
  |some (.lst (.str h::_))=>decide (h∈zs)
  |_=>false
 |_=>false
def inPc_ref(e:zf0 H a h):inPc H zs Rm=decide (h∈zs):=by obtain⟨t,e⟩:=e;show(match H a with|some (.lst (.str h::_))=>decide (h∈zs)|_=>false)=_;rw[e];rfl
def filt_len(r:Mw as hd):((as.map V.ref).filter (inPc H zs)).length=(hd.filter λh=>decide (h∈zs)).length:=by
 induction r with
 |nil=>rfl
 |cons h t ih=>
  rename_i a b _ _;rw[Ql];have e:=inPc_ref (zs:=zs) h;by_cases hz:b∈zs
  ·rw[Yd (by rw[e];simpa using hz),Yd (Hd hz),Zk,Zk,ih]
  rw[Yf (by rw[e];simpa using hz),Yf (Hd hz),ih]
def sum_cast(ns:List Nat):(ns.map λn:Nat=>(n:Int)).sum=((ns.sum:Nat):Int):=by
 induction ns with
 |nil=>rfl
 |cons a t ih=>rw[Ql,Yy,Yy,ih];lia
section
variable{P:Nk}{w:Nn}{K:Nb}{mg:Nh}{base:No}
def zfs:zam ["rounds", "found", "piece", "many_places", "many_ties", "many_faces"] ["rounds"] (zaj sFlat):=fsk
def ok_flat(F:Z5 "refuse_not_flat" "refuse_not_flat" sFlat f fd)(FF:Z5 "faces_of" "faces_of" zhz ff fdf)(bF:QH fdf ["rounds"] [])(mF:mg "faces_of" = some (Hf ff))(GF:ZB 2 ff fdf ["rounds"] spFaces)(FP:Z5 "pieces_of" "pieces_of" ziv fp fdp)(bP:QH fdp ["rounds"] [])(mP:mg "pieces_of" = some (Hf fp))(GP:ZB 2 fp fdp ["rounds"] spPieces)(ad:RE)(u0:mg "sum" = none):ZB 3 f fd ["rounds"] spFlat:=by
 refine F.okL zfs Hi;obtain⟨d,es,cs,a9,rfl,T,aO,bM,C,k⟩:=h;have hu:=zb9 hr;have aH  :=sizeLine_eq;refine⟨_,zae (Mp zfs.nd (BV bF .nil zbb SA))
  (zag (QS (za6 (NV bP .nil zbb SA)) (pg_name (i:=2) zfs.nd rfl ze)
   (zae (B8 zfs.nd (Tk SQ))
   (zae (BI zfs.nd (NW (zah (call_sum rfl) Ho u0 PyProof.Rows.boot_sum (zaa (zd5 (M:=["place", "rounds"]) (ix:=[none,RH 0]) (mkB zfs) rfl (za6 Sr) (λC a7 ex s H=>UQ ndF) (λC a7 ex s H=>zbw)
      (λC a7 ex s H=>zah (zjw (K:=K) rfl) Ho (by exact ad) Zl (RG (zdg (by exact hu) zt (pv 0))))) zac)) zai))
   (zae (DE zfs.nd (QV Ho ad Zl (zaa (zd5 (M:=["face", "piece"]) (ix:=[none,RH 2]) (mkB zfs) rfl (za6 Sf) (λC a7 ex s H=>UQ ndFB)
      (λC a7 ex s H=>zfh (zan (op_in_seqK (K:=K) rfl) (za9 (ix_listK (K:=K) rfl) Sd zai Hw) Sf rfl)) (λC a7 ex s H=>pv 0)) zac)))
   (zag (Ts (Gz (WM S0 EB) (OF (pv 4)) Sq))))))))  ,?_⟩
 refine⟨xf,d,es,cs,a9,rfl,T,aO,bM,C,λfo fas hd hc aF H1 gr hfal hhd hhp lh cZ k1=>?_⟩;have T1:TAt H1 d es:=M' Hb (λ_ _=>by simp);refine⟨xf,d,es,cs,a9,rfl,T1,aO,C,λl as zss H2 aj bZ ko _ _ _ k2=>?_⟩;have T2:TAt H2 d es:=T1.keep k2 Hb (λ_ _=>by simp);have kX:=k2 _ _ gr Hb;have v0:Paired (zf0 H2) fas hd:=zh5 (D:=d) (g:=d) k2 hhd (λ_ _ _ _=>by simp);refine⟨l,rfl,⟨_,Hn aj⟩,zb5 (xs:=as.map V.ref) (λi σ H'=>Aj2 (Keep [] H2 H') (Ex4 λx2 x3 x4 x5=>σ=[Eo,Hj fo,x2,x3,x4,x5])) ⟨Keep.refl,_,_,_,_,rfl⟩ (λi σ H' _ hh=>SqL.of (hh.1 _ _ aj Hb)) ?_ ?_⟩
 ·rintro i y σ H3 hx ⟨k3,x2,x3,x4,x5,rfl⟩;have hi:i<as.length:=by have:=(Cm hx).1;rwa[Qa]at this
  have jS:y=.ref as[i]:=by rw[Qo,Qb hi]at hx;exact(Qn hx).symm
  subst jS;obtain⟨aB,bv⟩:=za1 bZ hi;have qW:=ko _ Af;have li:=piece_count C qW hhp lh cZ;generalize zss[i]=zs at bv qW li;have iP:H3 as[i]=some Ol:=k3 _ _ bv Hb;have jR:∀z∈zs,∃e∈es,e.1=z:=λz hz=>by obtain⟨_,s,_,hm⟩:=qW;exact Qf.mp ((hm z).mp hz).1
  have cu:zs.length≤100:=by
   have:=zcp qW.1 (m:=es.map (·.1)) λz hz=>by obtain⟨e,he,rfl⟩:=jR z hz;exact Qf.mpr ⟨e,he,rfl⟩
   rw[Qa]at this;lia
  refine⟨xf,as[i],xf,Ss iP,?_⟩;have T3:TAt H3 d es:=T2.keep k3 Hb (λ_ _=>by simp);refine⟨xf,as[i],rfl,⟨_,Hn iP⟩,lc_at (xs:=zs.map V.str) (λ τ=>∃x0,τ=[x0,Eo]) ((zs.map λx=>((ZO x).length:Int)).map V.int) (by rw[Qa,Qa,Qa]) (Hn iP) SJ ⟨none,rfl⟩ ?_ (λD hD=>?_)⟩
  ·rintro j hj my τ ⟨x0,rfl⟩ kk hk;rw[Qa]at hj;rw[Zp];obtain⟨en,dH,cc⟩:=jR _ (Qq hj);have dg:DGet H3 d (.str zs[j]) (RH (.ref en.2.2)):=by have:=DGet.k (k:=Sum.inr en.1) T3.dc;rw[zd7 T3.nd dH,cc]at this;exact this
   refine⟨xf,xf,d,xf,dg,en.2.2,xf,SK (SqT.of (T3.ro en dH)),?_⟩;have e:((zs.map λx=>((ZO x).length:Int)).map V.int)[j]=V.int ((en.2.1.map V.str).length:Int):=by rw[Zp,Zp,←cc,zbt T3.nd dH,Qa]
   rw[e]at hk;exact hk _ ⟨_,rfl⟩
  generalize jJ:QX D _=H4;obtain⟨k4,hD4⟩:=Vu jJ;refine⟨D,xf,Hn hD4,SJ,λn hn=>?_,?_⟩
  ·obtain⟨z,hz,rfl⟩:=Qf.mp hn;obtain⟨en,dH,cc⟩:=jR z hz;have h1:=bM en dH;rw[←cc,zbt T3.nd dH];lia
  have ox:(zs.map λx=>((ZO x).length:Int)).sum=(((zs.map λx=>(ZO x).length).sum:Nat):Int):=by rw[←sum_cast,Zc];rfl
  rw[ox];refine⟨_,xf,rfl,⟨Hg,Hg⟩,?_⟩;have gp:=k4 _ _ (Cp kX) Hb;have vA:=k4 _ _ iP Hb;have ph:Paired (zf0 H4) fas hd:=zh5 (D:=d) (g:=d) (LU k4) v0 (λ_ _ _ _=>by simp);refine⟨xf,fo,rfl,⟨_,Hn gp⟩,lc_filt (xs:=fas.map V.ref) (λ τ=>∃x0,τ=[x0,RH (.ref as[i])]) (inPc H4 zs) (Hn gp) SJ ⟨none,rfl⟩ ?_ (λD2 mV=>?_)⟩
  ·rintro x hx τ ⟨x0,rfl⟩ kk1 kk0 uQ hk0;obtain⟨a,ha,rfl⟩:=Qf.mp hx;obtain⟨j,hj,rfl⟩:=Ze ha;obtain⟨cG,hV⟩:=za1 ph hj;have aK:=inPc_ref (zs:=zs) hV;obtain⟨t,et⟩:=hV;refine⟨xf,fas[j],_,_,xf,rfl,Hn et,zav (j:=0) rfl,xf,as[i],xf,Ss vA,rfl,zc9 zs,xf,?_⟩;cases hb:decide (hd[j]∈zs) with
   |true=>exact za4 (show inV _ _=true by rw[zjk];exact hb) ⟨_,rfl,uQ (aK.trans hb) _ ⟨_,rfl⟩⟩
   |false=>exact zaw (show inV _ _=false by rw[zjk];exact hb) (hk0 (aK.trans hb) _ ⟨_,rfl⟩)
  have k5:Keep [] H4 (TM D2 ((fas.map V.ref).filter (inPc H4 zs))):=Keep.new mV;refine⟨D2,xf,Ss zad,?_⟩;rw[filt_len ph];refine⟨xf,xf,_,xf,rfl,xf,_,xf,rfl,rfl,xf,zaw ?_ ?_⟩
  ·rw[Ka,decide_eq_true_iff];refine congrArg V.int ?_;rw[Qa];lia
  exact⟨(LU k4).trans k5,_,_,_,xf⟩
 rintro σ H3 ⟨k3,x2,x3,x4,x5,rfl⟩;exact k H3 ((Tv k2).trans k3)
abbrev sInit:Stmt:=NO 0
abbrev zib:List Ent→List Ent→Prop:=Paired λt e=>t.1=e.1∧∃k,t.2.1=e.2.1.drop k++e.2.1.take k
abbrev RwE:List Ro→List Ent→Prop:=Paired λr e=>r.1=.str e.1∧r.2.1=e.2.1.map V.str∧r.2.2=e.2.2
def rwe_of{rs:List Ro}(h:rs.all okR=true):∃ es,Vw es:=by
 induction rs with
 |nil=>exact⟨[],.nil⟩
 | cons r t ih=>
  rw[Jw,Wf]at h;obtain⟨es,he⟩:=ih h.2;have tx:∀{v:V},nmV v=true→∃z,v=.str z:=λ{v} q=>by
   cases v with
   |str z=>exact⟨z,rfl⟩
   |_=>cases q
  have h1:=Zw.mp h.1;obtain⟨z,hz⟩:=tx (h1 r.1 Qd);obtain⟨zs,fE⟩:∃zs:List Str,r.2.1=zs.map V.str:=by
   have:∀l:List V,(∀v∈l,nmV v=true)→∃zs:List Str,l=zs.map V.str:=λl=>by
    induction l with
    |nil=>intro _;exact⟨[],rfl⟩
    |cons v l ih=>intro q;obtain⟨z,rfl⟩:=tx (q v Qd);obtain⟨zs,rfl⟩:=ih λv hv=>q v Pz;exact⟨z::zs,rfl⟩
   exact this _ λv hv=>h1 v Pz
  exact⟨(z,zs,r.2.2)::es,yY ⟨hz,fE,rfl⟩ he⟩
def RwE.mem{rs:List Ro}{es:List Ent}(h:Vw es){e:Ent}(he:e∈es):∃r∈rs,r.1=.str e.1∧r.2.1=e.2.1.map V.str∧r.2.2=e.2.2:=by
 induction h with
 |nil=>cases he
 |cons h _ ih=>
  rcases Qj.mp he with z|z
  ·subst z;exact⟨_,Qd,h⟩
  obtain⟨r,hr,q⟩:=ih z;exact⟨r,QL hr,q⟩
def RoAt.rw{H:Hp}{l:Nc}{as:Nl}{rs:List Ro}{es:List Ent}(R:Dw rs)(h:Vw es):VC es:=by
 refine⟨R.ls,?_,λe he=>?_⟩
 ·have:=R.ts;clear R;induction h generalizing as with
  |nil=>cases this;exact .nil
  |cons h _ ih=>cases this with
   |cons h1 t1=>exact .cons (by rw[h1,h.1,h.2.2]) (ih t1)
 obtain⟨r,hr,_,h2,h3⟩:=h.mem he;rw[←h3,←h2];exact R.ro r hr
def RwE.names{rs:List Ro}{es:List Ent}(h:Vw es)(hok:rs.all okR=true):∀e∈es,zbf e.1∧∀x∈e.2.1,zbf x:=λe he=>by
 obtain⟨r,hr,h1,h2,_⟩:=h.mem he;have q:=Zw.mp (Zw.mp hok r hr);refine⟨zef.mp ?_,λx hx=>zef.mp ?_⟩
 ·have:=q r.1 Qd;rw[h1]at this;exact this
 exact q CF (QL (by rw[h2];exact Qf.mpr ⟨x,hx,rfl⟩))
inductive IspInit(C c1 c2:Nc)(vs:List V)(H:Hp)(Q:VK)(E:XK):Prop
 | mk (x dx l:Nc) (as:Nl) (rs:List Ro) (h0:vs=[.ref x,.ref l]) (h1:H x=some (.ins C dx [])) (h2:RoAt H l as rs) (h3:rs.length≤40) (h4:∀ r∈rs,OddR H r)
   (h5:∀H',Keep [x] H H'→rs.all okR=false→E AN none H')
   (h6:∀es,Vw es→rs.all okR=true→(twOk es=false→∀H',Keep [x] H H'→E AO none H')∧(twOk es=true→∃cs a9,Cert HV HU cs a9∧∀(d:Nc) (ts es2:List Ent) (H':Hp),By d ts→es2.Perm es→NX es2→(∀e∈ts,Frst e.2.1)→(ts.map (·.1)).Pairwise leS→Keep [x] H H'→Q .non H')):NY c2 vs H Q E
def spInit(C c1 c2:Nc):Sp:=NY c2
def zce(h:NX es):ts.map (·.1)=es.map (·.1):=by
 induction h with
 |nil=>rfl
 |cons h t ih=>rw[Ql,Ql,h.1,ih]
def zhx(h:NX es)(ht:t∈ts):∃e∈es,t.1=e.1∧∃k,t.2.1=e.2.1.drop k++e.2.1.take k:=by
 induction h with
 |nil=>cases ht
 |cons h _ ih=>
  rcases Qj.mp ht with z|z
  ·subst z;exact⟨_,Qd,h⟩
  obtain⟨e,he,r⟩:=ih z;exact⟨e,QL he,r⟩
def zfb(h:NX es2)(hp:es2.Perm es)(nd:(es.map (·.1)).Nodup):∀x,∃k,W3 x=(ZO x).drop k++(ZO x).take k:=λx=>by
 have qy:(ts.map (·.1)).Nodup:=by rw[zce h];exact(hp.map _).nodup_iff.mpr nd
 by_cases hx:x∈ts.map (·.1)
 ·obtain⟨t,ht,rfl⟩:=Qf.mp hx;obtain⟨e,he,e1,k,e2⟩:=zhx h ht;refine⟨k,?_⟩;rw[zbt qy ht,e1,zbt nd (hp.mem_iff.mp he),e2]
 refine⟨0,?_⟩;have qH:x∉es.map (·.1):=λz=>hx (by rw[zce h];exact(hp.map _).mem_iff.mpr z);have n1:x∉(rsOf ts).map (·.1):=by unfold rsOf;rw[List.map_map];exact hx
 have n2:x∉(rsOf es).map (·.1):=by unfold rsOf;rw[List.map_map];exact qH
 rw[zeb n1,zeb n2];rfl
def FnOk.no{k:Nat}{f:Nc}{fd:Nw}{ps:Ng}{sp:Sp}(F:ZC Ec k f fd ps sp):ZB k f fd ps (λvs H Q _=>sp vs H Q λ_ _ _=>False):=
 ⟨λvs H Q E h=>F.len vs H Q _ h,λA outer s H args us vs Q E hr he hb hv h=>codeAny_mono (Vm _ hr he hb hv h) λr s' hr=>by
  cases r with
  |ok fl=>cases fl<;>exact hr
  |error e=>obtain⟨_,_,_,_,_,_,_,_,_,_,_,_,_,_,_,q⟩:=hr;exact q.elim⟩
def scInit:zam ["self", "rows", "rounds"] ["self", "rows"] (zaj sInit):=fsk
def ok_init(F:Z5 "__init__" "Web.__init__" sInit f fd)(cW:V8 C)(nW:VQ "rounds")(FN:Z5 "refuse_no_names" "refuse_no_names" zf7 fn fdn)(bN:QH fdn ["rows"] [])(mN:mg "refuse_no_names" = some (Hf fn))(GN:ZC Ec 2 fn fdn ["rows"] (spNoNames c1))(FT:Z5 "refuse_twice" "refuse_twice" sTwice ft fdt)(bT:QH fdt ["rows"] [])(mT:mg "refuse_twice" = some PH)(GT:ZC Ec 1 ft fdt ["rows"] (spTwice c2))(FO:Z5 "refuse_one_way" "refuse_one_way" ziw fo fdo)(bO:QH fdo ["rows"] [])(mO:mg "refuse_one_way" = some (Hf fo))(GO:ZB 1 fo fdo ["rows"] spOneWay)(FL:Z5 "from_least" "from_least" sLeast fl fdl)(bL:QH fdl ["around"] [])(mL:mg "from_least" = some (Hf fl))(GL:ZB 1 fl fdl ["around"] spLeast)(FF:Z5 "refuse_not_flat" "refuse_not_flat" sFlat ff fdf)(bF:QH fdf ["rounds"] [])(mF:mg "refuse_not_flat" = some (Hf ff))(GF:ZB 3 ff fdf ["rounds"] spFlat)(aJ:mg "sorted" = none):ZC Ec 4 f fd ["self", "rows"] (DH c2):=by
 refine F.okX scInit (λvs H Q E h=>by obtain⟨x,dx,l,as,rs,rfl,_⟩:=h;rfl) Hi;obtain⟨x,dx,l,as,rs,rfl,hx,R0,qT,iG,kn,k⟩:=h;have hu:=zb9 hr;have aP:KL _:=hr.mono Hg;have bQ:Fs _:=hr.mono Hg;have aH  :=sizeLine_eq;refine⟨_,zae (za5 (NZ bN .nil (passR (E':=E) λ_ _ _ h=>h) Sn))
  (zae (za5 (Z' bT .nil (passR (E':=E) λ_ _ _ h=>h) Sn))
  (zae (za5 (zao GO aP rfl mO FO.kp bO .nil zbb Sn))
  (zae (ps_dc (i:=2) (M:=["place", "around"]) (ix:=[none,none]) scInit.nd rfl rfl (mkB scInit) rfl
    (za6 (Pc zf2 Sn))
    (λC a7 ex s H=>zi5 (K:=K) (n:=2) rfl rfl Ay)
    (λC a7 ex s H=>zbw) (λC a7 ex s H=>pv 0) (λC a7 ex s H=>zao GL (by exact aP) rfl (by exact mL) FL.kp bL .nil zbb Sn) rfl)
  (zae (za5 (BV bF .nil zbb SQ))
  (zag (ps_fld Sd Sr rfl)))))),?_⟩
 refine⟨xf,l,as,rs,rfl,R0,iG,λH1 k1=>⟨λam=>?_,λam=>kn H1 (k1.sub Hb) am⟩⟩;obtain⟨es,hE⟩:=rwe_of am;have R:=R0.rw hE;have aO:es.length≤40:=by rw[←Zh hE];exact qT
 have ut:=hE.names am;have hok:∀e∈es,zbf e.1:=λe he=>(ut e he).1;have bM:∀e∈es,e.2.1.length≤100:=λe he=>by obtain⟨r,hr,_,h2,_⟩:=hE.mem he;have:=(iG r hr).1;rw[h2,Qa]at this;exact this
 have R1:=R.keep k1;refine⟨xf,l,as,es,rfl,R1,Hc,bM,λH2 k2=>⟨λfg=>?_,λfg=>(k es hE am).1 fg H2 ((Tv k2).sub Hb)⟩⟩;obtain⟨cs,a9,Ct,k⟩:=(k es hE am).2 fg;have R2:=R1.keep k2;have bw:(es.map (·.1)).Nodup:=Ct.nd;have ak:∀e∈es,ZO e.1=e.2.1:=λe he=>zbt bw he;have oy:∀e∈es,∀y∈e.2.1,y∈es.map (·.1):=λe he y hy=>Ct.inn' (x:=e.1) (by rw[ak e he];exact hy);refine⟨xf,l,as,es,rfl,R2,bw,λe he=>⟨?_,λy hy=>?_⟩,λH3 k3=>?_⟩
 ·rw[←ak e he];exact Ct.ir e.1
 ·obtain⟨e',aW,d7⟩:=Qf.mp (oy e he y hy);have o7:e'.1=y:=d7;refine⟨e',aW,o7,?_⟩;rw[←ak e' aW,o7];exact Ct.sy e.1 y (by rw[ak e he];exact hy)
 have R3:=R2.keep k3;have cK:Keep [] H H3:=(Tv k2).trans k3;have c9:as.length=es.length:=Zh R3.ts;refine⟨xf,l,xf,Cr,λv hv=>?_,λv hv u hu e=>?_,λl2 wsV aj ag ay=>?_⟩
 ·obtain⟨a,ha,rfl⟩:=Qf.mp hv;obtain⟨i,hi,rfl⟩:=Ze ha;obtain⟨aB,h⟩:=GE hi;exact⟨_,_,xf,h⟩
 ·obtain⟨a,ha,rfl⟩:=Qf.mp hv;obtain⟨b,hb,rfl⟩:=Qf.mp hu;obtain⟨i,hi,rfl⟩:=Ze ha;obtain⟨j,hj,rfl⟩:=Ze hb;obtain⟨aB,h1⟩:=GE hi;obtain⟨cG,h2⟩:=GE hj;rw[zde h1,zde h2]at e;have e':es[i].1=es[j].1:=by have q:es[i].1.cps.toList=es[j].1.cps.toList:=e;generalize es[i].1=a1 at q ⊢;generalize es[j].1=a2 at q ⊢;cases a1;cases a2;congr 1;exact Array.toList_inj.mp q
  have e2:(es.map (·.1))[i]'(yT aB)=(es.map (·.1))[j]'(yT cG):=by rw[Zp,Zp];exact e'
  have:=(Wm bw).mp e2;subst this;rfl
 obtain⟨aq,rfl,ap⟩:=zgk ag;obtain⟨es2,fV,on⟩:=zdh ap R3.ts;generalize jJ:QX l2 _=H4;obtain⟨k4,dP⟩:=nwk aj jJ;have om:Paired (HX H4) aq es2:=Paired.imp' (λ_ _ h=>k4 _ _ h Hb) on;have ua:∀e∈es2,H4 e.2.2=some Ll:=λe he=>k4 _ _ (R3.ro e (fV.mem_iff.mp he)) Hb;have oV:(es2.map (·.1)).Nodup:=(fV.map _).nodup_iff.mpr bw;have vz:aq.length=es2.length:=Zh om;have u4:(es2.map (·.1)).Pairwise leS:=by
  have h1:=ay (by rw[Qa,c9];lia);rw[Wx]at h1 ⊢;have key:∀{as:Nl} {es:List Ent},Paired (HX H3) as es→as.Pairwise (λa b=>Tm.strO.kle (rowV H3 Rm) (rowV H3 Io))→es.Pairwise λa b=>leS a.1 b.1:=by
   intro as es r;induction r with
   |nil=>intro _;exact .nil
   |@cons a e as es h t ih=>
    intro hp;rw[Uf]at hp ⊢;refine⟨λe' aW=>?_,ih hp.2⟩;obtain⟨i,hi,rfl⟩:=Ze aW;have pe:i<as.length:=by rw[Zh t];exact hi
    obtain⟨_,bv⟩:=za1 t pe;have:=hp.1 _ (Qq pe);rw[zde h,zde bv]at this;exact of_decide_eq_false this
  exact key on h1
 have hel2:es2.length=es.length:=fV.length_eq;refine⟨l2,rfl,⟨_,Hn dP⟩,λi m ys τ H'=>Aj5 (m=es2.length-i) (i≤es2.length) (Ex2 λx0 x1=>τ=[x0,x1]) (Keep [] H4 H') (Ex1 λ(ts:List Ent)=>Aj3 (ys=(eWV ts)) (∀e∈ts,H' e.2.2=some (.tup RN)∧Frst e.2.1) (NX (es2.take i))),
  ⟨es2.length,rfl,Tq,⟨none,none,rfl⟩,Keep.refl,[],rfl,λe he=>(by cases he),.nil⟩,?_⟩
 rintro i m ys τ H5 ⟨rfl,hi,⟨x0,x1,rfl⟩,k5,ts,rfl,iC,jW⟩;by_cases ae:i<es2.length
 ·have jX:=zce jW;have gM:ts.length≤i:=by have:=congrArg List.length jX;rw[Qa,Qa,Za]at this;lia
  refine .inr ⟨⟨_,.ref aq[i],SN dP,by rw[Qo,Qb (by exact zar6 ‹_› ‹_›)];rfl⟩,SJ,?_⟩;rintro v H6 ⟨rfl,hv⟩;have bD:=hv _ (SN dP);rw[Qo,Qb (by exact zar6 ‹_› ‹_›)]at bD;obtain rfl:V.ref aq[i]=v:=Qn bD;obtain⟨aB,bv⟩:=za1 om (by exact zar6 ‹_› ‹_›:i<aq.length);have aG:es2[i]∈es2:=Qq ae;have aY:=k5 _ _ (ua _ aG) Hb;have oU:es2[i].1∉ts.map (·.1):=by
   rw[jX];have h1:(es2.map (·.1)).take HY=(es2.map (·.1)).take i++[es2[i].1]:=by rw[Qk (yT ae),Zp]
   have h2:((es2.map (·.1)).take HY).Nodup:=Jo PY oV;rw[h1,Zf,←Uk]at h2;exact λz=>h2.2.2 _ z _ TL rfl
  refine⟨aq[i],xf,Tg (k5 _ _ bv Hb),rfl,_,xf,_,xf,rfl,xf,xf,es2[i].2.2,es2[i].2.1,rfl,aY,bM _ (fV.mem_iff.mp aG),λt j H7 hj v2 qK htfr k7=>?_⟩;refine⟨Sum.inr es2[i].1,rfl,es2.length-HY,Hy,rfl,ae,⟨_,xf⟩,TU k7,ts++[(es2[i].1,es2[i].2.1.drop j++es2[i].2.1.take j,t)],put_new (r:=es2[i].2.1.drop j++es2[i].2.1.take j) oU,λe he=>?_,?_⟩
  ·rcases Qe.mp he with z|z
   ·exact⟨k7 _ _ (iC e z).1 Hb,(iC e z).2⟩
   rw[Qc.mp z];exact⟨qK,v2⟩
  rw[Qk ae];exact zal jW (.cons ⟨rfl,j,rfl⟩ .nil)
 have c8:i=es2.length:=by exact zar3 ‹_› ‹_›
 subst c8;rw[Qr HM]at jW;refine .inl ⟨⟨_,SN dP,by rw[Qa,vz];exact Qi _⟩,λd hd=>?_⟩;generalize qH6:Q4 d _=H6;obtain⟨k6,hd6⟩:=nwk hd qH6;have jX:=zce jW;have T6:TAt H6 d ts:=⟨hd6,λe he=>k6 _ _ (iC e he).1 Hb,Hm jX oV⟩;have gM:ts.length=es.length:=by have:=congrArg List.length jX;rw[Qa,Qa,fV.length_eq]at this;exact this
 have C6:Cert (ts.map (·.1)) PJ cs a9:=zdw Ct (by rw[jX];exact fV.map _) (zfb jW fV bw);refine⟨xf,d,ts,cs,a9,rfl,T6,Hc,λe he=>?_,C6,λH7 k7=>?_⟩
 ·obtain⟨e',aW,_,kk,e2⟩:=zhx jW he;rw[e2,(ziz _ kk).length_eq];exact bM e' (fV.mem_iff.mp aW)
 have nU:Keep [] H H7:=(((cK.trans k4).trans k5).trans k6).trans k7;have mf:=nU _ _ hx Hb;have T7:TAt H7 d ts:=T6.keep k7 Hb (λ_ _=>by simp);have nxd:d≠x:=zax T7.dc mf Hh;refine⟨xf,xf,x,C,dx,[],rfl,mf,cW,nW,Hg,?_⟩;refine k d ts es2 _ ⟨zad,T7.keep (xs:=[x]) Rv (Hd nxd) λe he=>by simpa using zax (T7.ro e he) mf Hh⟩ fV jW (λe he=>(iC e he).2) (Hm jX u4) ((nU.sub Hb).trans Rv)
def zgo:∀{as:List α} {bs:List β} (n:Nat),WE as bs→WE (as.take n) (bs.take n):=by
 intro as bs n r;induction r generalizing n with
 |nil=>rw[List.take_nil,List.take_nil];exact .nil
 |cons h t ih=>
  cases n with
  |zero=>exact .nil
  |succ k=>exact .cons h (ih k)
def zgp:∀{as:List α} {bs:List β} (n:Nat),WE as bs→WE (as.drop n) (bs.drop n):=by
 intro as bs n r;induction r generalizing n with
 |nil=>rw[List.drop_nil,List.drop_nil];exact .nil
 |cons h t ih=>
  cases n with
  |zero=>exact .cons h t
  |succ k=>exact ih k
abbrev sPot:Stmt:=top 27
abbrev zft:Stmt:=top 28
abbrev qG:Str:= "_law_digit"
end
inductive IspPot(K:Nb)(vs:List V)(H:Hp)(Q:VK):Prop
 |mk (a:Nc) (ns:List Int) (j:Nat) (h0:vs=[.ref a,.int j]) (h1:SqL K H a (ns.map V.int)) (h2:j≤1000) (h2':ns.length≤1000) (h3:∀(l:Nc) (b m:Int) (H':Hp),H l=none→Pot H' l b m→Keep [] H H'→Q (.ref l) H'):IspPot K vs H Q
def spPot(K:Nb):Sp:=λvs H Q _=>IspPot K vs H Q
def sq_keep(h:WU a xs)(k:Keep [] H H'):SqL K H' a xs:=h.imp (λr=>r.imp (λe=>k _ _ e Hb) λ⟨o,e⟩=>⟨o,k _ _ e Hb⟩) id
section
variable{P:Nk}{w:Nn}{K:Nb}{mg:Nh}{base:No}
def scDigit:zam [qP,qM, "_law_digit_here"] [qP,qM] (zaj zft):=fsk
def ok_digit(F:Z5 qG qG zft f fd):ZB 1 f fd [qP,qM] zeq:=by
 refine F.okL scDigit Hi;obtain⟨p,b,m,n,rfl,⟨hp,hb,hm,bG⟩,hn,bp,k⟩:=h;have i0:atI [Lz b,Lz m] ((0:Nat):Int)=some (SX b):=zav rfl;have i1:atI [Lz b,Lz m] ((1:Nat):Int)=some (SX m):=zav rfl;refine⟨_,zae (zbu (zv OM)
  (zae (BH scDigit.nd (Y9 OM Sf))
  (zae (ps_asg (NW (QG Sd zai (λ_ _=>rfl)) Sf) (Gd set_list))
   (zag (yk Sr)))) zas)
  (zae (ps_asg (Y9 (OF (Ve (Lu Sd zai) zai)) zai) (Gd set_list))
  (zag (yk (Y9 (NW (Y9 (Ve OM OM) zai) zai) Sf)))),?_⟩
 refine⟨xf,p,_,_,xf,rfl,Hn hp,i0,_,xf,rfl,xf,?_⟩;refine ite2 (λbY=>?_) (λhneg=>?_)
 ·have vp:0 < b:=of_decide_eq_true bY;refine⟨xf,p,_,_,xf,rfl,Hn hp,i0,xf,_,xf,rfl,hn,?_⟩;refine⟨xf,p,_,_,xf,rfl,Hn hp,i0,xf,_,xf,rfl,⟨hn,bp⟩,xf,p,_,0,0,rfl,rfl,hp,rfl,xf,?_⟩;refine k (b%n) (b/n) m _ (Xp _ Hc) (Kr _ hn) ⟨zad,Int.ediv_nonneg hb Hc,hm,bG⟩ λc o e hc=>?_;rw[zaf hc];exact e
 have i1':∀ x:Int,atI [Lz b,Lz x] ((1:Nat):Int)=some (SX x):=λx=>zav rfl;have r0:0≤(m*48271+12289)%2147483629:=Xp _ Hg;have r1:(m*48271+12289)%2147483629<2147483629:=Kr _ Hg;refine⟨xf,p,_,_,xf,rfl,Hn hp,i1,_,xf,rfl,HL ⟨Hc,Hc⟩,_,xf,rfl,_,xf,rfl,(by show(0:Int)<2147483629;decide),xf,p,_,1,1,rfl,rfl,hp,rfl,?_⟩;refine⟨xf,p,_,_,xf,rfl,Ef,i1' _,xf,p,_,_,xf,rfl,Ef,i1' _,_,xf,rfl,HL ⟨Hc,Hc⟩,_,xf,rfl,(by show(0:Int)<2147483587;decide),_,xf,rfl,⟨Hg,Hg⟩,xf,_,xf,rfl,hn,?_⟩;refine k _ b ((m*48271+12289)%2147483629) _ (Xp _ Hc) (Kr _ hn) ⟨zad,hb,r0,Hc⟩ λc o e hc=>?_;rw[zaf hc];exact e
def scPot:zam [qS, "_law_k", "_law_cell"] [qS, "_law_k"] (zaj sPot):=fsk
def ok_pot(F:Z5 "_law_pot" "_law_pot" sPot f fd)(ad:RE)(dE:mg "min" = none)(kI:mg "max" = none)(aZ:mg "list" = none):ZB 1 f fd [qS, "_law_k"] (spPot K):=by
 refine F.okL scPot Hi;obtain⟨a,ns,j,rfl,hS,hj,qZ,k⟩:=h;have aH  :=sizeLine_eq;refine⟨_,zae (BH scPot.nd (QG (J5 (zba zdy Ho aZ Kv SA) (zay OQ))
   (DW Ho dE Xf (ZV (RG (Tk yy)))) Hw))
  (zag (zaz (zay (zaa (Oo (Mu zw (zat op_pow zai zai)))
   (zaa (Y9 (OF (WM (Ve (Y9 Sr zai) zai) (Ve zai Sf))) zai) zac))))),?_⟩
 refine⟨xf,a,xf,HL hS,λp1 h1=>?_⟩;refine⟨LR,λp2 h2=>?_⟩;have fq:p1≠p2:=zab (o:=_) zad h2;refine⟨p1,p2,_,xf,rfl,C7,zad,by rw[Qa];show _+1≤_;lia,λp3 h3=>?_⟩;have k3:Keep [] H (Pq (UD (.lst [SX 0])) p3 (Hv (ns.map V.int++[SX 0]))):=((Ht h1).trans C8).trans Ig;have S3:=sq_keep hS k3;have l3:(Pq (UD (.lst [SX 0])) p3 (Hv (ns.map V.int++[SX 0]))) p3=some (Hv ((ns++[0]).map V.int)):=by rw[zad,Qp];rfl
 refine⟨xf,xf,a,xf,HL S3,j,ns.length,by rw[Qa],?_⟩;generalize upd (UD (.lst [SX 0])) p3 (Hv (ns.map V.int++[SX 0]))=H3 at S3 k3 l3;obtain⟨i,hi,e⟩:∃i:Nat,i<(ns++[0]).length∧(if(ns.length:Int)<(j:Int) then(ns.length:Int) else(j:Int))=(i:Int):=by
  rw[Qm];split
  ·exact⟨ns.length,z4,rfl⟩
  exact⟨j,by show j<ns.length+1;lia,rfl⟩
 rw[e];have g:((ns++[0]).map V.int)[i]?=some (.int (ns++[0])[i]):=by rw[Qo,Qb hi];rfl
 refine⟨p3,_,_,xf,rfl,Hn l3,zav g,?_⟩;generalize(ns++[0])[i]=c;have q0:0≤c%2147483629:=Xp _ Hg;have q1:c%2147483629<2147483629:=Kr _ Hg;refine⟨xf,_,xf,rfl,⟨Hg,Hg,Hg⟩,_,xf,rfl,_,xf,?_⟩;refine⟨xf,_,xf,rfl,(by show(0:Int)<2147483629;decide),_,xf,rfl,HL ⟨Hc,Hc⟩,xf,_,xf,rfl,HL ⟨Hg,Hg⟩,_,xf,rfl,_,xf,rfl,_,xf,rfl,(by show(0:Int)<2147483629;decide),LE,λl hl=>?_⟩;refine k l _ _ _ (zap k3 hl Hb) ⟨zad,?_,Xp _ Hg,Int.lt_trans (Kr _ Hg) Hg⟩ (LU (Ht hl));split
 ·lia
 decide
end
end K21
namespace L2
open PySem PySem.Spec PyProof.Rows
abbrev iV(n:Nat):V:=.int (n:Int)
section
variable{X:Cx}
def op_ne_pairsN(hu:X.A.units<cLine):QJ (λx y H Q=>Ex4 λ(a b:Nc) (q r:Nat×Nat)=>Aj5 (x=.ref a) (y=.ref b) (Cj (.tup [iV q.1,iV q.2])) (RU b (.tup [iV r.1,iV r.2])) (Ca (!decide (q=r)))):=by
 intro a7 s σ H x y v u Q I rx ry h;obtain⟨a,b,q,r,rfl,rfl,ha,hb,k⟩:=h;cases rx;cases ry;obtain⟨_,a8,r1,p⟩:=YD ha;obtain⟨_,aD,r2,p2⟩:=UX _ hb;obtain⟨u1,u2,rfl,⟨t1,rfl⟩,⟨t2,rfl⟩⟩:=vals2 r1;obtain⟨w1,w2,rfl,⟨t3,rfl⟩,⟨t4,rfl⟩⟩:=vals2 r2;refine SeqAt.RcNeAt.tuples (e:=λj=>if j=0 then(q.1:Int)==(r.1:Int) else(q.2:Int)==(r.2:Int)) p p2 hu (λj j1 j2=>?_) _ _ _ _ ⟨.bl (!decide (q=r)),H,I,?_,k⟩
 ·have jQ:j < 2:=by simpa using j1
  match j,jQ with
  |0,_=>exact SeqAt.EqAt.int_int (q.1:Int) t1 (r.1:Int) t3
  |1,_=>exact SeqAt.EqAt.int_int (q.2:Int) t2 (r.2:Int) t4
 show Value.bool _=Value.bool _;congr 1;have:decide (q=r)=(((q.1:Int)==(r.1:Int))&&((q.2:Int)==(r.2:Int))):=by rw[Yn];simp[Prod.ext_iff];lia
 rw[this];show(!((S1 2).all (λj=>if j=0 then(q.1:Int)==(r.1:Int) else(q.2:Int)==(r.2:Int))&&true))=_;rw[show List.range 2=[0,1] from rfl];simp
end
end L2
namespace Wb
section
variable{α:Type}[DecidableEq α]
theorem zha(rs:Rs α)(s:α×α):∀n,UC s (n+1)=UC (stp rs s) n
 |0=>rfl
 |n+1=>congrArg (stp rs) (zha rs s n)
theorem lk_itr:∀{t:List (α×α)} {s:α×α},Lk (st (row rs)) s t e→Ml (t.length+1)=s::t∧UC s (t.length+1)=e
 |[],s,k=>⟨rfl,k⟩
 |y::t,s,k=>by obtain⟨h1,h2⟩:=lk_itr k.2;have hs:stp rs s=y:=k.1;refine⟨?_,by rw[Zk,zha,hs];exact h2⟩;unfold run at h1 ⊢;rw[Zk,List.range_succ_eq_map,Ql,Zc,←h1];refine congrArg (s::·) (Wd λn _=>?_);show UC s (n+1)=_;rw[zha,hs]
def good_round{rs:Rs α}(h:Good rs){s:α×α}(hs:Va s):∃L,UC s (L+1)=s∧(Ml (L+1)).Nodup:=by obtain⟨cs,a9,C⟩:=h;obtain⟨c,hc,h⟩:=Yi.mp ((zo s).mpr ((zdj C.nd).mp hs));obtain⟨A,B,e⟩:=Wr h;have k:=Mq hc;rw[e]at k;obtain⟨h1,h2⟩:=lk_itr (zdk k);refine⟨_,h2,?_⟩;rw[h1];have hn:c.Nodup:=(List.pairwise_flatten.mp C.cf).1 c hc;rw[e]at hn;have:=(Ur (l₁:=A) (l₂:=s::B)).nodup_iff.mp hn;exact this
def round_ne{rs:Rs α}{s:α×α}{L n:Nat}(nd:(Ml (L+1)).Nodup)(h0:0<n)(h:n≤L):UC s n≠s:=λe=>by unfold run at nd;have:=(Wm (i:=n) (j:=0) (h₀:=by rw[Qa,Wy];lia) (h₁:=by rw[Qa,Wy];lia) nd).mp (by rw[Zp,Zp,Kq,Kq];exact e);lia
end
def rsN(rr:List Sg):Rs Nat:=(List.range rr.length).map λk=>(k,rr.getD k [])
def zdt(rr:List Sg):(rsN rr).map (·.1)=List.range rr.length:=by unfold rsN;rw[Zc];exact(Wd λ_ _=>rfl).trans (Kf _)
def nd_N(rr:List Sg):((rsN rr).map (·.1)).Nodup:=by rw[zdt];exact List.nodup_range
def zhp{rr:List Sg}{k:Nat}(h:k<rr.length):(k,rr[k])∈rsN rr:=by unfold rsN;exact Qf.mpr ⟨k,Wg.mpr h,by rw[Qx,Qb h];rfl⟩
def row_N{rr:List Sg}{k:Nat}(h:k<rr.length):J6 k=rr[k]:=zfu AR (zhp h)
def row_No{rr:List Sg}{k:Nat}(h:¬k<rr.length):J6 k=[]:=zeb (by rw[zdt];exact λz=>h (Wg.mp z))
def set_N(rr:List Sg)(k:Nat)(r:List Nat):zbj Cq k r=rsN (rr.set k r):=by
 unfold zbj rsN;rw[Zc,Jr];refine Wd λj hj=>?_;have my:=Wg.mp hj;show(if j=k then(j,r) else(j,rr.getD j []))=(j,(rr.set k r).getD j []);rw[Qx,Qx,List.getElem?_set];by_cases e:j=k
 ·subst e;rw[if_pos rfl,if_pos rfl,if_pos my];rfl
 rw[if_neg e,if_neg (Zd e)]
def snoc_N(rr:List Sg):rsN (rr++[[]])=rsN rr++[(rr.length,[])]:=by
 unfold rsN;rw[Qm,Zk,Kb,List.range_succ,Qp];congr 1
 ·refine Wd λj hj=>?_;rw[Qx,Qx,Xw (Wg.mp hj)]
 show [(rr.length,(rr++[[]]).getD rr.length [])]=_;rw[Qx,Jm HM,Nat.sub_self];rfl
end Wb
namespace K21
open PySem L2 Wb
abbrev zff:Stmt:=top 31
abbrev zfe:Stmt:=top 32
structure NAt(H:Hp)(l:Nc)(as:Nl)(rr:List (List Nat)):Prop where
 ls:H l=some PB
 ro:Paired (λa r=>H a=some TV) as rr
 nd:as.Nodup
def NAt.len(R:UL rr):as.length=rr.length:=Zh R.ro
def NAt.row(R:UL rr){k:Nat}(h:k<as.length)(h':k<rr.length):H as[k]=some (Hv (rr[k].map iV)):=let⟨_,z⟩:=za1 R.ro h;z
def NAt.keep(R:UL rr)(k:WB H')(hl:l∉xs)(ha:∀a∈as,a∉xs):UR rr:=by
 refine⟨k _ _ R.ls hl,?_,R.nd⟩;have:=R.ro;clear R;induction this with
 |nil=>exact .nil
 |cons r t ih=>exact .cons (k _ _ r (ha _ Qd)) (ih λa h=>ha a (QL h))
def NAt.k0(R:UL rr)(k:Keep [] H H'):UR rr:=R.keep k Hb λ_ _=>by simp
def NAt.apart(R:UL rr):l∉as:=λh=>by
 obtain⟨k,hk,e⟩:=Ze h;have h1:=R.row hk (by rw[←R.len];exact hk);rw[e,R.ls]at h1;have h2:as.map V.ref=(rr[k]'(by rw[←R.len];exact hk)).map iV:=by injection h1 with z;injection z
 cases as with
 |nil=>simp at hk
 |cons a t=>
  generalize(rr[k]'(by rw[←R.len];exact hk))=r at h2;cases r with
  |nil=>cases h2
  |cons y s=>rw[Ql,Ql]at h2;injection h2 with z1 _;cases z1
def zhe{zs:List Nat}{x:Nat}(h:x∈zs):(∃ z,(Sy iV)[zs.idxOf x]?=some z∧eqV z (iV x)=true)∧∀ m z,m < zs.idxOf x→(Sy iV)[m]?=some z→eqV z (iV x)=false:=by
 have ae:zs.idxOf x<zs.length:=Jv.mpr h;refine⟨⟨iV x,?_,beq_self_eq_true (x:Int)⟩,λm z hm e=>?_⟩
 ·rw[Qo,Qb ae,Jy];rfl
 rw [Qo]at e;have bG:m<zs.length:=Ww hm ae;rw[Qb bG]at e;cases e;show((zs[m]:Int)==(x:Int))=false;refine beq_eq_false_iff_ne.mpr λq=>?_;have q:zs[m]=x:=Int.ofNat.inj q;have az:∀(l:List Nat) (j:Nat) (hj:j<l.length),l[j]=x→l.idxOf x≤j:=by
  intro l;induction l with
  |nil=>intro j hj;simp at hj
  | cons a t ih=>
   intro j hj e;rw[List.idxOf_cons];cases j with
   |zero=>have e':a=x:=e;rw[e'];simp
   |succ i=>
    have:=ih i Pw OR;by_cases h:a=x
    ·rw[h];simp
    have hb:(a == x)=false:=beq_eq_false_iff_ne.mpr h;rw[hb];simp;assumption
 have:=az zs m bG q;lia
def ze8(zs:List Nat):(Sy iV).all zd6=true:=by rw[Zw];intro v hv;obtain⟨x,_,rfl⟩:=Qf.mp hv;rfl
inductive IspBehind(vs:List V)(H:Hp)(Q:VK):Prop
 |mk (a:Nc) (zs:List Nat) (x:Nat) (h0:vs=[.ref a,iV x]) (h1:H a=some (.lst (zs.map iV))) (h2:x∈zs) (h3:zs.length≤900) (h4:Q (iV (nxt zs x)) H):IspBehind vs H Q
def spBehind:Sp:=λvs H Q _=>IspBehind vs H Q
abbrev zb8(H:Hp)(as:Nl)(qs:Tn (Nat×Nat)):Prop:=Paired (λa q=>H a=some (.tup [iV q.1,iV q.2])) as qs
def zb8.keep(r:zb8 H as qs)(k:∀b x y,H b=some (.tup [x,y])→H' b=some (.tup [x,y])):zb8 H' as qs:=Paired.imp' (λa q h=>k _ _ _ h) r
def zb8.snoc(r:zb8 H as qs)(h:Cj (.tup [iV q.1,iV q.2])):zb8 H (as++[a]) (qs++[q]):=by
 induction r with
 |nil=>exact .cons h .nil
 |cons r t ih=>exact .cons r ih
inductive IspSteps0(vs:List V)(H:Hp)(Q:VK):Prop
 |mk (l:Nc) (as:Nl) (rr:List (List Nat)) (s:Nat×Nat) (h0:vs=[.ref l,iV s.1,iV s.2]) (h1:NAt H l as rr) (h2:IsSt (rsN rr) s) (h3:Good (rsN rr)) (h4:rr.length≤40)
  (h6:∀(t:Nc) (ps:Nl) (n:Nat) (H':Hp),H t=none→H' t=some Ir→zb8 H' ps (J7 s (n+1))→(J7 s (n+1)).Nodup→n+1≤1600→Keep [] H H'→Q Lx H'):IspSteps0 vs H Q
def spSteps0:Sp:=λvs H Q _=>IspSteps0 vs H Q
section
variable{P:Nk}{w:Nn}{K:Nb}{mg:Nh}{base:No}
def scBehind:zam ["_law_around", "_law_one"] ["_law_around", "_law_one"] (zaj zff):=fsk
def ok_behind(F:Z5 "_law_behind" "_law_behind" zff f fd)(ad:RE):ZB 1 f fd ["_law_around", "_law_one"] spBehind:=by
 refine F.okL scBehind Hi;obtain⟨a,zs,x,rfl,ha,hx,hz,k⟩:=h;have hu:=zb9 hr;refine⟨_,zag (zaz (QG Sd (Y9 (OF (Y8 Sd Sn))
  (QV Ho ad Zl SA)) Hw)),?_⟩
 obtain⟨i1,i2⟩:=zhe hx;have bY:0<zs.length:=Kz hx;have hm:(zs.idxOf x+1)%zs.length<zs.length:=My bY;have g:(Sy iV)[(zs.idxOf x+1)%zs.length]?=some (iV (XQ x)):=by rw[Qo,Qb hm];unfold nxt;simp[List.getD,hm]
 have e1:((zs.idxOf x:Nat):Int)+1=((zs.idxOf x+1:Nat):Int):=by lia
 have g2:atI (Sy iV) ((((zs.idxOf x:Nat):Int)+1)%((Sy iV).length:Int))=some (iV (XQ x)):=by rw[e1,Qa,←Int.natCast_emod];exact zav g
 refine⟨xf,xf,RI ha,xf,a,_,_,xf,rfl,ha,rfl,ze8 zs,i1,i2,_,xf,rfl,xf,a,xf,Ss ha,_,xf,rfl,?_,a,_,_,xf,rfl,Hn ha,g2,k⟩;rw[Qa];exact zar9 ‹_›
def zcv:zam [qR, "_law_p", "_law_q", "_law_found", "_law_here"] [qR, "_law_p", "_law_q"] (zaj zfe):=fsk
def ok_steps0(F:Z5 "_law_steps" "_law_steps" zfe f fd)(FB:Z5 "_law_behind" "_law_behind" zff fb fdb)(bB:QH fdb ["_law_around", "_law_one"] [])(mB:mg "_law_behind" = some (Hf fb))(GB:ZB 1 fb fdb ["_law_around", "_law_one"] spBehind) :
  FnOk P w K mg base CX0 2 f fd [qR, "_law_p", "_law_q"] spSteps0:=by
 refine F.okL zcv Hi;obtain⟨d,ra,rr,st,rfl,R,av,hG,aO,k⟩:=h;have hu:=zb9 hr;refine⟨_,zae P7
  (zae (yW (O0 (Lu (pv 0) zw)))
  (zae (Fq (zan (op_ne_pairsN (Ww z4 hu)) Ty (QG S0 zai (λ_ _=>rfl)) rfl)
   (zae (Ln S0 Ly)
   (zag (yW (Ak (Lu Sd (YM Hw)))))))
  (zag (yk S0)))),?_⟩
 obtain⟨L,hL,nd⟩:=good_round hG av;have iN:=zbs.clo _ hG;have kN:(rsN rr).length=rr.length:=by unfold rsN;rw[List.length_map,List.length_range]
 have vE:L+1≤1600:=by
  have:=zg0 nd (m:=allSt Cq) λx hx=>by obtain⟨i,_,rfl⟩:=Qf.mp hx;exact mem_allSt.mpr (itr_st iN av i)
  unfold Wb.run at this;rw[Qa,Wy]at this;exact Zn this (zbs.steps hG (Hm kN aO))
 have qp:∀q:Nat×Nat,MX q→∃(h:q.2<rr.length) (h':q.2<ra.length),q.1∈rr[q.2]∧rr[q.2].length≤900∧BW q=(q.2,nxt rr[q.2] q.1):=λq hq=>by
  have h1:=(zdj AR).mp hq;by_cases h:q.2<rr.length
  ·rw[row_N h]at h1;refine⟨h,by rw[R.len];exact h,h1,?_,by unfold stp;rw[row_N h]⟩;have:=zbs.rows hG _ (zhp h);rw[kN]at this;exact Zn this Hc
  rw[row_No h]at h1;cases h1
 have i0:∀x y:V,atI [x,y] ((0:Nat):Int)=some x:=λx y=>zav rfl;have i1:∀x y:V,atI [x,y] ((1:Nat):Int)=some y:=λx y=>zav rfl;have aH  :=sizeLine_eq;refine⟨xf,xf,LE,λt0 mq=>⟨LR,λl hl=>?_⟩⟩;have k1:Keep [] H (Pq (ZS t0 (.tup [Ao,Op])) l (.lst [Ih])):=(Ht mq).trans EC;have ntl:t0≠l:=zab (o:=_) zad hl;have fh:(Pq (ZS t0 (.tup [Ao,Op])) l (.lst [Ih])) t0=some (.tup [Ao,Op]):=by rw[zaf ntl];exact zad
 have ax:(Pq (ZS t0 (.tup [Ao,Op])) l (.lst [Ih])) l=some (.lst [Ih]):=zad;have fl:H l=none:=zap (xs:=[]) (Ht mq) hl Hb;generalize upd (ZS t0 (.tup [Ao,Op])) l (.lst [Ih])=H1 at k1 fh ax;have R1:=R.k0 k1;obtain⟨g1,g2,g3,g4,g5⟩:=qp st av;refine⟨xf,xf,xf,d,_,_,xf,rfl,yO,zav (by rw[Qo,Qb g2];rfl),xf,_,rr[st.2],st.1,rfl,R1.row g2 g1,g3,g4,LE,λt ht=>?_⟩;have e5:[Op,iV (nxt rr[st.2] st.1)]=[iV (Z9 1).1,iV (Z9 1).2]:=by show _=[iV (BW st).1,iV (BW st).2];rw[g5]
 rw[e5];have nlt:l≠t:=zab ax ht;refine⟨λm σ H2=>Ex3 λ(n:Nat) (t:Nc) (as:Nl)=>Aj8 (m=L-n) (n≤L) (σ=[Eo,RH Ao,RH Op,Ix,Hj t]) (Keep [l] H1 H2) (H2 l=some (Hv ((t0::as).map V.ref))) (zb8 H2 (t0::as) (J7 st (n+1))) (H2 t=some (.tup [iV (Z9 (n+1)).1,iV (Z9 (n+1)).2])) (as.length=n),
  ⟨_,0,t,[],rfl,Tq,rfl,AM,Hq nlt ax,Su (Hq (AK fh ht) fh),zad,rfl⟩,?_⟩
 rintro m σ H2 ⟨n,t,as,rfl,hn,rfl,k2,aj,pa,jc,c9⟩;have jZ:=k2 _ _ fh (Hd ntl);refine⟨xf,xf,l,_,_,xf,rfl,Hn aj,(show atI ((t0::as).map V.ref) ((0:Nat):Int)=some Ih from zav rfl),t,t0,Z9 (n+1),st,rfl,rfl,jc,jZ,xf,?_⟩;by_cases he:n=L
 ·subst he;refine zaw (by rw[decide_eq_true hL];rfl) ?_;exact⟨xf,k l (t0::as) n H2 fl aj pa nd vE λc o ec _=>k2 c o (k1 _ _ ec Hb) (by simpa using JT fl)⟩
 refine za4 (by rw[Se (round_ne nd (Nat.succ_pos n) Hc)];rfl) ?_;have jK:t≠l:=zax jc aj Hh;refine⟨_,λ σ' H' z=>z,?_⟩;refine⟨xf,RI aj,xf,l,_,xf,rfl,aj,by rw[Qa,Zk];lia,?_⟩;have k3:Keep [l] H1 AS:=k2.trans En;have fH:(Q3 l RJ) t=some (.tup [iV (Z9 (n+1)).1,iV (Z9 (n+1)).2]):=by rw[zaf jK];exact jc
 have cg:(Q3 l RJ) l=some (Hv ((t0::(as++[t])).map V.ref)):=by rw[zad,←Yr,Qp];rfl
 have nC:zb8 AS (t0::(as++[t])) (J7 st (n+1+1)):=by rw[run_succ,←Yr];refine zb8.snoc (zb8.keep pa λb x y eb=>?_) fH;rw[zaf (zax eb aj Hh)];exact eb
 generalize Q3 l RJ=H3 at k3 fH cg nC;have nra:∀a∈ra,a≠l:=λa ha=>by obtain⟨j,hj,rfl⟩:=Ze ha;exact zab (R.row hj (by rw[←R.len];exact hj)) fl
 have R3:NAt H3 d ra rr:=R1.keep k3 (by simpa using zab R.ls fl) λa ha=>by simpa using nra a ha
 obtain⟨g1,g2,g3,g4,g5⟩:=qp (Z9 (n+1)) (itr_st iN av _);refine⟨xf,t,_,_,xf,rfl,Tg fH,i1 _ _,xf,xf,t,_,_,xf,rfl,Tg fH,i1 _ _,d,_,_,xf,rfl,Cr,zav (by rw[Qo,Qb g2];rfl),xf,t,_,_,xf,rfl,Tg fH,i0 _ _,_,rr[(Z9 (n+1)).2],(Z9 (n+1)).1,rfl,R3.row g2 g1,g3,g4,LE,λt' jd=>?_⟩;have e6:[iV (Z9 (n+1)).2,iV (nxt rr[(Z9 (n+1)).2] (Z9 (n+1)).1)]=[iV (Z9 (n+1+1)).1,iV (Z9 (n+1+1)).2]:=by show _=[iV (BW (Z9 (n+1))).1,iV (BW (Z9 (n+1))).2];rw[g5]
 rw[e6];have qx:l≠t':=zab cg jd;exact⟨L-(n+1),Hc,n+1,t',as++[t],rfl,Hc,rfl,LU (Ht jd),Hq qx cg,zb8.keep nC λb x y eb=>by rw[zaf (AK eb jd)];exact eb,zad,by rw[Qm,c9];rfl⟩
abbrev sTie:Stmt:=top 33
def inV_nat{x:Nat}{zs:List Nat}:inV (iV x) (Sy iV)=decide (x∈zs):=by
 unfold inV;rw[Yn,Yv,decide_eq_true_iff];constructor
 ·rintro⟨v,hv,e⟩;obtain⟨z,hz,rfl⟩:=Qf.mp hv;have e:((z:Int)==(x:Int))=true:=e;have:z=x:=Int.ofNat.inj (eq_of_beq e);rw[←this];exact hz
 intro h;exact⟨_,Rw x h,beq_self_eq_true (x:Int)⟩
def NAt.mem(R:UL rr)(ha:a∈as):∃r:List Nat,H a=some TV:=by obtain⟨j,hj,rfl⟩:=Ze ha;exact⟨_,R.row hj (by rw[←R.len];exact hj)⟩
def NAt.set(R:UL rr){k:Nat}(h:k < as.length)(r:List Nat):NAt (ZS as[k] TV) l as (rr.set k r):=by
 have hl:l≠as[k]:=λz=>R.apart (z▸Qq h);refine⟨by rw[zaf hl];exact R.ls,?_,R.nd⟩;have bw:=R.nd;have hr:=R.ro;clear R hl;induction hr generalizing k with
 |nil=>simp at h
 | cons r1 t ih=>
  rename_i a r0 cr dW;rw[Qw]at bw;cases k with
  | zero=>
   refine .cons zad ?_;show Paired _ cr dW;refine Paired.imp' (λb r' hb=>hb) ?_;clear ih;have key:∀{xs:Nl} {ys:List Sg},Paired (λa r=>H a=some TV) xs ys→a∉xs→Paired (λb r'=>(TB a (r.map iV)) b=some (Hv (r'.map iV))) xs ys:=by
    intro xs ys hp;induction hp with
    |nil=>intro _;exact .nil
    |cons q t' ih'=>intro hn;rw[Qj,not_or]at hn;exact .cons (Hq (Zd hn.1) q) (ih' hn.2)
   exact key t bw.1
  |succ j=>
   have hj:j<cr.length:=by simpa using h
   refine .cons ?_ (ih (k:=j) hj bw.2);show(ZS cr[j] _) a=_;rw[zaf (λz=>bw.1 (by rw[z];exact Qq hj))];exact r1
def pot_l(h:M5 m)(R:UL rr):l≠p:=zax R.ls h.1 (by
 intro z;have z':as.map V.ref=[SX b,SX m]:=by injection z
 cases as with
 |nil=>cases z'
 |cons x t=>rw[Ql]at z';injection z' with z1 _;cases z1)
def zb8.mem(r:zb8 H as qs)(ha:a∈as):∃q∈qs,H a=some (.tup [iV q.1,iV q.2]):=by
 induction r with
 |nil=>cases ha
 |cons r t ih=>
  rcases Qj.mp ha with e|e
  ·exact⟨_,Qd,e▸r⟩
  obtain⟨q,h1,h2⟩:=ih e;exact⟨q,QL h1,h2⟩
inductive IspTieD(vs:List V)(H:Hp)(Q:VK):Prop
 |mk (p l:Nc) (b m:Int) (as:Nl) (rr:List (List Nat)) (h0:vs=[.ref p,.ref l]) (h1:Pot H p b m) (h2:NAt H l as rr) (h3:Good (rsN rr)) (h4:0<rr.length) (h5:rr.length≤40) (bZ:p∉as)
  (h6:∀(b' m':Int) (dW:List Sg) (H':Hp),dW.length=rr.length→Good (rsN dW)→Q2 m'→UR dW→Keep (p::as) H H'→Q .non H'):IspTieD vs H Q
def spTieD:Sp:=λvs H Q _=>IspTieD vs H Q
def scTie:zam [qP,qR, "_law_one", "_law_ahead", "_law_steps_here", "_law_first", "_law_p", "_law_q"] [qP,qR] (zaj sTie):=fsk
def ok_tie(F:Z5 "_law_tie" "_law_tie" sTie f fd)(FT:LA)(bT:QH fdt [qP,qM] [])(mT:mg qG=some PH)(GT:ZB 1 ft fdt [qP,qM] zeq)(FS:Z5 "_law_steps" "_law_steps" zfe fs fds)(bS:QH fds [qR, "_law_p", "_law_q"] [])(mS:mg "_law_steps" = some (Hf fs))(GS:ZB 2 fs fds [qR, "_law_p", "_law_q"] spSteps0)(ad:RE):ZB 3 f fd [qP,qR] spTieD:=by
 refine F.okL scTie Hi;obtain⟨p,l,b,m,as,rr,rfl,hp,R,hG,bY,bM,bZ,k⟩:=h;have hu:=zb9 hr;have be:=Wn hu;have aP:KL _:=hr.mono Hg;have aH  :=sizeLine_eq;refine⟨_,zae (BH scTie.nd (Lp (RG Aj)))
  (zae (Am (N0 P8 SM Sq) (zag ps_retN))
  (zae (B8 scTie.nd (QG P8 (Lp (OG (Tk (RG (QG zt zw Hw))))) Hw))
  (zae (BI scTie.nd (BT bS .nil zbb (ZV (QE SQ))))
  (zae (DE scTie.nd (Lp (RG (Tk (W1 zac)))))
  (zag (QS (za6 (Rp 4 5)) (Mo (zbe (za7 6 scTie.nd) (yo (za7 7 scTie.nd))))
   (zag (zbu (PW.pt (pw_and (Gz O1 Sr Sq) (zi3 (zan zdr O1 (QG Sf Sr (λ_ _=>rfl)) rfl))))
    (zae (za5 (Y3 P8 (zaa (OF (Y8 (Lu Sf Sr) TF)) (Ft zac))))
    (zae (za5 (Y3 (Lu Sf O1) (zaa (OF (Y8 (Lu Sf (pv 7)) (Fu zac))) SQ)))
    (zag ps_retN))) zas)))))))),?_⟩
 have kN:(rsN rr).length=rr.length:=by unfold rsN;rw[List.length_map,List.length_range]
 have c9:=R.len;have nlp:=pot_l hp R;have nap:∀a∈as,a≠p:=λa ha z=>bZ (z▸ha);have gS:(as.map V.ref).length=rr.length:=by rw[Qa];exact c9
 refine⟨xf,xf,l,xf,HL OB,p,b,m,xf,hp,Hc,Hc,λj1 b1 m1 H1 uY hj1 cT lV=>?_⟩;have k1:Keep [p] H H1:=zau lV;have R1:NAt H1 l as rr:=R.keep k1 Td λa ha=>by simpa using nap a ha
 obtain⟨one,rfl⟩:=Zo uY;have ho:one<rr.length:=by lia
 have aw:one<as.length:=by lia
 have a1:∀{c:Nat} (h:c<as.length),Fv (c:Int)=some (.ref as[c]):=λh=>zav (by rw[Qo,Qb h];rfl);refine⟨xf,xf,l,_,_,xf,rfl,yO,a1 aw,TY,λq hq=>?_⟩;have k2:Keep [p] H (QN q HP):=k1.trans Ez;have ap:Pot (QN q HP) p b1 m1:=cT.keep (xs:=[]) Ez Hb;have R2:NAt (QN q HP) l as rr:=R1.k0 Ez;refine⟨as[one],q,xf,rfl,Hn (R2.row aw ho),Ef,xf,?_⟩;generalize QN q HP=H2 at k2 ap R2;have ak:=R2.row aw ho;have qh:∀(b' m':Int) (H':Hp),Q2 m'→Keep [p] H H'→Q .non H':=λb' m' H' df k'=>k b' m' rr H' rfl hG df (R.keep k' Td λa ha=>by simpa using nap a ha) (k'.sub Hb);by_cases he:rr[one]=[]
 ·exact za4 (by rw[he];rfl) (qh b1 m1 H2 ap k2)
 refine zaw (by cases z:rr[one] with|nil=>exact absurd z he|cons _ _=>rfl) ?_;have cu:rr[one].length≤900:=by have:=zbs.rows hG _ yz;rw[kN]at this;exact Zn this Hc
 have hzp:0<rr[one].length:=Ub.mpr he;have hml1:(rr[one].map iV).length=rr[one].length:=Qa ..;refine⟨xf,xf,l,_,_,xf,rfl,Oj,a1 aw,xf,xf,xf,l,_,_,xf,rfl,Oj,a1 aw,as[one],xf,Ss ak,p,b1,m1,xf,ap,Hc,Hc,λj2 b3 m3 H3 kS uX bE qB=>?_⟩;obtain⟨jn,rfl⟩:=Zo kS;have rj:jn<rr[one].length:=by lia
 have k3:Keep [p] H H3:=k2.trans (yA qB);have R3:NAt H3 l as rr:=R.keep k3 Td λa ha=>by simpa using nap a ha
 refine⟨as[one],_,_,iV rr[one][jn],rfl,rfl,Hn (R3.row aw ho),zav (by rw[Qo,Qb rj];rfl),?_⟩;have pU:rr[one][jn]∈rr[one]:=Qq rj;generalize rr[one][jn]=ah at pU;have av:MX (ah,one):=(zdj AR).mpr (by show ah∈J6 one;rw[row_N ho];exact pU);refine⟨xf,xf,xf,l,as,rr,(ah,one),rfl,R3,av,hG,bM,λt ps n H4 ft ht pa nd hn k4=>?_⟩;have cC:Keep [p] H H4:=k3.trans PF;have c7:=bE.keep k4 Hb;have aU:ps.length=n+1:=by have:=Zh pa;unfold Wb.run at this;rwa[Qa,Wy]at this
 have hml2:(ps.map V.ref).length=n+1:=by rw[Qa];exact aU
 have ntp:t≠p:=λz=>by rw[z,bE.1]at ft;cases ft
 refine⟨xf,xf,t,xf,Ss ht,p,b3,m3,xf,c7,Hc,Hc,λj5 b5 m5 H5 kQ uU bf dZ=>?_⟩;obtain⟨jf,rfl⟩:=Zo kQ;have hjf:jf≤(ps.map V.ref).length:=by lia
 have k5:Keep [p] H H5:=cC.trans (yA dZ);have tY:=dZ _ _ ht ntp;have nz:zb8 H5 ps (J7 (ah,one) (n+1)):=zb8.keep pa λb' x' y' eb=>dZ _ _ eb (zax eb c7.1 Hh);refine⟨xf,xf,xf,t,xf,Hn tY,λs1 bV=>?_⟩;rw[zdl hjf];have jY:(Q4 s1 (Hv ((ps.map V.ref).drop jf))) t=some Ir:=by rw[zaf (AK tY bV)];exact tY
 refine⟨xf,xf,xf,t,xf,Hn jY,λs2 de=>?_⟩;rw[zhi hjf];have sQ:s1≠s2:=zab (o:=_) zad de;refine⟨s1,s2,_,xf,rfl,Hq sQ zad,zad,by rw[Yu,Za];lia,λs3 hs3=>?_⟩;have k6:Keep [] H5 (upd (Pq (Q4 s1 (Hv ((ps.map V.ref).drop jf))) s2 (Hv ((ps.map V.ref).take jf))) s3 (Hv ((ps.map V.ref).drop jf++(ps.map V.ref).take jf))):=((Ht bV).trans (Ht de)).trans (Ht hs3);have iD:(upd (Pq (Q4 s1 (Hv ((ps.map V.ref).drop jf))) s2 (Hv ((ps.map V.ref).take jf))) s3 (Hv ((ps.map V.ref).drop jf++(ps.map V.ref).take jf))) s3=some (Hv ((ps.map V.ref).drop jf++(ps.map V.ref).take jf)):=zad;have hvs:∀v∈(ps.map V.ref).drop jf++(ps.map V.ref).take jf,∃a∈ps,v=.ref a:=λv hv=>by
  rcases Qe.mp hv with z|z
  ·obtain⟨a,ha,rfl⟩:=Qf.mp (Wo z);exact⟨a,ha,rfl⟩
  obtain⟨a,ha,rfl⟩:=Qf.mp (Wh z);exact⟨a,ha,rfl⟩
 generalize(ps.map V.ref).drop jf++(ps.map V.ref).take jf=vs at iD hvs k6;generalize upd (Pq (Q4 s1 (Hv ((ps.map V.ref).drop jf))) s2 (Hv ((ps.map V.ref).take jf))) s3 (Hv vs)=H6 at k6 iD;have i8:Keep [p] H H6:=k5.trans Pf;have dO:=bf.keep k6 Hb;have R6:NAt H6 l as rr:=R.keep i8 Td λa ha=>by simpa using nap a ha
 have sK:zb8 H6 ps (J7 (ah,one) (n+1)):=zb8.keep nz λb' x' y' eb=>k6 _ _ eb Hb;have cM:=R6.row aw ho;refine⟨s3,rfl,⟨_,Hn iD⟩,zb5 (xs:=vs) (λi σ H'=>Aj2 (Ex2 λx6 x7=>σ=[Hj p,Ix,Tx one,Tx ah,Hj t,Tx jf,x6,x7]) (H'=H6)) ⟨⟨_,_,rfl⟩,rfl⟩ (λi σ H' _ hh=>hh.2▸SqL.of iD) ?_ ?_⟩
 ·rintro i v σ H' hv ⟨⟨x6,x7,rfl⟩,rfl⟩;obtain⟨a,ha,rfl⟩:=hvs v (Yz hv);obtain⟨⟨x,y⟩,hxy,hta⟩:=sK.mem ha;obtain⟨n',_,e'⟩:=Qf.mp hxy;refine⟨a,xf,Tg hta,rfl,_,xf,_,xf,rfl,?_⟩;refine⟨xf,xf,rfl,xf,?_⟩;by_cases d0:y=one
  ·subst d0;exact zaw Hb (iteF ⟨⟨_,_,rfl⟩,rfl⟩)
  refine za4 (by simpa using λz=>d0 Hc) ?_;refine⟨xf,xf,xf,l,_,_,xf,rfl,CK,a1 aw,as[one],xf,Ss cM,rfl,ze8 _,xf,?_⟩;rw[inV_nat];by_cases il:y∈rr[one]
  ·exact zaw (by rw[decide_eq_true il];rfl) ⟨⟨_,_,rfl⟩,rfl⟩
  refine za4 (by rw[decide_eq_false il];rfl) ?_;obtain⟨i1,i2⟩:=zhe pU;have hi1:rr[one].idxOf ah<rr[one].length:=Jv.mpr pU;refine⟨xf,xf,l,_,_,xf,rfl,CK,a1 aw,RI cM,xf,xf,l,_,_,xf,rfl,CK,a1 aw,RI cM,xf,as[one],_,_,xf,rfl,cM,rfl,ze8 _,i1,i2,_,xf,rfl,xf,as[one],_,_,rr[one].idxOf ah+1,rfl,by rw[show((rr[one].idxOf ah+1:Nat):Int)=(rr[one].idxOf ah:Int)+1 by lia],cM,SJ,SJ,?_⟩;have ka:MX (x,y):=e'▸itr_st (zbs.clo _ hG) av n';have o8:=(zdj AR).mp ka;have hy:y<rr.length:=Kj λz=>by have im:x∈J6 y:=o8;rw[row_No z]at im;cases im
  have d7:y<as.length:=by lia
  have o8:x∈rr[y]:=by have im:x∈J6 y:=o8;rwa[row_N hy]at im
  have qD:rr[y].length≤900:=by have:=zbs.rows hG _ (zhp hy);rw[kN]at this;exact Zn this Hc
  have e1:(rr[one].map iV).take (rr[one].idxOf ah+1)++iV y::(rr[one].map iV).drop (rr[one].idxOf ah+1)=(ins rr[one] Oq y).map iV:=by rw[←Uk,←Ju,←Ql,←Qp];rfl
  rw[e1];have R7:=R6.set aw (ins rr[one] Oq y);have k7:Keep (p::as) H (UB as[one] (Hv ((ins rr[one] Oq y).map iV))):=(i8.sub Hb).trans (Keep.wr (QL (Qq aw)));have aN:Pot (UB as[one] (Hv ((ins rr[one] Oq y).map iV))) p b5 m5:=dO.keep (xs:=[as[one]]) Rv (Rx (nap _ (Qq aw)));generalize UB as[one] (Hv ((ins rr[one] Oq y).map iV))=H7 at R7 k7 aN;have hy7:y<(rr.set one (ins rr[one] Oq y)).length:=by rw[Jr];exact hy
  have aX:=R7.row d7 hy7;rw[Xq (Zd d0)]at aX;obtain⟨i3,i4⟩:=zhe o8;have aB:rr[y].idxOf x<rr[y].length:=Jv.mpr o8;refine⟨xf,xf,l,_,_,xf,rfl,yQ,a1 d7,RI aX,xf,xf,l,_,_,xf,rfl,yQ,a1 d7,RI aX,xf,as[y],_,_,xf,rfl,aX,rfl,ze8 _,i3,i4,_,xf,rfl,xf,as[y],_,_,rr[y].idxOf x+1,rfl,by rw[show((rr[y].idxOf x+1:Nat):Int)=(rr[y].idxOf x:Int)+1 by lia],aX,SJ,SJ,?_⟩;have e2:(rr[y].map iV).take (rr[y].idxOf x+1)++iV one::(rr[y].map iV).drop (rr[y].idxOf x+1)=(ins rr[y] (RH x) one).map iV:=by rw[←Uk,←Ju,←Ql,←Qp];rfl
  rw[e2];have hg:=zbs.tie Cq ah (one,rr[one]) n' hG yz pU (Hm e' d0) (Hm e' il);rw[e']at hg;have hg:Good (zbj (zbj Cq one (ins rr[one] Oq y)) y (ins (J6 y) (RH x) one)):=hg;rw[row_N hy,set_N,set_N]at hg;exact k b5 m5 _ _ (by rw[Jr,Jr]) hg (aN.keep (xs:=[as[y]]) Rv (Rx (nap _ (Qq d7)))) (R7.set d7 _) (k7.trans (Keep.wr (QL (Qq d7))))
 rintro σ H' ⟨⟨x6,x7,rfl⟩,rfl⟩;exact qh b5 m5 H' dO i8
end
end K21
namespace Wb
def good_turn{α:Type}[DecidableEq α]{rs sE:Rs α}(h:Good rs)(hn:sE.map (·.1)=rs.map (·.1))(hr:∀x,∃k,row sE x=(BS x).drop k++(BS x).take k):Good sE:=by obtain⟨cs,a9,C⟩:=h;exact⟨cs,a9,zdw C (by rw[hn]) hr⟩
def idx_at{zs:List Nat}(nd:zs.Nodup){i:Nat}(h:i<zs.length):zs.idxOf zs[i]=i:=
 (Wm (h₀:=Jv.mpr (Qq h)) (h₁:=h) nd).mp (Jy _)
def leaf_N{rr:List Sg}(hG:Good Cq){o j:Nat}(ho:o < rr.length)(hj:j≤rr[o].length) :
  Good (rsN (((rr++[[]]).set rr.length [o]).set o (rr[o].take j++rr.length::rr[o].drop j))):=by
 have hx:rr.length∉(rsN rr).map (·.1):=by rw[zdt];exact λz=>Wj _ (Wg.mp z)
 have dh:rr.length≠o:=Yo ho;have base:∀c,(∀y,c=some y→y∈rr[o])→(c=none→rr[o]=[])→Good (rsN (((rr++[[]]).set rr.length [o]).set o (ins rr[o] c rr.length))):=λc h1 h2=>by have:=zbs.leaf Cq rr.length (o,rr[o]) c hG hx yz h1 h2;have this:Good (zbj (zbj (rsN rr++[(rr.length,[])]) o (ins rr[o] c rr.length)) rr.length [o]):=this;rw[←snoc_N,set_N,set_N,List.set_comm _ _ (Zd dh)]at this;exact this
 by_cases hz:rr[o]=[]
 ·have:=base none (λy z=>by cases z) λ_=>hz;have e:rr[o].take j++rr.length::rr[o].drop j=ins rr[o] none rr.length:=by rw[hz];simp[ins]
  rw[e];exact this
 have nd:rr[o].Nodup:=(zbs.sub _ hG _ yz).1;cases j with
 |succ i=>
  have hi:i<rr[o].length:=hj;have:=base (some rr[o][i]) (λy z=>by cases z;exact Qq hi) λz=>by cases z
  have e:ins rr[o] (some rr[o][i]) rr.length=rr[o].take HY++rr.length::rr[o].drop HY:=by show rr[o].take (rr[o].idxOf rr[o][i]+1)++rr.length::rr[o].drop (rr[o].idxOf rr[o][i]+1)=_;rw[Gx hi]
  rw[e]at this;exact this
 | zero=>
  have hp:0<rr[o].length:=Ub.mpr hz;have hi:rr[o].length-1<rr[o].length:=by lia
  have hg:=base (some rr[o][rr[o].length-1]) (λy z=>by cases z;exact Qq hi) λz=>by cases z
  have e:ins rr[o] (some rr[o][rr[o].length-1]) rr.length=rr[o]++[rr.length]:=by show rr[o].take (rr[o].idxOf rr[o][rr[o].length-1]+1)++rr.length::rr[o].drop (rr[o].idxOf rr[o][rr[o].length-1]+1)=_;rw[Gx hi,show rr[o].length-1+1=rr[o].length by lia,List.take_length,List.drop_length]
  rw[e]at hg;refine good_turn hg (by rw[zdt,zdt];simp) λx=>?_;have ax:(((rr++[[]]).set rr.length [o]).set o (rr[o]++[rr.length])).length=rr.length+1:=by simp
  have aj:(((rr++[[]]).set rr.length [o]).set o (rr[o].take 0++rr.length::rr[o].drop 0)).length=rr.length+1:=by simp
  by_cases qF:x<rr.length+1
  ·rw[row_N (by rw[aj];exact qF),row_N (by rw[ax];exact qF)];by_cases tM:x=o
   ·subst tM;rw[List.getElem_set_self,List.getElem_set_self];exact⟨rr[x].length,by rw[List.drop_left,List.take_left];rfl⟩
   rw[Xq (Zd tM),Xq (Zd tM)];exact⟨0,Hb⟩
  rw[row_No (by rw[aj];exact qF),row_No (by rw[ax];exact qF)];exact⟨0,rfl⟩
def new_N{rr:List Sg}(hG:Good Cq):Good (rsN (rr++[[]])):=by rw[snoc_N];exact zbs.new _ _ hG (by rw[zdt];exact λz=>Wj _ (Wg.mp z))
def nil_N:Good (rsN []):=zbs.nil
end Wb
namespace K21
open PySem L2 Wb
abbrev zit:Stmt:=top 34
def NAt.snoc(R:UL rr)(he:RU e HP)(az:e∉as)(kM:l≠e):NAt (TB l (as.map V.ref++[CA])) l (as++[e]) (rr++[[]]):=by
 refine⟨by rw[zad,Qp];rfl,?_,?_⟩
 ·have vw:=R.apart;have hr:=R.ro;clear R;induction hr with
  |nil=>exact .cons (Hq (Zd kM) he) .nil
  | cons r t ih=>
   rw[Qj,not_or]at vw az;refine .cons (Hq (Zd vw.1) r) ?_;have key:∀{zs:List V} {xs:Nl} {ys:List Sg},Paired (λa r=>H a=some TV) xs ys→l∉xs→Paired (λa r=>(TB l zs) a=some TV) (xs++[e]) (ys++[[]]):=by
    intro zs xs ys hp;induction hp with
    |nil=>intro _;exact .cons (Hq (Zd kM) he) .nil
    |cons q t' ih'=>intro hn;rw[Qj,not_or]at hn;exact .cons (Hq (Zd hn.1) q) (ih' hn.2)
   exact key t vw.2
 rw[Zf];exact⟨R.nd,EO ⟨Hb,Zs⟩,λa ha b hb z=>az (by rw[←Qc.mp hb,←z];exact ha)⟩
inductive zic(vs:List V)(H:Hp)(Q:VK):Prop
 |mk (p:Nc) (b m:Int) (n:Nat) (h0:vs=[.ref p,iV n]) (h1:Pot H p b m) (h2:n≤40)
  (h3:∀(l:Nc) (as:Nl) (rr:List Sg) (b' m':Int) (H':Hp),UR rr→Good Cq→rr.length≤40→Q2 m'→p∉as→H l=none→(∀a∈as,H a=none)→Keep [p] H H'→Q Tb H'):zic vs H Q
def spRoundsD:Sp:=λvs H Q _=>zic vs H Q
section
variable{P:Nk}{w:Nn}{K:Nb}{mg:Nh}{base:No}
def zev:zam [qP, "_law_most",qR, "_law_k",qO] [qP, "_law_most"] (zaj zit):=fsk
def ok_rounds(F:Z5 "_law_rounds" "_law_rounds" zit f fd)(FT:LA)(bT:QH fdt [qP,qM] [])(mT:mg qG=some PH)(GT:ZB 1 ft fdt [qP,qM] zeq)(FI:Z5 "_law_tie" "_law_tie" sTie fi fdi)(bI:QH fdi [qP,qR] [])(mI:mg "_law_tie" = some (Hf fi))(GI:ZB 3 fi fdi [qP,qR] spTieD)(ad:RE)(bX:mg "range" = none):ZB 4 f fd [qP, "_law_most"] spRoundsD:=by
 refine F.okL zev Hi;obtain⟨p,b,m,n,rfl,hp,hn,k⟩:=h;have hu:=zb9 hr;have aP:KL _:=hr.mono Hg;have aH  :=sizeLine_eq;refine⟨_,zae (BH zev.nd SM)
  (zae (QS (BX (zaa (Lp (RG (OF zt))) zac)) (FY zev.nd)
   (zae (Ln Sr (RG (zay zac)))
   (zag (zbu (PW.pt (pw_and (zv S0) (zi3 (zv (Z' bT .nil zbb SF)))))
    (zae (BI zev.nd (Lp TF))
    (zae (Ln (Lu Sr S0) Ly)
    (zag (za5 (Y3 (Lu Sr Ty) (zaa (Lp (zaa (OF (Tk (RG (QG zw (pv 4) Hw)))) zac)) TF)))))) zas))))
  (zae (QS (BX (zaa (Z' bT .nil zbb (ZK (zaa (QG (zay (QO (zaa (OF (Tk SQ)) (RG (OF (Ve zai (Tk (Z6 zac))))))))
     (Z' bT .nil zbb SF) Hw) zac))) zac)) (FY zev.nd)
   (zag (za5 (zao GI hr rfl mI FI.kp bI .nil zbb (ZK SQ)))))
  (zag (yk Sr)))),?_⟩
 refine⟨TY,λl hl=>?_⟩;have k1:Keep [p] H (ZS l HP):=Keep.new hl;have cT:Pot (ZS l HP) p b m:=hp.keep (xs:=[]) EC Hb;have nlp:l≠p:=Zd (Mz hl);have R1:NAt (ZS l HP) l [] []:=⟨zad,.nil,Zs⟩;generalize ZS l HP=H1 at k1 cT R1;refine⟨xf,xf,_,xf,rfl,p,b,m,xf,cT,Hc,Hc,λj2 b2 m2 H2 kS uX ap iU=>?_⟩;have k2:Keep [p] H H2:=k1.trans (yA iU);have R2:NAt H2 l [] []:=R1.keep (yA iU) Td λa ha=>by cases ha
 obtain⟨many,rfl⟩:=Zo kS;have hmany:many≤40:=by lia
 refine⟨xf,Hc,Hc,?_⟩;refine zc8 (lo:=0) (λi σ H'=>Aj3 (Ex2 λx3 x4=>σ=[Hj p,Tx n,Ix,x3,x4]) (Keep [p] H H') (Ex4 λ(as:Nl) (rr:List Sg) (b' m':Int)=>V0 (rr.length=i) (Q2 m') (p∉as) (∀a∈as,H a=none)))
  ⟨⟨_,_,rfl⟩,k2,[],[],b2,m2,R2,nil_N,rfl,ap,Hb,λa ha=>by cases ha⟩ ?_ ?_
 ·rintro i σ H3 hi ⟨⟨x3,x4,rfl⟩,k3,as,rr,b3,m3,R3,pZ,bM,bE,bZ,cH⟩;have hi40:rr.length<40:=by lia
  refine⟨xf,.inl ⟨rfl,_,Cr⟩,TY,λe he=>?_⟩;have R4:NAt AT l as rr:=R3.k0 (Ht he);have he4:(QX e HP) e=some HP:=zad;have kM:l≠e:=zab R3.ls he;have az:e∉as:=λz=>by obtain⟨r,hr⟩:=R3.mem z;rw[he]at hr;cases hr
  have nep:e≠p:=Zd (zab bE.1 he);have feH:H e=none:=zap k3 he (Hd nep);have gS:(as.map V.ref).length=rr.length:=by rw[Qa];exact R3.len
  refine⟨l,_,xf,rfl,R4.ls,Hc,?_⟩;have R5:=R4.snoc he4 az kM;have k5:Keep [p] H (Pq AT l (Hv (as.map V.ref++[CA]))):=λc u ec hc=>by have h1:=k3 c u ec hc;rw[zaf (λz=>by rw[z,hl]at ec;cases ec),zaf (AK h1 he)];exact h1
  have bf:Pot (Pq AT l (Hv (as.map V.ref++[CA]))) p b3 m3:=(bE.keep (xs:=[]) (Ht he) Hb).keep (xs:=[l]) Rv (Rx nlp);generalize upd AT l (Hv (as.map V.ref++[CA]))=H5 at R5 k5 bf;have cS:p∉as++[e]:=λz=>by
   rcases Qe.mp z with y|y
   ·exact bZ y
   exact nep (CT y).symm
  have iL:∀a∈as++[e],H a=none:=λa ha=>by
   rcases Qe.mp ha with y|y
   ·exact cH a y
   rw[Qc.mp y];exact feH
  have ce:(rr++[[]]).length=i+1:=by rw[Qm,bM];rfl
  have stop:∀(x3 x4:Option V) (b' m':Int) (H':Hp),Q2 m'→NAt H' l (as++[e]) (rr++[[]])→Keep [p] H H'→Aj3 (Ex2 λy3 y4=>[O8,Tx n,Ix,x3,x4]=[O8,Tx n,Ix,y3,y4]) (Keep [p] H H') (Ex4 λ(as:Nl) (rr:List Sg) (b' m':Int)=>V0 (rr.length=i+1) (Q2 m') (p∉as) (∀a∈as,H a=none)):=λx3 x4 b' m' H' df R' k'=>⟨⟨_,_,rfl⟩,k',_,_,b',m',R',new_N pZ,ce,df,cS,iL⟩;refine⟨xf,_,xf,rfl,xf,?_⟩;by_cases hi0:i=0
  ·exact zaw (Se Hc) (iteF (stop _ _ b3 m3 H5 bf R5 k5))
  refine za4 (Rh Hc) ?_;refine⟨xf,p,b3,m3,6,rfl,bf,Hg,Hg,λj6 b6 m6 H6 _ _ dO lU=>⟨_,_,rfl,rfl,_,rfl,?_⟩⟩;have k6:Keep [p] H H6:=k5.trans (yA lU);have dY:∀a∈as++[e],a≠p:=λa ha z=>cS (z▸ha);have R6:NAt H6 l (as++[e]) (rr++[[]]):=R5.keep (yA lU) Td λa ha=>by simpa using dY a ha
  cases decide (j6>0) with
  |false=>exact iteF (stop _ _ b6 m6 H6 dO R6 k6)
  |true=>
   refine iteT ?_;refine⟨xf,xf,p,b6,m6,xf,dO,Hc,Hc,λj7 b7 m7 H7 uS hj71 aN gJ=>?_⟩;obtain⟨ot,rfl⟩:=Zo uS;have qY:ot<rr.length:=by lia
   have k7:Keep [p] H H7:=k6.trans (yA gJ);have R7:NAt H7 l (as++[e]) (rr++[[]]):=R6.keep (yA gJ) Td λa ha=>by simpa using dY a ha
   have c9:as.length=rr.length:=R3.len;have pc:rr.length<(as++[e]).length:=by rw[Qm,c9];exact Wa _
   have hkR:rr.length<(rr++[[]]).length:=by rw[Qm];exact Wa _
   have a1:∀{c:Nat} (h:c<(as++[e]).length),atI ((as++[e]).map V.ref) (c:Int)=some (.ref (as++[e])[c]):=λh=>zav (by rw[Qo,Qb h];rfl);have ei:(0:Int)+(i:Int)=((rr.length:Nat):Int):=by lia
   have aX:=R7.row pc hkR;have e0:(rr++[[]])[rr.length]'hkR=[]:=by simp
   rw[e0]at aX;refine⟨xf,xf,l,_,_,.ref (as++[e])[rr.length],rfl,rfl,yQ,(by rw[ei];exact a1 pc),RI aX,xf,_,_,xf,rfl,aX,Hg,?_⟩;have k8:Keep [p] H (JE (as++[e])[rr.length] (Hv ([ot].map iV))):=λc u ec hc=>by rw[zaf (λz=>by rw[z,iL _ (Qq pc)]at ec;cases ec)];exact k7 c u ec hc
   have R8:=R7.set pc [ot];have mv:Pot (JE (as++[e])[rr.length] (Hv ([ot].map iV))) p b7 m7:=aN.keep (xs:=[(as++[e])[rr.length]]) Rv (Rx (dY _ (Qq pc)));rw[show List.map iV ([]:List Nat)++[V.int (ot:Int)]=[ot].map iV from rfl];generalize JE (as++[e])[rr.length] (Hv ([ot].map iV))=H8 at k8 R8 mv;have dB:ot<(as++[e]).length:=by lia
   have oO:ot<((rr++[[]]).set rr.length [ot]).length:=by rw[Jr];lia
   have dN:=R8.row dB oO;have e8:((rr++[[]]).set rr.length [ot])[ot]'(oO)=rr[ot]:=by rw[Xq Hc,List.getElem_append_left qY]
   rw[e8]at dN;have kC:rr[ot].length≤900:=by have:=zbs.rows pZ _ (zhp qY);rw[show(rsN rr).length=rr.length by unfold rsN;rw[List.length_map,List.length_range]]at this;exact Zn this Hc
   have hml8:(rr[ot].map iV).length=rr[ot].length:=Qa ..;refine⟨xf,xf,l,_,_,xf,rfl,SqL.of R8.ls,a1 dB,RI dN,xf,xf,xf,l,_,_,xf,rfl,SqL.of R8.ls,a1 dB,_,xf,Ss dN,_,xf,rfl,p,b7,m7,xf,mv,Hc,Hc,λj9 b9 m9 H9 uR hj91 hp9 sZ=>?_⟩;obtain⟨jn,rfl⟩:=Zo uR;have rj:jn≤rr[ot].length:=by lia
   have oB:=sZ _ _ dN (dY _ (Qq dB));refine⟨xf,_,_,_,jn,rfl,rfl,oB,Hc,Hc,?_⟩;have R9:NAt H9 l (as++[e]) ((rr++[[]]).set rr.length [ot]):=R8.keep (yA sZ) Td λa ha=>by simpa using dY a ha
   have e9:(rr[ot].map iV).take jn++V.int (0+(i:Int))::(rr[ot].map iV).drop jn=(rr[ot].take jn++rr.length::rr[ot].drop jn).map iV:=by rw[ei,Qp,Ql,Uk,Ju]
   rw[e9];refine⟨⟨_,xf⟩,λc u ec hc=>?_,as++[e],_,b9,m9,R9.set dB _,leaf_N pZ qY rj,by rw[Jr,Jr];exact ce,hp9.keep (xs:=[(as++[e])[ot]]) Rv (Rx (dY _ (Qq dB))),cS,iL⟩;rw[zaf (λz=>by rw[z,iL _ (Qq dB)]at ec;cases ec)];exact(k8.trans (yA sZ)) c u ec hc
 rintro σ H3 ⟨⟨x3,x4,rfl⟩,k3,as,rr,b3,m3,R3,pZ,bM,bE,bZ,cH⟩;have gS:(as.map V.ref).length=rr.length:=by rw[Qa];exact R3.len
 refine⟨xf,xf,l,xf,HL Cr,_,xf,rfl,xf,l,xf,HL Cr,_,xf,rfl,HL ⟨Hg,Hg⟩,_,xf,rfl,(He 3),λq hq=>?_⟩;have k4:Keep [] H3 (QX q Rk):=Keep.new hq;have qV:(QX q Rk) q=some Rk:=zad;have nqp:q≠p:=Zd (zab bE.1 hq);generalize QX q Rk=H4 at k4 qV;have c7:=bE.keep k4 Hb;refine⟨xf,p,b3,m3,3,rfl,c7,Hg,Hg,λj5 b5 m5 H5 kQ uU bf dZ=>?_⟩;have gO:=dZ _ _ qV nqp;obtain⟨v,hv,hv1,hv2,hv3⟩:∃v:Int,atI [Lz 1,Lz (((as.map V.ref).length:Int)+1),Lz (3*((as.map V.ref).length:Int)+1)] j5=some (SX v)∧0<v∧v≤121∧(rr.length=0→v=1):=by
  obtain⟨jn,rfl⟩:=Zo kQ;have:jn=0∨jn=1∨jn=2:=by lia
  rcases this with rfl|rfl|rfl
  ·exact⟨_,zav rfl,Hg,Hg,λ_=>rfl⟩
  ·exact⟨_,zav rfl,Hc,Hc,λz=>by lia⟩
  exact⟨_,zav rfl,Hc,Hc,λz=>by lia⟩
 refine⟨q,_,_,SX v,rfl,rfl,Hn gO,hv,p,b5,m5,v,rfl,bf,hv1,Hc,λj6 b6 m6 H6 uT hj61 dO lU=>?_⟩;have k6:Keep [p] H3 H6:=(k4.sub Hb).trans ((yA dZ).trans (yA lU));have nap:∀a∈as,a≠p:=λa ha z=>bZ (z▸ha);have R6:NAt H6 l as rr:=R3.keep k6 Td λa ha=>by simpa using nap a ha
 obtain⟨jn,rfl⟩:=Zo uT;refine⟨xf,Hc,Hc,?_⟩;refine zc8 (lo:=0) (λi σ H'=>Aj3 (Ex2 λx3 x4=>σ=[Hj p,Tx n,Ix,x3,x4]) (Keep [p] H H') (Ex3 λ(dW:List Sg) (b' m':Int)=>Aj4 (UR dW) (Good (rsN dW)) (dW.length=rr.length) (Q2 m')))
  ⟨⟨_,_,rfl⟩,LU k6,rr,b6,m6,R6,pZ,rfl,dO⟩ ?_ ?_
 ·rintro i σ H7 hi ⟨⟨y3,y4,rfl⟩,k7,dW,b7,m7,R7,vG,aR,aN⟩;refine⟨xf,xf,p,l,b7,m7,as,dW,rfl,aN,R7,vG,Hc,Hc,bZ,λb8 m8 rr8 H8 hl8 hG8 mv R8 k8=>?_⟩;refine⟨⟨_,xf⟩,λc u ec hc=>k8 c u (k7 c u ec hc) λz=>?_,rr8,b8,m8,R8,hG8,hl8.trans aR,mv⟩;rcases Qj.mp z with y|y
  ·exact hc (by rw[y];exact Qc.mpr rfl)
  rw[cH c y]at ec;cases ec
 rintro σ H7 ⟨⟨y3,y4,rfl⟩,k7,dW,b7,m7,R7,vG,aR,aN⟩;exact⟨xf,k l as dW b7 m7 H7 R7 vG Hc aN bZ hl cH k7⟩
end
end K21
namespace L2
open PySem PySem.Spec PyProof.Rows
theorem picks_to(cs:List Nat):∀b:Nat,b≤cs.length→(S1 b).filterMap (cs[·]?)=cs.take b
 |0,_=>by simp
 |b+1,h=>by rw[List.range_succ,List.filterMap_append,picks_to cs b Hc,Qk Hc];simp[Qb (show b<cs.length by lia)]
def indices_to{b n:Nat}(h:b≤n):XS (some (b:Int)) 1 n=List.range b:=by
 have:=PySem.StrLaws.strSliceIndices_plain (a:=0) (b:=b) (len:=n) Tq h;have e:XS (some (b:Int)) 1 n=PySem.Builtin.Str.strSliceIndices (RH ((0:Nat):Int)) (some (b:Int)) 1 n:=by unfold PySem.Builtin.Str.strSliceIndices;simp;rw[show max (0:Int) (min 0 (n:Int))=0 by lia]
 rw[e,this];simp
section
variable{X:Cx}
def sl_strP:SlR X (λx lo hi H Q=>Ex2 λ(z:Str) (j:Nat)=>Aj6 (x=.str z) (lo=none) (hi=some (j:Int)) (j≤z.length) (z.length≤sizeLine) (∀y:Str,y.cps.toList=z.cps.toList.take j→Q (Sw y) H)):=by
 intro a7 s σ H x v vl vu lo hi sl Q I rx hs pl pu h;obtain⟨z,j,rfl,rfl,rfl,hj,hz,q⟩:=h;obtain⟨t,rfl⟩:=rx;cases pl;cases pu;rename_i tj;have hi:=indices_to hj;have ad:z.cps.toList.length=z.length:=by simp[Str.length]
 refine⟨"str",_,PySem.F.slot_str_getitem.lookup,OU,wpAny_getItem_str_slice (l:=none) (u:=some ((j:Int),tj)) (st:=none) hs rfl ?_⟩;have e1:slicePicked z none (RH ((j:Int),tj)) none=List.range j:=hi;unfold sliceMade;rw[e1];split
 ·rename_i hc;have cA:j=z.length:=by simpa using hc
  exact⟨CO,H,I,⟨t,rfl⟩,q z (by rw[cA,←ad,List.take_length])⟩
 refine⟨?_,⟨Sw _,H,Sm,⟨_,rfl⟩,q _ ?_⟩⟩
 ·show ((S1 j).filterMap (z.cps[·]?)).toArray.size≤sizeLine;rw[Qt];exact Zn (List.length_filterMap_le ..) (by rw[Wy];exact Zn hj hz)
 show ((S1 j).filterMap (z.cps[·]?)).toArray.toList=_;rw[List.toList_toArray];have:=picks_to z.cps.toList j (Hm ad hj);rw[←this];simp
end
end L2
namespace K21
open PySem L2 Wb
abbrev sCount:Stmt:=top 29
abbrev sNames:Stmt:=top 30
def cntF(ls:List Nat):Nat→Nat→List Nat
 |0,_=>[]
 |f+1,n=>if n=0 then[] else cntF ls f ((n-1)/ls.length)++[ls.getD ((n-1)%ls.length) 0]
theorem cntF_zero(ls:List Nat):∀f,cntF ls f 0=[]
 |0=>rfl
 |_+1=>rfl
inductive IspCount(vs:List V)(H:Hp)(Q:VK):Prop
 |mk (n:Nat) (ls:Str) (h0:vs=[iV n,.str ls]) (h1:n≤1000) (h2:2≤ls.length) (h3:ls.length≤1000) (h4:∀z:Str,z.cps.toList=cntF ls.cps.toList n n→Q (.str z) H):IspCount vs H Q
def spCount:Sp:=λvs H Q _=>IspCount vs H Q
def str_len(z:Str):z.cps.toList.length=z.length:=by simp[Str.length]
def zjo(a b:Str):(a++b).cps.toList=a.cps.toList++b.cps.toList:=by show(a.cps++b.cps).toList=_;simp
def app_len(a b:Str):(a++b).length=a.length+b.length:=by rw[←str_len,←str_len,←str_len,zjo,Qm]
section
variable{P:Nk}{w:Nn}{K:Nb}{mg:Nh}{base:No}
def zis:zam ["_law_number", "_law_letters", "_law_name"] ["_law_number", "_law_letters"] (zaj sCount):=fsk
def ok_count(F:Z5 "_law_counted" "_law_counted" sCount f fd)(ad:RE):ZB 1 f fd ["_law_number", "_law_letters"] spCount:=by
 refine F.okL zis Hi;obtain⟨n,ls,rfl,hn,aj,cg,k⟩:=h;have aH:=sizeLine_eq;refine⟨_,zae (BH zis.nd za8)
  (zae (Fq (zv Sd)
   (zae (BH zis.nd (zat zfi (za9 ix_str Sf (Y9 (Mu Sd zai) (C5 Sn)) Hw) Sr))
   (zag (zaq 0 zis.nd (NW (Mu Sd zai) (C5 Sn))))))
  (zag (yk Sr))),?_⟩
 have kJ:=str_len ls;refine⟨λm σ H'=>Ex3 λ(c f:Nat) (z:Str)=>Aj6 (m=c) (σ=[Tx c,Li ls,Li z]) (H'=H) (c≤f) (KM f c++z.cps.toList=KM n n) (z.length+c≤n),
  ⟨n,n,n, "",rfl,rfl,rfl,HM,by simp;rfl,by show 0+n≤n;lia⟩,?_⟩
 rintro m σ H' ⟨c,f,z,rfl,rfl,rfl,hcf,he,cu⟩;refine⟨xf,_,xf,rfl,xf,?_⟩;by_cases h0:m=0
 ·subst h0;refine zaw (Se Hc) ?_;rw[cntF_zero]at he;exact⟨xf,k z he⟩
 refine za4 (Rh Hc) ?_;cases f with
 |zero=>lia
 |succ f=>
  have e1:(m:Int)-1=((m-1:Nat):Int):=by lia
  have uC:(m-1)%ls.length<ls.length:=My Hc;have hV:atI ls.cps.toList (((m:Int)-1)%(ls.length:Int))=some (ls.cps.toList.getD ((m-1)%ls.length) 0):=by rw[e1,←Int.natCast_emod];refine zav ?_;rw[Qx,Qb (Hm kJ uC)];rfl
  refine⟨_,λ σ' H' z=>z,?_⟩;refine⟨xf,xf,_,xf,rfl,xf,xf,Hc,_,xf,rfl,by show(0:Int)<(ls.length:Int);lia,_,_,xf,rfl,Hc,hV,xf,_,xf,rfl,by show 1+z.length≤sizeLine;lia,?_⟩;refine⟨xf,_,xf,rfl,xf,xf,Hc,_,xf,rfl,⟨Hc,Hc⟩,?_⟩;have e2:((m:Int)-1)/(ls.length:Int)=(((m-1)/ls.length:Nat):Int):=by rw[e1];exact(Int.natCast_ediv ..).symm
  have kM:(m-1)/ls.length≤m-1:=Nat.div_le_self _ _;rw[e2];refine⟨(m-1)/ls.length,Hc,(m-1)/ls.length,f,xf,rfl,rfl,Hc,?_,?_⟩
  ·rw[← he,zjo];show cntF _ f _++([_]++_)=(if m=0 then[] else KM f ((m-1)/ls.cps.toList.length)++[ls.cps.toList.getD ((m-1)%ls.cps.toList.length) 0])++_;rw[if_neg h0,kJ,Qz]
  rw[app_len];show 1+z.length+(m-1)/ls.length≤n;lia
def zcy(j:Nat):Str:=[("ab" : Str), "za", "xyz", "qn"].getD j "ab"
def nmF(way many first qm:Nat)(tl:List Nat)(k:Nat):List Nat:=
 if way=0∧many≤26 then[97+(first+qm*k)%676%26]
 else if way=1 then cntF (zcy (tl.length%4)).cps.toList (1+(first+qm*k)%97) (1+(first+qm*k)%97)
 else[97+(first+qm*k)%676/26,97+(first+qm*k)%676%26]++tl.take ((first+k)%(tl.length+1))
def cnt_nd:∀j<4,((S1 97).map λi=>cntF (zcy j).cps.toList (1+i) (1+i)).Nodup:=by decide+kernel
def cnt_ok:∀j<4,∀i<97,1≤(cntF (zcy j).cps.toList (1+i) (1+i)).length∧(cntF (zcy j).cps.toList (1+i) (1+i)).length≤8∧∀c∈cntF (zcy j).cps.toList (1+i) (1+i),97≤c∧c≤122:=by decide+kernel
def cnt_inj{j a b:Nat}(hj:j<4)(ha:a<97)(hb:b<97)(h:cntF (zcy j).cps.toList (1+a) (1+a)=cntF (zcy j).cps.toList (1+b) (1+b)):a=b:=by refine(Wm (h₀:=by rw[Qa,Wy];exact ha) (h₁:=by rw[Qa,Wy];exact hb) (cnt_nd j hj)).mp ?_;rw[Zp,Zp,Kq,Kq];exact h
def byS:List Nat:=[1,3,5,7,9,25,27,675]
def by_inj{b f a c:Nat}(hb:b∈byS)(ha:a<40)(hc:c<40)(h:(f+b*a)%676=(f+b*c)%676):a=c:=by simp[byS]at hb;rcases hb with rfl|rfl|rfl|rfl|rfl|rfl|rfl|rfl<;>omega
def by_inj97{b f a c:Nat}(hb:b∈byS)(ha:a<40)(hc:c<40)(h:(f+b*a)%97=(f+b*c)%97):a=c:=by simp[byS]at hb;rcases hb with rfl|rfl|rfl|rfl|rfl|rfl|rfl|rfl<;>omega
def by_inj26{b f a c:Nat}(hb:b∈byS)(ha:a<26)(hc:c<26)(h:(f+b*a)%676%26=(f+b*c)%676%26):a=c:=by simp[byS]at hb;rcases hb with rfl|rfl|rfl|rfl|rfl|rfl|rfl|rfl<;>omega
def nm_inj{way many f b a c:Nat}{tl:List Nat}(hb:b∈byS)(hm:many≤40)(ha:a<many)(hc:c<many)(h:YA a=YA c):a=c:=by
 unfold nmF at h;split at h
 ·rename_i z;have h:97+(f+b*a)%676%26=97+(f+b*c)%676%26:=by injection h
  exact by_inj26 (f:=f) hb Hc Hc Hc
 split at h
 ·exact by_inj97 hb Hc Hc (cnt_inj Os Os Os h)
 rw[Yr,Yr,Yr,Yr]at h;injection h with h1 h2;injection h2 with h2 _;exact by_inj (f:=f) hb Hc Hc Hc
def nm_ok{way many f b k:Nat}{tl:List Nat}(ht:tl.length≤6)(hc:∀c∈tl,97≤c∧c≤122):1≤(YA k).length∧(YA k).length≤8∧∀c∈YA k,97≤c∧c≤122:=by
 unfold nmF;split
 ·refine⟨HM,by show 1≤8;decide,λc h=>?_⟩;rw[Qc.mp h];lia
 split
 ·exact cnt_ok _ Os _ Os
 refine⟨Hb,by simp[Za];lia,λc h=>?_⟩;rw[Yr,Yr,Jq,Qj,Qj]at h;rcases h with h|h|h
 ·lia
 ·lia
 exact hc c (Wh h)
def cnt_not:∀j<4,∀i<97,cntF (zcy j).cps.toList (1+i) (1+i)≠("nobody" : Str).cps.toList:=by decide+kernel
def nm_not{way many f b k:Nat}{tl:List Nat}(ht:∀ c t,tl=c::t→c=110):YA k≠("nobody" : Str).cps.toList:=by
 have e:("nobody" : Str).cps.toList=[110,111,98,111,100,121]:=rfl;unfold nmF;split
 ·rw[e];simp
 split
 ·exact cnt_not _ Os _ Os
 rw[e];intro h;rw[Yr,Yr,Jq]at h;injection h with _ h;injection h with _ h;cases tl with
 |nil=>simp at h
 |cons c t=>
  have:=ht c t rfl;cases hk:(f+k)%((c::t).length+1) with
  |zero=>rw[hk]at h;simp at h
  |succ n=>rw[hk,List.take_succ_cons]at h;injection h with h _;lia
inductive IspNames(vs:List V)(H:Hp)(Q:VK):Prop
 |mk (p:Nc) (b m:Int) (n:Nat) (h0:vs=[.ref p,iV n]) (h1:Pot H p b m) (h2:n≤40) (h3:∀(l:Nc) (zs:Ng) (b' m':Int) (H':Hp),H' l=some (.lst (zs.map V.str))→zs.length=n→zs.Nodup→(∀z∈zs,zbf z∧z ≠ "nobody")→Pot H' p b' m'→H l=none→Keep [p] H H'→Q (.ref l) H'):IspNames vs H Q
def spNames:Sp:=λvs H Q _=>IspNames vs H Q
def zc1:zam [qP,qM, "_law_letters", "_law_first", "_law_by", "_law_tail", "_law_way", "_law_found", "_law_k", "_law_at", "_law_name"] [qP,qM] (zaj sNames):=fsk
def ok_names(F:Z5 "_law_names" "_law_names" sNames f fd)(FT:LA)(bT:QH fdt [qP,qM] [])(mT:mg qG=some PH)(GT:ZB 1 ft fdt [qP,qM] zeq)(FC:Z5 "_law_counted" "_law_counted" sCount fc fdc)(bC:QH fdc ["_law_number", "_law_letters"] [])(mC:mg "_law_counted" = some (Hf fc))(GC:ZB 1 fc fdc ["_law_number", "_law_letters"] spCount)(ad:RE)(bX:mg "range" = none):ZB 2 f fd [qP,qM] spNames:=by
 refine F.okL zc1 Hi;obtain⟨p,b,m,n,rfl,hp,hn,k⟩:=h;have aH:=sizeLine_eq;refine⟨_,zae (BH zc1.nd za8)
  (zae (B8 zc1.nd Lo)
  (zae (BI zc1.nd (Lu (zay (QO (QO (QO (QO (QO (QO (QO OQ)))))))) Lo))
  (zae (DE zc1.nd (zbr sl_strP za8 zbx (zb3 Lo)))
  (zae (DF zc1.nd Lo)
  (zae (zaq 7 zc1.nd SM)
  (zae (QS (BX Sn) (za7 8 zc1.nd)
   (zae (zaq 9 zc1.nd OD)
   (zag (zbu (PW.pt (DY (zi3 (zan op_le Sf zai Sq))))
    (zag (Ln O1 (RG (KU Hw))))
    (zag (zbu (UM Sq)
     (zag (za5 (QB O1 (OG (zao GC hr rfl mC FC.kp bC .nil zbb (zaa (WM zai OD) (RG (Lu (zay (WV (WV (WV (WV zac))))) (Y9 (Vd Ho ad Zl Al) zai)))))))))
     (zae (zaq 10 zc1.nd (zat zfi (za9 ix_str Sr (NW (pv 9) zai) Hw) (KU Hw)))
     (zag (Ln O1 (RG (zat zfi (pv 10) (zbr sl_strP EB zbx (zb3 (Y9 (WM (pv 3) (pv 8)) (OF (C5 Al))))))))))))))))
  (zag (yk O1)))))))),?_⟩
 refine⟨xf,p,b,m,676,rfl,hp,Hg,Hg,λd1 b1 m1 H1 gF rH cT lV=>?_⟩;refine⟨(He 8),λq hq=>?_⟩;have k2:Keep [p] H (QN q Rl):=(yA lV).trans Ez;have ap:Pot (QN q Rl) p b1 m1:=cT.keep (xs:=[]) Ez Hb;have cQ:(QN q Rl) q=some Rl:=zad;have nqp:q≠p:=Zd (zab cT.1 hq);generalize QN q Rl=H2 at k2 ap cQ;obtain⟨f,rfl⟩:=Zo gF;refine⟨xf,p,b1,m1,8,rfl,ap,Hg,Hg,λd3 b3 m3 H3 h30 h31 bE qB=>?_⟩;have hq3:=qB _ _ cQ nqp;have k3:=k2.trans (yA qB);obtain⟨bb,hV,rC⟩:∃bb:Nat,atI [Lz 1,Lz 3,Lz 5,Lz 7,Lz 9,Lz 25,Lz 27,V.int 675] d3=some (iV bb)∧bb∈byS:=by
  obtain⟨jn,rfl⟩:=Zo h30;have hj:jn<8:=by lia
  have:∀j:Fin 8,∃bb∈byS,[Lz 1,Lz 3,Lz 5,Lz 7,Lz 9,Lz 25,Lz 27,V.int 675][j.1]?=some (iV bb):=by decide
  obtain⟨bb,h1,h2⟩:=this ⟨jn,hj⟩;exact⟨bb,zav h2,h1⟩
 have hbb2:bb≤675:=by
  have:∀x∈byS,x≤675:=by decide
  exact this bb rC
 refine⟨q,_,_,iV bb,rfl,rfl,Hn hq3,hV,?_⟩;refine⟨xf,p,b3,m3,7,rfl,bE,Hg,Hg,λd4 b4 m4 H4 h40 h41 c7 nK=>?_⟩;obtain⟨j4,rfl⟩:=Zo h40;have k4:=k3.trans (yA nK);refine⟨xf,_,j4,rfl,rfl,rfl,by show j4≤6;lia,Hg,λtl gM=>?_⟩;have tV:tl.cps.toList.length≤6:=by rw[gM,Za];lia
 have tU:∀c∈tl.cps.toList,97≤c∧c≤122:=λc hc=>by
  rw[gM]at hc;have:∀x∈("nqxbkw" : Str).cps.toList,97≤x∧x≤122:=by decide+kernel
  exact this c (Wh hc)
 have tW:∀c t,tl.cps.toList=c::t→c=110:=λc t ht=>by
  rw[gM]at ht;cases j4 with
  |zero=>cases ht
  |succ j=>rw[show("nqxbkw" : Str).cps.toList=110::[113,120,98,107,119] from rfl,List.take_succ_cons]at ht;injection ht with h _;exact h.symm
 have oq:=str_len tl;refine⟨xf,p,b4,m4,3,rfl,c7,Hg,Hg,λd5 b5 m5 H5 rG vJ bf dZ=>?_⟩;obtain⟨wy,rfl⟩:=Zo rG;have k5:=k4.trans (yA dZ);refine⟨TY,λl hl=>?_⟩;have k6:Keep [p] H (Q4 l HP):=k5.trans EC;have nlp:l≠p:=Zd (zab bf.1 hl);have flH:H l=none:=zap k5 hl Td;have dO:Pot (Q4 l HP) p b5 m5:=bf.keep (xs:=[]) EC Hb;have rh:(Q4 l HP) l=some (Hv (([]:List Str).map V.str)):=zad;generalize Q4 l HP=H6 at k6 dO rh;refine⟨xf,(n:Int),rfl,Hc,Hc,?_⟩;rw[Ul];refine zc8 (lo:=0) (λi σ H'=>Aj4 (Ex3 λx8 x9 ng=>σ=[Hj p,Tx n,Li zdu,Tx f,Tx bb,Li tl,Tx wy,Ix,x8,x9,ng]) (Keep [p] H H') (Pot H' p b5 m5) (Ex1 λzs:List Str=>Aj2 (H' l=some Ol) (zs.map (·.cps.toList)=(S1 i).map ID)))
  ⟨⟨_,_,_,rfl⟩,k6,dO,[],rh,rfl⟩ ?_ ?_
 ·rintro i σ H7 hi ⟨⟨x8,x9,ng,rfl⟩,k7,aN,zs,aR,fE⟩;have cu:zs.length=i:=by have:=congrArg List.length fE;rwa[Qa,Qa,Wy]at this
  have fin:∀(y8 y9 y10:Option V) (z:Str) (H8:Hp),Keep [] H7 H8→z.cps.toList=X8 tl.cps.toList i→Aj4 (Ex3 λx8 x9 ng=>[O8,Tx n,Li zdu,Tx f,Tx bb,Li tl,Tx wy,Ix,y8,y9,y10]=[O8,Tx n,Li zdu,Tx f,Tx bb,Li tl,Tx wy,Ix,x8,x9,ng]) (Keep [p] H (JD l (Hv (zs.map V.str++[CO])))) (Pot (JD l (Hv (zs.map V.str++[CO]))) p b5 m5) (Ex1 λgG:List Str=>Aj2 ((JD l (Hv (zs.map V.str++[CO]))) l=some (Hv (gG.map V.str))) (gG.map (·.cps.toList)=(S1 HY).map ID)):=λy8 y9 y10 z H8 k8 hz=>⟨⟨_,_,_,rfl⟩,λc u ec hc=>by rw[zaf (JT flH)];exact k8 _ _ (k7 c u ec hc) Hb,(aN.keep k8 Hb).keep (xs:=[l]) Rv (Rx nlp),zs++[z],by rw[zad,Qp];rfl,by rw[Qp,fE,List.range_succ,Qp,Ql,Ql,hz];rfl⟩;have e9:((f:Int)+(bb:Int)*(0+(i:Int)))%676=(((f+bb*i)%676:Nat):Int):=by rw[Int.zero_add,←Int.natCast_mul,←Int.natCast_add];rfl
  have e97:((f:Int)+(bb:Int)*(0+(i:Int)))%97=(((f+bb*i)%97:Nat):Int):=by rw[Int.zero_add,←Int.natCast_mul,←Int.natCast_add];rfl
  refine⟨xf,xf,xf,_,xf,rfl,HL ⟨Hc,Hc⟩,_,xf,rfl,_,xf,rfl,Hg,?_⟩;rw[e9];have hat6:(f+bb*i)%676<676:=My Hg;have uE:(((f+bb*i)%676:Nat):Int)%26=(((f+bb*i)%676%26:Nat):Int):=rfl;have jl:KJ ((((f+bb*i)%676:Nat):Int)%26)=some (97+(f+bb*i)%676%26):=by rw[uE];exact letter_at Hc Hc
  refine⟨xf,rfl,xf,?_⟩;have bU:(zs.map V.str).length<sizeLine:=by rw[Qa];lia
  by_cases hA:wy=0∧n≤26
  ·refine za4 (Rh (by rw[hA.1];rfl)) ⟨_,rfl,_,_,rfl,rfl,_,rfl,za4 (Rh Hc) ?_⟩;refine⟨xf,RI aR,xf,xf,_,xf,rfl,Hg,_,_,xf,rfl,zeh,jl,l,_,xf,rfl,aR,bU,?_⟩;exact fin _ _ _ _ H7 Keep.refl (by unfold nmF;rw[if_pos hA])
  have hc:(wy=0∧¬n≤26)∨wy≠0:=by lia
  rcases hc with⟨hw,hn26⟩|hw;refine za4 (Rh (by rw[hw];rfl)) ⟨_,rfl,_,_,rfl,rfl,_,rfl,zaw (Se Hc) ?_⟩
  rotate_left
  refine zaw (decide_eq_false (λz=>hw (by injection z;lia))) (iteF ?_)
  all_goals
   refine⟨xf,rfl,xf,?_⟩;by_cases h1:wy=1
   ·refine za4 (Rh (by rw[h1];rfl)) ?_;refine⟨xf,RI aR,xf,xf,xf,_,xf,rfl,HL ⟨Hc,Hc⟩,_,xf,rfl,_,xf,rfl,Hg,_,xf,rfl,(He 4),λq8 hq8=>?_⟩;have uW:tl.length%4<4:=My Hg;have vq:atI [V.str "ab",V.str "za",V.str "xyz",V.str "qn"] ((tl.length:Int)%4)=some (Sw (zcy (tl.length%4))):=by
     rw[show(tl.length:Int)%4=((tl.length%4:Nat):Int) from rfl];have:∀j:Fin 4,[V.str "ab",V.str "za",V.str "xyz",V.str "qn"][j.1]?=some (Sw (zcy j.1)):=by decide
     exact zav (this ⟨_,uW⟩)
    have jm:∀j<4,2≤(zcy j).length∧(zcy j).length≤1000:=by decide+kernel
    have k8:Keep [] H7 (JE q8 (.lst [.str "ab",.str "za",.str "xyz",.str "qn"])):=Keep.new hq8;refine⟨xf,tl,rfl,Hc,_,xf,rfl,Hg,q8,_,_,Sw (zcy (tl.length%4)),rfl,rfl,Ef,vq,1+(f+bb*i)%97,zcy (tl.length%4),by rw[e97];rfl,by have:=Jb (f+bb*i) (show 0<97 by decide);lia,(jm _ uW).1,(jm _ uW).2,λz hz=>?_⟩;refine⟨l,_,xf,rfl,k8 _ _ aR Hb,bU,?_⟩;exact fin _ _ _ z _ k8 (by unfold nmF;rw[if_neg hA,if_pos h1,oq];exact hz)
   refine zaw (decide_eq_false (λz=>h1 (by injection z;lia))) ?_;have uH:KJ ((((f+bb*i)%676:Nat):Int)/26)=some (97+(f+bb*i)%676/26):=by rw[show(((f+bb*i)%676:Nat):Int)/26=(((f+bb*i)%676/26:Nat):Int) from rfl];exact letter_at Hc Hc
   refine⟨xf,xf,_,xf,rfl,⟨Hg,Hg⟩,_,_,xf,rfl,zeh,uH,xf,xf,_,xf,rfl,Hg,_,_,xf,rfl,zeh,jl,_,xf,rfl,by show 1+1≤sizeLine;decide,?_⟩;have hjm:(f+i)%(tl.length+1)<tl.length+1:=My (Nat.succ_pos _);refine⟨xf,RI aR,xf,xf,xf,xf,_,xf,rfl,xf,tl,rfl,Hc,_,xf,rfl,_,xf,rfl,by show(0:Int)<(tl.length:Int)+1;lia,xf,tl,(f+i)%(tl.length+1),rfl,rfl,by rw[Int.zero_add];rfl,Hc,Hc,λy hy=>?_⟩;have qD:y.length≤6:=by rw[←str_len,hy,Za];lia
   refine⟨_,xf,rfl,by rw[app_len];show 1+1+y.length≤sizeLine;lia,l,_,xf,rfl,aR,bU,?_⟩;exact fin _ _ _ _ H7 Keep.refl (by unfold nmF;rw[if_neg hA,if_neg h1,zjo,zjo,hy,oq];rfl)
 rintro σ H7 ⟨⟨x8,x9,ng,rfl⟩,k7,aN,zs,aR,fE⟩;have cu:zs.length=n:=by have:=congrArg List.length fE;rwa[Qa,Qa,Wy]at this
 refine⟨xf,k l zs b5 m5 H7 aR cu ?_ (λz hz=>?_) aN flH k7⟩
 ·refine nodup_of_map (f:=λz:Str=>z.cps.toList) ?_;rw[fE];exact zgz λa ha c hc h=>nm_inj rC hn ha hc h
 have:z.cps.toList∈(S1 n).map ID:=by rw[← fE];exact Qf.mpr ⟨z,hz,rfl⟩
 obtain⟨j,_,e⟩:=Qf.mp this;have:=nm_ok (way:=wy) (many:=n) (f:=f) (b:=bb) (k:=j) tV tU;rw[e]at this;have dh:=nm_not (way:=wy) (many:=n) (f:=f) (b:=bb) (k:=j) tW;rw[e]at dh;exact⟨⟨by rw[←str_len];exact this.1,by rw[←str_len];exact this.2.1,this.2.2⟩,λz=>dh (by rw[z])⟩
end
end K21
namespace Wb
section
variable{α β:Type}[DecidableEq α][DecidableEq β]{ns:List α}{r:α→List α}{cs:List (List (α×α))}{f:α→β}
theorem idx_map(hf:∀x y,f x=f y→x=y)(w:α):∀zs:List α,(Sy f).idxOf (f w)=zs.idxOf w
 |[]=>rfl
 |a::t=>by
  rw[Ql,List.idxOf_cons,List.idxOf_cons,idx_map hf w t];by_cases h:a=w
  ·rw[h,beq_self_eq_true,beq_self_eq_true]
  rw[beq_eq_false_iff_ne.mpr h,beq_eq_false_iff_ne.mpr λe=>h P9]
def nxt_map(hf:∀x y,f x=f y→x=y)(zs:List α)(w:α):nxt (Sy f) (f w)=f (XQ w):=by unfold nxt;rw[idx_map hf,Qa,Qx,Qx,Qo];cases zs[(zs.idxOf w+1)%zs.length]?<;>rfl
def lk_map{γ δ:Type}{F:γ→γ}{G:δ→δ}{g:γ→δ}{e:γ}:∀{t:List γ} {s:γ},(∀y,y=s∨y∈t→G (g y)=g (F y))→Lk F s t e→Lk G (g s) (t.map g) (g e):=by
 intro t;induction t with
 |nil=>intro s h k;exact(h s RT).trans (congrArg g k)
 |cons a t ih=>intro s h k;exact⟨(h s RT).trans (congrArg g k.1),ih (λy hy=>h y (SK Pd)) k.2⟩
end
section
variable{α β:Type}[DecidableEq α][DecidableEq β]{ns:List α}{r:α→List α}{cs:List (List (α×α))}{f:α→β}{a9:α→α}{af:β→β}
def cert_mapL(hf:∀ x y,f x=f y→x=y)(C:QI a9){r':β→List β}(hr:∀ x,r' (f x)=(r x).map f)(fT:∀ y,(∀ x,y≠f x)→r' y=[])(hl:∀ x∈ns,af (f x)=f P6) :
  Cert (ns.map f) r' (cs.map λc=>c.map λs=>(IE,AF)) af:=by
 have hm:∀{y z},z∈r' y→∃x w,y=f x∧z=f w∧w∈r x:=λ{y z} h=>by
  by_cases hy:∃x,y=f x
  ·obtain⟨x,rfl⟩:=hy;rw[hr]at h;obtain⟨w,hw,rfl⟩:=Qf.mp h;exact⟨x,w,rfl,rfl,hw⟩
  rw[fT y λx e=>hy ⟨x,e⟩]at h;cases h
 have hb:∀{x w},w∈r x→f w∈r' (f x):=λh=>by rw[hr];exact Qf.mpr ⟨_,h,rfl⟩
 have hg:∀s t:α×α,(IE,AF)=(f t.1,f t.2)→s=t:=λs t e=>Km (hf _ _ (congrArg Prod.fst e)) (hf _ _ (congrArg Prod.snd e));have rg:∀{l:List α},l.Nodup→(Iy f).Nodup:=λnd=>Wx.mpr (nd.imp λh e=>h P9);have jw:(cs.map λc=>c.map λs=>(IE,AF)).flatten=cs.flatten.map λs=>(IE,AF):=List.map_flatten.symm;refine⟨rg C.nd,λy hy=>?_,λy=>?_,λy h=>?_,λx y h=>?_,?_,λs=>?_,λc hc=>?_,λx hx=>?_,λx y h=>?_,λx hx y hy e=>?_,λx hx=>?_⟩
 ·cases e:r' y with
  |nil=>rfl
  |cons z t=>obtain⟨x,w,rfl,_,hw⟩:=hm (y:=y) (z:=z) (Hm e Qd);exact absurd (Ob ⟨x,yr hw,rfl⟩) hy
 ·by_cases hy:∃ x,y=f x
  ·obtain⟨x,rfl⟩:=hy;rw[hr];exact rg (C.rn x)
  rw[fT y λx e=>hy ⟨x,e⟩];exact Zs
 ·obtain⟨x,w,e1,e2,hw⟩:=hm h;have:=hf _ _ (e1.symm.trans e2);subst this;exact C.ir _ hw
 ·obtain⟨a,w,rfl,rfl,hw⟩:=hm h;exact hb (Vf hw)
 ·rw[jw];exact Wx.mpr (C.cf.imp λh e=>h (hg _ _ e))
 ·rw[jw];constructor
  ·intro h;obtain⟨t,ht,rfl⟩:=Qf.mp h;exact hb ((zo t).mp ht)
  intro h;obtain⟨x,w,e1,e2,hw⟩:=hm h;exact Qf.mpr ⟨(w,x),(zo (w,x)).mpr hw,Km e2.symm e1.symm⟩
 ·obtain⟨c0,jA,rfl⟩:=Qf.mp hc;obtain⟨s,t,rfl,k⟩:=C.cy c0 jA;refine⟨(IE,AF),xf,lk_map (g:=λs:α×α=>(IE,AF)) (λy _=>?_) k⟩;show(f y.2,nxt (r' (f y.2)) (f y.1))=(f y.2,f (nxt (r y.2) y.1));rw[hr,nxt_map hf]
 ·obtain⟨x0,jb,rfl⟩:=Qf.mp hx;rw[hl x0 jb];exact Qf.mpr ⟨_,C.ln x0 jb,rfl⟩
 ·obtain⟨a,w,rfl,rfl,hw⟩:=hm h;rw[hl w (El hw),hl a (yr hw),C.la a w hw]
 ·obtain⟨x0,jb,rfl⟩:=Qf.mp hx;obtain⟨y0,o4,rfl⟩:=Qf.mp hy;rw[hl x0 jb,hl y0 o4]at e;have:=C.co x0 jb y0 o4 P9;clear hy o4 e;induction this with
  |refl=>exact .refl
  |step _ hz ih=>exact .step ih (hb hz)
 obtain⟨x0,jb,rfl⟩:=Qf.mp hx;rw[hl x0 jb];have e1:wt (ns.map f) r' af (f Ii)=JC Ii:=by
  unfold wt;rw[Zc];refine zcu λx hx=>?_;show(if af (f x)=f Ii then _ else _)=_;rw[hl x hx,hr,Qa];by_cases h:a9 x=a9 x0
  ·rw[Sk (congrArg f h),Sk h];simp only[List.map_eq_nil_iff]
  rw[if_neg (λe=>h P9),if_neg h]
 have e2:ct (cs.map λc=>c.map λs=>(IE,AF)) af (f Ii)=YR Ii:=by
  unfold ct;rw[Zc];refine zcu λc hc=>?_;show(if(List.any (c.map λs=>(IE,AF)) λs=>decide (af s.1=f Ii))=true then _ else _)=_;rw[List.any_map];have:(c.any ((λs:β×β=>decide (af s.1=f Ii))∘λs=>(IE,AF)))=c.any λs=>decide (a9 s.1=a9 x0):=by
   rw[Yn,Yv,Yv];have aK:∀s∈c,s.1∈ns:=λs hs=>C.inn' ((zo s).mp (Om ⟨c,hc,hs⟩));constructor
   ·rintro⟨s,hs,e⟩;have e':=of_decide_eq_true e;have e':af IE=f Ii:=e';rw[hl _ (aK s hs)]at e';exact⟨s,hs,Rh (hf _ _ e')⟩
   rintro⟨s,hs,e⟩;have e':=of_decide_eq_true e;exact⟨s,hs,Rh (by show af IE=_;rw[hl _ (aK s hs),e'])⟩
  rw[this]
 rw[e1,e2];exact C.eu x0 jb
end
end Wb
namespace L2
open PySem PySem.Spec PyProof.Rows
section
variable{X:Cx}
theorem fm_some{β γ:Type}{f:β→Option γ}{g:β→γ}:∀{l:List β},(∀x∈l,f x=some (g x))→l.filterMap f=l.map g
 |[],_=>rfl
 |a::t,h=>by rw[List.filterMap_cons,h a Qd,Ql,fm_some λx hx=>h x Od]
def pick_rev(a8:Nj):slicePick a8.toArray none none (RH (-1))=a8.reverse.toArray:=by
 unfold slicePick sliceBounds;simp only[Option.getD_some,show ¬((-1:Int)>0) by decide,if_false,Qt];congr 1;unfold sliceRange;simp only[show ¬((-1:Int)>0) by decide,if_false];have hc:(if((a8.length:Int)-1) > -1 then(((a8.length:Int)-1) - -1 - -1-1)/(- -1) else 0).toNat=a8.length:=by
  split
  ·rw[show(- (-1:Int))=1 from rfl,Int.ediv_one];lia
  lia
 rw[hc,List.filterMap_map];have hk:∀k∈List.range a8.length,((a8.toArray[·]?)∘λ(k:Nat)=>(((a8.length:Int)-1)+-1*(k:Int)).toNat) k=some (a8.reverse.getD k .none):=λk hk=>by
  have hk:=Wg.mp hk;have e:(((a8.length:Int)-1)+-1*(k:Int)).toNat=a8.length-1-k:=by lia
  show a8.toArray[(((a8.length:Int)-1)+-1*(k:Int)).toNat]?=_;rw[e,List.getElem?_toArray,Qx,List.getElem?_reverse hk];rw[Qb Hc];rfl
 rw[fm_some hk];apply List.ext_getElem
 ·simp
 intro i h1 h2;have h3:i<a8.reverse.length:=h2;rw[Zp,Kq,Qx,Qb h3];rfl
def pe_rev(he:CU):Z7 zU (λ σ H Q=>te σ H λx H1=>Ex2 λa xs=>Aj3 (x=.ref a) (SqL X.K H1 a xs) (∀p,H1 p=none→Q TR Az)):=by intro a7 s σ H Q I h;refine Subscript_ (thn So λv s1 ⟨x,H1,I1,r1,a,xs,ex,hx,q⟩=>?_);subst ex;cases r1;refine wpAny_Slice (thn (zbx (X:=X) a7 s1 σ H1 (λo H'=>o=none∧H'=H1) I1 ⟨rfl,rfl⟩) λvl s2 ⟨l,H2,I2,pl,el,eh⟩=>?_);subst el;subst eh;refine thn (zbx (X:=X) a7 s2 σ H2 (λo H'=>o=none∧H'=H2) I2 ⟨rfl,rfl⟩) λvu s3 ⟨l,H3,I3,pu,el,eh⟩=>?_;subst el;subst eh;refine thn (zb3 (X:=X) (pe_un un_neg (zai (X:=X))) a7 s3 σ H3 (λo H'=>o=some (-1)∧H'=H3) I3 ⟨_,rfl,_,rfl,rfl,rfl⟩) λvs s4 ⟨l,H4,I4,ps,el,eh⟩=>?_;subst el;subst eh;have I5:ZA H4 {s4 with heap:=s4.heap.push {cls:=.type "slice",data:=.fields #[vl,vu,vs]}}:=I4.kept (t':=s4.toks) λb ob q=>QQ q;obtain⟨a8,r,ht,hz⟩:=I5.list hx;have ad:=r.length;show ZE (subscriptTail e Tl Rm zx) LJ X.xe {s4 with heap:=s4.heap.push {cls:=.type "slice",data:=.fields #[vl,vu,vs]}};refine tail_any (ops:=[Rm,zx]) ht.isList.typeIs slot_list_getitem.lookup ?_ (by with_unfolding_all rfl);refine KD (Heap.IsSliceOf.new ..) pl pu ps Hg ?_ (by rw[Qt]<;>exact zd9 ‹_› ‹_›);rw[pick_rev];refine⟨Hf _,_,I5.laid (t':=s4.toks) (o:=.lst xs.reverse) (λb ob q=>QQ q) HM ?_,rfl,q _ (I5.hok.fresh HM)⟩;exact⟨by rw[List.length_reverse];exact hz,_,0,r.reverse,Tc⟩
inductive RrDClear(x:V)(vs:List V)(H:Hp)(Q:VK):Prop
 |mk (a:Nc) (kvs:List (Key×V)) (h0:x=.ref a) (h1:vs=[]) (h2:H a=some (.dK kvs)) (h3:Q .non (upd H a (.dK []))):RrDClear x vs H Q
def rDClear:V→List V→Hp→VK→Prop:=λx vs H Q=>RrDClear x vs H Q
def mt_dclear:MtM X "dict.clear" rDClear:=by intro a7 s σ H x vs v us Q I rx rv h;obtain⟨a,kvs,rfl,rfl,e,q⟩:=h;cases rx;have tQ:=rv.zero;subst tQ;obtain⟨z,hd,vs,rel,dd⟩:=XJ e;refine call_meetsIn PySem.F.slot_dict_clear dd.typeIs PySem.F.entry_dict_clear (PySem.F.args_dict_clear_1 _) (meets_dict_clear Ta a) ⟨vs,dd,by rw[←rel.length];exact z,λh' dl hs=>?_⟩;have he:∃q,h'.get? a=some q:=let⟨q,_,_,hq,_⟩:=dl;⟨q,hq⟩;exact⟨.non,_,zfn (t':=s.toks) I (by rw[e];exact True.intro) hs he (dk_new (kvs:=[]) Tq hd .nil dl),rfl,q⟩
def lc_map{K:Nb}{g:TG}{te:TE}{Q:VK}{a:Nc}{τ:St}{H:Hp}{xs:List V}(T:St→Prop)(f:V→V)(ha:WU a xs)(hn:xs.length≤sizeLine)(h0:T τ)(hs:∀x∈xs,∀τ,T τ→∀k:V→St→Hp→Prop,(∀τ2,T τ2→k (f x) τ2 H)→g x τ H λ τ2 H2=>te τ2 H2 λy H4=>k y τ2 H4)(q:∀D,H D=none→Q Sv (TB D (xs.map f))):ML H:=by
 refine⟨λi m ys τ H1=>Aj5 (H1=H) (T τ) (m=xs.length-i) (i≤xs.length) (ys=(EE i).map f),⟨_,rfl,h0,rfl,Tq,rfl⟩,?_⟩;rintro i m ys τ H1 ⟨rfl,ht,rfl,hi,rfl⟩;by_cases ae:i<xs.length
 ·refine .inr ⟨⟨xs,xs[i],ha,Qb ae⟩,by rw[Qa,Za];lia,?_⟩;rintro x H' ⟨rfl,hx⟩;have bh:=hx xs ha;rw[Qb ae]at bh;have iq:xs[i]=x:=Qn bh;refine hs x (iq▸Qq ae) τ ht (λy τ2 H4=>∃m',m'<xs.length-i∧Aj5 (H4=H') (T τ2) (m'=xs.length-HY) (i+1≤xs.length) ((EE i).map f++[y]=(EE HY).map f)) λ τ2 h2=>?_;exact⟨_,Hy,rfl,h2,rfl,ae,by rw[Qk ae,Qp,iq];rfl⟩
 have e:i=xs.length:=by exact zar3 ‹_› ‹_›
 subst e;refine .inl ⟨⟨xs,ha,HM⟩,λD hD=>?_⟩;rw[Qr HM];exact q D hD
end
end L2
namespace K21
open PySem L2 Wb
def zh0{α β:Type}{R:α→β→Prop}{as:List α}{bs:List β}(h:WE as bs):WE as.reverse bs.reverse:=by
 induction h with
 |nil=>exact .nil
 |cons h t ih=>rw[Ky,Ky];exact zal ih (Su h)
end K21
namespace Wb
def zbo(zs:List PySem.Str)(k:Nat):PySem.Str:=zs.getD k ⟨#[200+k]⟩
open K21 in
def nameN_inj{zs:List PySem.Str}(nd:zs.Nodup)(ok:∀ z∈zs,zbf z)(a b:Nat)(h:YF a=YF b):a=b:=by
 unfold zbo at h;rw[Qx,Qx]at h;have bad:∀(i j:Nat) (hi:i<zs.length),zs[i]≠(⟨#[200+j]⟩:PySem.Str):=λi j hi e=>by have:=(ok _ EA).2.2 (200+j) (Hm e Qd);lia
 by_cases ha:a<zs.length
 ·rw[Qb ha]at h;by_cases hb:b<zs.length
  ·rw[Qb hb]at h;exact(Wm nd).mp h
  rw[Us Hc]at h;exact absurd h (bad a b ha)
 rw[Us Hc]at h;by_cases hb:b<zs.length
 ·rw[Qb hb]at h;exact absurd h.symm (bad b a hb)
 rw[Us Hc]at h;have h:(⟨#[200+a]⟩:PySem.Str)=⟨#[200+b]⟩:=h;have:200+a=200+b:=by have:=congrArg (λz:PySem.Str=>z.cps.toList) h;have:[200+a]=[200+b]:=this;injection this
 lia
def nameN_lt{zs:List PySem.Str}{k:Nat}(h:k<zs.length):YF k=zs[k]:=by unfold zbo;rw[Qx,Qb h];rfl
def rsZ(rr:List Sg)(zs:List PySem.Str):Rs PySem.Str:=(List.range rr.length).map λk=>(YF k,(rr.getD k []).map LW)
open K21 in
def good_Z{rr:List Sg}{zs:List PySem.Str}(hG:Good Cq)(nd:zs.Nodup)(ok:∀ z∈zs,zbf z):∃ cs a9,Cert ((List.range rr.length).map LW) (row (rsZ rr zs)) cs a9:=by
 obtain⟨cs,a9,C⟩:=hG;rw[zdt]at C;have inj:=nameN_inj nd ok;have hn:(rsZ rr zs).map (·.1)=(List.range rr.length).map LW:=by unfold rsZ;rw[List.map_map];rfl
 have bw:((rsZ rr zs).map (·.1)).Nodup:=by rw[hn];exact Wx.mpr (List.nodup_range.imp λh e=>h (inj _ _ e))
 refine⟨_,λy=>YF (a9 (((List.range rr.length).find? λk=>decide (YF k=y)).getD 0)),cert_mapL (f:=zbo zs) inj C (λx=>?_) (λy hy=>?_) λx hx=>?_⟩
 ·by_cases hx:x < rr.length
  ·rw[row_N hx];refine(zfu bw (p:=(YF x,(rr.getD x []).map LW)) (Ob ⟨x,Wg.mpr hx,rfl⟩)).trans ?_;rw[Qx,Qb hx];rfl
  rw[row_No hx];refine zeb ?_;rw[hn];intro z;obtain⟨y,hy,e⟩:=Qf.mp z;rw[inj _ _ e]at hy;exact hx (Wg.mp hy)
 ·refine zeb ?_;rw[hn];intro z;obtain⟨x,_,e⟩:=Qf.mp z;exact hy x e.symm
 show YF (a9 _)=_;have bh:x∈List.range rr.length:=hx;have:((List.range rr.length).find? λk=>decide (YF k=YF x))=some x:=by
  cases h:(List.range rr.length).find? λk=>decide (YF k=YF x) with
  |none=>exact absurd (Rh rfl) (List.find?_eq_none.mp h x bh)
  |some k=>have:=List.find?_some h;rw[inj _ _ (of_decide_eq_true this)]
 rw[this];rfl
end Wb
namespace K21
open PySem L2 Wb
abbrev sRows:Stmt:=top 35
abbrev sDrawn:Stmt:=top 36
inductive IspRowsD(vs:List V)(H:Hp)(Q:VK):Prop
 |mk (p l nl:Nc) (b m:Int) (as:Nl) (rr:List (List Nat)) (zs:Ng) (h0:vs=[.ref p,.ref l,.ref nl]) (h1:Pot H p b m) (h2:NAt H l as rr) (h3:Good (rsN rr)) (h4:rr.length≤40) (h5:H nl=some (.lst (zs.map V.str))) (h5':zs.length=rr.length) (h5n:zs.Nodup) (h5k:∀z∈zs,zbf z∧z ≠ "nobody") (bZ:p∉as)
  (h6:∀(t:Nc) (bs:Nl) (es:List Ent) (cs:List HQ) (a9:Nq) (b' m':Int) (H':Hp),NP t bs es→Cert HV HU cs a9→es.length≤40→(∀e∈es,zbf e.1∧e.1 ≠ "nobody")→(∀e∈es,H e.2.2=none)→Q2 m'→Keep [p] H H'→Q Lx H'):IspRowsD vs H Q
def spRowsD:Sp:=λvs H Q _=>IspRowsD vs H Q
def ndW:([qO,qN]:List Str).Nodup:=by decide+kernel
abbrev TurnZ(rr:List Sg)(zs:Ng):List Ent→List Nat→Prop:=Paired λe k=>e.1=YF k∧∃j,e.2.1=((rr.getD k []).map LW).drop j++((rr.getD k []).map LW).take j
def names_Z(h:Bt es ks):es.map (·.1)=ks.map LW:=by
 induction h with
 |nil=>rfl
 |cons h _ ih=>rw[Ql,Ql,ih,h.1]
def cert_Z{rr:List Sg}{zs:Ng}{es:List Ent}{ks:List Nat}(hG:Good Cq)(nd:zs.Nodup)(ok:∀z∈zs,zbf z)(h:Bt es ks)(hk:ks.Perm LV):∃cs a9,Cert HV HU cs a9:=by
 obtain⟨cs,a9,C⟩:=good_Z hG nd ok;refine⟨cs,a9,zdw C (by rw[names_Z h];exact hk.map _) ?_⟩;have e:rsZ rr zs=rsOf ((List.range rr.length).map λk=>((YF k,(rr.getD k []).map LW,0):Ent)):=by unfold rsZ rsOf;rw[List.map_map];rfl
 rw[e];refine zfb (es2:=ks.map λk=>((YF k,(rr.getD k []).map LW,0):Ent)) ?_ (hk.map _) ?_
 ·clear hk e;induction h with
  |nil=>exact .nil
  |cons h _ ih=>exact .cons h ih
 rw[Zc];exact Wx.mpr (List.nodup_range.imp λh e=>h (nameN_inj nd ok _ _ e))
section
variable{P:Nk}{w:Nn}{K:Nb}{mg:Nh}{base:No}
def zeu:zam [qP,qR,qN, "_law_rows_here", "_law_k", "_law_around", "_law_far"] [qP,qR,qN] (zaj sRows):=fsk
def ok_rows(F:Z5 "_law_rows" "_law_rows" sRows f fd)(FT:LA)(bT:QH fdt [qP,qM] [])(mT:mg qG=some PH)(GT:ZB 1 ft fdt [qP,qM] zeq)(ad:RE)(bX:mg "range" = none):ZB 2 f fd [qP,qR,qN] spRowsD:=by
 refine F.okL zeu Hi;obtain⟨p,l,nl,b,m,as,rr,zs,rfl,hp,R,hG,bM,r8,cu,cb,dM,bZ,k⟩:=h;have hu:=zb9 hr;have aH:=sizeLine_eq;refine⟨_,zae (B8 zeu.nd SM)
  (zae (QS (BX (RG Aj)) (za7 4 zeu.nd)
   (zae (ps_lc (i:=5) (M:=[qO,qN]) (ix:=[none,RH 2]) zeu.nd rfl rfl (mkB zeu) rfl (za6 (Lu Sf Ty)) (λC a7 ex s H=>UQ ndW)
      (λC a7 ex s H=>zbw) (λC a7 ex s H=>za9 (ix_listK (K:=K) rfl) Sf Sd Hw) rfl)
   (zae (yX (Tk Al))
   (zag (za5 (QB S0 (OG (zbz (zaa (Lu Sr Ty) (RG (Rp 5 6)))))))))))
  (zae (yX (Tk (QE zac)))
  (zae (B8 zeu.nd (Rp 3 6))
  (zae (Am (FZ Lo zai Sq) (zag (B8 zeu.nd (pe_rev S0))))
  (zag (yk S0)))))),?_⟩
 have nlp:=pot_l hp R;have nnp:nl≠p:=pot_ne hp r8;have nap:∀a∈as,a≠p:=λa ha z=>bZ (z▸ha);have gS:(as.map V.ref).length=rr.length:=by rw[Qa];exact R.len
 refine⟨TY,λt ht=>?_⟩;have k1:Keep [p] H (ZS t HP):=Keep.new ht;have ntp:t≠p:=Zd (Mz ht);have cT:Pot (ZS t HP) p b m:=hp.keep (xs:=[]) AM Hb;have fh:(ZS t HP) t=some (Hv (([]:List Addr).map V.ref)):=zad;generalize ZS t HP=H1 at k1 cT fh;have R1:∀{H':Hp},Keep [p] H H'→UR rr:=λkk=>R.keep kk Td λa ha=>by simpa using nap a ha
 have N1:∀{H':Hp},Keep [p] H H'→H' nl=some Ol:=λkk=>kk _ _ r8 (Hd nnp);refine⟨xf,l,xf,HL (SqL.of (R1 k1).ls),?_⟩;refine⟨xf,Hc,Hc,?_⟩;refine zc8 (lo:=0) (λi σ H'=>Aj3 (Ex3 λx4 x5 x6=>σ=[Hj p,Ix,Hj nl,Hj t,x4,x5,x6]) (Keep [p] H H') (Ex4 λ(bs:Nl) (es:List Ent) (b' m':Int)=>Aj5 (NP t bs es) (Bt es (S1 i)) (Q2 m') (∀e∈es,H e.2.2=none) (∀e∈es,e.2.2≠t)))
  ⟨⟨_,_,_,rfl⟩,k1,[],[],b,m,⟨fh,.nil,λe he=>by cases he⟩,.nil,cT,(λe he=>by cases he),(λe he=>by cases he)⟩ ?_ ?_
 ·rintro i σ H2 hi ⟨⟨x4,x5,x6,rfl⟩,k2,bs,es,b2,m2,W2,T2,ap,mz,kG⟩;have hi:i<rr.length:=by lia
  have pe:i<as.length:=by rw[R.len];exact hi
  have hR2:=R1 k2;have hN2:=N1 k2;have ak:=hR2.row pe hi;have dw:∀x∈rr[i],x<rr.length:=λx hx=>by have:=(zbs.sub _ hG _ (zhp hi)).2 x hx;rw[zdt]at this;exact Wg.mp this
  have kN:(rsN rr).length=rr.length:=by unfold rsN;rw[List.length_map,List.length_range]
  have hrl2:rr[i].length≤900:=by have:=zbs.rows hG _ (zhp hi);rw[kN]at this;exact Zn this Hc
  have a1:Fv (0+(i:Int))=some (.ref as[i]):=by rw[Int.zero_add];exact zav (by rw[Qo,Qb pe];rfl)
  have z1:∀{x:Nat},x<rr.length→KN (x:Int)=some (Sw (YF x)):=λ{x} hx=>zav (by rw[Qo,Qb Hc,nameN_lt Hc];rfl);have hg:rr.getD i []=rr[i]:=by rw[Qx,Qb hi];rfl
  refine⟨xf,xf,l,_,_,xf,rfl,SqL.of hR2.ls,a1,as[i],rfl,⟨_,SqL.of ak⟩,lc_map (xs:=rr[i].map iV) (λ τ=>∃x0,τ=[x0,some (.ref nl)]) (λx=>match x with | .int n=>.str (zbo zs n.toNat)|v=>v) (SqL.of ak) (by rw[Qa];lia) ⟨none,rfl⟩ ?_ (λar har=>?_)⟩
  ·rintro x hx τ ⟨x0,rfl⟩ kk hk;obtain⟨z,hz,rfl⟩:=Qf.mp hx;exact⟨xf,xf,nl,_,_,xf,rfl,Hn hN2,z1 (dw z hz),hk _ ⟨xf⟩⟩
  have emap:(rr[i].map iV).map (λx=>match x with | .int n=>.str (zbo zs n.toNat)|v=>v)=(rr[i].map (zbo zs)).map V.str:=by rw[Zc,Zc];rfl
  rw[emap];have kJ:(rr[i].map LW).length=rr[i].length:=Qa ..;generalize eu:rr[i].map LW=ru at kJ;generalize sF:Q3 ar _=H3;obtain⟨k3,lu⟩:=nwk har sF;have bE:=ap.keep k3 Hb;have aA:(ru.map V.str).length=ru.length:=Qa ..;refine⟨xf,xf,ar,xf,Ss lu,_,xf,rfl,p,b2,m2,xf,bE,Hc,Hc,λj4 b4 m4 H4 kR uV c7 nK=>?_⟩;have k4:=zau nK;obtain⟨j,rfl⟩:=Zo kR;have hj:j≤ru.length:=by lia
  have lq:=k4 _ _ lu (by simpa using pot_ne bE lu);have cC:Keep [p] H H4:=(Co (k3.sub Hb)).trans k4;have W4:RwAt H4 t bs es:=⟨k4 _ _ (k3 _ _ W2.ls Hb) (Hd ntp),Paired.imp' (λa e h=>k4 _ _ (Cp h) (by simpa using Ny ap.1 Hh)) W2.ts,λe he=>k4 _ _ (Cp (Ge he)) (by simpa using pot_ne ap (Ge he))⟩;refine⟨xf,.inl ⟨rfl,_,SqL.of W4.ls⟩,xf,xf,nl,_,_,xf,rfl,Hn (N1 cC),by rw[Int.zero_add];exact z1 hi,xf,xf,xf,ar,xf,Hn lq,λq1 h1=>?_⟩;have n1:ar≠q1:=zab lq h1;refine⟨xf,xf,xf,ar,xf,Hn (by rw[zaf n1];exact lq),λq2 h2=>?_⟩;have fq:q1≠q2:=zab (o:=_) zad h2;rw[zdl Cc,zhi Cc]at *;refine⟨q1,q2,_,xf,rfl,C7,zad,by rw[Yu,Za];lia,λq3 h3=>?_⟩;rw[←Ju,←Uk,←Qp]at *;have k5:Keep [] H4 (Pg ((ru.drop j).map V.str) ((ru.take j).map V.str) ((ru.drop j++ru.take j).map V.str)):=((Ht h1).trans C8).trans Ig;have gO:(Pg ((ru.drop j).map V.str) ((ru.take j).map V.str) ((ru.drop j++ru.take j).map V.str)) q3=some (Hv ((ru.drop j++ru.take j).map V.str)):=zad;have f3:H4 q3=none:=zap ((Keep.new (xs:=[]) h1).trans C8) h3 Hb;generalize upd (Lr ((ru.drop j).map V.str) ((ru.take j).map V.str)) q3 (Hv ((ru.drop j++ru.take j).map V.str))=H5 at k5 gO;have nq3t:q3≠t:=Zd (zab W4.ls f3);have fq3:H q3=none:=zap cC f3 (Rx (zab c7.1 f3));refine⟨LE,λc hc=>?_⟩;have k6:Keep [] H4 (Q4 c (.tup [Pp,Hf q3])):=k5.trans (Ht hc);have eS:(Q4 c (.tup [Pp,Hf q3])) c=some (.tup [Pp,Hf q3]):=zad;have oF:(Q4 c (.tup [Pp,Hf q3])) q3=some (Hv ((ru.drop j++ru.take j).map V.str)):=by rw[zaf (AK gO hc)];exact gO
  generalize Q4 c (.tup [Pp,Hf q3])=H6 at k6 eS oF;have W6:=W4.keep k6;have gz:bs.length=i:=by rw[Zh W6.ts,Zh T2,Wy]
  refine⟨t,_,xf,rfl,W6.ls,SJ,?_⟩;have tupt:∀{a:Nc} {xs:List V},H6 a=some SV→a≠t:=λ{a xs} e=>Ga W6.ls Hh;have kt:Keep [p] H (BU t (Hv (bs.map V.ref++[V.ref c]))):=λa u ea ha=>by rw[zaf (AK ea ht)];exact k6 _ _ (cC a u ea ha) Hb
  refine⟨⟨_,_,xf⟩,kt,bs++[c],es++[(YF i,ru.drop j++ru.take j,q3)],b4,m4,⟨by rw[zad,Qp];rfl,?_,λe' he=>?_⟩,?_,(c7.keep k6 Hb).keep (xs:=[t]) Rv (Rx ntp),λe' he=>?_,λe' he=>?_⟩
  ·exact zal (Paired.imp' (λa e h=>by rw[zaf (tupt h)];exact h) W6.ts) (Su (Hq (tupt eS) eS))
  ·rcases Qe.mp he with z|z
   ·rw[zaf (kG e' z)];exact W6.ro e' z
   rw[Qc.mp z];exact(zaf nq3t).trans oF
  ·rw[List.range_succ];exact zal T2 (.cons ⟨rfl,j,by rw[hg,eu]⟩ .nil)
  ·rcases Qe.mp he with z|z
   ·exact mz e' z
   rw[Qc.mp z];exact fq3
  rcases Qe.mp he with z|z
  ·exact kG e' z
  rw[Qc.mp z];exact nq3t
 rintro σ H2 ⟨⟨x4,x5,x6,rfl⟩,k2,bs,es,b2,m2,W2,T2,ap,mz,kG⟩;have T2:Bt es LV:=by rw[gS]at T2;exact T2
 have mH:es.length=rr.length:=by rw[Zh T2,Wy]
 have gz:bs.length=rr.length:=by rw[Zh W2.ts,mH]
 have aA:(bs.map V.ref).length=rr.length:=by rw[Qa];exact gz
 refine⟨xf,xf,t,xf,HL (SqL.of W2.ls),_,xf,rfl,p,b2,m2,xf,ap,Hc,Hc,λj4 b4 m4 H4 kR uV c7 nK=>?_⟩;have k4:=zau nK;obtain⟨j,rfl⟩:=Zo kR;have hj:j≤rr.length:=by lia
 have cC:Keep [p] H H4:=k2.trans k4;have W4:RwAt H4 t bs es:=⟨k4 _ _ W2.ls (Hd ntp),Paired.imp' (λa e h=>k4 _ _ h (by simpa using Ny ap.1 Hh)) W2.ts,λe he=>k4 _ _ (Ge he) (by simpa using pot_ne ap (Ge he))⟩;refine⟨xf,xf,xf,t,xf,SqL.of W4.ls,λq1 h1=>?_⟩;have n1:t≠q1:=zab W4.ls h1;refine⟨xf,xf,xf,t,xf,Hn (by rw[zaf n1];exact W4.ls),λq2 h2=>?_⟩;have fq:q1≠q2:=zab (o:=_) zad h2;rw[zdl Cc,zhi Cc]at *;refine⟨q1,q2,_,xf,rfl,C7,zad,by rw[Yu,Za];lia,λq3 h3=>?_⟩;rw[←Ju,←Uk,←Qp]at *;have k5:Keep [] H4 (Pg ((bs.drop j).map V.ref) ((bs.take j).map V.ref) ((bs.drop j++bs.take j).map V.ref)):=((Ht h1).trans C8).trans Ig;have gO:(Pg ((bs.drop j).map V.ref) ((bs.take j).map V.ref) ((bs.drop j++bs.take j).map V.ref)) q3=some (Hv ((bs.drop j++bs.take j).map V.ref)):=zad;generalize upd (Lr ((bs.drop j).map V.ref) ((bs.take j).map V.ref)) q3 (Hv ((bs.drop j++bs.take j).map V.ref))=H5 at k5 gO;have W5:RwAt H5 q3 (bs.drop j++bs.take j) (es.drop j++es.take j):=⟨gO,by
  have:=(W4.keep k5).ts;exact zal (zgp j this) (zgo j this),λe he=>(W4.keep k5).ro e (by
   rcases Qe.mp he with z|z
   ·exact Wo z
   exact Wh z)⟩
 have T5:Bt (es.drop j++es.take j) ((List.range rr.length).drop j++(List.range rr.length).take j):=zal (zgp j T2) (zgo j T2);have P5:((List.range rr.length).drop j++(List.range rr.length).take j).Perm LV:=Ur.trans (by rw[Zr]);have f5:∀e∈es.drop j++es.take j,H e.2.2=none:=λe he=>mz e (by
   rcases Qe.mp he with z|z
   ·exact Wo z
   exact Wh z)
 have ce:(es.drop j++es.take j).length=rr.length:=by rw[Qm,Yu,Za];lia
 have bf:=c7.keep k5 Hb;have lZ:Keep [p] H H5:=cC.trans (k5.sub Hb);generalize es.drop j++es.take j=lG at W5 T5 f5 ce;generalize bs.drop j++bs.take j=bs5 at W5 gO;generalize(List.range rr.length).drop j++(List.range rr.length).take j=ks at T5 P5;have fin:∀(t':Nc) (hW:Nl) (es':List Ent) (sY:List Nat) (b' m':Int) (H':Hp),NP t' hW es'→Bt es' sY→sY.Perm LV→es'.length=rr.length→(∀e∈es',H e.2.2=none)→Q2 m'→Keep [p] H H'→Q (Hf t') H':=λt' hW es' sY b' m' H' W' T' P' hl' f' df k'=>by obtain⟨cs,a9,C⟩:=cert_Z hG cb (λz hz=>(dM z hz).1) T' P';refine k t' hW es' cs a9 b' m' H' W' C Hc (λe he=>?_) f' df k';have:e.1∈es'.map (·.1):=Qf.mpr ⟨e,he,rfl⟩;rw[names_Z T']at this;obtain⟨x,hx,ex⟩:=Qf.mp this;have hx:=Wg.mp (P'.mem_iff.mp hx);rw[←ex,nameN_lt Hc];exact dM _ (Qq _)
 refine⟨xf,p,b4,m4,2,rfl,bf,Hg,Hg,λj7 b7 m7 H7 h70 h71 aN gJ=>?_⟩;have k7:=zau gJ;have n3p:q3≠p:=zax gO bf.1 (by
  intro z;have z':bs5.map V.ref=[SX b4,SX m4]:=by injection z
  cases bs5 with
  |nil=>cases z'
  |cons a cr=>rw[Ql]at z';injection z' with z1 _;cases z1)
 have W7:RwAt H7 q3 bs5 lG:=⟨k7 _ _ W5.ls (Hd n3p),Paired.imp' (λa e h=>k7 _ _ h (by simpa using Ny bf.1 Hh)) W5.ts,λe he=>k7 _ _ (W5.ro e he) (by simpa using pot_ne bf (W5.ro e he))⟩;have lW:=lZ.trans k7;refine⟨rfl,xf,?_⟩;refine ite2 (λ_=>?_) (λ_=>?_)
 ·refine⟨_,rfl,q3,_,rfl,SqL.of W7.ls,λq4 h4=>?_⟩;have kn:Keep [] H7 (JE q4 (.lst (bs5.map V.ref).reverse)):=Keep.new h4;exact⟨xf,fin q4 bs5.reverse lG.reverse ks.reverse b7 m7 _ ⟨by rw[zad,List.map_reverse],zh0 (W7.keep kn).ts,λe he=>(W7.keep kn).ro e (Wl.mp he)⟩ (zh0 T5) ((Kx ks).trans P5) (by rw[List.length_reverse];exact ce) (λe he=>f5 e (Wl.mp he)) (aN.keep kn Hb) (lW.trans (kn.sub Hb))⟩
 exact⟨xf,fin q3 bs5 lG ks b7 m7 H7 W7 T5 P5 ce f5 aN lW⟩
inductive IspDrawnD(vs:List V)(H:Hp)(Q:VK):Prop
 |mk (p:Nc) (b m:Int) (h0:vs=[.ref p]) (h1:Pot H p b m)
  (h2:∀(t:Nc) (bs:Nl) (es:List Ent) (cs:List HQ) (a9:Nq) (b' m':Int) (H':Hp),NP t bs es→Cert HV HU cs a9→es.length≤40→(∀e∈es,zbf e.1∧e.1 ≠ "nobody")→Q2 m'→Keep [p] H H'→Q Lx H'):IspDrawnD vs H Q
def spDrawnD:Sp:=λvs H Q _=>IspDrawnD vs H Q
def scDrawn:zam [qP,qR] [qP] (zaj sDrawn):=fsk
def ok_drawn(F:Z5 "_law_drawn" "_law_drawn" sDrawn f fd)(FT:LA)(bT:QH fdt [qP,qM] [])(mT:mg qG=some PH)(GT:ZB 1 ft fdt [qP,qM] zeq)(FR:Z5 "_law_rounds" "_law_rounds" zit fr fdr)(bR:QH fdr [qP, "_law_most"] [])(mR:mg "_law_rounds" = some (Hf fr))(GR:ZB 4 fr fdr [qP, "_law_most"] spRoundsD)(FW:Z5 "_law_rows" "_law_rows" sRows fw fdw)(bW:QH fdw [qP,qR,qN] [])(mW:mg "_law_rows" = some (Hf fw))(GW:ZB 2 fw fdw [qP,qR,qN] spRowsD)(FN:Z5 "_law_names" "_law_names" sNames fn fdn)(bN:QH fdn [qP,qM] [])(mN:mg "_law_names" = some (Hf fn))(GN:ZB 2 fn fdn [qP,qM] spNames)(ad:RE):ZB 5 f fd [qP] spDrawnD:=by
 refine F.okL scDrawn Hi;obtain⟨p,b,m,rfl,hp,k⟩:=h;have aP:KL _:=hr.mono Hg;have bQ:Fs _:=hr.mono Hg;have aH:=sizeLine_eq;refine⟨_,zae (Mp scDrawn.nd (zao GR hr rfl mR FR.kp bR .nil zbb (ZK (RG (QG (zay (QO (QO (QO OQ)))) (Lp OQ) Hw)))))
  (zag (zaz (zao GW bQ rfl mW FW.kp bW .nil zbb (ZK (ZV (OG (NZ bN .nil zbb (Lq Aj)))))))),?_⟩
 refine⟨xf,(He 4),λq hq=>?_⟩;generalize ny:ZS q _=H1;obtain⟨k1,ji⟩:=nwk hq ny;have cT:=hp.keep k1 Hb;refine⟨xf,p,b,m,4,rfl,cT,Hg,Hg,λj2 b2 m2 H2 vK h21 ap iU=>?_⟩;obtain⟨j,rfl⟩:=Zo vK;have nqp:q≠p:=Zd (Mz hq);have cQ:=iU _ _ ji nqp;have k2:Keep [p] H H2:=(k1.sub Hb).trans (yA iU);have hj:j<4:=by lia
 obtain⟨n,hn,hV⟩:∃n:Nat,n≤40∧atI [Lz 12,SX 12,SX 16,SX 40] (j:Int)=some (iV n):=by
  have:∀j:Fin 4,[Lz 12,SX 12,SX 16,SX 40][j.1]?=some (iV ([12,12,16,40].getD j.1 0))∧[12,12,16,40].getD j.1 0≤40:=by decide
  exact⟨_,(this ⟨j,hj⟩).2,zav (this ⟨j,hj⟩).1⟩
 refine⟨q,_,_,xf,rfl,Hn cQ,hV,p,b2,m2,n,rfl,ap,hn,λl as rr b3 m3 H3 R3 hG bM bE bZ _ _ k3=>?_⟩;have gS:(as.map V.ref).length=rr.length:=by rw[Qa];exact R3.len
 refine⟨xf,xf,xf,xf,l,xf,HL Cr,p,b3,m3,rr.length,by rw[gS];rfl,bE,bM,λnl zs b4 m4 H4 r8 cu cb dM c7 _ k4=>?_⟩;have nlp:=pot_l bE R3;have R4:=R3.keep k4 Td λa ha z=>bZ (by rw[Qc]at z;exact z▸ha);exact⟨p,l,nl,b4,m4,as,rr,zs,rfl,c7,R4,hG,bM,r8,cu,cb,dM,bZ,λt bs es cs a9 b5 m5 H5 W C hl ok _ bf k5=>k t bs es cs a9 b5 m5 H5 W C hl ok bf (((Co k3).trans k4).trans k5)⟩
end
end K21
namespace K21
open PySem L2 Wb PySem.W
abbrev sLLeast:Stmt:=top 37
abbrev rot(zs:Ng)(j:Nat):List Str:=zs.drop j++zs.take j
def rot_lt{zs:Ng}(hz:zs≠[]){j:Nat}(h:j≤zs.length):∃i,∃hi:i<zs.length,KO j=KO i∧∃t,KO i=zs[i]::t:=by
 have hp:0<zs.length:=Ub.mpr hz;by_cases hj:j<zs.length
 ·exact⟨j,hj,rfl,zs.drop (j+1)++zs.take j,by unfold rot;rw[List.drop_eq_getElem_cons hj];rfl⟩
 have e:j=zs.length:=by lia
 refine⟨0,hp,?_,zs.drop 1,?_⟩
 ·unfold rot;rw[e,List.drop_length,List.take_length];simp
 unfold rot;rw[List.drop_eq_getElem_cons hp];simp
def rot_one{zs:Ng}(nd:zs.Nodup){j k:Nat}(hj:j≤zs.length)(hk:k≤zs.length)(h1:Frst (KO j))(h2:Frst (KO k)):KO j=KO k:=by
 by_cases hz:zs=[]
 ·rw[hz];unfold rot;simp
 obtain⟨i,hi,e1,t1,q1⟩:=rot_lt hz hj;obtain⟨i2,aB,e2,t2,q2⟩:=rot_lt hz hk;have mem:∀m y,y∈zs→y∈KO m:=λm y hy=>by rw[←Zr m zs]at hy;exact Qe.mpr (Qe.mp hy).symm
 have a1:leS zs[i] zs[i2]:=h1 _ t1 (e1.trans q1) _ (mem j _ Af);have a2:leS zs[i2] zs[i]:=h2 _ t2 (e2.trans q2) _ (mem k _ EA);have:=(Wm nd).mp (zfv a1 a2);subst this;rw[e1,e2]
inductive IspLLeast(vs:List V)(H:Hp)(Q:VK):Prop
 |mk (a:Nc) (zs:Ng) (h0:vs=[.ref a]) (h1:H a=some (.lst (zs.map V.str))) (h2:zs.length≤100) (h3:∀(l:Nc) (j:Nat) (H':Hp),j≤zs.length→Frst (rot zs j)→H' l=some (.lst ((rot zs j).map V.str))→H l=none→Keep [] H H'→Q (.ref l) H'):IspLLeast vs H Q
def spLLeast:Sp:=λvs H Q _=>IspLLeast vs H Q
section
variable{P:Nk}{w:Nn}{K:Nb}{mg:Nh}{base:No}
def scLLeast:zam ["_law_around", "_law_at"] ["_law_around"] (zaj sLLeast):=fsk
def ok_lleast(F:Z5 "_law_from_least" "_law_from_least" sLLeast f fd)(dE:mg "min" = none):ZB 1 f fd ["_law_around"] spLLeast:=by
 refine F.okL scLLeast Hi;obtain⟨a,zs,rfl,ha,hz,k⟩:=h;have hu:=zb9 hr;have be:=Wn hu;have aH:=sizeLine_eq;refine⟨_,zae (Am (N0 Sd SM Sq) (zag (zaz SM)))
  (zae (Mp scLLeast.nd Ee)
  (zag (yk (Rp 0 1)))),?_⟩
 have aA:(zs.map V.str).length=zs.length:=Qa ..;refine⟨xf,TY,λq hq=>?_⟩;have naq:a≠q:=zab ha hq;have k1:Keep [] H (ZS q HP):=Keep.new hq;have jC:(ZS q HP) a=some Ol:=by rw[zaf naq];exact ha
 refine⟨a,q,xf,rfl,Hn jC,Ef,xf,?_⟩;generalize ZS q HP=H1 at k1 jC;by_cases iZ:zs=[]
 ·subst iZ;refine Q6 ⟨TY,λl hl=>?_⟩;exact k l 0 _ HM (λy t e=>by cases e) zad (zap k1 hl Hb) (Tv EC)
 refine zaw (by cases zs with
  |nil=>exact absurd rfl iZ
  |cons _ _=>rfl) ?_
 refine⟨xf,RI jC,xf,a,zs,rfl,Hn jC,iZ,λz bU cu=>?_⟩;obtain⟨i1,i2⟩:=zjj bU;have hj:zs.idxOf z≤zs.length:=Zt yq;refine⟨a,_,_,xf,rfl,jC,rfl,zc9 _,i1,i2,?_⟩;refine⟨xf,xf,xf,a,xf,Hn jC,λp1 h1=>?_⟩;have n1:a≠p1:=zab jC h1;refine⟨xf,xf,xf,a,xf,Hn (by rw[zaf n1];exact jC),λp2 h2=>?_⟩;have fq:p1≠p2:=zab (o:=_) zad h2;rw[zdl Cc,zhi Cc]at *;refine⟨p1,p2,_,xf,rfl,C7,zad,by rw[Yu,Za];lia,λp3 h3=>?_⟩;refine k p3 Tw _ hj (λy t e w hw=>?_) (by rw[zad,←Ju,←Uk,←Qp]) (zap (xs:=[]) ((Tv (Ht h1)).trans C8) h3 Hb) (((Tv (Ht h1)).trans C8).trans Ig);have hy:y=z:=by unfold rot at e;rw[Yc yq,Jy]at e;injection e with e _;exact e.symm
 rw[hy];exact cu w (by
  rcases Qe.mp hw with q|q
  ·exact Wo q
  exact Wh q)
end
end K21
namespace L2
open PySem PySem.Spec PyProof.Rows
def paired_get{α β:Type}{R:α→β→Prop}{as:List α}{bs:List β}(r:WE as bs):∀(j:Nat) (h1:j<as.length) (h2:j<bs.length),R as[j] bs[j]:=by
 induction r with
 |nil=>intro j h1;cases h1
 |cons h t ih=>
  intro j h1 h2;cases j with
  |zero=>exact h
  |succ j=>exact ih j (Kw h1) (Kw h2)
section
variable{X:Cx}{a7:Nd}{σ:St}{H:Hp}{s:Ni}
def zfk{R:V→V→Prop}{A:Np}{xs ys:List V}{a8 aD:Nj}(r:Q5 a8)(r2:YU aD)(pr:WE xs ys)(h:∀x y u v,R x y→WK u→YC v→UJ true) :
  ∀j (h1:j<a8.toArray.size) (h2:j<aD.toArray.size),SeqAt.EqAt A s a8.toArray[j] aD.toArray[j] true:=by
 intro j h1 h2;rw[Qt]at h1 h2;have a1:j<xs.length:=by rw[r.length];exact h1
 have a2:j<ys.length:=by rw[r2.length];exact h2
 obtain⟨u1,e1,q1⟩:=r.get (Qb a1);obtain⟨u2,e2,q2⟩:=r2.get (Qb a2);rw[Uh,Uh,(Cm e1).2,(Cm e2).2];exact h _ _ _ _ (paired_get pr j a1 a2) q1 q2
def pair_eq{q r:Str×Str}:((S1 2).all (λj=>if j=0 then q.1==r.1 else q.2==r.2)&&true)=decide (q=r):=by rw[show List.range 2=[0,1] from rfl,Yn];simp[Prod.ext_iff]
def pair_at{A:Np}{s:Ni}{l b:Nc}{q r:Str×Str}{t1 t2 t3 t4:Tok}(h:A.units<cLine)(p:s.heap.IsTuple l #[.str q.1 t1,.str q.2 t2])(p2:s.heap.IsTuple b #[.str r.1 t3,.str r.2 t4]):SeqAt.RcAt A s Tb Io (decide (q=r)):=by
 rw[←pair_eq];refine SeqAt.RcAt.tuples (e:=λj=>if j=0 then q.1==r.1 else q.2==r.2) p p2 h λj j1 j2=>?_;have jQ:j<2:=by simpa using j1
 match j,jQ with
 |0,_=>exact Ui q.1 t1 r.1 t3
 |1,_=>exact Ui q.2 t2 r.2 t4
end
section
variable{X:Cx}
def op_ne_pairsS(hu:X.A.units<cLine):QJ (λx y H Q=>Ex4 λ(a b:Nc) (q r:Str×Str)=>Aj5 (x=.ref a) (y=.ref b) (Cj (.tup [.str q.1,.str q.2])) (RU b (.tup [Iv,Iw])) (Ca (!decide (q=r)))):=by
 intro a7 s σ H x y v u Q I rx ry h;obtain⟨a,b,q,r,rfl,rfl,ha,hb,k⟩:=h;cases rx;cases ry;obtain⟨_,a8,r1,p⟩:=YD ha;obtain⟨_,aD,r2,p2⟩:=UX _ hb;obtain⟨u1,u2,rfl,⟨t1,rfl⟩,⟨t2,rfl⟩⟩:=vals2 r1;obtain⟨w1,w2,rfl,⟨t3,rfl⟩,⟨t4,rfl⟩⟩:=vals2 r2;refine SeqAt.RcNeAt.tuples (e:=λj=>if j=0 then q.1==r.1 else q.2==r.2) p p2 hu (λj j1 j2=>?_) _ _ _ _ ⟨.bl (!decide (q=r)),H,I,?_,k⟩
 ·have jQ:j < 2:=by simpa using j1
  match j,jQ with
  |0,_=>exact Ui q.1 t1 r.1 t3
  |1,_=>exact Ui q.2 t2 r.2 t4
 show Value.bool _=Value.bool _;congr 1;rw[←pair_eq];rfl
end
end L2
namespace K21
open PySem L2 Wb
inductive zif(vs:List V)(H:Hp)(Q:VK):Prop
 |mk (a:Nc) (zs:Ng) (x:Str) (h0:vs=[.ref a,.str x]) (h1:H a=some (.lst (zs.map V.str))) (h2:x∈zs) (h3:zs.length≤900) (h4:Q (.str (nxt zs x)) H):zif vs H Q
def spBehindS:Sp:=λvs H Q _=>zif vs H Q
structure RF(H:Hp)(d:Nc)(es:List Ent):Prop where
 dc:BK d Ru
 nd:(es.map (·.1)).Nodup
 ro:∀e∈es,H e.2.2=some Ll
def RF.get(R:RF H d es)(he:e∈es):DGet H d Aa (RH Oc):=.inl ⟨_,yi,R.dc,rfl,(DI he).symm⟩
def RF.keep(R:RF H d es)(k:Keep [] H H'):RF H' d es:=
 ⟨R.dc.imp (λe=>k _ _ e Hb) λ⟨o,e⟩=>⟨o,k _ _ e Hb⟩,R.nd,λe he=>k _ _ (R.ro e he) Hb⟩
def RF.inn{d:Nc}(R:RF H d es)(h:a∈es.map (·.1)):∃e∈es,e.1=a∧DGet H d (Sw a) (RH Oc):=by obtain⟨e,he,ea⟩:=Qf.mp h;have ea':e.1=a:=ea;subst ea';exact⟨e,he,rfl,R.get he⟩
structure Rnd(r:Nu)(s:Str×Str)(L:Nt):Prop where
 cy:∃t,L=s::t∧Lk (st r) s t s
 nd:L.Nodup
 al:∀u∈L,u.1∈r u.2
def rnd_of{ns:Ng}{r:Nu}{cs:List HQ}{a9:Nq}(C:QI a9){s:Str×Str}(hs:s.1∈r s.2):∃L,Rnd r s L:=by
 obtain⟨c,dI,je⟩:=Yi.mp ((zo s).mpr hs);obtain⟨A1,B1,eV⟩:=Wr je;have kK:=zdk (eV▸Mq dI);have eU:(s::(B1++A1)).Perm c:=by rw[eV];refine Kl.mpr λa=>?_;simp only[Xa,Xo];lia
 refine⟨s::(B1++A1),⟨xf,kK⟩,?_,λu hu=>C.inc dI (eU.mem_iff.mp hu)⟩;rw[eU.nodup_iff];have:=(zcm dI).nodup_iff.mp C.cf;rw[Zf]at this;exact this.1
inductive IspStepsS(vs:List V)(H:Hp)(Q:VK):Prop
 |mk (d:Nc) (es:List Ent) (cs:List (List (Str×Str))) (a9:Nq) (s:Str×Str) (h0:vs=[.ref d,.str s.1,.str s.2]) (h1:RF H d es) (h2:s.1∈row (rsOf es) s.2) (h3:Cert (es.map (·.1)) (row (rsOf es)) cs a9) (h4:es.length≤40)
  (h6:∀(t:Nc) (ps:Nl) (L:Nt) (H':Hp),H t=none→H' t=some Ir→zbh H' ps L→Rnd HU s L→L.length≤1600→(∀a∈ps,H a=none)→Keep [] H H'→Q Lx H'):IspStepsS vs H Q
def spStepsS:Sp:=λvs H Q _=>IspStepsS vs H Q
def steps_len{es:List Ent}{r:Nu}{cs:List HQ}{a9:Nq}(C:CW r)(h:es.length≤40){L:Nt}(nd:L.Nodup)(al:∀u∈L,u.1∈r u.2):L.length≤1600:=by
 have dw:∀u∈L,u∈(es.map (·.1)).flatMap λx=>(es.map (·.1)).map λy=>(x,y):=λu hu=>by have h1:=al u hu;refine List.mem_flatMap.mpr ⟨u.1,El h1,Ob ⟨u.2,yr h1,rfl⟩⟩
 have:=zg0 nd dw;rw[List.length_flatMap]at this;simp only[Qa,List.map_const',List.sum_replicate_nat]at this;have h2:es.length*es.length≤40*40:=Nat.mul_le_mul h h;lia
section
variable{P:Nk}{w:Nn}{K:Nb}{mg:Nh}{base:No}
def ok_behindS(F:Z5 "_law_behind" "_law_behind" zff f fd)(ad:RE):ZB 1 f fd ["_law_around", "_law_one"] spBehindS:=by
 refine F.okL scBehind Hi;obtain⟨a,zs,x,rfl,ha,hx,hz,k⟩:=h;have hu:=zb9 hr;refine⟨_,zag (zaz (QG Sd (Y9 (OF (Y8 Sd Sn))
  (QV Ho ad Zl SA)) Hw)),?_⟩
 obtain⟨i1,i2⟩:=zjj hx;have bY:0<zs.length:=Kz hx;have hm:(zs.idxOf x+1)%zs.length<zs.length:=My bY;have g:(zs.map V.str)[(zs.idxOf x+1)%zs.length]?=some (Sw (XQ x)):=by rw[Qo,Qb hm];unfold nxt;simp[List.getD,hm]
 have e1:((zs.idxOf x:Nat):Int)+1=((zs.idxOf x+1:Nat):Int):=by lia
 have g2:KN ((((zs.idxOf x:Nat):Int)+1)%((zs.map V.str).length:Int))=some (Sw (XQ x)):=by rw[e1,Qa,←Int.natCast_emod];exact zav g
 refine⟨xf,xf,RI ha,xf,a,_,_,xf,rfl,ha,rfl,zc9 zs,i1,i2,_,xf,rfl,xf,a,xf,Ss ha,_,xf,rfl,?_,a,_,_,xf,rfl,Hn ha,g2,k⟩;rw[Qa];exact zar9 ‹_›
def ok_stepsS(F:Z5 "_law_steps" "_law_steps" zfe f fd)(FB:Z5 "_law_behind" "_law_behind" zff fb fdb)(bB:QH fdb ["_law_around", "_law_one"] [])(mB:mg "_law_behind" = some (Hf fb))(GB:ZB 1 fb fdb ["_law_around", "_law_one"] spBehindS) :
  FnOk P w K mg base CX0 2 f fd [qR, "_law_p", "_law_q"] spStepsS:=by
 refine F.okL zcv Hi;obtain⟨d,es,cs,a9,sp,rfl,R,av,C,aO,k⟩:=h;have hu:=zb9 hr;refine⟨_,zae P7
  (zae (yW (O0 (JJ zw)))
  (zae (Fq (zan (op_ne_pairsS (Ww z4 hu)) Ty (QG S0 zai (λ_ _=>rfl)) rfl)
   (zae (Ln S0 Ly)
   (zag (yW (Ak (JJ (YM Hw)))))))
  (zag (yk S0)))),?_⟩
 obtain⟨L,⟨lt,eL,kK⟩,nd,al⟩:=rnd_of C av;have vE:=steps_len C aO nd al;have eU:0<L.length:=by rw[eL];simp
 have iJ:∀k (hk:k<L.length),UK L[k]=L.getD (k+1) sp:=λk hk=>by have:=lk_get kK k (by rw[←eL];exact hk);rw[←eL,Qx,Qb hk]at this;exact this
 have rn:∀e∈es,e.2.1.length≤900:=λe he=>by
  have h1:e.2.1.Nodup:=by have:=C.rn e.1;rw[MA he]at this;exact this
  have:∀y∈e.2.1,y∈es.map (·.1):=λy hy=>C.inn' (x:=e.1) (by rw[MA he];exact hy);have:=zcp h1 this;rw[Qa]at this;lia
 have qp:∀{H':Hp},RF H' d es→∀q:Str×Str,q.1∈ZO q.2→∃e∈es,DGet H' d (.str q.2) (RH Oc)∧H' e.2.2=some Ll∧q.1∈e.2.1∧UK q=(q.2,GG q.1):=λ{H'} R' q hq=>by obtain⟨e,he,ee,g⟩:=R'.inn (yr hq);have hr:=MA he;rw[ee]at hr;exact⟨e,he,g,R'.ro e he,by rw[←hr];exact hq,by show(q.2,nxt (ZO q.2) q.1)=_;rw[hr]⟩
 have i0:∀x y:V,atI [x,y] ((0:Nat):Int)=some x:=λx y=>zav rfl;have i1:∀x y:V,atI [x,y] ((1:Nat):Int)=some y:=λx y=>zav rfl;have aH  :=sizeLine_eq;refine⟨xf,xf,LE,λt0 mq=>⟨LR,λl hl=>?_⟩⟩;have k1:Keep [] H (Pq (ZS t0 (.tup [Ik,Il])) l (.lst [Ih])):=(Ht mq).trans EC;have ntl:t0≠l:=zab (o:=_) zad hl;have fh:(Pq (ZS t0 (.tup [Ik,Il])) l (.lst [Ih])) t0=some (.tup [Ik,Il]):=by rw[zaf ntl];exact zad
 have ax:(Pq (ZS t0 (.tup [Ik,Il])) l (.lst [Ih])) l=some (.lst [Ih]):=zad;have fl:H l=none:=zap (xs:=[]) (Ht mq) hl Hb;generalize upd (ZS t0 (.tup [Ik,Il])) l (.lst [Ih])=H1 at k1 fh ax;have R1:=R.keep k1;obtain⟨e,he,g1,g2,g3,g5⟩:=qp R1 sp av;refine⟨xf,xf,xf,d,xf,g1,xf,_,e.2.1,sp.1,rfl,g2,g3,rn e he,LE,λt ht=>?_⟩;have h0:L[0]'(eU)=sp:=by
  have:L[0]?=some sp:=by rw[eL];rfl
  exact(Zb.mp this).2
 have e5:[V.str sp.2,V.str (GG sp.1)]=[V.str (Ij 1).1,V.str (Ij 1).2]:=by rw[←iJ 0 eU,h0,g5]
 rw[e5];have nlt:l≠t:=zab ax ht;have pB:∀{a:Nc},H1 a=none→H a=none:=λ{a} h=>zap k1 h Hb;refine⟨λm σ H2=>Ex3 λ(n:Nat) (t:Nc) (as:Nl)=>Aj9 (m=L.length-n) (n<L.length) (σ=[Eo,RH Ik,RH Il,Ix,Hj t]) (Keep [l] H1 H2) (H2 l=some (Hv ((t0::as).map V.ref))) (zbh H2 (t0::as) (L.take (n+1))) (H2 t=some (.tup [.str (Ij (n+1)).1,.str (Ij (n+1)).2])) (as.length=n) (Aj2 (∀a∈t0::as,H a=none) (H t=none)),
  ⟨_,0,t,[],rfl,eU,rfl,AM,Hq nlt ax,?_,zad,rfl,λa ha=>by rw[Qc.mp ha];exact mq,pB ht⟩,?_⟩
 ·rw[show L.take (0+1)=[sp] by rw[eL];rfl];exact .cons (Hq (AK fh ht) fh) .nil
 rintro m σ H2 ⟨n,t,as,rfl,hn,rfl,k2,aj,pa,jc,c9,cH,hft⟩;have jZ:=k2 _ _ fh (Hd ntl);refine⟨xf,xf,l,_,_,xf,rfl,Hn aj,(show atI ((t0::as).map V.ref) ((0:Nat):Int)=some Ih from zav rfl),t,t0,Ij (n+1),sp,rfl,rfl,jc,jZ,xf,?_⟩;by_cases he1:n+1=L.length
 ·have hL:L.getD (n+1) sp=sp:=by rw[Qx,Us Hc];rfl
  refine zaw (by rw[decide_eq_true hL];rfl) ?_;rw[Qr Hc]at pa;exact⟨xf,k l (t0::as) L H2 fl aj pa ⟨⟨lt,eL,kK⟩,nd,al⟩ vE cH λc o ec _=>k2 c o (k1 _ _ ec Hb) (by simpa using JT fl)⟩
 have cF:n+1 < L.length:=by lia
 have gv:L.getD (n+1) sp=L[n+1]:=by rw[Qx,Qb cF];rfl
 rw[gv]at jc ⊢;have az:L[n+1]≠sp:=λz=>by rw[←h0]at z;have:=(Wm (h₀:=cF) (h₁:=eU) nd).mp z;lia
 refine za4 (by rw[decide_eq_false az];rfl) ?_;have jK:t≠l:=zax jc aj Hh;refine⟨_,λ σ' H' z=>z,?_⟩;refine⟨xf,RI aj,xf,l,_,xf,rfl,aj,by rw[Qa,Zk];lia,?_⟩;have k3:Keep [l] H1 AS:=k2.trans En;have fH:(Q3 l RJ) t=some (.tup [.str L[n+1].1,.str L[n+1].2]):=by rw[zaf jK];exact jc
 have cg:(Q3 l RJ) l=some (Hv ((t0::(as++[t])).map V.ref)):=by rw[zad,←Yr,Qp];rfl
 have nC:zbh AS (t0::(as++[t])) (L.take (n+1+1)):=by rw[Qk cF,←Yr];refine zal (zbh.keep pa λb x y eb=>?_) (Su fH);rw[zaf (zax eb aj Hh)];exact eb
 generalize Q3 l RJ=H3 at k3 fH cg nC;have R3:RF H3 d es:=⟨R1.dc.imp (λz=>k3 _ _ z (by simpa using zax z ax (by intro q;cases q))) λ⟨o,z⟩=>⟨o,k3 _ _ z (by simpa using zax z ax (by intro q;cases q))⟩,R1.nd,λe he=>k3 _ _ (R1.ro e he) (by simpa using zab (R.ro e he) fl)⟩;obtain⟨e,he,g1,g2,g3,g5⟩:=qp R3 L[n+1] (al _ (Qq cF));refine⟨xf,t,_,_,xf,rfl,Tg fH,i1 _ _,xf,xf,t,_,_,xf,rfl,Tg fH,i1 _ _,d,xf,g1,xf,t,_,_,xf,rfl,Tg fH,i0 _ _,_,e.2.1,L[n+1].1,rfl,g2,g3,rn e he,LE,λt' jd=>?_⟩;have e6:[V.str L[n+1].2,V.str (GG L[n+1].1)]=[V.str (Ij (n+1+1)).1,V.str (Ij (n+1+1)).2]:=by rw[←iJ (n+1) cF,g5]
 rw[e6];have qx:l≠t':=zab cg jd;have ft':H t'=none:=pB (zap k3 jd (Rx qx));refine⟨L.length-(n+1),Hc,n+1,t',as++[t],rfl,cF,rfl,LU (Ht jd),Hq qx cg,zbh.keep nC λb x y eb=>by rw[zaf (AK eb jd)];exact eb,zad,by rw[Qm,c9];rfl,λa ha=>?_,ft'⟩;rw[←Yr]at ha;rcases Qe.mp ha with z|z
 ·exact cH a z
 rw[Qc.mp z];exact hft
end
end K21
namespace L2
open PySem
def ix_tupK{X:Cx}{K:Nb}(hK:X.K=K):FG (rIxT K):=hK▸ze6
end L2
namespace K21
open PySem L2 Wb
abbrev zix:Stmt:=top 38
inductive IspLFaces(vs:List V)(H:Hp)(Q:VK):Prop
 |mk (d:Nc) (es:List Ent) (cs:List (List (Str×Str))) (a9:Nq) (h0:vs=[.ref d]) (h1:RF H d es) (h2:es.length≤40) (h4:Cert (es.map (·.1)) (row (rsOf es)) cs a9) (h5:∀(l:Nc) (as:Nl) (zss:List (List Str)) (Ls:List (List (Str×Str))) (H':Hp),H' l=some (.lst (as.map V.ref))→as.length≤20000→Paired (zbn H') as zss→zss.Perm ((zcq es).map sing++Ls.map nmL)→zss.Pairwise leL→zbq (row (rsOf es)) Ls→H l=none→Keep [] H H'→Q (.ref l) H'):IspLFaces vs H Q
def zik:Sp:=λvs H Q _=>IspLFaces vs H Q
def leP_lex{a b:Str×Str}(h1:leS a.1 b.1)(h2:a.1=b.1→leS a.2 b.2):leP a b:=by
 show(Tm.pairO Tm.strO Tm.strO).blt (keyP b) (keyP a)=false;show(MB a.1.cps.toList||(!MC b.1.cps.toList&&MD a.2.cps.toList))=false;have e1:MB a.1.cps.toList=false:=decide_eq_false h1;rw[e1,Bool.false_or];cases e2:MC b.1.cps.toList with
 |true=>rfl
 |false=>have e3:MD a.2.cps.toList=false:=decide_eq_false (h2 (Tm.str_ext (Tm.strO.total _ _ e2 e1)));rw[e3];rfl
def leS_at{ws:Ng}(h:ws.Pairwise leS){i:Nat}(hi:i<ws.length){u:Str}(hu:u∈ws)(hn:u∉ws.take i):leS ws[i] u:=by
 rw[←Zr i ws]at hu;rcases Qe.mp hu with z|z
 ·exact absurd z hn
 rw[Yc hi]at z;rcases Qj.mp z with y|y
 ·rw[y];exact λz=>Ux _ z
 have h2:=h.sublist (Xz i ws);rw[Yc hi,Uf]at h2;exact h2.1 u y
theorem Paired.impL{α β:Type}{R S:α→β→Prop}:∀{as:List α} {bs:List β},(∀a b,a∈as→R a b→S a b)→WE as bs→Paired S as bs
 |_,_,_,.nil=>.nil
 |_,_,h,.cons r t=>.cons (h _ _ Qd r) (Paired.impL (λa b hb=>h a b LP) t)
def Keep.fr(k:Keep [] H H')(h:H a=none):Keep [] H (UB a o):=λc u ec hc=>by rw[zaf (JT h)];exact k c u ec hc
structure LF(H0 H:Hp)(r:Nu)(fo se:Nc)(fa sa:Nl)(zss:List (List Str))(iso:Ng)(Ls:List (List (Str×Str))):Prop where
 hf:H fo=some Iq
 pf:Bk fa zss
 pm:zss.Perm (iso.map sing++Ls.map nmL)
 hs:H se=some (Hv (sa.map V.ref))
 ps:FV sa Ls.flatten
 fc:∀L∈Ls,VD L
 nd:Ls.flatten.Nodup
 al:∀s∈Ls.flatten,s.1∈r s.2
 fn:∀a∈fa,H0 a=none
 ns:se≠fo
def LF.keep{H':Hp}(h:YJ Ls)(k:Keep [] H H'):LF H0 H' r fo se fa sa zss iso Ls:=
 ⟨k _ _ h.hf Hb,zc2 k h.pf,h.pm,k _ _ h.hs Hb,zbh.keep h.ps λb x y eb=>k _ _ eb Hb,h.fc,h.nd,h.al,h.fn,h.ns⟩
def flat_len{β:Type}:∀{Ls:List (List β)},(∀L∈Ls,L≠[])→Ls.length≤Ls.flatten.length:=by
 intro Ls;induction Ls with
 |nil=>intro _;exact Qi _
 |cons L t ih=>intro h;have h1:=ih λL' cq=>h L' (QL cq);have h2:0<L.length:=Ub.mpr (h L Qd);rw[Zk,Yj,Qm];lia
def LF.len{es:List Ent}{cs:List HQ}{a9:Nq}(h:YJ Ls)(C:CW r)(aO:es.length≤40):fa.length≤iso.length+1600∧sa.length≤1600:=by
 have h1:=steps_len C aO h.nd h.al;have h2:=Zh h.ps;have h3:=Zh h.pf;have h4:=h.pm.length_eq;rw[Qm,Qa,Qa]at h4;have h5:=flat_len (Ls:=Ls) λL hL=>by obtain⟨s,t,e,_⟩:=(h.fc L hL).cy;rw[e];exact Fp _
 lia
def LF.put2{u sv:Nc}{zs:Ng}{sx:Nl}{dL:List HQ}(h:YJ Ls)(hu:zbn H u zs)(fu:H0 u=none)(nu:u≠fo)(pm:(zss++[zs]).Perm (iso'.map sing++dL.map nmL))(hs:RU sv (Hv (sx.map V.ref)))(ps:FV sx dL.flatten)(fc:∀L∈dL,VD L)(nd:dL.flatten.Nodup)(al:∀s∈dL.flatten,s.1∈r s.2)(ns:sv≠fo):LF H0 (TB fo (fa.map V.ref++[Hf u])) r fo sv (fa++[u]) sx (zss++[zs]) iso' dL:=by
 refine⟨by rw[zad,Qp];rfl,?_,pm,Hq ns hs,?_,fc,nd,al,λa ha=>?_,ns⟩
 ·refine zal (Paired.impL (λa z ha e=>?_) h.pf) (.cons ?_ .nil)
  ·have:a≠fo:=Ga h.hf (by
    intro z1;have z2:z.map V.str=fa.map V.ref:=by injection z1
    cases fa with
    |nil=>cases ha
    |cons b t=>cases z with
     |nil=>cases z2
     |cons c w=>rw[Ql,Ql]at z2;injection z2 with z3 _;cases z3)
   show BG a=_;rw[zaf this];exact e
  show BG u=_;rw[zaf nu];exact hu
 ·exact zbh.keep ps λb x y eb=>by rw[zaf (zax eb h.hf Hh)];exact eb
 rcases Qe.mp ha with z|z
 ·exact h.fn a z
 rw[Qc.mp z];exact fu
def LF.put{u:Nc}{zs:Ng}(h:YJ Ls)(hu:zbn H u zs)(fu:H0 u=none)(nu:u≠fo)(pm:(zss++[zs]).Perm (iso'.map sing++Ls.map nmL)):LF H0 (TB fo (fa.map V.ref++[Hf u])) r fo se (fa++[u]) sa (zss++[zs]) iso' Ls:=
 h.put2 hu fu nu pm h.hs h.ps h.fc h.nd h.al h.ns
def rnd_new{r:Nu}{s:Str×Str}{L:Nt}{Ls:List HQ}(R:Rnd r s L)(hf:∀L∈Ls,VD L)(hn:s∉Ls.flatten):∀u∈L,u∉Ls.flatten:=by
 intro u hu z;obtain⟨L',cq,mj⟩:=Yi.mp z;obtain⟨i7,t',rfl,k',_⟩:=(hf L' cq).cy;obtain⟨t,rfl,k⟩:=R.cy;have clo:∀v,v∈i7::t'→Dz v∈i7::t':=λv hv=>by
  rcases lk_clo k' v (PQ hv) with z|z
  ·rw[z];exact Qd
  exact QL z
 obtain⟨A,B,e⟩:=Wr hu;have c:Fk (A++u::B):=⟨s,t,e.symm,k⟩;have al:=lk_all (P:=λu=>u∈i7::t') clo (zdk c) mj;refine hn (Om ⟨_,cq,?_⟩);have hs:s∈A++u::B:=by rw[←e];exact Qd
 rcases Qe.mp hs with z|z
 ·exact al s PX
 rcases Qj.mp z with y|y
 ·rw[y];exact mj
 exact al s (YN y)
def ndLF:(["_law_step"]:List Str).Nodup:=by decide+kernel
section
variable{P:Nk}{w:Nn}{K:Nb}{mg:Nh}{base:No}
def zcw:zam [qR, "_law_found", "_law_seen", "_law_place",qO, "_law_steps_here"] [qR] (zaj zix):=fsk
def ok_lfaces(F:Z5 "_law_faces" "_law_faces" zix f fd)(FS:Z5 "_law_steps" "_law_steps" zfe fs fds)(bS:QH fds [qR, "_law_p", "_law_q"] [])(mS:mg "_law_steps" = some (Hf fs))(GS:ZB 2 fs fds [qR, "_law_p", "_law_q"] spStepsS)(aJ:mg "sorted" = none):ZB 3 f fd [qR] zik:=by
 refine F.okL zcw Hi;obtain⟨d,es,cs,a9,rfl,R,aO,C,k⟩:=h;have hu:=zb9 hr;have be:=Wn hu;have tR:(IO (PyProof.Rows.envOfC "_law_faces" (zaj zix) s.heap.objs.size f cdv)).units+8<cLine:=Yh (Kk (by decide:8≤64) _) hr.units;have aH:=sizeLine_eq;refine⟨_,zae (Mp zcw.nd SM)
  (zae (BH zcw.nd SM)
  (zae (QS (za6 (Pe SA)) (FY zcw.nd)
   (zae (Am (N0 (JJ S0) SM Sq) (zag (za5 (QB Sf (RG (zay TF))))))
   (zag (QS (za6 (Pc zf1 (RG (JJ (pv 3))))) (za7 4 zcw.nd)
    (zag (zbu (zan (zhn hu) (zbz (QE Ly)) Sr rfl)
     (zae (DE zcw.nd (BT bS .nil zbb (ZK (QE Ly))))
     (zae (BH zcw.nd (J5 Sr EB))
     (zag (za5 (QB Sf (zaa (zd5 (M:=["_law_step"]) (ix:=[none]) (mkB zcw) rfl (za6 EB) (λC a7 ex s H=>UQ ndLF) (λC a7 ex s H=>zbw) (λC a7 ex s H=>za9 (ix_tupK (K:=K) rfl) Sd zai Hw)) zac)))))) zas))))))
  (zag (yk (Pc (zc0 tR) Sn))))),?_⟩
 refine⟨TY,λfo gU=>⟨TY,λjI hse=>?_⟩⟩;have nfs:fo≠jI:=zab (o:=_) zad hse;have k1:Keep [] H (Pq Cg jI HP):=(Ht gU).trans (Ht hse);have rq:(Pq Cg jI HP) fo=some HP:=by rw[zaf nfs];exact zad
 have bV:(Pq Cg jI HP) jI=some HP:=zad;generalize upd Cg jI HP=H1 at k1 rq bV;have R1:=R.keep k1;refine⟨xf,d,_,HV,rfl,R1.dc,zg8 es,λl ws hl ag ay=>?_⟩;replace ay:=ay SJ;have k2:Keep [] H (QN l Ea):=k1.trans EC;have aj:(QN l Ea) l=some Ea:=zad;have mz:=(zaf (o:=.lst Sc) (AK rq hl)).trans rq;have de:=(zaf (o:=.lst Sc) (AK bV hl)).trans bV;have nlf:l≠fo:=Zd (AK rq hl);generalize QN l Ea=H2 at k2 aj mz de;have f9:ws.length≤40:=by rw[ag.length_eq,Qa];exact aO
 generalize fT:row AQ=r at *;refine⟨l,rfl,⟨_,Hn aj⟩,zgc (zs:=ws) (λi σ H'=>Aj3 (Ex4 λse x3 x4 x5=>Aj2 (σ=[Eo,Hj fo,Hj se,x3,x4,x5]) (Ex4 λfa sa zss Ls=>Aj2 (MM ((Is i).filter λx=>(r x).isEmpty) Ls) (∀x∈ws.take i,∀y∈r x,(x,y)∈Ls.flatten))) (Keep [fo] H2 H') (Keep [] H H'))
  ⟨⟨jI,_,_,_,rfl,[],[],[],[],⟨mz,.nil,.refl _,de,.nil,(λL hL=>by cases hL),Zs,(λs hs=>by cases hs),(λa ha=>by cases ha),Zd nfs⟩,λx hx=>(by cases hx)⟩,Keep.refl,k2⟩ (λi σ H' _ hh=>SqL.of (Oi aj (Hd nlf))) ?_ ?_⟩
 ·rintro i hi σ H3 ⟨⟨se,x3,x4,x5,rfl,fa,sa,zss,Ls,lf,au⟩,k3,nM⟩;have R3:=R.keep nM;have aK:ws[i]∈es.map (·.1):=ag.mem_iff.mp EA;obtain⟨e,he,ee,g⟩:=R3.inn aK;have ak:r ws[i]=e.2.1:=by rw[←fT,←ee];exact zbt R.nd he
  have tk:ws.take HY=ws.take i++[ws[i]]:=Qk hi;have aY:=R3.ro e he;have bM:e.2.1.length≤40:=by have h1:=C.rn ws[i];rw[ak]at h1;have:∀y∈e.2.1,y∈es.map (·.1):=λy hy=>C.inn' (x:=ws[i]) (Hm ak hy);have:=zcp h1 this;rw[Qa]at this;lia
  have kJ:=lf.len C aO;have hil:((Is i).filter λx=>(r x).isEmpty).length≤40:=DG ym;refine⟨xf,xf,d,xf,g,TY,λq hq=>?_⟩;have nrq:e.2.2≠q:=zab aY hq;refine⟨e.2.2,q,xf,rfl,Hn (by rw[zaf nrq];exact aY),Ef,xf,?_⟩;have kq:Keep [] H3 (QX q HP):=Keep.new hq;have lT:=lf.keep kq;generalize QX q HP=H4 at kq lT;have cC:Keep [] H H4:=nM.trans kq;have k4:Keep [fo] H2 H4:=k3.trans (kq.sub Hb);by_cases iM:e.2.1=[]
  ·refine za4 (by rw[iM];rfl) ⟨_,rfl,.inl ⟨rfl,_,SqL.of lT.hf⟩,_,rfl,LR,λu mj=>?_⟩;have ku:Keep [] H4 (WC u (.lst [.str ws[i]])):=Keep.new mj;have hu5:(WC u (.lst [.str ws[i]])) u=some (.lst [.str ws[i]]):=zad;have qA:=lT.keep ku;generalize WC u (.lst [.str ws[i]])=H5 at ku hu5 qA;have nuf:u≠fo:=Zd (zab lT.hf mj);refine⟨fo,_,xf,rfl,qA.hf,SJ,?_⟩;have fu:H u=none:=zap cC mj Hb;have kZ:(Is HY).filter (λx=>(r x).isEmpty)=(Is i).filter (λx=>(r x).isEmpty)++[ws[i]]:=by rw[tk,Yq,Yd (by rw[ak,iM];rfl),Ua]
   have lf6:=qA.put (zs:=[ws[i]]) (iso':=(Is i).filter (λx=>(r x).isEmpty)++[ws[i]]) hu5 fu nuf (by rw[Qp,Qz];refine(qA.pm.append_right _).trans ?_;rw[Qz];exact Ud _ Ur);have k6:Keep [fo] H5 (Q4 fo (Hv (fa.map V.ref++[Hf u]))):=Keep.wr Hb;have i8:Keep [] H (Q4 fo (Hv (fa.map V.ref++[Hf u]))):=(cC.trans ku).fr gU;generalize Q4 fo (Hv (fa.map V.ref++[Hf u]))=H6 at lf6 k6 i8;have R6:=R.keep i8;have g6:=R6.get he;rw[ee]at g6;refine⟨xf,xf,d,xf,g6,e.2.2,[],rfl,SqL.of (by have:=R6.ro e he;rw[iM]at this;exact this),λl7 sf aR aN _=>?_⟩;have e7:sf=[]:=Ku.mp aN.length_eq;subst e7;generalize qH7:BU l7 _=H7;obtain⟨k7,cx⟩:=nwk aR qH7;refine⟨l7,rfl,⟨_,Hn cx⟩,zgc (zs:=[]) (λj σ H'=>Aj2 (σ=[Eo,Hj fo,Hj se,RH (.str ws[i]),x4,x5]) (H'=H7)) ⟨rfl,rfl⟩ (λj σ H' _ hh=>by rw[hh.2];exact SqL.of cx) (λj hj=>by cases hj) ?_⟩;rintro σ H8 ⟨rfl,rfl⟩;refine⟨⟨se,_,_,xf,fa++[u],sa,zss++[[ws[i]]],Ls,kZ▸lf6.keep k7,λx hx y hy=>?_⟩,((yC (ku.sub Hb)).trans k6).trans yx,i8.trans k7⟩;rw[tk]at hx;rcases Qe.mp hx with z|z
   ·exact au x z y hy
   rw[Qc.mp z,ak,iM]at hy;cases hy
  have kZ:(Is HY).filter (λx=>(r x).isEmpty)=(Is i).filter (λx=>(r x).isEmpty):=by rw[tk,Yq,Yf (by rw[ak];simpa using iM),Ua,Zq]
  have az:(e.2.1.map V.str).isEmpty=false:=by
   cases h9:e.2.1 with
   |nil=>exact absurd h9 iM
   |cons a t=>rfl
  refine zaw (by rw[if_neg Hg];exact az) ?_;have R4:=R.keep cC;have g4:=R4.get he;rw[ee]at g4;refine⟨xf,xf,d,xf,g4,e.2.2,e.2.1,rfl,Hn (R4.ro e he),λl7 vs aR aN cv=>?_⟩;replace cv:=cv Hc;have k7:Keep [] H4 (TM l7 Ia):=Keep.new aR;have cx:(TM l7 Ia) l7=some (Hv Ia):=zad;have lf7:=lT.keep k7;have nl7:l7≠fo:=Zd (zab lT.hf aR);generalize WC l7 (Hv Ia)=H7 at k7 cx lf7;refine⟨l7,rfl,⟨_,Hn cx⟩,zgc (zs:=vs) (λj σ H'=>Aj3 (Ex3 λse x4 x5=>Aj2 (σ=[Eo,Hj fo,Hj se,RH (.str ws[i]),x4,x5]) (Ex4 λfa sa zss Ls=>Aj3 (MM ((Is i).filter λx=>(r x).isEmpty) Ls) (∀x∈ws.take i,∀y∈r x,(x,y)∈Ls.flatten) (∀y∈vs.take j,(ws[i],y)∈Ls.flatten))) (Keep [fo] H7 H') (Keep [] H H'))
   ⟨⟨se,_,_,rfl,fa,sa,zss,Ls,lf7,au,λy hy=>(by cases hy)⟩,Keep.refl,cC.trans k7⟩ (λj σ H' _ hh=>SqL.of (Oi cx (Hd nl7))) ?_ ?_⟩
  ·rintro j hj σ H8 ⟨⟨se,x4,x5,rfl,fa,sa,zss,Ls,lf,au,eO⟩,k8,tm⟩;have hvj:vs[j]∈r ws[i]:=by rw[ak];exact aN.mem_iff.mp (Qq hj)
   have lN:vs.take (j+1)=vs.take j++[vs[j]]:=Qk hj;refine⟨xf,xf,LE,λt9 fG=>?_⟩;have k9:Keep [] H8 (JD t9 (.tup [.str ws[i],.str vs[j]])):=Keep.new fG;have h9:(JD t9 (.tup [.str ws[i],.str vs[j]])) t9=some (.tup [.str ws[i],.str vs[j]]):=zad;have lS:=lf.keep k9;generalize JD t9 (.tup [.str ws[i],.str vs[j]])=H9 at k9 h9 lS;have qC:=tm.trans k9;refine⟨xf,t9,se,(ws[i],vs[j]),sa,Ls.flatten,rfl,rfl,h9,SqL.of lS.hs,lS.ps,xf,?_⟩;by_cases iF:(ws[i],vs[j])∈Ls.flatten
   ·refine zaw (by rw[Rh iF];rfl) ⟨⟨se,_,_,rfl,fa,sa,zss,Ls,lS,au,λy hy=>?_⟩,yB (k9.sub Hb),qC⟩;rw[lN]at hy;rcases Qe.mp hy with z|z
    ·exact eO y z
    rw[Qc.mp z];exact iF
   refine za4 (by rw[Se iF];rfl) ?_;have kJ:=lS.len C aO;refine⟨xf,xf,xf,d,es,cs,a9,(ws[i],vs[j]),rfl,R.keep qC,by rw[fT];exact Vf hvj,Hm fT C,aO,λtA pa L HA ftA htA paA RL hLl _ kA=>?_⟩;rw[fT]at RL;have lfA:=lS.keep kA;have aU:=Zh paA;refine⟨xf,xf,se,tA,_,xf,rfl,lfA.hs,htA,by rw[Qa,Qa];lia,λq hq=>?_⟩;have kq:Keep [] HA (Pq HA q (Hv (sa.map V.ref++pa.map V.ref))):=Keep.new hq;have hqB:(Pq HA q (Hv (sa.map V.ref++pa.map V.ref))) q=some (Hv ((sa++pa).map V.ref)):=by rw[zad,Qp]
   have lfB:=lfA.keep kq;have tX:=kq _ _ htA Hb;have paB:zbh _ pa L:=zbh.keep paA λb x y eb=>kq _ _ eb Hb;have nqf:q≠fo:=Zd (zab lfA.hf hq);generalize upd HA q (Hv (sa.map V.ref++pa.map V.ref))=HB at kq hqB lfB tX paB;refine⟨xf,.inl ⟨rfl,_,SqL.of lfB.hf⟩,xf,tA,rfl,⟨_,Hn tX⟩,lc_at (xs:=pa.map V.ref) (λ τ=>∃x0,τ=[x0]) ((nmL L).map V.str) (by rw[Qa,Qa,Qa,aU]) (Hn tX) SJ ⟨none,rfl⟩ ?_ λD hD=>?_⟩
   ·rintro n hn rf τ ⟨x0,rfl⟩ kc uP;rw[Qa]at hn;obtain⟨bp,hp⟩:=za1 paB hn;rw[Zp];refine⟨xf,pa[n],_,_,xf,rfl,Tg hp,(zav rfl:atI [V.str L[n].1,V.str L[n].2] ((0:Nat):Int)=some (.str L[n].1)),?_⟩;have:=uP [RH (.ref pa[n])] ⟨_,rfl⟩;rw[Zp,Zp]at this;exact this
   have kD:Keep [] HB (Pq HB D (Hv ((nmL L).map V.str))):=Keep.new hD;have hDC:(Pq HB D (Hv ((nmL L).map V.str))) D=some (Hv ((nmL L).map V.str)):=zad;have lfC:=lfB.keep kD;have hqC:=kD _ _ hqB Hb;have paC:zbh _ pa L:=zbh.keep paB λb x y eb=>kD _ _ eb Hb;have nDf:D≠fo:=Zd (zab lfB.hf hD);generalize upd HB D (Hv ((nmL L).map V.str))=HC at kD hDC lfC hqC paC;have kkC:Keep [] H HC:=((qC.trans kA).trans kq).trans kD;have fD:H D=none:=zap ((qC.trans kA).trans kq) hD Hb;refine⟨fo,_,xf,rfl,lfC.hf,SJ,?_⟩;have new:=rnd_new RL lfC.fc iF;have hFL:VD L:=by obtain⟨t,eL,kL⟩:=RL.cy;refine⟨(ws[i],vs[j]),t,eL,kL,λu hu=>?_⟩;have gL:=RL.al u hu;have be:u.2∈r u.1:=Vf gL;have cF:u.1∉ws.take i:=λz=>new u hu (au u.1 z u.2 be);refine leP_lex (leS_at ay hi (Em (yr be)) cF) λe1=>?_;have dk:ws[i]=u.1:=e1;refine leS_at cv hj (aN.mem_iff.mpr (by rw[←ak,dk];exact be)) λz=>new u hu ?_;have:=eO u.2 z;rw[dk]at this;exact this
   have vD:(Ls++[L]).flatten=Ls.flatten++L:=by rw[Wu,Yj,Jx,Zq]
   have lfE:LF H (GH (Hv (fa.map V.ref++[Sv]))) r fo q (fa++[D]) (sa++pa) (zss++[nmL L]) ((Is i).filter λx=>(r x).isEmpty) (Ls++[L]):=by
    refine lfC.put2 (zs:=nmL L) hDC fD nDf ?_ hqC (by rw[vD];exact zal lfC.ps paC) (λL' cq=>?_) ?_ (λs hs=>?_) nqf
    ·rw[Qp,← Qz];exact lfC.pm.append_right _
    ·rcases Qe.mp cq with z|z
     ·exact lfC.fc L' z
     rw[Qc.mp z];exact hFL
    ·rw[vD];exact Zf.mpr ⟨lfC.nd,RL.nd,λa ha b hb e=>new b hb (e▸ha)⟩
    rw[vD]at hs;rcases Qe.mp hs with z|z
    ·exact lfC.al s z
    exact RL.al s z
   have k6:Keep [fo] HC (GH (Hv (fa.map V.ref++[Sv]))):=Keep.wr Hb;have i8:Keep [] H (GH (Hv (fa.map V.ref++[Sv]))):=kkC.fr gU;refine⟨⟨q,_,xf,fa++[D],sa++pa,zss++[nmL L],Ls++[L],lfE,λx hx y hy=>?_,λy hy=>?_⟩,(((((yB (k9.sub Hb)).trans (kA.sub Hb)).trans (kq.sub Hb)).trans (kD.sub Hb)).trans k6),i8⟩
   ·rw[Wu];exact YN (au x hx y hy)
   rw[Wu];rw[lN]at hy;rcases Qe.mp hy with z|z
   ·exact YN (eO y z)
   rw[CT z];obtain⟨t,eL,_⟩:=RL.cy;refine YG ?_;rw[Yj,Jx,Zq,eL];exact Qd
  rintro σ H8 ⟨⟨se,x4,x5,rfl,fa,sa,zss,Ls,lf,au,eO⟩,k8,tm⟩;rw[Qa,Qr HM]at eO;refine⟨⟨se,_,_,xf,fa,sa,zss,Ls,kZ▸lf,λx hx y hy=>?_⟩,(k4.trans yx).trans k8,tm⟩;rw[tk]at hx;rcases Qe.mp hx with z|z
  ·exact au x z y hy
  rw[CT z]at hy ⊢;exact eO y (aN.mem_iff.mpr (by rw[←ak];exact hy))
 rintro σ H3 ⟨⟨se,x3,x4,x5,rfl,fa,sa,zss,Ls,lf,au⟩,k3,nM⟩;rw[Qa,Qr HM]at lf au;have kJ:=lf.len C aO;have hil:(ws.filter λx=>(r x).isEmpty).length≤40:=DG f9;have w6:∀a zs,zbn H3 a zs→lstV H3 Rm=zs.map λx:Str=>x.cps.toList:=λa zs e=>by rw[zjb e,Zc];rfl
 refine⟨xf,fo,xf,SqL.of lf.hf,λv hv=>?_,λl7 sf aR dz cv=>?_⟩
 ·obtain⟨a,ha,rfl⟩:=Qf.mp hv;obtain⟨j,hj,rfl⟩:=Ze ha;obtain⟨_,e⟩:=za1 lf.pf hj;exact⟨_,xf,e⟩
 obtain⟨rQ,rfl,aN⟩:=zgk dz;obtain⟨n8,ji,cQ⟩:=zdh aN lf.pf;rw[Wx]at cv;have vF:DD Ls:=⟨lf.fc,lf.nd,λs=>⟨lf.al s,λh=>au s.1 (ag.mem_iff.mpr (El h)) s.2 (Vf h)⟩⟩;have kT:(ws.filter λx=>(r x).isEmpty).Perm (zcq es):=by rw[iso_eq R.nd,fT];exact ag.filter _
 exact k l7 rQ n8 Ls _ zad (by rw[aN.length_eq];lia) (Paired.imp' (λa z e=>by show BG a=_;rw[zaf (B7 aR)];exact e) cQ) (ji.trans (lf.pm.trans ((kT.map _).append_right _))) (show n8.Pairwise leL from zcn (S:=λa b=>(Tm.listO Tm.strO).kle a b) (f:=λa=>lstV H3 Rm) (g:=λz:List Str=>z.map λx:Str=>x.cps.toList) cQ w6 cv) vF (zap nM aR Hb) (nM.trans (Ht aR))
end
end K21
namespace Wb
section
variable{α:Type}[DecidableEq α]{ns:List α}{r:α→List α}{cs:List (List (α×α))}{a9:α→α}
def nxt_rev{zs:List α}{q:α}(nd:zs.Nodup)(hq:q∈zs):nxt zs.reverse (XQ q)=q:=by
 obtain⟨A,B,rfl,hA,hB⟩:=zcc hq nd;have h1:=zbk (B:=B) hA;cases B with
 |cons b B=>
  have e:nxt (A++q::b::B) q=b:=(Qn h1).symm;have hb:b∉B.reverse:=by rw[Wl];have:=(Zf.mp nd).2.1;simp only[Qw]at this;exact this.2.1
  have h2:=zbk (B:=q::A.reverse) hb;rw[e,show(A++q::b::B).reverse=B.reverse++b::(q::A.reverse) by simp];exact(Qn h2).symm
 | nil=>
  cases A with
  |nil=>rw[show([]++[q]:List α)=[q] from rfl,zgv,List.reverse_singleton,zgv]
  | cons a A=>
   have e:nxt (a::A++[q]) q=a:=(Qn h1).symm;have ha:a∉q::A.reverse:=by
    intro z;rcases Qj.mp z with z|z
    ·exact hA (z▸Qd)
    have:(a::(A++[q])).Nodup:=nd;exact(Qw.mp this).1 (YN (Wl.mp z))
   have h2:=zbk (B:=[]) ha;rw[e,show(a::A++[q]).reverse=(q::A.reverse)++[a] by simp];exact(Qn h2).symm
def mir:List (α×α)→List (α×α)
 |[]=>[]
 |s::t=>s.swap::t.reverse.map Prod.swap
theorem zja:∀c:List (α×α),(mir c).Perm (c.map Prod.swap)
 |[]=>.nil
 |s::t=>(t.reverse_perm.map _).cons _
theorem lk_mir{f g:α×α→α×α}{e:α×α}:∀{t:List (α×α)} {s:α×α},(∀y,y=s∨y∈t→g (f y).swap=y.swap)→Bj e→Lk g e.swap (t.reverse.map Prod.swap) s.swap
 |[],s,h,k=>by have k':f s=e:=k;show g e.swap=s.swap;rw[←k'];exact h s RT
 | a::t,s,h,k=>by
  obtain⟨k1,k2⟩:f s=a∧XO a t e:=k;rw[Ky,Qp];refine lk_app.mpr ⟨lk_mir (λy hy=>h y (.inr ?_)) k2,?_⟩
  ·rcases hy with z|z
   ·rw[z];exact Qd
   exact QL z
  show g a.swap=s.swap;rw[←k1];exact h s RT
theorem zjl:∀cs:List (Tn (α×α)),(cs.map mir).flatten.Perm (cs.flatten.map Prod.swap)
 |[]=>.nil
 |c::cs=>by rw[Ql,Yj,Yj,Qp];exact(zja c).append (zjl cs)
def cert_mir(C:QI a9):Cert ns (λx=>(r x).reverse) Ot a9:=by
 have sw:∀s:α×α,s.swap.swap=s:=λ_=>rfl;have hm:∀{s:α×α},s∈(cs.map mir).flatten↔s.swap∈cs.flatten:=λ{s}=>by rw[(zjl cs).mem_iff,Qf];exact⟨λ⟨a,h,e⟩=>by rw[←e];exact h,λh=>⟨_,h,rfl⟩⟩
 refine⟨C.nd,λx hx=>by show(r x).reverse=[];rw[Fl hx];rfl,λx=>(Kx _).nodup_iff.mpr (C.rn x),λx h=>C.ir x AU,λx y h=>Wl.mpr (C.sy x y AU),?_,λs=>?_,λc hc=>?_,C.ln,λx y h=>C.la x y AU,λx hx y hy e=>(C.co x hx y hy e).mono λ_ _ h=>Wl.mpr h,λx hx=>?_⟩
 ·rw[(zjl cs).nodup_iff];have inj:∀l:List (α×α),l.Nodup→(l.map Prod.swap).Nodup:=λl=>by
   induction l with
   |nil=>exact λ_=>.nil
   |cons a t ih=>intro h;rw[Qw]at h;rw[Ql,Qw];refine⟨λz=>?_,ih h.2⟩;obtain⟨b,hb,e⟩:=Qf.mp z;exact h.1 (by rw[←sw a,←e,sw];exact hb)
  exact inj _ C.cf
 ·rw[hm,C.cm];exact⟨λh=>Wl.mpr (Vf h),λh=>Vf AU⟩
 ·obtain⟨c0,h0,rfl⟩:=Qf.mp hc;obtain⟨s,t,rfl,k⟩:=C.cy c0 h0;refine⟨s.swap,xf,lk_mir (λy hy=>?_) k⟩;have d7:y.1∈r y.2:=C.inc h0 (by rcases hy with z|z;rw[z];exact Qd;exact QL z);show(y.2,nxt (r y.2).reverse (nxt (r y.2) y.1))=(y.2,y.1);rw[nxt_rev (C.rn _) d7]
 have hw:wt ns (λx=>(r x).reverse) a9 P6=JC P6:=by unfold wt;refine zcu λy _=>?_;simp only[List.length_reverse,List.reverse_eq_nil_iff]
 have hc:ct Ot a9 P6=YR P6:=by
  unfold ct;rw[Zc];refine zcu λc hc=>?_;have:((mir c).any λs=>decide (a9 s.1=a9 x))=(c.any λs=>decide (a9 s.1=a9 x)):=by
   rw[Yn,Yv,Yv];have aK:∀s∈c,a9 s.2=a9 s.1:=λs hs=>(C.la _ _ (Mr hs)).symm;constructor
   ·rintro⟨s,hs,e⟩;obtain⟨b,hb,e1⟩:=Qf.mp ((zja c).mem_iff.mp hs);refine⟨b,hb,?_⟩;rw[←e1]at e;exact decide_eq_true ((aK b hb).symm.trans (Te e))
   rintro⟨s,hs,e⟩;exact⟨s.swap,(zja c).mem_iff.mpr (Rw s hs),Rh ((aK s hs).trans (Te e))⟩
  show(if((mir c).any λs=>decide (a9 s.1=a9 x))=true then(2:Int) else 0)=_;rw[this]
 rw[hw,hc];exact C.eu x hx
end
end Wb
namespace K21
open PySem L2 Wb PySem.W
def Rt(a b:Ng):Prop:=∃A B,b=A++B∧a=B++A
def Rt.refl(a:Ng):Rt a a:=⟨[],a,rfl,(Zq a).symm⟩
def Rt.trans{a b c:Ng}(h1:Rt a b)(h2:Rt b c):Rt a c:=by
 obtain⟨A,B,rfl,rfl⟩:=h1;obtain⟨C,D,rfl,e⟩:=h2;rcases List.append_eq_append_iff.mp e with⟨x,rfl,rfl⟩|⟨x,rfl,rfl⟩
 ·exact⟨C++A,x,by rw[Qz],by rw[Qz]⟩
 exact⟨x,B++D,by rw[Qz],by rw[Qz]⟩
def Rt.rev{a b:Ng}(h:Rt a b):Rt a.reverse b.reverse:=by obtain⟨A,B,rfl,rfl⟩:=h;exact⟨B.reverse,A.reverse,by rw[List.reverse_append],by rw[List.reverse_append]⟩
def Rt.map{a b:Ng}(f:Nq)(h:Rt a b):Rt (a.map f) (b.map f):=by obtain⟨A,B,rfl,rfl⟩:=h;exact⟨A.map f,B.map f,by rw[Qp],by rw[Qp]⟩
def Rt.of{zs:Ng}(k:Nat):Rt (KO k) zs:=⟨OA k,zs.drop k,(Zr ..).symm,rfl⟩
def Rt.ex{a b:Ng}(h:Rt a b):∃k,k≤b.length∧a=rot b k:=by obtain⟨A,B,rfl,rfl⟩:=h;exact⟨A.length,Hb,by unfold rot;simp⟩
def Rt.perm{a b:Ng}(h:Rt a b):a.Perm b:=by obtain⟨A,B,rfl,rfl⟩:=h;exact Ur
structure TrF(ns:Ng)(r:Nu)(ts:List Ent):Prop where
 nn:(ts.map (·.1)).Perm ns
 rr:∀y,Rt (W3 y) (r y)
 ff:∀e∈ts,Frst e.2.1
 ss:(ts.map (·.1)).Pairwise leS
def TrF.to{ns lR:Ng}{r r':Nu}{ts:List Ent}(T:DJ ts)(h1:ns.Perm lR)(h2:∀y,Rt (r y) (r' y)):TrF lR r' ts:=⟨T.nn.trans h1,λy=>(T.rr y).trans (h2 y),T.ff,T.ss⟩
def TrF.cert{ns:Ng}{r:Nu}{ts:List Ent}{cs:List HQ}{a9:Nq}(T:DJ ts)(C:QI a9):Cert (ts.map (·.1)) PJ cs a9:=
 zdw C T.nn λx=>let⟨k,_,e⟩:=(T.rr x).ex;⟨k,e⟩
def TrF.len{ns:Ng}{r:Nu}{ts:List Ent}(T:DJ ts):ts.length=ns.length:=by have:=T.nn.length_eq;rwa[Qa]at this
def tr_of{es es2 ts:List Ent}(nd:(es.map (·.1)).Nodup)(hp:es2.Perm es)(ht:NX es2)(hf:∀e∈ts,Frst e.2.1)(hs:(ts.map (·.1)).Pairwise leS):TrF HV HU ts:=
 ⟨by rw[zce ht];exact hp.map _,λy=>by obtain⟨k,e⟩:=zfb ht hp nd y;rw[e];exact Rt.of k,hf,hs⟩
structure Turn2(es ts:List Ent):Prop where
 mm:∀a b,b∈ZO a↔b∈W3 a
 nn:∀y,y∈es.map (·.1)↔y∈ts.map (·.1)
 ss:∀s:Str×Str,s.1∈ZO s.2→st PJ s=UK s
def turn2_of{es ts:List Ent}{cs:List HQ}{a9:Nq}(C:CW HU)(T:TrF HV HU ts):Turn2 es ts:=by refine⟨λa b=>(T.rr a).perm.mem_iff.symm,λy=>T.nn.mem_iff.symm,λs hs=>?_⟩;obtain⟨k,_,e⟩:=(T.rr s.2).ex;unfold st;rw[e,Fo hs]
def iso_mem{es ts:List Ent}(nn:∀y,y∈es.map (·.1)↔y∈ts.map (·.1))(nil:∀y,ZO y=[]↔W3 y=[])(nd:(es.map (·.1)).Nodup)(qz:(ts.map (·.1)).Nodup):(zcq es).Perm (zcq ts):=by rw[iso_eq nd,iso_eq qz];refine(Ke (nd.sublist Je) (qz.sublist Je)).mpr λy=>?_;rw[Uq,Uq,nn,List.isEmpty_iff,List.isEmpty_iff,nil]
def zh6{es ts:List Ent}{zss jG:List E8}{Ls dL:List HQ}(T:Turn2 es ts)(nd:(es.map (·.1)).Nodup)(qz:(ts.map (·.1)).Nodup)(pm:zss.Perm ((zcq es).map sing++Ls.map nmL))(pm':jG.Perm ((zcq ts).map sing++dL.map nmL))(so:zss.Pairwise leL)(so':jG.Pairwise leL)(I:DV Ls)(I':zbq PJ dL):zss=jG:=by
 have I2:=I.turn (r':=row (rsOf ts)) (λs=>T.mm s.2 s.1) T.ss;have hp:=I2.one I';have nil:∀y,ZO y=[]↔W3 y=[]:=λy=>by rw[List.eq_nil_iff_forall_not_mem,List.eq_nil_iff_forall_not_mem];exact⟨λh b hb=>h b ((T.mm y b).mpr hb),λh b hb=>h b ((T.mm y b).mp hb)⟩
 exact rows_one (pm.trans ((((iso_mem T.nn nil nd qz).map _).append (hp.map _)).trans pm'.symm)) so so'
abbrev Img(g:Nq)(φ:List Str→List Str):List Ent→List Ent→Prop:=Paired λe t=>e.1=g t.1∧e.2.1=φ t.2.1
def zb1{g:Nq}{φ:List Str→List Str}{es ts:List Ent}(h:Img g φ es ts):es.map (·.1)=(ts.map (·.1)).map g:=by
 induction h with
 |nil=>rfl
 |cons h _ ih=>rw[Ql,Ql,Ql,ih,h.1]
def zej{g:Nq}{φ:List Str→List Str}(h0:φ []=[])(hg:∀x y,g x=g y→x=y){es ts:List Ent}(h:Img g φ es ts)(x:Str):ZO (g x)=φ (W3 x):=by
 unfold row rsOf;induction h with
 |nil=>exact h0.symm
 |@cons e t _ _ h _ ih=>
  rw[Ql,Ql];by_cases q:t.1=x
  ·rw[Wp (by rw[h.1,q];exact decide_eq_true rfl),Wp (Hd q)];exact h.2
  rw[Wq (by rw[h.1];simpa using λz=>q (hg _ _ z)),Wq (Hd q)];exact ih
def row_no{es:List Ent}{y:Str}(h:y∉es.map (·.1)):ZO y=[]:=zeb (by unfold rsOf;rw[List.map_map];exact h)
def ext(ns:Ng)(g:Nq)(x:Str):Str:=if x∈ns then g x else⟨#[200]++x.cps⟩
def ext_inj{ns:Ng}{g:Nq}(hg:∀x∈ns,∀y∈ns,g x=g y→x=y)(hn:∀x∈ns,zbf (g x)):∀x y,ext ns g x=ext ns g y→x=y:=by
 have no:∀x∈ns,∀y:Str,g x≠⟨#[200]++y.cps⟩:=λx hx y e=>by have:=(hn x hx).2.2 200 (by rw[e];simp);lia
 intro x y h;unfold ext at h;by_cases hx:x∈ns<;>by_cases hy:y∈ns
 ·rw[if_pos hx,if_pos hy]at h;exact hg x hx y hy h
 ·rw[if_pos hx,if_neg hy]at h;exact absurd h (no x hx y)
 ·rw[if_neg hx,if_pos hy]at h;exact absurd h.symm (no y hy x)
 rw[Sz hx,Sz hy]at h;have:=congrArg (λz:Str=>z.cps.toList) h;simp at this;cases x;cases y;simpa using this
def mir_cert{es ts:List Ent}{cs:List HQ}{a9:Nq}(C:Cert (ts.map (·.1)) PJ cs a9)(h:X1 es ts):Cert HV HU Ot a9:=by have e:row AQ=λx=>(W3 x).reverse:=funext λx=>Vg (λ_ _ z=>z) h x;rw[e,zb1 h,Kf];exact cert_mir C
def zi0{es ts:List Ent}{cs:List HQ}{a9:Nq}{f:Nq}(hf:∀ x y,f x=f y→x=y)(C:Cert (ts.map (·.1)) PJ cs a9)(h:UN es ts):∃ aF af,Cert HV HU aF af:=by
 rw[zb1 h];refine⟨_,λy=>f (a9 (((ts.map (·.1)).find? λk=>decide (f k=y)).getD y)),cert_mapL hf C (λx=>Vg hf h x) (λy hy=>row_no λz=>?_) λx hx=>?_⟩
 ·rw[zb1 h]at z;obtain⟨x,_,e⟩:=Qf.mp z;exact hy x e.symm
 have:((ts.map (·.1)).find? λk=>decide (f k=f x))=some x:=by
  cases h:(ts.map (·.1)).find? λk=>decide (f k=f x) with
  |none=>exact absurd (Rh rfl) (List.find?_eq_none.mp h x hx)
  |some k=>have:=List.find?_some h;rw[hf _ _ (of_decide_eq_true this)]
 show f (a9 _)=_;rw[this];rfl
end K21
namespace L2
open PySem PySem.Spec PyProof.Rows
inductive Cal(P:Nk)(w:Nn)(K:Nb)(mg:Nh)(base:No)(x:Str)(ps:Ng)(k:Nat)(sp:Sp):Prop
 |mk {f:Nc} {fd:Nw} {st:Stmt} (F:Fun K x x st f fd) (b:Binds K fd ps []) (m:mg x=some (.ref f)) (G:FnOk P w K mg base CX0 k f fd ps sp):Cal P w K mg base x ps k sp
def pcl{X:Cx}{p pos:Pos}{e:Expr}{es:Nr}{t:TA}{k:Nat}{x:Str}{ps:Ng}{sp:Sp}(T:Cal X.prog X.w X.K X.mg X.base x ps k sp)(hr:YT X.A)(ha:K1 (e::es) t)(hg:Vk x:=by exact rfl)(cY:Rc=false:=by decide)(he:starEach (e::es) X.env=(false,IN)::starEach es X.env:=by rfl)(aU:(L4 Sl).any (·.1)=false:=by rfl) :
  PE X (.Call IP (e::es) [] pos) (tCall sp [] E0 t):=by
 obtain⟨F,b,m,G⟩:=T;exact zao G hr hg m F.kp b .nil zbb ha cY he aU
def call_isi_own{X:Cx}:YH (.builtin "isinstance") (λxs H Q=>Ex4 λ(x:V) (c:Nc) (t:Value) (b:Bool)=>Aj4 (xs=[x,Ou]) (NF t) (XG Ou=some b) (Ca b)):=by intro a7 s σ H xs us Q I r h;obtain⟨x,c,t,b,rfl,ty,e,q⟩:=h;obtain⟨u,w',rfl,rx,e2⟩:=vals2 r;cases e2;exact FX e λtk=>⟨Eg,H,Sm,rfl,q⟩
def op_eq_listsK{X:Cx}{K:Nb}(hK:X.K=K)(hu:X.A.units<cLine):WH Cy (λx y H Q=>Ex3 λl b zs=>Aj5 (x=.ref l) (y=.ref b) (WU l Og) (WU b Og) (Q Tz H)):=hK▸zgu hu
inductive MCal(P:Nk)(w:Nn)(K:Nb)(mg:Nh)(base:No)(C:Nc)(m:Str)(ps:Ng)(k:Nat)(sp:Sp):Prop
 |mk {f:Nc} {fd:Nw} (hm:Meth K C m f) (b:Binds K fd ps []) (G:FnOk P w K mg base CX0 k f fd ps sp):MCal P w K mg base C m ps k sp
def all_rep(n:Nat):(List.replicate n true).all id=true:=by rw[Zw];intro b hb;exact(List.mem_replicate.mp hb).2
end L2
namespace K21
open PySem L2 Wb PySem.W
abbrev ziu:Stmt:=NO 2
abbrev sFacesW:Stmt:=top 13
abbrev sIsWeb:Stmt:=top 41
inductive zid(C:Nc)(vs:List V)(H:Hp)(Q:VK):Prop
 |mk (x dx d:Nc) (es:List Ent) (e:Ent) (h0:vs=[.ref x,.str e.1]) (h1:WAt H C x dx d es) (h2:e∈es) (h3:∀l,H l=none→Q (.ref l) (upd H l (.lst (e.2.1.map V.str)))):zid C vs H Q
def zdo(C:Nc):Sp:=λvs H Q _=>zid C vs H Q
inductive IspFacesW(C:Nc)(vs:List V)(H:Hp)(Q:VK):Prop
 |mk (x dx d:Nc) (es:List Ent) (cs:List (List (Str×Str))) (a9:Nq) (h0:vs=[.ref x]) (h1:WAt H C x dx d es) (h2:es.length≤40) (h4:Cert (es.map (·.1)) (row (rsOf es)) cs a9) (h5:∀(l:Nc) (as:Nl) (zss:List (List Str)) (Ls:List (List (Str×Str))) (H':Hp),H' l=some (.lst (as.map V.ref))→as.length≤20000→Paired (zbn H') as zss→zss.Perm ((zcq es).map sing++Ls.map nmL)→zss.Pairwise leL→zbq (row (rsOf es)) Ls→Ls.length=cs.length→H l=none→(∀a∈as,H a=none)→Keep [] H H'→Q (.ref l) H'):IspFacesW C vs H Q
def zim(C:Nc):Sp:=λvs H Q _=>IspFacesW C vs H Q
structure WebI(K:Nb)(C:Nc):Prop where
 cl:V8 C
 nr:VQ "rounds"
 h1:findIn K SE "__class__" = some Ie
 h2:specialIn K Hu "__get__" = some Pr
 h3:takesIn K Hu=some true
 h4:mroIn K C (.type "object")=some true
 kt:kitOne K SE SE=some true
def zfg{es:List Ent}{cs:List HQ}{a9:Nq}(C:CW HU)(h:es.length≤40):∀e∈es,e.2.1.length≤40:=λe he=>by have h1:=C.rn e.1;rw[MA he]at h1;have:=zcp h1 λy hy=>C.inn' (x:=e.1) (by rw[MA he];exact hy);rw[Qa]at this;lia
def WAt.keepD{H H':Hp}{C x dx dd d:Nc}{ts:List Ent}{kvs:List (Key×V)}(wt:Vb dd ts)(k:Keep [d] H H')(hd:RU d Rg)(az:dd≠d):By dd ts:=
 wt.keep k (by simpa using zax wt.ob hd Hh) (Hd az) λe he=>by simpa using DZ hd Hh
def two_dicts{H:Hp}{C x dx dd d:Nc}{ts es:List Ent}(wt:Vb dd ts)(hd:RU d Ru)(ho:∀e∈es,H e.2.2=some Ll)(hp:0<es.length):dd≠d:=λz=>by
 have h1:=wt.ta.dc;rw[z,hd]at h1;have h1:(eWV es)=eWV ts:=by injection(Qn h1)
 have h2:=congrArg (λl=>l[0]?) h1;rw[Qo,Qo,Qb hp]at h2;cases h3:ts[0]? with
 |none=>rw[h3]at h2;cases h2
 |some f=>rw[h3]at h2;have h4:V.ref es[0].2.2=V.ref f.2.2:=congrArg Prod.snd (Qn h2);have e1:=ho _ (Qq hp);have e2:=wt.ta.ro f (Yz h3);rw[show es[0].2.2=f.2.2 from by injection h4,e2]at e1;cases e1
inductive IspIsWeb(C:Nc)(vs:List V)(H:Hp)(Q:VK):Prop
 |mk (x dx dd d:Nc) (ts es:List Ent) (cs:List (List (Str×Str))) (a9:Nq) (h0:vs=[.ref x,.ref d]) (h1:WAt H C x dx dd ts) (h2:RAt H d es) (h3:Cert (es.map (·.1)) (row (rsOf es)) cs a9) (h4:TrF (es.map (·.1)) (row (rsOf es)) ts) (h5:es.length≤40) (h6:∀H',Keep [] H H'→Q (.bl true) H'):IspIsWeb C vs H Q
def zil(C:Nc):Sp:=λvs H Q _=>IspIsWeb C vs H Q
def ndIw:(["_law_place", "_law_web", "_law_due_here"]:List Str).Nodup:=by decide+kernel
def leS_one{l m:Ng}(p:l.Perm m)(h1:l.Pairwise leS)(h2:m.Pairwise leS):l=m:=by
 induction l generalizing m with
 |nil=>exact(List.nil_perm.mp p).symm
 | cons a t ih=>
  cases m with
  |nil=>exact absurd p.length_eq Hb
  | cons b u=>
   rw[Uf]at h1 h2;have lB:a=b:=by
    rcases Qj.mp (p.mem_iff.mp Qd) with z|z
    ·exact z
    rcases Qj.mp (p.mem_iff.mpr (Qd (a:=b) (l:=u))) with y|y
    ·exact y.symm
    exact zfv (h1.1 b y) (h2.1 a z)
   subst lB;rw[ih (p.cons_inv) h1.2 h2.2]
section
variable{P:Nk}{w:Nn}{K:Nb}{mg:Nh}{base:No}{C:Nc}
def scRoundOf:zam ["self", "place"] ["self", "place"] (zaj ziu):=fsk
def ok_roundof(F:Z5 "round_of" "Web.round_of" ziu f fd)(cW:V8 C)(nW:VQ "rounds")(aZ:mg "list" = none):ZB 1 f fd ["self", "place"] zA:=by
 refine F.okL scRoundOf Hi;obtain⟨x,dx,d,es,e,rfl,wt,he,k⟩:=h;have hu:=zb9 hr;refine⟨_,zae (Ts (OZ Sf yj))
  (zag (zaz (zba zdy Ho aZ Kv (RG (zdg hu yj zt))))),?_⟩
 have g:=DGet.k (k:=Sum.inr e.1) wt.ta.dc;rw[zd7 wt.ta.nd he]at g;refine⟨xf,xf,x,C,dx,_,xf,wt.ob,cW,nW,rfl,d,xf,g,xf,QF ?_⟩;exact⟨xf,x,C,dx,_,xf,wt.ob,cW,nW,rfl,xf,d,xf,g,e.2.2,xf,SK (SqT.of (wt.ta.ro e he)),k⟩
def scFacesW:zam ["web"] ["web"] (zaj sFacesW):=fsk
def ok_facesW(F:Z5 "faces" "faces" sFacesW f fd)(cW:V8 C)(nW:VQ "rounds")(FF:Z5 "faces_of" "faces_of" zhz ff fdf)(bF:QH fdf ["rounds"] [])(mF:mg "faces_of" = some (Hf ff))(GF:ZB 2 ff fdf ["rounds"] zio):ZB 3 f fd ["web"] (zim C):=by refine F.okL scFacesW Hi;obtain⟨x,dx,d,es,cs,a9,rfl,wt,aO,Ct,k⟩:=h;refine⟨_,zag (zaz (BV bF .nil zbb (RG yj))),?_⟩;exact⟨xf,x,C,dx,_,xf,wt.ob,cW,nW,rfl,d,es,cs,a9,rfl,wt.ta,Hc,λe he=>D0 Hg,Ct,λl as zss Ls aF H' h1 h2 h3 h4 h5 h6 p1 p2 h7 h8 h9=>k l as zss Ls H' h1 h2 h3 h4 h5 h6 ((Zh p2).trans p1.length_eq) h7 h8 h9⟩
def scIsWeb:zam ["_law_web", "_law_due_here"] ["_law_web", "_law_due_here"] (zaj sIsWeb):=fsk
def ok_isweb(F:Z5 "_law_is_web" "_law_is_web" sIsWeb f fd)(wi:WebI K C)(mW:mg "Web" = some SE)(GA:WZ "places" ["self"] 1 zk)(GR:WZ "round_of" ["self", "place"] 1 zA)(GL:ZU "_law_from_least" ["_law_around"] 1 spLLeast)(br:mg "isinstance" = none)(aJ:mg "sorted" = none)(am:mg "all" = none):ZB 2 f fd ["_law_web", "_law_due_here"] (zil C):=by
 refine F.okL scIsWeb HZ;obtain⟨x,dx,dd,d,ts,es,cs,a9,rfl,wt,R,Ct,T,aO,kq⟩:=h;have hu:=zb9 hr;have be:=Wn hu;have aH:=sizeLine_eq;obtain⟨mA,bA,GA⟩:=GA;obtain⟨mR,bR,GR⟩:=GR;refine⟨_,zae (zbu (PW.pt (zi2 (OI (zah call_isi_own Ho br Yw (Lq (zee (v:=.ref C) Ho mW rfl))))
   (zgl (zan (op_ne_lists be) (zga (pl:=_) Sd wi.cl mA GA hr bA .nil zbb) (Pe Sn) Sq)))) (zag ps_no) zas)
  (zag (zaz (Fi Ho am PyProof.Rows.boot_all (zaa (pe_thaw (zd5 (M:=["_law_place", "_law_web", "_law_due_here"]) (ix:=[none,RH 0,RH 1]) (mkB scIsWeb) rfl (zgm Sf) (λC a7 ex s H=>UQ ndIw) (λC a7 ex s H=>zbw)
   (λC a7 ex s H=>zgn (op_eq_listsK (K:=K) rfl (by exact be)) (pe_meth (pl:=_) Sf (by exact wi.cl) mR GR (by exact hr) bR .nil zbb SA) (pcl GL (by exact hr) (RG (zdg (by exact hu) zw (pv 0)))) Sq))) zac)))),?_⟩
 refine⟨xf,_,C,SE,true,rfl,.ins wt.ob wi.cl wi.h1 wi.h2 wi.h3 wi.h4,wi.kt,xf,QF ?_⟩;refine⟨xf,x,dx,xf,wt.ob,rfl,x,dx,dd,ts,rfl,wt,λl1 ax=>?_⟩;generalize q1:ZS l1 _=H1;obtain⟨k1,g1⟩:=nwk ax q1;have jP:(eWV es).map (λp=>kV p.1)=(es.map (·.1)).map V.str:=by rw[Zc,Zc];rfl
 refine⟨xf,d,_,HV,rfl,HL (k1 _ _ R.dc Hb),jP,λl2 ws2 aj ap so2=>?_⟩;generalize q2:QN l2 _=H2;obtain⟨k2,g2⟩:=nwk aj q2;have e12:ts.map (·.1)=ws2:=leS_one (T.nn.trans ap.symm) T.ss (so2 SJ);subst e12;refine⟨l1,l2,xf,rfl,Hn LX,Hn g2,xf,QF ?_⟩;have gK:=k1.trans k2;have R2:RAt H2 d es:=R.keep gK Hb λ_ _=>by simp
 have i5:GJ ts:=wt.keep gK Hb Hb λ_ _=>by simp
 have nfd:∀o' u',H d≠some LQ:=λo' u' z=>by rw[R.dc]at z;cases z
 have aA:(eWV es).length=es.length:=Qa ..;refine⟨_,rfl,d,_,rfl,R2.dc,λo=>⟨λi m ys τ H'=>Aj6 (m=es.length-i) (i≤es.length) (Ex1 λx0=>τ=[x0,Hj x,Eo]) (H' d=some PD) (Keep [d] H2 H') (ys=(List.replicate i true).map V.bl),
  ⟨es.length,rfl,Tq,⟨none,rfl⟩,zad,En,rfl⟩,?_⟩⟩
 rintro i m ys τ H3 ⟨rfl,hi,⟨x0,rfl⟩,hz,k3,rfl⟩;by_cases ae:i<es.length
 ·refine .inr ⟨⟨hz,by rw[aA];exact ae⟩,by rw[Qa,List.length_replicate];lia,?_⟩;rintro y H' ⟨rfl,pr,e1,rfl⟩;have gg:pr=((Sum.inr es[i].1:Key),V.ref es[i].2.2):=by rw[Qo,Qb ae]at e1;exact(Qn e1).symm
  subst gg;have aG:=Qq ae;have az:=two_dicts i5 R2.dc R2.ro (Yh Tq ae);have eZ:=i5.keepD k3 R2.dc az;have ed:es[i].2.2≠d:=zax (R2.ro _ aG) R2.dc Hh;have ro3:=k3 _ _ (R2.ro _ aG) (Hd ed);have dg:∀G:Hp,G d=some PD→DGet G d (.str es[i].1) (RH (.ref es[i].2.2)):=λG hz=>.inl ⟨_,Sum.inr es[i].1,SK ⟨o,hz⟩,rfl,(DI aG).symm⟩;have bM:=zfg Ct aO _ aG;have ak:=zbt R.nd aG;have dC:es[i].1∈ts.map (·.1):=T.nn.mem_iff.mpr (Rw _ aG);obtain⟨t,ht,et⟩:=Qf.mp dC;have et:t.1=es[i].1:=et;have u9:=T.rr t.1;rw[zbt wt.ta.nd ht,et,ak]at u9;have bw:=Ct.rn es[i].1;rw[ak]at bw;generalize es[i]=e at aG ro3 dg bM et u9 bw ⊢;refine⟨xf,x,dx,xf,eZ.ob,rfl,xf,x,dx,dd,ts,t,by rw[et];rfl,eZ,ht,λl4 dP=>?_⟩;generalize q4:UB l4 _=H4;obtain⟨k4,g4⟩:=nwk dP q4;refine⟨xf,xf,d,xf,dg _ (zT hz),e.2.2,e.2.1,rfl,zT ro3,Hc,λl5 j H5 hj cH g5 ce k5=>?_⟩;obtain⟨kk,mx,ek⟩:=u9.ex;have h1:=T.ff t ht;rw[ek]at h1;have es1:=rot_one bw mx hj h1 cH;have g4':=k5 _ _ g4 Hb;rw[ek,es1]at g4';have i9:=k4.trans k5;refine⟨l4,l5,xf,rfl,Hn g4',Hn g5,_,Hy,rfl,ae,⟨xf⟩,i9 _ _ hz Hb,LU (i9.sub Hb),?_⟩;rw[List.replicate_succ',Qp];rfl
 have c8:i=es.length:=by lia
 subst c8;refine .inl ⟨⟨hz,HS aA⟩,λD hD=>?_⟩;have ndD:d≠D:=Fr hD;refine⟨d,o,_,yw,nfd,?_⟩;have k4:Keep [] H2 (Pq (QX D (Hv ((List.replicate es.length true).map V.bl))) d Ru):=λc w' ec _=>by
  by_cases gw:c=d
  ·subst gw;rw[zad,←R2.dc];exact ec
  have:=k3 c w' ec (Hd gw);rw[zaf gw,zaf (zab this hD)];exact this
 refine⟨D,xf,Hn (by rw[zaf (Zd ndD)];exact zad),?_⟩;rw[all_rep];exact kq _ (gK.trans k4)
end
end K21
namespace L2
open PySem PySem.Spec PyProof.Rows
def pe_revK{X:Cx}{K:Nb}(hK:X.K=K)(he:CU):Z7 zU (λ σ H Q=>te σ H λx H1=>Ex2 λa xs=>Aj3 (x=.ref a) (Dh a xs) (∀p,H1 p=none→Q TR Az)):=hK▸pe_rev he
end L2
namespace K21
open PySem L2 Wb PySem.W
abbrev sMirror:Stmt:=top 24
def toRo(e:Ent):Ro:=(Aa,RN,e.2.2)
def rw_ro{H:Hp}{l:Nc}{as:Nl}{es:List Ent}(R:VC es):Dw zB:=
 ⟨R.ls,zc5 R.ts,λr hr=>by obtain⟨e,he,rfl⟩:=Qf.mp hr;exact R.ro e he⟩
theorem rwe_ro:∀es:List Ent,RwE zB es
 |[]=>.nil
 |_::t=>.cons ⟨rfl,rfl,rfl⟩ (rwe_ro t)
def rwe_one{rs:List Ro}{es es':List Ent}(h:Vw es)(h':Vw es'):es=es':=by
 induction h generalizing es' with
 |nil=>cases h';rfl
 | @cons r e rs es h _ ih=>
  cases h' with
  |@cons _ e' _ es' h2 t2=>
   have a1:e.1=e'.1:=by have:=h.1.symm.trans h2.1;injection this
   have a2:e.2.1=e'.2.1:=List.map_inj_right (λx y z=>by injection z) |>.mp (h.2.1.symm.trans h2.2.1)
   have a3:e.2.2=e'.2.2:=h.2.2.symm.trans h2.2.2;rw[ih t2,show e=e' from Km a1 (Km a2 a3)]
def init_good{C c1 c2 x dx l:Nc}{as:Nl}{es:List Ent}{cs:List HQ}{a9:Nq}{H:Hp}{Q:VK}{E:XK}(hx:RU x (.ins C dx []))(R:VC es)(Ct:CW HU)(aO:es.length≤40)(hok:∀e∈es,zbf e.1)(k:∀(d:Nc) (ts:List Ent) (H':Hp),By d ts→TrF HV HU ts→Keep [x] H H'→Q .non H'):NY c2 [T8,Tb] H Q E:=by
 have hy:∀e∈es,∀y∈e.2.1,zbf y:=λe he y hy=>by obtain⟨e',aW,rfl⟩:=Qf.mp (Ct.inn' (x:=e.1) (y:=y) (by rw[GK he];exact hy));exact hok e' aW
 have am:(es.map toRo).all okR=true:=by
  rw[Zw];intro r hr;obtain⟨e,he,rfl⟩:=Qf.mp hr;refine Zw.mpr λv hv=>?_;rcases Qj.mp hv with rfl|hv
  ·exact zef.mpr (hok e he)
  obtain⟨y,tK,rfl⟩:=Qf.mp hv;exact zef.mpr (hy e he y tK)
 refine⟨x,dx,l,as,zB,rfl,hx,rw_ro R,yT aO,λr hr=>?_,λH' _ h=>absurd am (by rw[h];decide),λes' hE _=>?_⟩
 ·obtain⟨e,he,rfl⟩:=Qf.mp hr;refine⟨by show(e.2.1.map V.str).length≤100;rw[Qa];exact D0 Hg,zgb (hok e he),λv hv=>?_⟩;obtain⟨y,tK,rfl⟩:=Qf.mp hv;exact zgb (hy e he y tK)
 obtain rfl:=rwe_one (rwe_ro es) hE;have fg:twOk es=true:=by unfold twOk;rw[Jw,Wf,decide_eq_true_iff];refine⟨Ct.nd,Zw.mpr λzs hz=>?_⟩;obtain⟨e,he,rfl⟩:=Qf.mp hz;have:=Ct.rn e.1;rw[GK he]at this;exact decide_eq_true this
 exact⟨λz=>absurd fg (by rw[z];decide),λ_=>⟨cs,a9,Ct,λd ts es2 H' w hp ht hf hs kk=>k d ts H' w (tr_of Ct.nd hp ht hf hs) kk⟩⟩
def spInit0(C c1 c2:Nc):Sp:=λvs H Q _=>DH c2 vs H Q λ_ _ _=>False
def new_ins{H:Hp}{C x dx:Nc}(hx:H x=none)(vc:H dx=none):Keep [] H (NG (.ins C dx [])):=λc u ec _=>by rw[zaf (JT hx),zaf (JT vc)];exact ec
def zjg{H H1 H2:Hp}{x:Nc}(hx:H x=none)(k1:Keep [] H H1)(k2:Keep [x] H1 H2):Keep [] H H2:=λc u ec _=>k2 c u E7 (by simpa using JT hx)
inductive IspMirror(C:Nc)(vs:List V)(H:Hp)(Q:VK):Prop
 | mk (x dx d:Nc) (ts:List Ent) (cs:List (List (Str×Str))) (a9:Nq) (h0:vs=[.ref x]) (h1:WAt H C x dx d ts) (h2:Cert (ts.map (·.1)) (row (rsOf ts)) cs a9) (h3:ts.length≤40) (h4:∀ e∈ts,zbf e.1)
   (h5:∀(x' rN d':Nc) (i6:List Ent) (H':Hp),Gf i6→TrF (ts.map (·.1)) (λy=>(W3 y).reverse) i6→Cert (i6.map (·.1)) (S2 i6) Ot a9→Keep [] H H'→Q (Hf x') H'):GQ Q
def spMirror(C:Nc):Sp:=λvs H Q _=>GQ Q
def ndMi:(["place", "web"]:List Str).Nodup:=by decide+kernel
section
variable{P:Nk}{w:Nn}{K:Nb}{mg:Nh}{base:No}{C c1 c2:Nc}
def scMirror:zam ["web"] ["web"] (zaj sMirror):=fsk
def ok_mirror(F:Z5 "mirrored" "mirrored" sMirror f fd)(cW:V8 C)(MW:Mk K C fi)(mW:mg "Web" = some SE)(bI:QH fdi ["self", "rows"] [])(GI:ZB 4 fi fdi ["self", "rows"] (GV c1 c2))(GA:WZ "places" ["self"] 1 zk)(GR:WZ "round_of" ["self", "place"] 1 zA):ZB 6 f fd ["web"] (spMirror C):=by
 refine F.okL scMirror HZ;obtain⟨x,dx,d,ts,cs,a9,rfl,wt,Ct,bn,hok,kq⟩:=h;have aP:KL _:=hr.mono Hg;have aH:=sizeLine_eq;obtain⟨mA,bA,GA⟩:=GA;obtain⟨mR,bR,GR⟩:=GR;refine⟨_,zag (zaz (MY hr rfl mW bI .nil zbb (zaa (zd5 (M:=["place", "web"]) (ix:=[none,RH 0]) (mkB scMirror) rfl (za6 (zga (pl:=_) Sd cW mA GA aP bA .nil zbb)) (λC a7 ex s H=>UQ ndMi) (λC a7 ex s H=>zbw)
  (λC a7 ex s H=>zbz (Lq (pe_revK (K:=K) rfl (pe_meth (pl:=_) zt (by exact cW) mR GR (by exact aP) bR .nil zbb yy))))) zac))),?_⟩
 refine⟨xf,x,dx,xf,wt.ob,rfl,x,dx,d,ts,rfl,wt,λl1 ax=>?_⟩;generalize q1:ZS l1 _=H1;obtain⟨k1,g1⟩:=nwk ax q1;have qt:WAt H1 C x dx d ts:=wt.keep k1 Hb Hb λ_ _=>by simp
 have aA:((ts.map (·.1)).map V.str).length=ts.length:=by rw[Qa,Qa]
 refine⟨l1,rfl,⟨_,Hn g1⟩,λn q ys τ H'=>Ex2 λ(aq:Nl) (fs:List Ent)=>Aj8 (q=ts.length-n) (n≤ts.length) (ys=aq.map V.ref) (Ex1 λx0=>τ=[x0,Hj x]) LY (∀e∈fs,H' e.2.2=some Ll) (X1 fs (ts.take n)) (Keep [] H1 H'),
  ⟨ts.length,[],[],rfl,Tq,rfl,⟨none,rfl⟩,.nil,(λe he=>by cases he),.nil,Keep.refl⟩,?_⟩
 rintro n q ys τ H2 ⟨aq,fs,rfl,hn,rfl,⟨x0,rfl⟩,ap,aY,aV,k2⟩;have c9:aq.length=n:=by rw[Zh ap,Zh aV,Za];lia
 by_cases ae:n<ts.length
 ·refine .inr ⟨⟨_,.str ts[n].1,Hn LX,by rw[Qo,Qo,Qb ae];rfl⟩,by rw[Qa];lia,?_⟩;rintro v H3 ⟨rfl,hv⟩;have bD:=hv _ (Hn LX);rw[Qo,Qo,Qb ae]at bD;obtain rfl:V.str ts[n].1=v:=Qn bD;have aG:ts[n]∈ts:=Qq ae;have tk:ts.take (n+1)=ts.take n++[ts[n]]:=Qk ae;generalize ts[n]=e at aG tk ⊢;have eZ:MZ d ts:=qt.keep k2 Hb Hb λ_ _=>by simp
  refine⟨xf,xf,x,dx,xf,eZ.ob,rfl,xf,x,dx,d,ts,e,rfl,eZ,aG,λl4 dP=>?_⟩;generalize q4:QX l4 _=H4;obtain⟨k4,g4⟩:=nwk dP q4;refine⟨l4,xf,Hn g4,λl5 ce=>?_⟩;rw[←List.map_reverse];generalize q5:WC l5 _=H5;obtain⟨k5,g5⟩:=nwk ce q5;refine⟨LE,λt6 jY=>?_⟩;have k6:Keep [] H3 (Q4 t6 (.tup [Aa,Hf l5])):=(yC k5).trans (Ht jY);refine⟨_,Hy,aq++[t6],fs++[(e.1,e.2.1.reverse,l5)],rfl,ae,by rw[Qp];rfl,⟨xf⟩,?_,λe' aW=>?_,?_,Co k6⟩
  ·exact zal AA On
  ·rcases Qe.mp aW with z|z
   ·exact k6 _ _ AV Hb
   rw[Qc.mp z,zaf (AK g5 jY)];exact g5
  rw[tk];exact zal aV (.cons ⟨rfl,rfl⟩ .nil)
 have c8:n=ts.length:=by lia
 subst c8;rw[Qr HM]at aV;refine .inl ⟨⟨_,Hn LX,HS aA⟩,λD hD=>?_⟩;generalize q3:Q3 D _=H3;obtain⟨k3,g3⟩:=Vu q3;have RW:RwAt H3 D aq fs:=⟨g3,RZ k3 ap,λe he=>k3 _ _ O2 Hb⟩;have Cf:=mir_cert Ct aV;have jw:fs.length=ts.length:=Zh aV;have dC:=zb1 aV;rw[Kf]at dC;refine λx4 dx4 hx4 vb hne4=>?_;have k4:=new_ins (C:=C) hx4 vb;refine init_good zad (RW.keep k4) Cf Hc (λe he=>?_) λd5 ts5 H5 w5 T5 k5=>?_
 ·have:e.1∈ts.map (·.1):=by rw[← dC];exact Qf.mpr ⟨e,he,rfl⟩
  obtain⟨t,ht,et⟩:=Qf.mp this;rw[←et];exact hok t ht
 refine⟨rfl,kq x4 dx4 d5 ts5 H5 w5 ?_ (T5.cert Cf) (((Tv k2).trans k3).trans (zjg hx4 k4 k5))⟩;have:row (rsOf fs)=λy=>(W3 y).reverse:=funext λy=>Vg (λ_ _ z=>z) aV y;rw[dC,this]at T5;exact T5
end
end K21
namespace SetE
open PySem PyProof.Rows PySem.Spec
section
variable{prog:Nk}{w:Nn}{K:Type}[DecidableEq K]{knd:KeyKind prog w K}{A:Np}{E:Na}{s:Ni}
def quiet{x:Value}(hx:x.scannable=true){Q:Bool→Shared→Prop}(h:Q true s):ZG (Builtin.Frozenset.quietEq x) Q E s:=by cases x<;>first|exact wpAny_pure h|cases hx
def walk{a b:Nc}{oa ob:Obj}{es es':Array (Int×Value)}{ep ep':Nat}{t t':SetTable}{Q:List (Int×Value)→Shared→Prop}(ho:s.heap.get? a=some oa)(hd:oa.data=.set es ep t)(hf:t.fits es.size=true)(aw:s.heap.get? b=some ob)(dj:ob.data=.set es' ep' t')(mD:t'.fits es'.size=true)(he:ElemsOf knd es.toList)(aW:ElemsOf knd es'.toList)(h:Q es.toList s):ZG (Builtin.Frozenset.walkUnseen a b) Q E s:=by
 unfold Builtin.Frozenset.walkUnseen setEntries;refine wpAny_bind (HN (Y4 hd hf RM));refine wpAny_bind (HN (Bl RM));refine wpAny_bind (Fw (λrest q s'=>s'=s∧q=(none,())∧∀e∈rest,e.2.scannable=true) _ ?_ ?_ _ _ ⟨rfl,rfl,λe h=>(Qe.mp h).elim (λh=>(he e h).2) λh=>(aW e h).2⟩)
 ·rintro⟨i,x⟩ rest q s' ⟨rfl,rfl,hs⟩;refine wpAny_bind (quiet (hs _ Qd) ?_);exact wpAny_pure ⟨rfl,rfl,λe he=>hs e (QL he)⟩
 rintro q s' ⟨rfl,rfl,-⟩;exact wpAny_pure h
def subset{id:String}{a b:Nc}{S T:K→Bool}{n m:Nat}{Q:Bool→Shared→Prop}(hS:Ph a S n)(hT:Ph b T m)(dC:n≤m)(h:∀r:Bool,(r=true↔∀k,S k=true→T k=true)→Q r s):ZG (Builtin.Frozenset.subsetOf id a b) Q E s:=by
 have mQ:=hT;obtain⟨oa,es,ep,t,ho,l0,hd,he,hm,hb,hf,rfl⟩:=hS;obtain⟨ob,es',ep',t',aw,v7,dj,aW,uF,mK,mD,rfl⟩:=hT;unfold Builtin.Frozenset.subsetOf Builtin.Frozenset.sizeOf setEntries;refine wpAny_bind Pl;refine wpAny_bind zC;rw[if_neg (Hd dC)];refine wpAny_bind (ME ?_);refine wpAny_bind (walk ho hd hf aw dj mD he aW ?_);refine wpAny_bind (Fw (λrest q s'=>s'=s∧q=(none,())∧(∀e∈rest,e∈es.toList)∧∀k,(∃e∈es.toList,knd.is k e.2=true)→(∃e∈rest,knd.is k e.2=true)∨T k=true) _ ?_ ?_ _ _ ⟨rfl,rfl,λe h=>h,λk h=>.inl h⟩)
 ·rintro⟨i,x⟩ rest q s' ⟨rfl,rfl,hs,hk⟩;obtain⟨⟨k,uN,hh⟩,je⟩:=he _ (hs _ Qd);have hh:i=knd.hash k:=hh;subst hh;refine wpAny_bind (wpAny_holding (wpAny_setFind_of uN je mQ λr hr=>?_));cases bQ:r with
  |none=>rw[bQ]at hr;exact wpAny_pure (wpAny_pure (h false ⟨λz=>(by cases z),λz=>(by have:=z k ((hm k).mpr ⟨_,hs _ Qd,uN⟩);rw[←hr]at this;cases this)⟩))
  | some j=>
   rw[bQ]at hr;refine wpAny_bind ?_;unfold Builtin.Frozenset.unchanged;refine wpAny_bind (ME ?_);rw[if_neg Hb];refine wpAny_pure (wpAny_pure ⟨rfl,rfl,λe he=>hs e (QL he),λk' gT=>?_⟩);rcases hk k' gT with⟨e,v9,q⟩|q
   ·rcases Qj.mp v9 with z|z
    ·subst z;rw[show k'=k from knd.inj _ _ _ q uN];exact .inr hr.symm
    exact .inl ⟨e,z,q⟩
   exact .inr q
 rintro q s' ⟨rfl,rfl,-,hk⟩;refine wpAny_pure (h true ⟨λ_ k uQ=>?_,λ_=>rfl⟩);rcases hk k ((hm k).mp uQ) with⟨e,v9,_⟩|q
 ·cases v9
 exact q
def entry_ne:entryFor table "set.__ne__" = some Builtin.«frozenset.__ne__»:=
 entryFor_alias (id':= "frozenset.__ne__") (by kernel_rfl) rfl Hz (by kernel_rfl)
def ne{a b:Nc}{S T:K→Bool}{n m:Nat}{Q:Na}(hS:Ph a S n)(hT:Ph b T m)(hu:A.units<cLine)(h:∀r:Bool,(r=false↔n=m∧∀k,S k=true→T k=true)→Q (AH r) s):ZG (compareOp .NotEq Rm Io) Q E s:=by
 refine wpAny_richCompare_same_room (op:=.NotEq) hS.typeIs hT.typeIs PySem.F.slot_set_ne (wpAny_call_entry PySem.F.slot_set_ne hS.typeIs entry_ne ?_ (PySem.F.args_set_ne_2 _ _)) hu;have gE:=hS;have mQ:=hT;obtain⟨oa,es,ep,t,ho,l0,hd,he,hm,hb,hf,rfl⟩:=hS;obtain⟨ob,es',ep',t',aw,v7,dj,aW,uF,mK,mD,rfl⟩:=hT;show ZQ _ (Builtin.Frozenset.slot1 "__ne__" ⟨[Rm,Io],[]⟩ >>= _) _ _ s;refine wpAny_bind ?_;unfold Builtin.Frozenset.slot1;show ZQ _ (pure (Lg a,Lg b)) _ _ s;refine wpAny_pure ?_;unfold Builtin.Frozenset.isAnySet;refine wpAny_bind (HN (wpAny_isInstance (T:= "set") mQ.typeIs PySem.F.sub_set_set ?_));refine wpAny_pure ?_;rw[if_neg Hb];refine wpAny_bind (CJ (HN RM));unfold Builtin.Frozenset.sizeOf setEntries;refine wpAny_bind Pl;refine wpAny_bind zC;dsimp only;refine wpAny_bind ?_;by_cases hn:es.size=es'.size
 ·rw[Sz (Hd hn)];refine wpAny_bind (HN (wpAny_isInstance (T:= "set") gE.typeIs PySem.F.sub_set_frozenset ?_));refine wpAny_pure ?_;rw[if_neg Hb];refine subset gE mQ Hc λr hr=>wpAny_pure ⟨_,rfl,(λx=>nomatch x),h _ ?_⟩;rw[Ka,hr];exact⟨λq=>⟨hn,q⟩,λq=>q.2⟩
 rw[Sk (Hd hn)];exact wpAny_pure (wpAny_pure ⟨_,rfl,(λx=>nomatch x),h true ⟨λz=>(by cases z),λz=>absurd z.1 hn⟩⟩)
end
end SetE
namespace SetF
open PySem PyProof.Rows PySem.Spec
def above_le{n:Nat}:∀(f k:Nat),SetTable.sizeAbove.go n f k≤max k (2*n):=by
 intro f;induction f with
 |zero=>intro k;exact Gg _
 |succ f ih=>
  intro k;unfold SetTable.sizeAbove.go;split
  ·exact Zn (ih _) Hc
  exact Gg _
def laid_nil(mask finger moves:Nat)(led plain:Bool):SetTable.laid mask finger moves led plain #[]=some ({mask,place:=#[],dummies:=#[],finger,led,moves,plain},#[]):=by have e:SetTable.layClean mask #[]=some (Array.replicate (mask+1) none):=rfl;unfold SetTable.laid;rw[e];simp;intro a h;simp[h]
section
variable{prog:Nk}{w:Nn}{A:Np}{E:Na}{s:Ni}
def room{K:Type}[DecidableEq K]{knd:KeyKind prog w K}{a:Nc}{n:Nat}{led:Bool}{Q:Unit→Shared→Prop}(ho:s.heap.get? a=some { cls:=.type "set",dict:=none,data:=.set #[] 0 Sh })(hn:n≤1000)(h:∀g,g.SetOf knd a (λ_=>false) 0→U8 g→Q () {s with heap:=g}):ZG (setRoomFor a n) Q E s:=by
 have hf:(Bm led).fits (#[]:Array (Int×Value)).size=true:=rfl;unfold setRoomFor;refine wpAny_bind (Y4 rfl hf ?_);dsimp only;split
 ·rename_i wt hw;have qI:wt=n*2:=by
   unfold SetTable.roomFor at hw;split at hw
   ·have:=Qn hw;simpa[SetTable.fresh] using this.symm
   cases hw
  subst qI;unfold setRelay;refine wpAny_bind (Y4 rfl hf ?_);dsimp only;have hb:SetTable.sizeAbove (n*2)≤sizeLine:=by have h1:SetTable.sizeAbove (n*2)≤max 8 (2*(n*2)):=above_le 64 8;have:=sizeLine_eq;lia
  rw[if_neg (Nat.not_lt.mpr hb)];have hl:(Bm led).relaid ((#[]:Array (Int×Value)).map (·.1)) (n*2)=some ({mask:=SetTable.sizeAbove (n*2)-1,place:=#[],dummies:=#[],finger:=0,led:=led,moves:=(Bm led).movedTo (SetTable.sizeAbove (n*2)-1),plain:=true},#[]):=by rw[show(#[]:Array (Int×Value)).map (·.1)=#[] by simp];exact laid_nil _ _ _ _ _
  rw[hl];refine wpAny_bind ?_;show ZQ _ (pure ((#[]:Array (Int×Value)),_)) _ _ _;refine wpAny_pure ?_;dsimp only;obtain⟨h1,h2⟩:=SetOf_store (knd:=knd) (S':=λ_=>false) (es':=#[]) (t':={mask:=SetTable.sizeAbove (n*2)-1,place:=#[],dummies:=#[],finger:=0,led:=led,moves:=(Bm led).movedTo (SetTable.sizeAbove (n*2)-1),plain:=true}) ho ⟨rfl,rfl,rfl⟩ rfl (λe he=>by simp at he) (λk=>by simp) Hg rfl;exact wpAny_storeSet_of ho rfl (h _ h2 (by exact Ue _ _ _)) Hg
 exact wpAny_pure (h s.heap ⟨_,#[],0,_,ho,⟨rfl,rfl,rfl⟩,rfl,λe he=>by simp at he,λk=>by simp,Hg,hf,rfl⟩ (D1 _))
def fill{d S:Nc}{kvs:List (L2.Key×Value)}{zs:Ng}{led:Bool}{Q:Unit→Shared→Prop}(lo:(d==sysModules)=false)(hd:s.heap.DictOf (L2.mixKind prog w) d kvs)(hz:kvs.map (·.1)=zs.map Sum.inr)(hl:zs.length≤1000)(az:d≠S)(ho:s.heap.get? S=some {cls:=.type "set",dict:=none,data:=.set #[] 0 Sh})(h:∀g,g.SetOf E5 S (λx=>decide (x∈zs)) Oh→Dd g→Q () {s with heap:=g}):ZG (Builtin.Frozenset.updateFrom "set.__init__" S OY) Q E s:=by
 have hT:=hd.typeIs;obtain⟨od,es,ep,eI,hxd,eR,hkd,gQ,_⟩:=hd;have ad:kvs.length=es.size:=by rw[←gQ.length];exact Zy
 have cu:zs.length=es.size:=by have:=congrArg List.length hz;rw[Qa,Qa]at this;lia
 unfold Builtin.Frozenset.updateFrom Builtin.Frozenset.isAnySet;refine wpAny_bind (HN (wpAny_isInstance (T:= "dict") hT PySem.F.sub_dict_set ?_));refine wpAny_isInstance (T:= "dict") hT PySem.F.sub_dict_frozenset ?_;rw[if_neg Hb];refine wpAny_bind (wpAny_typeOf hT ?_);rw[if_pos Hg];refine wpAny_bind (wpAny_rule ?_);refine wpAny_bind RM;rw[if_neg (Hm lo Zj)];refine wpAny_bind (XB ?_);refine wpAny_bind (BD ?_);refine wpAny_bind (room (knd:=Z2 w) ho Hc λg1 hS1 sb1=>?_);have ux:g1.get? d=some od:=(sb1.2 d az).trans eI;refine wpAny_bind (wpAny_dictEntries ux eR ?_);refine wpAny_bind ?_;rw[Std.Legacy.Range.forIn_eq_forIn_range'];simp only[Std.Legacy.Range.size,Nat.sub_zero,Nat.add_sub_cancel,Nat.div_one];refine wpAny_forIn_list _
  (λrest _ s'=>∃i g,s'={s with heap:=g}∧rest=List.range' i (es.size-i)∧i≤es.size∧g.SetOf E5 S (λx=>decide (x∈zs.take i)) (SetD.cn (OA i))∧Dd g)
  _ ?_ ?_ _ _ ⟨0,g1,rfl,Hb,Tq,SetOf_congr hS1 (λ_=>by simp) rfl,sb1⟩
 ·rintro x rest _ s' ⟨i,g,rfl,hr,hi,hS,sb⟩;have ae:i<es.size:=by
   rcases Ji i es.size with h|h
   ·exact h
   rw[Nat.sub_eq_zero_of_le h]at hr;simp at hr
  obtain⟨rfl,oC⟩:x=i∧rest=List.range' HY (es.size-HY):=by
   have e:es.size-i=(es.size-HY)+1:=by lia
   rw[e,List.range'_succ]at hr;injection hr with h1 h2;exact⟨h1,h2⟩
  have oR:g.get? d=some od:=(sb.2 d az).trans eI;refine wpAny_bind (wpAny_dictEntries oR eR ?_);rw[Yp ae];have ig:x<zs.length:=by lia
  have eN:x<kvs.length:=by rw[ad];exact ae
  obtain⟨k,v,hkv⟩:∃k v,kvs[x]=(k,v):=⟨_,_,rfl⟩;have hk:k=Sum.inr zs[x]:=by have e:=congrArg (·[x]?) hz;simp only[Qo,Qb eN,Qb ig,Option.map_some,hkv]at e;exact Qn e
  obtain⟨cX,iz⟩:=gQ.get? (i:=x) (e:=es[x]) (k:=k) (v:=v) (by rw[Uv];exact Yp ae) (by rw[Qb eN,hkv]);obtain⟨k',gT,hh⟩:=hkd es[x] (Array.getElem_mem ae);have ekk:k'=k:=(L2.mixKind prog w).inj _ _ _ gT cX;rw[ekk,hk]at hh;rw[hk]at cX;have je:es[x].key.scannable=true:=by
   rcases L2.keyIs_shape (k:=Sum.inr zs[x]) (v:=es[x].key) cX with⟨_,_,e,_⟩|⟨_,_,_,e⟩
   ·cases e
   rw[e];rfl
  have hh2:es[x].hash=(Z2 w).hash zs[x]:=hh;dsimp only;rw[hh2];refine wpAny_bind (wpAny_holding (wpAny_setAddHashed_of (knd:=Z2 w) (k:=zs[x]) cX je hS (by have:=SetD.cn_le (OA x);rw[Za]at this;unfold scanBound;lia) λg2 dm vB=>?_));have uw:g2.get? d=some od:=(dm.2 d az).trans oR;refine wpAny_bind (wpAny_dictEpoch uw eR ?_);rw[if_neg Hb];refine wpAny_pure ⟨x+1,g2,rfl,oC,ae,?_,sb.trans dm⟩;refine SetOf_congr vB (λy=>?_) (by rw[Qk ig,SetD.cn_snoc];by_cases q:zs[x]∈zs.take x<;>simp[q]);rw[Yn];simp only[Jd,decide_eq_true_eq];rw[Qk ig,Qe,Qc]
 rintro _ s' ⟨i,g,rfl,hr,hi,hS,sb⟩;have c8:i=es.size:=by have:=congrArg List.length hr;simp at this;lia
 subst c8;rw[Qr Hc]at hS;exact wpAny_pure (h g hS sb)
end
end SetF
namespace L2
open PySem PySem.Spec PyProof.Rows
section
variable{X:Cx}
def zju(hc:X.calm=true):YH (.type "set") (λxs H Q=>Ex3 λ(d:Nc) (kvs:Tn (Key×V)) (zs:Ng)=>Aj5 (xs=[OY]) Pk (kvs.map (·.1)=zs.map Sum.inr) (zs.length≤1000) (∀l,H l=none→Q Tb (ZS l (Q1 l zs)))):=by
 intro a7 s σ H xs us Q I r h;obtain⟨d,kvs,zs,rfl,hq,hk,hz,q⟩:=h;obtain⟨u,rfl,rx⟩:=vals1 r;cases rx;obtain⟨z,lo,vs,ep,rk,ha,hl⟩:=VY hq;have hvk:vs.map (·.1)=zs.map Sum.inr:=by
  rw[←hk];clear ha hl hq hk z;induction rk with
  |nil=>rfl
  |cons e _ ih=>exact congr (congrArg List.cons e.1.symm) ih
 have ae:d<s.heap.objs.size:=ha.lt_size;refine SetD.call_gen (zs:=zs) SO (λled B F R hB h=>?_) λg tk hS k=>?_
 ·obtain⟨o,es,ep,ho,rest⟩:=ha.dictOf;refine SetF.fill (kvs:=vs) lo ⟨o,es,ep,QQ ho,rest⟩ hvk hz (Zi ae) Tc λg hS sb=>h g s.toks hS λb ob e=>?_;exact(sb.2 b Cw).trans Cz
 refine⟨Hf _,_,I.laid (t':=tk) k HM (show ZY _ g _ Ax from⟨hS,?_,λh1 h2 p1 k1=>?_⟩),rfl,AC⟩
 ·obtain⟨o,_,_,_,e,_⟩:=hS;exact⟨o,e⟩
 obtain⟨o,es,ep,t,e,rest⟩:=p1;exact⟨o,es,ep,t,k1 o e,rest⟩
def op_ne_sets(hu:X.A.units<cLine):QJ (λx y H Q=>Ex4 λ(a b:Nc) (zs ws:Ng)=>Aj5 (x=.ref a) (y=.ref b) (Cj (Q1 a zs)) (RU b (Q1 b ws)) (∀r:Bool,(r=false↔SetD.cn zs=SetD.cn ws∧∀x∈zs,x∈ws)→Q (.bl r) H)):=by intro a7 s σ H x y v u Q I rx ry h;obtain⟨a,b,zs,ws,rfl,rfl,h1,h2,q⟩:=h;cases rx;cases ry;obtain⟨hS,_⟩:=(show ZY H s.heap a (Q1 a zs) from YD h1);obtain⟨hT,_⟩:=(show ZY H s.heap b (Q1 b ws) from UX _ h2);refine SetE.ne hS hT hu λr hr=>⟨.bl r,H,I,rfl,q r (hr.trans ?_)⟩;exact⟨λh=>⟨h.1,λx hx=>of_decide_eq_true (h.2 x (Rh hx))⟩,λh=>⟨h.1,λx hx=>decide_eq_true (h.2 x (Te hx))⟩⟩
end
end L2
namespace K21
open PySem L2 Wb PySem.W
abbrev zdd:Stmt:=top 25
structure Nm(H:Hp)(u:Nc)(ps:List (Str×V)):Prop where
 dc:H u=some (.dK (ps.map λp=>((Sum.inr p.1:Key),p.2)))
 nd:(ps.map (·.1)).Nodup
 od:∀p∈ps,Vc p.2
def Nm.keep{H H':Hp}{u:Nc}{ps:List (Str×V)}(h:Nm H u ps)(k:Keep [] H H'):Nm H' u ps:=⟨k _ _ h.dc Hb,h.nd,λp hp=>(h.od p hp).keep k⟩
def vl(ps:Tn (Str×V))(x:Str):V:=(valV (ps.map λp=>((Sum.inr p.1:Key),p.2)) TQ).getD .non
def valP{ps:List (Str×V)}(nd:(ps.map (·.1)).Nodup){p:Str×V}(h:p∈ps):valV (ps.map λp=>((Sum.inr p.1:Key),p.2)) yD=some p.2:=by
 induction ps with
 |nil=>cases h
 |cons q t ih=>
  rw[Ql,Qw]at nd;rcases Qj.mp h with rfl|h
  ·exact zct rfl
  rw[Ql,zb2 (λz=>nd.1 (Ob ⟨p,h,(Ug z).symm⟩))];exact ih nd.2 h
def vl_in{ps:List (Str×V)}(nd:(ps.map (·.1)).Nodup){p:Str×V}(h:p∈ps):B9 p.1=p.2:=by unfold vl;rw[valP nd h];rfl
abbrev zf3(ps:Tn (Str×V))(ns:Ng):Prop:=∀y,y∈ps.map (·.1)↔y∈ns
abbrev AllN(ps:Tn (Str×V))(g:Nq):Prop:=∀p∈ps,p.2=.str (g p.1)∧zbf (g p.1)
abbrev InjN(ps:Tn (Str×V))(g:Nq):Prop:=∀p∈ps,∀q∈ps,g p.1=g q.1→p.1=q.1
inductive IspRen(C np c1 c2:Nc)(vs:List V)(H:Hp)(Q:VK)(E:XK):Prop
 | mk (x dx d u:Nc) (ts:List Ent) (ps:List (Str×V)) (cs:List (List (Str×Str))) (a9:Nq) (h0:vs=[.ref x,.ref u]) (h1:WAt H C x dx d ts) (h2:Nm H u ps) (h3:Cert (ts.map (·.1)) (row (rsOf ts)) cs a9) (h4:ts.length≤40) (h4':ps.length≤100)
   (h5:¬Vy (ts.map (·.1))→∀H',Keep [] H H'→E Ch none H')
   (h6:Vy (ts.map (·.1))→¬(∀p∈ps,nmV p.2=true)→∀H',Keep [] H H'→E AN none H')
   (h7:Vy (ts.map (·.1))→∀g,XV g→¬XW g→∀H',Keep [] H H'→E AO none H')
   (h8:Vy (ts.map (·.1))→∀g,XV g→XW g→∀(x' rN d':Nc) (fs i6:List Ent) (aF:List HQ) (af:Nq) (H':Hp),Img (ext (ts.map (·.1)) g) (List.map (ext (ts.map (·.1)) g)) fs ts→Cert (fs.map (·.1)) PK aF af→Gf i6→TrF (fs.map (·.1)) PK i6→Keep [] H H'→Q (Hf x') H'):IspRen C np c1 c2 vs H Q E
def spRen(C np c1 c2:Nc):Sp:=IspRen C np c1 c2
abbrev csRn:Scope:=scOf (aOf 0 (eOf (sAt zdd 1)))
abbrev csRo:Scope:=scOf (match aOf 0 (eOf (sAt zdd 1)) with | .ListComp (.Tuple es _ _) _ _ _=>es.getD 1 (.Name "" ⟨0,0,0,0⟩)|e=>e)
def ndRn:(["place", "web", "names"]:List Str).Nodup:=by decide+kernel
def ndRo:(["other", "names"]:List Str).Nodup:=by decide+kernel
def csRo_f(h:env.scope=zaj zdd):∀y∈csRo.names,y.2=.free→(relabel csRn env).names.lookup y.1=some .cell∨(relabel csRn env).names.lookup y.1=some .free:=by
 unfold relabel Env.kindOf;rw[h]
 decide+kernel
def csRo_l:csRo.names.lookup ("names" : Str)=some NameKind.free:=by decide+kernel
abbrev RnR(ps:Tn (Str×V)):List Ro→List Ent→Prop:=Paired λr t=>r.1=B9 t.1∧r.2.1=t.2.1.map TN
def same_set{zs ws:Ng}(h1:zs.Nodup)(h2:ws.Nodup):(SetD.cn zs=SetD.cn ws∧∀x∈zs,x∈ws)↔∀y,y∈zs↔y∈ws:=by
 have c1:SetD.cn zs=zs.length:=(EH zs).2.2.2.mpr h1;have c2:SetD.cn ws=ws.length:=(EH ws).2.2.2.mpr h2;rw[c1,c2];constructor
 ·rintro⟨h,hs⟩ y;refine⟨hs y,λhy=>Kj λhn=>?_⟩;have:=zcp (EO ⟨hn,h1⟩) (λx hx=>(PQ hx).elim (λz=>z▸hy) (hs x));rw[Zk]at this;lia
 intro h;exact⟨Kn (zcp h1 λy hy=>(h y).mp hy) (zcp h2 λy hy=>(h y).mpr hy),λy hy=>(h y).mp hy⟩
def nodup_inj{f:Nq}{l:Ng}(h:(Iy f).Nodup){a b:Str}(ha:a∈l)(hb:b∈l)(e:f a=f b):a=b:=by
 induction l with
 |nil=>cases ha
 |cons x t ih=>
  rw[Ql,Qw]at h;rcases Qj.mp ha with q|q<;>rcases Qj.mp hb with r|r
  ·rw[q,r]
  ·exact absurd (Ob ⟨b,r,by rw[←q];exact e.symm⟩) h.1
  ·exact absurd (Ob ⟨a,q,by rw[←r];exact e⟩) h.1
  exact ih h.2 q r
def rn_img{ps:List (Str×V)}{g:Nq}{f:Nq}{rs:List Ro}{ts es:List Ent}(hr:RnR ps rs ts)(hE:Vw es)(hg:∀ t∈ts,B9 t.1=.str (f t.1)∧∀ y∈t.2.1,B9 y=.str (f y)):UN es ts:=by
 induction hr generalizing es with
 |nil=>cases hE;exact .nil
 | @cons r t _ _ h _ ih=>
  cases hE with
  |@cons _ e _ _ h2 t2=>
   obtain⟨g1,g2⟩:=hg t Qd;refine .cons ⟨?_,?_⟩ (ih t2 λt ht=>hg t (QL ht))
   ·have:=h2.1.symm.trans (h.1.trans g1);injection this
   have e1:=h2.2.1.symm.trans h.2;rw[Wd (g:=λy=>V.str (f y)) g2,←Function.comp_def V.str f,←Zc]at e1;exact List.map_inj_right (λx y z=>by injection z) |>.mp e1
section
variable{P:Nk}{w:Nn}{K:Nb}{mg:Nh}{base:No}{C np c1 c2:Nc}
def scRenamed:zam ["web", "names"] ["web", "names"] (zaj zdd):=fsk
def ok_renamed(F:Z5 "renamed" "renamed" zdd f fd)(cW:V8 C)(cP:Exc K np)(nP:mg "NoPlace" = some Ch)(MW:Mk K C fi)(mW:mg "Web" = some SE)(bI:QH fdi ["self", "rows"] [])(GI:ZC Ec 4 fi fdi ["self", "rows"] (DH c2))(GA:WZ "places" ["self"] 1 zk)(GR:WZ "round_of" ["self", "place"] 1 zA)(eD:mg "set" = none):ZC Ec 6 f fd ["web", "names"] (M0 c2):=by
 refine F.okX scRenamed (λvs H Q E h=>by obtain⟨x,dx,d,u,ts,ps,cs,a9,rfl,_⟩:=h;rfl) HZ;obtain⟨x,dx,d,u,ts,ps,cs,a9,rfl,wt,N,Ct,bn,aU,kp,kn,kt,kq⟩:=h;have hu:=zb9 hr;have be:=Wn hu;have aP:KL _:=hr.mono Hg;have aH:=sizeLine_eq;obtain⟨mA,bA,GA⟩:=GA;obtain⟨mR,bR,GR⟩:=GR;refine⟨_,zae (Am (zan (op_ne_sets be) (zba (zju rfl) Ho eD Xe Sn) (MV Ho eD Xe (RG (zga (pl:=_) (pv 0) cW mA GA aP bA .nil zbb))) Sq) (zag (zi4 cP rfl nP CS)))
  (zag (zaz (MY hr rfl mW bI .nil (passR (E':=E) λ_ _ _ h=>h) (zaa (zd5 (M:=["place", "web", "names"]) (ix:=[none,RH 0,RH 1]) (mkB scRenamed) rfl (za6 (zga (pl:=_) Sd cW mA GA aP bA .nil zbb)) (λC a7 ex s H=>UQ ndRn) (λC a7 ex s H=>zbw)
   (λC a7 ex s H=>zbz (zaa (zdg (by exact hu) Sr Sd) (zaa (zd5 (M:=["other", "names"]) (ix:=[none,RH 2]) ⟨by rfl,by decide+kernel,by decide+kernel,csRo_f rfl,rfl,ndRo,λj i x h1 h2=>by
     match j,h1,h2 with
     |0,_,h2=>cases h2
     |1,h1,h2=>cases h1;cases h2;exact⟨rfl,csRo_l⟩
     |n+2,h1,_=>cases h1⟩ rfl (pi_listK (K:=K) rfl (pe_meth (pl:=_) Sf (by exact cW) mR GR (by exact aP) bR .nil zbb SA)) (λC a7 ex s H=>UQ ndRo)
     (λC a7 ex s H=>zbw) (λC a7 ex s H=>zdg (by exact hu) Sf Sd)) zac)))) zac)))),?_⟩
 have hkz:(ps.map λp=>((Sum.inr p.1:Key),p.2)).map (·.1)=(ps.map (·.1)).map Sum.inr:=by rw[Zc,Zc];rfl
 refine⟨xf,u,_,ps.map (·.1),rfl,.inl N.dc,hkz,SJ,λl1 ax=>?_⟩;generalize q1:ZS l1 _=H1;obtain⟨k1,g1⟩:=nwk ax q1;have qt:WAt H1 C x dx d ts:=wt.keep k1 Hb Hb λ_ _=>by simp
 refine⟨xf,x,dx,xf,qt.ob,rfl,x,dx,d,ts,rfl,qt,λl2 aj=>?_⟩;generalize q2:QN l2 _=H2;obtain⟨k2,g2⟩:=nwk aj q2;refine⟨l2,ts.map (·.1),rfl,Hn g2,SJ,λl3 cg=>?_⟩;generalize q3:Q3 l3 _=H3;obtain⟨k3,g3⟩:=nwk cg q3;have cK:=(Tv k2).trans k3;refine⟨l1,l3,_,xf,rfl,k3 _ _ LX Hb,g3,λr uf=>⟨_,rfl,?_⟩⟩;rw[same_set N.nd Ct.nd]at uf;cases r with
 |true=>exact Q6 ⟨LR,kp (λz=>by have:=uf.mpr z;cases this) _ cK⟩
 |false=>
 refine QF ?_;have cD:Vy (ts.map (·.1)):=uf.mp rfl;have eZ:MZ d ts:=wt.keep cK Hb Hb λ_ _=>by simp
 have N3:=N.keep cK;have inP:∀y∈ts.map (·.1),∃p∈ps,p.1=y∧B9 y=p.2:=λy hy=>by obtain⟨p,hp,e⟩:=Qf.mp ((cD y).mpr hy);have e:p.1=y:=e;exact⟨p,hp,e,e▸KP hp⟩
 have inR:∀e∈ts,∀y∈e.2.1,y∈ts.map (·.1):=λe he y hy=>Ct.inn' (x:=e.1) (by rw[GK he];exact hy);have dg:∀G:Hp,Nm G u ps→∀y∈ts.map (·.1),DGet G u (Sw y) (RH (B9 y)):=λG n y hy=>by obtain⟨p,hp,rfl,e⟩:=inP y hy;rw[e];exact .inl ⟨_,yD,.inl n.dc,rfl,(valP N.nd hp).symm⟩
 refine⟨xf,x,dx,xf,eZ.ob,rfl,x,dx,d,ts,rfl,eZ,λl4 dP=>?_⟩;generalize q4:QX l4 _=H4;obtain⟨k4,g4⟩:=nwk dP q4;have aA:((ts.map (·.1)).map V.str).length=ts.length:=by rw[Qa,Qa]
 refine⟨l4,rfl,⟨_,Hn g4⟩,λn q ys τ H'=>Ex2 λ(aq:Nl) (rs:List Ro)=>Aj8 (q=ts.length-n) (n≤ts.length) (ys=aq.map V.ref) (Ex1 λx0=>τ=[x0,Hj x,Hj u]) (Paired (λa (r:Ro)=>H' a=some (.tup [r.1,.ref r.2.2])) aq rs) (∀r∈rs,H' r.2.2=some (.lst r.2.1)) (RnR ps rs (ts.take n)) (Keep [] H4 H'),
  ⟨ts.length,[],[],rfl,Tq,rfl,⟨none,rfl⟩,.nil,(λe he=>by cases he),.nil,Keep.refl⟩,?_⟩
 rintro n q ys τ H5 ⟨aq,rs,rfl,hn,rfl,⟨x0,rfl⟩,ap,aY,aV,k5⟩;have c9:aq.length=n:=by rw[Zh ap,Zh aV,Za];lia
 by_cases ae:n<ts.length
 ·refine .inr ⟨⟨_,.str ts[n].1,yV,by rw[Qo,Qo,Qb ae];rfl⟩,by rw[Qa];lia,?_⟩;rintro v H6 ⟨rfl,hv⟩;have bD:=hv _ yV;rw[Qo,Qo,Qb ae]at bD;obtain rfl:V.str ts[n].1=v:=Qn bD;have aG:ts[n]∈ts:=Qq ae;have tk:ts.take (n+1)=ts.take n++[ts[n]]:=Qk ae;generalize ts[n]=e at aG tk ⊢;have k46:=k4.trans k5;have wt6:WAt H6 C x dx d ts:=eZ.keep k46 Hb Hb λ_ _=>by simp
  have N6:=N3.keep k46;refine⟨xf,xf,u,xf,dg _ N6 _ (Rw e aG),?_⟩;refine⟨xf,x,dx,xf,wt6.ob,rfl,xf,x,dx,d,ts,e,rfl,wt6,aG,λl7 aR=>?_⟩;generalize q7:BU l7 _=H7;obtain⟨k7,g7⟩:=nwk aR q7;refine⟨l7,rfl,⟨_,Hn g7⟩,?_⟩;have bM:=zfg Ct bn e aG;refine lc_at (xs:=e.2.1.map V.str) (λ τ=>∃x0,τ=[x0,Hj u]) (e.2.1.map TN) (by rw[Qa,Qa]) (Hn g7) SJ ⟨none,rfl⟩ ?_ (λD hD=>?_)
  ·rintro i hi di τ ⟨x1,rfl⟩ kk hk;rw[Qa]at hi;rw[Zp]at hk ⊢;exact⟨xf,xf,u,xf,dg _ (N6.keep k7) _ (inR e aG _ EA),hk _ ⟨xf⟩⟩
  generalize q8:JE D _=H8;obtain⟨k8,g8⟩:=Vu q8;refine⟨LE,λt9 fG=>?_⟩;have k9:Keep [] H6 (JD t9 (.tup [B9 e.1,Sv])):=(k7.trans k8).trans (Ht fG);refine⟨_,Hy,aq++[t9],rs++[(B9 e.1,e.2.1.map TN,D)],rfl,ae,by rw[Qp];rfl,⟨xf⟩,?_,λe' aW=>?_,?_,TU k9⟩
  ·exact zal (RZ k9 ap) On
  ·rcases Qe.mp aW with z|z
   ·exact k9 _ _ AV Hb
   rw[Qc.mp z,zaf (AK g8 fG)];exact g8
  rw[tk];exact zal aV (.cons ⟨rfl,rfl⟩ .nil)
 have c8:n=ts.length:=by lia
 subst c8;rw[Qr HM]at aV;refine .inl ⟨⟨_,yV,HS aA⟩,λD hD=>?_⟩;generalize q6:Q4 D _=H6;obtain⟨k6,g6⟩:=Vu q6;have k06:=cK.trans ((yC k5).trans k6);have RO:RoAt H6 D aq rs:=⟨g6,AA,λe he=>k6 _ _ O2 Hb⟩;refine λx7 dx7 mf va hne7=>?_;have k7:=new_ins (C:=C) mf va;have N7:=(N.keep k06).keep k7;have odV:∀y∈ts.map (·.1),Odd _ (B9 y):=λy hy=>by obtain⟨p,hp,_,e⟩:=inP y hy;rw[e];exact N7.od p hp
 have mem:∀r∈rs,∃t∈ts,r.1=B9 t.1∧r.2.1=t.2.1.map TN:=λr hr=>by obtain⟨i,hi,rfl⟩:=Ze hr;obtain⟨h2,h3⟩:=za1 aV hi;exact⟨_,Qq h2,h3⟩
 have kk:∀H',Keep [x7] _ H'→Keep [] H H':=λH' k8=>k06.trans (zjg mf k7 k8);refine⟨x7,dx7,D,aq,rs,rfl,zad,RO.keep k7,by rw[Zh aV];exact bn,λr hr=>?_,λH' k8 hf=>kn cD (λz=>?_) H' (kk H' k8),λes hE am=>?_⟩
 ·obtain⟨t,ht,e1,e2⟩:=mem r hr;refine⟨by rw[e2,Qa];exact Zn (zfg Ct bn t ht) Hg,e1▸odV _ AW,λv hv=>?_⟩;rw[e2]at hv;obtain⟨y,hy,rfl⟩:=Qf.mp hv;exact odV y EI
 ·have:rs.all okR=true:=Zw.mpr λr hr=>by
   obtain⟨t,ht,e1,e2⟩:=mem r hr;have nv:∀y∈ts.map (·.1),nmV (B9 y)=true:=λy hy=>by obtain⟨p,hp,_,e⟩:=inP y hy;rw[e];exact z p hp
   refine Zw.mpr λv hv=>?_;rcases Qj.mp hv with rfl|hv
   ·rw[e1];exact nv _ AW
   rw[e2]at hv;obtain⟨y,hy,rfl⟩:=Qf.mp hv;exact nv y EI
  rw[this]at hf;cases hf
 obtain⟨g,hg⟩:∃ g,XV g:=by
  refine⟨λx=>match vl ps x with | .str z=>z|_=>x,λp hp=>?_⟩;obtain⟨t,ht,et⟩:=Qf.mp ((cD p.1).mp AX);have et:t.1=p.1:=et;obtain⟨i,hi,e⟩:=Ze ht;have aB:i<rs.length:=by rw[Zh aV];exact hi
  obtain⟨_,h3⟩:=za1 aV aB;have h4:=Zw.mp (Zw.mp am _ Af) _ Qd;rw[h3.1,e,et]at h4;rw[KP hp]at h4;dsimp only;rw[KP hp]
  revert h4
  cases p.2 with
  |str z=>exact λh4=>⟨rfl,zef.mp h4⟩
  |_=>intro h4;cases h4
 have jt:∀y∈ts.map (·.1),B9 y=.str (g y)∧zbf (g y):=λy hy=>by obtain⟨p,hp,rfl,e⟩:=inP y hy;rw[e];exact hg p hp
 have qE:∀y∈ts.map (·.1),ext (ts.map (·.1)) g y=g y:=λy hy=>if_pos hy;have hI:Img (ext (ts.map (·.1)) g) (List.map (ext (ts.map (·.1)) g)) es ts:=rn_img (g:=g) aV hE λt ht=>by have h1:t.1∈ts.map (·.1):=Qf.mpr ⟨t,ht,rfl⟩;refine⟨by rw[qE _ h1];exact(jt _ h1).1,λy hy=>by rw[qE _ EI];exact(jt _ EI).1⟩
 have inj:XW g→∀a∈ts.map (·.1),∀b∈ts.map (·.1),g a=g b→a=b:=λh a ha b hb e=>by obtain⟨p,hp,rfl,_⟩:=inP a ha;obtain⟨q,hq,rfl,_⟩:=inP b hb;exact h p hp q hq e
 refine⟨λfg H' k8=>kt cD g hg (λz=>?_) H' (kk H' k8),λfg=>?_⟩
 ·have hx:=ext_inj (inj z) λy hy=>(jt y hy).2;obtain⟨aF,af,C'⟩:=zi0 hx Ct hI;have:twOk es=true:=by unfold twOk;rw[Jw,Wf,decide_eq_true_iff];refine⟨C'.nd,Zw.mpr λzs hz=>?_⟩;obtain⟨e,he,rfl⟩:=Qf.mp hz;have:=C'.rn e.1;rw[zbt C'.nd he]at this;exact decide_eq_true this
  rw[this]at fg;cases fg
 have hnn:(es.map (·.1)).Nodup:=by unfold twOk at fg;rw[Jw,Wf,decide_eq_true_iff]at fg;exact fg.1
 have dG:XW g:=λp hp q hq e=>by have h1:=(cD p.1).mp AX;have h2:=(cD q.1).mp (Rw q hq);rw[zb1 hI]at hnn;exact nodup_inj hnn h1 h2 (by rw[qE _ h1,qE _ h2];exact e)
 have hx:=ext_inj (inj dG) λy hy=>(jt y hy).2;obtain⟨aF,af,C'⟩:=zi0 hx Ct hI;exact⟨aF,af,C',λd8 ts8 es8 H8 w8 p8 t8 f8 s8 k8=>⟨rfl,kq cD g hg dG x7 dx7 d8 es ts8 aF af H8 hI C' w8 (tr_of C'.nd p8 t8 f8 s8) (kk H8 k8)⟩⟩
end
end K21
namespace DictZ
open PySem PyProof.Rows PySem.Spec
section
variable{prog:Nk}{w:Nn}{A:Np}{E:Na}{s:Ni}
def Held(h:No)(z TI TO:Nc):Prop:=∃(T:Nc) (b:Bool) (o:Obj),h.get? z=some {cls:=.type "zip",dict:=none,data:=.fields #[CG T,AH b,PM,Hf TI,Hf TO],slots:=#[]}∧h.get? T=some o∧T≠z
def alive{M:Model}{a:Nc}{Q:Option Obj→Shared→Prop}(h:Q (s.heap.get? a) s):YB (loadIfAlive a) Q E s:=λ_ _ _=>h
def free{z TI TO:Nc}{Q:Bool→Shared→Prop}(hz:GX TO)(h:∀g,Heap.SameBut z s.heap g→Held g z TI TO→Q false {s with heap:=g}):ZG (Builtin.SmallTypes.ownedTupleIsFree EQ) Q E s:=by
 obtain⟨T,b,o,hz,hT,lC⟩:=hz;unfold Builtin.SmallTypes.ownedTupleIsFree;refine wpAny_bind (Fx (x:=rawInt T) rfl ?_);show ZQ _ (loadIfAlive ((T:Int).toNat) >>= _) _ _ _;rw[Ul];refine wpAny_bind (alive ?_);rw[hT];rw[if_neg Hb];refine wpAny_bind (Fx (x:=.bool b) rfl ?_);cases b with
 |true=>exact wpAny_pure (h _ (D1 _) ⟨T,true,o,hz,hT,lC⟩)
 |false=>exact wpAny_bind (wpAny_setField_rec hz Hb λh₁ hz₁ hs₁=>wpAny_pure (h h₁ hs₁ ⟨T,true,o,hz₁,hs₁.extBut _ _ lC hT,lC⟩))
def Held.but{h h':No}{z TI TO c:Nc}(H:Held h z TI TO)(hz:z≠c)(k:∀b o,b≠c→h.get? b=some o→h'.get? b=some o)(hc:∃o,h'.get? c=some o):Held h' z TI TO:=by
 obtain⟨T,b,o,ik,hT,lC⟩:=H;by_cases e:T=c
 ·obtain⟨o',aw⟩:=hc;exact⟨T,b,o',k _ _ hz ik,e▸aw,lC⟩
 exact⟨T,b,o,k _ _ hz ik,k _ _ e hT,lC⟩
def next{z TI TO i1 i2 l1 l2:Nc}{k:Nat}{xs ys:Array Value}{Q:Fin→Shared→Prop}(hh:A.handled=none)(D:UA l2)(hz:GX TO)(jD:IsPair s.heap TI (Hf i1) (Hf i2))(h1:s.heap.IsListIter i1 l1 k)(h2:s.heap.IsListIter i2 l2 k)(ax:s.heap.IsList l1 xs)(aj:s.heap.IsList l2 ys)(hl:xs.size=ys.size)(hQ:∀ x y h',xs[k]?=some x→ys[k]?=some y→Held h' z TI TO→h'.IsListIter i1 l1 (k+1)→h'.IsListIter i2 l2 (k+1)→VO y →
   (∀c o,c≠z→c≠i1→c≠i2→s.heap.get? c=some o→h'.get? c=some o)→Q (.done (.ret Hr)) {s with heap:=h'})(hE:∀h' e,xs.size≤k→(∀c o,c≠z→c≠i1→c≠i2→s.heap.get? c=some o→h'.get? c=some o)→(∃o,h'.get? e=some o∧o.cls=.type "StopIteration")→E CA {s with heap:=h'}) :
  wpAny HH A (Builtin.«zip.__next__» ⟨[EQ],[]⟩) Q E s:=by
 obtain⟨T,b,o,ik,hT,lC⟩:=id hz;show ZQ _ (field EQ 2 >>= _) _ _ _;refine wpAny_bind (Fy (x:=.bool false) rfl ?_);show ZQ _ (field EQ 3 >>= _) _ _ _;refine wpAny_bind (Fy (x:=.ref TI) rfl ?_);refine wpAny_bind (wpAny_seqItems jD rfl ?_);show ZQ _ (Builtin.SmallTypes.ownedTupleIsFree EQ >>= _) _ _ _;refine wpAny_bind (free hz λh₁ hs₁ hz₁=>?_);clear ik hT;dsimp only;rw[if_neg Hb];refine wpAny_bind ?_;simp only[List.forIn_toArray,List.forIn_cons,List.forIn_nil];refine wpAny_bind (wpAny_bind ?_);show ZQ _ (Builtin.SmallTypes.nextOf (Hf i1) >>= _) _ _ _;cases hx:xs[k]? with
 |none=>refine wpAny_bind (wpAny_nextOf_list_end hh O3 O4 hx λh₂ e hs₂ he=>?_);exact hE h₂ e (Hd hx) (λc o c1 c2 c3 x=>hs₂ _ _ c2 (hs₁.extBut _ _ c1 x)) he
 | some x=>
  have hk:k<xs.size:=by
   rcases Ji k xs.size with h|h
   ·exact h
   rw[Array.getElem?_eq_none h]at hx;cases hx
  have hy:ys[k]?=some ys[k]:=Yp Hc;refine wpAny_bind (wpAny_nextOf_list_item O3 O4 hx λh₂ h1₂ hs₂=>wpAny_pure ?_);refine wpAny_pure (HN (wpAny_bind ?_));refine wpAny_holding ?_;show ZQ _ (Builtin.SmallTypes.nextOf (Hf i2) >>= _) _ _ _;refine wpAny_bind (wpAny_nextOf_list_item ((h2.extBut hs₁.extBut D.i2z).extBut hs₂.extBut D.i12.symm)
   ((aj.extBut hs₁.extBut D.l2z).extBut hs₂.extBut D.l2i1) hy λh₃ h2₃ hs₃=>wpAny_pure ?_)
  refine wpAny_pure RM;dsimp only;refine wpAny_bind (wpAny_newTuple RM (hsz:=by show 2≤sizeLine;decide));have hsz:h₃.objs.size=s.heap.objs.size:=by rw[hs₃.1,hs₂.1,hs₁.1]
  rw[hsz];have hz₃:Held h₃ z TI TO:=(hz₁.but D.i1z.symm hs₂.extBut (let⟨o,e,_⟩:=h1₂;⟨o,e⟩)).but D.i2z.symm hs₃.extBut (let⟨o,e,_⟩:=h2₃;⟨o,e⟩);refine hQ x ys[k] _ hx hy ?_ ?_ ?_ ?_ ?_
  ·obtain⟨T,b,o,q1,q2,q3⟩:=hz₃;exact⟨T,b,o,QQ q1,QQ q2,q3⟩
  ·exact(h1₂.extBut hs₃.extBut D.i12).at λo e=>QQ e
  ·exact h2₃.at λo e=>QQ e
  ·rw[←hsz];exact UE rfl
  exact λc o c1 c2 c3 e=>QQ (hs₃.extBut _ _ c3 (hs₂.extBut _ _ c2 (hs₁.extBut _ _ c1 e)))
def St(z TI TO i1 i2 l1 l2:Nc)(xs ys:Array Value)(k:Nat)(h:No):Prop:=
 (IsZip h z TI TO .none∨Held h z TI TO)∧IsPair h TI (Hf i1) (Hf i2)∧(∃a b,IsPair h TO a b)∧h.IsListIter i1 l1 k∧h.IsListIter i2 l2 k∧h.IsList l1 xs∧h.IsList l2 ys
def pynext{z TI TO i1 i2 l1 l2:Nc}{k:Nat}{xs ys:Array Value}{Q:Option Value→Shared→Prop}(hh:A.handled=none)(D:UA l2)(st:YS k s.heap)(hl:xs.size=ys.size)(hQ:∀x y h',xs[k]?=some x→ys[k]?=some y→YS (k+1) h'→VO y→(∀c o,c≠z→c≠TO→c≠i1→c≠i2→s.heap.get? c=some o→h'.get? c=some o)→Q (RH Hr) {s with heap:=h'})(hE:∀h',xs.size≤k→(∀c o,c≠z→c≠TO→c≠i1→c≠i2→s.heap.get? c=some o→h'.get? c=some o)→Q none {s with heap:=h'}):ZG (pyNext EQ) Q E s:=by
 obtain⟨hz,jD,⟨a,b,pV⟩,h1,h2,ax,aj⟩:=st;have L:∀h',(∀c o,c≠z→c≠TO→c≠i1→c≠i2→s.heap.get? c=some o→h'.get? c=some o)→IsPair h' TI (Hf i1) (Hf i2)∧h'.IsList l1 xs∧h'.IsList l2 ys:=λh' hk=>⟨hk _ _ D.TIz D.TITO D.TIi1 D.TIi2 jD,ax.at λo e=>hk _ o D.l1z D.l1TO D.l1i1 D.l1i2 e,aj.at λo e=>hk _ o D.l2z D.l2TO D.l2i1 D.l2i2 e⟩;rcases hz with hz|hz
 ·rcases Ji k xs.size with lt|ge
  ·have sX:k < ys.size:=by lia
   have hx:xs[k]?=some xs[k]:=Yp lt;have hy:ys[k]?=some ys[k]:=Yp sX;refine wpAny_pyNext_zip_item D hz jD pV h1 h2 ax aj hx hy λh' a1 a2 a3 a4 a5 a6 hk=>?_;obtain⟨b1,b2,b3⟩:=L h' hk;exact hQ _ _ h' hx hy ⟨SK ⟨_,false,_,a1,a5,Yo (Qu hz)⟩,b1,⟨_,_,a2⟩,a3,a4,b2,b3⟩ a5 hk
  exact wpAny_pyNext_zip_end hh D hz jD pV h1 h2 ax aj (HL (Hd ge)) λh' hk=>hE h' ge hk
 have hT:s.TypeIs EQ "zip" :=by obtain⟨_,_,_,e,_⟩:=hz;exact⟨_,e,rfl⟩
 unfold pyNext;refine wpAny_bind (wpAny_attempt (wpAny_callSpecial?_slot (name:=Str.ofString "__next__") hT F.slot_zip_next
  (wpAny_call_entry F.slot_zip_next hT F.entry_zip_next (next hh D hz jD h1 h2 ax aj hl (λx y h' hx hy a1 a3 a4 a5 hk=>⟨_,rfl,?_⟩) λh' e hx hk he=>?_) (F.args_zip_next_1 _))))
 ·have gT:∀ c o,c≠z→c≠TO→c≠i1→c≠i2→s.heap.get? c=some o→h'.get? c=some o:=λc o c1 _ c3 c4 e=>hk c o c1 c3 c4 e;obtain⟨b1,b2,b3⟩:=L h' gT;exact wpAny_pure (hQ x y h' hx hy ⟨SK a1,b1,⟨_,_,hk _ _ D.TOz D.TOi1 D.TOi2 pV⟩,a3,a4,b2,b3⟩ a5 gT)
 obtain⟨o,ho,hc⟩:=he;refine wpAny_bind (wpAny_isInstance (T:= "StopIteration") (b:=true) ⟨o,ho,hc⟩ isSubtype_stop ?_);exact wpAny_pure (hE _ hx λc o c1 _ c3 c4 e=>hk c o c1 c3 c4 e)
end
section
variable{prog:Nk}{w:Nn}{A:Np}{E:Na}{s:Ni} {K:Type}[DecidableEq K]{knd:KeyKind prog w K}
def loop{R:Nx}{z TI TO i1 i2 l1 l2:Nc}{xs ys:Array Value}{ks:List K}(hh:A.handled=none)(D:UA l2)(hl:xs.size=ys.size)(dF:ks.length=xs.size)(hk:∀(i:Nat) (x:Value) (k:K),xs[i]?=some x→ks[i]?=some k→knd.is k x=true)(d:Nc)(cp:d≠z∧d≠TI∧d≠TO∧d≠i1∧d≠i2∧d≠l1∧d≠l2)(nd:ks.Nodup)(hz:xs.size≤sizeLine) :
  ∀(m i:Nat) (s:Ni),xs.size-i=m→i≤xs.size→YS i s.heap→s.heap.DictOf knd d ((ks.zip ys.toList).take i) →
   (∀g tk,(∀b o,b≠d→b≠z→b≠TO→b≠i1→b≠i2→s.heap.get? b=some o→g.get? b=some o)→g.DictOf knd d (ks.zip ys.toList)→R (.ok Ey) {s with heap:=g,toks:=tk}) →
   codeAny HH A (.builtin "dict.update.loop" ⟨[OY,EQ,CG i,.none],[]⟩) R s:=by
 have qD:ys.toList.length=ys.size:=Zy;have cu:(ks.zip ys.toList).length=xs.size:=by rw[List.length_zip,qD];lia
 intro m;induction m with
 |zero=>
  intro i s hm hi st hd hQ;obtain rfl:i=xs.size:=by lia
  refine codeAny_builtin DictR.entry_loop ?_;rw[D4 _];show ZQ A.in1 (pyNext EQ >>= _) _ _ s;refine wpAny_bind (pynext (show A.in1.handled=none from hh) D st hl (λx y h' hx=>absurd hx Hb) λg _ eb=>?_);show ZQ A.in1 (Mf [] >>= λ_=>ret Value.none) _ _ _;refine wpAny_bind (show ZQ A.in1 (pure ()) _ _ _ from wpAny_pure (wpAny_pure (hQ g s.toks (λb o _ b1 b2 b3 b4 e=>eb b o b1 b2 b3 b4 e) ?_)));rw[Qr Hc]at hd;obtain⟨o,es,ep,q,r⟩:=hd;exact⟨o,es,ep,eb _ _ cp.1 cp.2.2.1 cp.2.2.2.1 cp.2.2.2.2.1 q,r⟩
 | succ m ih=>
  intro i s hm hi st hd hQ;have lt:i<xs.size:=by lia
  refine codeAny_builtin DictR.entry_loop ?_;rw[D4 _];show ZQ A.in1 (pyNext EQ >>= _) _ _ s;refine wpAny_bind (pynext (show A.in1.handled=none from hh) D st hl (λx y g hx hy aa hT kg=>?_) λg ge=>absurd lt Hc);have pM:g.DictOf knd d ((ks.zip ys.toList).take i):=by obtain⟨o,es,ep,q,r⟩:=hd;exact⟨o,es,ep,kg _ _ cp.1 cp.2.2.1 cp.2.2.2.1 cp.2.2.2.2.1 q,r⟩
  refine wpAny_bind (wpAny_holding ?_);refine wpAny_bind (wpAny_tryCatch ?_);show ZQ A.in1 (Builtin.Dict.pairItems Hr) _ _ _;unfold Builtin.Dict.pairItems;refine wpAny_bind (wpAny_typeOf (T:= "tuple") ⟨_,hT,rfl⟩ ?_);rw[if_pos Hg];refine wpAny_bind (wpAny_seqItems hT rfl RM);show ZQ A.in1 (holding [x,y] (dictSet d x y)) _ _ _;have hki:ks[i]?=some ks[i]:=Qb Hc;have hiz:i<(ks.zip ys.toList).length:=by lia
  have ezi:(ks.zip ys.toList)[i]=(ks[i],y):=by
   rw[List.getElem_zip];have:ys.toList[i]?=some y:=by rw[Uv];exact hy
   rw[(Zb.mp this).2]
  have nk:ks[i]∉((ks.zip ys.toList).take i).map (·.1):=λq=>by rw[Uk,List.map_fst_zip (HG qD)]at q;obtain⟨j,hj,ej⟩:=Ze q;rw[Za]at hj;rw[Ja]at ej;have:=(Wm nd).mp ej;lia
  refine wpAny_holding (wpAny_dictSet_pairs (knd:=knd) (hk i x _ hx hki) pM (λg2 pL dm=>?_) ym);rw[DictR.stored_new nk]at pL;have jx:g2.DictOf knd d ((ks.zip ys.toList).take HY):=by rw[Qk hiz,ezi];exact pL
  have hc:((i:Int)+1)=((i+1:Nat):Int):=by push_cast;rfl
  refine wpAny_pure ⟨O9,?_⟩;rw[hc];refine ih HY _ Hc lt ?_ jx λg3 sj k3 hd5=>?_
  ·obtain⟨q1,q2,⟨a,b,q3⟩,q4,q5,q6,q7⟩:=aa;refine⟨?_,dm.extBut _ _ (Zd cp.2.1) q2,⟨a,b,dm.extBut _ _ (Zd cp.2.2.1) q3⟩,q4.at λo e=>dm.extBut _ _ (Zd cp.2.2.2.1) e,q5.at λo e=>dm.extBut _ _ (Zd cp.2.2.2.2.1) e,q6.at λo e=>dm.extBut _ _ (Zd cp.2.2.2.2.2.1) e,q7.at λo e=>dm.extBut _ _ (Zd cp.2.2.2.2.2.2) e⟩;rcases q1 with q|q
   ·exact .inl (dm.extBut _ _ (Zd cp.1) q)
   exact .inr (q.but (Zd cp.1) (λb o hb e=>dm.extBut _ _ hb e) (by obtain⟨o,_,_,e,_⟩:=jx;exact⟨o,e⟩))
  exact hQ g3 sj (λb o b0 b1 b2 b3 b4 e=>k3 b o b0 b1 b2 b3 b4 ((dm.2 b b0).trans (kg b o b1 b2 b3 b4 e))) hd5
def zg2:typeLookup (.type "zip") "keys" = pure none:=am_miss_of_fast Hz
def miss_ga:typeLookup (.type "zip") "__getattr__" = pure none:=am_miss_of_fast Hz
def entry_ga:entryFor table "zip.__getattribute__" = some Builtin.«object.__getattribute__»:=
 entryFor_alias (id':= "object.__getattribute__") (by kernel_rfl) Hz Hz (by kernel_rfl)
def meets_miss(a:Nc)(fs:Array Value)(u:Tok):Meets (Builtin.«object.__getattribute__» ⟨[Rm,.str "keys" u],[]⟩) (λA R s=>s.heap.get? a=some {cls:=.type "zip",dict:=none,data:=.fields fs,slots:=#[]}∧raisesAttr Rm "keys" A R s):=
 Meets.of_wp λprog w A R s hs=>by
  obtain⟨hp,g,d,tk,os⟩:=s;obtain⟨hx,hs⟩:=hs;have hT:(⟨hp,g,d,tk,os⟩:Shared).TypeIs Rm "zip" :=⟨_,hx,rfl⟩;have hmiss:=zg2;have cc:(["__module__", "__name__", "__qualname__", "__doc__", "__annotations__"]:List Str).contains "keys" = false:=by decide+kernel
  unfold Builtin.«object.__getattribute__»
  repeat(any_goals (first|assumption|wp_step))
  try simp only[cc,Ws,if_false]
  repeat(any_goals (first|assumption|wp_step))
  exact wpAny_raiseAttrError hs.1 hs.2 (attrMsg_fits Hz Hz)
def no_keys{a:Nc}{fs:Array Value}{Q:Option Value→Shared→Prop}(hx:s.heap.get? a=some {cls:=.type "zip",dict:=none,data:=.fields fs,slots:=#[]})(hA:A.handled=none)(h:∀g tk,HF→Q none {s with heap:=g,toks:=tk}):ZG (getAttr? Rm "keys") Q E s:=by
 obtain⟨hp,g,d,tk,os⟩:=s;have hT:∀t',(⟨hp,g,d,t',os⟩:Shared).TypeIs Rm "zip" :=λ_=>⟨_,hx,rfl⟩;have f1:=sub_AttributeError;have f3:=F.slot_zip_getattribute.lookup;have f4:=F.slot_zip_getattribute.bind Rm;have f5:=miss_ga;unfold getAttr? getAttrBy? getAttrBy
 repeat(any_goals (first|assumption|exact hT _|((with_reducible show ZQ _ (call (Value.builtin "zip.__getattribute__") _ _) _ _ _);refine call_meets F.slot_zip_getattribute (hT _) entry_ga (F.args_zip_getattribute_2 _ _) (meets_miss a fs _) ⟨hx,hA,λh' nh e bh=>?_⟩)|wp_step))
 obtain⟨t',u',he⟩:=bh.there;show ZQ _ IA _ _ _;unfold getattributeRaised
 repeat(any_goals (first|assumption|wp_step))
 exact h h' nh bh.keeps
def call{z TI TO i1 i2 l1 l2:Nc}{xs ys:Array Value}{ks:List K}{Q:Na}(hh:A.handled=none)(D:UA l2)(iY:IsZip s.heap z TI TO .none)(st:YS 0 s.heap)(hl:xs.size=ys.size)(dF:ks.length=xs.size)(hk:∀(i:Nat) (x:Value) (k:K),xs[i]?=some x→ks[i]?=some k→knd.is k x=true)(nd:ks.Nodup)(hz:xs.size≤sizeLine)(h:∀g tk,g.DictOf knd s.heap.objs.size (ks.zip ys.toList)→(∀b o,b≠z→b≠TO→b≠i1→b≠i2→s.heap.get? b=some o→g.get? b=some o)→Q Hr {s with heap:=g,toks:=tk}) :
  wpAny HH A (call (.type "dict") [EQ]) Q E s:=by
 refine callType_codes (Q₁:=λobj s₁=>obj=.ref s.heap.objs.size∧s₁={s with heap:=s.heap.push {cls:=.type "dict",data:=.dict #[]}}) PySem.F.kt_called_dict OX PySem.F.entry_dict_init (kt_code_dict_new _ ⟨rfl,rfl⟩) ?_;rintro obj s₁ ⟨rfl,rfl⟩;have bo:(s.heap.push {cls:=.type "dict",data:=.dict #[]}).DictOf knd s.heap.objs.size []:=Heap.DictOf.new s.heap;refine⟨bo.typeIs,Mh _,?_⟩;unfold Builtin.«dict.__init__»;refine wpAny_bind ?_;unfold Builtin.Dict.selfAndRest;refine wpAny_bind (Vi (show ZQ _ (pure (s.heap.objs.size,[Lg z])) _ _ _ from wpAny_pure ?_));show ZQ _ (Builtin.Dict.updateFrom "dict.__init__" s.heap.objs.size EQ [] .none) _ _ _;unfold Builtin.Dict.updateFrom;have tJ:IsZip (s.heap.push {cls:=.type "dict",data:=.dict #[]}) z TI TO .none:=QQ iY;refine wpAny_bind (wpAny_typeOf (T:= "zip") ⟨_,tJ,rfl⟩ ?_);rw[if_pos Hg];refine wpAny_bind (no_keys tJ (by first|exact hh|(show A.handled=none;exact hh)) λg tk kg=>?_);simp only[Option.isNone_none,if_true];refine wpAny_bind (wpAny_rule ?_);have kk:∀b o,s.heap.get? b=some o→g.get? b=some o:=λb o e=>kg _ _ Cz;obtain⟨q1,q2,⟨a,b,q3⟩,q4,q5,q6,q7⟩:=st;have dg:g.DictOf knd s.heap.objs.size []:=by obtain⟨o,es,ep,q,z⟩:=bo;exact⟨o,es,ep,kg _ _ q,z⟩
 have lt:∀{c:Nc} {o:Obj},s.heap.get? c=some o→s.heap.objs.size≠c:=λe=>Yo (Qu e);have dne:s.heap.objs.size≠z∧s.heap.objs.size≠TI∧s.heap.objs.size≠TO∧s.heap.objs.size≠i1∧s.heap.objs.size≠i2∧s.heap.objs.size≠l1∧s.heap.objs.size≠l2:=by obtain⟨_,e4,_⟩:=q4;obtain⟨_,e5,_⟩:=q5;obtain⟨_,e6,_⟩:=q6;obtain⟨_,e7,_⟩:=q7;exact⟨lt iY,lt q2,lt q3,lt e4,lt e5,lt e6,lt e7⟩
 refine wpAny_bind (wpAny_pyIter_zip (s:={s with heap:=g,toks:=tk}) (kk _ _ iY) (RP ⟨O9,?_⟩));refine loop (knd:=knd) (by first|exact hh|(show A.handled=none;exact hh)) D hl dF hk s.heap.objs.size dne nd hz _ 0 _ rfl Tq ⟨HL (kk _ _ iY),kk _ _ q2,⟨a,b,kk _ _ q3⟩,q4.at λo e=>kk _ _ e,q5.at λo e=>kk _ _ e,q6.at λo e=>kk _ _ e,q7.at λo e=>kk _ _ e⟩ dg λg2 lN k2 hd=>?_;exact⟨rfl,h g2 lN hd λb o b1 b2 b3 b4 e=>k2 b o (Zd (lt e)) b1 b2 b3 b4 (kk _ _ e)⟩
end
end DictZ
namespace L2
open PySem PySem.Spec PyProof.Rows
section
variable{X:Cx}
def tDZip(K:Nb)(ta:TA):TE:=λ σ H Q=>ta σ H λvs H1=>Ex4 λ(l1 l2:Nc) (zs:Ng) (ys:List V)=>Aj6 (vs=[Hf l1,Hf l2]) (Dh l1 Sb) (Dh l2 ys) (zs.length=ys.length) zs.Nodup (∀d,H1 d=none→Q OY (QN d (.dK ((Sy (Sum.inr:Str→Key)).zip ys))))
def pe_dzip{a b:Expr}{ta:TA}{p p2 pos fm:Pos}(hc:X.calm=true)(hg:Vk "dict")(hm:X.mg "dict" = none)(hg2:Vk "zip")(bG:X.mg "zip" = none)(ha:K1 [a,b] ta)(hs:starEach [a,b] X.env=(false,Rj a)::starEach [b] X.env:=by rfl)(aU:(backTo fm (starEach [b] X.env)).any (·.1)=false:=by rfl)(h1:starEach [.Call (.Name "zip" p2) [a,b] [] fm] X.env=[(false,Rj (.Call (.Name "zip" p2) [a,b] [] fm))]:=by rfl) :
  PE X (.Call (.Name "dict" p) [.Call (.Name "zip" p2) [a,b] [] fm] [] pos) (tDZip X.K ta):=by
 intro a7 s σ H Q I h;refine wpAny_Call_Name_kw (Bp boot_dict (Jf (rest:=[]) ?_ h1 rfl));rw[h1];show ZQ _ (spliced ((false,Rj _)::[])) _ _ s;refine Kd (wpAny_Call_Name_kw (zg7 I hg2 bG boot_zip (Jf (thn (ha fm a7 s σ H _ I h) λus s1 ⟨vs,H1,I1,r1,q1⟩=>?_) hs aU)));obtain⟨l1,l2,zs,ys,e,ji,cQ,hl,nd,q⟩:=q1;subst e;obtain⟨u,v,rfl,ru,rv⟩:=vals2 r1;cases ru;cases rv;obtain⟨ix,rx,px,tJ⟩:=I1.list ji;obtain⟨iy,ry,py,_⟩:=I1.list cQ;have lx:=rx.length;have ly:=ry.length;rw[Qa]at lx;have jL:l1<s1.heap.objs.size:=by obtain⟨o,q,_⟩:=px.isList;exact Qu q
 have sX:l2<s1.heap.objs.size:=by obtain⟨o,q,_⟩:=py.isList;exact Qu q
 refine call_zip_2 px.isList py.isList λg hz jD pV h1 h2 hsz k=>Calls.spliced_nil ?_;have ndk:(Sy (Sum.inr:Str→Key)).Nodup:=Ba _ (λa b z q=>z AY) nd;refine DictZ.call (knd:=Z0 X.w) (ks:=zs.map Sum.inr) (s:={s1 with heap:=g}) (I1.ok.hd hc) (zipApart_new jL sX) hz ⟨HL hz,jD,⟨_,_,pV⟩,h1,h2,px.isList.at λo e=>k _ o e,py.isList.at λo e=>k _ o e⟩ (by simp;lia) (by simp;lia) (λi x k hx hk=>?_) ndk (by simp;lia) λg2 tk hd kk=>?_
 ·have hi:i < zs.length:=by have:=(Cm hk).1;rwa[Qa]at this
  rw[Qo,Qb hi]at hk;obtain rfl:=Qn hk;obtain⟨u,e2,t,e3⟩:=rx.get (i:=i) (x:=.str zs[i]) Ae;have bh:ix[i]?=some x:=by simpa using hx
  rw[bh]at e2;cases e2;rw[e3];exact zeg _ _ _ _
 have kv:KV ((Sy (Sum.inr:Str→Key)).zip ys) ((Sy (Sum.inr:Str→Key)).zip iy):=by
  have:∀(ks:List Key) (ys:List V) (iy:Nj),YU iy→KV (ks.zip ys) (ks.zip iy):=λks=>by
   induction ks with
   |nil=>intro ys iy _;exact .nil
   |cons k ks ih=>
    intro ys iy r;cases r with
    |nil=>exact .nil
    |cons a b=>exact .cons ⟨rfl,a⟩ (ih _ _ b)
  exact this _ _ _ ry
 have nS:(g.objs.size==sysModules)=false:=beq_eq_false_iff_ne.mpr (Yo (Zx I1.big (by rw[hsz];exact BN _)));have k2:∀b o,s1.heap.get? b=some o→g2.get? b=some o:=λb o e=>by have lt:=Qu e;exact kk b o zD zD Py zD E3
 refine⟨Hf _,_,I1.laid (t':=tk) k2 (by rw[hsz];exact BN _) (show ZY _ g2 _ (.dK _) from⟨?_,nS,_,kv,hd⟩),rfl,q _ (I1.hok.fresh (by show _≤g.objs.size;rw[hsz];exact BN _))⟩;rw[List.length_zip,Qa];lia
end
end L2
namespace K21
open PySem L2 Wb PySem.W
abbrev sNewN:Stmt:=top 42
structure NewP(zs:Ng)(g:Nq)(ps:List (Str×V)):Prop where
 ks:ps.map (·.1)=zs
 al:XV g
 ij:XW g
def new_of{zs ws:Ng}(hz:zs.Nodup)(hl:zs.length=ws.length)(hw:ws.Nodup)(hn:∀z∈ws,zbf z):∃g,NewP zs g (zs.zip Sc):=by
 have hl':zs.length=(ws.map V.str).length:=by rw[Qa];exact hl
 have at_:∀p∈zs.zip Sc,∃i,∃h:i<zs.length,∃h2:i<ws.length,p=(zs[i],.str ws[i]):=λp hp=>by obtain⟨i,hi,e⟩:=Ze hp;rw[List.length_zip]at hi;rw[List.getElem_zip,Zp]at e;exact⟨i,Hc,Hc,e.symm⟩
 have gi:∀i (h:i<zs.length) (h2:i<ws.length),ws.getD (zs.idxOf zs[i]) "" = ws[i]:=λi h h2=>by rw[List.Nodup.idxOf_getElem hz,Qx,Qb h2];rfl
 refine⟨λx=>ws.getD (zs.idxOf x) "",List.map_fst_zip Hc,λp hp=>?_,λp hp q hq e=>?_⟩
 ·obtain⟨i,h,h2,rfl⟩:=at_ p hp;dsimp only;rw[gi i h h2];exact⟨rfl,hn _ (Qq h2)⟩
 obtain⟨i,h,h2,rfl⟩:=at_ p hp;obtain⟨j,h',h2',rfl⟩:=at_ q hq;dsimp only at e ⊢;rw[gi i h h2,gi j h' h2']at e;have:=(Wm hw).mp e;subst this;rfl
def zip_inr(zs:Ng)(ys:List V):(Sy (Sum.inr:Str→Key)).zip ys=(zs.zip ys).map λp=>((Sum.inr p.1:Key),p.2):=by
 induction zs generalizing ys with
 |nil=>rfl
 |cons z t ih=>cases ys with
  |nil=>rfl
  |cons y u=>rw[Ql,List.zip_cons_cons,List.zip_cons_cons,Ql,ih]
inductive IspNewN(vs:List V)(H:Hp)(Q:VK):Prop
 | mk (p l:Nc) (b m:Int) (zs:Ng) (h0:vs=[.ref p,.ref l]) (h1:Pot H p b m) (h2:H l=some (.lst (zs.map V.str))) (h3:zs.length≤40) (h4:zs.Nodup) (h4':∀ z∈zs,zbf z) (uJ:l≠p)
   (h5:∀(u:Nc) (ps:Tn (Str×V)) (g:Nq) (b' m':Int) (H':Hp),NewP zs g ps→H' u=some (.dK (ps.map λq=>Hx))→H u=none→Q2 m'→Keep [p] H H'→Q (Hf u) H'):IspNewN vs H Q
def spNewN:Sp:=λvs H Q _=>IspNewN vs H Q
section
variable{P:Nk}{w:Nn}{K:Nb}{mg:Nh}{base:No}
def scNewN:zam [qP, "_law_places", "_law_far"] [qP, "_law_places"] (zaj sNewN):=fsk
def ok_newn(F:Z5 "_law_new_names" "_law_new_names" sNewN f fd)(GT:ZU qG [qP,qM] 1 zeq)(GN:ZU "_law_names" [qP,qM] 2 spNames)(ad:RE)(aI:mg "dict" = none)(nZ:mg "zip" = none):ZB 3 f fd [qP, "_law_places"] spNewN:=by
 refine F.okL scNewN HZ;obtain⟨p,l,b,m,zs,rfl,hp,hl,cu,cb,dM,nlp,kq⟩:=h;have aP:KL _:=hr.mono Hg;have aH:=sizeLine_eq;refine⟨_,zae (zbu (FZ (GY SF) zai Sq)
   (zae (BH scNewN.nd (GY (Lq (OF Aj))))
   (zag (yk (pe_dzip rfl Ho aI Ho nZ (ZV (RG (Rp 1 2))))))) zas)
  (zag (zaz (pe_dzip rfl Ho aI Ho nZ (ZV (OG (pcl GN hr (Lq Aj))))))),?_⟩
 have aA:(zs.map V.str).length=zs.length:=Qa ..;refine⟨xf,p,b,m,3,rfl,hp,Hg,Hg,λj1 b1 m1 H1 gF rH cT lV=>?_⟩;have k1:Keep [p] H H1:=zau lV;have ax:=lV _ _ hl nlp;refine⟨rfl,xf,?_⟩;have fin:∀(ws:Ng) (lw u:Nc) (b' m':Int) (H2:Hp),zs.length=ws.length→ws.Nodup→(∀z∈ws,zbf z)→Keep [p] H H2→Pot H2 p b' m'→H2 u=none→Q (Hf u) (Q3 u (.dK ((Sy (Sum.inr:Str→Key)).zip Sc))):=λws lw u b' m' H2 e1 e2 e3 k2 ap gL=>by obtain⟨g,hg⟩:=new_of cb e1 e2 e3;rw[zip_inr];exact kq u _ g b' m' _ hg zad (zap k2 gL (Rx (zab ap.1 gL))) (ap.keep (xs:=[]) (Ht gL) Hb) (Co (Ht gL))
 by_cases hj:j1=0
 ·refine za4 (by rw[hj];decide) ?_;refine⟨xf,xf,l,xf,Ss ax,_,xf,rfl,p,b1,m1,xf,cT,HG aA,HG aA,λj2 b2 m2 H2 vK h21 ap iU=>?_⟩;have k2:Keep [p] H H2:=k1.trans (yA iU);have aj:=iU _ _ ax nlp;obtain⟨j,rfl⟩:=Zo vK;rw[aA]at h21;have hjl:j≤zs.length:=by lia
  refine⟨xf,xf,xf,xf,l,xf,Hn aj,λp1 h1=>?_⟩;generalize q3:Q3 p1 _=H3;obtain⟨k3,g3⟩:=nwk h1 q3;have cg:=k3 _ _ aj Hb;refine⟨xf,xf,xf,l,xf,Hn cg,λp2 h2=>?_⟩;generalize q4:QX p2 _=H4;obtain⟨k4,g4⟩:=nwk h2 q4;rw[zdl (Hm aA hjl)]at g3;rw[zhi (Hm aA hjl)]at g4;refine⟨p1,p2,_,xf,rfl,zT g3,g4,by rw[Yu,Za];lia,λp3 h3=>?_⟩;generalize q5:WC p3 _=H5;obtain⟨k5,g5⟩:=nwk h3 q5;rw[←Ju,←Uk,←Qp]at g5;have tF:=(LU k4).trans k5;have pr:(zs.drop j++zs.take j).Perm zs:=ziz zs j;exact⟨l,p3,zs,xf,Hn (tF _ _ aj Hb),Hn g5,by rw[Qa,pr.length_eq],cb,λu gL=>fin _ p3 u b2 m2 H5 pr.length_eq.symm (pr.nodup_iff.mpr cb) (λz hz=>dM z (pr.mem_iff.mp hz)) (Co (tF.sub Hb)) (ap.keep tF Hb) gL⟩
 refine zaw Pw ?_;refine⟨xf,xf,xf,l,xf,Ss ax,p,b1,m1,zs.length,by rw[aA];rfl,cT,cu,λnl ws b2 m2 H2 g2 e1 e2 e3 ap f2 k2=>?_⟩;have aj:=k2 _ _ ax Td;exact⟨l,nl,zs,xf,Hn aj,Hn g2,SJ,cb,λu gL=>fin ws nl u b2 m2 H2 e1.symm e2 (λz hz=>(e3 z hz).1) (Tv k2) ap gL⟩
end
end K21
namespace L2
open PySem
def join{t u:TS}{D:Ends}{σ:St}{H:Hp}{c b:St→Hp→Prop}{r:V→Hp→Prop}(P:St→Hp→Prop)(h:∀D':Ends,(∀σ H,P σ H→D'.nx σ H)→t D' σ H)(hD:∀σ H,P σ H→u D σ H):({nx:=tSeq t u D,ct:=c,bk:=b,rt:=r}:Ends).nx σ H:=h {D with nx:=u D} hD
end L2
namespace K21
open PySem L2 Wb PySem.W
abbrev sSpoilt:Stmt:=top 43
def SpN(H:Hp)(p u:Nc)(n:Nat):Prop:=∃ps,Nm H u ps∧(∀q∈ps,q.2≠.ref p)∧ps.length≤n
def Odd.keepX{H H':Hp}{v:V}{xs:Nl}(h:Vc v)(k:WB H')(hx:∀a,v=.ref a→a∉xs):Odd H' v:=by
 cases h with
 |tx z h h2=>exact .tx z h h2
 |non=>exact .non
 |bl b=>exact .bl b
 |int i=>exact .int i
 |ls a xs h=>exact .ls a xs yE
 |tp a xs h=>exact .tp a xs yE
def Odd.ne{H:Hp}{v:V}{u:Nc}{kvs:List (Key×V)}(h:Vc v)(hu:RU u Rg):∀a,v=.ref a→a≠u:=λa e=>by
 cases h with
 |ls b xs h=>cases e;exact Ny hu Hh
 |tp b xs h=>cases e;exact Ny hu Hh
 |_=>cases e
def SpN.pot{H H':Hp}{p u:Nc}{n:Nat}(h:NA n)(k:Keep [p] H H')(fe:u≠p):MF u n:=by obtain⟨ps,N,np,hl⟩:=h;exact⟨ps,⟨k _ _ N.dc (Hd fe),N.nd,λq hq=>(N.od q hq).keepX k λa e z=>np q hq (by rw[e,Qc.mp z])⟩,np,hl⟩
def SpN.keep{H H':Hp}{p u:Nc}{n:Nat}(h:NA n)(k:Keep [] H H'):MF u n:=by obtain⟨ps,N,np,hl⟩:=h;exact⟨ps,N.keep k,np,hl⟩
def Nm.new{H:Hp}{u p:Nc}{ps gH:List (Str×V)}{n:Nat}(N:Nm H u ps)(h:∀q∈gH,Vc q.2∧q.2≠.ref p)(nd:(gH.map (·.1)).Nodup)(hl:gH.length≤n):SpN (ZS u (.dK (gH.map λq=>Hx))) p u n:=
 ⟨gH,⟨zad,nd,λq hq=>(h q hq).1.keepX (xs:=[u]) Rv λa e=>by simpa using(h q hq).1.ne N.dc a e⟩,λq hq=>(h q hq).2,hl⟩
def SpN.put{H:Hp}{p u:Nc}{n:Nat}(h:NA n)(hn:n < 1000)(x:Str){v:V}(ho:Vc v)(hv:v≠.ref p):∃ H',DPut H u CF v H'∧MF u (n+1)∧Keep [u] H H':=by
 obtain⟨ps,N,np,hl⟩:=h;have aH:=sizeLine_eq;refine⟨_,DPut.k (k:=Sum.inr x) N.dc SJ,?_,Rv⟩;by_cases hx:x∈ps.map (·.1)
 ·have e:putK (ps.map λq=>Hx) TQ v=(ps.map λq=>if q.1=x then (q.1,v) else q).map λq=>Hx:=by
   unfold putK;rw[if_pos (by obtain⟨q,hq,eq⟩:=Qf.mp hx;exact Yv.mpr ⟨_,Rw q hq,Rh (AB eq)⟩),Zc,Zc];refine Wd λq _=>?_;dsimp only[Function.comp];by_cases z:q.1=x
   ·rw[if_pos (AB z),if_pos z]
   rw[if_neg λy=>z (Ug y),if_neg z]
  rw[e];refine N.new (λq hq=>?_) ?_ SJ
  ·obtain⟨q0,hq0,rfl⟩:=Qf.mp hq;by_cases z:q0.1=x
   ·rw[if_pos z];exact⟨ho,hv⟩
   rw[if_neg z];exact⟨N.od q0 hq0,np q0 hq0⟩
  rw[Zc,Wd (g:=(·.1)) λq _=>?_]
  ·exact N.nd
  dsimp only[Function.comp];split<;>rfl
 have e:putK (ps.map λq=>Hx) TQ v=(ps++[(x,v)]).map λq=>Hx:=by
  unfold putK;rw[if_neg λz=>?_,Qp]
  ·rfl
  obtain⟨r,hr,er⟩:=Yv.mp z;obtain⟨q,hq,rfl⟩:=Qf.mp hr;exact hx (Ob ⟨q,hq,Ug (Te er)⟩)
 rw[e];refine N.new (λq hq=>?_) ?_ (by rw[Qm,Uc];lia)
 ·rcases Qe.mp hq with z|z
  ·exact⟨N.od q z,np q z⟩
  rw[Qc.mp z];exact⟨ho,hv⟩
 rw[Qp,Zf];exact⟨N.nd,Qw.mpr ⟨Hb,Zs⟩,λa ha b hb z=>hx (by have hb:b=x:=Qc.mp hb;rw[←hb,←z];exact ha)⟩
def SpN.drop{H:Hp}{p u:Nc}{n:Nat}{kvs:List (Key×V)}(h:NA n)(hk:RU u Rg)(x:Str):SpN (ZS u (.dK (VS TQ))) p u n:=by
 obtain⟨ps,N,np,hl⟩:=h;rw[N.dc]at hk;obtain rfl:(ps.map λq=>Hx)=kvs:=by injection(Qn hk)
 have e:zjn (ps.map λq=>Hx) TQ=(ps.filter λq=>decide (q.1≠x)).map λq=>Hx:=by unfold zjn;rw[List.filter_map];congr 1;refine List.filter_congr λq _=>?_;exact decide_eq_decide.mpr ⟨λh z=>h (AB z),λh z=>h (Ug z)⟩
 rw[e];exact N.new (λq hq=>⟨N.od q ((Uq.mp hq).1),np q ((Uq.mp hq).1)⟩) (N.nd.sublist ((Je).map _)) (Zn (Wv ..) hl)
inductive IspSpoilt(vs:List V)(H:Hp)(Q:VK):Prop
 |mk (p u l:Nc) (b m:Int) (n:Nat) (zs:Ng) (h0:vs=[.ref p,.ref u,.ref l]) (h1:Pot H p b m) (h2:SpN H p u n) (h3:H l=some (.lst (zs.map V.str))) (h4:zs.length≤40) (h5:n≤90) (h6:l≠p) (h7:∀(b' m':Int) (H':Hp),SpN H' p u (n+2)→Pot H' p b' m'→Keep [p,u] H H'→Q .non H'):IspSpoilt vs H Q
def spSpoilt:Sp:=λvs H Q _=>IspSpoilt vs H Q
section
variable{P:Nk}{w:Nn}{K:Nb}{mg:Nh}{base:No}
def zet:zam [qP,qN, "_law_places", "_law_odd", "_law_place", "_law_other", "_law_way"] [qP,qN, "_law_places"] (zaj sSpoilt):=fsk
def ok_spoilt(F:Z5 "_law_spoilt" "_law_spoilt" sSpoilt f fd)(GT:ZU qG [qP,qM] 1 zeq)(ad:RE):ZB 2 f fd [qP,qN, "_law_places"] spSpoilt:=by
 refine F.okL zet HZ;obtain⟨p,u,l,b,m,n,zs,rfl,hp,S,hl,cu,hn,nlp,kq⟩:=h;have hu:=zb9 hr;have be:=Wn hu;have aH:=sizeLine_eq;refine'⟨_,zae ?P1 ?P2,?_⟩
 case P1=>
  refine' zaq 3 ?hN ?he
  case hN=>exact zet.nd
  case he=>
  refine' zay ?b
  case b=>
  refine' zaa ?a ?b
  case a=>exact pe_bl
  case b=>
  refine' zaa ?a ?b
  case a=>exact pe_non
  case b=>
  refine' zaa ?a ?b
  case a=>exact zai
  case b=>
  refine' zaa ?a ?b
  case a=>exact zai
  case b=>
  refine' zaa ?a ?b
  case a=>exact zay zac
  case b=>
  refine' zaa ?a ?b
  case a=>exact zay CS
  case b=>
  refine' zaa ?a ?b
  case a=>exact za8
  case b=>
  refine' zaa ?a ?b
  case a=>exact za8
  case b=>
  refine' zaa ?a ?b
  case a=>exact za8
  case b=>
  refine' zaa ?a ?b
  case a=>exact za8
  case b=>
  refine' zaa ?a ?b
  case a=>exact za8
  case b=>
  refine' zaa ?a ?b
  case a=>exact za8
  case b=>exact zac
 case P2=>
  exact(zae (zbu (N5 Sr SM Sq)
   (zae (BI zet.nd OP)
   (zae (DE zet.nd OP)
   (zae (DF zet.nd (XX SF))
   (zae (GZ (zag (za5 (pe_dpop2 Sf Ty pe_non ⟨rfl,rfl,rfl,rfl⟩))) zas)
   (zae (GZ (zag (X7 Ty (QG S0 (XX (Lq (Tk xc))) Hw) rfl)) zas)
   (zag (Am (PW.pt (DY (zi3 (pt_cmp (pc_din hu EB Sf))))) (zag (X7 Ty (zdg hu Sf EB) rfl))))))))) zas)
  (zag (zbu (FZ (XX SF) zai Sq)
   (zag (X7 (Lu (zay (WV (WV (WV zac)))) (XX SF)) za8 rfl)) zas)))
 refine⟨TY,λl1 f1=>⟨LR,λl2 f2=>⟨(He 12),λso fso=>?_⟩⟩⟩
 revert f2 fso
 generalize q1:ZS l1 _=H1;obtain⟨k1,g1⟩:=nwk f1 q1;intro f2;generalize q2:QN l2 _=H2;obtain⟨k2,g2⟩:=nwk f2 q2;intro fso;have r1:l1≠p:=Zd (Mz f1);have r2:l2≠p:=Zd (AK (k1 _ _ hp.1 Hb) f2);generalize tL:[LH,.non,SX 0,SX 7,Hf l1,Hf l2,.str "",.str "abcdefghi",.str "A",.str "a1",.str "a b",.str "a\n"]=xs at fso ⊢;have bq:xs.length=12:=by rw[←tL];rfl
 have hox:∀v∈xs,Odd H2 v∧v≠.ref p:=by
  rw[←tL];intro v hv;simp only[Qj,List.not_mem_nil,or_false]at hv;rcases hv with rfl|rfl|rfl|rfl|rfl|rfl|rfl|rfl|rfl|rfl|rfl|rfl
  ·exact⟨.bl _,λe=>by cases e⟩
  ·exact⟨.non,λe=>by cases e⟩
  ·exact⟨SX _,λe=>by cases e⟩
  ·exact⟨SX _,λe=>by cases e⟩
  ·exact⟨.ls l1 _ LX,λe=>r1 (by injection e)⟩
  ·exact⟨.ls l2 _ g2,λe=>r2 (by injection e)⟩
  all_goals exact⟨.tx _ Hz Hz,λe=>by cases e⟩
 clear tL;generalize q3:Q3 so _=H3;obtain⟨k3,g3⟩:=nwk fso q3;have cK:=(Tv k2).trans k3;have bE:=hp.keep cK Hb;have S3:=S.keep cK;have cg:=cK _ _ hl Hb;have fe:u≠p:=by obtain⟨ps,N,_⟩:=S;exact zax N.dc hp.1 Hh
 have nso:so≠p∧so≠u:=⟨Zd (AK ((Tv k2) _ _ hp.1 Hb) fso),by obtain⟨ps,N,_⟩:=S;exact Zd (AK ((Tv k2) _ _ N.dc Hb) fso)⟩;have uq:∀v∈xs,Odd H3 v∧v≠.ref p:=λv hv=>⟨(hox v hv).1.keep k3,(hox v hv).2⟩;have at_:∀{G:Hp} {j:Nat},j<zs.length→KN (j:Int)=some (Sw (zs.getD j "")):=λ{G j} h=>by refine zav ?_;rw[Qo,Qb h,Qx,Qb h];rfl
 refine join (λ σ' H'=>Aj5 (Ex4 λx4 x5 x6 x3=>σ'=[Hj p,Hj u,Ix,x3,x4,x5,x6]) (MF u (n+1)) (Ex2 λb' m'=>Q2 m') (Keep [p,u] H3 H') True) (λD' hD=>?_) ?_
 ·refine⟨_,rfl,TY,λe0 vP=>?_⟩;generalize q4:QX e0 _=H4;obtain⟨k4,g4⟩:=nwk vP q4;have dP:=k4 _ _ cg Hb;have S4:=S3.keep k4;have c7:=bE.keep k4 Hb;refine⟨l,e0,xf,rfl,Hn dP,Hn g4,xf,?_⟩;have up:∀{G:Hp},Vz n→Vz (n+1):=λ⟨ps,N,a,b⟩=>⟨ps,N,a,Xy b⟩;by_cases hz:zs=[]
  ·subst hz;exact QF (hD _ _ ⟨⟨_,_,_,_,rfl⟩,up S4,⟨_,_,c7⟩,PF,trivial⟩)
  have hz0:0<zs.length:=Ub.mpr hz;have aA:(zs.map V.str).length=zs.length:=Qa ..;refine za4 (by cases zs with
   |nil=>exact absurd rfl hz
   |cons _ _=>rfl) ?_
  refine⟨xf,xf,xf,l,xf,Ss dP,p,b,m,xf,c7,HG aA,HG aA,λj5 b5 m5 H5 rG vJ bf dZ=>?_⟩;have k5:Keep [p] H4 H5:=zau dZ;have ce:=k5 _ _ dP Td;obtain⟨j,rfl⟩:=Zo rG;rw[aA]at vJ;refine⟨l,_,_,xf,rfl,Hn ce,at_ (G:=H) Hc,?_⟩;refine⟨xf,xf,xf,l,xf,Ss ce,p,b5,m5,xf,bf,HG aA,HG aA,λj6 b6 m6 H6 h60 h61 dO lU=>?_⟩;have k6:Keep [p] H5 H6:=zau lU;have rh:=k6 _ _ ce Td;obtain⟨j',rfl⟩:=Zo h60;rw[aA]at h61;refine⟨l,_,_,xf,rfl,Hn rh,at_ (G:=H) Hc,?_⟩;refine⟨xf,p,b6,m6,3,rfl,dO,Hg,Hg,λj7 b7 m7 H7 h70 h71 aN gJ=>?_⟩;have l':Keep [p] H4 H7:=(TU k6).trans (yA gJ);have S7:=S4.pot l' fe;have ma:Keep [p] H3 H7:=(k4.sub Hb).trans l';have end_:∀(G:Hp) (b' m':Int) x4 x5 x6 x3,Vz (n+1)→Pot G p b' m'→Keep [p,u] H3 G→D'.nx [Hj p,Hj u,Ix,x3,x4,x5,x6] G:=λG b' m' x4 x5 x6 x3 s1 s2 s3=>hD _ _ ⟨⟨_,_,_,_,rfl⟩,s1,⟨_,_,s2⟩,s3,trivial⟩;generalize aU:zs.getD j "" = pl;generalize qY:zs.getD j' "" = ot;have w3:j7=0∨j7=1∨j7=2:=by lia
  rcases w3 with rfl|rfl|rfl
  ·refine⟨_,rfl,rfl,_,rfl,Q6 ?_⟩;obtain⟨ps,N7,_⟩:=id S7;refine⟨xf,u,rfl,HL ⟨_,.inl N7.dc⟩,xf,_,Sum.inr pl,N7.dc,rfl,λv hv=>?_,λhv=>?_⟩
   ·refine⟨_,rfl,rfl,_,rfl,QF ⟨_,rfl,rfl,_,rfl,QF ?_⟩⟩;exact end_ _ b7 m7 _ _ _ _ (up (S7.drop N7.dc pl)) (aN.keep (xs:=[u]) Rv (Rx fe)) ((ma.sub Hb).trans Rv)
   refine⟨_,rfl,rfl,_,rfl,QF ⟨_,rfl,rfl,_,rfl,QF ?_⟩⟩;exact end_ _ b7 m7 _ _ _ _ (up S7) aN (ma.sub Hb)
  ·refine⟨_,rfl,rfl,_,rfl,QF ⟨_,rfl,rfl,_,rfl,Q6 ?_⟩⟩;have g7:=ma _ _ g3 (by simpa using nso.1);refine⟨xf,xf,xf,so,xf,Ss g7,p,b7,m7,xf,aN,by rw[bq];decide,by rw[bq];decide,λj8 b8 m8 H8 h80 h81 mv jO=>?_⟩;have tD:Keep [p] H3 H8:=ma.trans (yA jO);obtain⟨i,rfl⟩:=Zo h80;have hi:i<xs.length:=by lia
   have g8:=tD _ _ g3 (by simpa using nso.1);refine⟨so,_,_,xf,rfl,Hn g8,zav (Qb hi),?_⟩;have ov:=uq _ EA;have S8:=S7.pot (yA jO) fe;obtain⟨G,pg,sg,kg⟩:=S8.put Hc pl (ov.1.keepX tD λa e z=>ov.2 (by rw[e,Qc.mp z])) ov.2;refine⟨xf,xf,u,G,rfl,pg,?_⟩;refine⟨xf,rfl,xf,QF ?_⟩;exact end_ G b8 m8 _ _ _ _ sg (mv.keep kg (Rx fe)) ((tD.sub Hb).trans yF)
  refine⟨_,rfl,rfl,_,rfl,QF ⟨_,rfl,rfl,_,rfl,QF ⟨_,rfl,rfl,_,rfl,Q6 ?_⟩⟩⟩;obtain⟨ps,N7,np7,aR⟩:=id S7;have dg:=DGet.k (k:=Sum.inr ot) N7.dc;refine⟨xf,xf,u,xf,dg,xf,?_⟩;cases hv:valV (ps.map λq=>Hx) (Sum.inr ot) with
  |none=>exact QF (end_ _ b7 m7 _ _ _ _ (up S7) aN (ma.sub Hb))
  |some v=>
   rw[hv]at dg;refine Q6 ?_;have hv2:∃q∈ps,q.2=v:=by unfold valV at hv;obtain⟨r,hr,rfl⟩:=Option.map_eq_some_iff.mp hv;obtain⟨q,hq,rfl⟩:=Qf.mp (List.mem_of_find?_eq_some hr);exact⟨q,hq,rfl⟩
   obtain⟨q,hq,rfl⟩:=hv2;obtain⟨G,pg,sg,kg⟩:=S7.put Hc pl (N7.od q hq) (np7 q hq);refine⟨xf,xf,u,xf,dg,xf,xf,u,G,rfl,pg,?_⟩;exact end_ G b7 m7 _ _ _ _ sg yG ((ma.sub Hb).trans yF)
 rintro σ' H4 ⟨⟨x4,x5,x6,x3,rfl⟩,S4,⟨b4,m4,c7⟩,k4,-⟩;have me:Keep [p,u] H H4:=(cK.sub Hb).trans k4;have up:∀{G:Hp},Vz (n+1)→Vz (n+2):=λ⟨ps,N,a,b⟩=>⟨ps,N,a,Xy b⟩;refine⟨xf,p,b4,m4,3,rfl,c7,Hg,Hg,λj5 b5 m5 H5 rG vJ bf dZ=>?_⟩;have S5:=S4.pot (yA dZ) fe;have k5:Keep [p,u] H H5:=me.trans ((yA dZ).sub Hb);refine⟨rfl,xf,?_⟩;by_cases hj:j5=0
 ·refine za4 (by rw[hj];decide) ?_;refine⟨xf,(He 3),λl6 f6=>?_⟩;generalize q6:Q4 l6 _=H6;obtain⟨k6,g6⟩:=nwk f6 q6;have dO:=bf.keep k6 Hb;refine⟨xf,p,b5,m5,3,rfl,dO,Hg,Hg,λj7 b7 m7 H7 h70 h71 aN gJ=>?_⟩;have n6:l6≠p:=Zd (zab bf.1 f6);have g7:=gJ _ _ g6 n6;have S7:=(S5.keep k6).pot (yA gJ) fe;have k7:Keep [p,u] H H7:=(TU Pf).trans ((yA gJ).sub Hb);obtain⟨x,hx⟩:∃x:Str,atI [V.str "zzzzzzzx",.str "",.str "A"] j7=some CF:=by
   have:j7=0∨j7=1∨j7=2:=by lia
   rcases this with rfl|rfl|rfl<;>exact⟨xf⟩
  obtain⟨G,pg,sg,kg⟩:=S7.put Hc x (v:=.str "zzzzzzzy") (.tx _ Hz Hz) (λe=>by cases e);refine⟨l6,_,_,xf,rfl,Hn g7,hx,u,G,rfl,pg,?_⟩;exact kq b7 m7 G sg yG (k7.trans yF)
 exact zaw Pw (kq b5 m5 H5 (up S5) bf k5)
end
end K21
namespace K21
open PySem L2 Wb
abbrev sLName:Stmt:=top 40
abbrev lettersS:Str:= "abcdefghijklmnopqrstuvwxyz"
def sgn_in:∀c:Fin 128,(!(Builtin.Str.occurrences lettersS ⟨#[c.1]⟩ 0 lettersS.length 1).isEmpty)=sgn c.1:=by decide+kernel
def ndLN:(["_law_sign"]:List Str).Nodup:=by decide+kernel
section
variable{P:Nk}{w:Nn}{K:Nb}{mg:Nh}{base:No}
def scLName:zam ["_law_thing"] ["_law_thing"] (zaj sLName):=fsk
def ok_lname(F:Z5 "_law_is_name" "_law_is_name" sLName f fd)(br:mg "isinstance" = none)(fM:mg "str" = none)(ad:RE):ZB 1 f fd ["_law_thing"] zf6:=by
 refine F.okL scLName Hi;obtain⟨v,rfl,hv,k⟩:=h;have hu:=zb9 hr;have be:=Wn hu;have aH  :=sizeLine_eq;refine⟨_,zae (Am (PW.pt (zi2 (OI (zah zhl Ho br Yw (Lq (pe_tyN (T:= "str") rfl fM PyProof.Rows.boot_str)))) (zi2 (Gv (C5 SA) zai Sq) (zgl (Vx (C5 SA) zai Sq))))) (zag xb))
  (zag (zaz (zgn (ze1 be) (zd5 (M:=["_law_sign"]) (ix:=[none]) (mkB scLName) rfl (pi_str Sd) (λC a7 ex s H=>UQ ndLN)
      (λC a7 ex s H=>zfh (zan op_notIn_str Sd za8 rfl)) (λC a7 ex s H=>pv 0)) SM Sq))),?_⟩
 cases hv with
 |non=>exact⟨xf,_,_,_,false,rfl,.non,rfl,xf,ER⟩
 |bl b=>exact⟨xf,_,_,_,false,rfl,Eg,rfl,xf,ER⟩
 |int i=>exact⟨xf,_,_,_,false,rfl,OT,rfl,xf,ER⟩
 |ls a xs h=>exact⟨xf,_,_,_,false,rfl,Hv h,rfl,xf,ER⟩
 |tp a xs h=>exact⟨xf,_,_,_,false,rfl,.tup h,rfl,xf,ER⟩
 |tx z asc hz0=>
 have nof:¬(1≤z.cps.size∧z.cps.size≤8)→Q S9 H:=λq=>by
  have e:nmV CO=false:=by show nmS z=false;unfold nmS;rw[decide_eq_false q];rfl
  have:=k H Keep.refl;rwa[e]at this
 have fE:z.length≤sizeLine:=by show z.cps.size≤sizeLine;lia
 refine⟨xf,_,_,_,true,rfl,CO,rfl,xf,QF ?_⟩;refine⟨xf,z,rfl,fE,_,xf,rfl,xf,?_⟩;rcases Ji z.cps.size 1 with h1|h1
 ·exact za4 (Rh (by show(z.cps.size:Int)<1;lia)) (iteT (nof λq=>by lia))
 refine zaw (Se (by show ¬(z.cps.size:Int)<1;lia)) ?_;refine⟨xf,z,rfl,fE,_,xf,rfl,xf,?_⟩;rcases Ji 8 z.cps.size with h2|h2
 ·exact za4 (Rh (by show(8:Int)<(z.cps.size:Int);lia)) (nof λq=>by lia)
 refine zaw (Se (by show ¬(8:Int)<(z.cps.size:Int);lia)) ?_;refine⟨xf,z,rfl,asc,λi m ys τ H1=>Aj5 (H1=H) (m=z.cps.size-i) (i≤z.cps.size) (ys=((EG i).filter λc=>!sgn c).map λc=>V.str ⟨#[c]⟩) (Ex1 λx0=>τ=[x0]),⟨_,rfl,rfl,Tq,rfl,none,rfl⟩,?_⟩;rintro i m ys τ H1 ⟨rfl,rfl,hi,rfl,x0,rfl⟩;by_cases ae:i<z.cps.size
 ·refine .inr ⟨ae,by rw[Qa];exact Yh (Wv ..) (by rw[Za];lia),?_⟩;rintro y H' ⟨rfl,c,hc,rfl⟩;have eN:i<z.cps.toList.length:=by rw[Zy];exact ae
  have rA:z.cps.toList[i]=c:=by rw[Yp ae]at hc;rw[Xl];exact Qn hc
  have vk:c<128:=by have:=Array.all_eq_true.mp asc i ae;rw[Yp ae]at hc;rw[Qn hc]at this;exact of_decide_eq_true this
  have tk:=Qk eN;have qQ:=sgn_in ⟨c,vk⟩;refine⟨xf,_,xf,rfl,xf,?_⟩;cases hs:sgn c with
  |true=>rw[show(Fin.mk c vk).1=c from rfl,hs]at qQ;refine zaw (by rw[qQ];rfl) ⟨_,zar1 ‹_›,rfl,rfl,ae,?_,_,rfl⟩;rw[tk,rA,Yq,Yf (by rw[hs];decide),Ua,Zq]
  |false=>rw[show(Fin.mk c vk).1=c from rfl,hs]at qQ;refine za4 (by rw[qQ];rfl) ⟨_,rfl,_,zar1 ‹_›,rfl,rfl,ae,?_,_,rfl⟩;rw[tk,rA,Yq,Yd (by rw[hs];rfl),Ua,Qp];rfl
 have e:i=z.cps.size:=by exact zar3 ‹_› ‹_›
 subst e;refine .inl ⟨HM,λD hD=>?_⟩;rw[Qr (HS Zy)];refine⟨TY,λq hq=>?_⟩;have nDq:D≠q:=zab (o:=_) zad hq;refine⟨D,q,xf,rfl,Hn (by rw[zaf nDq];exact zad),Ef,?_⟩;have e:nmV CO=(((z.cps.toList.filter λc=>!sgn c).map λc=>V.str ⟨#[c]⟩).isEmpty):=by show nmS z=_;unfold nmS;rw[decide_eq_true ⟨h1,h2⟩,Bool.true_and,List.isEmpty_map,Yn,Zw,List.isEmpty_iff,List.filter_eq_nil_iff];exact⟨λh c hc=>by rw[h c hc];decide,λh c hc=>by have:=h c hc;simpa using this⟩
 have:=k _ ((Ht hD).trans (Keep.new (o:=.lst []) hq));rw[e]at this;exact this
end
end K21
namespace L2
open PySem PySem.Spec PyProof.Rows
def zi7{X:Cx}{K:Nb}(hK:X.K=K):WH CP (rIn K true):=hK▸zdr
end L2
namespace K21
open PySem L2 Wb PySem.W
abbrev sDueP:Stmt:=top 44
inductive DueR(ps:List (Str×V))(ns:Ng):List Str→Prop
 |pl (h:¬zf3 ps ns):DueR ps ns ["place"]
 |nm (h:zf3 ps ns) (h2:¬∀p∈ps,nmV p.2=true):DueR ps ns ["name"]
 |tw (h:zf3 ps ns) (g:Nq) (h2:AllN ps g) (h3:¬InjN ps g):DueR ps ns ["twice"]
 |ok (h:zf3 ps ns) (g:Nq) (h2:AllN ps g) (h3:InjN ps g):DueR ps ns []
def AllN.nm{ps:List (Str×V)}{g:Nq}(h:XV g):∀p∈ps,nmV p.2=true:=λp hp=>by rw[(h p hp).1];exact zef.mpr (h p hp).2
def AllN.inj{ps:List (Str×V)}{g g':Nq}(h:XV g)(h':XV g')(i:XW g):XW g':=λp hp q hq e=>i p hp q hq (by
 have a1:g p.1=g' p.1:=by have:=(h p hp).1.symm.trans (h' p hp).1;injection this
 have a2:g q.1=g' q.1:=by have:=(h q hq).1.symm.trans (h' q hq).1;injection this
 rw[a1,a2,e])
def DueR.one{ps:List (Str×V)}{ns ws ws':Ng}(h:V1 ns ws)(h':V1 ns ws'):ws=ws':=by
 cases h with
 |pl a=>cases h' with
  |pl=>rfl
  |nm b=>exact absurd b a
  |tw b=>exact absurd b a
  |ok b=>exact absurd b a
 |nm a b=>cases h' with
  |pl c=>exact absurd a c
  |nm=>rfl
  |tw _ g c=>exact absurd c.nm b
  |ok _ g c=>exact absurd c.nm b
 |tw a g b c=>cases h' with
  |pl d=>exact absurd a d
  |nm _ d=>exact absurd b.nm d
  |tw=>rfl
  |ok _ g' d e=>exact absurd (d.inj b e) c
 |ok a g b c=>cases h' with
  |pl d=>exact absurd a d
  |nm _ d=>exact absurd b.nm d
  |tw _ g' d e=>exact absurd (b.inj d c) e
  |ok=>rfl
inductive IspDue(vs:List V)(H:Hp)(Q:VK):Prop
 | mk (u l:Nc) (ps:List (Str×V)) (zs:Ng) (h0:vs=[.ref u,.ref l]) (h1:Nm H u ps) (h2:H l=some (.lst (zs.map V.str))) (h3:zs.length≤40) (h4:zs.Nodup) (h5:ps.length≤100)
   (h6:∀(t:Nc) (ws:Ng) (H':Hp),V1 zs ws→H' t=some Ea→Keep [] H H'→Q Lx H'):IspDue vs H Q
def spDue:Sp:=λvs H Q _=>IspDue vs H Q
def ndDA:(["_law_key", "_law_places"]:List Str).Nodup:=by decide+kernel
def ndDB:(["_law_place",qN]:List Str).Nodup:=by decide+kernel
def ndDC:(["_law_name"]:List Str).Nodup:=by decide+kernel
section
variable{P:Nk}{w:Nn}{K:Nb}{mg:Nh}{base:No}
def scDueP:zam [qN, "_law_places", "_law_told_here"] [qN, "_law_places"] (zaj sDueP):=fsk
def ok_due(F:Z5 "_law_due" "_law_due" sDueP f fd)(GN:ZU "_law_is_name" ["_law_thing"] 1 zf6)(ad:RE)(eD:mg "set" = none):ZB 2 f fd [qN, "_law_places"] spDue:=by
 refine F.okL scDueP HZ;obtain⟨u,l,ps,zs,rfl,N,hl,cu,cb,aU,kq⟩:=h;have hu:=zb9 hr;have be:=Wn hu;have aH:=sizeLine_eq;refine⟨_,zae (zbu (PW.pt (zi2 (N5 (pe_thaw (zd5 (M:=["_law_key", "_law_places"]) (ix:=[none,RH 1]) zE rfl (zgm Sd) (λC a7 ex s H=>UQ ndDA) (λC a7 ex s H=>zfh (zan (zi7 (K:=K) rfl) Sd Sf rfl)) (λC a7 ex s H=>pv 0))) SM Sq)
   (zgl (Gz (zah call_lenD Ho ad Zl SA) (Tk Sn) Sq)))) ON zas)
  (zae (ps_lc (i:=2) (M:=["_law_place",qN]) (ix:=[none,RH 0]) scDueP.nd rfl rfl zE rfl (za6 Sf) (λC a7 ex s H=>UQ ndDB) (λC a7 ex s H=>zbw) (λC a7 ex s H=>zdg (by exact hu) Sf Sd) rfl)
  (zae (zbu (N5 (zd5 (M:=["_law_name"]) (ix:=[none]) zE rfl (za6 Sr) (λC a7 ex s H=>UQ ndDC) (λC a7 ex s H=>zfh (OI (pcl GN (by exact hr) SA))) (λC a7 ex s H=>pv 0)) SM Sq) ON zas)
  (zae (Am (Gv Ed (Tk SQ) Sq) ON)
  (zag (yk SM))))),?_⟩
 have aA:(zs.map V.str).length=zs.length:=Qa ..;have qX:(ps.map λq=>Hx).length=ps.length:=Qa ..;have nfu:∀o' u',H u≠some LQ:=λo' u' z=>by rw[N.dc]at z;cases z
 have one:∀{G:Hp} {t:Nc} {z:Str},G t=none→Keep [] H G→V1 zs [z]→Q Lx (Pq G t (.lst [CO])):=λ{G t z} ht k d=>kq t [z] _ d zad (k.trans AM);have nul:u≠l:=zax N.dc hl Hh;refine⟨_,rfl,u,_,rfl,N.dc,λo=>⟨λi m ys τ H'=>Aj6 (m=ps.length-i) (i≤ps.length) (Ex1 λx0=>τ=[x0,Ix]) (H' u=some (.frz o (.dK (ps.map λq=>Hx)))) (Keep [u] H H') (ys=(((ps.take i).map (·.1)).filter λz=>decide (z∉zs)).map V.str),
  ⟨ps.length,rfl,Tq,⟨none,rfl⟩,zad,En,rfl⟩,?_⟩⟩
 rintro i m ys τ H1 ⟨rfl,hi,⟨x0,rfl⟩,hz,k1,rfl⟩;by_cases ae:i<ps.length
 ·refine .inr ⟨⟨hz,by rw[qX];exact ae⟩,by rw[Qa];exact Yh (Wv ..) (by rw[Qa,Za];lia),?_⟩;rintro y H' ⟨rfl,pr,e1,rfl⟩;have gg:pr=((Sum.inr ps[i].1:Key),ps[i].2):=by rw[Qo,Qb ae]at e1;exact(Qn e1).symm
  subst gg;have ax:=k1 _ _ hl (Rx nul);have tk:(ps.take HY).map (·.1)=(ps.take i).map (·.1)++[ps[i].1]:=by rw[Qk ae,Qp];rfl
  refine⟨xf,xf,l,xf,Ss ax,rfl,zc9 _,xf,?_⟩;rw[show(kV (Sum.inr ps[i].1:Key))=V.str ps[i].1 from rfl,zjk];by_cases hm:ps[i].1∈zs
  ·refine zaw (by rw[Rh hm];rfl) ⟨_,Hy,rfl,ae,⟨_,rfl⟩,hz,k1,?_⟩;rw[tk,Yq,Yf (Hd hm),Ua,Zq]
  refine za4 (by rw[Se hm];rfl) ⟨_,rfl,_,Hy,rfl,ae,⟨_,rfl⟩,hz,k1,?_⟩;rw[tk,Yq,Yd (Hd hm),Ua,Qp];rfl
 have c8:i=ps.length:=by lia
 subst c8;rw[Qr HM];refine .inl ⟨⟨hz,HS qX⟩,λD hD=>?_⟩;have nuD:u≠D:=Fr hD;refine⟨u,o,_,(Hq nuD hz),nfu,?_⟩;generalize hL:(ps.map (·.1)).filter (λz=>decide (z∉zs))=L;have hLe:L=[]↔∀y∈ps.map (·.1),y∈zs:=by rw[←hL,List.filter_eq_nil_iff];exact⟨λh y hy=>by have:=h y hy;simpa using this,λh y hy=>by simpa using h y hy⟩
 have k2:Keep [] H (J2 (.dK (ps.map λq=>Hx))):=λc w' ec _=>by
  by_cases gw:c=u
  ·subst gw;rw[zad,←N.dc];exact ec
  have:=k1 c w' ec (Hd gw);rw[zaf gw,zaf (zab this hD)];exact this
 have gD:(J2 (.dK (ps.map λq=>Hx))) D=some (Hv (L.map V.str)):=by rw[zaf (Zd nuD)];exact zad
 generalize J2 (.dK (ps.map λq=>Hx))=H2 at k2 gD;refine⟨TY,λe0 vP=>?_⟩;generalize q3:Q3 e0 _=H3;obtain⟨k3,g3⟩:=nwk vP q3;have cK:=k2.trans k3;refine⟨D,e0,xf,rfl,Hn (Cp gD),Hn g3,xf,?_⟩;have retP:∀{G:Hp} {t:Nc},G t=none→Keep [] H G→¬Vy zs→Q Lx (Pq G t (.lst [.str "place"])):=λht k h=>one ht k (.pl h);cases hL0:L with
 |cons a t=>refine Q6 ⟨LR,λt0 lF=>retP lF cK λz=>?_⟩;have:=hLe.mpr λy hy=>(z y).mp hy;rw[hL0]at this;cases this
 |nil=>
 refine QF ?_;have dw:=hLe.mp hL0;have N3:=N.keep cK;have cg:=cK _ _ hl Hb;refine⟨xf,u,xf,N3.dc,xf,l,xf,Ss cg,rfl,xf,?_⟩;rw[qX,aA];by_cases oW:ps.length=zs.length
 rotate_left
 ·refine za4 (by simpa using λz=>oW Hc) ⟨LR,λt0 lF=>retP lF cK λz=>oW ?_⟩;have a1:=zcp N.nd λy hy=>(z y).mp hy;have a2:=zcp cb λy hy=>(z y).mpr hy;rw[Qa]at a1 a2;lia
 refine zaw (Sa oW) ?_;have cD:Vy zs:=(same_set N.nd cb).mp ⟨by rw[show SetD.cn (ps.map (·.1))=(ps.map (·.1)).length from(EH _).2.2.2.mpr N.nd,show SetD.cn zs=zs.length from(EH _).2.2.2.mpr cb,Qa];exact oW,dw⟩;have inP:∀y∈zs,∃p∈ps,p.1=y∧B9 y=p.2:=λy hy=>by obtain⟨p,hp,e⟩:=Qf.mp ((cD y).mpr hy);have e:p.1=y:=e;exact⟨p,hp,e,e▸KP hp⟩
 refine⟨xf,l,rfl,⟨_,Hn cg⟩,lc_at (xs:=zs.map V.str) (λ τ=>∃x0,τ=[x0,Hj u]) (Sy TN) (by rw[Qa,Qa]) (Hn cg) SJ ⟨none,rfl⟩ ?_ (λT hT=>?_)⟩
 ·rintro i hi di τ ⟨x1,rfl⟩ kk hk;rw[Qa]at hi;rw[Zp]at hk ⊢;obtain⟨p,hp,e1,e2⟩:=inP _ EA;rw[e2]at hk;refine⟨xf,xf,u,xf,HL ⟨_,Sum.inr zs[i],.inl N3.dc,rfl,?_⟩,hk _ ⟨xf⟩⟩;rw[←e1,valP N.nd hp]
 generalize q4:QX T _=H4;obtain⟨k4,g4⟩:=nwk hT q4;have me:=cK.trans k4;refine⟨xf,T,rfl,⟨_,Hn g4⟩,λi m ys τ H'=>Aj5 (m=zs.length-i) (i≤zs.length) (Ex1 λx0=>τ=[x0]) (Keep [] H4 H') (ys=((Sy TN).take i).filter λv=>!nmV v),⟨_,rfl,Tq,⟨none,rfl⟩,Keep.refl,rfl⟩,?_⟩;have uG:(Sy TN).length=zs.length:=Qa ..;rintro i m ys τ H5 ⟨rfl,hi,⟨x0,rfl⟩,k5,rfl⟩;by_cases ae:i<zs.length
 ·have uZ:i < (Sy TN).length:=by rw[uG];exact ae
  refine .inr ⟨⟨_,(Sy TN)[i],yV,Qb uZ⟩,Yh (Wv ..) ym,?_⟩;rintro v H' ⟨rfl,hv⟩;have bD:=hv _ yV;rw[Qb uZ]at bD;obtain rfl:(Sy TN)[i]=v:=Qn bD;have tk:(Sy TN).take HY=(Sy TN).take i++[(Sy TN)[i]]:=Qk uZ;have eI:Odd H' (Sy TN)[i]:=by rw[Zp];obtain⟨p,hp,_,e⟩:=inP _ (Qq ae);rw[e];exact(N.od p hp).keep (me.trans k5)
  generalize(Sy TN)[i]=v at tk eI;refine⟨xf,v,rfl,eI,λH6 k6=>⟨_,rfl,?_⟩⟩;cases hb:nmV v with
  |true=>refine QF ⟨_,Hy,rfl,ae,⟨_,rfl⟩,TU k6,?_⟩;rw[tk,Yq,Yf (by rw[hb];decide),Ua,Zq]
  |false=>refine Q6 ⟨_,rfl,_,Hy,rfl,ae,⟨_,rfl⟩,TU k6,?_⟩;rw[tk,Yq,Yd (by rw[hb];rfl),Ua]
 have c8:i=zs.length:=by lia
 subst c8;rw[Qr (HS uG)];refine .inl ⟨⟨_,yV,HS uG⟩,λD2 mV=>?_⟩;generalize hM:(Sy TN).filter (λv=>!nmV v)=M at mV ⊢;have hMe:M=[]↔∀p∈ps,nmV p.2=true:=by
  rw[←hM,List.filter_eq_nil_iff];constructor
  ·intro h p hp;have:=h (B9 p.1) (Ob ⟨p.1,(cD p.1).mp AX,rfl⟩);rw[KP hp]at this;simpa using this
  intro h v hv;obtain⟨y,hy,rfl⟩:=Qf.mp hv;obtain⟨p,hp,_,e⟩:=inP y hy;rw[e,h p hp];decide
 generalize q6:Q4 D2 _=H6;obtain⟨k6,g6⟩:=nwk mV q6;refine⟨TY,λe1 fe1=>?_⟩;generalize q7:BU e1 _=H7;obtain⟨k7,g7⟩:=nwk fe1 q7;have nO:=(TU k6).trans k7;have nU:=me.trans nO;refine⟨D2,e1,xf,rfl,Hn (k7 _ _ g6 Hb),Hn g7,xf,?_⟩;cases hM0:M with
 |cons a t=>refine Q6 ⟨LR,λt0 lF=>one lF nU (.nm cD λz=>?_)⟩;have:=hMe.mpr z;rw[hM0]at this;cases this
 |nil=>
 refine QF ?_;have am:=hMe.mp hM0;have fM:∀p∈ps,∃z,p.2=.str z∧zbf z:=λp hp=>by
  have:=am p hp
  revert this
  cases p.2 with
  |str z=>exact λh=>⟨z,rfl,zef.mp h⟩
  |_=>intro h;cases h
 let g:Str→Str:=λx=>match vl ps x with | .str z=>z|_=>x
 have hg:XV g:=λp hp=>by
  obtain⟨z,e,hz⟩:=fM p hp;have:g p.1=z:=by show(match vl ps p.1 with | .str z=>z|_=>p.1)=z;rw[vl_in N.nd hp,e]
  rw[this];exact⟨e,hz⟩
 have hvl:zs.map TN=(Sy g).map V.str:=by rw[Zc];refine Wd λy hy=>?_;obtain⟨p,hp,rfl,e⟩:=inP y hy;rw[e];exact(hg p hp).1
 have vM:=nO _ _ g4 Hb;rw[hvl]at vM;have hgl:(Sy g).length=zs.length:=Qa ..;have c1:=(EH (Sy g)).2.2;have pd:(Sy g).Nodup↔XW g:=by
  constructor
  ·intro h p hp q hq e;exact nodup_inj h ((cD p.1).mp AX) ((cD q.1).mp (Rw q hq)) e
  intro h;refine Wx.mpr (cb.imp_of_mem λ{a b} ha hb n e=>n ?_);obtain⟨p,hp,rfl,_⟩:=inP a ha;obtain⟨q,hq,rfl,_⟩:=inP b hb;exact h p hp q hq e
 refine⟨xf,T,Sy g,rfl,Hn vM,HG hgl,λt8 ft8=>?_⟩;generalize q8:JE t8 _=H8;obtain⟨k8,g8⟩:=nwk ft8 q8;have nQ:=nU.trans k8;refine⟨t8,Sy g,rfl,g8,HG hgl,xf,T,xf,Ss (k8 _ _ vM Hb),_,xf,rfl,xf,?_⟩;rw[Qa];by_cases hn:(Sy g).Nodup
 ·have:=c1.2.mpr hn;refine zaw (decide_eq_false (by show ¬((SetD.cn (Sy g):Nat):Int)<_;unfold SetD.cn;lia)) ⟨TY,λt9 vO=>?_⟩;exact kq t9 [] _ (.ok cD g hg (pd.mp hn)) zad (nQ.trans (Ht vO))
 have h1:(SetD.dd (Sy g)).length≠(Sy g).length:=λe=>hn (c1.2.mp e);have h2:=c1.1;refine za4 (decide_eq_true (by show((SetD.cn (Sy g):Nat):Int)<_;unfold SetD.cn;lia)) ⟨LR,λt9 vO=>one vO nQ (.tw cD g hg λz=>hn (pd.mpr z))⟩
end
end K21
namespace L2
open PySem PySem.Spec PyProof.Rows
abbrev Cx.held(X:Cx)(a:Nc)(o:Obj):Cx:={X with A:=X.A.mark (Hj a),calm:=false,xe:=λ_ _=>False,pn:=(a,o)::X.pn}
def Under(X:Cx):Prop:=∃a o,X.A.handled=some Rm∧(a,o)∈X.pn∧LoneO o
section
variable{X:Cx}{a7:Nd}{σ:St}{H:Hp}{s:Ni}{E:Na}{a:Nc}{ob:Obj}
def zhw(h:LoneO ob):Under (MG ob):=⟨a,ob,rfl,Qd,h⟩
def Inv.held(I:ZI (a7++[(a,ob)]) σ H s):Ha s:=
 ⟨⟨I.ok.mod,I.ok.kind,I.ok.glob,I.ok.blt,I.ok.above,I.ok.inj,I.ok.has,I.ok.cab,(λh=>nomatch h),I.ok.frames,I.ok.stk,I.ok.exf,I.ok.bs,I.ok.bsz,I.ok.noex,I.ok.exfs,I.ok.funs,I.ok.frf⟩,I.os,I.bare,I.base,I.loc,I.cell,I.free,I.freeC,
  λp hp=>Y6 (by
   simp only[Qe,Qj]at hp ⊢;rcases hp with(z|z)|z
   ·exact .inr (SK (HL z))
   ·exact .inl z
   exact .inr (HL z)),I.hok,I.len⟩
def Inv.unheld(ok:X.Ok)(I:Ha s):ZA H s:=
 ⟨ok,I.os,I.bare,I.base,I.loc,I.cell,I.free,I.freeC,λp hp=>Y6 (QL hp),I.hok,I.len⟩
def SP.offH{D:Ends}{i:Nat}{x:Str}{pos:Pos}{f:Flow}{E:Na}{M:Model}{A:Np}(ok:X.Ok)(hN:X.N.Nodup)(hi:X.N[i]?=some x)(hk:X.env.scope.names.lookup x=some .local)(h:SP (MG ob) a7 (D.off i) f s) :
  wpAny M A (do bindName X.env x .none;unbindBehindTheSuite X.env x pos) (λ_ s'=>JF D f s') E s:=by
 cases f with
 |next=>obtain⟨σ',H',I,q⟩:=h;exact US hk λs' I'=>⟨_,H',I',q⟩
 |brk=>obtain⟨σ',H',I,q⟩:=h;exact US hk λs' I'=>⟨_,H',I',q⟩
 |cont=>obtain⟨σ',H',I,q⟩:=h;exact US hk λs' I'=>⟨_,H',I',q⟩
 |ret u=>obtain⟨v,σ',H',I,r,q⟩:=h;exact US hk λs' I'=>⟨v,_,H',I',r,q⟩
def tTryP(K:Nb)(c:Value)(i:Nat)(EX:St→XK)(tb:TS)(ts:Addr→Obj→TS):TS:=λD σ H=>Aj2 (tb D σ H) (∀(σ':St) (H':Hp) (a:Nc) (o:Obj),σ'.length=σ.length→EX σ' o.cls o.dict H'→H' a=none →
 Aj2 (BJ o.cls c=some true) (ts a o (D.off i) (σ'.set i (Hj a)) H'))
def ps_tryP{body suite:List Stmt}{b₀:Stmt}{x n:Str}{np bY pos:Pos}{i:Nat}{c:Value}{EX:St→XK}{tb:TS}{ts:Addr→Obj→TS}(av:X.stack=X.env::X.outer)(l0:X.ex=[])(hfm:X.env.frame=some X.env.locals)(hb:∀(E':Na) (pn:Nd),PassesS (CXr X.prog X.w) (X.tried E' pn) EX→PSs (X.tried E' pn) body tb)(hs:∀a o,LoneO o→PSs (MG o) (b₀::suite) (ts a o))(hN:X.N.Nodup)(hi:X.N[i]?=some n)(hk:X.env.scope.names.lookup n=some .local)(hg:Vk x)(hm:X.mg x=some c)(cY:Rc=false:=by decide) :
  PS X (.Try body [.ExceptHandler (RH (Tp x np)) (RH n) (b₀::suite) bY] [] [] pos) (tTryP X.K c i EX tb ts):=by
 intro a7 s σ H D I h;obtain⟨h1,h2⟩:=h;refine wpAny_Try_except ?_;refine wpAny_mono (hb (λe s₁=>ZE (noteFrame e X.env) (λ_ s₂=>ZE (setFlight e none) (λ_ s₃=>ZE (handleBy e X.env [.ExceptHandler (RH (Tp x np)) (RH n) (b₀::suite) bY]) (JF D) X.xe s₃) X.xe s₂) X.xe s₁) (X.pn++a7) ?_ [] s σ H D (I.tried _) h1) (λfl s1 hq=>?_) λ_ _ z=>z
 ·intro pins' σ' H1 s1 e s' J hx;obtain⟨a,cls,a0,dd,H',B,rfl,os,bare,un,hok,hB,hT,fl,ln,q⟩:=hx;have J:ZD σ' H1 s1:=J.untried (pn:=[]) I.ok;rw[av]at fl;have cH:X.A.frames=some (X.env::X.outer):=by rw[I.ok.frames,av]
  refine noteR zek cH hfm fl ln λh₄ ln₄ held₄ us₄=>?_;refine landR (s:={s' with heap:=h₄}) held₄.1 held₄.2.1 held₄.2.2.1 held₄.2.2.2 ln₄ λh₅ ln₅ fl₅ us₅=>?_;have J₅:ZD σ' H' {s' with heap:=h₅}:=Vj fl₅.1 (by rw[av];exact fl.2.2.1) (us₄.trans us₅);have na:H' a=none:=by
   cases z:H' a with
   |none=>rfl
   |some o=>obtain⟨u,hu⟩:=hT a o z;rw[fl.2.1]at hu;cases hu
  have n1:s1.heap.get? a=none:=by
   cases z:s1.heap.get? a with
   |none=>rfl
   |some o=>
    exfalso;by_cases hf:a∈frs X.stack
    ·rw[av]at hf;obtain⟨_,o',aw,hd⟩:=fl.2.2.1.mem hf;obtain⟨oe,vs,hoe,_,uv,_⟩:=fl.first;rw[aw]at hoe;cases hoe;exact hd vs uv
    obtain⟨u,hu⟩:=hB a o z hf;rw[fl.2.1]at hu;cases hu
  obtain⟨ob,fX,kF⟩:=fl₅.there;have LT:PySem.W.Looks Hk h₅ (typeOf Rm) cls:=kF▸(PySem.W.Looks.ld fX).andThen .now;have he:PySem.W.exmOne X.K cls c=some true:=by obtain⟨o5,ho5,L5⟩:=ln₅;rw[fX]at ho5;cases ho5;have q':=q;rw[←kF,←L5.2]at q';rw[←kF];exact(h2 σ' H' a ob (by rw[J.len,I.len]) q' na).1
  refine wpAny_handleBy_cons (codeAny_handlers_test (zfj (J₅.suite a) hg hm ?_ cY)) Hh;refine(PySem.W.exm_one J₅.kIn LT he).here ?_;refine codeAny_handlers_suite_as ?_;refine landR (s:={s' with heap:=h₅}) fl₅.1 fl₅.2.1 fl₅.2.2.1 fl₅.2.2.2.at ln₅ λh₆ ln₆ fl₆ us₆=>?_;have J₆:ZD σ' H' {s' with heap:=h₆}:=Vj fl₆.1 (by rw[av];exact fl.2.2.1) ((us₄.trans us₅).trans us₆);obtain⟨o6,ho6,L6⟩:=ln₆;have eS:o6.cls=cls:=by obtain⟨o,z,hc⟩:=fl₆.there;rw[ho6]at z;cases z;exact hc
  obtain⟨_,hsu⟩:=h2 σ' H' a o6 (by rw[J.len,I.len]) (by rw[eS,L6.2];exact q) na;have J₇:ZI (a7++[(a,o6)]) σ' H' {s' with heap:=h₆}:=by
   refine J₆.pins_of λp hp=>?_;rcases Qe.mp hp with z|z
   ·exact J₆.pin p PX
   cases Qc.mp z;refine⟨ho6,na,?_,?_,λv z=>by obtain⟨⟨vs,hd,_⟩,_⟩:=L6;rw[hd]at z;cases z⟩
   ·rintro rfl;obtain⟨m,⟨o,_,_,ho,_⟩,_⟩:=J.loc;rw[n1]at ho;cases ho
   intro z;obtain⟨_,o,ho,_⟩:=J.funs.mem z;rw[n1]at ho;cases ho
  refine zij (v:=.ref a) J₇ hN hi (HL hk) rfl (λs₈ I₈=>?_) (SK hk);refine wpAny_mono (hs a o6 L6.1 a7 s₈ _ _ (D.off i) I₈.held hsu) (λf s₉ hq=>?_) λ_ _ z=>z.elim;exact SP.offH I.ok hN hi hk hq
 have hq:=SP.untried I.ok hq;cases fl with
 |next=>exact wpAny_pure hq
 |brk=>exact hq
 |cont=>exact hq
 |ret u=>exact hq
def zcb{K:Nb}{ob:Obj}(hK:X.K=K)(hp:(a,ob)∈X.pn):YH (.builtin "isinstance") (λxs H Q=>Ex4 λ(C:Nc) (c:V) (u:Value) (b:Bool)=>Aj6 (xs=[Rm,c]) (ob.cls=.ref C) (M8 C) (∀u',RelV c u'→u'=u) (ZZ SE u=some b) (Ca b)):=by subst hK;intro a7 s σ H xs us Q I r h;obtain⟨C,c,u,b,rfl,ha,ci,hc,e,q⟩:=h;obtain⟨u1,u2,rfl,r1,r2⟩:=vals2 r;cases r1;rw[hc _ r2];exact Wz (ex_kit ci) I.kIn ⟨ob,(I.pin (a,ob) EJ).1,ha⟩ e (λz=>nomatch z) λtk=>⟨Eg,H,I.tok tk,rfl,q⟩
def zjm:entryFor table "proto.unchain" = some Builtin.«proto.unchain»:=entryFor_of_tree (by kernel_rfl)
end
section
variable{prog:Nk}{w:Nn}{A:Np}{E:Na}{s:Ni}
structure Lone(h:No)(a:Nc):Prop where
 ex:∃o vs,h.get? a=some o∧o.data=.fields vs∧vs[2]?=some .none
def raise_under{α:Type}{Q:α→Shared→Prop}{e a:Nc}{oe:Obj}{ves:Array Value}(hh:A.handled=some Rm)(L:JQ a)(he:s.heap.get? e=some oe)(hde:oe.data=.fields ves)(hs:2<ves.size)(az:a≠e)(hE:E CA {s with heap:=s.heap.update e (Obj.mapFields λvs=>vs.setIfInBounds 2 Rm)}):ZG (raiseNew CA) Q E s:=by
 obtain⟨o,vs,ho,hd,h2⟩:=L;have hb:(Value.ref a != Value.ref e)=true:=by show(!(Value.ref a==Value.ref e))=true;rw[beq_eq_false_iff_ne.mpr λz=>az (by injection z)];rfl
 unfold raiseNew;refine wpAny_bind (wpAny_handled ?_);rw[hh];dsimp only;rw[if_pos hb];refine wpAny_bind (EN (wpAny_runValue (codeAny_builtin zjm ?_)));unfold Builtin.«proto.unchain»;dsimp only;refine wpAny_bind (U1 h2 ?_);rw[if_pos Ho];refine wpAny_pure ?_;refine wpAny_bind ?_;unfold updateField;refine wpAny_bind (wpAny_load he ?_);rw[hde];dsimp only;rw[if_pos hs];exact wpAny_update he (wpAny_throw hE)
def zg5{h:No}{a:Nc}(L:Lone h a)(o:Obj):Lone (h.push o) a:=let⟨o',vs,e,x⟩:=L.ex;⟨o',vs,Cz,x⟩
def zjc{h h':No}{a it:Nc}(L:Lone h a)(hn:a≠it)(k:MH h h'):Lone h' a:=let⟨o',vs,e,x⟩:=L.ex;⟨o',vs,k a _ hn e,x⟩
def zhy{α:Type}{a:Nc}{Q:α→Shared→Prop}(hh:A.handled=some Rm)(L:JQ a)(hE:∀(x:Nc) (h':No),(∀b o,s.heap.get? b=some o→h'.get? b=some o)→(∃o,h'.get? x=some o∧o.cls=.type "StopIteration")→E T8 {s with heap:=h'}) :
  wpAny HH A (newExc (.type "StopIteration") [] >>= λx=>(raiseNew x:Sem α)) Q E s:=by
 have la:a<s.heap.objs.size:=let⟨_,_,e,_⟩:=L.ex;Qu e;refine wpAny_bind ?_;simp only[newExc,newTuple];refine wpAny_bind (wpAny_newObj_type ?_ (by size_fits));refine wpAny_bind (m:=firstArgMember _ _) (wpAny_of_eq (a:=Value.none) (by simp only[firstArgMember];rfl) ?_);refine wpAny_newObj_type ?_ (by size_fits);have hz:(s.heap.push {cls:=.type "tuple",data:=.seq #[]}).objs.size=s.heap.objs.size+1:=by simp[Heap.push]
 refine raise_under (oe:=_) (ves:=_) hh (zg5 (zg5 L _) _) Tc rfl ?_ ?_ (hE _ _ (λb o e=>?_) ⟨_,Jt _ Tc (Kh (Uj rfl _)),Obj.cls_mapFields ..⟩)
 ·simp;lia
 ·exact Zi (by rw[hz];exact Js la)
 have lb:=Qu e;refine(NH ?_).trans (QQ Cz);exact Yo (by rw[hz];exact Js lb)
def zh7{it a x:Nc}{Q:Option Value→Shared→Prop}{h':No}(c:∃o,h'.get? x=some o∧o.cls=.type "StopIteration")(hQ:Q none {s with heap:=h'}) :
  wpAny HH A (do if ←isInstance T8 (.type "StopIteration") then pure (none:Option Value) else throw T8) Q E {s with heap:=h'}:=
 wpAny_bind (wpAny_isInstance (T:= "StopIteration") (b:=true) c isSubtype_stop (RP hQ))
def zhq{it l a:Nc}{i:Nat}{items:Array Value}{Q:Option Value→Shared→Prop}(hh:A.handled=some Rm)(L:JQ a)(bv:a≠it)(hit:s.heap.IsListIter it l i)(hl:s.heap.IsList l items)(hx:items[i]?=none)(hQ:∀h',MH s.heap h'→Q none {s with heap:=h'}):ZG CY Q E s:=by have iA:=hit.typeIs;obtain⟨ob,fX,cI,lg⟩:=hit;obtain⟨ol,kC,_,nl,gW⟩:=hl;unfold pyNext;refine wpAny_bind (Lf (wpAny_callSpecial?_slot (name:=Str.ofString "__next__") iA slot_listiter_next (wpAny_call_entry slot_listiter_next iA entry_listiter_next ?_ (args_listiter_next _))));refine(wpAny_bind (Bu (x:=.ref l) rfl ?_):ZQ _ (field SW 0 >>= _) _ _ s);refine(wpAny_bind (Bu (x:=.int i 0) rfl ?_):ZQ _ (field SW 1 >>= _) _ _ s);refine(wpAny_bind (DK ?_):ZQ _ (seqItems? Tb >>= _) _ _ s);rw[Ul];dsimp only;rw[hx];refine wpAny_bind (zi (DL Hb ?_));exact zhy hh (zjc L bv (Bb (Ue ..))) λx h' k c=>zh7 (it:=it) (a:=a) c (hQ h' λb o hb e=>k b o (Bb (Ue ..) b o hb e))
def zgf{it l a:Nc}{i:Nat}{items:Array Value}{Q:Option Value→Shared→Prop}(hh:A.handled=some Rm)(L:JQ a)(bv:a≠it)(hit:IsTupIter s.heap it l i)(hl:KZ l items)(hx:items[i]?=none)(hQ:∀h',MH s.heap h'→Q none {s with heap:=h'}):ZG CY Q E s:=by obtain⟨ob,fX,cI,lg⟩:=hit;have iA:s.TypeIs SW "tuple_iterator" :=⟨ob,fX,cI⟩;obtain⟨ol,kC,_,nl,gW⟩:=hl;unfold pyNext;refine wpAny_bind (Lf (wpAny_callSpecial?_slot (name:=Str.ofString "__next__") iA Uu (wpAny_call_entry Uu iA F.entry_tuple_iterator_next ?_ (Xx _))));refine(wpAny_bind (Bu (x:=.ref l) rfl ?_):ZQ _ (field SW 0 >>= _) _ _ s);refine(wpAny_bind (Bu (x:=.int i 0) rfl ?_):ZQ _ (field SW 1 >>= _) _ _ s);refine(wpAny_bind (DK ?_):ZQ _ (seqItems? Tb >>= _) _ _ s);rw[Ul];dsimp only;rw[hx];refine wpAny_bind (zi (DL Hb ?_));exact zhy hh (zjc L bv (Bb (Ue ..))) λx h' k c=>zh7 (it:=it) (a:=a) c (hQ h' λb o hb e=>k b o (Bb (Ue ..) b o hb e))
def apart_under{t a:Nc}{items:Array Value}{Q:List Value→Shared→Prop}(hh:A.handled=some Rm)(L:JQ a)(ht:KZ t items)(hQ:∀h',X9 h'→Q items.toList {s with heap:=h'}):ZG (unpackItems Lx items.size none) Q E s:=by
 have nt:t≠s.heap.objs.size:=by obtain⟨o,ho,_⟩:=ht;exact Zi (Qu ho)
 have na:a≠s.heap.objs.size:=by obtain⟨⟨o,_,ho,_⟩⟩:=L;exact Zi (Qu ho)
 unfold unpackItems notIterableAtAll;refine wpAny_bind (HN (wpAny_specialOf ht.typeIs slot_tuple_iter.lookup RM));rw[if_neg Hb];refine wpAny_bind (EN (iter_tuple ht ?_));refine wpAny_bind (wpAny_holding (draw_tuple nt items.size 0 _ _ ⟨_,Tc,rfl,rfl⟩ (ht.push _) Hc λh1 it1 k1=>?_));rw[List.drop_zero,Qr Hb,if_neg Hb];refine wpAny_bind (wpAny_holding (zgf hh (zjc (zg5 L _) na k1.extBut) na it1 ((ht.push _).extBut k1.extBut nt) Hb λh2 k2=>?_));rw[if_neg Hb];exact wpAny_pure (hQ h2 λb o hb e=>k2 b o hb (k1.extBut b o hb Cz))
def assign_under{env:Env}{elts:Nr}{x1}{pos:Pos}{t a:Nc}{items:Array Value}{Q:Unit→Shared→Prop}(hh:A.handled=some Rm)(L:JQ a)(ht:KZ t items)(hn:(assignEach elts env).length=items.size)(av:(assignEach elts env).findIdx? (·.1)=none)(h:∀h',X9 h'→ZG (assignInOrder ((assignEach elts env).map (·.2)) items.toList) Q E {s with heap:=h'}) :
  wpAny HH A (assign (.Tuple elts x1 pos) env Lx) Q E s:=by
 rw[assign_Tuple];refine wpAny_bind (wpAny_standAt ?_);unfold unpack;rw[hn,av];exact wpAny_bind (EN (apart_under hh L ht h))
end
structure TurnU(P:Nk)(w:Nn)(K:Nb)(tg:Expr)(J:It)(fp:Nl)(it:Nc)(tn:Nat→Heap→Prop):Prop where
 obj:∀i h,tn i h→∀b∈fp,∃o,h.get? b=some o∧∀v,o.data≠.cell v
 keep:∀i h h',tn i h→(∀b∈fp,∀o,h.get? b=some o→h'.get? b=some o)→tn i h'
 item:∀(X:Cx),X.prog=P→X.w=w→X.K=K→Under X→∀(i:Nat) (a7:Nd) (s:Ni) (σ:St) (H:Hp) (E:Na),ZA H s→(∀b∈fp,QK b)→tn i s.heap→D7 H →
  wpAny TK X.A CY (λr s1=>∃u,r=some u ∧
   wpAny TK X.A CV (λ_ s2=>∃x H',ZA H' s2∧WK u∧XE H'∧tn HY s2.heap∧∀b∈fp,H' b=none) E s1) E s
 done:∀(X:Cx),X.prog=P→X.w=w→X.K=K→Under X→∀(i:Nat) (a7:Nd) (s:Ni) (σ:St) (H:Hp) (E:Na),ZA H s→(∀b∈fp,QK b)→tn i s.heap→V5 H →
  wpAny TK X.A CY (λr s1=>r=none∧ZA H s1) E s
 self:∀(A:Np) (i:Nat) (s:Ni) (Q:Na) (E:Na),tn i s.heap→Q SW s→BM s
inductive PIEU(X:Cx)(a7:Nd)(σ:St)(tg:Expr)(R:It→Hp→Prop)(itv:Value)(s2:Ni):Prop
 |mk (it:Nc) (fp:Nl) (tn:Nat→Heap→Prop) (J:It) (H':Hp) (h0:itv=.ref it) (h1:Inv X a7 σ H' s2) (h2:TurnU X.prog X.w X.K tg J fp it tn) (h3:tn 0 s2.heap) (h4:(∀b∈fp,FpOk X a7 H' b)) (h5:R J H'):PIEU X a7 σ tg R itv s2
def PIU(X:Cx)(tg iter:Expr)(wi:TI):Prop:=
 ∀(a7:Nd) (s:Ni) (σ:St) (H:Hp) (R:It→Hp→Prop),ZA H s→wi σ H R →
  wpAny Hk X.A LK (λv s1=>ZE (pyIter v) (PIEU X a7 σ tg R) X.xe s1) X.xe s
def lone_of{X:Cx}{a7:Nd}{σ:St}{H:Hp}{s:Ni}{a:Nc}{o:Obj}(I:HI)(hp:(a,o)∈X.pn)(L:LoneO o):JQ a:=
 let⟨vs,hd,h2⟩:=L
 ⟨o,vs,(I.pin (a,o) EJ).1,hd,h2⟩
theorem turn_listU{P:Nk}{w:Nn}{K:Nb}{tg:Expr}(a it:Nc):TurnU P w K tg (BZ a) [it] it (λi h=>h.IsListIter it a i) where
 obj:=(zeo (P:=P) (w:=w) (K:=K) (tg:=tg) a it).obj
 keep:=(zeo (P:=P) (w:=w) (K:=K) (tg:=tg) a it).keep
 self:=(zeo (P:=P) (w:=w) (K:=K) (tg:=tg) a it).self
 item:=by intro X hP hw hK hc i a7 s σ H E I hf st hg;subst hP hw hK;obtain⟨xs,x,hq,hx⟩:=hg;obtain⟨a8,rv,p,hz⟩:=I.list hq;obtain⟨u,hu,ru⟩:=rv.get hx;obtain⟨f0,f1,f2,f3,f4,f5⟩:=hf it Hb;refine Bn p.isList (x:=u) (Hd hu) λh' aa sb=>?_;have I1:ZA H {s with heap:=h'}:=I.turned (t':=s.toks) (λb o hb e=>(Oy hb).trans e) f0 f1 f3 f4 f5;obtain⟨o,e,c,d⟩:=id aa;exact⟨u,rfl,go_of (s:={s with heap:=h'}) e c d Hg ⟨x,H,I1,ru,⟨rfl,λys hy=>by rw[I.list_inj hy hq];exact hx⟩,aa,λb hb=>(hf b hb).1⟩⟩
 done:=by intro X hP hw hK hc i a7 s σ H E I hf st hg;subst hP hw hK;obtain⟨xs,hq,hx⟩:=hg;obtain⟨a8,rv,p,hz⟩:=I.list hq;obtain⟨f0,f1,f2,f3,f4,f5⟩:=hf it Hb;have hl:=rv.length;obtain⟨e,o,hh,hp,L⟩:=hc;exact zhq hh (lone_of I hp L) (λz=>f5 (e,o) EJ z) st p.isList (by simp;lia) λh' eb=>⟨rfl,I.turned (t':=s.toks) (λb o hb e=>eb b o hb e) f0 f1 f3 f4 f5⟩
section
variable{X:Cx}{tg:Expr}{pos:Pos}
def pi_listU{K:Nb}{l:Expr}{tl:TE}(hK:X.K=K)(hl:O5):PIU X tg l (iList K tl):=by
 subst hK;intro a7 s σ H R I h;refine thn Lc λv s1 ⟨x,H1,I1,r1,q1⟩=>?_;obtain⟨a,e,⟨xs,hq⟩,q⟩:=q1;subst e;cases r1;obtain⟨a8,rv,p,hz⟩:=I1.list hq;refine V6 ?_;refine⟨s1.heap.objs.size,[s1.heap.objs.size],_,_,H1,rfl,I1.kept (t':=s1.toks) λb o e=>QQ e,turn_listU a _,⟨_,Tc,rfl,rfl⟩,λb hb=>?_,q⟩;have e:b=s1.heap.objs.size:=by simpa using hb
 subst e;exact Bd TZ
def pg_tupU{K:Nb}{es:Nr}{k:Nat}{t:TGs}{n:Nat}(hK:X.K=K)(hc:Under X)(h:Dg t)(hn:(Tt es).length=n:=by rfl)(av:(Tt es).findIdx? (·.1)=none:=by rfl):BL (gTup K n t):=by subst hK;intro a7 s σ H v u Q I r hw;obtain⟨a,xs,e1,hq,hl,hw⟩:=hw;subst e1;cases r;obtain⟨a8,rv,ht,hz⟩:=I.tuple hq;obtain⟨e,o,hh,hp,L⟩:=hc;refine assign_under hh (lone_of I hp L) (ht:IsTup _ _ _) (by simp[hn,←hl,rv.length]) av λh' hx=>?_;have I1:ZA H {s with heap:=h'}:=I.kept (t':=s.toks) λb o e=>hx b o Cw e;exact h a7 _ σ H xs _ Q I1 (Hd rv) hw
variable{sc:Scope}{oz:Option Str}{M:Ng}{ix:Nv}{a7:Nd}{σ:St}{H:Hp}{s:Ni}{elt iter:Expr}{ifs:Nr}{g:TG}{tc:TT}{te:TE}{wi:TI}
def under_blk{C:Nc}{ex:Nl}(hc:Under X):Under (Z8 H):=
 let⟨a,o,hh,hp,L⟩:=hc
 ⟨a,o,hh,EJ,L⟩
def lc_blockU{fp:Nl}{it:Nc}{tn:Nat→Heap→Prop}{J:It}{Q:VK}{RR:Value→Addr→Result→Shared→Prop}{E:Na}(B:Bf ix)(hc:Under X)(hg:∀C ex s H,NJ g)(ht:∀C ex s H,Md tc)(he:∀C ex s H,MS te)(I:HI)(T:TurnU X.prog X.w X.K tg J fp it tn)(h0:PL)(hf:∀b∈fp,QK b)(q:YI H)(lD:RK) :
  wpAny Hk X.A (newList []) (λai s₃=>ZE Ry (λcenv s₄=>codeAny Hk X.A (.compStart Hs 0 SW ai {cenv with scope:=relabel sc X.env}) CC s₄) E s₃) E s:=by
 refine wpAny_newObj_type (zh1 B.one B.psh ?_);dsimp only;generalize hD:s.heap.objs.size=D;generalize fk:s.heap.push {cls:=.type "list",dict:=none,data:=.seq ([]:List Value).toArray}=g2;generalize kW:Mc (g2.push {cls:=.type "dict",data:=.dict #[]})=h₁;have kp:∀(q:No) (b:Nc) (o:Obj),q.get? b=some o→(Mc q).get? b=some o:=λq b o e=>by
  cases oz with
  |none=>exact e
  |some _=>exact QQ e
 have hns₁:h₁.Ns g2.objs.size (λ_=>none):=kW▸(Heap.Ns.new g2 (.type "dict")).keeps λb o e=>kp _ b o e;have hz₁:∀z,oz=some z→h₁.IsCell (g2.objs.size+1) none:=λz ez=>by have e:(g2.push {cls:=.type "dict",data:=.dict #[]}).objs.size=g2.objs.size+1:=Ut ..;rw[←kW,←e,ez];exact⟨_,Tc,rfl⟩
 have hC:g2.objs.size=D+1:=by rw[←fk,Ut,hD]
 have k2:∀b o,s.heap.get? b=some o→g2.get? b=some o:=λb o e=>by rw[←fk];exact QQ e
 have I3:ZA H {s with heap:=g2}:=I.kept (t':=s.toks) k2;have HD:H D=none:=I.hok.fresh Pt;have fD:QK D:=I.fpOk Pt HD;have D2:g2.get? D=some {cls:=.type "list",dict:=none,data:=.seq ([]:List Value).toArray}:=by rw[←fk,←hD];exact UE rfl
 have k1:∀b o,g2.get? b=some o→h₁.get? b=some o:=λb o e=>kW▸kp _ b o Cz;have fpx:∀b∈D::fp,QK b:=λb hb=>by
  rcases Qj.mp hb with e|e
  ·rw[e];exact fD
  exact hf b e
 have fplt:∀b∈D::fp,b<g2.objs.size:=λb hb=>by
  rcases Qj.mp hb with e|e
  ·rw[e,hC];exact Wa _
  obtain⟨o,q,_⟩:=WW h0 b e;exact Qu (k2 b o q)
 have fpD:D∉fp:=λhm=>by obtain⟨o,q,_⟩:=WW h0 D hm;have:=Qu q;rw[hD]at this;exact Wj _ this
 generalize ao:VB (D::fp) {s with heap:=g2} H=Y;have IY:JX [] Oz H {s with heap:=h₁,toks:=s.toks+([]:List (Str×Value)).length}:=by rw[←ao];exact B4 rfl
 have Yg:=ao▸hg g2.objs.size (D::fp) {s with heap:=g2} H;have Yt:=ao▸ht g2.objs.size (D::fp) {s with heap:=g2} H;have Ye:=ao▸he g2.objs.size (D::fp) {s with heap:=g2} H;have eP:Y.prog=X.prog:=by rw[←ao];rfl
 have eW:Y.w=X.w:=by rw[←ao];rfl
 have eK:Y.K=X.K:=by rw[←ao];rfl
 have eA:Y.A=X.A:=by rw[←ao];rfl
 have eC:Under Y:=by rw[←ao];exact under_blk hc
 have eE:Y.env=compEnvC sc (JY Ld) g2.objs.size X.env:=by rw[←ao];rfl
 have eX:Y.xe=λ_ _=>False:=by rw[←ao];rfl
 have eEx:Y.ex=D::fp:=by rw[←ao];rfl
 have eFs:Y.fs=frs X.stack:=by rw[←ao];rfl
 have ePn:Y.pn=X.pn++a7:=by rw[←ao];rfl
 have eL:Y.env.locals=g2.objs.size:=by rw[eE];rfl
 have qj:Y.H₀=H:=by rw[←ao];rfl
 have jE:Y.s₀={s with heap:=g2}:=by rw[←ao];rfl
 have fY:∀{H':Hp} {pl:Nd} {b:Nc},b∈D::fp→H' b=none→(∀p∈pl,p.1≠b)→NK pl H' b:=λ{H' pl b} hb hn hp=>by
  obtain⟨f0,f1,f2,f3,f4,f5⟩:=fpx b hb;refine⟨hn,?_,?_,.inl CZ,Dl CZ |>.2,λp df=>?_⟩
  ·rw[eL];exact Zi ye
  ·rw[eFs];intro z;rcases Qj.mp (Dm z) with q|q
   ·exact f1 q
   exact f2 q
  rw[ePn]at df;rcases Qe.mp df with z|z
  ·exact f5 p z
  exact hp p z
 obtain⟨W,⟨m0,w0⟩,turn⟩:=q;have loop:∀ sN:Shared,sN={ s with heap:=h₁,toks:=s.toks+([]:List (Str×Value)).length } →
   codeAny Hk X.A LG E1 sN:=by
  rintro sN rfl;refine zfw (λn s'=>Ex6 λi τ H' ys a8 k=>Aj7 (JX [] τ H' s') EW (∀b∈D::fp,H' b=none) (s'.heap.get? D=some {cls:=.type "list",data:=.seq (a8:Nj).toArray k}) (YU a8) (ys.length≤sizeLine) OV) ?_ m0
   ⟨0,Oz,H,[],[],0,IY,QW h0 λb _ o e=>k1 b o Ew,λb hb=>(fpx b hb).1,k1 _ _ D2,.nil,Tq,w0⟩
  rintro n s5 ⟨i,τ,H5,ys,a8,k,I5,t5,n5,d5,v5,z5,w5⟩;have oD:∀{s':Ni} {its':Nj} {k':Nat},s'.heap.get? D=some {cls:=.type "list",data:=.seq its'.toArray k'}→∀b∈[D],∃o,s'.heap.get? b=some o∧∀v,o.data≠.cell v:=λ{s' its' k'} e b hb=>by rw[Qc.mp hb];exact⟨_,e,λv z=>by cases z⟩
  have hZ:JX ([]++zb4 [D] s5.heap) τ H5 s5:=I5.pinned (λb hb=>fY (by rw[Qc.mp hb];exact Qd) (n5 b (by rw[Qc.mp hb];exact Qd)) Hb) (oD d5);have pD:∀p∈zb4 [D] s5.heap,p.1=D∧p.2={cls:=.type "list",data:=.seq a8.toArray k}:=λp hp=>by obtain⟨e1,e2⟩:=ze2 hp;have dk:p.1=D:=Qc.mp e1;rw[dk,d5]at e2;exact⟨dk,(Qn e2).symm⟩
  have fN:∀{H':Hp},(∀b∈fp,H' b=none)→∀b∈fp,NK ([]++zb4 [D] s5.heap) H' b:=λhn b hb=>fY LP zO λp hp z=>by rw[Jq]at hp;rw[(pD p hp).1]at z;exact fpD (z▸hb)
  rcases K8 w5 with⟨stop,qn⟩|⟨go,zl,step⟩
  ·have h6:=UT (λ_ _=>False) hZ (fN λb hb=>n5 b LP) t5 stop;rw[eA]at h6;refine thn h6 λr s6 ⟨hr,I6⟩=>?_;subst hr;have d6:s6.heap.get? D=some {cls:=.type "list",data:=.seq a8.toArray k}:=by have hp:=zbl (fp:=[D]) TL d5;exact(I6.pin (D,_) (YG hp)).1
   have H5D:H5 D=none:=n5 D Qd;obtain⟨mL,nL,_⟩:=I6.loc;rw[eL]at nL;have CD:g2.objs.size≠D:=by rw[hC];exact Nat.succ_ne_self _
   refine lD D _ mL ys H5 s6 ?_ (qn D H5D) nL ?_ (by rw[hC,hD];exact Wa _)
   ·have u6:=I6.base;rw[eFs,eEx,qj,jE]at u6;refine I3.call' (ch:=D::fp) (I6.os.trans (by rw[jE])) ⟨u6.keep,u6.slot,λb o e n hx=>?_,u6.there,λb xs e=>?_,λb o u e=>?_,λb ps e=>?_⟩ ?_ I6.bare λb hb=>?_
    ·rw[zaf (λz=>hx AJ)];exact u6.free b o e n hx
    ·rw[zaf Ex];exact u6.tups b xs e
    ·rw[zaf Ex];exact u6.frzs b o u e
    ·rw[zaf Ex];exact u6.tbls b ps e
    ·have iS:=I6.hok;rw[eP,eW]at iS;intro b u e;by_cases hb:b=D
     ·subst hb;rw[zad]at e;cases e;exact⟨z5,a8,k,v5,d6⟩
     rw[Pm]at e;exact(iS b u e).stay (λc v _ q=>q) (λc q=>by rw[zaf IU];exact q) λc xs q=>by rw[zaf IU];exact q
    obtain⟨f0,f1,f2,f3,f4,f5⟩:=fpx b hb;exact⟨f3,f1,f4,f5⟩
   rw[zaf CD];have:=I6.free;rw[eL]at this;exact this
  have h6:=UU (λ_ _=>False) hZ (fN λb hb=>n5 b LP) t5 go;rw[eA]at h6;refine thn h6 λr s6 ⟨u,hr,h7⟩=>?_;subst hr;refine thn h7 λ_ s7 ⟨x,H7,I7,r7,y7,t7,n7⟩=>?_;have qq:=K9 (WW t7);have h8:=Yg _ s7 τ H7 x u _ qq r7 (Go y7);rw[eP,eW,eA,eX,eE]at h8;refine thn h8 λ_ s8 ⟨τ8,H8,I8,q8⟩=>?_;have h9:=Yt _ s8 τ8 H8 _ I8 q8;rw[eP,eW,eA,eX,eE]at h9;refine thn h9 λok s9 ⟨H9,I9,q9⟩=>?_;have again:∀{τ':St} {H':Hp} {s':Ni},JX (([]++zb4 [D] s5.heap)++V7 s7.heap) τ' H' s'→s'.heap.get? D=some {cls:=.type "list",data:=.seq a8.toArray k}∧H' D=none∧tn HY s'.heap∧∀b∈fp,H' b=none:=λ{τ' H' s'} I'=>by
   have pp:∀{b:Nc} {o:Obj},b∈fp→s7.heap.get? b=some o→s'.heap.get? b=some o∧H' b=none:=λ{b o} hb e=>
    let z:=I'.pin (b,o) L9
    ⟨z.1,z.2.1⟩
   have hp:=zbl (fp:=[D]) TL d5;have z:=I'.pin (D,_) (YG EJ);refine⟨z.1,z.2.1,QW t7 λb hb o e=>(pp hb e).1,λb hb=>?_⟩;obtain⟨o,e,_⟩:=WW t7 b hb;exact(pp hb e).2
  have drop:∀{pl:Nd} {τ':St} {H':Hp} {s':Ni},JX pl τ' H' s'→JX [] τ' H' s':=λI'=>I'.pins_of Hb;cases ok with
  |false=>rw[if_neg Hg]at q9 ⊢;obtain⟨m',hm,w9⟩:=q9;obtain⟨d9,H9D,t9,n9⟩:=again I9;exact⟨m',hm,i+1,τ8,H9,ys,a8,k,drop I9,t9,λb hb=>(PQ hb).elim (λe=>e▸H9D) (n9 b),d9,v5,z5,w9⟩
  | true=>
   rw[if_pos rfl]at q9 ⊢;have gF:=Ye _ s9 τ8 H9 _ I9 q9;rw[eP,eW,eA,eX,eE]at gF;refine thn gF λy dU ⟨yv,cB,lM,lQ,m',hm,iQ⟩=>?_;obtain⟨lH,H10D,sk,sU⟩:=again lM;refine call_meets F.slot_list_append ⟨_,lH,rfl⟩ F.entry_list_append (BO _) (KH (by rw[Qt,←v5.length];assumption)) ⟨lH,?_⟩;have q:=DQ (λa=>a.push y);have vU:yU=(a8++[y]).toArray:=by simp
   rw[vU]at q;have kk:∀b o,b≠D→dU.heap.get? b=some o→(dU.heap.update D (Obj.mapSeq λa=>a.push y)).get? b=some o:=λb o hb e=>(Wc dU.heap (Obj.mapSeq λa=>a.push y) A9).trans e;obtain⟨g0,g1,g2',g3,g4,g5⟩:=fY (pl:=[]) (H':=cB) (b:=D) Qd H10D Hb;have mZ:=(drop lM).turned (h':=dU.heap.update D (Obj.mapSeq λa=>a.push y)) (t':=dU.toks) (it:=D) kk H10D g1 g3 g4 g5;exact⟨m',hm,i+1,τ8,cB,ys++[yv],a8++[y],_,mZ,QW sk λb hb o e=>kk b o (λz=>fpD (z▸hb)) e,λb hb=>(PQ hb).elim (λe=>e▸H10D) (sU b),q,v5.append (Su lQ),
    by rw[Qm,Uc];assumption,iQ⟩
 exact codeAny_compStart_list IV (Vp (QW h0 λb _ o e=>k1 b o Ew) IV)
end
section
variable{X:Cx}
def ps_lcU(hN:X.N.Nodup)(di:X.N[i]?=some y)(hy:X.env.scope.names.lookup y=some .local)(B:Y0 ix)(hc:Under X)(hi:PIU X tg iter wi)(hg:∀C a7 ex s H,J4 g)(ht:∀C a7 ex s H,UZ tc)(he:∀C a7 ex s H,J8 elt te)(ow:swapsWith Hs (RH CH) spos.line X.env=pure true)(hs:∀x,foldedSetIterable iter X.env x=pure x:=by intro _;rfl):K0 (.Assign [CH] Hs spos) (tAsg (XL te) Ei):=by
 intro a7 s σ H D' I h;rw[exec_Assign_Name_used _ _ _ _ ow];refine wpAny_bind (wpAny_standAt (wpAny_bind ?_));show ZQ X.A (do let _ ←comprehension Hs sc X.env _ (newList []) false LK Pu) _ _ s;refine wpAny_bind (wpAny_mono (wpAny_comprehension_free (use:=some Tj) (Q:=λ_ s'=>JF D' .next s') rfl hs Ek B.kind B.names
  (thn SY λv s1 h1=>thn h1 λitv s2 h2=>?_)) (λ_ s' hq=>wpAny_pure (RP hq)) λ_ _ e=>e)
 obtain⟨it,fp,tn,J,H2,e,I2,T,aQ,f2,q⟩:=h2;subst e;refine lc_blockU (oz:=none) (RR:=λai C=>compPost Hk X.A X.xe Pu (λ_ s'=>JF D' .next s') ai C) B.g hc (hg · a7) (ht · a7) (he · a7) I2 T aQ f2 q ?_;intro D C m ys H' s' I' q' hn hC ae;show ZQ X.A OL _ _ s';refine wpAny_assign_Name (BP (v:=.ref D) rfl (λlP qr ⟨a,sb,ha⟩=>?_) C0);have aC:C≠a:=by
  rcases ha with z|z
  ·rw[z];exact Yo Aw
  exact Yo (X0 ae)
 have bp:=hn.sameBut sb aC;exact⟨m,bp,λh' dy=>⟨_,_,Tr,q'⟩⟩
end
end L2
namespace K21
open PySem L2 Wb PySem.W
abbrev sTold:Stmt:=top 45
structure KW(K:Nb)(he np c1 c2 c3 c4 c:Nc)(wd:Str):Prop where
 ex:M8 c
 em:exmOne K Ou (Hf he)=some true
 k1:kitOne K Ou Ch=some (decide (wd = "place"))
 k2:kitOne K Ou AN=some (decide (wd = "name"))
 k3:kitOne K Ou AO=some (decide (wd = "twice"))
 k4:kitOne K Ou (Hf c3)=some false
 k5:kitOne K Ou (Hf c4)=some false
 kv:kitOne K Ou (.type "ValueError")=some true
 wo:wd = "place" ∨ wd = "name" ∨ wd = "twice"
inductive IspTold(C:Nc)(vs:List V)(H:Hp)(Q:VK):Prop
 | mk (x dx d u:Nc) (ts:List Ent) (ps:List (Str×V)) (cs:List (List (Str×Str))) (a9:Nq) (h0:vs=[.ref x,.ref u]) (h1:WAt H C x dx d ts) (h2:Nm H u ps) (h3:Cert (ts.map (·.1)) (row (rsOf ts)) cs a9) (h4:ts.length≤40) (h4':ps.length≤100)
   (h5:∀(t:Nc) (ws:Ng) (H':Hp),V1 (ts.map (·.1)) ws→H' t=some Ea→Keep [] H H'→Q Lx H'):IspTold C vs H Q
def spTold(C:Nc):Sp:=λvs H Q _=>IspTold C vs H Q
def ndTo:(["_law_word", "_law_truth"]:List Str).Nodup:=by decide+kernel
section
variable{P:Nk}{w:Nn}{K:Nb}{mg:Nh}{base:No}{C he np c1 c2 c3 c4:Nc}
def zgi:zam ["_law_web",qN, "_law_told_here", "e", "_law_some"] ["_law_web",qN] (zaj sTold):=fsk
def ok_told(F:Z5 "_law_told" "_law_told" sTold f fd)(mE:mg "HueError" = some (Hf he))(mP:mg "NoPlace" = some Ch)(m1:mg "NoName" = some AN)(m2:mg "Twice" = some AO)(m3:mg "OneWay" = some (Hf c3))(m4:mg "NotFlat" = some (Hf c4))(br:mg "isinstance" = none)(hve:mg "ValueError" = none)(wp:U3 np "place")(wn:U3 c1 "name")(i5:U3 c2 "twice")(FR:Z5 "renamed" "renamed" zdd fr fdr)(bR:QH fdr ["web", "names"] [])(mR:mg "renamed" = some (Hf fr))(GR:ZC Ec 6 fr fdr ["web", "names"] (M0 c2)):ZB 7 f fd ["_law_web",qN] (spTold C):=by
 refine F.okL zgi HZ;obtain⟨x,dx,d,u,ts,ps,cs,a9,rfl,wt,N,Ct,bn,aU,kq⟩:=h;have aH:=sizeLine_eq;refine⟨_,zae (BH zgi.nd SM)
  (zae (ps_tryP (i:=3) (EX:=λ_ cls dd H'=>∃ (c:Nc) (wd:Str),cls=.ref c∧U3 c wd∧V1 (ts.map (·.1)) [wd]∧Keep [] H H') rfl rfl rfl
   (λE' pn hp=>zag (za5 (pe_callS GR hr rfl mR FR.kp bR .nil hp (ZK Sn))))
   (λe o L=>zae (BI zgi.nd (zay (zaa (Iu (zee (v:=.ref np) Ho mP rfl))
    (zaa (Iu (zee (v:=.ref c1) Ho m1 rfl))
    (zaa (Iu (zee (v:=.ref c2) Ho m2 rfl)) zac)))))
    (zae (BI zgi.nd (J5 Ty (zay (zaa (Iu (zee (v:=.ref c3) Ho m3 rfl))
     (zaa (Iu (zee (v:=.ref c4) Ho m4 rfl)) zac)))))
    (zae (za5 (QB Ty (zaa (zbz (WV (OG (pe_not (zah (zcb (a:=e) (ob:=o) (K:=K) rfl Qd) Ho br Yw (QE (RG (pe_tyN (T:= "ValueError") rfl hve PyProof.Rows.Boot.«ValueError»)))))))) zac)))
    (zag (ps_lcU (i:=2) (M:=["_law_word", "_law_truth"]) (ix:=[none,none]) zgi.nd rfl rfl (mkB zgi) (zhw L) (pi_listU (K:=K) rfl Ty) (λC a7 ex s H=>pg_tupU (K:=K) (n:=2) rfl (by exact under_blk (zhw L)) (zbe (UQ ndTo) (yo (za7 1 ndTo))))
     (λC a7 ex s H=>zfh (zdp Sf)) (λC a7 ex s H=>pv 0) rfl)))))
   zgi.nd rfl rfl rfl mE)
  (zag (yk Sr))),?_⟩
 refine⟨TY,λt0 lF=>?_⟩;generalize q0:ZS t0 _=H0;obtain⟨k0,g0⟩:=nwk lF q0;refine⟨⟨xf,xf,x,dx,d,u,ts,ps,cs,a9,rfl,wt.keep k0 Hb Hb (λ_ _=>by simp),N.keep k0,Ct,bn,aU,λh H' k=>⟨np, "place",rfl,wp,.pl h,Ab⟩,λh h2 H' k=>⟨c1, "name",rfl,wn,.nm h h2,Ab⟩,λh g h2 h3 H' k=>⟨c2, "twice",rfl,i5,.tw h g h2 h3,Ab⟩,λh g h2 h3 x' rN d' fs i6 aF af H' _ _ _ _ k=>⟨_,rfl,kq t0 [] H' (.ok h g h2 h3) (k _ _ g0 Hb) Ab⟩⟩,?_⟩;rintro σ' H1 e o hl ⟨c,wd,cI,kw,due,k1⟩ na;obtain⟨x0,x1,x2,x3,x4,rfl⟩:∃x0 x1 x2 x3 x4,σ'=[x0,x1,x2,x3,x4]:=by
  match σ',hl with
  |[x0,x1,x2,x3,x4],_=>exact⟨_,_,_,_,xf⟩
 refine⟨by rw[cI];exact kw.em,?_⟩;have two:2≤sizeLine:=by decide
 refine⟨xf,c,Ch,Ch,xf,cI,kw.ex,λ_ h=>h,kw.k1,two,λt1 f1=>?_⟩;generalize q1:QN t1 _=H2;obtain⟨p1,g1⟩:=nwk f1 q1;refine⟨xf,c,AN,AN,xf,cI,kw.ex,λ_ h=>h,kw.k2,two,λt2 f2=>?_⟩;generalize q2:Q3 t2 _=H3;obtain⟨p2,g2⟩:=nwk f2 q2;refine⟨xf,c,AO,AO,xf,cI,kw.ex,λ_ h=>h,kw.k3,two,λt3 f3=>?_⟩;generalize q3:QX t3 _=H4;obtain⟨p3,g3⟩:=nwk f3 q3;refine⟨(He 3),λy1 z1=>?_⟩;generalize q4:WC y1 _=H5;obtain⟨p4,g4⟩:=nwk z1 q4;refine⟨xf,?_⟩;refine⟨xf,c,Hf c3,Hf c3,xf,cI,kw.ex,λ_ h=>h,kw.k4,two,λt4 f4=>?_⟩;generalize q5:Q4 t4 _=H6;obtain⟨p5,g5⟩:=nwk f4 q5;refine⟨xf,c,Hf c4,Hf c4,xf,cI,kw.ex,λ_ h=>h,kw.k5,two,λt5 f5=>?_⟩;generalize q6:BU t5 _=H7;obtain⟨p6,g6⟩:=nwk f5 q6;refine⟨two,λy2 z2=>?_⟩;generalize q7:JE y2 _=H8;obtain⟨p7,g7⟩:=nwk z2 q7;have sC:=(p5.trans p6).trans p7;refine⟨y1,y2,_,xf,rfl,sC _ _ g4 Hb,g7,(He 5),λy zy=>?_⟩;generalize q8:JD y _=H9;obtain⟨p8,g8⟩:=nwk zy q8;refine⟨xf,RI g8,xf,c,.ty "ValueError",.type "ValueError",xf,cI,kw.ex,λ_ h=>h,kw.kv,xf,two,λt6 f6=>?_⟩;generalize q9:upd H9 t6 _=cB;obtain⟨p9,g9⟩:=nwk f6 q9;have gy:=p9 _ _ g8 Hb;have s5:=(sC.trans p8).trans p9;have s4:=p4.trans s5;have e1:=((p2.trans p3).trans s4) _ _ g1 Hb;have e2:=(p3.trans s4) _ _ g2 Hb;have e3:=s4 _ _ g3 Hb;have e4:=(((p6.trans p7).trans p8).trans p9) _ _ g5 Hb;have e5:=((p7.trans p8).trans p9) _ _ g6 Hb;have s1:Keep [] H1 cB:=((p1.trans p2).trans p3).trans s4;have fy:H1 y=none:=zap (((p1.trans p2).trans p3).trans (p4.trans sC)) zy Hb;refine⟨y,_,Hf t6,rfl,rfl,gy,(by show 5<sizeLine;decide),?_⟩;have nn:∀{t:Nc} {vs:List V},cB t=some (.tup vs)→t≠y:=λh=>Ny gy Hh;refine⟨xf,y,rfl,⟨_,Ef⟩,lc_words (as:=[t1,t2,t3,t4,t5,t6]) (ps:=[("place",decide (wd = "place")),("name",decide (wd = "name")),("twice",decide (wd = "twice")),("way",false),("flat",false),("odd",false)]) (λ τ=>∃x0 x1,τ=[x0,x1]) Ef ?_ (He 6) ⟨none,none,rfl⟩ ?_ λD hD=>?_⟩
 ·exact .cons ((Ac e1).trans e1) (.cons ((Ac e2).trans e2) (.cons ((Ac e3).trans e3) (.cons ((Ac e4).trans e4) (yY ((Ac e5).trans e5) (Su ((Ac g9).trans g9))))))
 ·rintro b w t hb τ ⟨x0,x1,rfl⟩ kk1 kk0 h1 h0;refine⟨b,xf,Tg hb,rfl,_,xf,_,xf,rfl,xf,?_⟩;cases t with
  |true=>exact⟨xf,iteT ⟨xf,h1 rfl _ ⟨_,xf⟩⟩⟩
  |false=>exact⟨xf,iteF (h0 rfl _ ⟨_,xf⟩)⟩
 have ef:([("place",decide (wd = "place")),("name",decide (wd = "name")),("twice",decide (wd = "twice")),("way",false),("flat",false),("odd",false)]:List (Str×Bool)).filter (·.2)=[(wd,true)]:=by rcases kw.wo with rfl|rfl|rfl<;>decide+kernel
 rw[ef];have f7:Keep [] H1 (Pq cB y (Hv ([V.ref t1,Hf t2,Hf t3]++[Hf t4,Hf t5]++[Hf t6]))):=((s1.sub (ys:=[y]) Hb).trans Rv).cut fy;exact⟨xf,kq D [wd] _ due zad ((Tv f7).trans (Ht hD))⟩
end
end K21
namespace L2
open PySem PySem.Spec PyProof.Rows
def okE:V→Bool
 |.ref _=>true
 |x=>zd6 x
def SameM(H:Hp):Nat→V→V→Prop
 |0,x,y=>okE x=true∧x=y
 |n+1,x,y=>(okE x=true∧x=y)∨∃a b xs ys,x=.ref a∧y=.ref b∧a≠b∧((H a=some LC∧H b=some (Hv ys))∨(H a=some SV∧H b=some Ic))∧Paired (N8 n) xs ys
section
variable{X:Cx}{a7:Nd}{σ:St}{H:Hp}{s:Ni}
def same_atM(I:HI):∀ (n:Nat) (A:Np) (x y:V) (u v:Value),N8 n x y→WK u→YC v→A.units+n < cLine→UJ true:=by
 have fl:∀(A:Np) (x y:V) (u v:Value),okE x=true∧x=y→WK u→YC v→UJ true:=λA x y u v ⟨f,e⟩ rx ry=>by
  subst e;by_cases fx:zd6 x=true
  ·have:=eqAt_V (A:=A) (s:=s) rx ry fx fx;rw[eqV_self fx]at this;exact this
  cases x with
  |ref a=>cases rx;cases ry;exact SeqAt.EqAt.same _
  |_=>exact absurd (by simpa[okE] using f) fx
 intro n;induction n with
 |zero=>intro A x y u v h rx ry _;exact fl A x y u v h rx ry
 |succ n ih=>
  intro A x y u v h rx ry hu;rcases h with h|⟨a,b,xs,ys,rfl,rfl,ne,hc,pr⟩
  ·exact fl A x y u v h rx ry
  cases rx;cases ry;have be:A.in1.units+n<cLine:=by have:A.in1.units=A.units+1:=rfl;lia
  have hu0:A.units<cLine:=by lia
  have hl:=Zh pr;refine SeqAt.EqAt.of_refs ne ?_;rcases hc with⟨h1,h2⟩|⟨h1,h2⟩
  ·obtain⟨a8,r,pl,_⟩:=I.list (X:=X) (Hn h1);obtain⟨aD,r2,du,_⟩:=I.list (X:=X) (Hn h2);have l1:=r.length;have l2:=r2.length;have:=SeqAt.RcAt.lists (A:=A) (s:=s) (e:=λ_=>true) pl.isList du.isList (by rw[Qt,Qt];lia) hu0 (zfk r r2 pr λx y u v q1 q2 q3=>ih A.in1 x y u v q1 q2 q3 be);rw[show(List.range a8.toArray.size).all (λ_=>true)=true by simp]at this;exact this
  obtain⟨a8,r,pl,_⟩:=I.tuple (X:=X) (Tg h1);obtain⟨aD,r2,du,_⟩:=I.tuple (X:=X) (Tg h2);have l1:=r.length;have l2:=r2.length;have:=SeqAt.RcAt.tuples (A:=A) (s:=s) (e:=λ_=>true) pl du hu0 (zfk r r2 pr λx y u v q1 q2 q3=>ih A.in1 x y u v q1 q2 q3 be);rw[show((S1 (min a8.toArray.size aD.toArray.size)).all (λ_=>true)&&a8.toArray.size==aD.toArray.size)=true by simp;lia]at this;exact this
def zgr(hu:X.A.units+4<cLine):QJ (λx y H Q=>Ex4 λa b xs ys=>Aj6 (x=.ref a) (y=.ref b) (RU a LC) (RU b (Hv ys)) (Paired (N8 3) xs ys) (Q S9 H)):=by
 intro a7 s σ H x y v u Q I rx ry h;obtain⟨a,b,xs,ys,rfl,rfl,h1,h2,pr,q⟩:=h;cases rx;cases ry;obtain⟨a8,r,pl,_⟩:=I.list (X:=X) (Hn h1);obtain⟨aD,r2,du,_⟩:=I.list (X:=X) (Hn h2);have l1:=r.length;have l2:=r2.length;have hl:=Zh pr;have be:X.A.in1.units+3<cLine:=by have:X.A.in1.units=X.A.units+1:=rfl;lia
 refine SeqAt.RcNeAt.lists (e:=λ_=>true) pl.isList du.isList (by rw[Qt,Qt];lia) Hc (zfk r r2 pr λx y u v q1 q2 q3=>same_atM I 3 X.A.in1 x y u v q1 q2 q3 be) _ _ _ _ ⟨S9,H,I,?_,q⟩;show Value.bool _=Value.bool false;simp
def zh8{a7:Nd}{σ:St}{H:Hp}{s:Ni}{A:Np}{a b:Nc}{kvs:List (Key×V)}(hu:A.units<cLine)(I:HI)(h1:Bw Rg)(h2:BK b Rg)(nd:(kvs.map (·.1)).Nodup)(fl:∀p∈kvs,okE p.2=true) :
  ∃vs iR,(a==sysModules)=false∧(b==sysModules)=false∧s.heap.DictOf Ta a vs∧s.heap.DictOf Ta b iR∧vs.length=iR.length∧N9 vs true:=by
 obtain⟨z,lo,vs,ep,rk,ha,hl⟩:=VY h1;obtain⟨z2,nF,iR,ep2,rk2,ha2,aj⟩:=VY h2;have gl:∀(ks:Tn (Key×V)) (us:Tn (Key×Value)),KV ks us→(∀p∈ks,p∈kvs)→N9 us true:=by
  intro ks us r;induction r with
  |nil=>intro _;exact .nil
  |@cons p q' ps qs e t ih=>intro hm;have hp:(p.1,p.2)∈kvs:=hm p Qd;obtain⟨y,e1,e2⟩:=KV.value rk2 nd hp;have hE:=same_atM I 0 A p.2 p.2 _ _ ⟨fl p (hm p Qd),rfl⟩ e.2 e2 Hc;obtain⟨k1,v1⟩:=q';have hk:p.1=k1:=e.1;rw[hk]at e1;exact PySem.W.KeqHits.hit (e:=true) (b:=true) e1 hE (ih λp hp=>hm p (QL hp))
 exact⟨vs,iR,lo,nF,ha.dictOf,ha2.dictOf,Hc,gl kvs vs rk λp hp=>hp⟩
end
section
variable{X:Cx}
def op_ne_dictM(hu:X.A.units+1<cLine):QJ (λx y H Q=>Ex3 λa b kvs=>Aj7 (x=.ref a) (y=.ref b) (Bw Rg) (BK b Rg) ((kvs.map (·.1)).Nodup) (∀p∈kvs,okE p.2=true) (Q S9 H)):=by intro a7 s σ H x y v u Q I rx ry h;obtain⟨a,b,kvs,rfl,rfl,h1,h2,nd,fl,q⟩:=h;cases rx;cases ry;obtain⟨vs,iR,lo,nF,da,db,hl,gl⟩:=zh8 (A:=X.A.in1) hu I h1 h2 nd fl;refine PySem.W.keq_ne lo nF da db (Wn hu) (λ_=>gl) ⟨S9,H,I,?_,q⟩;show Value.bool _=Value.bool false;rw[hl];simp
def op_eq_dictM(hu:X.A.units+1<cLine):WH Cy (λx y H Q=>Ex3 λa b kvs=>Aj7 (x=.ref a) (y=.ref b) (Bw Rg) (BK b Rg) ((kvs.map (·.1)).Nodup) (∀p∈kvs,okE p.2=true) (Q Tz H)):=by intro a7 s σ H x y v u Q I rx ry h;obtain⟨a,b,kvs,rfl,rfl,h1,h2,nd,fl,q⟩:=h;cases rx;cases ry;obtain⟨vs,iR,lo,nF,da,db,hl,gl⟩:=zh8 (A:=X.A.in1) hu I h1 h2 nd fl;refine PySem.W.keq_eq lo nF da db (Wn hu) (λ_=>gl) ⟨Tz,H,I,?_,q⟩;show Value.bool _=Value.bool true;rw[hl];simp
end
end L2
namespace K21
open PySem L2 Wb PySem.W
abbrev sMirR:Stmt:=top 47
def same_strs{H:Hp}{as:Nl}{zss:List E8}(p:Bk as zss):∀{bs:Nl},Bk bs zss→Paired (N8 3) Sj (bs.map V.ref):=by
 have fl:∀(n:Nat) (zs:Ng),Paired (N8 (n+1)) Sb Sb:=λn zs=>by
  induction zs with
  |nil=>exact .nil
  |cons z t ih=>exact .cons (.inl ⟨rfl,rfl⟩) ih
 induction p with
 |nil=>intro bs q;cases q;exact .nil
 | @cons a zs _ _ h t ih=>
  intro bs q;cases q with
  |@cons b _ _ _ h' t'=>
   refine .cons ?_ (ih t');by_cases lB:a=b
   ·exact .inl ⟨rfl,by rw[lB]⟩
   exact .inr ⟨_,_,_,_,rfl,rfl,lB,HL ⟨h,h'⟩,fl 1 zs⟩
inductive IspWR(C:Nc)(vs:List V)(H:Hp)(Q:VK):Prop
 |mk (x dx dd d:Nc) (ts es:List Ent) (cs:List (List (Str×Str))) (a9:Nq) (h0:vs=[.ref x,.ref d]) (h1:WAt H C x dx dd ts) (h2:RAt H d es) (h3:Cert (es.map (·.1)) (row (rsOf es)) cs a9) (h4:TrF (es.map (·.1)) (row (rsOf es)) ts) (h5:es.length≤40) (h6:∀e∈es,zbf e.1) (h7:∀H',Keep [] H H'→Q (.bl true) H'):IspWR C vs H Q
def spWR(C:Nc):Sp:=λvs H Q _=>IspWR C vs H Q
def ndMr:(["_law_place", "_law_due_here"]:List Str).Nodup:=by decide+kernel
def TrF.ok{ns:Ng}{r:Nu}{ts:List Ent}(T:DJ ts)(h:∀y∈ns,zbf y):∀e∈ts,zbf e.1:=λe he=>h _ (y6 (Rw e he))
section
variable{P:Nk}{w:Nn}{K:Nb}{mg:Nh}{base:No}{C:Nc}
def scMirR:zam ["_law_web", "_law_due_here", "_law_other", "_law_gone_on"] ["_law_web", "_law_due_here"] (zaj sMirR):=fsk
def ok_mirR(F:Z5 "_law_mirrored_right" "_law_mirrored_right" sMirR f fd)(GM:ZU "mirrored" ["web"] 6 (spMirror C))(GI:ZU "_law_is_web" ["_law_web", "_law_due_here"] 2 (zil C))(GF:ZU "faces" ["web"] 3 (zim C))(GL:ZU "_law_faces" [qR] 3 zik)(aI:mg "dict" = none)(ad:RE):ZB 7 f fd ["_law_web", "_law_due_here"] (spWR C):=by
 refine F.okL scMirR HZ;obtain⟨x,dx,dd,d,ts,es,cs,a9,rfl,wt,R,Ce,T,aO,hok,kq⟩:=h;have hu:=zb9 hr;have bQ:Fs _:=hr.mono Hg;have jh:Room 3 _:=hr.mono Hg;have aH:=sizeLine_eq;have tS:(IO (PyProof.Rows.envOfC "_law_mirrored_right" (zaj sMirR) s0.heap.objs.size f cdv)).units+4<cLine:=Yh (Kk (by decide:4≤64) _) hr.units;refine⟨_,zae (BH scMirR.nd (pcl GM hr SA))
  (zae (B8 scMirR.nd (X6 Ho aI Jg (zaa (pe_thaw (zd5 (M:=["_law_place", "_law_due_here"]) (ix:=[none,RH 1]) (mkB scMirR) rfl (zgm Sf) (λC a7 ex s H=>UQ ndMr) (λC a7 ex s H=>zbw)
   (λC a7 ex s H=>zbz (Lq (pe_revK (K:=K) rfl (zdg (by exact hu) zt (pv 0))))))) zac)))
  (zae (yp (Er (Z6 xc) SQ xc))
  (zag (zaz (pe_and (zgn zho (Tk (RG (NB (Z6 zac)))) (Tk (RG (NB yy))) Sq)
   (pe_one (G' (zaa (pcl GM hr SQ) Sn)))))))),?_⟩
 have Ct:=T.cert Ce;have hnE:∀y∈es.map (·.1),zbf y:=λy hy=>by obtain⟨e,he,rfl⟩:=Qf.mp hy;exact hok e he
 have gM:ts.length=es.length:=by rw[T.len,Qa]
 have oQ:=T.ok hnE;refine⟨xf,x,dx,dd,ts,cs,a9,rfl,wt,Ct,Hc,oQ,λx1 dR d1 bz H1 w1 T1 C1 k1=>?_⟩;have R1:RAt H1 d es:=R.keep k1 Hb λ_ _=>by simp
 have aA:(eWV es).length=es.length:=Qa ..;have nfd:∀o' u',H d≠some LQ:=λo' u' z=>by rw[R.dc]at z;cases z
 refine⟨_,rfl,d,_,rfl,R1.dc,λo=>⟨λn q ys τ H'=>Ex2 λ(aq:Nl) (fs:List Ent)=>Aj6 (q=es.length-n) (Aj3 (n≤es.length) (ys=aq.map V.ref) (Ex1 λx0=>τ=[x0,Eo])) (H' d=some PD) (Aj2 LY (∀e∈fs,H' e.2.2=some Ll)) (X1 fs (OC n)) (Keep [d] H1 H'),
  ⟨es.length,[],[],rfl,⟨Tq,rfl,⟨none,rfl⟩⟩,zad,⟨.nil,λe he=>by cases he⟩,.nil,En⟩,?_⟩⟩
 rintro n q ys τ H2 ⟨aq,fs,rfl,⟨hn,rfl,⟨x0,rfl⟩⟩,hz,⟨ap,aY⟩,aV,k2⟩;have c9:aq.length=n:=by rw[Zh ap,Zh aV,Za];lia
 by_cases ae:n<es.length
 ·refine .inr ⟨⟨hz,by rw[aA];exact ae⟩,by rw[Qa];lia,?_⟩;rintro y H' ⟨rfl,pr,e1,rfl⟩;have gg:pr=((Sum.inr es[n].1:Key),V.ref es[n].2.2):=by rw[Qo,Qb ae]at e1;exact(Qn e1).symm
  subst gg;have aG:=Qq ae;have tk:es.take (n+1)=es.take n++[es[n]]:=Qk ae;have ed:es[n].2.2≠d:=zax (R1.ro _ aG) R1.dc Hh;have ro2:=k2 _ _ (R1.ro _ aG) (Hd ed);have dg:DGet H' d (.str es[n].1) (RH (.ref es[n].2.2)):=.inl ⟨_,Sum.inr es[n].1,SK ⟨o,hz⟩,rfl,(DI aG).symm⟩;generalize es[n]=e at aG tk ro2 dg ⊢;refine⟨xf,xf,xf,d,xf,dg,e.2.2,xf,Hn ro2,λl5 ce=>?_⟩;rw[←List.map_reverse];generalize q5:UB l5 _=H5;obtain⟨k5,g5⟩:=nwk ce q5;refine⟨LE,λt6 jY=>?_⟩;have k6:Keep [] H' (Q4 t6 (.tup [Aa,Hf l5])):=k5.trans (Ht jY);refine⟨_,Hy,aq++[t6],fs++[(e.1,e.2.1.reverse,l5)],rfl,⟨ae,by rw[Qp];rfl,⟨xf⟩⟩,k6 _ _ hz Hb,⟨?_,λe' aW=>?_⟩,?_,Co Pf⟩
  ·exact zal AA On
  ·rcases Qe.mp aW with z|z
   ·exact k6 _ _ AV Hb
   rw[Qc.mp z,zaf (AK g5 jY)];exact g5
  rw[tk];exact zal aV (.cons ⟨rfl,rfl⟩ .nil)
 have c8:n=es.length:=by lia
 subst c8;rw[Qr HM]at aV;refine .inl ⟨⟨hz,HS aA⟩,λD hD=>?_⟩;have ndD:d≠D:=Fr hD;refine⟨d,o,_,yw,nfd,?_⟩;have k3:Keep [] H1 (J1 Ru):=λc w' ec _=>by
  by_cases gw:c=d
  ·subst gw;rw[zad,←R1.dc];exact ec
  have:=k2 c w' ec (Hd gw);rw[zaf gw,zaf (zab this hD)];exact this
 have up:∀c u,c≠d→H2 c=some u→(J1 Ru) c=some u:=λc u h e=>by rw[zaf h,zaf (B7 hD)];exact e
 have gD:(J1 Ru) D=some (Hv (aq.map V.ref)):=by rw[zaf (Zd ndD)];exact zad
 generalize J1 Ru=H3 at k3 up gD ⊢;have bE:Paired (HX H3) aq fs:=Paired.imp' (λa e h=>up _ _ (Ny hz Hh) h) ap;have ub:∀e∈fs,H3 e.2.2=some Ll:=λe he=>up _ _ (zax O2 hz Hh) O2;have dC:=zb1 aV;rw[Kf]at dC;have hrf:row (rsOf fs)=λy=>(ZO y).reverse:=funext λy=>Vg (λ_ _ z=>z) aV y;have Cf:=mir_cert Ce aV;have jw:fs.length=es.length:=Zh aV;have gP:(fs.map λe:Ent=>(e.1,SC)).map (·.1)=fs.map (·.1):=by rw[Zc];rfl
 refine⟨D,aq,fs.map λe=>(e.1,SC),rfl,gD,zc5 bE,by rw[gP];exact Cf.nd,λg hg=>?_⟩;have gQ:((fs.map λe:Ent=>(e.1,SC)).map λp=>((Sum.inr p.1:Key),p.2))=eWV fs:=by rw[Zc];rfl
 rw[gQ];generalize q4:QX g _=H4;obtain⟨k4,g4⟩:=nwk hg q4;have Rf:RAt H4 g fs:=⟨g4,λe he=>k4 _ _ (ub e he) Hb,Cf.nd⟩;have ic:=k3.trans k4;have w4:WAt H4 C x1 dR d1 bz:=w1.keep ic Hb Hb λ_ _=>by simp
 have Tf:TrF (fs.map (·.1)) PK bz:=by rw[dC,hrf];exact T1.to T.nn λy=>(T.rr y).rev
 have ax:bz.length=es.length:=by rw[T1.len,Qa,gM]
 refine⟨xf,xf,x1,dR,d1,g,bz,fs,_,xf,w4,Rf,Cf,Tf,Hc,λH5 k5=>⟨_,rfl,QF ?_⟩⟩;have w5:WAt H5 C x1 dR d1 bz:=w4.keep k5 Hb Hb λ_ _=>by simp
 refine⟨xf,x1,dR,d1,bz,_,xf,w5,Hc,C1,λl6 as6 zss6 Ls6 H6 g6 hal6 sK pm6 so6 IF6 ll6 fl6 ff6 k6=>?_⟩;have Rf6:RF H6 g fs:=⟨HL ((TU k6) _ _ Rf.dc Hb),Cf.nd,λe he=>(TU k6) _ _ (Rf.ro e he) Hb⟩;refine⟨xf,g,fs,_,xf,Rf6,Hc,Cf,λl7 rQ zss7 Ls7 H7 g7 hal7 pa7 pm7 so7 IF7 fl7 k7=>?_⟩;have vT:=MI C1.nd pm7 pm6 so7 so6 IF7 IF6;subst vT;refine⟨l6,l7,_,xf,rfl,k7 _ _ g6 Hb,g7,same_strs (zc2 k7 sK) pa7,xf,QF ?_⟩;have nO:=k6.trans k7;have w7:Gh bz:=w5.keep nO Hb Hb λ_ _=>by simp
 refine⟨xf,x1,dR,d1,bz,_,xf,w7,Hc,C1,λl8 as8 zss8 Ls8 H8 g8 hal8 pa8 pm8 so8 IF8 ll8 fl8 ff8 k8=>?_⟩;refine⟨l8,xf,Ss g8,?_⟩;have k18:=((ic.trans k5).trans nO).trans k8;have nQ:=k1.trans k18;have wt8:WAt H8 C x dx dd ts:=wt.keep nQ Hb Hb λ_ _=>by simp
 refine⟨xf,x,dx,dd,ts,_,xf,wt8,Hc,Ct,λl9 as9 zss9 Ls9 H9 g9 hal9 pa9 pm9 so9 IF9 ll9 fl9 ff9 k9=>?_⟩;refine⟨l9,xf,Ss g9,rfl,xf,?_⟩;have kT:(zcq bz).length=(zcq ts).length:=by
  refine(iso_mem (λy=>T1.nn.mem_iff) (λy=>?_) C1.nd Ct.nd).length_eq;have hp:=(T1.rr y).perm;constructor
  ·intro z;rw[z]at hp;exact List.reverse_eq_nil_iff.mp (List.nil_perm.mp hp)
  intro z;rw[z]at hp;exact List.perm_nil.mp hp
 have uM:as8.length=as9.length:=by rw[Zh pa8,Zh pa9,pm8.length_eq,pm9.length_eq,Qm,Qm,Qa,Qa,Qa,Qa,ll8,ll9,Qa,kT]
 refine za4 (by rw[Qa,Qa,uM];simp) ?_;have k09:=nQ.trans k9;have w9:Gi bz:=w7.keep (yB k9) Hb Hb λ_ _=>by simp
 refine⟨xf,x1,dR,d1,bz,_,xf,w9,C1,Hc,T1.ok λy hy=>by obtain⟨e,he,rfl⟩:=Qf.mp hy;exact oQ e he,λx2 dx2 d2 ts2 cB iQ T2 C2 ie=>?_⟩;have nX:=k09.trans ie;have rT:RAt cB d es:=R.keep nX Hb λ_ _=>by simp
 refine⟨xf,x2,dx2,d2,d,ts2,es,cs,a9,rfl,iQ,rT,Ce,T2.to (T1.nn.trans T.nn) (λy=>?_),aO,λdS f7=>kq _ (nX.trans f7)⟩;have:=(T1.rr y).rev;rw[List.reverse_reverse]at this;exact this.trans (T.rr y)
abbrev sRenR:Stmt:=top 46
def spRen0(C np c1 c2:Nc):Sp:=λvs H Q _=>M0 c2 vs H Q λ_ _ _=>False
end
inductive IspRenR(C:Nc)(vs:List V)(H:Hp)(Q:VK):Prop
 |mk (p x dx dd d:Nc) (b m:Int) (ts es:List Ent) (cs:List (List (Str×Str))) (a9:Nq) (h0:vs=[.ref p,.ref x,.ref d]) (hp:Pot H p b m) (h1:WAt H C x dx dd ts) (h2:RAt H d es) (pF:∀e∈es,e.2.2≠p) (h3:Cert (es.map (·.1)) (row (rsOf es)) cs a9) (h4:TrF (es.map (·.1)) (row (rsOf es)) ts) (h5:es.length≤40) (h6:∀e∈es,zbf e.1) (h7:∀(b' m':Int) H',Pot H' p b' m'→Keep [p] H H'→Q (.bl true) H'):IspRenR C vs H Q
def spRenR(C:Nc):Sp:=λvs H Q _=>IspRenR C vs H Q
abbrev csFr:Scope:=scOf (aOf 0 (eOf (sAt sRenR 5)))
abbrev csFi:Scope:=scOf (match aOf 0 (eOf (sAt sRenR 5)) with | .ListComp (.Tuple es _ _) _ _ _=>es.getD 1 (.Name "" ⟨0,0,0,0⟩)|e=>e)
def ndFr:(["_law_place", "_law_kept", "_law_due_here"]:List Str).Nodup:=by decide+kernel
def ndFi:(["_law_one", "_law_kept"]:List Str).Nodup:=by decide+kernel
def csFi_f(h:env.scope=zaj sRenR):∀y∈csFi.names,y.2=.free→(relabel csFr env).names.lookup y.1=some .cell∨(relabel csFr env).names.lookup y.1=some .free:=by
 unfold relabel Env.kindOf;rw[h]
 decide+kernel
def csFi_l:csFi.names.lookup ("_law_kept" : Str)=some NameKind.free:=by decide+kernel
def dueE(es ts:List Ent):List Ent:=ts.map λt=>(t.1,ZO t.1,t.2.2)
def zd4(es ts:List Ent):(Bv ts).map (·.1)=ts.map (·.1):=by unfold dueE;rw[List.map_map];rfl
def dueE_row{es ts:List Ent}(nd:(ts.map (·.1)).Nodup)(hp:(ts.map (·.1)).Perm HV):row (rsOf (Bv ts))=row AQ:=funext λy=>by
 by_cases hy:y∈ts.map (·.1)
 ·obtain⟨t,ht,rfl⟩:=Qf.mp hy;exact zbt (es:=Bv ts) (Hm zd4 nd) (e:=(t.1,ZO t.1,t.2.2)) AW
 rw[row_no (Hm zd4 hy),row_no λz=>hy (hp.mem_iff.mpr z)]
def img_trf{f:Nq}(hf:∀a b,f a=f b→a=b){rK fs ts es bz:List Ent}(h1:UN rK ts)(h2:UN fs (Bv ts))(nd:(ts.map (·.1)).Nodup)(T:TrF HV HU ts)(T1:TrF (rK.map (·.1)) (S2 rK) bz):TrF (fs.map (·.1)) PK bz:=by
 have e1:=zb1 h1;have e2:=zb1 h2;rw[zd4]at e2;refine T1.to (by rw[e1,e2]) λy=>?_;by_cases hy:∃x,y=f x
 ·obtain⟨x,rfl⟩:=hy;rw[Vg hf h1,Vg hf h2,dueE_row nd T.nn];exact(T.rr x).map f
 have no:∀ {l:List Ent},l.map (·.1)=(ts.map (·.1)).map f→row (rsOf l) y=[]:=λe=>row_no λz=>by rw[e]at z;obtain⟨x,_,q⟩:=Qf.mp z;exact hy ⟨x,q.symm⟩
 rw[no e1,no e2];exact Rt.refl _
def odd_okE{H:Hp}{v:V}(h:Vc v):okE v=true:=by cases h<;>rfl
section
variable{P:Nk}{w:Nn}{K:Nb}{mg:Nh}{base:No}{C np c1 c2:Nc}
def zew:zam [qP, "_law_web", "_law_due_here", "_law_places",qN, "_law_kept", "_law_other", "_law_fresh", "_law_k", "_law_handed"] [qP, "_law_web", "_law_due_here"] (zaj sRenR):=fsk
def ok_renR(F:Z5 "_law_renamed_right" "_law_renamed_right" sRenR f fd)(GT:ZU qG [qP,qM] 1 zeq)(GN:ZU "_law_new_names" [qP, "_law_places"] 3 spNewN)(GR:ZU "renamed" ["web", "names"] 6 (spRen0 C np c1 c2))(GI:ZU "_law_is_web" ["_law_web", "_law_due_here"] 2 (zil C))(GF:ZU "faces" ["web"] 3 (zim C))(GL:ZU "_law_faces" [qR] 3 zik)(GS:ZU "_law_spoilt" [qP,qN, "_law_places"] 2 spSpoilt)(GO:ZU "_law_told" ["_law_web",qN] 7 (spTold C))(GU:ZU "_law_due" [qN, "_law_places"] 2 spDue)(aI:mg "dict" = none)(aJ:mg "sorted" = none)(bX:mg "range" = none):ZB 8 f fd [qP, "_law_web", "_law_due_here"] (spRenR C):=by
 refine F.okL zew HZ;obtain⟨p,x,dx,dd,d,b,m,ts,es,cs,a9,rfl,hp,wt,R,pF,Ce,T,aO,hok,kq⟩:=h;have hu:=zb9 hr;have be:=Wn hu;have aP:KL _:=hr.mono Hg;have bQ:Fs _:=hr.mono Hg;have jh:Room 3 _:=hr.mono Hg;have hr6:Room 6 _:=hr.mono Hg;have aH:=sizeLine_eq;have tS:(IO (PyProof.Rows.envOfC "_law_renamed_right" (zaj sRenR) s0.heap.objs.size f cdv)).units+4<cLine:=Yh (Kk (by decide:4≤64) _) hr.units;refine⟨_,zae (B8 zew.nd (Pe SQ))
  (zae (BI zew.nd (pcl GN jh (ZK TF)))
  (zae (ps_set (i:=5) zew.nd rfl ze (zba zfy Ho aI Jg Ly))
  (zae (DF zew.nd (pcl GR hr6 (ZV Ly)))
  (zae (Ts (zan (op_ne_dictM hu) (pv 4) EB Sq))
  (zae (zaq 7 zew.nd (X6 Ho aI Jg (zaa (zd5 (M:=["_law_place", "_law_kept", "_law_due_here"]) (ix:=[none,RH 5,RH 2]) (mkB zew) rfl (za6 S0) (λC a7 ex s H=>UQ ndFr) (λC a7 ex s H=>zbw)
   (λC a7 ex s H=>zbz (zaa (zdg (by exact hu) Sf Sd) (zaa (zd5 (M:=["_law_one", "_law_kept"]) (ix:=[none,RH 1]) ⟨by rfl,by decide+kernel,by decide+kernel,csFi_f rfl,rfl,ndFi,λj i x h1 h2=>by
     match j,h1,h2 with
     |0,_,h2=>cases h2
     |1,h1,h2=>cases h1;cases h2;exact⟨rfl,csFi_l⟩
     |n+2,h1,_=>cases h1⟩ rfl (pi_listK (K:=K) rfl (zdg (by exact hu) Sr Sd)) (λC a7 ex s H=>UQ ndFi)
     (λC a7 ex s H=>zbw) (λC a7 ex s H=>zdg (by exact hu) Sf Sd)) zac)))) zac)))
  (zae (za5 (pe_bm0 PySem.F.plainAttrs_dict PySem.F.slot_dict_clear PySem.F.type_dict_clear mt_dclear Ty))
  (zae (yp (Er (Fu (Ft zac)) (Fu zac) (Ft zac)))
  (zae (QS (BX (RG (GY (ZK OQ)))) (za7 8 zew.nd)
   (zag (za5 (pcl GS bQ (ZK (W0 TF))))))
  (zae (zaq 9 zew.nd (zba zfy Ho aI Jg Al))
  (zag (yk (pe_and (zgn (zgu be) (pcl GO hr (ZV (RG (pv 9)))) (pcl GU bQ (W0 TF)) Sq) (pe_one (zgn (op_eq_dictM hu) (pv 9) EB Sq)))))))))))))),?_⟩
 have Ct:=T.cert Ce;have jP:(eWV es).map (λp=>kV p.1)=(es.map (·.1)).map V.str:=by rw[Zc,Zc];rfl
 have gM:ts.length=es.length:=by rw[T.len,Qa]
 refine⟨xf,d,_,HV,rfl,.inl R.dc,jP,λl1 ws1 ax cT so1=>?_⟩;have e1:ts.map (·.1)=ws1:=leS_one (T.nn.trans cT.symm) T.ss (so1 SJ);subst e1;generalize q1:ZS l1 _=H1;obtain⟨k1,g1⟩:=nwk ax q1;have oK:=hp.keep k1 Hb;have nlp:l1≠p:=Zd (Mz ax);have hnT:∀y∈ts.map (·.1),zbf y:=λy hy=>by obtain⟨e,he,rfl⟩:=Qf.mp (y6 hy);exact hok e he
 refine⟨xf,xf,p,l1,b,m,ts.map (·.1),rfl,oK,g1,SJ,Ct.nd,hnT,nlp,λu ps g b2 m2 H2 iT g2 vN oH k2=>?_⟩;have aU:ps.length=ts.length:=by have:=congrArg List.length iT.ks;rwa[Qa,Qa]at this
 have cD:Vy (ts.map (·.1)):=λy=>by rw[iT.ks]
 have ndp:(ps.map (·.1)).Nodup:=by rw[iT.ks];exact Ct.nd
 have fuH:H u=none:=zap k1 vN Hb;have nV:Keep [p] H H2:=(k1.sub Hb).trans k2;have nup:u≠p:=Zd (zab oK.1 vN);have N2:Nm H2 u ps:=⟨g2,ndp,λq hq=>by rw[(iT.al q hq).1];exact zgb (iT.al q hq).2⟩;refine⟨xf,u,xf,HL g2,λv hv=>?_⟩;generalize q3:Q3 v _=H3;obtain⟨k3,g3⟩:=nwk hv q3;have nvu:v≠u:=Zd (AK g2 hv);have nvp:v≠p:=Zd (zab oH.1 hv);have i5:GJ ts:=wt.pot hp nV;have eZ:MZ dd ts:=i5.keep k3 Hb Hb λ_ _=>by simp
 have N3:=N2.keep k3;refine⟨xf,xf,x,dx,dd,u,ts,ps,cs,a9,rfl,eZ,N3,Ct,Hc,Hc,λh=>absurd cD h,λ_ h=>absurd iT.al.nm h,λ_ g' jF ni=>absurd (iT.al.inj jF iT.ij) ni,λ_ g' jF ij' x1 dR d1 rK bz cs1 lab1 H4 kU C1 w1 T1 k4=>?_⟩;have ndk:((ps.map λq=>Hx).map (·.1)).Nodup:=by rw[Zc,show((λx:Key×V=>x.1)∘λq:Str×V=>Hx)=(Sum.inr:Str→Key)∘(·.1) from rfl,←Zc];exact Ba _ (λa b z q=>z AY) ndp
 have N4:=N3.keep k4;have g4:=k4 _ _ g3 Hb;have oks:∀r∈ps.map λq=>Hx,okE r.2=true:=λr hr=>by obtain⟨q,hq,rfl⟩:=Qf.mp hr;exact odd_okE (N4.od q hq)
 refine⟨xf,xf,u,v,xf,rfl,.inl N4.dc,HL g4,ndk,oks,xf,QF ?_⟩;generalize hF:ext (ts.map (·.1)) g'=f at kU;have rR:∀y∈ts.map (·.1),∃q∈ps,q.1=y∧q.2=.str (f y):=λy hy=>by obtain⟨q,hq,e⟩:=Qf.mp ((cD y).mpr hy);have e:q.1=y:=e;refine⟨q,hq,e,?_⟩;rw[←hF,show ext (ts.map (·.1)) g' y=g' y from if_pos hy,←e];exact(jF q hq).1
 have hf:∀a b,f a=f b→a=b:=by
  rw[←hF];refine ext_inj (λa ha b hb e=>?_) λa ha=>?_
  ·obtain⟨q,hq,rfl,_⟩:=rR a ha;obtain⟨r,hr,rfl,_⟩:=rR b hb;exact ij' q hq r hr e
  obtain⟨q,hq,rfl,_⟩:=rR a ha;exact(jF q hq).2
 have dgv:∀G:Hp,G v=some (.dK (ps.map λq=>Hx))→∀y∈ts.map (·.1),DGet G v (Sw y) (Li (f y)):=λG hG y hy=>by obtain⟨q,hq,rfl,e⟩:=rR y hy;rw[←e];exact .inl ⟨_,Sum.inr q.1,HL hG,rfl,(valP ndp hq).symm⟩
 have me:Keep [p] H H4:=(nV.trans (k3.sub Hb)).trans PF;have R4:RAt H4 d es:=R.keep me (by simpa using zax R.dc hp.1 Hh) λe he=>by simpa using pF e he
 have rJ:H4 l1=some (Hv ((ts.map (·.1)).map V.str)):=k4 _ _ (Cp Ad) Hb;have aA:((ts.map (·.1)).map V.str).length=ts.length:=by rw[Qa,Qa]
 have inE:∀t∈ts,∃e∈es,e.1=t.1:=λt ht=>by obtain⟨e,he,q⟩:=Qf.mp (y6 AW);exact⟨e,he,q⟩
 have vd:(Bv ts).length=ts.length:=Qa ..;refine⟨_,rfl,l1,rfl,⟨_,Hn rJ⟩,λn q ys τ H'=>Ex2 λ(aq:Nl) (fs:List Ent)=>Aj8 (q=ts.length-n) (n≤ts.length) (ys=aq.map V.ref) (Ex1 λx0=>τ=[x0,Hj v,Eo]) LY (∀e∈fs,H' e.2.2=some Ll) (UN fs ((Bv ts).take n)) (Keep [] H4 H'),
  ⟨ts.length,[],[],rfl,Tq,rfl,⟨none,rfl⟩,.nil,(λe he=>by cases he),.nil,Keep.refl⟩,?_⟩
 rintro n q ys τ H5 ⟨aq,fs,rfl,hn,rfl,⟨x0,rfl⟩,ap,aY,aV,k5⟩;have c9:aq.length=n:=by rw[Zh ap,Zh aV,Za];lia
 by_cases ae:n<ts.length
 ·refine .inr ⟨⟨_,.str ts[n].1,SN rJ,by rw[Qo,Qo,Qb ae];rfl⟩,by rw[Qa];lia,?_⟩;rintro y H6 ⟨rfl,bD⟩;have bD:=bD _ (SN rJ);rw[Qo,Qo,Qb ae]at bD;obtain rfl:V.str ts[n].1=y:=Qn bD;have aG:ts[n]∈ts:=Qq ae;have tk:(Bv ts).take (n+1)=(Bv ts).take n++[(ts[n].1,ZO ts[n].1,ts[n].2.2)]:=by rw[Qk (Hm vd ae)];unfold dueE;rw[List.getElem_map]
  generalize ts[n]=t at aG tk ⊢;obtain⟨e,he,et⟩:=inE t aG;have ak:=zbt R.nd he;have g6:=k5 _ _ g4 Hb;have R6:RAt H6 d es:=R4.keep k5 Hb λ_ _=>by simp
  have bM:=zfg Ce aO e he;have inR:∀y∈e.2.1,y∈ts.map (·.1):=λy hy=>T.nn.mem_iff.mpr (Ce.inn' (x:=e.1) (Hm ak hy));refine⟨xf,xf,v,xf,dgv _ g6 _ (Rw t aG),?_⟩;refine⟨xf,xf,d,xf,HL ⟨_,yi,.inl R6.dc,by rw[←et];rfl,(DI he).symm⟩,e.2.2,rfl,⟨_,Hn (R6.ro e he)⟩,?_⟩;refine lc_at (xs:=e.2.1.map V.str) (λ τ=>∃x0,τ=[x0,Hj v]) ((e.2.1.map f).map V.str) (by rw[Qa,Qa,Qa]) (Hn (R6.ro e he)) SJ ⟨none,rfl⟩ ?_ (λD hD=>?_)
  ·rintro i hi di τ ⟨x1,rfl⟩ kk hk;rw[Qa]at hi;rw[Zp,Zp]at hk;rw[Zp];exact⟨xf,xf,v,xf,dgv _ g6 _ (inR _ EA),hk _ ⟨xf⟩⟩
  generalize q8:BU D _=H8;obtain⟨k8,g8⟩:=Vu q8;refine⟨LE,λt9 fG=>?_⟩;have k9:Keep [] H6 (JD t9 (.tup [Sw (f t.1),Sv])):=k8.trans (Ht fG);refine⟨_,Hy,aq++[t9],fs++[(f t.1,e.2.1.map f,D)],rfl,ae,by rw[Qp];rfl,⟨xf⟩,?_,λe' aW=>?_,?_,TU k9⟩
  ·exact zal (RZ k9 ap) On
  ·rcases Qe.mp aW with z|z
   ·exact k9 _ _ AV Hb
   rw[Qc.mp z,zaf (AK g8 fG)];exact g8
  rw[tk];exact zal aV (.cons ⟨rfl,by show _=List.map f (ZO t.1);rw[←et,ak]⟩ .nil)
 have c8:n=ts.length:=by lia
 subst c8;rw[Qr (HS vd)]at aV;refine .inl ⟨⟨_,SN rJ,HS aA⟩,λD hD=>?_⟩;generalize q6:Q4 D _=H6;obtain⟨k6,g6⟩:=Vu q6;have Cd:Cert ((Bv ts).map (·.1)) (S2 (Bv ts)) cs a9:=by rw[zd4,dueE_row Ct.nd T.nn];exact zdw Ce T.nn λy=>⟨0,Hb⟩
 obtain⟨csf,labf,Cf⟩:=zi0 hf Cd aV;have jw:fs.length=es.length:=by rw[Zh aV,vd,gM]
 have Tf:=img_trf hf kU aV Ct.nd T T1;have gP:(fs.map λe:Ent=>(e.1,SC)).map (·.1)=fs.map (·.1):=by rw[Zc];rfl
 refine⟨D,aq,fs.map λe=>(e.1,SC),rfl,g6,zc5 AA,by rw[gP];exact Cf.nd,λz7 hz7=>?_⟩;have gQ:((fs.map λe:Ent=>(e.1,SC)).map λp=>((Sum.inr p.1:Key),p.2))=eWV fs:=by rw[Zc];rfl
 rw[gQ];generalize q7:BU z7 _=H7;obtain⟨k7,g7⟩:=nwk hz7 q7;have l':=(TU k6).trans k7;have N7:=N4.keep l';have w7:Gh bz:=w1.keep l' Hb Hb λ_ _=>by simp
 have uA:ps≠[]→d1≠u:=λgP z=>by
  have h1:=w7.ta.dc;rw[z,N7.dc]at h1;have h1:(ps.map λq=>Hx)=eWV bz:=by injection(Qn h1)
  cases kl:ps with
  |nil=>exact gP kl
  |cons a t=>
   rw[kl]at h1;cases oo:bz with
   |nil=>rw[oo]at h1;cases h1
   |cons c t'=>rw[oo]at h1;have:=congrArg (λl:List (Key×V)=>(l.headD (Sum.inr "",.non)).2) h1;have:a.2=V.ref c.2.2:=this;rw[(jF a (Hm kl Qd)).1]at this;cases this
 refine⟨xf,.inr (SK (.inl ⟨rfl,HL ⟨_,N7.dc⟩⟩)),u,xf,rfl,N7.dc,?_⟩;have k8:Keep [u] H7 (JE u (.dK [])):=Keep.wr Hb;have k8':ps=[]→Keep [] H7 (JE u (.dK [])):=λe c w' ec _=>by
  by_cases hc:c=u
  ·subst hc;rw[zad,←ec,N7.dc,e];rfl
  rw[zaf hc];exact ec
 generalize JE u (.dK [])=H8 at k8 k8';have w8:WAt H8 C x1 dR d1 bz:=by
  by_cases he:ps=[]
  ·exact w7.keep (k8' he) Hb Hb λ_ _=>by simp
  exact w7.keepD k8 N7.dc (uA he)
 have zu:z7≠u:=Zd (AK ((TU k6) _ _ N4.dc Hb) hz7);have Rf7:RAt H7 z7 fs:=⟨g7,λe he=>k7 _ _ (k6 _ _ O2 Hb) Hb,Cf.nd⟩;have wc:RAt H8 z7 fs:=Rf7.keep k8 (Hd zu) λe he=>by simpa using zax (Rf7.ro e he) N7.dc Hh
 have ax:bz.length=es.length:=by rw[T1.len,zb1 kU,Qa,Qa,gM]
 refine⟨xf,xf,x1,dR,d1,z7,bz,fs,_,xf,w8,wc,Cf,Tf,Hc,λH9 k9=>⟨_,rfl,QF ?_⟩⟩;have w9:Gi bz:=w8.keep k9 Hb Hb λ_ _=>by simp
 have C9:=Tf.cert Cf;refine⟨xf,x1,dR,d1,bz,_,xf,w9,Hc,C9,λl10 as10 zss10 Ls10 cB g10 hal10 sM sJ su wj ll10 fl10 ff10 ie=>?_⟩;have dv:=k9.trans ie;have we:RF cB z7 fs:=⟨HL (dv _ _ wc.dc Hb),Cf.nd,λe he=>dv _ _ (wc.ro e he) Hb⟩;refine⟨xf,z7,fs,_,xf,we,Hc,Cf,λl11 as11 zss11 Ls11 dS g11 hal11 sL sI sr wg fl11 f7=>?_⟩;have vT:=MI C9.nd sI sJ sr su wg wj;subst vT;refine⟨l10,l11,_,xf,rfl,f7 _ _ g10 Hb,g11,same_strs (zc2 f7 sM) sL,xf,QF ?_⟩;have fB:Keep [u] H3 dS:=((yC l').sub Hb).trans (yB ((dv.trans f7).sub Hb));have ui:=oH.keep k3 Hb;have hpp:=ui.keep fB (Rx nup);have wtu:∀{c:Nc} {o:HO},H c=some o→c≠u:=λh=>zab h fuH;have sd:WAt dS C x dx dd ts:=eZ.keep fB (by simpa using wtu wt.ob) (by simpa using wtu wt.ta.dc) λe he=>by simpa using wtu (wt.ta.ro e he)
 have qg:dS l1=some (Hv ((ts.map (·.1)).map V.str)):=fB _ _ (Cp Ad) (by simpa using zab g1 vN);have N11:Nm dS v ps:=by refine⟨fB _ _ g3 (Hd nvu),ndp,λq hq=>?_⟩;rw[(jF q hq).1];exact zgb (jF q hq).2
 have S11:SpN dS p v 40:=⟨ps,N11,(λq hq z=>by rw[(jF q hq).1]at z;cases z),Hc⟩;refine⟨xf,p,b2,m2,3,rfl,hpp,Hg,Hg,λj12 vY sW rX h120 h121 oJ tf=>?_⟩;have gK:Keep [p] dS rX:=zau tf;refine⟨xf,Hc,Hc,?_⟩;have nvl:l1≠v:=zab Ad hv;have wtv:∀{c:Nc} {o:HO},H2 c=some o→c≠v:=λh=>zab h hv;refine zc8 (lo:=0) (λi σ H'=>Aj4 (MF v (40+2*i)) (Ex2 λb' m'=>Q2 m') (Keep [p,v] dS H') (Ex1 λx8=>σ=[Hj p,Hj x,Eo,Hj l1,Hj u,Hj v,Hj x1,Hj z7,x8,none])) ⟨S11.pot gK nvp,⟨_,_,oJ⟩,gK.sub Hb,_,rfl⟩ ?_ ?_
 ·rintro i σ rW hi ⟨S13,⟨qo,nE,fU⟩,iX,x8,rfl⟩;have hi3:i<3:=by lia
  refine⟨xf,xf,xf,p,v,l1,qo,nE,40+2*i,ts.map (·.1),rfl,fU,S13,iX _ _ qg (by simp;exact⟨nlp,nvl⟩),SJ,Hc,nlp,λb14 m14 rV S14 oI ic=>?_⟩;exact⟨by rw[show 40+2*HY=40+2*i+2 by lia];exact S14,⟨_,_,oI⟩,iX.trans ic,xf⟩
 rintro σ rW ⟨⟨qs,lK,np13,hq13⟩,⟨qo,nE,fU⟩,iX,x8,rfl⟩;have hq3:qs.length≤46:=by lia
 refine⟨xf,v,xf,.inl lK.dc,λw0 hw0=>?_⟩;generalize q14:upd rW w0 _=rV;obtain⟨ic,qe⟩:=nwk hw0 q14;have N14:Nm rV w0 qs:=⟨qe,lK.nd,λq hq=>(lK.od q hq).keep ic⟩;have rZ:WAt rW C x dx dd ts:=sd.keep iX (by simp;exact⟨zax wt.ob hp.1 Hh,wtv i5.ob⟩) (by simp;exact⟨zax wt.ta.dc hp.1 Hh,wtv i5.ta.dc⟩) λe he=>by simp;exact⟨DZ hp.1 Hh,wtv (i5.ta.ro e he)⟩
 have rY:WAt rV C x dx dd ts:=rZ.keep ic Hb Hb λ_ _=>by simp
 have qf:rV l1=some (Hv ((ts.map (·.1)).map V.str)):=ic _ _ (iX _ _ qg (by simp;exact⟨nlp,nvl⟩)) Hb;refine⟨xf,xf,x,dx,dd,w0,ts,qs,cs,a9,rfl,rY,N14,Ct,Hc,Hc,λt15 ws15 H15 ql g15 md=>?_⟩;have iW:=ic.trans md;have N15:Nm H15 v qs:=lK.keep iW;refine⟨xf,xf,v,l1,qs,ts.map (·.1),rfl,N15,md _ _ qf Hb,SJ,Ct.nd,Hc,λt16 ws16 H16 qk g16 tG=>?_⟩;have ew:=ql.one qk;subst ew;refine⟨t15,t16,xf,rfl,Hn (tG _ _ g15 Hb),Hn g16,xf,Q6 ?_⟩;have ndq:((qs.map λq=>Hx).map (·.1)).Nodup:=by rw[Zc,show((λx:Key×V=>x.1)∘λq:Str×V=>Hx)=(Sum.inr:Str→Key)∘(·.1) from rfl,←Zc];exact Ba _ (λa b z q=>z AY) lK.nd
 have okq:∀r∈qs.map λq=>Hx,okE r.2=true:=λr hr=>by obtain⟨q,hq,rfl⟩:=Qf.mp hr;exact odd_okE (lK.od q hq)
 have fC:=iW.trans tG;refine⟨xf,xf,w0,v,xf,rfl,HL ((md.trans tG) _ _ qe Hb),HL (fC _ _ lK.dc Hb),ndq,okq,?_⟩;refine kq qo nE H16 (fU.keep fC Hb) λc o ec hc=>?_;have cZ:c≠p:=by simpa using hc
 have hc2:H2 c=some o:=nV c o ec hc;exact fC _ _ (iX _ _ (fB _ _ (Cp hc2) (by simpa using wtu ec)) (by simp;exact⟨cZ,wtv hc2⟩)) Hb
end
end K21
namespace L2
open PySem PySem.Spec PyProof.Rows
def zjv{X:Cx}{K:Nb}(hK:X.K=K):YH (.type "list") (λxs H Q=>Ex2 λp ys=>Aj3 (xs=[TR]) ((WU p ys)∨(Gk ys)) (∀l,H l=none→Q Tb (TB l ys))):=hK▸zdy
end L2
namespace K21
open PySem L2 Wb
abbrev sLaw:Stmt:=top 48
inductive IspLaw(K:Nb)(vs:List V)(H:Hp)(Q:VK):Prop
 |mk (a:Nc) (ns:List Int) (h0:vs=[.ref a]) (h1:SqL K H a (ns.map V.int)) (h2:ns.length≤63) (h3:∀H',Q (.bl true) H'):IspLaw K vs H Q
def spLaw(K:Nb):Sp:=λvs H Q _=>IspLaw K vs H Q
def ndLw:(["_law_place", "_law_around"]:List Str).Nodup:=by decide+kernel
section
variable{P:Nk}{w:Nn}{K:Nb}{mg:Nh}{base:No}{C c1 c2:Nc}
def scLaw:zam [qS, "_law_k",qP, "_law_rows_here", "_law_due_here", "_law_web"] [qS] (zaj sLaw):=fsk
def ok_law(F:Z5 "law" "law" sLaw f fd)(GP:ZU "_law_pot" [qS, "_law_k"] 1 (spPot K))(GD:ZU "_law_drawn" [qP] 5 spDrawnD)(MW:Mk K C fi)(mW:mg "Web" = some SE)(bI:QH fdi ["self", "rows"] [])(GI:ZB 4 fi fdi ["self", "rows"] (GV c1 c2))(GM:ZU "_law_mirrored_right" ["_law_web", "_law_due_here"] 7 (spWR C))(GR:ZU "_law_renamed_right" [qP, "_law_web", "_law_due_here"] 8 (spRenR C))(GW:ZU "_law_is_web" ["_law_web", "_law_due_here"] 2 (zil C))(aI:mg "dict" = none)(aZ:mg "list" = none)(bX:mg "range" = none)(ad:RE)(dE:mg "min" = none)(kI:mg "max" = none):ZB 9 f fd [qS] (spLaw K):=by
 refine F.okL scLaw HZ;obtain⟨a,ns,rfl,ha,qZ,kq⟩:=h;have aP:KL _:=hr.mono Hg;have bQ:Fs _:=hr.mono Hg;have hr5:Room 5 _:=hr.mono Hg;have hr7:Room 7 _:=hr.mono Hg;have aH:=sizeLine_eq;refine⟨_,zae (QS (BX (OG (Oo (DW Ho dE Xf (zaa (Tk yy) (QO zac)))))) (za7 1 scLaw.nd)
   (zae (BH scLaw.nd (pcl GP aP (ZK Sn)))
   (zae (B8 scLaw.nd (pcl GD hr5 SQ))
   (zae (BI scLaw.nd (X6 Ho aI Jg (zaa (zd5 (M:=["_law_place", "_law_around"]) (ix:=[none,none]) (mkB scLaw) rfl (za6 S0) (λC a7 ex s H=>zi5 (K:=K) (n:=2) rfl rfl (zbe (UQ ndLw) (yo (za7 1 ndLw)))) (λC a7 ex s H=>zbw)
     (λC a7 ex s H=>zbz (Lq (zba (zjv (K:=K) rfl) Ho (by exact aZ) Kv (ZV zac))))) zac)))
   (zae (DE scLaw.nd (MY hr5 rfl mW bI .nil zbb TF))
   (zag (yp (zi2 (OI (pcl GM hr7 (W0 Ly))) (zi2 (OI (pcl GR hr (Z6 (W0 Ly)))) (zgl (OI (pcl GW bQ (W0 Ly)))))))))))))
  (zag xb),?_⟩
 refine⟨xf,a,xf,HL ha,_,xf,_,xf,xf,?_,?_,?_⟩
 ·split<;>split<;>omega
 ·rw[Qa];split<;>split<;>omega
 refine zc8 (lo:=0) (λi σ H'=>Aj2 (Keep [] H H') (Ex5 λx1 x2 x3 x4 x5=>σ=[Hj a,x1,x2,x3,x4,x5])) ⟨Keep.refl,_,_,_,_,_,rfl⟩ ?_ ?_
 ·rintro i σ H1 hi ⟨k1,x1,x2,x3,x4,x5,rfl⟩;have hi8:i≤1000:=by rw[Qa]at hi;split at hi<;>split at hi<;>omega
  have ei:(0:Int)+(i:Int)=(i:Int):=by lia
  rw[ei];refine⟨xf,xf,a,ns,i,rfl,sq_keep ha k1,hi8,Hc,λp b2 m2 H2 hpf ap k2=>?_⟩;refine⟨xf,p,b2,m2,rfl,ap,λt bs es cs a9 b3 m3 H5 rS Ct mH hok bE k3=>?_⟩;have md:Keep [] H1 H5:=λc u ec _=>k3 c u (zS ec) (by simpa using JT hpf);have lZ:Keep [] H H5:=k1.trans md;have gz:bs.length=es.length:=Zh rS.ts;refine⟨_,rfl,t,rfl,⟨_,SqL.of rS.ls⟩,λn q ys τ H'=>Ex2 λ(aq:Nl) (fs:List Ent)=>Aj8 (q=es.length-n) (n≤es.length) (ys=aq.map V.ref) (Ex2 λx0 x1=>τ=[x0,x1]) LY (∀e∈fs,H' e.2.2=some Ll∧H5 e.2.2=none) (Img id id fs (OC n)) (Keep [] H5 H'),
   ⟨es.length,[],[],rfl,Tq,rfl,⟨none,none,rfl⟩,.nil,(λe he=>by cases he),.nil,Keep.refl⟩,?_⟩
  rintro n q ys τ H6 ⟨aq,fs,rfl,hn,rfl,⟨x0,x1,rfl⟩,bn,aY,ms,k6⟩;have c9:aq.length=n:=by rw[Zh bn,Zh ms,Za];lia
  have R6:=rS.keep k6;by_cases ae:n<es.length
  ·have uL:n < bs.length:=by lia
   refine .inr ⟨⟨_,.ref bs[n],CK,by rw[Qo,Qb uL];rfl⟩,SJ,?_⟩;rintro v H7 ⟨rfl,hv⟩;have bD:=hv _ CK;rw[Qo,Qb uL]at bD;obtain rfl:V.ref bs[n]=v:=Qn bD;obtain⟨aB,bv⟩:=za1 R6.ts uL;have aG:es[n]∈es:=Qq ae;have tk:es.take (n+1)=es.take n++[es[n]]:=Qk ae;have gN:=R6.ro _ aG;generalize es[n]=e at aG tk bv gN;refine⟨bs[n],xf,Tg bv,rfl,_,xf,_,xf,rfl,xf,xf,e.2.2,xf,Ss gN,λl7 aR=>⟨LE,λt7 qK=>?_⟩⟩;have k7:Keep [] H7 (JE l7 Ll):=Keep.new aR;have cx:(JE l7 Ll) l7=some Ll:=zad;have k8:Keep [] H7 (Pq (JE l7 Ll) t7 (.tup [.str e.1,Hf l7])):=k7.trans (Ht qK);refine⟨_,Hy,aq++[t7],fs++[(e.1,e.2.1,l7)],rfl,ae,by rw[Qp];rfl,⟨_,xf⟩,?_,λe' aW=>?_,?_,k6.trans k8⟩
   ·exact zal (RZ k8 bn) On
   ·rcases Qe.mp aW with z|z
    ·exact⟨k8 _ _ (aY e' z).1 Hb,(aY e' z).2⟩
    rw[CT z];exact⟨Hq (AK cx qK) cx,zap k6 aR Hb⟩
   rw[tk];exact zal ms (.cons ⟨rfl,rfl⟩ .nil)
  have c8:n=es.length:=by lia
  subst c8;rw[Qr HM]at ms;refine .inl ⟨⟨_,CK,by rw[Qa,gz];exact Qi _⟩,λD hD=>?_⟩;generalize q7:BU D _=H7;obtain⟨k7,g7⟩:=Vu q7;have dC:=zb1 ms;rw[Kf]at dC;have qT:row (rsOf fs)=row AQ:=funext λy=>Vg (λ_ _ z=>z) ms y;have Cf:Cert (fs.map (·.1)) PK cs a9:=by rw[dC,qT];exact Ct
  have jw:fs.length=es.length:=Zh ms;have gP:(fs.map λe:Ent=>(e.1,SC)).map (·.1)=fs.map (·.1):=by rw[Zc];rfl
  refine⟨D,aq,fs.map λe=>(e.1,SC),rfl,g7,zc5 (RZ k7 bn),by rw[gP];exact Cf.nd,λd hd=>?_⟩;have gQ:((fs.map λe:Ent=>(e.1,SC)).map λp=>((Sum.inr p.1:Key),p.2))=eWV fs:=by rw[Zc];rfl
  rw[gQ];generalize q8:JE d _=H8;obtain⟨k8,g8⟩:=nwk hd q8;have tz:=(k6.trans k7).trans k8;have R8:RAt H8 d fs:=⟨g8,λe he=>k8 _ _ (k7 _ _ (aY e he).1 Hb) Hb,Cf.nd⟩;refine⟨xf,λx hdx' hx vc az=>?_⟩;have k9:=new_ins (C:=C) hx vc;refine init_good zad ((rS.keep tz).keep k9) Ct mH (λe he=>(hok e he).1) λdd ts cB iQ T10 ie=>⟨rfl,?_⟩;have dv:=zjg hx k9 ie;have rT:RAt cB d fs:=R8.keep dv Hb λ_ _=>by simp
  have Tf:TrF (fs.map (·.1)) PK ts:=by rw[dC,qT];exact T10
  have oP:∀e∈fs,zbf e.1:=λe he=>by
   have:e.1∈es.map (·.1):=by rw[←dC];exact Qf.mpr ⟨e,he,rfl⟩
   obtain⟨e',aW,q⟩:=Qf.mp this;rw[←q];exact(hok e' aW).1
  have ul:=bE.keep (tz.trans dv) Hb;refine⟨xf,xf,x,_,dd,d,ts,fs,cs,a9,rfl,iQ,rT,Cf,Tf,Hc,oP,λdS f7=>⟨_,rfl,QF ?_⟩⟩;have qu:WAt dS C x _ dd ts:=iQ.keep f7 Hb Hb λ_ _=>by simp
  have wf:RAt dS d fs:=rT.keep f7 Hb λ_ _=>by simp
  have pF:∀e∈fs,e.2.2≠p:=λe he z=>by have:=(aY e he).2;rw[z,bE.1]at this;cases this
  have kr:=ul.keep f7 Hb;refine⟨xf,xf,xf,p,x,_,dd,d,b3,m3,ts,fs,cs,a9,rfl,kr,qu,wf,pF,Cf,Tf,Hc,oP,λvY sW rX hp12 gK=>⟨_,rfl,QF ?_⟩⟩;have w12:WAt rX C x _ dd ts:=qu.pot kr gK;have R12:RAt rX d fs:=wf.keep gK (by simpa using zax wf.dc kr.1 Hh) λe he=>by simpa using pF e he
  refine⟨xf,xf,x,_,dd,d,ts,fs,cs,a9,rfl,w12,R12,Cf,Tf,Hc,λrW iX=>⟨_,rfl,QF ?_⟩⟩;refine⟨λc u ec _=>?_,_,_,_,_,xf⟩;have e1:=k1 c u ec Hb;have ncp:c≠p:=zab e1 hpf;exact iX _ _ (gK _ _ (f7 _ _ (dv _ _ (tz _ _ (md _ _ e1 Hb) Hb) Hb) Hb) (Hd ncp)) Hb
 rintro σ H1 _;exact kq _
end
end K21
namespace L2
open PySem
def Nf(K:Nb)(x:Str)(st:Stmt):Prop:=∃f fd,ZJ x=some A3∧Z5 x x st f fd
def Nme(K:Nb)(C:Nc)(x q:Str)(st:Stmt):Prop:=∃f fd,ZW SE x=some A3∧XF Lw=true∧Z5 x q st f fd
def binds5{K:Nb}{x q:Str}{st:Stmt}{f:Nc}{fd:Nw}{ps:Ng}(F:Z5 x q st f fd)(b:∀(kV doc pm:Value) (an:Option Addr) (cdv ct:Value) (us:Nj),us.length=ps.length→bindArgs (PySem.W.fnOf x q (zdv st) P0 EZ .none kV doc pm an cdv ct) ⟨us,[]⟩=pure Cn:=by(intro _ _ _ _ _ _ us hl;rcases us with _|⟨_,_|⟨_,_|⟨_,_|⟨_,_|⟨_,_|⟨_,_⟩⟩⟩⟩⟩⟩<;>first|rfl|cases hl)):QH fd ps []:=F.binds b
def nfo{P:Nk}{w:Nn}{K:Nb}{h:No}{mg:Nh}{base:No}(X:K.In h)(G:h.Ns mainGlobals mg){CX:CXT}{x:Str}{st:Stmt}{ps:Ng}{k:Nat}{sp:Sp}(N:UF x st)(T:∀f fd,Z5 x x st f fd→ZC CX k f fd ps sp)(b:∀(kV doc pm:Value) (an:Option Addr) (cdv ct:Value) (us:Nj),us.length=ps.length→bindArgs (PySem.W.fnOf x x (zdv st) P0 EZ .none kV doc pm an cdv ct) ⟨us,[]⟩=pure Cn:=by(intro _ _ _ _ _ _ us hl;rcases us with _|⟨_,_|⟨_,_|⟨_,_|⟨_,_|⟨_,_|⟨_,_⟩⟩⟩⟩⟩⟩<;>first|rfl|cases hl)):∃f fd,Z5 x x st f fd∧QH fd ps []∧mg x=some Lw∧ZC CX k f fd ps sp:=
 let⟨f,fd,a,F⟩:=N
 ⟨f,fd,F,F.binds b,XT a,T f fd F⟩
end L2
namespace K21
open PySem L2 Wb PyProof.Rows
theorem all_mk{l:PySem.W.OpenLaw}{w:Nn}{K:Nb}{h:No}{mg:Nh}{fa C cE n1 n2 n3 n4 np:Nc}(X:K.In h)(G:h.Ns mainGlobals mg)(hfa:mg "law" = some IT)(aC:ZJ "Web" = some (Hj C))(e_HueError:ZJ "HueError" = some (Hj cE))(e_NoName:ZJ "NoName" = some (Hj n1))(e_Twice:ZJ "Twice" = some (Hj n2))(e_OneWay:ZJ "OneWay" = some (Hj n3))(e_NotFlat:ZJ "NotFlat" = some (Hj n4))(e_NoPlace:ZJ "NoPlace" = some (Hj np))(h_steps_behind:UF "steps_behind" sSteps)(h_faces_of:UF "faces_of" zhz)(h_piece_from:UF "piece_from" sPiece)(h_pieces_of:UF "pieces_of" ziv)(h_faces:UF "faces" sFacesW)(h_is_name:UF "is_name" ziy)(h_refuse_no_names:UF "refuse_no_names" zf7)(h_refuse_twice:UF "refuse_twice" sTwice)(h_refuse_one_way:UF "refuse_one_way" ziw)(h_refuse_not_flat:UF "refuse_not_flat" sFlat)(h_from_least:UF "from_least" sLeast)(h_mirrored:UF "mirrored" sMirror)(h_renamed:UF "renamed" zdd)(h__law_pot:UF "_law_pot" sPot)(h__law_digit:UF "_law_digit" zft)(h__law_counted:UF "_law_counted" sCount)(h__law_names:UF "_law_names" sNames)(h__law_behind:UF "_law_behind" zff)(h__law_steps:UF "_law_steps" zfe)(h__law_tie:UF "_law_tie" sTie)(h__law_rounds:UF "_law_rounds" zit)(h__law_rows:UF "_law_rows" sRows)(h__law_drawn:UF "_law_drawn" sDrawn)(h__law_from_least:UF "_law_from_least" sLLeast)(h__law_faces:UF "_law_faces" zix)(h__law_is_name:UF "_law_is_name" sLName)(h__law_is_web:UF "_law_is_web" sIsWeb)(h__law_new_names:UF "_law_new_names" sNewN)(h__law_spoilt:UF "_law_spoilt" sSpoilt)(h__law_due:UF "_law_due" sDueP)(h__law_told:UF "_law_told" sTold)(h__law_renamed_right:UF "_law_renamed_right" sRenR)(h__law_mirrored_right:UF "_law_mirrored_right" sMirR)(gI:Nme K C "__init__" "Web.__init__" sInit)(gA:Nme K C "places" "Web.places" sPlaces)(gR:Nme K C "round_of" "Web.round_of" ziu){fL:Nc}{od an:Option Addr}{sl:Array LM}{oc kV dc pm cd ct:Value}(aL:ZJ "law" = some (Hj fL))(lL:K.lookup fL=some ⟨oc,od,.func (PySem.W.fnOf "law" "law" (zdv sLaw) (zch sLaw) (zaj sLaw) .none kV dc pm an cd ct),sl⟩)(cL:BB cd "law" = true)(kL:Y7 (Hf fL)=true)(pg:YY Str.empty=true)(eR:JW C=true)(po:XZ C=true)(sa:ZW SE "__setattr__" = some (RH (.builtin "object.__setattr__")))(mk:K2 C=true)(kc:Y7 SE=true)(nR:ZW SE "rounds" = some none){tkM:Tok}(aM:ZJ "MOST_LETTERS" = some (RH (Lj 8 tkM)))(xn1:JU n1 bmVE "ValueError.__new__" = true)(xn2:JU n2 bmVE "ValueError.__new__" = true)(xnp:JU np bmVE "ValueError.__new__" = true)(w1:ZW SE "__class__" = some Ie)(w4:WX C (.type "object")=some true)(wk:ZZ SE SE=some true)(p5:DO Hu "__get__" = some Pr)(p6:FD Hu=some true)(p1n1:ZW Ov "__getattribute__" = some (RH (.builtin "BaseException.__getattribute__")))(p2n1:ZW Ov "__getattr__" = some none)(p3n1:WX n1 (.type "BaseException")=some true)(p4n1:ZW Ov "__class__" = some Ie)(p7n1:WX n1 (.type "object")=some true)(vS:BJ Ov (Hf cE)=some true)(si:ZZ Ov (.type "ValueError")=some true)(un1n1:ZZ Ov Ov=some true)(un1n2:RY n1 n2)(un1n3:RY n1 n3)(un1n4:RY n1 n4)(un1np:RY n1 np)(p1n2:ZW Ow "__getattribute__" = some (RH (.builtin "BaseException.__getattribute__")))(p2n2:ZW Ow "__getattr__" = some none)(p3n2:WX n2 (.type "BaseException")=some true)(p4n2:ZW Ow "__class__" = some Ie)(p7n2:WX n2 (.type "object")=some true)(vR:BJ Ow (Hf cE)=some true)(sh:ZZ Ow (.type "ValueError")=some true)(un2n1:RY n2 n1)(un2n2:ZZ Ow Ow=some true)(un2n3:RY n2 n3)(un2n4:RY n2 n4)(un2np:RY n2 np)(p1np:ZW Ch "__getattribute__" = some (RH (.builtin "BaseException.__getattribute__")))(p2np:ZW Ch "__getattr__" = some none)(p3np:WX np (.type "BaseException")=some true)(p4np:ZW Ch "__class__" = some Ie)(p7np:WX np (.type "object")=some true)(emnp:BJ Ch (Hf cE)=some true)(uvnp:ZZ Ch (.type "ValueError")=some true)(unpn1:RY np n1)(unpn2:RY np n2)(unpn3:RY np n3)(unpn4:RY np n4)(unpnp:ZZ Ch Ch=some true)(z_len:ZJ "len" = some none)(z_sorted:ZJ "sorted" = some none)(z_range:ZJ "range" = some none)(z_min:ZJ "min" = some none)(z_max:ZJ "max" = some none)(z_tuple:ZJ "tuple" = some none)(z_list:ZJ "list" = some none)(z_dict:ZJ "dict" = some none)(z_set:ZJ "set" = some none)(z_isinstance:ZJ "isinstance" = some none)(z_str:ZJ "str" = some none)(z_all:ZJ "all" = some none)(z_sum:ZJ "sum" = some none)(z_enumerate:ZJ "enumerate" = some none)(z_zip:ZJ "zip" = some none)(z_ValueError:ZJ "ValueError" = some none) :
  ∃fd:FuncData,(∀(s:Ni) (v:Value),J3 ⟨[v],[]⟩ [("_law_script",v)])∧∀base:Heap,K.In base→base.Ns mainGlobals mg→X3 K mg base CX0 9 fa fd ["_law_script"] (spLaw K):=by
 have e:=hfa.symm.trans (XT aL);cases e;have FL:=fun_mk (st:=sLaw) lL cL kL;have cW:V8 C:=⟨pg,eR,po,sa⟩;have mC:=XT aC;have y_len:=U4 z_len;have y_sorted:=U4 z_sorted;have y_range:=U4 z_range;have y_min:=U4 z_min;have y_max:=U4 z_max;have y_tuple:=U4 z_tuple;have y_list:=U4 z_list;have y_dict:=U4 z_dict;have y_set:=U4 z_set;have y_isinstance:=U4 z_isinstance;have y_str:=U4 z_str;have y_all:=U4 z_all;have y_sum:=U4 z_sum;have y_enumerate:=U4 z_enumerate;have y_zip:=U4 z_zip;have y_ValueError:=U4 z_ValueError;have m_HueError:=XT e_HueError;have m_NoName:=XT e_NoName;have m_Twice:=XT e_Twice;have m_OneWay:=XT e_OneWay;have m_NotFlat:=XT e_NotFlat;have m_NoPlace:=XT e_NoPlace;have mM:=XT aM;obtain⟨fI,fdI,agI,igI,FI⟩:=gI;obtain⟨fA,fdA,agA,igA,FA⟩:=gA;obtain⟨fR,fdR,agR,igR,FR⟩:=gR;have wnp:BY np "place" :=⟨⟨p1np,p2np,p3np,p4np,p5,p6,p7np⟩,emnp,unpnp.trans Hz,unpn1.trans Hz,unpn2.trans Hz,unpn3,unpn4,uvnp,Hz⟩;have wn1:BY n1 "name" :=⟨⟨p1n1,p2n1,p3n1,p4n1,p5,p6,p7n1⟩,vS,un1np.trans Hz,un1n1.trans Hz,un1n2.trans Hz,un1n3,un1n4,si,Hz⟩;have wn2:BY n2 "twice" :=⟨⟨p1n2,p2n2,p3n2,p4n2,p5,p6,p7n2⟩,vR,un2np.trans Hz,un2n1.trans Hz,un2n2.trans Hz,un2n3,un2n4,sh,Hz⟩;refine⟨PySem.W.fnOf "law" "law" (zdv sLaw) (zch sLaw) (zaj sLaw) .none kV dc pm an cd ct,λs v=>.of_eq rfl,λbase _ _=>?_⟩;have cm:=@nfo l.prog w K h mg base X G;have GA:MN "places" ["self"] 1 zk:=⟨⟨agA,igA,FA.kp⟩,binds5 FA,ok_places FA cW nR y_list⟩;have GR:MN "round_of" ["self", "place"] 1 zA:=⟨⟨agR,igR,FR.kp⟩,binds5 FR,ok_roundof FR cW nR y_list⟩;obtain⟨_,_,F0,b0,m0,G0⟩:=cm h__law_digit λ_ _ F=>ok_digit F;obtain⟨_,_,F1,b1,m1,G1⟩:=cm h__law_pot λ_ _ F=>ok_pot F y_len y_min y_max y_list;obtain⟨_,_,F2,b2,m2,G2⟩:=cm h__law_counted λ_ _ F=>ok_count F y_len;obtain⟨_,_,F3,b3,m3,G3⟩:=cm h__law_names λ_ _ F=>ok_names F F0 b0 m0 G0 F2 b2 m2 G2 y_len y_range;obtain⟨_,_,F4,b4,m4,G4⟩:=cm h__law_behind λ_ _ F=>ok_behind F y_len;obtain⟨_,_,F5,b5,m5,G5⟩:=cm h__law_steps λ_ _ F=>ok_steps0 F F4 b4 m4 G4;obtain⟨_,_,F6,b6,m6,G6⟩:=cm h__law_tie λ_ _ F=>ok_tie F F0 b0 m0 G0 F5 b5 m5 G5 y_len;obtain⟨_,_,F7,b7,m7,G7⟩:=cm h__law_rounds λ_ _ F=>ok_rounds F F0 b0 m0 G0 F6 b6 m6 G6 y_len y_range;obtain⟨_,_,F8,b8,m8,G8⟩:=cm h__law_rows λ_ _ F=>ok_rows F F0 b0 m0 G0 y_len y_range;obtain⟨_,_,F9,b9,m9,G9⟩:=cm h__law_drawn λ_ _ F=>ok_drawn F F0 b0 m0 G0 F7 b7 m7 G7 F8 b8 m8 G8 F3 b3 m3 G3 y_len;obtain⟨_,_,F10,b10,m10,G10⟩:=cm h_is_name λ_ _ F=>ok_isname F mM y_isinstance y_str y_len y_all;obtain⟨_,_,F11,b11,m11,G11⟩:=cm h_refuse_no_names λ_ _ F=>ok_nonames F ⟨xn1⟩ m_NoName F10 b10 m10 G10;obtain⟨_,_,F12,vY,sW,G12⟩:=cm h_refuse_twice λ_ _ F=>ok_twice F ⟨xn2⟩ m_Twice y_len y_set;obtain⟨_,_,F13,qo,nE,G13⟩:=cm h_refuse_one_way λ_ _ F=>ok_oneway F y_dict;obtain⟨_,_,F14,b14,m14,G14⟩:=cm h_from_least λ_ _ F=>ok_least F y_min y_tuple;obtain⟨_,_,F15,b15,m15,G15⟩:=cm h_steps_behind λ_ _ F=>ok_steps F y_enumerate;obtain⟨_,_,F16,b16,m16,G16⟩:=cm h_faces_of λ_ _ F=>ok_facesO F F15 b15 m15 G15 y_sorted;obtain⟨_,_,F17,b17,m17,G17⟩:=cm h_piece_from λ_ _ F=>ok_piece F y_sorted;obtain⟨_,_,F18,b18,m18,G18⟩:=cm h_pieces_of λ_ _ F=>ok_pieces F F17 b17 m17 G17 y_sorted;obtain⟨_,_,F19,b19,m19,G19⟩:=cm h_refuse_not_flat λ_ _ F=>ok_flat F F16 b16 m16 (ok_faces G16) F18 b18 m18 G18 y_len y_sum;have GI:=ok_init (P:=l.prog) (w:=w) (base:=base) (c1:=n1) (c2:=n2) FI cW nR F11 b11 m11 G11 F12 vY sW G12 F13 qo nE G13 F14 b14 m14 G14 F19 b19 m19 G19 y_sorted;have GIn:X3 K mg base CX0 4 fI fdI ["self", "rows"] (GV n1 n2):=FnOk.no GI;have GBS:=ok_behindS (P:=l.prog) (w:=w) (base:=base) F4 y_len;have GSS:=ok_stepsS (P:=l.prog) (w:=w) (base:=base) F5 F4 b4 m4 GBS;obtain⟨_,_,F20,b20,m20,G20⟩:=cm h__law_faces λ_ _ F=>ok_lfaces F F5 b5 m5 GSS y_sorted;obtain⟨_,_,F21,b21,m21,G21⟩:=cm h__law_from_least λ_ _ F=>ok_lleast F y_min;obtain⟨_,_,F22,b22,m22,G22⟩:=cm h_faces λ_ _ F=>ok_facesW F cW nR F16 b16 m16 G16;obtain⟨_,_,wu,vX,sV,wq⟩:=cm h__law_is_web λ_ _ F=>ok_isweb F ⟨cW,nR,w1,p5,p6,w4,wk⟩ mC GA GR ⟨F21,b21,m21,G21⟩ y_isinstance y_sorted y_all;obtain⟨_,_,F24,b24,m24,G24⟩:=cm h_mirrored λ_ _ F=>ok_mirror F cW ⟨mk,agI,igI,kc⟩ mC yH GIn GA GR;obtain⟨_,_,F25,b25,m25,G25⟩:=cm h_renamed λ_ _ F=>ok_renamed F cW ⟨xnp⟩ m_NoPlace ⟨mk,agI,igI,kc⟩ mC yH GI GA GR y_set;obtain⟨_,_,F26,b26,m26,G26⟩:=cm h__law_new_names λ_ _ F=>ok_newn F ⟨F0,b0,m0,G0⟩ ⟨F3,b3,m3,G3⟩ y_len y_dict y_zip;obtain⟨_,_,F27,b27,m27,G27⟩:=cm h__law_spoilt λ_ _ F=>ok_spoilt F ⟨F0,b0,m0,G0⟩ y_len;obtain⟨_,_,F28,b28,m28,G28⟩:=cm h__law_is_name λ_ _ F=>ok_lname F y_isinstance y_str y_len;obtain⟨_,_,F29,b29,m29,G29⟩:=cm h__law_due λ_ _ F=>ok_due F ⟨F28,b28,m28,G28⟩ y_len y_set;obtain⟨_,_,F30,b30,m30,G30⟩:=cm h__law_told λ_ _ F=>ok_told F m_HueError m_NoPlace m_NoName m_Twice m_OneWay m_NotFlat y_isinstance y_ValueError wnp wn1 wn2 F25 b25 m25 G25;obtain⟨_,_,F31,b31,m31,G31⟩:=cm h__law_mirrored_right λ_ _ F=>ok_mirR F ⟨F24,b24,m24,G24⟩ ⟨wu,vX,sV,wq⟩ ⟨F22,b22,m22,G22⟩ ⟨F20,b20,m20,G20⟩ y_dict y_len;obtain⟨_,_,F32,b32,m32,G32⟩:=cm h__law_renamed_right λ_ _ F=>ok_renR F ⟨F0,b0,m0,G0⟩ ⟨F26,b26,m26,G26⟩ ⟨F25,b25,m25,FnOk.no G25⟩ ⟨wu,vX,sV,wq⟩ ⟨F22,b22,m22,G22⟩ ⟨F20,b20,m20,G20⟩ ⟨F27,b27,m27,G27⟩ ⟨F30,b30,m30,G30⟩ ⟨F29,b29,m29,G29⟩ y_dict y_sorted y_range;exact ok_law FL ⟨F1,b1,m1,G1⟩ ⟨F9,b9,m9,G9⟩ ⟨mk,agI,igI,kc⟩ mC yH GIn ⟨F31,b31,m31,G31⟩ ⟨F32,b32,m32,G32⟩ ⟨wu,vX,sV,wq⟩ y_dict y_list y_range y_len y_min y_max
def walk{l:PySem.W.OpenLaw}{q:Nk}{loose:Ng}{XP:(Str→Option Value)→Heap→Prop}{d:DefRec}{K:Params→PySem.W.Frag}(hn:l.most=some 63)(pH:d.params.defaults=[])(F:∀ (w:Nn) (mg:Nh) (fa:Nc) (h:No),(K w.params).In h→h.Ns mainGlobals mg→mg d.name=some IT →
   ∃fd:FuncData,(∀(s:Ni) (u:Value),J3 ⟨[u],[]⟩ [("_law_script",u)])∧∀base:Heap,(K w.params).In base→base.Ns mainGlobals mg→X3 Ev mg base CX0 9 fa fd ["_law_script"] (spLaw Ev)) :
  PySem.W.WalkO q loose XP (λw h=>(K w.params).In h) l.row.toRowW d [] (λf vs=>NI vs):=
 L2.walk_of (n:=63) (k:=9) (x:= "_law_script") (CX:=λ_=>CX0) (sp:=λw=>spLaw Ev) hn Hg pH ⟨rfl,Hg,Hg,rfl⟩ (λ_ _ z=>z) F (λ_ _ a ns hl _ hS=>⟨a,ns,rfl,hS,hl,λ_=>rfl⟩) λ_ _ _ _ _ z=>z
end K21
namespace PySem.W.Fast
def tw1668345770958490349:=0
def tw12361319483270780498:=0
def tw3495852229045099983:=0
def tw7693417366692623306:=0
def tw17450810884489969900:=0
def tw6817747119263526791:=0
def tw11729349865575062743:=0
def tw14813804071677194978:=0
def tw18271939789225879072:=0
def tw11816012257603708638:=0
def tw1733965337434109185:=0
def tw4927149563231749541:=0
def tw13481971826671659332:=0
def tw7661642551952422463:=0
def tw8050892177084579292:=0
def tw9136644659478436979:=0
def tw7142350332927481216:=0
def tw4952912574359313319:=0
def tw11830271838195320462:=0
def tw10786011546088140559:=0
def tw1314474911029247355:=0
def tw6963448318770217069:=0
def tw12095686028982892230:=0
def tw8308635109443460221:=0
def tw17054547242851218445:=0
def tw13410628859156779773:=0
def tw9031483078398620253:=0
def tw15602238152905642952:=0
def tw6112190314044170798:=0
def tw17156267747446708154:=0
def tw8329653754757288334:=0
def tw14891747809399904027:=0
def tw1240209596738683396:=0
def tw11856933317827618474:=0
def tw1006237439337277421:=0
def tw9728883424699444057:=0
def tw18351191513744102121:=0
def tw6535430076826370353:=0
def tw6611066271850025549:=0
def tw5482159634348827588:=0
def tw2554219786927967567:=0
def tw15793027028416692567:=0
def tw3851162387774320157:=0
def tw17280367542938061569:=0
def tw673061919814722315:=0
def tw13111993912619707030:=0
def tw814755051470808095:=0
def tw4234650148173139429:=0
def tw9440199016351234818:=0
def tw1708550232878044015:=0
def tw18246567620614016194:=0
def tw617584992174589520:=0
def tw11154042702965923546:=0
def tw15543654429691785770:=0
def tw12543764334404570532:=0
def tw4855917281980057288:=0
def tw18068769432723937216:=0
def tw7401002500520096031:=0
def tw13650796483081767299:=0
def tw18269236457793175736:=0
def tw14855955868179396232:=0
def tw6437945316361453968:=0
def tw5239460308886101425:=0
def tw16661110084809661615:=0
def tw9520312389337698933:=0
def tw10363193714327486834:=0
def tw17279624208351813903:=0
def tw4825560745352332942:=0
def tw1612959262246178530:=0
def tw4601127056242405648:=0
def tw12050950903291951065:=0
def tw2337388194037420539:=0
def tw3970731526787784782:=0
def tw18340484723662670165:=0
def tw4022372841983939189:=0
def tw16680085171267395414:=0
def tw15277959837623083940:=0
def tw2219635724113289794:=0
def tw13480246707535445717:=0
def tw5125674052534804865:=0
def tw14089030118397573096:=0
def tw2401606405203280398:=0
def tw14782196960457117381:=0
def tw13505609526218839110:=0
def tw997855380841780103:=0
def tw14864396554350143562:=0
def tw7018001872791622937:=0
def tw10775542062685693067:=0
def tw453099135023248703:=0
def tw12865585270517818504:=0
def tw10409182051652819565:=0
def tw4998736474716767533:=0
def tw16010520633266528411:=0
def tw8404155353596629553:=0
def tw8631587301593982301:=0
def tw17987383792524860581:=0
def tw15192982556877961501:=0
def tw645167048279860759:=0
def tw11056871622522591499:=0
def tw16014641199498309575:=0
def tw11970036330048919491:=0
def tw6375235095336292019:=0
def tw12403653803370895684:=0
def tw396334245792447814:=0
def tw10196820499215204419:=0
def tw3474740674593950257:=0
def tw1645036276709685581:=0
def tw990538624029134949:=0
def tw9264757037382937906:=0
def tw15921569593323423771:=0
def tw8818943266791868878:=0
def tw12551206584740289821:=0
def tw5242875108248422248:=0
def tw13701489264070404051:=0
def tw7819459853662372181:=0
def tw13314138008623026954:=0
def tw2380888815755905388:=0
def tw15393041694079853040:=0
def tw16097377851884083988:=0
def tw11305720167525823642:=0
end PySem.W.Fast
set_option maxRecDepth 100000 in
set_option maxHeartbeats 0 in
theorem PySem.Challenge.cw_fivehues_k15_mirrored_and_renamed_holds : PySem.Challenge.rw_fivehues_k15_mirrored_and_renamed.Holds := by
 w_on;o_law;z_head;(case hw=>w_witness2)
 k_fill
 intro w s0 s1 mg mb G y fa o pm cd doc dV kV ho hd hcd hD hmg hg args vals as L hpre hlay hrd hwl hlo
 z_open y L KX ZH ZN ZT
 refine K21.walk (l:=PySem.Challenge.rw_fivehues_k15_mirrored_and_renamed) rfl rfl ?F w s0 s1 mg mb G KX fa o pm cd doc dV kV ho hd hcd hD hmg hg args vals as hpre hlay hrd hwl hlo
 case F =>
  clear KX ZH ZN ZT L y G hmg hg hpre hlay hrd hwl hlo ho hd hcd hD
  intro w mg fa h KX G hmg
  refine' K21.all_mk KX G hmg ?aC ?_ ?_ ?_ ?_ ?_ ?_ ?_ ?_ ?_ ?_ ?_ ?_ ?_ ?_ ?_ ?_ ?_ ?_ ?_ ?_ ?_ ?_ ?_ ?_ ?_ ?_ ?_ ?_ ?_ ?_ ?_ ?_ ?_ ?_ ?_ ?_ ?_ ?_ ?_ ?_ ?_ ?_ ?_ ?_ ?_ ?_ ?_ ?_ ?_ ?_ ?_ ?_ ?_ ?_ ?_ ?_ ?_ ?_ ?_ ?_ ?_ ?_ ?_ ?_ ?_ ?_ ?_ ?_ ?_ ?_ ?_ ?_ ?_ ?_ ?_ ?_ ?_ ?_ ?_ ?_ ?_ ?_ ?_ ?_ ?_ ?_ ?_ ?_ ?_ ?_ ?_ ?_ ?_ ?_ ?_ ?_ ?_ ?_ ?_ ?_ ?_ ?_ ?_ ?_ ?_ ?_ ?_ ?_ ?_ ?_ ?_ ?_ ?_ ?_
  (case aC=>k_is)
  all_goals(try k_is)
  all_goals(try first | exact⟨_,_,by k_is,L2.fun_mk (by k_is) (by k_is) (by k_is)⟩ | exact⟨_,_,by k_is,by k_is,L2.fun_mk (by k_is) (by k_is) (by k_is)⟩ | k_is | kit_is | kts_exm | k_exc)
end
