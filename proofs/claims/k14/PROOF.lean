import PyProof.Rows.All
import KE.KDictOf
import KE.KDictSum
import KE.KEqDict
import KE.KSortTup
import KE.KTryMore
import KE.RegKIsAll
import KE.RegKTryMore
import Lean
import OpenK.AllK
import PyProof.EqAt
import PyProof.EqKinds
import PyProof.ExcClass3
import PyProof.NsDelKeeps
import PyProof.Rows.FStr
import PyProof.Rows.StrMadeLen
import PyProof.SliceStr2
import PyProof.StrLaws
import PyProof.TupleCall
import Wide.All
import Wide.FinOn
import PySem.Challenge.RW_fivehues_k14_rows_refused
set_option Elab.async false
set_option linter.all false
set_option maxRecDepth 100000
set_option maxHeartbeats 4000000
abbrev Qa:=@List.length_map
abbrev Qb:=@List.getElem?_eq_getElem
abbrev Qc:=@List.mem_cons_self
abbrev Qd:=@List.mem_singleton
abbrev Qe:=@PySem.Heap.get?_push_of_some
abbrev Qf:=@List.mem_cons_of_mem
abbrev Qg:=@List.mem_append
abbrev Qh:=@Nat.le_refl
abbrev Qi:=@List.mem_cons
abbrev Qj:=@List.take_succ_eq_append_getElem
abbrev Qk:=@List.length_append
abbrev Ql:=@List.mem_map
abbrev Qm:=@List.take_of_length_le
abbrev Qn:=@List.getElem_mem
abbrev Qo:=@List.map_cons
abbrev Qp:=@List.size_toArray
abbrev Qq:=@Option.some.inj
abbrev Qr:=@List.map_append
abbrev Qs:=@List.mem_append_right
abbrev Qt:=@List.getElem?_map
abbrev Qu:=@PySem.Heap.lt_size
abbrev Qv:=@PySem.Heap.get?_push_size
abbrev Qw:=@List.mem_append_left
abbrev Qx:=@List.getD_eq_getElem?_getD
abbrev Qy:=@List.getElem?_eq_some_iff
abbrev Qz:=@PySem.F.plainAttrs_list
abbrev Za:=@List.length_cons
abbrev Zb:=@Bool.false_ne_true
abbrev Zc:=@List.append_assoc
abbrev Zd:=@Ne.symm
abbrev Ze:=@List.length_take
abbrev Zf:=@Nat.le_trans
abbrev Zg:=@List.getElem_of_mem
abbrev Zh:=@List.nodup_cons
abbrev Zi:=@Int.eq_ofNat_of_zero_le
abbrev Zj:=@PySem.boot_len
abbrev Zk:=@Nat.ne_of_lt
abbrev Zl:=@PySem.Paired.length
abbrev Zm:=@List.getElem_map
abbrev Zn:=@List.nodup_append
abbrev Zo:=@Nat.zero_le
abbrev Zp:=@List.append_nil
abbrev Zq:=@List.take_append_drop
abbrev Zr:=@PySem.PassesOwn.never
abbrev Zs:=@PySem.F.type_list_append
abbrev Zt:=@PySem.F.slot_list_append
abbrev Zu:=@List.map_map
abbrev Zv:=@List.pairwise_append
abbrev Zw:=@Nat.le_of_lt
abbrev Zx:=@Nat.lt_of_lt_of_le
abbrev Zy:=@List.nodup_nil
abbrev Zz:=@List.drop_eq_getElem_cons
abbrev Ya:=@Array.toList_append
abbrev Yb:=@Array.length_toList
abbrev Yc:=@List.all_eq_true
abbrev Yd:=@PySem.W.mg_none_of
abbrev Yf:=@Nat.le_add_right
abbrev Yh:=@PyProof.Rows.boot_isinstance
abbrev Yi:=@PySem.Heap.get?_update_other
abbrev Yj:=@List.mem_flatten
abbrev Yl:=@List.flatten_cons
abbrev Ym:=@Bool.not_eq_true'
abbrev Yn:=@Bool.and_eq_true
abbrev Yo:=@Nat.lt_of_le_of_lt
abbrev Yp:=@Decidable.byContradiction
abbrev Yq:=@PyProof.Rows.boot_sorted
abbrev Yr:=@Nat.lt_succ_self
abbrev Yu:=@List.length_drop
abbrev Yv:=@List.cons_append
abbrev Yw:=@Bool.eq_iff_iff
abbrev Yx:=@List.find?_eq_none
abbrev Yy:=@Nat.lt_irrefl
abbrev Yz:=@PyProof.Rows.KeyOrd.kle_of_klt
abbrev Wa:=@List.mem_range
abbrev Wc:=@List.filter_append
abbrev Wd:=@Nat.ne_of_gt
abbrev We:=@List.length_nil
abbrev Wf:=@PyProof.Rows.KeyOrd.kle_trans
abbrev Wg:=@List.filter_cons_of_neg
abbrev Wh:=@List.mem_of_mem_take
abbrev Wi:=@List.mem_of_getElem?
abbrev Wj:=@List.find?_cons_of_pos
abbrev Wk:=@List.length_singleton
abbrev Wl:=@List.length_filter_le
abbrev Wm:=@List.length_range
abbrev Wn:=@List.filter_cons_of_pos
abbrev Wo:=@List.pairwise_cons
abbrev Wp:=@List.mem_of_mem_drop
abbrev Wq:=@Bool.false_eq_true
abbrev Wr:=@PySem.W.kia_one
abbrev Ws:=@List.all_cons
abbrev Wt:=@Nat.lt_trans
abbrev Wu:=@List.getElem_inj
abbrev Wv:=@PySem.Heap.size_push
abbrev Ww:=@List.flatten_append
abbrev Wx:=@Nat.mod_lt
abbrev Wy:=@PySem.Heap.get?_update_self
abbrev Wz:=@PySem.Obj.data_mapFields
abbrev Ua:=@List.lt_irrefl
abbrev Ub:=@List.length_pos_of_mem
abbrev Uc:=@Array.perm_iff_toList_perm
abbrev Ud:=@PySem.Around.under_plainId
abbrev Ue:=@PySem.mem_of_lookup
abbrev Uf:=@List.length_pos_iff
abbrev Ug:=@List.filter_nil
abbrev Uh:=@Array.getElem?_eq_getElem
abbrev Ui:=@List.getElem?_eq_none
abbrev Uj:=@PySem.F.slot_tuple_iterator_next
abbrev Uk:=@PySem.Heap.SameBut.update
abbrev Ul:=@PySem.F.called_set
abbrev Um:=@Nat.le_succ
abbrev Uo:=@PySem.SeqAt.EqAt.str_str
abbrev Uq:=@List.pairwise_map
abbrev Ur:=@Int.toNat_natCast
abbrev Us:=@List.length_set
abbrev Ut:=@PyProof.Rows.KeyOrd.kle_refl
abbrev Uu:=@List.find?_cons_of_neg
abbrev Uv:=@PySem.W.mg_of
abbrev Uw:=@List.lookup_cons
abbrev Ux:=@PySem.F.slot_dict_keyiterator_next
abbrev Uy:=@List.getElem?_append_right
abbrev Uz:=@List.append_of_mem
abbrev Ja:=@List.perm_append_comm
abbrev Jb:=@List.Perm.append_left
abbrev Jc:=@Array.getElem?_toList
abbrev Jd:=@List.pairwise_iff_getElem
abbrev Je:=@Bool.or_eq_true
abbrev Jf:=@Nat.lt_succ_of_lt
abbrev Jg:=@Nat.lt_of_succ_lt
abbrev Ji:=@Nat.le_succ_of_le
abbrev Jj:=@List.getElem_take
abbrev Jk:=@Bool.eq_false_iff
abbrev Jl:=@List.map_take
abbrev Jm:=@List.idxOf_lt_length_iff
abbrev Jo:=@List.map_congr_left
abbrev Jp:=@PySem.F.type_list_index
abbrev Jq:=@PySem.F.slot_list_index
abbrev Jr:=@List.not_mem_nil
abbrev Js:=@List.getElem_idxOf
abbrev Jt:=@List.drop_of_length_le
abbrev Ju:=@List.Nodup.sublist
abbrev Jv:=@Bool.not_eq_false'
abbrev Jw:=@List.take_sublist
abbrev Jx:=@PySem.F.excBase_ValueError
abbrev Jy:=@PySem.F.excAttr_ValueError
abbrev Jz:=@List.perm_ext_iff_of_nodup
abbrev Ka:=@Array.toList_reverse
abbrev Kb:=@PySem.Obj.isFreed_of_fields
abbrev Kc:=@Nat.zero_add
abbrev Kd:=@Nat.lt_or_ge
abbrev Ke:=@PySem.PassesOwn.leaving
abbrev Kf:=@List.map_drop
abbrev Kg:=@List.nil_append
abbrev Kh:=@List.find?_cons
abbrev Ki:=@List.getElem_range
abbrev Kj:=@Int.emod_lt_of_pos
abbrev Kk:=@Sum.inr.inj
abbrev Kl:=@List.length_eq_zero_iff
abbrev Km:=@PyProof.Rows.boot_list
abbrev Kn:=@Nat.lt_of_succ_lt_succ
abbrev Ko:=@List.filter_eq_nil_iff
abbrev Kp:=@List.Perm.flatten
abbrev Kq:=@Array.toList_push
abbrev Kr:=@Nat.le_of_not_lt
abbrev Ks:=@List.flatten_nil
abbrev Kt:=@List.any_cons
abbrev Ku:=@List.take_append_of_le_length
abbrev Kv:=@List.nodup_iff_count
abbrev Kw:=@List.getElem_toArray
abbrev Kx:=@Array.getElem_toList
abbrev Ky:=@PyProof.Rows.KeyOrd.klt_of_kle_of_klt
abbrev Kz:=@Nat.le_antisymm
abbrev Xa:=@List.mem_filter
abbrev Xb:=@List.foldl_cons
abbrev Xc:=@List.filter_map
abbrev Xd:=@Int.emod_nonneg
abbrev Xe:=@Nat.add_le_add_left
abbrev Xf:=@List.getElem_set_ne
abbrev Xg:=@List.filter_sublist
abbrev Xh:=@PyProof.Rows.callWith_type1
abbrev Xi:=@List.nodup_iff_pairwise_ne
abbrev Xj:=@List.mem_filterMap
abbrev Xk:=@Array.getElem?_eq_some_iff
abbrev Xl:=@List.getElem?_append_left
abbrev Xm:=@PySem.F.args_tuple_iterator_next_1
abbrev Xn:=@List.reverse_perm
abbrev Xo:=@List.reverse_cons
abbrev Xp:=@List.find?_append
abbrev Xq:=@List.drop_sublist
abbrev Xr:=@PySem.Heap.SameBut.extBut
abbrev Xt:=@PySem.F.type_list_insert
abbrev Xu:=@PySem.F.slot_list_insert
abbrev Xv:=@Nat.add_assoc
abbrev Xw:=@PySem.F.entry_tuple_iterator_next
abbrev Xx:=@Option.bind_some
abbrev Xy:=@Nat.succ_ne_self
abbrev Xz:=@List.nodup_range
abbrev Ba:=@List.mem_reverse
abbrev Bb:=@List.mem_flatMap
abbrev Bc:=@List.any_eq_true
abbrev Na:=PySem.W.Frag
abbrev Nb:=PySem.Value→PySem.Shared→Prop
abbrev Nc:=PySem.Addr
abbrev Nd:=List (PySem.Addr×PySem.Obj)
abbrev Ng:=PySem.Str→Option PySem.Value
abbrev Nh:=List PySem.Str
abbrev Ni:=PySem.Shared
abbrev Nj:=List PySem.Value
abbrev Nk:=PySem.Program
abbrev Nl:=List PySem.Addr
abbrev Nn:=PySem.World
abbrev No:=PySem.Heap
abbrev Np:=PySem.Around
abbrev Nq:=List PySem.Expr
abbrev Nr:=List (PySem.Str×PySem.Str)
abbrev Nt:=PySem.Str→List PySem.Str
abbrev Nu:=List (Option Nat)
abbrev Nv:=PySem.Result→PySem.Shared→Prop
abbrev Nw:=PySem.FuncData
abbrev Nx:=PySem.Str→PySem.Str
def zS(c:String):String:=
if c="Z" then"A Inv X a7 σ
B FnOk P w K mg base CX0
C FnOk P w K mg base
D Inv X a7
E cxOf (CXr P w) P w K mg base N qual scope f cd A outer s H
F wpAny (model X.prog X.w) X.A
G wpAny (model prog w) A
I wpAny (model prog w)
J PySem.W.nsIn K mainGlobals
K Inv X
L wpS (model prog w) A E s
M zaa (pv 0)
O row (rsOf es)
P gk O key
Q PySem.W.findIn K
R zc0 X sc M C a7 ex s
S zbm (row (rsOf es))
U upd H
V PySem.W.kitOne K
W wpAny _
X zam GT aV rfl mT FT.kp
Y zaa (pv 2)
Z zaa (pv 1)
0 Bs kd a₀ p lo pre
1 Fun K
2 Rn kd O key a₀
3 Binds K
4 SortSt.mk' (kindOf aP) (arrOf aP) (pendingOf aP)
5 zbq X.prog X.w
6 zc5 X sc oz M C a7 ex s
7 PySem.W.hideAll s1.heap
8 zcd Qz Zt Zs zbc
9 itr (rsN rr) st
' le O key" else
if c="Q" then"A PE X
B EP X a7 σ
C Cmp prog w A E s kd O key
D zam GT hr rfl mT FT.kp
E zbb zau
F upd H5
G PySem.strKind prog
H zbn Zr rfl
I upd H1
J upd H4
K zaa za4
L FpOk X a7 H
M Qf _
N zbe I q
O zbt (zan zfi (pv 7) zah (za5 _))
P HT.sIx xs.length
Q zaa zah
R Jn O key
S Qe _
T cxOf CX P w K mg base N qual scope f
U zaq zbj
V Paired R
W zai zak
X FnOk X.prog X.w X.K X.mg X.base CX k f fd ps
Y ExcI K C HE
Z Vals xs
1 T.keep _ _ _
2 zax X.prog
3 zaa (pv 3)
4 zaa (pv 4)
5 Pot H' p b'
6 za8 O key left ky arr
7 Mg O key
8 Jh O key
9 PySem.W.keepIn K" else
if c="W" then"A wpAny_typeNameOfWhole_keyiter st.typeIs
B OpR X (compareOp .NotEq)
C SqL X.K H p
D upd H2
E PySem.W.instObj C
F HOk P w H
G SqL X.K H
H PySem.W.fnOf x qual (zds st) (zcy st)
I clOf sc
J PySem.W.mroIn K
K upd H3
L zaa (pv 5)
M RelV x
N Jn (opp O) key all o.toList
O zbq P w H h
P za8 O key
Q zbl prog w A E s
R wpAny_passesOwn hp
S OpR X
T wpAny_typeNameOf_keyiter st.typeIs
U HOk P w
V XdO s2.heap.objs.size
W SqL K H a
X T.obj _ _
Y Keep xs H
Z zay rfl
0 zal rfl
1 Cert ns r cs
3 SqL K H
8 D.nx σ
9 zaq zce" else
if c="Y" then"A cutV (zs.map V.str)
B nmF way many f b tl
C I.base.there b o
D wpAny M A
E RelV y
F I.hok a _
G Aj2 (SG st a9)
H zbk zb8 (pv 5)
I Value.str x
J rLC g tc te Q J (inner ix σ)
K LF H0 H r fo se fa sa zss iso
L RelO (fs.lookup f)
M zbq P w
N zbl prog w
O zbb ze3 (pv 4) zah
Q PySem.Within mA
R inner ix
S I.pin p
T Qs _
U HOk X.prog X.w
V zcj X
W putK kvs
X Blk X sc M
Y Up O key
Z itr rs
0 Heap.FlyingW B
1 xrec C none
2 Vals ys
3 zaq zcs
4 PyProof.Rows.mirror _ _ _
5 Qw _
6 upd (ZU p1 (.lst (ns.map V.int))) p2
7 rLC g tc te Q
8 upd H' D
9 zfx hu (pv 0)
' I.hok b" else
if c="U" then"A Loc X.env.scope
B SqT K H
C zbk zb8
D KV kvs
E Aj2 (ZD σ' H' s')
F SeqAt.EqAt A s u v
G xrec C
H NAt H l as
I Zx (Qu e)
J I.freeC x c
K NAt H' l as
L zej (I.unheld ok) hN hi
M pcOf ns lab
N Qv _
O T.done Y eP eW eK eC i _ s5 τ H5
P T.item Y eP eW eK eC i _ s5 τ H5
Q RelV v
R I.base.keep b o e n hb
S I.base.slot b o e n hb
T putF f v
U PTs (ZR H) ifs
V StateT SortSt Sem
W wpAny_field ho hd
X upd H8
Y zam GF hr rfl mF FF.kp
Z zam GB hr rfl mB FB.kp
0 zgj (pv 1) (pv 3)
1 Yd X G
2 PySem.W.fnOf name qual params body scope dV kV doc pm an cdv
3 wpAny_call_entry Ux st.typeIs F.entry_dict_keyiterator_next
4 I.cell x c
5 Room k
7 Turn X.prog X.w X.K tg J fp it
8 zcd Qz Jq Jp zey
9 upd H6
' zb1 zs" else
if c="J" then"A PySem.W.exmOne K
B Nf K
C I.base.free b
D cxOf CX0 P w K mg base N qual (zaj st) f cdv A outer s H
E wpS M A E s
F wpAny_setField ho hd
G Code.quiet_builtin _
H za6 0
I zas 3
J Lone s.heap
K row _ _ _ _
L Env0 P w K mg base A outer s
M PySem.W.excIn K
N ExAt x (.ref D)
O Lk f s
P upd H7
Q Inv Y
R ocl oz g2.objs.size
S Vals (zs.map V.str)
T zbf (row (rsOf es))
U IsTup s.heap
V PI X tg
W BindsTo s fd
X PG (ZR H) tg
Y row (rsN rr)
Z run (rsN rr)
0 PE (ZR H)
4 zei h v x
5 zax P
6 PySem.W.methodObj (.ref f)
7 I1.fpOk (Qh _)
8 ld_blt I hg hm
9 hidT s₁.heap
' BlkG X sc oz M" else
if c="B" then"d Dn O key
e pairO strO
f List.map V.str
g row rs
h zcz (zs.map V.str)
i st (row (rsOf es))
j zaa (pv 6)
k zcq rfl bA
l upd (WD D (.lst (fa.map V.ref))) d
m wpAny_pyNext_list_item st
n I'.letgo hn hC I2.lt I2.cl_lt I2.pin_lt I2.sz ad
o SP X a7
p zef I hg hm
q Value.str y
r XcO e C
t Zf (Wl _ _)
u TurnZ rr zs
v wpAny_field gb kO
w PySem.Within.cons name v
x ps_xst (pv 0)
y KW K he cc cp
z SqT X.K H
A Itl K
B PySem.W.codeIn K
C valV kvs
D zdy rx fx r fs w
E zac e
F lexB strO
G upd _ _ _
H zas 2
I zan op_gt
J zbm r fc
K PG X (.Tuple es k pos)
L wpAny (model P w) A (pyIter (.ref it)) Q E
M F.args_list_append_2 _
N Of a₀
O Jn _ _ _ _ _
P zbn Ke rfl
Q zam GS hr rfl mS FS.kp
R stp (rsN rr)
S Binds X.K fd ps
T zix B I3 fpx fplt rfl hns₁ hz₁ k1 rfl
U CXr P
V setD X.prog X.w
W InstAt s.heap x
X SpAt n H p l as
Y Heap.SameBut a s.heap
Z le O
4 Value.int i
7 PassesOwn (model X.prog X.w) X.A X.env
8 J.yld i H x
9 PySem.W.plainGet K C" else
if c="X" then"A dk_rd I.hok
B dt_rd I.hok
C tLC ix wi g tc
D mirror (arrOf a9) lo
E wpAny_loadPart_at hC
F Conn r
G pidx zs.length
H zac ec
I PySem.Builtin.Str.strSliceIndices none
J Uv X G
L I.hok p _
M zev rfl
N zan op_lt
O XAt K C
Q PySem.W.plainOver K
R PySem.W.hasDictIn K
S wpAny_lookBehind nX
T Yf _
U PySem.W.specialIn K
V wpAny_call_entry Uj
W List.Pairwise.map _
X zbf (row (rsOf ts))
Y Turn P w K tg
Z HasR R s.heap
0 za6 1
1 zas 1
2 zas 4
3 zai (zb2 rfl)
4 row (rsOf ts)
5 nmF wy n f bb
6 Heap.ExtBut s.heap.objs.size s.heap
7 pw_and (zan zfi (pv 7) zah (za5 _))
8 Un fs ex H
9 I.stkSub b" else
if c="K" then"A wpAny_getItem_list_slice ht.isList
B IntsAre vs
C FnOk l.prog w (K w.params) mg base
D PySem.list_append D a8.toArray k y
G atI zdq.cps.toList
H nxt zs
I cntF ls.cps.toList
J Paired (SameM H9 3) (bj.map V.ref)
K SortSt.mk' (kindOf st) (arrOf st)
L Aj3 (BAt H' b bs (row (rsOf es)))
M zbb ix_str (pv 2) (Y3 (pv 9) zah)
N zac q
O PS X
P wpAny_loadPart hx
Q PySem.W.makesIn K
R zar N ps
S start N
U KT H kvs
Y DGet H a
Z key_of I.hok
0 turn i n ys τ H5
1 I7.pinned (fN n7)
2 Nat.le_add_left _
3 IsSt rs
4 zai zby
5 Wx _
6 C.sy _ _
7 zaq zgo
8 RowO n H p l
9 Un (frs X.stack) ch H H' s.heap
' ps_raiseI cN GN hr bN rfl nN kN" else
if c="V" then"a J.fly os bare un hok hB hT fl.1
b lab_iff C C' (hn.mem_iff.mp hs)
c Rd H a
d HT.sIx a8.length
e T.self _ 0 _ _ _
f PyProof.Rows.bubble (arrOf aQ)
g Pot H p b
h HasR R h'
i Looks M h
j upd H9
k Room 1
l zcd Qz Xu Xt zgt
m I.ok.bs b o
n zc5 X sc oz M g2.objs.size a7
o Looks.at L0
p X.s₀.heap.FunFrames X.base
q Vis X.env.scope
r I.ok.cab x c tI
s PT X
t PA X
u wpAny_mono h₁
v wpAny_mono h₂
w Paired (zbz H')
x zat (X0 zes.nd)
y PySem.F.args_dict_get_3 _ _
z O.klt _
A KeyOrd.klt_of_klt_of_kle h1
B Looks (model prog w) s.heap
C putK (marks ks) (Sum.inr x)
D zaq zfh
E Aj6 (UK rr) (Good (rsN rr))
F TP X a7 σ
G PSs X
H J.stop i
I wpAny_pyIter_list p.isList
J zca fp
L Wr PySem.W.kitx_list I.kIn
M Wr PySem.W.kitx_dict I.kIn
N Inv (QT cdv A outer s H E)
O Calls.callWith_builtin rfl
P PySem.F.args_tuple_add_2 _
Q Yi _ _
R ocl oz
S och oz
T PTs (Z6 H) ifs
U kvP s.heap
W I'.thaw e1
X rDC g tc tk tv Q J (YR σ)
Y At s.heap d es
Z run rs s
0 wpAny_field g1
1 ExI K
2 Odd H
3 Ud F.plain_set_update_loop
4 excH h C
5 zcl es
6 zaq op_sub
7 zac T.dc
8 zfz r
9 Paired (ze9 H)
' Paired (zbz H)" else
if c="M" then"a RwE rs
b zac hp.1
c Tm.strO.blt b.1.cps.toList
d Tm.strO.blt a.1.cps.toList
e Tm.strO.blt b.2.cps.toList
f zbw R.nd
h X.held a
i Heap.ExtBut it
j zbm r'
l key hE
m List.set_append_right _ _
n List.pairwise_singleton _
o rLC g tAll te Q (BA a) τ
p LF H H' r fo se fa sa zss
q I.ok.noex b o
r Gl X
s F.len _ _ _ _
t ixN xs.length
u wpAny_mono (turn n s hI)
v PE (Z6 H) elt
w StateT σ Sem
x List.Perm.append_right _
y zat (JH ndPA)
z zat (X0 ndPA)
A Value.str p.1
B zil hu (pv 2) (pv 5) zfg
C IsSt (rsN rr)
D zdg p
E wpAny_dictEntries nV fA
F HasR (LoneD dd) s'.heap
G X.tried E
H T.keep k1
I zbg e
J zan op_ne
K zaa (zbd (ZZ (ZY zad)))
L List.mem_cons_of_mem _
M wpAny_mono h
N Inv (X.wish E) a7 σ H
O Vals vs
P binT ha hb I
Q cutV xs
R PySem.call f
S PG (Z6 H) tg
T FpOk Y
U loop _
V zga I' hN cV (.inl hy)
W O.kle (kv x)
X Value.str x'
Y k0 τ2
Z zan zfi
0 C.cy c
3 O.blt x
4 zdw Zr
5 Conn (row (rsOf es)) x
6 zam GP hr rfl mP FP.kp
7 zam GN eV rfl mN FN.kp
8 zam GO hr rfl mO FO.kp
9 zam GP aV rfl mP FP.kp
' zan (zgn bX)" else
if c="N" then"y Heap.SameBut j s.heap
z wpAny_dictEpoch nV fA
A PySem.W.hideAll_get _
B RelV p.2
C Zf I.ok.bsz
D PGs X es
E tOp r ta
F putF f y
G PySem.W.kitOne X.K t
H CE outer P w H s Q u
I Vals dvs
J zh1 CX X
K MtM X
L IY.ok.exf b
M I3.stkSub b
N wpS _ _ _ _
O O.total _ _
P wpAny_seqItems hp hk
Q Heap.ExtBut j s.heap
R wpAny_pyIter_enum he
S wpAny_fieldsOf ho hd
T wpAny_setField t3 t4
U PySem.W.of_hideAll _
V Exc K
W Looks.at L2
X RwAt H l as
Y RoAt H l as
Z pe_base b zhz rfl hE
0 za6 4
2 zbf r
3 zas 6
4 C.co x hx y
5 wpAny_seqItems jQ hV
6 wpAny_setField gb kO
7 PySem.W.lookIn name
8 PySem.W.takerIn K C
9 Vals (ns.map V.int)" else
if c="D" then"a PySem.IsL.update lc
b Wt (I2.cl_lt _ _ z)
c beyondT left ky arr
d O.kle (ZP (Y4 _) _)
e Vals (as.map V.ref)
f Inv (ZE E) a7 σ H1
g zae (Bx (pv 1) rfl)
h Paired (ze9 H2) fas
i zbm (row (rsOf ts))
j zai (call_min2 rfl)
k zai (call_max2 rfl)
l PG X (.Name x pos)
m J.go i
o Itr lo
p zbo hb
q call (.builtin id)
r kV doc
s keep h' tk
t zei s.heap
u rowV H
v ps_raise cN rfl nN
w nwk hD
x Cyc (st r)
y List.cons_ne_nil _
z zai (call_sum rfl)
B zh0 ts
C atI (as.map V.ref)
D atI (zs.map V.str)
E zaa (za1 (QK zad))
F Itt K
G zdr f y
H PySem.W.takesIn K
I IxR X
J O.kle _
K SG st
L zhe C
M zcn C R.kind R.of
O Itd d o
P RrInP neg K x y H
Q zbi H
R ins p.2
S RwAt H'
T za6 3
U XdO d
V row (zb9 rs x rr)
W za6 5
X O.blt y
Y SqB b K
Z ItB b K
0 ze2 _ _
1 W2.ro e
4 S4.ok r
6 SameM H
7 KW K cE
8 Zx (Qu q)
9 I.base.tups b xs" else
if c="F" then"a I.base.tbls b ps
b zir hN e1
c PPs X pos
d wpAny_mono h₁'
e step x H7
f mirror xs
g O.blt b.1
h O.trans _ _ _ h1
i RowAt knd s.heap
j PJ X
k idx_at nd
l Ud plain_eq_loop
m zbw T3.nd
n za0 R3.ts
o nxt e.2.1
p upd HC fo
q Inv (Mh ob) a7 σ H
u .ref $a
y some (Fu $a)
E model X.prog X.w
H SqL.of $a
J .lst $a
M Keep.new $a
Y .ref s.heap.objs.size
Z envOfC qual scope s.heap.objs.size f $a" else
if c="G" then"a model prog w
g Qh _
h decide_eq_true $a
j ZA H s
m .inl $a
u arrOf $a
x decide_eq_false $a
G wpAny_pure $a
X eval $a X.env
Z a.toList.drop $a" else
if c="H" then"a pendingOf $a
e some $a
f zaa $a zad
l QR $a o.toList (GZ $b) (b.toList.drop $c)
o Keep.wr Fr
q QE (pv $a) (pv $b) FV
r Gm rfl
s FJ (as.map V.ref)
t Fu a
u List Nat
v row (rsOf es)
w Fu C
x pv 0
y .str $a
z zs.map V.str
F pv 3
G ha a7 s σ H _ I h
H ZZ zad
I I.tok _
J .inl (FH $a)
K if_pos $a
L .fresh 0 0 led
M starEach es X.env
N FJ (ws.map V.str)
P za5 _
Q Fu D
R beq_iff_eq.mpr z
S .dK kvs
U ForInStep.yield $a
V SqT.of $a
W e.2.1.map V.str
X .dK (eWV es)
Y .cons $a .nil
Z List Keyed" else
if c="R" then"a zs.getD $a Str.empty
b if_neg $a
c Option Value
e ZM zad
g ZY zad
h k _ Keep.refl
i beq_iff_eq.mp $a
j a.toList.take $a
k BZ key
l .tup xs
m QD bT .nil zba (ZM (QQ zad))
p GG (wpAny_bind $a)
q .int $a
r Fu it
t ha pos a7 s σ H _ I h
u .inr $a
v he a7 s σ H _ I h
w A.deeper (envOfC qual (zaj st) s.heap.objs.size f cdv)
x Gp Qa
y List.range $a
z QN Fr
C ZU $a (FJ $b)
D za1 zad
H wpAny_bind $a
J QW FX aa Zj $a
K pv 1
M pv 2
N assign (.Name y py) X.env
O b.toList.drop $a
P I.hok.fresh $a
Q k3.trans $a
S zag (zft (zbd $a) (U0 set_list))
T I.ok.hd hc
U Z1 qG qG zd5 ft fdt
V .builtin id
W Fu x
X es.map $a
Y UN rfl
Z .bl false" else
if c="S" then"a He (iV $a)
b .Name x $a
c assignEach $a X.env
d hi a7 s σ H _ I h
e List $a
f Gu a9
g k7.trans $a
h Fu l
i .ref e.2.2
j V.ref e.2.2
k FJ xs
l .bool true
m .dK (marks $a)
n ZX bT .nil zba (ZM (QQ zad))
o zbt (PW.pt (pw_or $a $b)) (zag (za9 $c)) zaw
q Ft 2
r model P w
s Qd.mpr rfl
u zs.idxOf z
v Zo _
w k _ _ Hr e
x .dT kvs
z SqL.of bZ.ro
A I1.hok.fresh Gg
C WH (zaj st) .none kV doc pm an cdv ct
D upd (QJ q1 $a) q2 (FJ $b)
E ho a7 s σ H _ I h
H hl a7 s σ H _ I h
I Fu t
J WI X.env
K Ft 1
L k1.trans $a
M FJ (ini.map V.str)
N strValues $a
O He (.str $a)
Q .int $a $b
R .Slice none none (He (.UnaryOp .USub (.Constant (.int 1) k p4) p3)) p2
S ZX bT .nil zba (ZM $a)
T QD bT .nil zba (ZM (Hf (QU $a zah)))
U wpAny_attempt $a
V WL zad
W zbd (QK (zaa (RG $a) zad))
X W9 (UC $a $b zbu) (UC $a zbu $b)
Y pv 4
Z hb a7 s1 σ H1 _ I1 q1
0 Q2 X.w
' some s2.heap.objs.size" else
if c="T" then"a Se Str
b Fv nlp
c V.int $a
d FJ (r.map iV)
e Fu p
f Z4 $a (failedOf aP)
g .str e.1
h .Subscript $a $b pos
i tupleKind_room_in1 hu
j .compLoop F' 0 Rr HQ (compEnvC sc (JR SJ) g2.objs.size X.env)
k V.bl true
l QB Q
n .tup (k.map kV)
o Hy z
p eqU x
q Or.inr rfl
r QM hb
s wpAny_holding $a
t Q3 zad
u QK zad
v Ft 0
w List.range rr.length
x zb1 zs
y WE s.heap.objs.size
z backTo cpos $a
B sgm _
C Value.ref $a
D Hy x
F YT (YT (Dp e))
H a.extract i $a
J Fu e
K ZU fo Ge
L Gu st
M nr c o q hn
N FM hq
Q Fu n4
R ps.zip us
U hh.2 _ _ $a $b
V k2.trans $a
W Q4 zad
X rsN rr
Y SqL.of R3.ls
Z .ref r.2.2
7 .frz o $a
8 QA a ta
9 Z2 gs rest st" else
if c="L" then"a J5 w
b UI I.ok.above
c pv 5
d .ref cc.c3
e pcOf Gv lab x
f Hf (W9 (W9 (YH zbu (zbx (pv 8))) (za1 (Bj zad))) (YH (zbx $a) zbu))
g RR aj cenv.locals
h FJ (vs.map V.str)
i FZ cd
j Gu aH
l .bl true
m Sg (GH h5)
n SqL.of R6.ls
o Fu n3
p xs.take $a
q Q (.bl $a) H
r b.toList.take $a
u wpAny_load hS (GG (h g tk aj hk (Zw (Qu hS)) ha))
v es.take $a
w compareOp .NotIn
x ns.map V.int
y BU w
z zaz Hx
A zat $a zb3
B zcl es
C QE Hx zah FV
D upd (QF $a $b) $c (FJ $d)
E FJ (G.map V.str)
G .Attribute o f aW
H uy.letgo bz hC I2.lt I2.cl_lt I2.pin_lt I2.sz ad cQ
J letOwnedTupleGo tg Rr u
K .Name y py
L Ql.mpr $a
M codeAny_call_builtin Jy.ga.plain PySem.F.entry_bexc_ga $a
N FH zab
O Fy d
P Qy.mp $a
Q pyNext Rr
R eval iter X.env
S FA eEx hb
U Gu bd
V K4 FX aa Zj $a
W FM h2
X .Attribute o name apos
Y QS e
Z zaa (YO FV) (zaa (UZ bB .nil zba (zaa $a (Hf (YO FV)))) zad)
4 Y5 hp
7 Z1 x qual st f fd
8 rawInt $a
9 zfs (zeu (zai zeh FX bi Yh $a))" else
if c="C" then"a ae.mem_iff.mpr $a
b eval $a env
c h a7 s σ H $a I $b
d g i j
e Fu f
f k2 b o e
g BE HD
h FJ Hz
i .lst r.2.1
j k3 _ _ $a Fr
k FA fg hj
l FM hl
m zaz (X3 FX ay Yq Re)
n Fu ft
o Pv 0 σ H
p Fy l
q binaryOp .Add
r σ.set i none
s z.cps.toList.take $a
u f (SQ i t) (SQ j u)
v .int ys.length
w SqL.of R.ls
y QA e te
z Qd.mp z
A WZ (iteT Rh)
B zai $a FX ay Yq $b
C beq_eq_false_iff_ne.mpr $a
F .tup $a
G .own a
H .own x
I neL b o e
J neC b o e hx
K tn i s'.heap
L ho a7 s2 σ H2 x y v u _ I2 r1 r2 q2
M hv a7 s σ H _ I h
N zaj st
O RR HQ g2.objs.size
P Hl Fz i k
Q Fu j
S r.ro e he
T FQ ie zab
U pv 6
V .dT (Gq $a)
W .ref cc.c2
Y .ref cc.c4
Z .ref cc.c1
0 .bl b
1 gName i
2 RP Gg
3 .type T
4 FA z Qc
5 MD hy
7 Qn hi
8 Fu t0
9 L.getD $a sp" else
if c="E" then"a .str sp.1
b .str sp.2
c Zk (Qu e)
d setAttr RW name v
e .ok (.ret $a)
f Sum.inr x
g FJ (fa.map V.ref)
h BI $a zah HP
i FJ (ps.map V.ref)
j ws.take $a
k .str r.1
l .str r.2
m av.trans hb
n QA b tb
o za2 (Z8 $a $b)
p zbt $a $b zaw
r wpAny_bind $a
s QU $a zah
t Hf (RJ (ZZ zad))
u du _ _ $a
v hs.2 b (Zk $a)
w tupleKind $a
x za9 (zbd Tu)
y ZY (Hf $a)
z .cons $a $b
A F.args_dict_keyiterator_next_1 _
B as.map V.ref
C .ref h.objs.size
D .str name tk
E He (.ref en.2.2)
F X5 tl.cps.toList
G kk.trans (FM ft)
H WS (compareOp op) r
I s.heap.IsTuple t xs
J Q8 $a o a b $b $c
K ZU a o
L σ.set i (He v)
M Sb pos
N Rq i
O KS vs
Q h1.trans z
R Fu b
S Fu fa
T KN H5D
U MU rfl
V Option Nat
W wpS_lift $a
Y wpS_bind $a
Z List.Perm.refl _
1 pairsOf vs
2 .ret .none
3 .frz o' u'
4 Sb np
5 He Gd
6 SqL.of R2.ls
7 FM h3
8 ZS fc zs
9 FH (k5 _ _ qm Fr)" else
if c="I" then"a QQ zad
b iV st.2
c He ah
d K5 Fw
e .lst e.2.1
g Fu n1
h Fu n2
i JV iter wi
j upd $a $b $c
k YR σ
l k _ _ e
m pP _ _ h (Hb (Mb (fr a rfl)))
o s.heap.IsKeyIter j d i es.size ep
p Fv e
q Yy _
r GX e
s typeIs_str s z t
u QM hy
v W i n ys τ H'
w zcc (B.clos I)
x Builtin.SmallTypes.nextOf CQ
y QG w
z QM z
A pt_cmp (zew hu $a $b)
B zat (JH ndUB) (LA (X0 ndUB))
C Hl all ia ib
D He (V.ref p)
E letOwnedTupleGo target it v
F wpAny_standAt $a
G nt c xs q
H k5.sub Fr
I $a _ _ $b Fr
J Yj.mpr $a
K zaf hb
L hd σ H p
M V.ref e.2
N Hy (U' i)
O CF ys
P Fv hw
Q Zd hb
R Ru hy
S Gu aQ
T QM hv
U iV st.1
V Fu cE
W tn 0 s.heap
X .bool false
Z T7 u
0 truthy v" else
if c="O" then"a Gm h
b A.under $a
c .ins C dx fs
d Heap.Ns1.of_empty $a
e A.deeper $a
g Jw _ _
h Gm q
i kV_is ry
j zcy st
l failedOf $a
m l.map $a
n no c _ q
o ZE E
p cn (zs.take $a)
q za1 HH
s of_decide_eq_true $a
t unt H6 e
u row rs
v k1 c u ec Fr
w Hn p
x JI zc1.nd (za1 (MK zad))
y za7 iL
z Fu c
A aI.map V.ref
B zaj sLaw
C II (kn ht) zab
D Ep (PW.pt (X7 (zgi (XN (pv 8) (RJ SV) HP)))) (RS (Q4 $a))
E zaa $a zad
F X2 zc1.nd (zbd $a)
G pv 7
H ZU s.heap.objs.size $a
I wpS_modify $a
J Ij (SD $a $b) q3 (FJ $c)
L RQ k4
M SQ lo t
N SQ hi u
O z.sameBut hs $a
P QA l tl
Q Dk FX ka PyProof.Rows.boot_max (QQ (Hf $a))
R Y3 (QU HF (K7 SY (pv 8))) zah
S OF (Ey (UZ bB .nil zba (zaa $a (ZZ zad))))
T pv 8
U Hf (zcb zc7 FX bq Km SV)
V JC o e n hx
W hi a7 s1 σ H1 _ I1 q1
X h pos a7 s σ H _ I hq
Y ho a7 s1 σ H1 _ I1 q1
Z Option Expr
0 u1.trans u2
1 zag (za9 $a)
2 My (Mz zb3)
3 .ref s2.heap.objs.size
4 DU (fldW p)
5 .bl _
6 Slot T name id
7 SQ 0 0
8 .tbl ps
9 Qi.mp $a" else
if c="P" then"a ha a7 s1 σ H1 _ I1 q
b dk_empty s.heap I.big
c k _ _ $a Fr
d starEach rest (FZ cd)
e Qn ao
f FJ (e'.2.1.map V.str)
g List β
h nd_N rr
i WD l Hg
j Hf (QE $a $b FV)
k WK e Ge
l mkB zes
m mA f
n KN hn
o UI (Vr hc)
p f v u
q BA a
r YT z
s He GM
t List.of_mem_zip $a
u YW p.1 p.2
w .Slice lo hi none p2
x .ref s3.heap.objs.size
y WC ys
z FJ ys
B K w.params
D Gm z
F ZP Sf $a
H Ri d
K Zk lt
L T7 HS
M wpAny_rule (RH $a)
N QM hx
P He GQ
Q SetD.cn zs
U FJ HW
V zfs (zeu (zam GN $a rfl $b FN.kp bN .nil zba $c))
X He d
Y .Attribute E4 m apos
Z Lv i
0 Fv hy
1 kP e.1
2 Q5 m'
3 .ref s4.heap.objs.size
4 UM x
6 inPc H5 zs
7 s.heap.IsTupleIter j t i
8 storeName X.env x u
9 intBits_le_64 h1 h2" else
if c="A" then"a assign target env v
b hn b hb
c keyKind' vs.toArray
d .refl _
e ZM (Hf $a)
f k2 _ _ $a Fr
g he a7 s σ H _ I ht
h zss.map $a
i zgj Hx zah set_list
j Hy wd
k SmO aN rs
l .Constant $a j pos
m ha a7 s σ H Q I h
n hc a7 s σ H _ I h
o Th o i
p Yr _
q .Attribute e f pos
r QT $a A outer s H E
s x.above y c (Ue h)
u YW k v
v ks.map kV
w .ok .next
x fplt b hb
y assign LK X.env HQ
z key ky
A sgk TB
B wpAny_pure $a
C .dK ys
D frs Go
E za9 $a
F c9.trans $a
G Fu a0
H Qn hj
I kP s
J k7.sub Fr
K Keep.wr Qc
M Hq 1 2
N zhc ho
O k _ _ h (hn a rfl)
Q k8.sub Fr
R SQ 1 v
S Vs a tA
T .ref s1.heap.objs.size
U QA o td
V SqL.of R1.ls
W GY j
X SqL.of R7.ls
Y FA Qa $a
Z a8.toArray.push y
0 zac $a $b
2 UY bF .nil zba Re
3 hn.mem_iff.mp z.1
4 Wy _ ho (Kb (Wz hd _))" else
""
def zK(s:String):List String:=(s.toList.foldr (λc l=>if "() ".contains c then ""::(if c=' ' then l else String.singleton c::l) else match l with|x::t=>(String.singleton c++x)::t|[]=>[]) [""]).filter (·≠"")
open Lean in
def zI(g:Array Syntax)(t:String):Syntax:=
 if t="_" then .node .none ``Parser.Term.hole #[.atom .none "_"] else if t.toNat?.isSome then Syntax.mkNumLit t else
 if t.startsWith "." then .node .none ``Parser.Term.dotIdent #[.atom .none ".",mkIdent (t.drop 1).toString.toName] else
 ((t.splitOn ".").foldl (λo p=>some (match o with
  |none=>if p.startsWith "$" then g.getD ((p.toList.getD 1 'a').toNat-97) .missing else mkIdent (.mkSimple p)
  |some x=>if p.toNat?.isSome then .node .none ``Parser.Term.proj #[x,.atom .none ".",Syntax.mkLit `fieldIdx p] else if x.isIdent then mkIdent (x.getId.str p) else .node .none ``Parser.Term.proj #[x,.atom .none ".",mkIdent (.mkSimple p)])) none).getD .missing
open Lean in
def zC(a:Array Syntax):Syntax:=if a.size≤1 then a.getD 0 .missing else let x:=a.getD 0 .missing; if x.isOfKind ``Parser.Term.app then .node .none ``Parser.Term.app #[x[0],mkNullNode (x[1].getArgs++a.extract 1 a.size)] else .node .none ``Parser.Term.app #[x,mkNullNode (a.extract 1 a.size)]
open Lean in
def zR(g:Array Syntax):Nat→List String→Array Syntax→Syntax×List String
 |n+1,"("::t,a=>let(x,r):=zR g n t #[];zR g n r (a.push x)
 |_,")"::t,a=>(zC a,t)
 |n+1,x::t,a=>zR g n t (a.push (zI g x))
 |_,t,a=>(zC a,t)
open Lean in
def zW(f:Name)(a:Array Syntax):MacroM Term:=do
 let .str .anonymous s:=f|Macro.throwUnsupported
 if s.length<2∨s.length>3 then Macro.throwUnsupported
 let some r:=((zS (s.take 1).toString).splitOn "\n").find? (·.startsWith ((s.drop 1).toString++" "))|Macro.throwUnsupported
 let t:=(zK r).tail
 let n:=t.foldl (λm x=>if x.startsWith "$" then max m ((x.toList.getD 1 'a').toNat-96) else m) 0
 if a.size<n then Macro.throwUnsupported
 return ⟨zC (#[(zR a 999 t #[]).1]++a.extract n a.size)⟩
set_option hygiene false
local macro_rules
|`(Fr)=>`(by simp)
|`(Fs)=>`(by lia)
|`(Ft $a)=>`(by show $a≤sizeLine;decide)
|`(Fv $a)=>`(by simpa using $a)
|`(Fw)=>`(by decide)
|`(Fx)=>`(λcdv A outer s H vs Q E hr h=>?_)
|`(Fz)=>`(a.toList++b.toList)
|`(FA $a $b)=>`(by rw[$a:term];exact $b)
|`(FG)=>`(by intro z;cases z)
|`(FK)=>`(by decide +kernel)
|`(FQ $a $b)=>`(by rw[zaf $a:term];exact $b)
|`(FV)=>`(λ_ _=>rfl)
|`(FX)=>`(by rfl)
|`(F')=>`(.ListComp elt [⟨tg,iter,ifs,0⟩] sc pos)
|`(Gb)=>`(zal Fr (?_))
|`(Gc)=>`((∀b o,s.heap.get? b=some o→g.get? b=some o))
|`(Gd)=>`(.builtin "object.__class__")
|`(Ge)=>`(.lst [])
|`(Gf)=>`(by exact Zw ‹_›)
|`(Gi)=>`((∀σ' H',N σ' H'→∃m',m'<m∧W (i+1) m' σ' H'))
|`(Gk)=>`(by exact zar1 ‹_›)
|`(Gn)=>`(s.heap.objs.size+1)
|`(Go)=>`((envOfC qual scope s.heap.objs.size f cd::outer))
|`(Gp $a)=>`(by rw[$a:term];lia)
|`(Gq $a)=>`((gs++L.take $a).map λs=>(kP s,V.bl true))
|`(Gr)=>`(i+1)
|`(Gs $a $b)=>`(ZV (Fu $a) (Fu $b)=some false)
|`(Gv)=>`(es.map (·.1))
|`(Gw)=>`(x==("__debug__" : Str))
|`(Gy)=>`(List (Str×Str))
|`(Gz)=>`((∀b∈ch,(b∈X.ex∨X.s₀.heap.objs.size≤b)∧b≠X.env.locals∧(∀x c,X.env.cells.lookup x=some c→c≠b)∧∀p∈X.pn++a7,p.1≠b))
|`(GA)=>`(.lst [.int 1,.int (((as.map V.ref).length:Int)+1),.int (3*((as.map V.ref).length:Int)+1)])
|`(GE)=>`(.lst [.int 1,.int 3,.int 5,.int 7,.int 9,.int 25,.int 27,.int 675])
|`(GH $a)=>`((kn $a).trans (kn ht))
|`(GJ)=>`((λcs y=>if(y.2==NameKind.free)=true then(y.1,(env.cells.lookup y.1).getD 0)::cs else cs))
|`(GK)=>`(by exact zar2 ‹_› ‹_›)
|`(GM)=>`(.builtin "getset_descriptor.__get__")
|`(GQ)=>`(.builtin "BaseException.__getattribute__")
|`(GV)=>`(newFunctionEnv sc X.env.globals (WI X.env) [] X.env.qual none .none (some X.env))
|`(GY $a)=>`(pidx es[i].2.1.length $a)
|`(G')=>`(mg "len" = none)
|`(Hb $a)=>`(by simpa using Zd $a)
|`(Hc)=>`((2≤vs.length→∃kd:SortKind,(∀Q:SortKind→Shared→Prop,Q kd s→ZG (keyKind' vs.toArray) Q E s)∧∀x y,x∈vs→y∈vs→∀(Q:Bool→Shared→Prop) (E':Nb),Q (O.blt (kv x) (kv y)) s→ZG (keyLt' kd x y) Q E' s))
|`(Hd $a)=>`(.inl ⟨rfl,_,FH $a⟩)
|`(Hg)=>`(FJ ((t0::as).map V.ref++[V.ref t]))
|`(Hh)=>`((∀D C m ys H' s',ZA (Y8 (FJ ys)) s'→Q (Fu D) (Y8 (FJ ys))→s'.heap.Ns C m→Y8 (FJ ys) C=none→s.heap.objs.size<C→RR (Fu D) C (.ok .next) s'))
|`(Hi)=>`(FJ (rs[i].2.1.take sp))
|`(Hj)=>`(rs[i].2.1.take sp++[th])
|`(Hk)=>`(FJ (rs[i].2.1.drop (sp+1)))
|`(Hm $a)=>`(FJ (((L.take $a).map (·.1)).map V.str))
|`(Hn $a)=>`(FJ (as.map V.ref++[Fu $a]))
|`(RG $a)=>`(zai (zb4 (a:=e) (ob:=o) (K:=K) rfl Qc) FX bi Yh $a)
|`(RI)=>`(Ex2 λres r=>Aj2 (c=(He res,r)) (Q7 Fz res.toList))
|`(⟨$xs,*⟩)=>do
 let mut o:Array Lean.Term:=#[]
 for x in xs.getElems do
  if x.raw.getId==`A5 then o:=(o.push (← `(_))).push (← `(rfl)) else o:=o.push x
 if o.size==xs.getElems.size then Lean.Macro.throwUnsupported else `(⟨$o,*⟩)
|`($f:ident $a*)=>zW f.getId a.raw
|`($f:ident)=>zW f.getId #[]
section
set_option Elab.async false
set_option linter.all false
set_option maxRecDepth 100000
inductive Ex1{T0:Sort _}(P:T0→Prop):Prop
 |mk (x0:T0) (h:P x0):Ex1 P
inductive Ex2{T0:Sort _}{T1:Sort _}(P:T0→T1→Prop):Prop
 |mk (x0:T0) (x1:T1) (h:P x0 x1):Ex2 P
inductive Ex3{T0:Sort _}{T1:Sort _}{T2:Sort _}(P:T0→T1→T2→Prop):Prop
 |mk (x0:T0) (x1:T1) (x2:T2) (h:P x0 x1 x2):Ex3 P
inductive Ex4{T0:Sort _}{T1:Sort _}{T2:Sort _}{T3:Sort _}(P:T0→T1→T2→T3→Prop):Prop
 |mk (x0:T0) (x1:T1) (x2:T2) (x3:T3) (h:P x0 x1 x2 x3):Ex4 P
inductive Ex5{T0:Sort _}{T1:Sort _}{T2:Sort _}{T3:Sort _}{T4:Sort _}(P:T0→T1→T2→T3→T4→Prop):Prop
 |mk (x0:T0) (x1:T1) (x2:T2) (x3:T3) (x4:T4) (h:P x0 x1 x2 x3 x4):Ex5 P
inductive Ex6{T0:Sort _}{T1:Sort _}{T2:Sort _}{T3:Sort _}{T4:Sort _}{T5:Sort _}(P:T0→T1→T2→T3→T4→T5→Prop):Prop
 |mk (x0:T0) (x1:T1) (x2:T2) (x3:T3) (x4:T4) (x5:T5) (h:P x0 x1 x2 x3 x4 x5):Ex6 P
structure Aj2(p0 p1:Prop):Prop where
 h0:p0
 h1:p1
structure Aj3(p0 p1 p2:Prop):Prop where
 h0:p0
 h1:p1
 h2:p2
structure Aj4(p0 p1 p2 p3:Prop):Prop where
 h0:p0
 h1:p1
 h2:p2
 h3:p3
structure Aj5(p0 p1 p2 p3 p4:Prop):Prop where
 h0:p0
 h1:p1
 h2:p2
 h3:p3
 h4:p4
structure Aj6(p0 p1 p2 p3 p4 p5:Prop):Prop where
 h0:p0
 h1:p1
 h2:p2
 h3:p3
 h4:p4
 h5:p5
structure Aj7(p0 p1 p2 p3 p4 p5 p6:Prop):Prop where
 h0:p0
 h1:p1
 h2:p2
 h3:p3
 h4:p4
 h5:p5
 h6:p6
structure Aj8(p0 p1 p2 p3 p4 p5 p6 p7:Prop):Prop where
 h0:p0
 h1:p1
 h2:p2
 h3:p3
 h4:p4
 h5:p5
 h6:p6
 h7:p7
structure Aj9(p0 p1 p2 p3 p4 p5 p6 p7 p8:Prop):Prop where
 h0:p0
 h1:p1
 h2:p2
 h3:p3
 h4:p4
 h5:p5
 h6:p6
 h7:p7
 h8:p8
def zar1{a b:Nat}(h:a<b):b-(a+1)<b-a:=Nat.sub_lt_sub_left h (Yr a)
def zar2{a b c d:Nat}(h:a+b≤c)(k:d<b):a+d<c:=Zx (Nat.add_lt_add_left k a) h
def zar3{a b:Nat}(h:a≤b)(k:¬a<b):a=b:=Kz h (Kr k)
def zar4{a b:Nat}(h:a≤b):a+1≤b+1:=Nat.succ_le_succ h
def zar5{a b:Nat}(h:a<b)(k:¬a+1=b):a+1<b:=Nat.lt_of_le_of_ne h k
def zar6{a b c:Nat}(e:a=b)(h:c<b):c<a:=e▸h
def zar7{a b c:Nat}(e:a=b)(h:c<a):c<b:=e▸h
def zar8{a b:Nat}(h:(a:Int)<(b:Int)):a<b:=Int.ofNat_lt.mp h
def zar9{a b:Nat}(h:a<b):(a:Int)<(b:Int):=Int.ofNat_lt.mpr h
def zd2{a b c:Nat}(h:a≤b)(e:a=c):c≤b:=e▸h
def zar14{a:Nat}(h:¬a=0):a=a-1+1:=(Nat.succ_pred h).symm
def zh5{a b:Nat}(h:a≤b):a≤b+1:=Ji h
namespace L2
open PySem PySem.Spec PyProof.Rows
abbrev Key:=Sum Int Str
def keyIs:Key→Value→Bool
 |.inl k,v=>Value.isInt k v
 |.inr x,v=>Value.isStrOf x v
def keyH(w:Nn):Key→Int
 |.inl k=>hashInt k
 |.inr x=>hashStr w x
theorem zbh:∀{k:Key} {v:Value},keyIs k v=true→(∃i t,k=Sum.inl i∧v=B4 t)∨(∃x t,k=Sum.inr x∧v=YI t)
 |.inl i,v,h=>by obtain⟨t,e⟩:=Value.isInt_shape (k:=i) (v:=v) h;exact .inl ⟨i,t,rfl,e⟩
 |.inr x,v,h=>by obtain⟨t,e⟩:=Value.isStrOf_shape (x:=x) (v:=v) h;exact .inr ⟨x,t,rfl,e⟩
def keyIs_int(i:Int)(t:Tok):keyIs (Gm i) (SQ i t)=true:=by simp[keyIs,Value.isInt]
def keyIs_str(x:Str)(t:Tok):keyIs (Ru x) (.str x t)=true:=by simp[keyIs,Value.isStrOf]
def key_ll(a b:Int):decide ((Sum.inl a:Key)=Sum.inl b)=(a==b):=by
 by_cases e:a=b
 ·subst e;simp
 have h:¬ (Sum.inl a:Key)=Sum.inl b:=λq=>e (Sum.inl.inj q);rw[decide_eq_false h];exact(CC e).symm
def key_rr(a b:Str):decide ((Sum.inr a:Key)=Sum.inr b)=decide (a=b):=by
 by_cases e:a=b
 ·subst e;simp
 have h:¬ (Sum.inr a:Key)=Sum.inr b:=λq=>e (Kk q);rw[decide_eq_false h,decide_eq_false e]
def key_lr(a:Int)(b:Str):decide ((Sum.inl a:Key)=Sum.inr b)=false:=decide_eq_false (λq=>nomatch q)
def key_rl(a:Str)(b:Int):decide ((Sum.inr a:Key)=Sum.inl b)=false:=decide_eq_false (λq=>nomatch q)
def zax(prog:Nk)(w:Nn):PySem.KeyKind prog w Key where
 is:=keyIs
 hash:=keyH w
 inj:=λv a b ha hb=>by
  rcases zbh ha with⟨i,t,rfl,rfl⟩|⟨x,t,rfl,rfl⟩
  ·rcases zbh hb with⟨j,u,rfl,e⟩|⟨y,u,rfl,e⟩
   ·injection e with e1 _;rw[e1]
   exact nomatch e
  rcases zbh hb with⟨j,u,rfl,e⟩|⟨y,u,rfl,e⟩
  ·exact nomatch e
  injection e with e1 _;rw[e1]
 byValue:=λk v h=>by rcases zbh h with⟨i,t,rfl,rfl⟩|⟨x,t,rfl,rfl⟩<;>rfl
 pyHash:=λhv h=>by
  rcases zbh hv with⟨i,t,rfl,rfl⟩|⟨x,t,rfl,rfl⟩
  ·exact wpAny_pyHash_int h
  exact wpAny_pyHash_str h
 eqBool:=λhu hv h=>by
  rcases zbh hu with⟨i,t,rfl,rfl⟩|⟨x,t,rfl,rfl⟩
  ·rcases zbh hv with⟨j,u,rfl,rfl⟩|⟨y,u,rfl,rfl⟩
   ·rw[key_ll]at h;exact wpAny_eqBool_int h
   rw[key_lr]at h;exact SeqAt.EqAt.int_str i t y u _ _ _ _ h
  rcases zbh hv with⟨j,u,rfl,rfl⟩|⟨y,u,rfl,rfl⟩
  ·rw[key_rl]at h;exact SeqAt.EqAt.str_int x t j u _ _ _ _ h
  rw[key_rr]at h;exact wpAny_eqBool_str h
 «strs»:=λk x t v h=>by
  rcases zbh h with⟨i,u,rfl,e⟩|⟨y,u,rfl,e⟩
  ·exact nomatch e
  injection e with e1 _;subst e1;cases v<;>rfl
def mixKind_int(prog:Nk)(w:Nn)(i:Int)(t:Tok):(zax prog w).is (Gm i) (SQ i t)=true:=keyIs_int i t
def zgu(prog:Nk)(w:Nn)(x:Str)(t:Tok):(zax prog w).is (Ru x) (.str x t)=true:=keyIs_str x t
inductive V where
 |non|bl (b:Bool)|int (i:Int)|str (x:Str)|byt (b:Array UInt8)|flt (b:UInt64)|ref (a:Nc)|ty (n:String)
 deriving DecidableEq
def RelV:V→Value→Prop
 |.non,u=>u=Value.none
 |.bl b,u=>u=Value.bool b
 |.int i,u=>∃t,u=B4 t
 |.str x,u=>∃t,u=YI t
 |.byt b,u=>∃t,u=Value.bytes b t
 |.flt b,u=>∃t,u=Value.float b t
 |.ref a,u=>u=Value.ref a
 |.ty n,u=>u=Value.type n
abbrev Vals:List V→List Value→Prop:=Paired RelV
def Vals.length{xs:List V}{us:Nj}(r:QZ us):xs.length=us.length:=Zl r
theorem Vals.get:∀{xs:List V} {us:Nj} {i:Nat} {x:V},QZ us→xs[i]?=some x→∃u,us[i]?=some u∧WM u
 |_,_,_,_,.nil,e=>by simp at e
 |_,_,0,_,.cons r _,e=>by simp at e;subst e;exact⟨A5,r⟩
 |_,_,i+1,x,.cons _ t,e=>by obtain⟨u,h1,h2⟩:=Vals.get (i:=i) (x:=x) t Ip;exact⟨u,Fv h1,h2⟩
theorem Vals.set{x:V}{u:Value}(r:WM u):∀{xs:List V} {us:Nj} (i:Nat),QZ us→Vals (xs.set i x) (us.set i u)
 |_,_,_,.nil=>.nil
 |_,_,0,.cons _ t=>.cons r t
 |_,_,i+1,.cons q t=>.cons q (Vals.set r i t)
theorem Vals.append:∀{xs ys:List V} {us ws:Nj},QZ us→Y2 ws→Vals (xs++ys) (us++ws)
 |_,_,_,_,.nil,s=>s
 |_,_,_,_,.cons r t,s=>.cons r (Vals.append t s)
theorem Vals.take:∀{xs:List V} {us:Nj} (n:Nat),QZ us→Vals (Lp n) (us.take n)
 |_,_,0,_=>.nil
 |_,_,_+1,.nil=>.nil
 |_,_,n+1,.cons r t=>.cons r (Vals.take n t)
theorem Vals.drop:∀{xs:List V} {us:Nj} (n:Nat),QZ us→Vals (xs.drop n) (us.drop n)
 |_,_,0,r=>r
 |_,_,_+1,.nil=>.nil
 |_,_,n+1,.cons _ t=>Vals.drop n t
def RelO:Option V→Option Value→Prop
 |some v,some u=>UQ u
 |none,none=>True
 |_,_=>False
def KV{κ:Type}:List (κ×V)→List (κ×Value)→Prop:=Paired λ(p:κ×V) (q:κ×Value)=>p.1=q.1∧NB q.2
def kV:Key→V
 |.inl i=>.int i
 |.inr x=>.str x
inductive HO where
 /-- a list -/
 |lst (xs:List V)
 /-- a tuple (never changes) -/
 |tup (xs:List V)
 /-- a dict whose keys are ints and texts;one whose keys are tuples of ints and texts (the empty one is both) -/
 |dK (kvs:List (Key×V))|dT (kvs:List (List Key×V))
 /-- a set of ints: a8 members,a8 size -/
 |set (S:Int→Bool) (n:Nat)
 /-- an instance of the class at C,a8 dict at dx,a8 attributes -/
 |ins (C dx:Nc) (fs:List (Str×V))
 /-- the dict of the instance at x -/
 |own (x:Nc)
 /-- the dict of an exception -/
 |xd (fs:List (Str×V))
 /-- a bound method,f of x -/
 |met (f x:Nc)
 /-- a range object lo,lo+1,.. below hi -/
 |rng (lo hi:Int)
 /-- a thing that is known to the object (the script;a dict while a loop walks it): read,never written while it is so -/
 |frz (o:Obj) (u:HO)
 /-- a code object's table -/
 |tbl (ps:Array Value)
 /-- any other thing,by what is true of a8 one object (a def of one's own: SetO a S n:=HO.ext λh=>..) -/
 |ext (φ:Heap→Prop)
abbrev Hp:=Addr→Option HO
def upd(H:Hp)(a:Nc)(o:HO):Hp:=λb=>if b=a then some o else H b
def zab{H:Hp}{a:Nc}{o:HO}:ZU a o a=some o:=by unfold upd;rw[if_pos rfl]
def zaf{H:Hp}{a b:Nc}{o:HO}(h:b≠a):ZU a o b=H b:=by unfold upd;rw[if_neg h]
def upd_upd{H:Hp}{a:Nc}{o u:HO}:upd EK a u=ZU a u:=by funext b;unfold upd;split<;>rfl
def zbg{H:Hp}{a b:Nc}{o u:HO}(h:H a=some o)(h':H b=some u)(d:o≠u):a≠b:=by intro e;subst e;rw[h]at h';exact d (Qq h')
def zac{H:Hp}{a b:Nc}{o:HO}(h:H a=some o)(h':H b=none):a≠b:=by intro e;subst e;rw[h]at h';cases h'
section
variable(P:Nk)(w:Nn)
def zbq(H:Hp)(h:No)(a:Nc):HO→Prop
 |.lst xs=>xs.length≤sizeLine∧∃(a8:Nj) (n:Nat),QZ a8∧h.get? a=some {cls:=.type "list",data:=.seq a8.toArray n}
 |.tup xs=>xs.length≤sizeLine∧∃a8:List Value,QZ a8∧IsTup h a a8.toArray
 |.dK kvs=>kvs.length≤sizeLine∧(a==sysModules)=false∧∃vs,UD vs∧h.DictOf La a vs
 | .dT kvs=>kvs.length≤sizeLine∧(a == sysModules)=false∧∃ xs:List (List Key×Addr×Value),
   Paired (λ(p:List Key×V) (q:List Key×Addr×Value)=>p.1=q.1∧H q.2.1=some (CF (p.1.map kV))∧NB q.2.2) kvs xs ∧
   ∃o es ep,h.get? a=some o∧o.ExactDict∧o.data=.dict es ep∧es.toList=xs.map (entryOfKey (Ew La))∧(xs.map (·.1)).Nodup
 |.set S n=>h.SetOf (intKind P w) a S n
 | .ins C dx fs=>H dx=some CG∧fs.length≤1000∧dx≠a∧h.get? a=some (WE dx) ∧
   ∃mA,h.Ns1 dx mA∧(∀f,YL Pm)∧YQ (fs.map (·.1))
 |.own _=>∃o,h.get? a=some o
 |.xd fs=>∃mA,h.Ns1 a mA∧∀f,YL Pm
 |.rng lo hi=>∃t u v,h.get? a=some {cls:=.type "range",data:=.fields #[OM,ON,AR]}
 |.frz o u=>h.get? a=some o∧zbq H h a u
 |.tbl ps=>h.get? a=some {cls:=.none,data:=.fields ps}
 |.met f x=>h.get? a=some (J6 RW)
 |.ext φ=>φ h∧(∃o,h.get? a=some o)∧∀h1 h2:Heap,φ h1→(∀o,h1.get? a=some o→h2.get? a=some o)→φ h2
def HOk(H:Hp)(h:No):Prop:=∀a o,H a=some o→WO a o
end
section
variable{P:Nk}{w:Nn}{H H':Hp}{h h':No}{a:Nc}{o:HO}
def zbq.lt(x:WO a o):a<h.objs.size:=by
 cases o with
 |lst xs=>obtain⟨_,_,_,_,e⟩:=x;exact Qu e
 |tup xs=>obtain⟨_,_,_,p⟩:=x;exact p.lt
 |dK kvs=>obtain⟨_,_,_,_,o,_,_,e,_⟩:=x;exact Qu e
 |dT kvs=>obtain⟨_,_,_,_,o,_,_,e,_⟩:=x;exact Qu e
 |set S n=>obtain⟨o,_,_,_,e,_⟩:=x;exact Qu e
 |ins C dx fs=>obtain⟨_,_,_,e,_⟩:=x;exact Qu e
 |own y=>obtain⟨_,e⟩:=x;exact Qu e
 |xd fs=>obtain⟨_,⟨_,_,_,e,_⟩,_⟩:=x;exact Qu e
 |rng lo hi=>obtain⟨_,_,_,e⟩:=x;exact Qu e
 |frz ob u=>obtain⟨e,_⟩:=x;exact Qu e
 |tbl ps=>exact Qu (show h.get? a=some _ from x)
 |met f y=>exact Qu (show h.get? a=some _ from x)
 |ext φ=>obtain⟨_,⟨_,e⟩,_⟩:=x;exact Qu e
theorem Paired.mapP{α β:Type}{F G:α→β→Prop}:∀{l₁:List α} {l₂:List β},Paired F l₁ l₂→(∀a b,F a b→G a b)→Paired G l₁ l₂
 |_,_,.nil,_=>.nil
 |_,_,.cons r t,f=>.cons (f _ _ r) (Paired.mapP t f)
def Paired.imp'{α β:Type}{F G:α→β→Prop}(f:∀a b,F a b→G a b){l₁:List α}{l₂:List β}(r:Paired F l₁ l₂):Paired G l₁ l₂:=Paired.mapP r f
def zbq.stay(x:WO a o)(k:∀b u,(b=a∨H b=some CG)→h.get? b=some u→h'.get? b=some u)(ho:∀b,H b=some CG→H' b=some CG)(ht:∀b xs,H b=some Rl→H' b=some Rl):YM H' h' a o:=by
 induction o with
 |lst xs=>obtain⟨z,a8,n,r,e⟩:=x;exact⟨z,a8,n,r,Sw⟩
 |tup xs=>obtain⟨z,a8,r,ob,e,c⟩:=x;exact⟨z,a8,r,ob,Sw,c⟩
 |dK kvs=>obtain⟨z,y,vs,r,ob,es,ep,e,c⟩:=x;exact⟨z,y,vs,r,ob,es,ep,Sw,c⟩
 |dT kvs=>obtain⟨z,y,xs,r,ob,es,ep,e,c⟩:=x;exact⟨z,y,xs,Paired.mapP r λp q z=>⟨z.1,ht _ _ z.2.1,z.2.2⟩,ob,es,ep,Sw,c⟩
 |set S n=>obtain⟨ob,es,ep,t,e,c⟩:=x;exact⟨ob,es,ep,t,Sw,c⟩
 |ins C dx fs=>obtain⟨d,z,ne,e,mA,⟨od,es,ep,e2,c⟩,r⟩:=x;exact⟨ho _ d,z,ne,Sw,mA,⟨od,es,ep,k _ _ (Ru d) e2,c⟩,r⟩
 |own y=>obtain⟨ob,e⟩:=x;exact⟨ob,Sw⟩
 |xd fs=>obtain⟨mA,⟨od,es,ep,e,c⟩,r⟩:=x;exact⟨mA,⟨od,es,ep,Sw,c⟩,r⟩
 |rng lo hi=>obtain⟨t,u,v,e⟩:=x;exact⟨t,u,v,Sw⟩
 |frz ob u ih=>obtain⟨e,q⟩:=x;exact⟨Sw,ih q⟩
 |tbl ps=>have e:h.get? a=some {cls:=.none,data:=.fields ps}:=x;show h'.get? a=some {cls:=.none,data:=.fields ps};exact k a _ Hr e
 |met f y=>have e:h.get? a=some (J6 (Fu y)):=x;show h'.get? a=some (J6 (Fu y));exact k a _ Hr e
 |ext φ=>obtain⟨p,⟨o,e⟩,st⟩:=x;exact⟨st _ _ p λo q=>k _ _ Hr q,⟨o,Sw⟩,st⟩
def HOk.lt(x:WF h)(e:H a=some o):a<h.objs.size:=(x a o e).lt
def HOk.fresh(x:WF h)(e:h.objs.size≤a):H a=none:=by
 cases q:H a with
 |none=>rfl
 |some u=>exact absurd (Zx (x.lt q) e) Iq
def HOk.kept(x:WF h)(k:∀b u,h.get? b=some u→h'.get? b=some u):WF h':=λa o e=>(x a o e).stay (λb u _ q=>k b u q) (λ_ q=>q) λ_ _ q=>q
def HOk.laid(x:WF h)(k:∀b u,h.get? b=some u→h'.get? b=some u)(hp:h.objs.size≤a)(new:YM EK h' a o):WU EK h':=λb u e=>by
 have hn:=x.fresh hp;by_cases hb:b=a
 ·subst hb;rw[zab]at e;cases e;exact new
 rw[IK]at e;exact(x b u e).stay (λc v _ q=>k c v q) (λc q=>by rw[zaf Pn];exact q) λc xs q=>by rw[zaf Pn];exact q
def Rd(H:Hp)(a:Nc)(u:HO):Prop:=H a=some u∨∃o,H a=some IZ
def Rd.ok{P:Nk}{w:Nn}{H:Hp}{h:No}{a:Nc}{u:HO}(r:Vc u)(x:WF h):WO a u:=by
 rcases r with r|⟨o,r⟩
 ·exact x a u r
 obtain⟨_,q⟩:=x a _ r;exact q
def Mut:Option HO→Prop
 |some (.lst _)=>True
 |some (.dK _)=>True
 |some (.dT _)=>True
 |some (.set _ _)=>True
 |some (.ins _ _ _)=>True
 |some (.ext _)=>True
 |_=>False
variable{x e:Nc}{o':HO}
def HOk.write(ok:WF h)(mu:Mut (H x))(he:e=x∨H e=some CH)(k:∀ b u,b≠e→h.get? b=some u→h'.get? b=some u)(lP:∃ u,h'.get? e=some u)(new:YM (ZU x o') h' x o'):WU (ZU x o') h':=λb u q=>by
 have nown:∀c y,H c=some (.own y)→c≠x:=λc y r z=>by subst z;rw[r]at mu;exact mu
 have ntup:∀c xs,H c=some Rl→c≠x:=λc xs r z=>by subst z;rw[r]at mu;exact mu
 by_cases hb:b=x
 ·subst hb;rw[zab]at q;cases q;exact new
 rw[IK]at q;by_cases kS:b=e
 ·have q':H b=some CH:=by
   rcases he with z|z
   ·exact absurd (kS.trans z) hb
   rw[kS];exact z
  rw[q]at q';cases q';obtain⟨v,hv⟩:=lP;exact⟨v,FA kS hv⟩
 refine (ok b u q).stay (λc v hc r=>k c v ?_ r) (λc r=>by rw[zaf (nown c b r)];exact r) λc xs r=>by rw[zaf (ntup c xs r)];exact r
 rcases hc with rfl|hc
 ·exact kS
 rintro rfl;rcases he with z|z
 ·exact nown c b hc z
 rw[hc]at z;cases z;exact hb rfl
end
structure Un(fs ex:Nl)(H H':Hp)(h h':No):Prop where
 keep:∀b o,h.get? b=some o→H b=none→b∉fs→b∉ex→h'.get? b=some o
 slot:∀b o,h.get? b=some o→H b=none→b∈fs→b∉ex→∃sl,h'.get? b=some {o with slots:=sl}
 free:∀b o,h.get? b=some o→H b=none→b∉ex→H' b=none
 there:∀b o,h.get? b=some o→b∉ex→∃o',h'.get? b=some o'
 tups:∀b xs,H b=some Rl→H' b=some Rl
 frzs:∀b o u,H b=some IZ→H' b=some IZ
 tbls:∀b ps,H b=some O8→∃more,H' b=some (.tbl (ps++more))
section
variable{fs fs' ex ex':Nl}{H H1 H2:Hp}{h h1 h2 h':No}{a x e:Nc}{o:HO}
def Un.any(u:X8 H1 h h1){b:Nc}{ob:Obj}(q:h.get? b=some ob)(n:H b=none)(hx:b∉ex):∃sl,h1.get? b=some {ob with slots:=sl}:=by
 by_cases hb:b∈fs
 ·exact u.slot b ob q n hb hx
 exact⟨ob.slots,u.keep b ob q n hb hx⟩
def Un.kept(k:∀b u,h.get? b=some u→h'.get? b=some u):X8 H h h':=
 ⟨λb ob q _ _ _=>k b ob q,λb ob q _ _ _=>⟨ob.slots,k b ob q⟩,λ_ _ _ n _=>n,λb ob q _=>⟨ob,k b ob q⟩,λ_ _ q=>q,λ_ _ _ q=>q,λ_ ps q=>⟨#[],by rw[q];simp⟩⟩
def Un.refl:X8 H h h:=Un.kept λ_ _ q=>q
theorem Un.laid(k:∀b u,h.get? b=some u→h'.get? b=some u)(hp:h.objs.size≤a)(hn:H a=none):X8 EK h h' where
 keep:=λb u q _ _ _=>k b u q
 slot:=λb u q _ _ _=>⟨u.slots,k b u q⟩
 free:=λb u q n _=>by rw[zaf (Zk (D8 hp))];exact n
 there:=λb u q _=>⟨u,k b u q⟩
 tups:=λb xs q=>by rw[zaf Pn];exact q
 frzs:=λb u xs q=>by rw[zaf Pn];exact q
 tbls:=λb ps q=>⟨#[],by rw[zaf Pn,q];simp⟩
def Un.write(mu:Mut (H x))(he:e=x∨H e=some CH)(k:∀b u,b≠e→h.get? b=some u→h'.get? b=some u)(lP:∃u,h'.get? e=some u):X8 (ZU x o) h h':=by
 have hx:∀b,H b=none→b≠x:=λb n z=>by subst z;rw[n]at mu;exact mu
 have hb:∀b,H b=none→b≠e:=λb n z=>by
  subst z;rcases he with r|r
  ·exact hx b n r
  rw[n]at r;cases r
 have hm:∀b u,H b=some u→¬Mut (He u)→b≠x:=λb u q nm z=>by subst z;rw[q]at mu;exact nm mu
 refine⟨λb u q n _ _=>k b u (hb b n) q,λb u q n _ _=>⟨u.slots,k b u (hb b n) q⟩,λb u q n _=>by rw[zaf (hx b n)];exact n,λb u q _=>?_,
  λb xs q=>by rw[zaf (hm b _ q λz=>z)];exact q,λb u xs q=>by rw[zaf (hm b _ q λz=>z)];exact q,λb ps q=>⟨#[],by rw[zaf (hm b _ q λz=>z),q];simp⟩⟩
 by_cases kS:b=e
 ·subst kS;exact lP
 exact⟨u,k b u kS q⟩
def trk(h:No)(H:Hp):List Addr:=(List.range h.objs.size).filter λa=>(H a).isSome
def hidT(h:No)(H:Hp):Heap:=PySem.W.hideAll h (trk h H)
def hidT_size(h:No)(H:Hp):(hidT h H).objs.size=h.objs.size:=PySem.W.hideAll_size _ _
def hidT_get{h:No}{H:Hp}{b:Nc}{o:Obj}(e:h.get? b=some o)(n:H b=none):(hidT h H).get? b=some o:=
 PySem.W.hideAll_get _ e λhm=>by have q:(H b).isSome=true:=(Xa.mp hm).2;rw[n]at q;simp at q
def of_hidT{h:No}{H:Hp}{b:Nc}{o:Obj}(e:(hidT h H).get? b=some o):h.get? b=some o∧H b=none:=by
 have e':h.get? b=some o:=PySem.W.of_hideAll (trk h H) e;refine⟨e',?_⟩;cases q:H b with
 |none=>rfl
 |some x=>have hm:b∈trk h H:=Xa.mpr ⟨Wa.mpr (Qu e'),by simp[q]⟩;have z:(hidT h H).get? b=none:=PySem.W.hideAll_none (trk h H) hm;rw[z]at e;cases e
end
structure Mod(K:Na)(mg:Ng)(base:No):Prop where
 kin:K.In base
 glob:base.Ns mainGlobals mg
 blt:∃mb,base.Ns builtinsNs mb∧∀x:Str,x ≠ "__name__" → mb x=bootBuiltins x
 nolimit:base.NoLimit
structure Cx where
 prog:Program
 w:World
 K:PySem.W.Frag
 mg:Str→Option Value
 base:Heap
 A:Around
 N:List Str
 s₀:Shared
 H₀:Hp
 env:Env
 outer:List Env
 stack:List Env
 ex:List Addr
 fn:Str→Bool
 calm:Bool
 pn:List (Addr×Obj)
 xe:Value→Shared→Prop
def frs(l:List Env):List Addr:=l.filterMap (·.frame)
abbrev Cx.fs(X:Cx):List Addr:=frs X.outer
def Vis(sc:Scope)(x:Str):Prop:=sc.names.lookup x=some .local∨sc.names.lookup x=some .cell∨sc.names.lookup x=some .free
def Loc(sc:Scope)(x:Str):Prop:=sc.names.lookup x=some .local∨sc.names.lookup x=some .cell
def Look(env:Env)(h:No)(m:Ng)(x:Str)(u:Value):Prop:=
 (env.kindOf x=some .local∧m x=some u)∨((env.kindOf x=some .cell∨env.kindOf x=some .free)∧∃c,env.cells.lookup x=some c∧h.IsCell c (He u))
structure Cx.Ok(X:Cx):Prop where
 mod:Mod X.K X.mg X.base
 kind:X.env.scope.kind=.function
 glob:X.env.globals=mainGlobals
 blt:X.env.builtins=builtinsNs
 above:X.s₀.heap.objs.size≤X.env.locals
 inj:∀x y c,X.env.cells.lookup x=some c→X.env.cells.lookup y=some c→x=y
 has:∀x,(X.env.kindOf x=some .cell∨X.env.kindOf x=some .free)→∃c,X.env.cells.lookup x=some c
 cab:∀x c,X.fn x=true→X.env.cells.lookup x=some c→X.s₀.heap.objs.size≤c
 hd:X.calm=true→X.A.handled=none
 frames:X.A.frames=some X.stack
 stk:X.stack=X.outer∨(X.stack=X.env::X.outer∧X.env.frame=some X.env.locals)
 exf:∀b∈X.ex,b≠X.env.locals∧∀x c,X.env.cells.lookup x=some c→c≠b
 bs:∀b o,X.base.get? b=some o→X.s₀.heap.get? b=some o∧X.H₀ b=none
 bsz:X.base.objs.size≤X.s₀.heap.objs.size
 noex:∀b o,X.base.get? b=some o→b∉X.ex
 exfs:∀b∈X.ex,b∉X.fs
 funs:Vp X.outer
 frf:∀b∈X.fs,X.H₀ b=none
structure Inv(X:Cx)(a7:Nd)(σ:List (Option V))(H:Hp)(s:Ni):Prop where
 ok:X.Ok
 os:s.os=X.s₀.os
 bare:AllBare s.gens
 base:Un X.fs X.ex X.H₀ H X.s₀.heap s.heap
 loc:∃m,s.heap.Ns X.env.locals m∧∀(i:Nat) (x:Str) (v:V),X.N[i]?=some x→σ[i]?=some (He v)→Vq x→∃u,UQ u∧Look X.env s.heap m x u
 cell:∀x c,X.env.cells.lookup x=some c→∃v,s.heap.IsCell c v
 free:H X.env.locals=none
 freeC:∀x c,X.env.cells.lookup x=some c→H c=none
 pin:∀p∈X.pn++a7,s.heap.get? p.1=some p.2∧H p.1=none∧p.1≠X.env.locals∧p.1∉X.fs∧∀v,p.2.data≠.cell v
 hok:YU H s.heap
 len:σ.length=X.N.length
section
variable{X:Cx}{a7:Nd}{σ:List (Option V)}{H H':Hp}{s:Ni}{h':No}
def Cx.Ok.nofr(ok:X.Ok){b:Nc}{o:Obj}(e:X.base.get? b=some o):b∉X.fs:=λhb=>by have:=(ok.funs.mem hb).1;rw[e]at this;cases this
def Inv.bs(I:Gj):∀b o,X.base.get? b=some o→s.heap.get? b=some o∧H b=none:=λb o e=>⟨I.base.keep b o (Vm e).1 (Vm e).2 (I.ok.nofr e) (Mq e),JC o (Vm e).1 (Vm e).2 (Mq e)⟩
def Inv.bk(I:Gj):∀b o,X.base.get? b=some o→s.heap.get? b=some o:=λb o e=>(I.bs b o e).1
def Inv.mod(I:Gj):Mod X.K X.mg X.base:=I.ok.mod
def Inv.kIn(I:Gj):X.K.In s.heap:=I.ok.mod.kin.keeps I.bk
def Inv.lt(I:Gj):X.env.locals<s.heap.objs.size:=let⟨_,hn,_⟩:=I.loc;hn.lt
def Inv.sz(I:Gj):X.s₀.heap.objs.size≤s.heap.objs.size:=Zf I.ok.above (Zw I.lt)
def Inv.nofs(I:Gj){a:Nc}(h:s.heap.objs.size≤a):a∉X.fs:=λhb=>by obtain⟨_,o,ho,_⟩:=I.ok.funs.mem hb;exact absurd (Zx (Qu ho) (Zf I.sz h)) Iq
def Inv.cne(I:Gj):∀x c,X.env.cells.lookup x=some c→c≠X.env.locals:=λx c e z=>by obtain⟨v,o,ho,hd⟩:=U4 e;obtain⟨m,⟨o',es,ep,aA,iF,_⟩,_⟩:=I.loc;rw[z,aA]at ho;cases ho;rw[iF]at hd;cases hd
def Inv.funs(I:Gj):s.heap.FunFrames X.base X.outer:=by
 have all:∀(l:List Env),(∀b∈frs l,b∈X.fs)→Vp l→s.heap.FunFrames X.base l:=by
  intro l;induction l with
  |nil=>intro _ _;trivial
  |cons env r ih=>intro hs hl;obtain⟨hk,⟨L,o,hf,hn,ho,hd⟩,hr⟩:=hl;have hL:L∈X.fs:=hs L (by unfold frs;rw[List.filterMap_cons,hf];exact List.mem_cons_self);obtain⟨sl,e⟩:=I.base.slot L o ho (I.ok.frf L hL) hL λz=>I.ok.exfs L z hL;exact⟨hk,⟨L,_,hf,hn,e,hd⟩,ih (λb hb=>hs b (by unfold frs;rw[List.filterMap_cons,hf];exact ML hb)) hr⟩
 exact all X.outer (λ_ hb=>hb) I.ok.funs
def Inv.stack(I:Gj):s.heap.FunFrames X.base X.stack:=by
 rcases I.ok.stk with e|⟨e,hf⟩
 ·rw[e];exact I.funs
 rw[e];obtain⟨m,hn,_⟩:=I.loc;refine .cons (by rw[I.ok.kind];decide) hf hn ?_ I.funs;exact Heap.get?_none_of_le (NC I.ok.above)
def Inv.stkSub(I:Gj):∀b∈frs X.stack,b∈X.env.locals::X.fs:=λb hb=>by
 rcases I.ok.stk with e|⟨e,hf⟩
 ·rw[e]at hb;exact QM hb
 rw[e]at hb;unfold frs at hb;rw[List.filterMap_cons,hf]at hb;exact hb
def Inv.stkFree(I:Gj):∀b∈frs X.stack,H b=none:=λb hb=>by
 rcases Qi.mp (X9 hb) with e|hb
 ·rw[e];exact I.free
 obtain⟨_,o,ho,_⟩:=I.ok.funs.mem hb;exact JC o ho (I.ok.frf b hb) λz=>I.ok.exfs b z hb
def Inv.step{g':Array GenState}{t':Nat}{d':Drawn}{ch:Nl}(I:Gj)(hW:Gz)(keep:∀b o,b≠X.env.locals→b∉X.fs→b∉ch→s.heap.get? b=some o→H b=none→h'.get? b=some o)(slot:∀b o,b≠X.env.locals→b∈X.fs→b∉ch→s.heap.get? b=some o→H b=none→∃sl,h'.get? b=some {o with slots:=sl})(free:∀b o,b∉ch→s.heap.get? b=some o→H b=none→H' b=none)(there:∀b o,b∉ch→s.heap.get? b=some o→∃o',h'.get? b=some o')(tups:∀b xs,H b=some Rl→H' b=some Rl)(frzs:∀b o u,H b=some IZ→H' b=some IZ)(tbls:∀b ps,H b=some O8→∃more,H' b=some (.tbl (ps++more)))(ns:∀m,s.heap.Ns X.env.locals m→h'.Ns X.env.locals m)(hok:YU H' h')(hg:AllBare g') :
  Inv X a7 σ H' {s with heap:=h',gens:=g',drawn:=d',toks:=t'}:=by
 have neL:∀b o,X.s₀.heap.get? b=some o→b≠X.env.locals:=λb o e=>Zk Lb;have neC:∀b o,X.s₀.heap.get? b=some o→b∉X.ex→b∉ch:=λb o e hx hb=>by
  rcases(hW b hb).1 with z|z
  ·exact hx z
  exact absurd (UI z) Iq
 have cellK:∀x c,X.env.cells.lookup x=some c→∀v,s.heap.IsCell c v→h'.IsCell c v:=λx c e v ⟨o,ho,hd⟩=>by
  have nch:c∉ch:=λz=>(hW c z).2.2.1 x c e rfl;by_cases hc:c∈X.fs
  ·obtain⟨sl,q⟩:=slot c o (I.cne x c e) hc nch ho (UJ e);exact⟨_,q,hd⟩
  exact⟨o,keep c o (I.cne x c e) hc nch ho (UJ e),hd⟩
 refine⟨I.ok,I.os,hg,⟨λb o e n hb hx=>?_,λb o e n hb hx=>?_,λb o e n hx=>?_,λb o e hx=>?_,λb xs e=>tups b xs (D9 e),λb o xs e=>frzs b o xs (I.base.frzs b o xs e),λb ps e=>?_⟩,?_,λx c e=>?_,?_,λx c e=>?_,λp hp=>?_,hok,I.len⟩
 ·exact keep b o CI hb CJ (UR hx) OV
 ·obtain⟨sl,e1⟩:=US hx;obtain⟨ll,e2⟩:=slot b _ CI hb CJ e1 OV;exact⟨ll,e2⟩
 ·obtain⟨o',e1⟩:=YC e hx;exact free b o' CJ e1 OV
 ·obtain⟨o',e1⟩:=YC e hx;exact there b o' CJ e1
 ·obtain⟨m1,e1⟩:=Fa e;obtain⟨m2,e2⟩:=tbls b _ e1;exact⟨m1++m2,by rw[e2,Array.append_assoc]⟩
 ·obtain⟨m,hn,hl⟩:=I.loc;refine⟨m,ns m hn,λi x v e1 e2 e3=>?_⟩;obtain⟨u,r,l⟩:=hl i x v e1 e2 e3;refine⟨u,r,?_⟩;rcases l with l|⟨k,c,e,z⟩
  ·exact .inl l
  exact .inr ⟨k,c,e,cellK x c e _ z⟩
 ·obtain⟨v,z⟩:=U4 e;exact⟨v,cellK x c e v z⟩
 ·obtain⟨m,⟨o,_,_,ho,_⟩,_⟩:=I.loc;exact free _ o (λz=>(hW _ z).2.1 rfl) ho I.free
 ·obtain⟨v,o,ho,hd⟩:=U4 e;exact free c o (λz=>(hW c z).2.2.1 x c e rfl) ho (UJ e)
 obtain⟨e,n,ne,nf,d⟩:=YS hp;have nch:p.1∉ch:=λz=>(hW p.1 z).2.2.2 p hp rfl;exact⟨keep p.1 p.2 ne nf nch e n,free p.1 p.2 nch e n,ne,nf,d⟩
def Inv.un{t':Nat}(I:Gj)(u:Un X.fs [] H H' s.heap h')(hok:YU H' h'):ZA H' {s with heap:=h',toks:=t'}:=by obtain⟨m,⟨o,es,ep,ho,r⟩,_⟩:=id I.loc;obtain⟨sl,hL⟩:=u.any ho I.free Fr;exact I.step (g':=s.gens) (d':=s.drawn) (ch:=[]) (λ_ z=>nomatch z) (λb o _ hb _ e n=>u.keep b o e n hb Fr) (λb o _ hb _ e n=>u.slot b o e n hb Fr) (λb o _ e n=>u.free b o e n Fr) (λb o _ e=>u.there b o e Fr) u.tups u.frzs u.tbls (λm' hm=>by obtain⟨o',aG,ep',aA,r'⟩:=hm;rw[ho]at aA;cases aA;exact⟨_,aG,ep',hL,r'⟩) hok I.bare
def Inv.call{g':Array GenState}{t':Nat}{d':Drawn}{ch:Nl}(I:Gj)(u:K9 h')(hok:YU H' h')(hg:AllBare g')(hW:Gz) :
  Inv X a7 σ H' {s with heap:=h',gens:=g',drawn:=d',toks:=t'}:=by
 obtain⟨m,⟨o,es,ep,ho,r⟩,_⟩:=id I.loc;obtain⟨sl,hL⟩:=u.any ho I.free λz=>(hW _ z).2.1 rfl;exact I.step (ch:=ch) hW (λb o hL hb hc e n=>u.keep b o e n (λz=>(O9 (X9 z)).elim hL hb) hc) (λb o _ _ hc e n=>u.any e n hc) (λb o hc e n=>u.free b o e n hc) (λb o hc e=>u.there b o e hc) u.tups u.frzs u.tbls (λm' hm=>by obtain⟨o',aG,ep',aA,r'⟩:=hm;rw[ho]at aA;cases aA;exact⟨_,aG,ep',hL,r'⟩) hok hg
def Inv.turned{t':Nat}{it:Nc}(I:Gj)(k:∀b o,b≠it→s.heap.get? b=some o→h'.get? b=some o)(hn:H it=none)(hL:it≠X.env.locals)(h1:it∈X.ex∨X.s₀.heap.objs.size≤it)(h2:∀x c,X.env.cells.lookup x=some c→c≠it)(h3:∀p∈X.pn++a7,p.1≠it):ZA H {s with heap:=h',toks:=t'}:=by
 have nit:∀b u,H b=some u→b≠it:=λb u e z=>by rw[z,hn]at e;cases e
 refine I.step (g':=s.gens) (d':=s.drawn) (ch:=[it]) (λb hb=>?_) (λb o _ _ hc e _=>k b o (λz=>hc (by simp[z])) e) (λb o _ _ hc e _=>⟨o.slots,k b o (λz=>hc (by simp[z])) e⟩) (λ_ _ _ _ n=>n)
  (λb o hc e=>⟨o,k b o (λz=>hc (by simp[z])) e⟩) (λ_ _ e=>e) (λ_ _ _ e=>e) (λb ps e=>⟨#[],by rw[e];simp⟩) (λm hm=>?_) (λb u e=>?_) I.bare
 ·have e:b=it:=by simpa using hb
  subst e;exact⟨h1,hL,h2,h3⟩
 ·obtain⟨o,es,ep,ho,r⟩:=hm;exact⟨o,es,ep,k _ o (Zd hL) ho,r⟩
 refine (Y' u e).stay (λc v hc q=>k c v ?_ q) (λ_ q=>q) λ_ _ q=>q;rcases hc with z|z
 ·rw[z];exact nit b u e
 exact nit c _ z
def Inv.tok(I:Gj)(t:Nat):ZA H {s with toks:=t}:=I.un (h':=s.heap) (t':=t) Un.refl I.hok
def Inv.kept{t':Nat}(I:Gj)(k:∀b u,s.heap.get? b=some u→h'.get? b=some u):ZA H {s with heap:=h',toks:=t'}:=I.un (Un.kept k) (I.hok.kept k)
def Inv.laid{a:Nc}{o:HO}{t':Nat}(I:Gj)(k:∀b u,s.heap.get? b=some u→h'.get? b=some u)(hp:s.heap.objs.size≤a)(new:Z5 EK h' a o) :
  Inv X a7 σ EK {s with heap:=h',toks:=t'}:=I.un (Un.laid k hp (RP hp)) (I.hok.laid k hp new)
def Inv.write{x e:Nc}{o:HO}{t':Nat}(I:Gj)(mu:Mut (H x))(he:e=x∨H e=some CH)(k:∀b u,b≠e→s.heap.get? b=some u→h'.get? b=some u)(lP:∃u,h'.get? e=some u)(new:Z5 (ZU x o) h' x o):ZA (ZU x o) {s with heap:=h',toks:=t'}:=I.un (Un.write mu he k lP) (I.hok.write mu he k lP new)
def Inv.pins_of{pins':Nd}(I:Gj)(h:∀p∈pins',s.heap.get? p.1=some p.2∧H p.1=none∧p.1≠X.env.locals∧p.1∉X.fs∧∀v,p.2.data≠.cell v):ZK pins' σ H s:=
 ⟨I.ok,I.os,I.bare,I.base,I.loc,I.cell,I.free,I.freeC,λp hp=>(Qg.mp hp).elim (λz=>YS (Y5 z)) (h p),I.hok,I.len⟩
def zir{N:Nh}(hN:N.Nodup){i j:Nat}{x:Str}(a:N[i]?=some x)(b:N[j]?=some x):i=j:=by obtain⟨h1,e1⟩:=Qy.mp a;obtain⟨h2,e2⟩:=Qy.mp b;exact(Wu hN).mp (e1.trans e2.symm)
def zga{M:Model}{A:Np}{E:Nb}{i:Nat}{x:Str}{v:V}{u:Value}{Q:Unit→Shared→Prop}(I:Gj)(hN:X.N.Nodup)(hi:X.N[i]?=some x)(hx:UA x)(r:UQ u)(h:∀s',ZD EL H s'→(∃a,BY s'.heap∧(a=X.env.locals∨X.env.cells.lookup x=some a))→Q () s')(hf:X.fn x=true∨X.env.scope.names.lookup x=some .local:=by first|exact .inl rfl|exact .inr rfl|assumption):YD P8 Q E s:=by
 obtain⟨m,hn,hl⟩:=id I.loc;have kR:(X.env.scope.kind==.class||(X.env.scope.kind==.module&&X.env.locals != X.env.globals))=false:=by rw[I.ok.kind];rfl
 have hiσ:i<σ.length:=by rw[I.len];exact(LP hi).1
 have cne:=I.cne;have tracked:∀{a:Nc} {h':No},(∃o,s.heap.get? a=some o∧H a=none)→BY h'→YU H h':=λ{a h'} ha hs b ob e=>by
  obtain⟨_,_,bE⟩:=ha;refine(Y' ob e).stay (λc w' hc q=>(hs.2 c ?_).trans q) (λ_ q=>q) λ_ _ q=>q;rintro rfl;rcases hc with rfl|hc
  ·rw[bE]at e;cases e
  rw[bE]at hc;cases hc
 rcases hx with hk|hk
 ·refine wpAny_storeName_local hk hn (λh' jX hs=>?_) kR;obtain⟨oL,_,_,hoL,_⟩:=id hn;refine h _ ⟨I.ok,I.os,I.bare,⟨λb o e n hb hx=>?_,λb o e n hb hx=>?_,I.base.free,λb o e hx=>?_,I.base.tups,I.base.frzs,I.base.tbls⟩,⟨_,jX,λj y v' e1 e2 e3=>?_⟩,λy c e=>?_,I.free,I.freeC,λp hp=>?_,tracked ⟨oL,hoL,I.free⟩ hs,by simpa using I.len⟩ ⟨_,hs,Hr⟩
  ·exact(Ev Lb).trans (UR hx)
  ·obtain⟨sl,e1⟩:=US hx;exact⟨sl,(Ev Lb).trans e1⟩
  ·obtain⟨o',e1⟩:=YC e hx;exact⟨o',(Ev Lb).trans e1⟩
  ·by_cases hj:j=i
   ·subst hj;rw[hi]at e1;cases e1;rw[List.getElem?_set_self hiσ]at e2;cases e2;exact⟨u,r,Gm ⟨hk,Fr⟩⟩
   rw[List.getElem?_set_ne (Zd hj)]at e2;obtain⟨u',r',q⟩:=hl j y v' e1 e2 e3;refine⟨u',r',?_⟩;rcases q with⟨k,e⟩|⟨k,c,e,z⟩
   ·refine .inl ⟨k,?_⟩;have:y≠x:=λe=>hj (Fb (e▸hi));simp[this,e]
   exact .inr ⟨k,c,e,OO (cne y c e)⟩
  ·obtain⟨w',z⟩:=I.cell y c e;exact⟨w',OO (cne y c e)⟩
  obtain⟨e,n,ne,nf,d⟩:=YS hp;exact⟨(hs.2 p.1 ne).trans e,n,ne,nf,d⟩
 have tI:X.fn x=true:=by
  rcases hf with z|z
  ·exact z
  rw[z]at hk;cases hk
 obtain⟨c,hc⟩:=I.ok.has x (Gm hk);obtain⟨w',z⟩:=U4 hc;refine wpAny_storeName_cell I.ok.kind hk hc z (λh' dq hs=>?_);obtain⟨oc,hoc,sJ⟩:=id z;refine h {s with heap:=h'} ⟨I.ok,I.os,I.bare,⟨λb o e n hb hx=>?_,λb o e n hb hx=>?_,I.base.free,λb o e hx=>?_,I.base.tups,I.base.frzs,I.base.tbls⟩,⟨m,hn.sameBut hs (Zd (cne x c hc)),λj y v' e1 e2 e3=>?_⟩,λy c' e=>?_,I.free,I.freeC,λp hp=>?_,tracked ⟨oc,hoc,UJ hc⟩ hs,by simpa using I.len⟩ ⟨c,hs,Ru hc⟩
 ·exact(Ev Po).trans (UR hx)
 ·obtain⟨sl,e1⟩:=US hx;exact⟨sl,(Ev Po).trans e1⟩
 ·obtain⟨o',e1⟩:=YC e hx;exact⟨o',(Ev Po).trans e1⟩
 ·by_cases hj:j=i
  ·subst hj;rw[hi]at e1;cases e1;rw[List.getElem?_set_self hiσ]at e2;cases e2;exact⟨u,r,Ru ⟨Gm hk,c,hc,dq⟩⟩
  rw[List.getElem?_set_ne (Zd hj)]at e2;obtain⟨u',r',q⟩:=hl j y v' e1 e2 e3;refine⟨u',r',?_⟩;rcases q with q|⟨k,c',e,z'⟩
  ·exact .inl q
  refine .inr ⟨k,c',e,z'.sameBut hs ?_⟩;rintro rfl;exact hj (Fb (I.ok.inj _ _ _ e hc▸hi))
 ·by_cases gJ:c'=c
  ·subst gJ;exact⟨_,dq⟩
  obtain⟨w2,z2⟩:=I.cell y c' e;exact⟨w2,z2.sameBut hs gJ⟩
 obtain⟨e,n,ne,nf,d⟩:=YS hp;refine⟨(hs.2 p.1 ?_).trans e,n,ne,nf,d⟩;intro q;rw[q,hoc]at e;have q':oc=p.2:=Qq e;exact d w' (by rw[←q'];exact sJ)
def zh9{M:Model}{A:Np}{E:Nb}{i:Nat}{x:Str}{v:V}{u:Value}{Q:Unit→Shared→Prop}(I:Gj)(hN:X.N.Nodup)(hi:X.N[i]?=some x)(hx:UA x)(r:UQ u)(h:∀s',ZD EL H s'→Q () s')(hf:X.fn x=true∨X.env.scope.names.lookup x=some .local:=by first|exact .inl rfl|exact .inr rfl|assumption):YD P8 Q E s:=
 zga I hN hi hx r (λs' I' _=>h s' I') hf
def Inv.call'{s':Ni}{ch:Nl}(I:Gj)(ho:s'.os=s.os)(u:K9 s'.heap)(hok:YU H' s'.heap)(hg:AllBare s'.gens)(hW:Gz):ZA H' s':=by obtain⟨h',g',d',t',o'⟩:=s';have e:o'=s.os:=ho;subst e;exact I.call (g':=g') (t':=t') (d':=d') u hok hg hW
abbrev XK:=Value→Option Addr→Hp→Prop
abbrev St:=List (Option V)
abbrev VK:=V→Hp→Prop
abbrev TE:=St→Hp→VK→Prop
abbrev TT:=St→Hp→(Bool→Hp→Prop)→Prop
abbrev TA:=St→Hp→(List V→Hp→Prop)→Prop
structure Ends where
 nx:St→Hp→Prop
 rt:VK
 bk:St→Hp→Prop:=λ_ _=>False
 ct:St→Hp→Prop:=λ_ _=>False
abbrev TS:=Ends→St→Hp→Prop
end
inductive EP(X:Cx)(a7:Nd)(σ:St)(Q:VK)(u:Value)(s':Ni):Prop
 |mk (v:V) (H':Hp) (i:Inv X a7 σ H' s') (r:RelV v u) (q:Q v H'):EP X a7 σ Q u s'
inductive TP(X:Cx)(a7:Nd)(σ:St)(Q:Bool→Hp→Prop)(b:Bool)(s':Ni):Prop
 |mk (H':Hp) (i:Inv X a7 σ H' s') (q:Q b H'):TP X a7 σ Q b s'
inductive AP(X:Cx)(a7:Nd)(σ:St)(Q:List V→Hp→Prop)(us:Nj)(s':Ni):Prop
 |mk (vs:List V) (H':Hp) (i:Inv X a7 σ H' s') (r:Vals vs us) (q:Q vs H'):AP X a7 σ Q us s'
def SP(X:Cx)(a7:Nd)(D:Ends)(f:Flow)(s':Ni):Prop:=
 match f with
 |.next=>Ex2 λ σ' H'=>UE (D.nx σ' H')
 |.brk=>Ex2 λ σ' H'=>UE (D.bk σ' H')
 |.cont=>Ex2 λ σ' H'=>UE (D.ct σ' H')
 |.ret u=>Ex3 λv σ' H'=>Aj3 (ZD σ' H' s') (UQ u) (D.rt v H')
def PE(X:Cx)(e:Expr)(t:TE):Prop:=
 ∀(a7:Nd) (s:Ni) (σ:St) (H:Hp) (Q:VK),ZA H s→t σ H Q→ZF Ir Tl X.xe s
def PT(X:Cx)(e:Expr)(t:TT):Prop:=
 ∀(a7:Nd) (s:Ni) (σ:St) (H:Hp) (Q:Bool→Hp→Prop),ZA H s→t σ H Q→ZF (isTrue e X.env Ir) (VF Q) X.xe s
def PW(X:Cx)(e:Expr)(t:TT):Prop:=
 ∀(whole:Sem Value) (a7:Nd) (s:Ni) (σ:St) (H:Hp) (Q:Bool→Hp→Prop),ZA H s→t σ H Q→ZF (isTrue e X.env whole) (VF Q) X.xe s
def PW.pt{X:Cx}{e:Expr}{t:TT}(h:PW X e t):Vs e t:=h _
def PA(X:Cx)(es:Nq)(t:TA):Prop:=
 ∀(pos:Pos) (a7:Nd) (s:Ni) (σ:St) (H:Hp) (Q:List V→Hp→Prop),ZA H s→t σ H Q→ZF (spliced (backTo pos HM)) (AP X a7 σ Q) X.xe s
def PS(X:Cx)(st:Stmt)(t:TS):Prop:=
 ∀(a7:Nd) (s:Ni) (σ:St) (H:Hp) (D:Ends),ZA H s→t D σ H→ZF (exec st X.env) (Bo D) X.xe s
def PSs(X:Cx)(st:List Stmt)(t:TS):Prop:=
 ∀(a7:Nd) (s:Ni) (σ:St) (H:Hp) (D:Ends),ZA H s→t D σ H→ZF (execs st X.env) (Bo D) X.xe s
def thn{α:Type}{t:Sem α}{Q Q':α→Shared→Prop}{M:Model}{A:Np}{E:Nb}{s:Ni}(h:YD t Q E s)(hQ:∀a s,Q a s→Q' a s):YD t Q' E s:=MM hQ λ_ _ x=>x
section
variable{X:Cx}
def bin{a b:Expr}{ta tb:TE}(ha:T8)(hb:En){a7:Nd}{s:Ni}{σ:St}{H:Hp}{R:V→V→Hp→Prop}(I:Gj)(h:ta σ H λx H1=>tb σ H1 λy H2=>R x y H2){α:Type}{Q:α→Shared→Prop}{f:Value→Value→Sem α}(hf:∀v u s2 x y H2,ZA H2 s2→WM v→YE u→R x y H2→ZF Pp Q X.xe s2) :
  wpAny FE X.A (GX a) (λv s₁=>ZF (GX b) (λu s₂=>ZF Pp Q X.xe s₂) X.xe s₁) X.xe s:=by
 refine thn HG λv s1 ⟨x,H1,I1,r1,q1⟩=>?_;refine thn SZ λu s2 ⟨y,H2,I2,r2,q2⟩=>?_;exact hf v u s2 x y H2 I2 r1 r2 q2
inductive RVar(o:Option (Option V))(H:Hp)(Q:VK):Prop
 |mk (v:V) (e:o=some (some v)) (q:Q v H):RVar o H Q
def tVar(i:Nat):TE:=λ σ H Q=>RVar σ[i]? H Q
def tC(v:V):TE:=λ_ H Q=>Q v H
def pe_var{i:Nat}{x:Str}{pos:Pos}(hN:X.N[i]?=some x)(hv:Vq x)(hd:Gw=false:=by decide)(aS:(x==("__classdict__" : Str))=false:=by decide):QA EM (tVar i):=by
 intro a7 s σ H Q I h;obtain⟨v,e,h⟩:=h;obtain⟨m,hn,hl⟩:=I.loc;obtain⟨u,r,l⟩:=hl i x v hN e hv;have fin:QB Q u s:=⟨v,H,I,r,h⟩;rcases l with⟨hk,hm⟩|⟨hk,c,hc,ja⟩
 ·exact wpAny_Name (wpAny_loadName_local I.ok.kind hk hn hm fin) hd
 rcases hk with hk|hk
 ·exact wpAny_Name (wpAny_loadName_cell I.ok.kind hk hc ja fin) hd
 exact wpAny_Name (wpAny_loadName_free I.ok.kind hk hc ja fin aS) hd
def zah{i j pos}:QA (Al EN) (tC EN):=λ_ _ _ H _ I h=>wpAny_Constant_int ⟨EN,H,HI,⟨_,rfl⟩,h⟩
def zfg{b j pos}:QA (Al (.bool b)) (tC C0):=λ_ _ _ H _ I h=>Constant_bool ⟨C0,H,I,rfl,h⟩
def pe_non{j pos}:QA (.Constant .none j pos) (tC .non):=λ_ _ _ H _ I h=>Constant_none ⟨.non,H,I,rfl,h⟩
def za4{x j pos}:QA (Al TD) (tC TD):=λ_ _ _ H _ I h=>Calls.Constant_str ⟨TD,H,HI,⟨_,rfl⟩,h⟩
def Gl(X:Cx)(x:Str):Prop:=X.env.kindOf x=some .globalImplicit
def zef{E:Nb}{a7:Nd}{s:Ni}{σ:St}{H:Hp}{x:Str}{u:Value}{pos:Pos}{Q:Nb}(I:Gj)(hg:Mr x)(hm:X.mg x=some u)(h:Q u s)(hd:Gw=false:=by decide):ZF (GX EM) Q E s:=
 Calls.Name_function_global I.ok.kind hg (Calls.loadGlobal_global (by rw[I.ok.glob];exact I.mod.glob.keeps I.bk) hm h) hd
def ld_blt{E:Nb}{a7:Nd}{s:Ni}{σ:St}{H:Hp}{x:Str}{u:Value}{pos:Pos}{Q:Nb}(I:Gj)(hg:Mr x)(hm:X.mg x=none)(hv:bootBuiltins x=some u)(h:Q u s)(hn:x ≠ "__name__" :=by decide)(hd:Gw=false:=by decide):ZF (GX EM) Q E s:=by obtain⟨mb,h1,h2⟩:=I.mod.blt;exact Calls.Name_function_global I.ok.kind hg (Calls.loadGlobal_builtin (by rw[I.ok.glob];exact I.mod.glob.keeps I.bk) hm (by rw[I.ok.blt];exact h1.keeps I.bk) ((h2 x hn).trans hv) h) hd
def zea{x:Str}{v:V}{u:Value}{pos:Pos}(hg:Mr x)(hm:X.mg x=some u)(r:UQ u)(hd:Gw=false:=by decide):QA EM (tC v):=
 λ_ _ _ H _ I h=>Bp ⟨v,H,I,r,h⟩ hd
variable{a b:Expr}{ta tb:TE}{pos:Pos}
def PC(X:Cx)(op:CmpOp)(a b:Expr)(t:TE):Prop:=
 ∀(a7:Nd) (s:Ni) (σ:St) (H:Hp) (Q:VK),ZA H s→t σ H Q →
  wpAny FE X.A (GX a) (λv s₁=>ZF (GX b) (λu s₂=>ZF (compareOp op v u) Tl X.xe s₂) X.xe s₁) X.xe s
inductive RB(x:V)(H:Hp)(Q:Bool→Hp→Prop):Prop
 |mk (c:Bool) (e:x=.bl c) (q:Q c H):RB x H Q
def tB(t:TE):TT:=λ σ H Q=>t σ H λx H1=>RB x H1 Q
def pt_cmp{op:CmpOp}{t:TE}(h:PC X op a b t)(h1:behindInMarks op b=false:=by first|exact nobehind _ Fw Fw|rfl):Vs (.Compare a [op] [b] pos) (tB t):=by intro a7 s σ H Q I hw;refine wpAny_isTrue_Compare1 (thn (Cc _ hw) λv s1 h1=>thn h1 λu s2 h2=>thn h2 λc s3 ⟨x,H1,I1,r1,q1⟩=>?_) h1;obtain⟨d,rfl,q⟩:=q1;cases r1;exact wpAny_truthy_bool ⟨H1,I1,q⟩
def zeu{e:Expr}{t:TE}(h:QA e t)(he:∀whole,isTrue e X.env whole=(do let v ←whole;standAt e.pos;holding [v] I0):=by intro _;rfl):Vs e (tB t):=by
 intro a7 s σ H Q I hw;refine isTrue_plain (thn (Cc _ hw) λv s1 ⟨x,H1,I1,r1,q1⟩=>?_) (he _);obtain⟨d,rfl,q⟩:=q1;cases r1;exact wpAny_truthy_bool ⟨H1,I1,q⟩
variable{tA pG:TT}{rest:Nq}
def tAnd(t u:TT):TT:=λ σ H Q=>t σ H λc H1=>if c=true then u σ H1 Q else Q false H1
def tOr(t u:TT):TT:=λ σ H Q=>t σ H λc H1=>if c=true then Q true H1 else u σ H1 Q
def tNot(t:TT):TT:=λ σ H Q=>t σ H λc H1=>Q (!c) H1
def zgi(ha:AS):PW X (.BoolOp .And [a] pos) tA:=by
 intro wh a7 s σ H Q I h;refine isTrue_and (thn Am λc s1 e=>?_);cases c with
 |true=>exact isTrue_and_nil e
 |false=>exact e
def zhl(ha:AS):PW X (.BoolOp .Or [a] pos) tA:=by
 intro wh a7 s σ H Q I h;refine isTrue_or (thn Am λc s1 e=>?_);cases c with
 |false=>exact isTrue_or_nil e
 |true=>exact e
def pw_and(ha:AS)(hb:PW X (.BoolOp .And (b::rest) pos) pG):PW X (.BoolOp .And (a::b::rest) pos) (tAnd tA pG):=by
 intro wh a7 s σ H Q I h;refine isTrue_and (thn HG λc s1 ⟨H1,I1,q1⟩=>?_);cases c with
 |true=>exact hb wh a7 s1 σ H1 Q I1 q1
 |false=>exact⟨H1,I1,q1⟩
def pw_or(ha:AS)(hb:PW X (.BoolOp .Or (b::rest) pos) pG):PW X (.BoolOp .Or (a::b::rest) pos) (tOr tA pG):=by
 intro wh a7 s σ H Q I h;refine isTrue_or (thn HG λc s1 ⟨H1,I1,q1⟩=>?_);cases c with
 |true=>exact⟨H1,I1,q1⟩
 |false=>exact hb wh a7 s1 σ H1 Q I1 q1
def zfs(ha:AS):Vs (.UnaryOp .Not a pos) (tNot tA):=by intro a7 s σ H Q I h;exact isTrue_not (wpAny_mono (ha a7 s σ H (λc H1=>Q (!c) H1) I h) (λc s2 z=>by obtain⟨a,b,d⟩:=z;exact⟨a,b,d⟩) λ_ _ e=>e)
def tAndV(ta tb:TE):TE:=λ σ H Q=>ta σ H λx H1=>RB x H1 λc H1=>if c=true then tb σ H1 Q else Q RZ H1
def pe_one{op}{t:TE}(h:QA a t):QA (.BoolOp op [a] pos) t:=λa7 s σ H Q I hw=>BoolOp_one (Cc Q hw)
def pe_and(ha:T8)(hb:QA (.BoolOp .And (b::rest) pos) tb):QA (.BoolOp .And (a::b::rest) pos) (tAndV ta tb):=by
 intro a7 s σ H Q I h;refine BoolOp_and (thn HG λv s1 ⟨x,H1,I1,r1,q1⟩=>?_);obtain⟨c,rfl,q1⟩:=q1;cases r1;refine wpAny_truthy_bool ?_;cases c with
 |true=>exact hb a7 s1 σ H1 Q I1 q1
 |false=>exact⟨RZ,H1,I1,rfl,q1⟩
def tIf(t:TT)(ta tb:TE):TE:=λ σ H Q=>t σ H λc H1=>if c=true then ta σ H1 Q else tb σ H1 Q
def pe_ifExp{c:Expr}(hc:Vs c tA)(ha:T8)(hb:En):QA (.IfExp c a b pos) (tIf tA ta tb):=by
 intro a7 s σ H Q I h;refine wpAny_IfExp (thn An λd s1 ⟨H1,I1,q1⟩=>?_);cases d with
 |true=>exact ha a7 s1 σ H1 Q I1 q1
 |false=>exact hb a7 s1 σ H1 Q I1 q1
def SqL(K:Na)(H:Hp)(a:Nc)(xs:List V):Prop:=
 Rd H a Sk ∨
  ∃(o:Obj) (a8:Array Value) (n:Nat),K.lookup a=some o∧o.cls=.type "list" ∧ o.dict=none∧o.data=.seq a8 n∧a8.size≤sizeLine∧QZ a8.toList
def SqT(K:Na)(H:Hp)(a:Nc)(xs:List V):Prop:=
 Rd H a Rl ∨
  ∃(o:Obj) (a8:Array Value) (n:Nat),K.lookup a=some o∧o.cls=.type "tuple" ∧ o.data=.seq a8 n∧a8.size≤sizeLine∧QZ a8.toList
end
def absV:Value→Option V
 |.none=>some .non
 |.bool b=>some C0
 |.int i _=>some EN
 |.str x _=>some TD
 |.bytes b _=>some (.byt b)
 |.float b _=>some (.flt b)
 |.ref a=>some Ht
 |.type n=>some (.ty n)
 |_=>none
def RelV.abs{x:V}{u:Value}(r:WM u):absV u=some x:=by
 cases x with
 |non=>cases r;rfl
 |bl _=>cases r;rfl
 |int _=>obtain⟨t,rfl⟩:=r;rfl
 |str _=>obtain⟨t,rfl⟩:=r;rfl
 |byt _=>obtain⟨t,rfl⟩:=r;rfl
 |flt _=>obtain⟨t,rfl⟩:=r;rfl
 |ref _=>cases r;rfl
 |ty _=>cases r;rfl
def RelV.inj{x y:V}{u:Value}(r:WM u)(q:YE u):x=y:=Qq (r.abs.symm.trans q.abs)
theorem Vals.inj:∀{xs ys:List V} {us:Nj},QZ us→Y2 us→xs=ys
 |_,_,_,.nil,.nil=>rfl
 |_,_,_,.cons r t,.cons r' t'=>by rw[r.inj r',Vals.inj t t']
section
variable{X:Cx}{a7:Nd}{σ:St}{H:Hp}{s:Ni}{a:Nc}{xs ys:List V}
def SqL.of{K:Na}(h:H a=some Sk):WW xs:=.inl Oa
def SqT.of{K:Na}(h:H a=some Rl):UB a xs:=.inl Oa
def Inv.list(I:Gj)(h:WG a xs):∃a8:List Value,QZ a8∧PlainL s.heap a a8.toArray∧xs.length≤sizeLine:=by
 rcases h with h|⟨o,a8,n,hk,hc,hd,hs,hz,r⟩
 ·obtain⟨z,a8,n,r,e⟩:=h.ok I.hok;exact⟨a8,r,⟨_,n,e,rfl,rfl,rfl⟩,z⟩
 refine⟨a8.toList,r,⟨o,n,I.kIn a o hk,hc,hd,Fv hs⟩,?_⟩;have e:=r.length;simp only[Yb]at e;lia
def Inv.tuple(I:Gj)(h:Bz a xs):∃a8:List Value,QZ a8∧JU a a8.toArray∧xs.length≤sizeLine:=by
 rcases h with h|⟨o,a8,n,hk,hc,hs,hz,r⟩
 ·obtain⟨z,a8,r,p⟩:=h.ok I.hok;exact⟨a8,r,p,z⟩
 refine⟨a8.toList,r,⟨o,I.kIn a o hk,hc,n,Fv hs⟩,?_⟩;have e:=r.length;simp only[Yb]at e;lia
def Inv.list_inj(I:Gj)(h:WG a xs)(h':WG a ys):xs=ys:=by
 obtain⟨a8,r,⟨o,n,e,_,_,d⟩,_⟩:=I.list h;obtain⟨its',r',⟨o',n',e',_,_,d'⟩,_⟩:=I.list h';rw[e]at e';cases e';rw[d]at d';injection d' with d1 _;have:a8=its':=by simpa using congrArg Array.toList d1
 subst this;exact r.inj r'
def Inv.tuple_inj(I:Gj)(h:Bz a xs)(h':Bz a ys):xs=ys:=by
 obtain⟨a8,r,⟨o,e,_,n,d⟩,_⟩:=I.tuple h;obtain⟨its',r',⟨o',e',_,n',d'⟩,_⟩:=I.tuple h';rw[e]at e';cases e';rw[d]at d';injection d' with d1 _;have:a8=its':=by simpa using congrArg Array.toList d1
 subst this;exact r.inj r'
end
abbrev Cx.wish(X:Cx)(E:Nb):Cx:={X with xe:=E}
abbrev Cx.nox(X:Cx):Cx:=X.wish λ_ _=>False
def Cx.Ok.wish{X:Cx}(ok:X.Ok)(E:Nb):(X.wish E).Ok:=
 ⟨ok.mod,ok.kind,ok.glob,ok.blt,ok.above,ok.inj,ok.has,ok.cab,ok.hd,ok.frames,ok.stk,ok.exf,ok.bs,ok.bsz,ok.noex,ok.exfs,ok.funs,ok.frf⟩
def Cx.Ok.unwish{X:Cx}{E:Nb}(ok:(X.wish E).Ok):X.Ok:=
 ⟨ok.mod,ok.kind,ok.glob,ok.blt,ok.above,ok.inj,ok.has,ok.cab,ok.hd,ok.frames,ok.stk,ok.exf,ok.bs,ok.bsz,ok.noex,ok.exfs,ok.funs,ok.frf⟩
section
variable{X:Cx}{a7:Nd}{σ:St}{H:Hp}{s:Ni}{E:Nb}
def Inv.wish(I:Gj)(E:Nb):MN s:=⟨I.ok.wish E,I.os,I.bare,I.base,I.loc,I.cell,I.free,I.freeC,I.pin,I.hok,I.len⟩
def Inv.unwish(I:MN s):ZA H s:=⟨I.ok.unwish,I.os,I.bare,I.base,I.loc,I.cell,I.free,I.freeC,I.pin,I.hok,I.len⟩
def SP.unwish{D:Ends}{f:Flow}{s':Ni}(h:SP (X.wish E) a7 D f s'):Bo D f s':=by
 cases f with
 |next=>obtain⟨σ',H',I,q⟩:=h;exact⟨σ',H',I.unwish,q⟩
 |brk=>obtain⟨σ',H',I,q⟩:=h;exact⟨σ',H',I.unwish,q⟩
 |cont=>obtain⟨σ',H',I,q⟩:=h;exact⟨σ',H',I.unwish,q⟩
 |ret u=>obtain⟨v,σ',H',I,r,q⟩:=h;exact⟨v,σ',H',I.unwish,r,q⟩
def PSs.nox{st:List Stmt}{t:TS}(h:PSs X.nox st t):VG st t:=λa7 s σ H D I hw=>wpAny_mono (h a7 s σ H D (I.wish _) hw) (λ_ _ q=>q.unwish) λ_ _ z=>False.elim z
variable{st:Stmt}{rest:List Stmt}{t u:TS}{e:Expr}{te:TE}{pos:Pos}
def tNext:TS:=λD σ H=>W8 H
def tSeq(t u:TS):TS:=λD σ H=>t {D with nx:=u D} σ H
def zaw:VG [] tNext:=λ_ _ σ H _ I h=>wpAny_execs_nil ⟨σ,H,I,h⟩
def zae(h1:KO st t)(h2:VG rest u):VG (st::rest) (tSeq t u):=by
 intro a7 s σ H D I h;refine wpAny_execs_cons (thn (h1 a7 s σ H {D with nx:=u D} I h) λf s1 q=>?_);cases f with
 |next=>obtain⟨σ',H',I',q⟩:=q;exact h2 a7 s1 σ' H' D I' q
 |ret v=>exact q
 |brk=>exact q
 |cont=>exact q
def zag(h1:KO st t):VG [st] t:=by
 intro a7 s σ H D I h;refine wpAny_execs_cons (thn (h1 a7 s σ H D I h) λf s1 q=>?_);cases f with
 |next=>exact wpAny_execs_nil q
 |ret v=>exact q
 |brk=>exact q
 |cont=>exact q
def Inv.quiet{a7:Nd}{σ:St}{H:Hp}{s:Ni}(I:Gj):interactive X.env=false:=by simp[interactive,I.ok.kind]
def tDrop(te:TE):TS:=λD σ H=>te σ H λ_ H1=>W8 H1
def za2(he:Cy)(hs:swapsWith e none pos.line X.env=pure false:=by rfl):KO (.Expr e pos) (tDrop te):=by intro a7 s σ H D I h;exact wpAny_Expr_any (thn Rv λv s1 ⟨x,H1,I1,r1,q1⟩=>⟨σ,H1,I1,q1⟩) I.quiet hs
def tRet(te:TE):TS:=λD σ H=>te σ H D.rt
def za9(he:Cy):KO (.Return (He e) pos) (tRet te):=by intro a7 s σ H D I h;exact wpAny_Return_some (thn Rv λv s1 ⟨x,H1,I1,r1,q1⟩=>⟨x,σ,H1,I1,r1,q1⟩)
def tRetN:TS:=λD _ H=>D.rt .non H
def ps_retN:KO (.Return none pos) tRetN:=λ_ _ σ H _ I h=>wpAny_Return_none ⟨.non,σ,H,I,rfl,h⟩
def tIfS(c:TT)(t u:TS):TS:=λD σ H=>c σ H λb H1=>if b=true then t D σ H1 else u D σ H1
def zbt{c:Expr}{a b:List Stmt}{tc:TT}(hc:Vs c tc)(ha:VG a t)(hb:VG b u):KO (.If c a b pos) (tIfS tc t u):=by
 intro a7 s σ H D I h;refine wpAny_If (thn An λd s1 ⟨H1,I1,q1⟩=>?_);cases d with
 |true=>exact ha a7 s1 σ H1 D I1 q1
 |false=>exact hb a7 s1 σ H1 D I1 q1
abbrev TG:=V→St→Hp→(St→Hp→Prop)→Prop
abbrev TGs:=List V→St→Hp→(St→Hp→Prop)→Prop
def PG(X:Cx)(target:Expr)(t:TG):Prop:=
 ∀(a7:Nd) (s:Ni) (σ:St) (H:Hp) (v:V) (u:Value) (Q:St→Hp→Prop),ZA H s→UQ u→t v σ H Q →
  wpAny FE X.A (assign target X.env u) (λ_ s'=>Ex2 λ σ' H'=>UE (Q σ' H')) X.xe s
def PGs(X:Cx)(ts:Nq)(t:TGs):Prop:=
 ∀(a7:Nd) (s:Ni) (σ:St) (H:Hp) (vs:List V) (us:Nj) (Q:St→Hp→Prop),ZA H s→MO us→t vs σ H Q →
  wpAny FE X.A (assignInOrder ((Sc ts).map (·.2)) us) (λ_ s'=>Ex2 λ σ' H'=>UE (Q σ' H')) X.xe s
abbrev TSet:=V→V→V→Hp→(Hp→Prop)→Prop
def PSet(X:Cx)(t:TSet):Prop:=
 ∀(a7:Nd) (s:Ni) (σ:St) (H:Hp) (o i v:V) (ov iv u:Value) (Q:Hp→Prop),ZA H s→RelV o ov→RelV i iv→UQ u→t o i v H Q →
  wpAny FE X.A (setItem ov iv u) (λ_ s'=>∃H',ZA H' s'∧Q H') X.xe s
def gName(i:Nat):TG:=λv σ H Q=>Q EL H
def zgk{i:Nat}{x:Str}(hN:X.N.Nodup)(hi:X.N[i]?=some x)(hx:UA x)(hf:X.fn x=true∨X.env.scope.names.lookup x=some .local:=by first|exact .inl rfl|exact .inr rfl|assumption):Dl C1:=by intro a7 s σ H v u Q I r h;exact wpAny_assign_Name (zh9 I hN hi hx r (λs' I'=>⟨_,H,I',h⟩) hf)
def gNil:TGs:=λvs σ H Q=>vs=[]∧Q σ H
end
section
variable{X:Cx}{pos:Pos}
inductive RGC(vs:List V)(R:V→List V→Prop):Prop
 |mk (v:V) (r:List V) (e:vs=v::r) (q:R v r):RGC vs R
def gCons(t:TG)(u:TGs):TGs:=λvs σ H Q=>RGC vs λv r=>t v σ H λ σ' H'=>u r σ' H' Q
def zb3:PGs X [] gNil:=by intro a7 s σ H vs us Q I r h;obtain⟨e,h⟩:=h;subst e;cases r;exact assignInOrder_nil ⟨σ,H,I,h⟩
def zat{e:Expr}{es:Nq}{t:TG}{u:TGs}(h1:PG X e t)(h2:ND u)(hs:(assignEach (e::es) X.env).map (·.2)=assign e X.env::(Sc es).map (·.2):=by rfl):PGs X (e::es) (gCons t u):=by
 intro a7 s σ H vs us Q I r h;obtain⟨v,vr,e1,h⟩:=h;subst e1;cases r with
 |cons r rr=>rw[hs];refine assignInOrder_cons (thn (h1 a7 s σ H _ _ _ I r h) λ_ s1 ⟨σ1,H1,I1,q1⟩=>?_);exact h2 a7 s1 σ1 H1 _ _ Q I1 rr q1
inductive RGT(K:Na)(n:Nat)(v:V)(H:Hp)(R:List V→Prop):Prop
 |mk (a:Nc) (xs:List V) (e:v=.ref a) (s:SqT K H a xs) (l:xs.length=n) (q:R xs):RGT K n v H R
def gTup(K:Na)(n:Nat)(t:TGs):TG:=λv σ H Q=>RGT K n v H λxs=>t xs σ H Q
def zev{es:Nq}{k:Nat}{t:TGs}{n:Nat}(hc:X.calm=true)(h:ND t)(hn:(Sc es).length=n:=by rfl)(ax:(Sc es).findIdx? (·.1)=none:=by rfl):BK (gTup X.K n t):=by intro a7 s σ H v u Q I r hw;obtain⟨a,xs,e1,hq,hl,hw⟩:=hw;subst e1;cases r;obtain⟨a8,rv,ht,hz⟩:=I.tuple hq;refine assign_Tuple_tuple RT ht (by simp[hn,←hl,rv.length]) ax λh' hx=>?_;have I1:ZA H {s with heap:=h'}:=I.kept (t':=s.toks) λb o e=>hx b o Ec e;exact h a7 _ σ H xs _ Q I1 (Fv rv) hw
def gSub(to ti:TE)(t:TSet):TG:=λv σ H Q=>to σ H λo H1=>ti σ H1 λi H2=>t o i v H2 λH3=>Q σ H3
def zgj{o i:Expr}{to ti:TE}{t:TSet}(ho:QA o to)(hi:QA i ti)(hs:PSet X t)(ha:∀ v,assign Ao X.env v=(do
   let ov ←holding [v] (GX o);let iv ←holding [v,ov] (GX i)
   standAt pos
   holding [v,ov,iv] (setItem ov iv v)
   release [v,ov,iv] []):=by intro _;rfl):PG X Ao (gSub to ti t):=by
 intro a7 s σ H v u Q I r h;rw[ha];refine wpAny_bind (wpAny_holding (thn SE λov s1 ⟨x,H1,I1,r1,q1⟩=>?_));refine wpAny_bind (wpAny_holding (thn OW λiv s2 ⟨y,H2,I2,r2,q2⟩=>?_));refine wpAny_bind (wpAny_standAt (wpAny_bind (wpAny_holding (thn (hs a7 s2 σ H2 x y v ov iv u _ I2 r1 r2 r q2) λ_ s3 ⟨H3,I3,q3⟩=>?_))));exact wpAny_release ⟨σ,H3,I3,q3⟩
def tAsg(te:TE)(g:TG):TS:=λD σ H=>te σ H λx H1=>g x σ H1 D.nx
def zft{tg e:Expr}{te:TE}{g:TG}(he:Cy)(hg:PG X tg g)(hs:swapsWithSole [tg] e pos.line X.env=pure false:=by rfl)(hw:swappedStores [tg] e X.env=pure none:=by rfl)(h1:(assignEach [tg] X.env).map (·.2)=[assign tg X.env]:=by rfl):KO (.Assign [tg] e pos) (tAsg te g):=by intro a7 s σ H D I h;refine wpAny_Assign_stores (thn Rv λv s1 ⟨x,H1,I1,r1,q1⟩=>?_) hs hw;rw[h1];exact thn (hg a7 s1 σ H1 x v _ I1 r1 q1) λ_ s2 q=>q
def ps_set{i:Nat}{x:Str}{e:Expr}{te:TE}{aW:Pos}(hN:X.N.Nodup)(hi:X.N[i]?=some x)(hx:UA x)(he:Cy)(hs:swapsWith e (He (Sb aW)) pos.line X.env=pure false:=by rfl)(hf:X.fn x=true∨X.env.scope.names.lookup x=some .local:=by first|exact .inl rfl|exact .inr rfl|assumption) :
  PS X (.Assign [Sb aW] e pos) (tAsg te C1):=by
 intro a7 s σ H D I h;refine wpAny_Assign_Name (thn Rv λv s1 ⟨y,H1,I1,r1,q1⟩=>?_) hs;exact zh9 I1 hN hi hx r1 (λs2 I2=>⟨_,H1,I2,q1⟩) hf
def tWhile(c:TT)(tb:TS):TS:=λD σ H=>∃W:Nat→St→Hp→Prop,(∃m,W m σ H)∧∀m σ H,W m σ H →
 c σ H λb H1=>if b=true then ∃N:St→Hp→Prop,(∀σ' H',N σ' H'→∃m',m'<m∧W m' σ' H')∧tb {D with nx:=N,ct:=N,bk:=D.nx} σ H1 else W8 H1
def zdw{c:Expr}{body:List Stmt}{tc:TT}{tb:TS}(hp:B7 X.xe)(hc:Vs c tc)(hb:VG body tb):KO (.While c body [] pos) (tWhile tc tb):=by
 intro a7 s σ H D I h;obtain⟨W,⟨m0,w0⟩,turn⟩:=h;refine wpAny_While (codeAny_whileLoop (λn s'=>∃σ' H',ZD σ' H' s'∧W n σ' H') ?_ m0 ⟨σ,H,I,w0⟩);rintro n s1 ⟨σ1,H1,I1,w1⟩;refine WR (thn (hc a7 s1 σ1 H1 _ I1 (turn n σ1 H1 w1)) λb s2 ⟨H2,I2,q2⟩=>?_);cases b with
 |true=>
  obtain⟨N,hN,q2⟩:=q2;rw[if_pos rfl];refine WR (thn (hb a7 s2 σ1 H2 _ I2 q2) λf s3 q3=>?_);cases f with
  |next=>obtain⟨σ3,H3,I3,n3⟩:=q3;obtain⟨m',hm,w3⟩:=hN σ3 H3 n3;exact⟨m',hm,σ3,H3,I3,w3⟩
  |cont=>obtain⟨σ3,H3,I3,n3⟩:=q3;obtain⟨m',hm,w3⟩:=hN σ3 H3 n3;exact⟨m',hm,σ3,H3,I3,w3⟩
  |brk=>exact q3
  |ret v=>exact q3
 |false=>rw[if_neg Zb];exact wpAny_execs_nil ⟨σ1,H2,I2,q2⟩
structure It where
 go:Nat→Hp→Prop
 yld:Nat→Hp→V→Hp→Prop
 stop:Nat→Hp→Prop
def FpOk(X:Cx)(a7:Nd)(H:Hp)(b:Nc):Prop:=
 H b=none∧b≠X.env.locals∧b∉X.fs∧(b∈X.ex∨X.s₀.heap.objs.size≤b)∧(∀x c,X.env.cells.lookup x=some c→c≠b)∧∀p∈X.pn++a7,p.1≠b
def Inv.fpOk{X:Cx}{a7:Nd}{σ:St}{H H':Hp}{s:Ni}{b:Nc}(I:Gj)(hb:s.heap.objs.size≤b)(hn:H' b=none):FpOk X a7 H' b:=by
 refine⟨hn,Wd (Zx I.lt hb),I.nofs hb,Ru (Zf I.sz hb),λx c e z=>?_,λp hp z=>?_⟩
 ·obtain⟨v,q⟩:=U4 e;exact absurd (Zx q.lt (FA z hb)) Iq
 exact absurd (Zx (Qu (YS hp).1) (FA z hb)) Iq
end
structure Turn(P:Nk)(w:Nn)(K:Na)(tg:Expr)(J:It)(fp:Nl)(it:Nc)(tn:Nat→Heap→Prop):Prop where
 mem:it∈fp
 obj:∀i h,tn i h→∀b∈fp,∃o,h.get? b=some o∧∀v,o.data≠.cell v
 keep:∀i h h',tn i h→(∀b∈fp,∀o,h.get? b=some o→h'.get? b=some o)→tn i h'
 item:∀(X:Cx),X.prog=P→X.w=w→X.K=K→X.calm=true→∀(i:Nat) (a7:Nd) (s:Ni) (σ:St) (H:Hp) (E:Nb),ZA H s→(∀b∈fp,QL b)→tn i s.heap→Dm H →
  wpAny Sr X.A LQ (λr s1=>∃u,r=some u ∧
   wpAny Sr X.A LJ (λ_ s2=>∃x H',ZA H' s2∧WM u∧B8 H'∧tn Gr s2.heap∧∀b∈fp,H' b=none) E s1) E s
 done:∀(X:Cx),X.prog=P→X.w=w→X.K=K→X.calm=true→∀(i:Nat) (a7:Nd) (s:Ni) (σ:St) (H:Hp) (E:Nb),ZA H s→(∀b∈fp,QL b)→tn i s.heap→VH H →
  wpAny Sr X.A LQ (λr s1=>r=none∧ZA H s1) E s
 self:∀(A:Np) (i:Nat) (s:Ni) (Q:Nb) (E:Nb),tn i s.heap→Q Rr s→BL s
abbrev TI:=St→Hp→(It→Hp→Prop)→Prop
inductive PIE(X:Cx)(a7:Nd)(σ:St)(tg:Expr)(R:It→Hp→Prop)(itv:Value)(s2:Ni):Prop
 |mk (it:Nc) (fp:Nl) (tn:Nat→Heap→Prop) (J:It) (H':Hp) (h0:itv=.ref it) (h1:Inv X a7 σ H' s2) (h2:Turn X.prog X.w X.K tg J fp it tn) (h3:tn 0 s2.heap) (h4:(∀b∈fp,FpOk X a7 H' b)) (h5:R J H'):PIE X a7 σ tg R itv s2
def PI(X:Cx)(tg iter:Expr)(wi:TI):Prop:=
 ∀(a7:Nd) (s:Ni) (σ:St) (H:Hp) (R:It→Hp→Prop),ZA H s→wi σ H R →
  wpAny FE X.A LR (λv s1=>ZF (pyIter v) (PIE X a7 σ tg R) X.xe s1) X.xe s
def go_of{M:Model}{A:Np}{E:Nb}{s:Ni}{tg:Expr}{it:Nc}{u:Value}{o:Obj}{n:String}{vs:Array Value}{Q:Unit→Shared→Prop}(ho:s.heap.get? it=some o)(hc:o.cls=.type n)(hd:o.data=.fields vs)(hn:["enumerate", "zip", "dict_itemiterator", "dict_reverseitemiterator", "odict_iterator", "itertools.zip_longest", "itertools.pairwise"].contains n=false)(hQ:Q () s):YD LJ Q E s:=by
 unfold letOwnedTupleGo;cases tg <;> first
  |exact wpAny_pure hQ
  | (cases u <;> first
    |exact wpAny_pure hQ
    | (refine wpAny_bind (wpAny_load ho ?_)
       rw[hc,hd];show YD (if(["enumerate", "zip", "dict_itemiterator", "dict_reverseitemiterator", "odict_iterator", "itertools.zip_longest", "itertools.pairwise"].contains n&&vs[0]?==some (L8 _))=true then _ else _) Q E s;rw[if_neg (by intro h;rw[hn,Bool.false_and]at h;cases h)];exact wpAny_pure hQ))
def Itl(K:Na)(a:Nc):It:=
 ⟨λi H=>∃xs x,WW xs∧xs[i]?=some x,λi H x H'=>H'=H∧∀xs,WW xs→xs[i]?=some x,λi H=>∃xs,WW xs∧xs.length≤i⟩
def Itt(K:Na)(a:Nc):It:=
 ⟨λi H=>∃xs x,UB a xs∧xs[i]?=some x,λi H x H'=>H'=H∧∀xs,UB a xs→xs[i]?=some x,λi H=>∃xs,UB a xs∧xs.length≤i⟩
def Itr(lo:Int)(n:Nat):It:=⟨λi _=>i<n,λi H x H'=>H'=H∧x=.int (lo+i),λi _=>n≤i⟩
theorem zek{P:Nk}{w:Nn}{K:Na}{tg:Expr}(a it:Nc):XY Pq [it] it (λi h=>h.IsListIter it a i) where
 mem:=by simp
 obj:=λi h st b hb=>by
  have e:b=it:=by simpa using hb
  subst e;obtain⟨o,e,c,d⟩:=st;exact⟨o,e,λv z=>by rw[d]at z;cases z⟩
 keep:=λi h h' st k=>st.at λo e=>k it Fr o e
 item:=by intro X hP hw hK hc i a7 s σ H E I hf st hg;subst hP hw hK;obtain⟨xs,x,hq,hx⟩:=hg;obtain⟨a8,rv,p,hz⟩:=I.list hq;obtain⟨u,hu,ru⟩:=rv.get hx;obtain⟨f0,f1,f2,f3,f4,f5⟩:=hf it Fr;refine Bm p.isList (x:=u) (Fv hu) λh' a9 sb=>?_;have I1:ZA H {s with heap:=h'}:=I.turned (t':=s.toks) (λb o hb e=>(sb.2 b hb).trans e) f0 f1 f3 f4 f5;obtain⟨o,e,c,d⟩:=id a9;exact⟨u,rfl,go_of (s:={s with heap:=h'}) e c d Fw ⟨x,H,I1,ru,⟨rfl,λys hy=>by rw[I.list_inj hy hq];exact hx⟩,a9,λb hb=>(hf b hb).1⟩⟩
 done:=by intro X hP hw hK hc i a7 s σ H E I hf st hg;subst hP hw hK;obtain⟨xs,hq,hx⟩:=hg;obtain⟨a8,rv,p,hz⟩:=I.list hq;obtain⟨f0,f1,f2,f3,f4,f5⟩:=hf it Fr;have hl:=rv.length;exact wpAny_pyNext_list_end RT st p.isList (by simp;exact zd2 ‹_› ‹_›) λh' eb=>⟨rfl,I.turned (t':=s.toks) (λb o hb e=>eb b o hb e) f0 f1 f3 f4 f5⟩
 self:=λ_ _ _ _ _ st h=>wpAny_pyIter_listiter st h
theorem turn_tuple{P:Nk}{w:Nn}{K:Na}{tg:Expr}(a it:Nc):XY (DF a) [it] it (λi h=>h.IsTupleIter it a i) where
 mem:=by simp
 obj:=λi h st b hb=>by
  have e:b=it:=by simpa using hb
  subst e;obtain⟨o,e,c,d⟩:=st;exact⟨o,e,λv z=>by rw[d]at z;cases z⟩
 keep:=λi h h' st k=>st.at λo e=>k it Fr o e
 item:=by intro X hP hw hK hc i a7 s σ H E I hf st hg;subst hP hw hK;obtain⟨xs,x,hq,hx⟩:=hg;obtain⟨a8,rv,p,hz⟩:=I.tuple hq;obtain⟨u,hu,ru⟩:=rv.get hx;obtain⟨f0,f1,f2,f3,f4,f5⟩:=hf it Fr;refine wpAny_pyNext_tuple_item st (show s.heap.IsTuple a a8.toArray from p) (x:=u) (Fv hu) λh' a9 sb=>?_;have I1:ZA H {s with heap:=h'}:=I.turned (t':=s.toks) (λb o hb e=>(sb.2 b hb).trans e) f0 f1 f3 f4 f5;obtain⟨o,e,c,d⟩:=id a9;exact⟨u,rfl,go_of (s:={s with heap:=h'}) e c d Fw ⟨x,H,I1,ru,⟨rfl,λys hy=>by rw[I.tuple_inj hy hq];exact hx⟩,a9,λb hb=>(hf b hb).1⟩⟩
 done:=by intro X hP hw hK hc i a7 s σ H E I hf st hg;subst hP hw hK;obtain⟨xs,hq,hx⟩:=hg;obtain⟨a8,rv,p,hz⟩:=I.tuple hq;obtain⟨f0,f1,f2,f3,f4,f5⟩:=hf it Fr;have hl:=rv.length;exact wpAny_pyNext_tuple_end RT st (show s.heap.IsTuple a a8.toArray from p) (by simp;exact zd2 ‹_› ‹_›) λh' eb=>⟨rfl,I.turned (t':=s.toks) (λb o hb e=>eb b o hb e) f0 f1 f3 f4 f5⟩
 self:=λ_ _ _ _ _ st h=>wpAny_pyIter_tupleiter st h
theorem turn_range{P:Nk}{w:Nn}{K:Na}{tg:Expr}(it:Nc)(lo:Int)(n:Nat):XY (Do n) [it] it (λi h=>IsRangeIter h it (lo+(i:Nat)*1) ((n:Int)-(i:Nat)) 1) where
 mem:=by simp
 obj:=λi h st b hb=>by
  have e:b=it:=by simpa using hb
  subst e;exact⟨_,st,λv z=>by have z':Data.fields _=Data.cell v:=z;cases z'⟩
 keep:=λi h h' st k=>k it Fr _ st
 item:=by intro X hP hw hK hc i a7 s σ H E I hf st hg;subst hP hw hK;obtain⟨f0,f1,f2,f3,f4,f5⟩:=hf it Fr;have W:=Walks.range (prog:=X.prog) (w:=X.w) RT it lo 1 n;refine W.item i s _ _ hg st λv h' tk hv a9 kk=>?_;obtain⟨t,rfl⟩:=hv;have I1:ZA H {s with heap:=h',toks:=tk}:=I.turned (λb o hb e=>kk b o (Fv hb) e) f0 f1 f3 f4 f5;refine⟨A5,go_of (s:={s with heap:=h',toks:=tk}) (n:= "range_iterator") a9 rfl rfl Fw ⟨Rq (lo+i),H,I1,⟨t,?_⟩,⟨rfl,rfl⟩,a9,λb hb=>(hf b hb).1⟩⟩;rw[Int.mul_one]
 done:=by intro X hP hw hK hc i a7 s σ H E I hf st hg;subst hP hw hK;obtain⟨f0,f1,f2,f3,f4,f5⟩:=hf it Fr;exact wpAny_pyNext_range_end RT st (by have:n≤i:=hg;lia) λh' eb=>⟨rfl,I.turned (t':=s.toks) (λb o hb e=>eb b o hb e) f0 f1 f3 f4 f5⟩
 self:=λ_ _ _ _ _ st h=>wpAny_pyIter_rangeiter st h
section
variable{X:Cx}{tg:Expr}
inductive RI1(x:V)(S R:Addr→Prop):Prop
 |mk (a:Nc) (e:x=.ref a) (s:S a) (q:R a):RI1 x S R
def iList(K:Na)(tl:TE):TI:=λ σ H R=>tl σ H λx H1=>RI1 x (λa=>∃xs,SqL K H1 a xs) λa=>R Pq H1
def iTup(K:Na)(tl:TE):TI:=λ σ H R=>tl σ H λx H1=>RI1 x (λa=>∃xs,SqT K H1 a xs) λa=>R (DF a) H1
def zaz{l:Expr}{tl:TE}(hl:OP):JV l (iList X.K tl):=by
 intro a7 s σ H R I h;refine thn SH λv s1 ⟨x,H1,I1,r1,q1⟩=>?_;obtain⟨a,e,⟨xs,hq⟩,q⟩:=q1;subst e;cases r1;obtain⟨a8,rv,p,hz⟩:=I1.list hq;refine VI ?_;refine⟨s1.heap.objs.size,[s1.heap.objs.size],_,_,H1,rfl,I1.kept (t':=s1.toks) λb o e=>QS e,zek a _,⟨_,RY,rfl,rfl⟩,λb hb=>?_,q⟩;have e:b=s1.heap.objs.size:=by simpa using hb
 subst e;exact J7 SA
def pi_tup{l:Expr}{tl:TE}(hl:OP):JV l (iTup X.K tl):=by
 intro a7 s σ H R I h;refine thn SH λv s1 ⟨x,H1,I1,r1,q1⟩=>?_;obtain⟨a,e,⟨xs,hq⟩,q⟩:=q1;subst e;cases r1;obtain⟨a8,rv,p,hz⟩:=I1.tuple hq;refine wpAny_pyIter_tuple (show s1.heap.IsTuple a a8.toArray from p) ?_;refine⟨s1.heap.objs.size,[s1.heap.objs.size],_,_,H1,rfl,I1.kept (t':=s1.toks) λb o e=>QS e,turn_tuple a _,⟨_,RY,rfl,rfl⟩,λb hb=>?_,q⟩;have e:b=s1.heap.objs.size:=by simpa using hb
 subst e;exact J7 SA
def range_it{a7:Nd}{σ:St}{H:Hp}{s:Ni}{R:It→Hp→Prop}{E:Nb}{lo hi:Int}{t u v:Tok}{tk:Nat}(I:Gj)(h1:-(2 ^ 62)≤lo)(h2:lo<2 ^ 62)(h3:-(2 ^ 62)≤hi)(h4:hi<2 ^ 62)(q:R (Do (hi-lo).toNat) H):ZF (pyIter FY) (PIE X a7 σ tg R) E {s with heap:=s.heap.push {cls:=.type "range",data:=.fields #[OM,ON,AR]},toks:=tk}:=by
 refine wpAny_pyIter_range (IsRange.new ..) (small_one h1 h2 h3 h4) ?_;have I1:ZA H {s with heap:=s.heap.push {cls:=.type "range",data:=.fields #[OM,ON,AR]},toks:=tk}:=I.kept λb o e=>QS e;refine⟨(s.heap.push {cls:=.type "range",data:=.fields #[OM,ON,AR]}).objs.size,[(s.heap.push {cls:=.type "range",data:=.fields #[OM,ON,AR]}).objs.size],_,_,H,rfl,
  I1.kept (t':=tk) λb o e=>QS e,turn_range _ lo (hi-lo).toNat,?_,λb hb=>?_,q⟩
 ·have e1:lo+((0:Nat):Int)*1=lo:=by simp
  have e2:(((hi-lo).toNat:Nat):Int)-((0:Nat):Int)=Builtin.Range.rangeSize lo hi 1:=by rw[rangeSize_one];split<;>lia
  show IsRangeIter _ _ (lo+((0:Nat):Int)*1) ((((hi-lo).toNat:Nat):Int)-((0:Nat):Int)) 1;rw[e1,e2];exact UN rfl
 have e:b=(s.heap.push { cls:=.type "range",data:=.fields #[OM,ON,AR] }).objs.size:=by simpa using hb
 subst e;exact J7 SA
inductive RR1(vs:List V)(R:Int→Prop):Prop
 |mk (j:Int) (e:vs=[.int j]) (l:-(2 ^ 62)≤j) (u:j<2 ^ 62) (q:R j):RR1 vs R
def iRng1(ta:TA):TI:=λ σ H R=>ta σ H λvs H1=>RR1 vs λj=>R (Itr 0 j.toNat) H1
def zcq{a:Expr}{ta:TA}{p pos:Pos}(hg:Mr "range")(hm:X.mg "range" = none)(ha:Vt [a] ta)(hs:starEach [a] X.env=[(false,GX a)]:=by rfl):JV (.Call (.Name "range" p) [a] [] pos) (iRng1 ta):=by
 intro a7 s σ H R I h;refine Call_ (J8 boot_range (Xh (thn Rt λus s1 ⟨vs,H1,I1,r1,q1⟩=>?_) hs rfl));obtain⟨j,e,q1,q2,q⟩:=q1;subst e;cases r1 with
 |cons r rr=>cases rr;obtain⟨t,rfl⟩:=r;exact call_range_1 (range_it I1 Fs Fs q1 q2 (Fv q))
def tFor(wi:TI)(g:TG)(tb:TS):TS:=λD σ H=>wi σ H λJ H1=>∃W:Nat→Nat→St→Hp→Prop,(∃m,W 0 m σ H1)∧∀i m σ H,W i m σ H →
 (VH H∧W8 H)∨(Dm H∧∃N:St→Hp→Prop,Gi∧∀x H',B8 H'→g x σ H' λ σ2 H2=>tb {D with nx:=N,ct:=N,bk:=D.nx} σ2 H2)
def zca(fp:Nl)(h:No):List (Addr×Obj):=fp.filterMap λb=>(h.get? b).map λo=>(b,o)
def zbo{fp:Nl}{h:No}{b:Nc}{o:Obj}(hb:b∈fp)(e:h.get? b=some o):(b,o)∈VJ h:=Xj.mpr ⟨b,hb,by rw[e];rfl⟩
def zex{fp:Nl}{h:No}{p:Addr×Obj}(hp:p∈VJ h):p.1∈fp∧h.get? p.1=some p.2:=by
 obtain⟨b,hb,e⟩:=Xj.mp hp;cases q:h.get? b with
 |none=>rw[q]at e;cases e
 |some o=>rw[q]at e;have e':(b,o)=p:=Qq e;subst e';exact⟨hb,q⟩
def Inv.pinned{a7:Nd}{σ:St}{H:Hp}{s:Ni}{fp:Nl}(I:Gj)(hf:∀b∈fp,QL b)(ho:∀b∈fp,∃o,s.heap.get? b=some o∧∀v,o.data≠.cell v):ZK (a7++VJ s.heap) σ H s:=
 I.pins_of λp hp=>(Qg.mp hp).elim (λz=>YS Pr) λz=>by obtain⟨hb,e⟩:=zex z;obtain⟨f0,f1,f2,_⟩:=hf p.1 hb;obtain⟨o,e',d⟩:=ho p.1 hb;rw[e]at e';cases e';exact⟨e,f0,f1,f2,d⟩
def Inv.unpinned{a7 pl:Nd}{σ:St}{H:Hp}{s:Ni}(I:ZK (a7++pl) σ H s):ZA H s:=I.pins_of λp hp=>YS (YT L4)
def zbn{iter:Expr}{body:List Stmt}{wi:TI}{g:TG}{tb:TS}{pos:Pos}(hp:B7 X.xe)(hc:X.calm=true)(hi:Ii)(hg:PG X tg g)(hb:VG body tb)(hs:∀x,foldedSetIterable iter X.env x=pure x:=by intro _;rfl):KO (.For tg iter body [] pos) (tFor wi g tb):=by
 intro a7 s σ H D I h;refine wpAny_For (thn Sd λv s1 h1=>thn h1 λitv s2 h2=>?_) hs;obtain⟨it,fp,tn,J,H2,e,I2,T,aH,f2,W,⟨m0,w0⟩,turn⟩:=h2;subst e;have stat:∀{H':Hp},(∀b∈fp,H' b=none)→∀b∈fp,FpOk X a7 H' b:=λhn b hb=>⟨Ab,(f2 b hb).2⟩;refine codeAny_forLoop_any (λn s'=>Ex3 λi σ' H'=>Aj4 (ZD σ' H' s') CK (∀b∈fp,H' b=none) (W i n σ' H')) ?_ m0 ⟨0,σ,H2,I2,aH,λb hb=>(f2 b hb).1,w0⟩;rintro n s3 ⟨i,σ3,H3,I3,aP,fr3,w3⟩;rcases turn i n σ3 H3 w3 with⟨stop,qn⟩|⟨go,N,hN,step⟩
 ·refine WR (thn (T.done X rfl rfl rfl hc i a7 s3 σ3 H3 X.xe I3 (stat fr3) aP stop) λr s4 ⟨hr,I4⟩=>?_);subst hr;exact wpAny_execs_nil ⟨σ3,H3,I4,qn⟩
 refine WR (thn (T.item X rfl rfl rfl hc i a7 s3 σ3 H3 X.xe I3 (stat fr3) aP go) λr s4 ⟨u,hr,h4⟩=>?_);subst hr;refine WR (thn h4 λ_ s5 ⟨x,H5,I5,r5,y5,ma,fr5⟩=>?_);have i8:=I5.pinned (stat fr5) (WX ma);refine WR (thn (hg _ s5 σ3 H5 x u _ i8 r5 (step x H5 y5)) λ_ s6 ⟨σ6,H6,I6,q6⟩=>?_);refine WR (thn (hb _ s6 σ6 H6 _ I6 q6) λf s7 q7=>?_);have again:∀{σ7:St} {H7:Hp},ZK (a7++VJ s5.heap) σ7 H7 s7→N σ7 H7→∃m,m<n∧Ex3 λi σ' H'=>Aj4 (ZD σ' H' s7) (tn i s7.heap) (∀b∈fp,H' b=none) (W i m σ' H'):=λ{σ7 H7} I7 n7=>by obtain⟨m',hm,w7⟩:=hN σ7 H7 n7;refine⟨m',hm,i+1,σ7,H7,I7.unpinned,Q1 ma λb hb o e=>(I7.pin (b,o) TF).1,λb hb=>?_,w7⟩;obtain⟨o,e,d⟩:=WX ma b hb;exact(I7.pin (b,o) TF).2.1
 cases f with
 |next=>obtain⟨σ7,H7,I7,n7⟩:=q7;exact again I7 n7
 |cont=>obtain⟨σ7,H7,I7,n7⟩:=q7;exact again I7 n7
 |brk=>obtain⟨σ7,H7,I7,q7⟩:=q7;exact⟨σ7,H7,I7.unpinned,q7⟩
 |ret v=>obtain⟨x7,σ7,H7,I7,r7,q7⟩:=q7;exact⟨x7,σ7,H7,I7.unpinned,r7,q7⟩
def zbs{K:Na}{a:Nc}{xs:List V}{g:TG}{tb:TS}{D:Ends}{σ:St}{H:Hp}(Pv:Nat→St→Hp→Prop)(h0:Co)(hl:∀i σ H,i≤xs.length→Pv i σ H→WW xs)(hs:∀i x σ H,xs[i]?=some x→Pv i σ H→g x σ H λ σ2 H2=>tb {D with nx:=Pv Gr,ct:=Pv Gr,bk:=D.nx} σ2 H2)(hd:∀σ H,Pv xs.length σ H→W8 H) :
  ∃W:Nat→Nat→St→Hp→Prop,(∃m,W 0 m σ H)∧∀i m σ H,W i m σ H →
   ((BA a).stop i H∧W8 H)∨((BA a).go i H∧∃N:St→Hp→Prop,Gi∧∀x H',(BA a).yld i H x H'→g x σ H' λ σ2 H2=>tb {D with nx:=N,ct:=N,bk:=D.nx} σ2 H2):=by
 refine⟨λi m σ H=>m=xs.length-i∧i≤xs.length∧Pv i σ H,⟨xs.length,Fr,Sv,h0⟩,?_⟩;rintro i m σ H ⟨rfl,hi,p⟩;have q:=hl i σ H hi p;by_cases ad:i<xs.length
 ·refine .inr ⟨⟨xs,xs[i],q,by simp[ad]⟩,Pv Gr,fun σ' H' p'=>⟨xs.length - Gr,Gk,rfl,ad,p'⟩,λx H' y=>?_⟩;obtain⟨e,y⟩:=y;subst e;exact hs i x σ _ (y xs q) p
 have e:i=xs.length:=by exact zar3 ‹_› ‹_›
 subst e;exact .inl ⟨⟨xs,q,Gg⟩,IL⟩
def for_tup{K:Na}{a:Nc}{xs:List V}{g:TG}{tb:TS}{D:Ends}{σ:St}{H:Hp}(Pv:Nat→St→Hp→Prop)(h0:Co)(hl:∀i σ H,i≤xs.length→Pv i σ H→UB a xs)(hs:∀i x σ H,xs[i]?=some x→Pv i σ H→g x σ H λ σ2 H2=>tb {D with nx:=Pv Gr,ct:=Pv Gr,bk:=D.nx} σ2 H2)(hd:∀σ H,Pv xs.length σ H→W8 H) :
  ∃W:Nat→Nat→St→Hp→Prop,(∃m,W 0 m σ H)∧∀i m σ H,W i m σ H →
   ((DF a).stop i H∧W8 H)∨((DF a).go i H∧∃N:St→Hp→Prop,Gi∧∀x H',(DF a).yld i H x H'→g x σ H' λ σ2 H2=>tb {D with nx:=N,ct:=N,bk:=D.nx} σ2 H2):=by
 refine⟨λi m σ H=>m=xs.length-i∧i≤xs.length∧Pv i σ H,⟨xs.length,Fr,Sv,h0⟩,?_⟩;rintro i m σ H ⟨rfl,hi,p⟩;have q:=hl i σ H hi p;by_cases ad:i<xs.length
 ·refine .inr ⟨⟨xs,xs[i],q,by simp[ad]⟩,Pv Gr,fun σ' H' p'=>⟨xs.length - Gr,Gk,rfl,ad,p'⟩,λx H' y=>?_⟩;obtain⟨e,y⟩:=y;subst e;exact hs i x σ _ (y xs q) p
 have e:i=xs.length:=by exact zar3 ‹_› ‹_›
 subst e;exact .inl ⟨⟨xs,q,Gg⟩,IL⟩
def zcw{lo:Int}{n:Nat}{g:TG}{tb:TS}{D:Ends}{σ:St}{H:Hp}(Pv:Nat→St→Hp→Prop)(h0:Co)(hs:∀i σ H,i<n→Pv i σ H→g (Rq (lo+i)) σ H λ σ2 H2=>tb {D with nx:=Pv Gr,ct:=Pv Gr,bk:=D.nx} σ2 H2)(hd:∀σ H,Pv n σ H→W8 H) :
  ∃W:Nat→Nat→St→Hp→Prop,(∃m,W 0 m σ H)∧∀i m σ H,W i m σ H →
   ((Do n).stop i H∧W8 H)∨((Do n).go i H∧∃N:St→Hp→Prop,Gi∧∀x H',(Do n).yld i H x H'→g x σ H' λ σ2 H2=>tb {D with nx:=N,ct:=N,bk:=D.nx} σ2 H2):=by
 refine⟨λi m σ H=>m=n-i∧i≤n∧Pv i σ H,⟨n,Fr,Sv,h0⟩,?_⟩;rintro i m σ H ⟨rfl,hi,p⟩;by_cases ad:i<n
 ·refine .inr ⟨ad,Pv Gr,fun σ' H' p'=>⟨n - Gr,Gk,rfl,ad,p'⟩,λx H' y=>?_⟩;obtain⟨e,y⟩:=y;subst e y;exact hs i σ _ ad p
 have e:i=n:=by exact zar3 ‹_› ‹_›
 subst e;exact .inl ⟨Gg,IL⟩
abbrev R2:=V→V→Hp→VK→Prop
def OpR(X:Cx)(f:Value→Value→Sem Value)(r:R2):Prop:=
 ∀(a7:Nd) (s:Ni) (σ:St) (H:Hp) (x y:V) (v u:Value) (Q:VK),ZA H s→WM v→YE u→r x y H Q →
  wpAny FE X.A Pp Tl X.xe s
def UnR(X:Cx)(f:Value→Sem Value)(r:V→Hp→VK→Prop):Prop:=
 ∀(a7:Nd) (s:Ni) (σ:St) (H:Hp) (x:V) (v:Value) (Q:VK),ZA H s→WM v→r x H Q →
  wpAny FE X.A (f v) Tl X.xe s
def zcj(X:Cx)(f:Value)(r:List V→Hp→VK→Prop):Prop:=
 ∀(a7:Nd) (s:Ni) (σ:St) (H:Hp) (xs:List V) (us:Nj) (Q:VK),ZA H s→QZ us→r xs H Q →
  wpAny FE X.A (call f us) Tl X.xe s
def TruR(X:Cx)(r:V→Hp→(Bool→Hp→Prop)→Prop):Prop:=
 ∀(a7:Nd) (s:Ni) (σ:St) (H:Hp) (x:V) (v:Value) (Q:Bool→Hp→Prop),ZA H s→WM v→r x H Q →
  wpAny FE X.A I0 (VF Q) X.xe s
def tOp(r:R2)(ta tb:TE):TE:=λ σ H Q=>ta σ H λx H1=>tb σ H1 λy H2=>r x y H2 Q
def tUn(r:V→Hp→VK→Prop)(ta:TE):TE:=λ σ H Q=>ta σ H λx H1=>r x H1 Q
inductive RrI(C:Int→Int→Prop)(g:Int→Int→V)(x:V)(y:V)(H:Hp)(Q:VK):Prop
 |mk (i:_) (j:_) (h0:x=.int i) (h1:y=.int j) (h2:C i j) (h3:Q (g i j) H):RrI C g x y H Q
def rI(C:Int→Int→Prop)(g:Int→Int→V):R2:=λx y H Q=>RrI C g x y H Q
inductive RrI0(g:Int→Int→V)(x:V)(y:V)(H:Hp)(Q:VK):Prop
 |mk (i:_) (j:_) (h0:x=.int i) (h1:y=.int j) (h2:Q (g i j) H):RrI0 g x y H Q
def rI0(g:Int→Int→V):R2:=λx y H Q=>RrI0 g x y H Q
def rU(g:Int→V):V→Hp→VK→Prop:=λx H Q=>∃i,x=.int i∧Q (g i) H
variable{a b c:Expr}{ta tb tc:TE}{pos:Pos}
def binT(ha:T8)(hb:En){a7:Nd}{s:Ni}{σ:St}{H:Hp}{R:V→V→Hp→Prop}(I:Gj)(h:ta σ H λx H1=>tb σ H1 λy H2=>R x y H2){Q:Nb}{f:Value→Value→Sem Value}(hf:∀v u s2 x y H2,ZA H2 s2→WM v→YE u→R x y H2→ZF Pp Q X.xe s2) :
  wpAny FE X.A (GX a) (λv s₁=>ZF (GX b) (λu s₂=>ZF Pp Q X.xe s₂) X.xe s₁) X.xe s:=by
 refine thn HG λv s1 ⟨x,H1,I1,r1,q1⟩=>?_;refine thn SZ λu s2 ⟨y,H2,I2,r2,q2⟩=>?_;exact hf v u s2 x y H2 I2 r1 r2 q2
def zaq{op:Operator}{r:R2}(ho:WS (binaryOp op) r)(ha:T8)(hb:En):QA (.BinOp a op b pos) (NE tb):=by intro a7 s σ H Q I h;exact wpAny_BinOp (MP h λv u s2 x y H2 I2 rx ry q=>ho a7 s2 σ H2 x y v u Q I2 rx ry q)
def pe_un{op:UnaryOp}{r:V→Hp→VK→Prop}(ho:UnR X (unaryOp op) r)(ha:T8):QA (.UnaryOp op a pos) (tUn r ta):=by intro a7 s σ H Q I h;exact UnaryOp_ (thn HG λv s1 ⟨x,H1,I1,r1,q1⟩=>ho a7 s1 σ H1 x v Q I1 r1 q1)
def opI{f:Value→Value→Sem Value}{C:Int→Int→Prop}{g:Int→Int→Int}(rule:∀(i j:Int) (t u:Tok) (s:Ni) (Q:Nb) (E:Nb),C i j→Q (.int Cd s.toks) {s with toks:=s.toks+1}→ZF Cu Q E s) :
  OpR X f (rI C λi j=>.int Cd):=by
 intro a7 s σ H x y v u Q I rx ry h;obtain⟨i,j,rfl,rfl,hc,q⟩:=h;obtain⟨t,rfl⟩:=rx;obtain⟨t',rfl⟩:=ry;exact rule i j t t' s _ _ hc ⟨Rq Cd,H,HI,⟨_,rfl⟩,q⟩
def opI0{f:Value→Value→Sem Value}{g:Int→Int→Int}(rule:∀(i j:Int) (t u:Tok) (s:Ni) (Q:Nb) (E:Nb),Q (.int Cd s.toks) {s with toks:=s.toks+1}→ZF Cu Q E s) :
  OpR X f (rI0 λi j=>.int Cd):=by
 intro a7 s σ H x y v u Q I rx ry h;obtain⟨i,j,rfl,rfl,q⟩:=h;obtain⟨t,rfl⟩:=rx;obtain⟨t',rfl⟩:=ry;exact rule i j t t' s _ _ ⟨Rq Cd,H,HI,⟨_,rfl⟩,q⟩
def opB0{f:Value→Value→Sem Value}{g:Int→Int→Bool}(rule:∀(i j:Int) (t u:Tok) (s:Ni) (Q:Nb) (E:Nb),Q (.bool Cd) s→ZF Cu Q E s) :
  OpR X f (rI0 λi j=>.bl Cd):=by
 intro a7 s σ H x y v u Q I rx ry h;obtain⟨i,j,rfl,rfl,q⟩:=h;obtain⟨t,rfl⟩:=rx;obtain⟨t',rfl⟩:=ry;exact rule i j t t' s _ _ ⟨.bl Cd,H,I,rfl,q⟩
def CDiv(i j:Int):Prop:=0<j∧j<1073741824
def CPow(i j:Int):Prop:=0≤j∧j≤1000000∧i.natAbs<2 ^ 64
def CMul(i j:Int):Prop:=(-(2 ^ 64)<i∧i<2 ^ 64)∨(-(2 ^ 64)<j∧j<2 ^ 64)
def CMul.ok{i j:Int}(h:CMul i j):IntMulOk i j:=by
 rcases h with⟨h1,h2⟩|⟨h1,h2⟩
 ·exact .of_left P9
 exact .of_right P9
def zbj:WS Cq (rI0 λi j=>.int (i+j)):=opI0 λ_ _ _ _ _ _ _ q=>add_int q
def op_sub:WS (binaryOp .Sub) (rI0 λi j=>.int (i-j)):=opI0 λ_ _ _ _ _ _ _ q=>sub_int q
def zgo:WS (binaryOp .Mult) (rI CMul λi j=>.int (i*j)):=opI λ_ _ _ _ _ _ _ hc q=>mul_int q hc.ok
def zfh:WS (binaryOp .FloorDiv) (rI CDiv λi j=>.int (i/j)):=opI λi j _ _ _ _ _ hc q=>by have h1:(0:Int)<j:=hc.1;have h2:j<1073741824:=hc.2;exact floordiv_int Fs (by rw[Int.fdiv_eq_ediv_of_nonneg i Fs];exact q) (Gm (PyProof.noPylong_small Fs))
def zcs:WS (binaryOp .Mod) (rI (λ_ j=>0<j) λi j=>.int (i%j)):=opI λi j _ _ _ _ _ hc q=>by have h1:(0:Int)<j:=hc;exact mod_int' Fs (by rw[Int.fmod_eq_emod_of_nonneg i Fs];exact q)
def op_pow:WS (binaryOp .Pow) (rI CPow λi j=>.int (i ^ j.toNat)):=opI λ_ _ _ _ _ _ _ hc q=>pow_int_small hc.1 hc.2.1 hc.2.2 q
def unI{f:Value→Sem Value}{g:Int→Int}(rule:∀(i:Int) (t:Tok) (s:Ni) (Q:Nb) (E:Nb),Q (.int (g i) s.toks) {s with toks:=s.toks+1}→ZF (f (SQ i t)) Q E s) :
  UnR X f (rU λi=>.int (g i)):=by
 intro a7 s σ H x v Q I rx h;obtain⟨i,rfl,q⟩:=h;obtain⟨t,rfl⟩:=rx;exact rule i t s _ _ ⟨Rq (g i),H,HI,⟨_,rfl⟩,q⟩
def un_neg:UnR X (unaryOp .USub) (rU λi=>.int (-i)):=unI λ_ _ _ _ _ q=>neg_int q
def scal:V→V→Bool
 |.non,.non=>true | .non,.int _=>true | .int _,.non=>true | .non,.bl _=>true | .bl _,.non=>true | .non,.str _=>true | .str _,.non=>true
 |.int _,.int _=>true | .bl _,.bl _=>true | .str _,.str _=>true | .byt _,.byt _=>true
 |.int _,.str _=>true | .str _,.int _=>true | .bl _,.str _=>true | .str _,.bl _=>true
 |_,_=>false
def rEq:R2:=λx y H Q=>scal x y=true∧Q (.bl (decide (x=y))) H
def rNe:R2:=λx y H Q=>scal x y=true∧Q (.bl (!decide (x=y))) H
def dec_int{i j:Int}:decide (V.int i=V.int j)=(i==j):=by rw[Yw];simp
def dec_bl{i j:Bool}:decide (V.bl i=V.bl j)=(i==j):=by rw[Yw];simp
def dec_str{i j:Str}:decide (V.str i=V.str j)=(i==j):=by rw[Yw];simp
def dec_byt{i j:Array UInt8}:decide (V.byt i=V.byt j)=(i.toList==j.toList):=by rw[Yw];cases i;cases j;simp
def zbe{a7:Nd}{σ:St}{H:Hp}{s:Ni}{Q:VK}{k k':Bool}(I:Gj)(q:Lq k)(e:k=k'):QB Q (.bool k') s:=by subst e;exact⟨.bl k,H,I,rfl,q⟩
def zfi:WS (compareOp .Eq) rEq:=by
 intro a7 s σ H x y v u Q I rx ry h;obtain⟨hs,q⟩:=h;cases x with
 |non=>
  cases rx;cases y with
  |non=>cases ry;exact PySem.EqNone.eq_none_none Rz
  |bl j=>cases ry;exact PySem.EqNone.eq_none_bool Rz
  |int j=>obtain⟨t',rfl⟩:=ry;exact PySem.EqNone.eq_none_int Rz
  |str j=>obtain⟨t',rfl⟩:=ry;exact PySem.EqNone.eq_none_str Rz
  |_=>exact absurd (show false=true from hs) Zb
 |bl i=>
  cases rx;cases y with
  |non=>cases ry;exact PySem.EqNone.eq_bool_none Rz
  |bl j=>cases ry;exact eq_bool (QN dec_bl)
  |str j=>obtain⟨t',rfl⟩:=ry;exact PySem.EqMixed.eq_bool_str Rz
  |_=>exact absurd (show false=true from hs) Zb
 |int i=>
  obtain⟨t,rfl⟩:=rx;cases y with
  |non=>cases ry;exact PySem.EqNone.eq_int_none Rz
  |int j=>obtain⟨t',rfl⟩:=ry;exact eq_int (QN dec_int)
  |str j=>obtain⟨t',rfl⟩:=ry;exact PySem.EqMixed.eq_int_str Rz
  |_=>exact absurd (show false=true from hs) Zb
 |str i=>
  obtain⟨t,rfl⟩:=rx;cases y with
  |non=>cases ry;exact PySem.EqNone.eq_str_none Rz
  |bl j=>cases ry;exact PySem.EqMixed.eq_str_bool Rz
  |int j=>obtain⟨t',rfl⟩:=ry;exact PySem.EqMixed.eq_str_int Rz
  |str j=>obtain⟨t',rfl⟩:=ry;exact eq_str (QN dec_str)
  |_=>exact absurd (show false=true from hs) Zb
 |byt i=>
  obtain⟨t,rfl⟩:=rx;cases y with
  |byt j=>obtain⟨t',rfl⟩:=ry;exact PySem.W.eq_bytes (QN dec_byt)
  |_=>exact absurd (show false=true from hs) Zb
 |_=>cases y<;>exact absurd (show false=true from hs) Zb
def op_ne:WB rNe:=by
 intro a7 s σ H x y v u Q I rx ry h;obtain⟨hs,q⟩:=h;cases x with
 |non=>
  cases rx;cases y with
  |non=>cases ry;exact PySem.EqNone.ne_none_none Rz
  |bl j=>cases ry;exact PySem.EqNone.ne_none_bool Rz
  |int j=>obtain⟨t',rfl⟩:=ry;exact PySem.EqNone.ne_none_int Rz
  |str j=>obtain⟨t',rfl⟩:=ry;exact PySem.EqNone.ne_none_str Rz
  |_=>exact absurd (show false=true from hs) Zb
 |bl i=>
  cases rx;cases y with
  |non=>cases ry;exact PySem.EqNone.ne_bool_none Rz
  |bl j=>cases ry;exact ne_bool (QN (congrArg not dec_bl))
  |str j=>obtain⟨t',rfl⟩:=ry;exact PySem.EqMixed.ne_bool_str Rz
  |_=>exact absurd (show false=true from hs) Zb
 |int i=>
  obtain⟨t,rfl⟩:=rx;cases y with
  |non=>cases ry;exact PySem.EqNone.ne_int_none Rz
  |int j=>obtain⟨t',rfl⟩:=ry;exact ne_int (QN (congrArg not dec_int))
  |str j=>obtain⟨t',rfl⟩:=ry;exact PySem.EqMixed.ne_int_str Rz
  |_=>exact absurd (show false=true from hs) Zb
 |str i=>
  obtain⟨t,rfl⟩:=rx;cases y with
  |non=>cases ry;exact PySem.EqNone.ne_str_none Rz
  |bl j=>cases ry;exact PySem.EqMixed.ne_str_bool Rz
  |int j=>obtain⟨t',rfl⟩:=ry;exact PySem.EqMixed.ne_str_int Rz
  |str j=>obtain⟨t',rfl⟩:=ry;exact ne_str (QN (congrArg not dec_str))
  |_=>exact absurd (show false=true from hs) Zb
 |byt i=>
  obtain⟨t,rfl⟩:=rx;cases y with
  |byt j=>obtain⟨t',rfl⟩:=ry;exact PySem.W.ne_bytes (QN (congrArg not dec_byt))
  |_=>exact absurd (show false=true from hs) Zb
 |_=>cases y<;>exact absurd (show false=true from hs) Zb
def op_lt:WS (compareOp .Lt) (rI0 λi j=>.bl (decide (i<j))):=opB0 λ_ _ _ _ _ _ _ q=>lt_int q
def op_le:WS (compareOp .LtE) (rI0 λi j=>.bl (decide (i≤j))):=opB0 λ_ _ _ _ _ _ _ q=>le_int q
def op_gt:WS (compareOp .Gt) (rI0 λi j=>.bl (decide (j<i))):=opB0 λ_ _ _ _ _ _ _ q=>gt_int q
def za5(b:Expr){op:CmpOp}(h:op≠.In:=by decide)(h2:op≠.NotIn:=by decide):behindInMarks op b=false:=by
 have e1:(op==CmpOp.In)=false:=by cases op<;>first|rfl|exact absurd rfl h
 have e2:(op==CmpOp.NotIn)=false:=by cases op<;>first|rfl|exact absurd rfl h2
 cases b<;>simp[behindInMarks,e1,e2]
def pe_cmpR{op:CmpOp}{r:R2}(ho:EH)(ha:T8)(hb:En)(hm:behindInMarks op b=false):QA (.Compare a [op] [b] pos) (NE tb):=by intro a7 s σ H Q I h;exact wpAny_Compare1 (MP h λv u s2 x y H2 I2 rx ry q=>ho a7 s2 σ H2 x y v u Q I2 rx ry q) hm
def tTest(t:TE):TT:=λ σ H Q=>t σ H λx H'=>RB x H' Q
def zan{op:CmpOp}{r:R2}(ho:EH)(ha:T8)(hb:En)(hm:behindInMarks op b=false):Vs (.Compare a [op] [b] pos) (tTest (NE tb)):=by intro a7 s σ H Q I h;refine wpAny_isTrue_Compare1 (thn HG λv s1 ⟨x,H1,I1,r1,q1⟩=>thn SZ λu s2 ⟨y,H2,I2,r2,q2⟩=>thn CL λc s3 ⟨z,H3,I3,r3,k,e,q3⟩=>?_) hm;subst e;cases r3;exact wpAny_truthy_bool ⟨H3,I3,q3⟩
def tChain(r r':R2)(ta tb tc:TE):TE:=λ σ H Q=>ta σ H λx H1=>tb σ H1 λy H2=>r x y H2 λz H3=>RB z H3 λk H3=>(if k=true then tc σ H3 λw' H4=>r' y w' H4 Q else Q RZ H3)
def pe_chain{op rf:CmpOp}{r r':R2}(ho:EH)(aA:WS (compareOp rf) r')(ha:T8)(hb:En)(hc:QA c tc)(hm:lastMarks [op,rf] [b,c]=false:=by with_unfolding_all rfl):QA (.Compare a [op,rf] [b,c] pos) (tChain r r' ta tb tc):=by
 intro a7 s σ H Q I h;refine Compare_chain (thn HG λv s1 ⟨x,H1,I1,r1,q1⟩=>chain_link (thn SZ λu s2 ⟨y,H2,I2,r2,q2⟩=>thn CL λd s3 ⟨z,H3,I3,r3,k,e,q3⟩=>?_)) hm;subst e;cases r3;refine wpAny_truthy_bool ?_;cases k with
 |false=>exact ite_ff ⟨RZ,H3,I3,rfl,q3⟩
 |true=>exact ite_tt (chain_last (thn (hc a7 s3 σ H3 _ I3 q3) λw' s4 ⟨z',H4,I4,r4,q4⟩=>aA a7 s4 σ H4 y z' u w' Q I4 r2 r4 q4))
def TruV(K:Na)(x:V)(H:Hp)(k:Bool):Prop:=
 match x with
 |.non=>k=false
 |.bl b=>k=b
 |.int i=>k=(i != 0)
 |.str y=>y.length≤sizeLine∧k=((y.length:Int) != 0)
 |.byt y=>y.size≤sizeLine∧k=((y.size:Int) != 0)
 |.ref p=>(∃xs,W3 p xs∧k=!xs.isEmpty)∨(∃xs,UB p xs∧k=!xs.isEmpty)∨∃kvs,H p=some HS∧k=!kvs.isEmpty
 |_=>False
def isEmpty_kv{κ:Type}{kvs:List (κ×V)}{vs:List (κ×Value)}(r:UD vs):(!vs.isEmpty)=!kvs.isEmpty:=by cases r<;>rfl
def zhs{xs:List V}{a8:Nj}(r:QZ a8):(!a8.toArray.isEmpty)=!xs.isEmpty:=by cases r<;>simp
def zez:(sizeLine:Nat)<2 ^ 63:=by rw[sizeLine_eq];decide
inductive RTr(K:Na)(x:V)(H:Hp)(Q:Bool→Hp→Prop):Prop
 |mk (k:Bool) (t:TruV K x H k) (q:Q k H):RTr K x H Q
def tru_ok:TruR X (λx H Q=>RTr X.K x H Q):=by
 intro a7 s σ H x v Q I rx h;obtain⟨k,e,q⟩:=h;have hl:=zez;have hs:sizeLine=16777216:=sizeLine_eq;cases x with
 |non=>cases rx;have e':k=false:=e;subst e';exact truthy_none ⟨H,I,q⟩
 |bl b=>cases rx;have e':k=b:=e;subst e';exact wpAny_truthy_bool ⟨H,I,q⟩
 |int i=>obtain⟨t,rfl⟩:=rx;have e':k=(i != 0):=e;subst e';exact PySem.P.truthy_int ⟨H,I,q⟩
 |str y=>obtain⟨t,rfl⟩:=rx;obtain⟨hy,e'⟩:y.length≤sizeLine∧k=((y.length:Int) != 0):=e;subst e';exact PySem.P.truthy_str Fs ⟨H,HI,q⟩
 |byt y=>obtain⟨t,rfl⟩:=rx;obtain⟨hy,e'⟩:y.size≤sizeLine∧k=((y.size:Int) != 0):=e;subst e';exact PySem.W.truthy_bytes Fs ⟨H,HI,q⟩
 |ref p=>
  cases rx;have e':(∃xs,WC xs∧k=!xs.isEmpty)∨(∃xs,Bz p xs∧k=!xs.isEmpty)∨∃kvs,H p=some HS∧k=!kvs.isEmpty:=e;rcases e' with⟨xs,hx,e'⟩|⟨xs,hx,e'⟩|⟨kvs,hx,e'⟩
  ·subst e';obtain⟨a8,r,pl,hz⟩:=I.list hx;have aa:=r.length;exact wpAny_truthy_list pl.isList (by simp only[Qp];lia) ⟨H,HI,by rw[zhs r];exact q⟩
  ·subst e';obtain⟨a8,r,pl,hz⟩:=I.tuple hx;have aa:=r.length;exact truthy_tuple pl (by simp only[Qp];lia) ⟨H,HI,by rw[zhs r];exact q⟩
  subst e';obtain⟨hz,hS,vs,r,m⟩:kvs.length≤sizeLine∧(p==sysModules)=false∧∃vs,UD vs∧s.heap.DictOf S0 p vs:=XL hx;have aa:kvs.length=vs.length:=Zl r;exact wpAny_truthy_dict hS m Fs ⟨H,HI,by rw[isEmpty_kv r];exact q⟩
 |_=>exact(show False from e).elim
def zf5(ha:T8)(he:∀whole,isTrue a X.env whole=(do let v ←whole;standAt a.pos;holding [v] I0)) :
  PT X a (λ σ H Q=>ta σ H λx H'=>RTr X.K x H' Q):=by
 intro a7 s σ H Q I h;exact isTrue_plain (thn HG λv s1 ⟨x,H1,I1,r1,q1⟩=>tru_ok a7 s1 σ H1 x v Q I1 r1 q1) (he _)
def zfj:WS Cq (λx y H Q=>Ex2 λi j=>Aj4 (x=.str i) (y=.str j) (i.length+j.length≤sizeLine) (Q (Hy (i++j)) H)):=by intro a7 s σ H x y v u Q I rx ry h;obtain⟨i,j,rfl,rfl,hz,q⟩:=h;obtain⟨t,rfl⟩:=rx;obtain⟨t',rfl⟩:=ry;exact add_str (λt' tk=>⟨Hy (i++j),H,HI,⟨_,rfl⟩,q⟩) hz
def vals1{x:V}{us:Nj}(r:Vals [x] us):∃u,us=[u]∧WM u:=by
 cases r with
 |cons r1 r2=>cases r2;exact⟨A5,r1⟩
def vals2{x y:V}{us:Nj}(r:Vals [x,y] us):∃u w',us=[u,w']∧WM u∧YE w':=by
 cases r with
 |cons r1 r2=>
  cases r2 with
  |cons r3 r4=>cases r4;exact⟨_,A5,r1,r3⟩
def call_max2(hc:X.calm=true):YV (.builtin "max") (λxs H Q=>Ex2 λi j=>Aj2 (xs=[EN,Rq j]) (Q (Rq (if j>i then j else i)) H)):=by
 intro a7 s σ H xs us Q I r h;obtain⟨i,j,rfl,q⟩:=h;obtain⟨u,w',rfl,⟨t,rfl⟩,⟨t',rfl⟩⟩:=vals2 r;refine max_two_ints RT λh' tk k=>⟨_,H,I.kept k,?_,q⟩;by_cases hj:j>i
 ·rw[if_pos hj,if_pos hj];exact⟨A5⟩
 rw[if_neg hj,if_neg hj];exact⟨A5⟩
def call_min2(hc:X.calm=true):YV (.builtin "min") (λxs H Q=>Ex2 λi j=>Aj2 (xs=[EN,Rq j]) (Q (Rq (if j<i then j else i)) H)):=by
 intro a7 s σ H xs us Q I r h;obtain⟨i,j,rfl,q⟩:=h;obtain⟨u,w',rfl,⟨t,rfl⟩,⟨t',rfl⟩⟩:=vals2 r;refine min_two_ints RT λh' tk k=>⟨_,H,I.kept k,?_,q⟩;by_cases hj:j<i
 ·rw[if_pos hj,if_pos hj];exact⟨A5⟩
 rw[if_neg hj,if_neg hj];exact⟨A5⟩
structure ObjM(h:No)(x dx C:Nc)(mA:Ng):Prop where
 obj:h.get? x=some (WE dx)
 ns:h.Ns1 dx mA
 ne:dx≠x
def zgx{h:No}{dx:Nc}{mA:Ng}(n:h.Ns1 dx mA):∃od,h.get? dx=some od∧∀name,N7 od=some (mA name):=by
 obtain⟨o,es,ep,ho,hd,hk,_,hm⟩:=n;refine⟨o,ho,λname=>?_⟩;have e:=hm name;unfold nsFind findBy at e;rw[←Array.find?_toList]at e;unfold PySem.W.lookIn;rw[hd];dsimp only;split
 ·rename_i y q;rw[q]at e;exact congrArg some e
 rename_i q;rw[q]at e;have a:es.toList.any (·.refKey)=false:=by rw[List.any_eq_false];intro y hy;obtain⟨z,t,ko⟩:=hk y (Array.mem_toList_iff.mp hy);simp[DictEntry.refKey,ko]
 have a':¬es.toList.any (·.refKey)=true:=by rw[a];exact Zb
 rw[if_neg a'];exact congrArg some e
def ObjM.look{h:No}{x dx C:Nc}{mA:Ng}(I:ObjM h x dx C mA):∃od,PySem.W.InstAt h x (WE dx) C (He od)∧∀name,N7 od=some (mA name):=
 let⟨od,ho,hl⟩:=zgx I.ns
 ⟨od,⟨I.obj,rfl,rfl,ho⟩,hl⟩
variable{prog:Nk}{w:Nn}{A:Np}{E:Nb}{s:Ni}{K:Na}{x dx C f:Nc}{mA:Ng}{name:Str}{v:Value}
def set_map{ns:Nh}{Q:Unit→Shared→Prop}(X:K.In s.heap)(I:ObjM s.heap x dx C mA)(hs:ZQ Hw "__setattr__" = some (He (.builtin "object.__setattr__")))(hp:XQ C=true)(ht:N8 name=some none)(hh:XR C=true)(hw:YQ ns)(hsz:ns.length≤sizeLine)(h:∀h',ObjM h' x dx C (λy=>if y=name then some v else mA y)→Heap.SameBut dx s.heap h'→Q () {s with heap:=h',toks:=s.toks+2}) :
  wpAny Ga A Ed Q E s:=by
 obtain⟨od,J,hl⟩:=I.look;refine PySem.W.set_plain X J hs (PySem.W.osa_open (s:={s with toks:=s.toks+1}) (r:=none) X J hp ht λb=>?_);obtain⟨cd,hc,iF⟩:=PySem.W.any_some hh;have hx:s.heap.get? x=some ⟨Hw,He dx,.plain,#[]⟩:=I.obj;refine wpAny_bind (wpAny_pure (wpAny_bind (wpAny_bind (KP (wpAny_bind (PySem.W.Looks.here (s:={s with toks:=s.toks+1}) (PySem.W.looks_clsIn X hc) ?_))))));rw[iF];refine wpAny_pure (a:=some dx) (RH (GG (wpAny_bind ?_)));refine wpAny_nsSet1 (s:={s with toks:=s.toks+1}) I.ns λh' bz de=>?_;obtain⟨oD,esD,epD,nX,oK,dZ⟩:=bz.count (Bw hw);refine wpAny_bind (XS (by rw[oK];exact pastItsLine_dict (Zf dZ (by rw[Za];exact zar4 ‹_›))) ?_);exact wpAny_pure (h _ ⟨(de.2 _ (Zd I.ne)).trans I.obj,bz,I.ne⟩ de)
def make_map{R:Nv}{vs:Nj}{kw:List (Str×Value)}(X:K.In s.heap)(hm:KQ C=true)(hi:ZQ Hw "__init__" = some (Fy f))(hf:PySem.W.typeIn K Ce=some (.type "function"))(h:codeAny Ga (Ob (.builtin "type.__call__" ⟨.ref C::vs,kw⟩)) (.call Ce ⟨.ref Gn::vs,kw⟩) (PySem.W.InitBack Gn R)
   {s with heap:=(s.heap.push PySem.W.emptyDict).push Ty}) :
  codeAny Ga A (.call Hw ⟨vs,kw⟩) R s:=by
 obtain⟨hh,g,d,t,os⟩:=s;exact PySem.W.make_core (PySem.W.makes_of X hm) (PySem.W.looks_findIn X hi) (λself=>PySem.W.bind_fn X self hf) Hr h
end
def putF(f:Str)(v:V):List (Str×V)→List (Str×V)
 |[]=>[(f,v)]
 |(g,x)::r=>if g=f then(g,v)::r else(g,x)::UT r
theorem zeb(f g:Str)(v:V):∀fs:List (Str×V),(UT fs).lookup g=if g=f then some v else fs.lookup g
 |[]=>by
  show List.lookup g [(f,v)]=_;by_cases h:g=f
  ·have hb:(g == f)=true:=beq_iff_eq.mpr h;simp only[List.lookup,hb,if_pos h]
  have hb:(g == f)=false:=beq_eq_false_iff_ne.mpr h;simp only[List.lookup,hb,if_neg h]
 | (k,x)::r=>by
  have ih:=zeb f g v r;rw[show UT ((k,x)::r)=(if k=f then(k,v)::r else(k,x)::UT r) from rfl];by_cases hk:k=f
  ·rw[HK hk];by_cases h:g=k
   ·have hb:(g == k)=true:=beq_iff_eq.mpr h;simp only[List.lookup,hb,if_pos (h.trans hk)]
   have hb:(g == k)=false:=beq_eq_false_iff_ne.mpr h;simp only[List.lookup,hb,if_neg (λe:g=f=>h (e.trans hk.symm))]
  rw[Rb hk];by_cases h:g=k
  ·have hb:(g == k)=true:=beq_iff_eq.mpr h;simp only[List.lookup,hb,if_neg (λe:g=f=>hk (h.symm.trans e))]
  have hb:(g == k)=false:=beq_eq_false_iff_ne.mpr h;simp only[List.lookup,hb];exact ih
theorem zdr(f:Str)(v:V):∀fs:List (Str×V),f∈(UT fs).map (·.1)∧∀g,g∈fs.map (·.1)→g∈(UT fs).map (·.1)
 |[]=>⟨by simp[putF],λg h=>by simp at h⟩
 |(k,x)::r=>by
  obtain⟨i1,i2⟩:=zdr f v r;rw[show UT ((k,x)::r)=(if k=f then(k,v)::r else(k,x)::UT r) from rfl];by_cases hk:k=f
  ·rw[HK hk];subst hk;exact⟨Fr,λg h=>by simpa using h⟩
  rw[Rb hk];refine⟨?_,λg h=>?_⟩
  ·rw[Qo];exact QM i1
  rw[Qo]at h ⊢;rcases Qi.mp h with e|e
  ·exact Qi.mpr (Gm e)
  exact QM (i2 g e)
theorem zee(f:Str)(v:V):∀fs:List (Str×V),(UT fs).length≤fs.length+1
 |[]=>by simp[putF]
 |(k,x)::r=>by
  have ih:=zee f v r;rw[show UT ((k,x)::r)=(if k=f then(k,v)::r else(k,x)::UT r) from rfl];by_cases hk:k=f
  ·rw[if_pos hk,Za,Za];exact XT _
  rw[if_neg hk,Za,Za];exact zar4 ‹_›
def RelO.some_of{v:V}{o:Option Value}(r:RelO (He v) o):∃u,o=some u∧UQ u:=by
 cases o with
 |none=>exact(show False from r).elim
 |some u=>exact⟨u,rfl,r⟩
def handed_of{v:V}{u:Value}(r:UQ u):PySem.W.handedIn u=true:=by
 cases v with
 |non=>cases(show u=Value.none from r);rfl
 |bl b=>cases(show u=Value.bool b from r);rfl
 |int i=>obtain⟨t,e⟩:=(show ∃t,u=B4 t from r);cases e;rfl
 |str x=>obtain⟨t,e⟩:=(show ∃t,u=YI t from r);cases e;rfl
 |byt b=>obtain⟨t,e⟩:=(show ∃t,u=Value.bytes b t from r);cases e;rfl
 |flt b=>obtain⟨t,e⟩:=(show ∃t,u=Value.float b t from r);cases e;rfl
 |ref a=>cases(show u=Value.ref a from r);rfl
 |ty n=>cases(show u=Value.type n from r);rfl
section
variable{P:Nk}{w:Nn}{H H':Hp}{h h':No}{a C dx:Nc}{fs fs':List (Str×V)}
def ins_get(hok:WF h)(e:H a=some Oc):∃mA,ObjM h a dx C mA∧(∀f,YL Pm)∧YQ (fs.map (·.1))∧fs.length≤1000∧H dx=some CG:=by obtain⟨d,z,ne,ob,mA,n,r,q⟩:=(show WO a Oc from hok a _ e);exact⟨mA,⟨ob,n,ne⟩,r,q,z,d⟩
end
structure Cls(K:Na)(C:Nc):Prop where
 pg:B9 Str.empty=true
 hd:XR C=true
 po:XQ C=true
 sa:ZQ Hw "__setattr__" = some (He (.builtin "object.__setattr__"))
def Cls.get{K:Na}{C:Nc}(c:Cls K C)(f:Str):B9 f=true:=c.pg
def NoAttr(K:Na)(C:Nc)(f:Str):Prop:=ZQ Hw f=some none
def NoAttr.taker{K:Na}{C:Nc}{f:Str}(n:NoAttr K C f):N8 f=some none:=by unfold PySem.W.takerIn;rw[show ZQ Hw f=some none from n];rfl
section
variable{X:Cx}{a7:Nd}{σ:St}{H:Hp}{s:Ni}{a C dx:Nc}{fs:List (Str×V)}{f:Str}{v:V}{A:Np}{E:Nb}
def setattr_ok{y:V}{u:Value}{Q:Unit→Shared→Prop}(I:Gj)(e:H a=some Oc)(c:Cls X.K C)(n:NoAttr X.K C f)(hl:fs.length<1000)(ry:YE u)(h:∀s',ZA (ZU a (.ins C dx (NF fs))) s'→Q () s'):wpAny FE A (setAttr Ht f u) Q E s:=by
 obtain⟨mA,O,r,wi,_,ho⟩:=ins_get I.hok e;have hz:(fs.map (·.1)).length≤sizeLine:=by rw[Qa,sizeLine_eq];lia
 refine set_map I.kIn O c.sa c.po n.taker c.hd wi hz λh' O' sb=>h _ ?_;have hd:∃o,h'.get? dx=some o:=let⟨o,_,_,e',_⟩:=O'.ns;⟨o,e'⟩;refine I.write (x:=a) (e:=dx) (by rw[e];exact True.intro) (Ru ho) (λb q hb z=>(sb.2 b hb).trans z) hd ?_;refine⟨by rw[zaf O.ne];exact ho,?_,O.ne,O'.obj,_,O'.ns,λg=>?_,λg hg=>?_⟩
 ·have:=zee f y fs;exact Zf ‹_› ‹_›
 ·show RelO ((NF fs).lookup g) (if g=f then some u else mA g);rw[zeb];by_cases q:g=f
  ·rw[if_pos q,if_pos q];exact ry
  rw[if_neg q,if_neg q];exact r g
 by_cases q:g=f
 ·rw[q];exact(DG fs).1
 refine (DG fs).2 g (wi g λz=>hg ?_);show(if g=f then some u else mA g)=none;rw[if_neg q];exact z
def Inv.made(I:Gj):ZA (Ij (OH (.own Gn)) Gn (.ins C s.heap.objs.size []))
  {s with heap:=(s.heap.push PySem.W.emptyDict).push Ty}:=by
 have e1:(s.heap.push PySem.W.emptyDict).get? s.heap.objs.size=some PySem.W.emptyDict:=Qv s.heap rfl;have e2:((s.heap.push PySem.W.emptyDict).push Ty).get? Gn=some Ty:=by have:=Qv (s.heap.push PySem.W.emptyDict) (o:=WE s.heap.objs.size) rfl;rwa[Wv]at this
 have e3:(s.heap.push PySem.W.emptyDict).Ns s.heap.objs.size (λ_=>none):=⟨PySem.W.emptyDict,#[],_,e1,rfl,(λe he=>absurd he Fr),λ_=>rfl⟩;have I1:=I.laid (a:=s.heap.objs.size) (o:=.own Gn) (h':=s.heap.push PySem.W.emptyDict) (t':=s.toks) (λb u q=>QS q) Gg ⟨_,e1⟩;refine I1.laid (a:=s.heap.objs.size+1) (o:=.ins C s.heap.objs.size []) (t':=s.toks) (λb u q=>QS q) (Nat.le_of_eq (Wv _ _)) ?_;have ne:s.heap.objs.size≠s.heap.objs.size+1:=Zk Ap;refine⟨by rw[zaf ne,zab],Sv,ne,e2,λ_=>none,(Od e3).at λo q=>QS q,λ_=>True.intro,λy hy=>absurd rfl hy⟩
def attr_of{prog:Nk}{w:Nn}{env:Env}{e:Expr}{f:Str}{pos:Pos}{s:Ni}{Q:Nb}(hb:attributeBase e f env (Cb e)=eval e env)(h:ZG (Cb e) (λo s₁=>ZG (getAttr o f true) Q E s₁) E s):ZG (Cb Aq) Q E s:=
 Attribute_any_ h (by rw[arm_eval_Attribute,hb])
end
inductive RFs(K:Na)(f:Str)(x y:V)(H:Hp)(N:Hp→Prop):Prop
 |mk (a C dx:Nc) (fs:List (Str×V)) (e:x=.ref a) (h:H a=some (.ins C dx fs)) (c:Cls K C) (n:NoAttr K C f) (l:fs.length<1000) (q:N (upd H a (.ins C dx (putF f y fs)))):RFs K f x y H N
def sFld(K:Na)(ta tv:TE)(f:Str):TS:=λD σ H=>tv σ H λy H1=>ta σ H1 λx H2=>RFs K f x y H2 (D.nx σ)
section
variable{X:Cx}{o e value:Expr}{f:Str}{pos aW tpos:Pos}{ta tv:TE}
def ps_fld(ha:QA o ta)(hv:QA value tv)(hs:swapsWith value (He LG) pos.line X.env=pure false):KO (.Assign [LG] value pos) (sFld X.K ta tv f):=by intro a7 s σ H D I h;refine plainObj_wpAny_Assign_Attribute (thn CM λu s1 ⟨y,H1,I1,ry,q⟩=>thn Pa λov s2 ⟨x,H2,I2,rx,a,C,dx,fs,ex,ea,c,n,l,q2⟩=>?_) hs;subst ex;obtain rfl:ov=Value.ref a:=rx;exact setattr_ok I2 ea c n l ry λs3 I3=>⟨σ,_,I3,q2⟩
end
section
variable{X:Cx}{a7:Nd}{σ:St}{H:Hp}{s:Ni}{A:Np}{E:Nb}{Q:Nb}{c:Value}{b:Bool}
inductive TyOf(K:Na)(H:Hp):V→Value→Prop where
 |non:TyOf K H .non (.type "NoneType")
 |bl (x:Bool):TyOf K H (.bl x) (.type "bool")
 |int (i:Int):TyOf K H (.int i) (.type "int")
 |str (x:Str):TyOf K H (.str x) (.type "str")
 |flt (x:UInt64):TyOf K H (.flt x) (.type "float")
 |lst {a:Nc} {xs:List V} (e:H a=some (.lst xs)):TyOf K H (.ref a) (.type "list")
 |frz {a:Nc} {o:Obj} {xs:List V} (e:H a=some (.frz o (.lst xs))):TyOf K H (.ref a) (.type "list")
 |tup {a:Nc} {xs:List V} (e:H a=some (.tup xs)):TyOf K H (.ref a) (.type "tuple")
 |dK {a:Nc} {kvs:List (Key×V)} (e:H a=some (.dK kvs)):TyOf K H (.ref a) (.type "dict")
 |dT {a:Nc} {kvs:List (List Key×V)} (e:H a=some (.dT kvs)):TyOf K H (.ref a) (.type "dict")
 | ins {a C dx:Nc} {fs:List (Str×V)} (e:H a=some (.ins C dx fs)) (cl:Cls K C) (ha:PySem.W.findIn K (.ref C) "__class__" = some (some (.builtin "object.__class__")))
   (hn:XU Gd "__get__" = some Ps) (htk:DH Gd=some true)
   (hm:WJ C (.type "object")=some true):TyOf K H Ht Hw
def isinst_ok{x:V}{u t:Value}(I:Gj)(rx:WM u)(ty:TyOf X.K H x t)(e:NG c=some b)(h:∀tk,Q (.bool b) {s with toks:=tk}) :
  wpAny FE A (call (.builtin "isinstance") [u,c]) Q E s:=by
 cases ty with
 |non=>cases(show u=Value.none from rx);exact Wr PySem.W.kitx_none I.kIn True.intro e (λz=>nomatch z) h
 |bl y=>cases(show u=Value.bool y from rx);exact Wr PySem.W.kitx_bool I.kIn True.intro e (λz=>nomatch z) h
 |int i=>obtain⟨t,q⟩:=(show ∃t,u=B4 t from rx);cases q;exact Wr PySem.W.kitx_int I.kIn True.intro e (λz=>nomatch z) h
 |str y=>obtain⟨t,q⟩:=(show ∃t,u=Bq t from rx);cases q;exact Wr PySem.W.kitx_str I.kIn True.intro e (λz=>nomatch z) h
 |flt y=>obtain⟨t,q⟩:=(show ∃t,u=Value.float y t from rx);cases q;exact Wr PySem.W.kitx_float I.kIn True.intro e (λz=>nomatch z) h
 |@lst a xs ea=>cases(show u=Value.ref a from rx);obtain⟨_,_,n,_,h1⟩:=(show Z5 H s.heap a Sk from YF ea);exact VL ⟨_,h1,rfl⟩ e (λz=>nomatch z) h
 |@frz a ob xs ea=>cases(show u=Value.ref a from rx);obtain⟨_,_,_,n,_,h1⟩:=(show Z5 H s.heap a (.frz ob Sk) from YF ea);exact VL ⟨_,h1,rfl⟩ e (λz=>nomatch z) h
 |@tup a xs ea=>cases(show u=Value.ref a from rx);obtain⟨_,_,_,p⟩:=(show Z5 H s.heap a Rl from YF ea);obtain⟨o,h1,h2,_⟩:=p;exact Wr PySem.W.kitx_tuple I.kIn ⟨o,h1,h2⟩ e (λz=>nomatch z) h
 |@dK a kvs ea=>cases(show u=Value.ref a from rx);obtain⟨_,_,vs,_,p⟩:=(show Z5 H s.heap a HS from YF ea);obtain⟨o,es,ep,h1,h2,_⟩:=p;exact VM ⟨o,h1,h2.1⟩ e (λz=>nomatch z) h
 |@dT a kvs ea=>cases(show u=Value.ref a from rx);obtain⟨_,_,xs,_,o,es,ep,h1,h2,_⟩:=(show Z5 H s.heap a Sx from YF ea);exact VM ⟨o,h1,h2.1⟩ e (λz=>nomatch z) h
 |@ins a C dx fs ea cl ha hn htk hm=>cases(show u=Value.ref a from rx);obtain⟨mA,O,_⟩:=ins_get I.hok ea;obtain⟨od,J,_⟩:=O.look;exact Wr (PySem.W.kitx_own (cl.get _) cl.hd ha hn htk hm) I.kIn J e (λz=>nomatch z) h
end
structure Room(k:Nat)(A:Np):Prop where
 hd:A.handled=none
 dp:A.depth+3*k+5<recursionLimit
 un:A.units+16*k+200<cLine
 gd:A.guards=some []
def Room.mono{j k:Nat}{A:Np}(r:U5 A)(h:j≤k):Room j A:=⟨r.hd,by have:=r.dp;lia,by have:=r.un;lia,r.gd⟩
def Room.deeper{k:Nat}{A:Np}(r:Room (k+1) A)(env:Env):U5 (Oe env):=
 ⟨r.hd,by have:=r.dp;show A.depth+1+3*k+5<_;lia,by have:=r.un;show A.units+3+16*k+200<_;lia,r.gd⟩
def make_depth{A:Np}{C:Nc}{us:Nj}{kw:List (Str×Value)}:(Ob (.builtin "type.__call__" ⟨.ref C::us,kw⟩)).depth=A.depth+1:=by
 first|rfl|simp[Around.under,Code.weight,Code.isCreation,Code.isGuard,Code.isCaller,Code.frames,Code.isFrame,guardIds]
def make_units{A:Np}{C:Nc}{us:Nj}{kw:List (Str×Value)}:(Ob (.builtin "type.__call__" ⟨.ref C::us,kw⟩)).units=A.units+1:=by
 first|rfl|simp[Around.under,Code.cUnits,Code.frames,Code.isFrame]
def make_guards{A:Np}{C:Nc}{us:Nj}{kw:List (Str×Value)}:(Ob (.builtin "type.__call__" ⟨.ref C::us,kw⟩)).guards=A.guards:=by obtain⟨hd,d,fr,gs,u⟩:=A;cases gs<;>first|rfl|simp[Around.under,Code.guards,Code.isGuard,pushGuards,guardIds]
def Room.make{k:Nat}{A:Np}(r:Room (k+1) A)(C:Nc)(us:Nj)(kw:Se (Str×Value)):U5 (Ob (.builtin "type.__call__" ⟨.ref C::us,kw⟩)):=
 ⟨r.hd,by have:=r.dp;rw[make_depth];lia,by have:=r.un;rw[make_units];lia,by rw[make_guards];exact r.gd⟩
def Room.depth{k:Nat}{A:Np}(r:U5 A):A.depth<recursionLimit:=by have:=r.dp;lia
def Room.units{k:Nat}{A:Np}(r:U5 A):A.units+64<cLine:=by have:=r.un;lia
def tNil:TA:=λ_ H Q=>Q [] H
def tCons(ta:TE)(tr:TA):TA:=λ σ H Q=>ta σ H λx H1=>tr σ H1 λxs H2=>Q (x::xs) H2
section
variable{X:Cx}{e:Expr}{es:Nq}{te:TE}{t:TA}{pos:Pos}
def zad:Vt [] tNil:=λ_ _ _ _ H Q I h=>Calls.spliced_nil ⟨[],H,I,.nil,h⟩
def zaa(ha:Cy)(hr:Vt es t)(hs:starEach (e::es) X.env=(false,Ir)::starEach es X.env:=by rfl):Vt (e::es) (tCons te t):=by intro pos a7 s σ H Q I h;rw[hs];show ZW _ (spliced ((false,Ir)::backTo pos HM)) _ _ s;refine Calls.spliced_cons (thn HG λu s1 ⟨x,H1,I1,r1,q1⟩=>?_);exact thn (hr pos a7 s1 σ H1 _ I1 q1) λus s2 ⟨xs,H2,I2,r2,q2⟩=>⟨x::xs,H2,I2,Ez r1 r2,q2⟩
def tTup(t:TA):TE:=λ σ H Q=>t σ H λxs H1=>xs.length≤sizeLine∧∀p,H1 p=none→Q Te (QI p Rl)
def tLst(t:TA):TE:=λ σ H Q=>t σ H λxs H1=>xs.length≤sizeLine∧∀p,H1 p=none→Q Te (QI p Sk)
def zbd{x1}(h:Vt es t):QA (.Tuple es x1 pos) (tTup t):=by intro a7 s σ H Q I hq;refine wpAny_Tuple_spliced (thn OX λus s1 ⟨xs,H1,I1,r,z,q⟩=>⟨by rw[←r.length];exact z,?_⟩);have hf:H1 s1.heap.objs.size=none:=I1.hok.fresh Gg;refine⟨AT,QI s1.heap.objs.size Rl,I1.laid (t':=s1.toks) (λb u e=>QS e) Gg ?_,rfl,q _ hf⟩;exact⟨z,us,r,⟨_,RY,rfl,A5⟩⟩
def za1(h:Vt es t):QA (.List es pos) (tLst t):=by intro a7 s σ H Q I hq;refine wpAny_List_spliced (thn OX λus s1 ⟨xs,H1,I1,r,z,q⟩=>⟨by rw[←r.length];exact z,?_⟩);have hf:H1 s1.heap.objs.size=none:=I1.hok.fresh Gg;refine⟨AT,QI s1.heap.objs.size Sk,I1.laid (t':=s1.toks) (λb u e=>QS e) Gg ?_,rfl,q _ hf⟩;exact⟨z,us,0,r,RY⟩
abbrev Sp:=List V→Hp→VK→XK→Prop
abbrev CXT:=List Env→Hp→Shared→XK→Value→Shared→Prop
structure Env0(P:Nk)(w:Nn)(K:Na)(mg:Ng)(base:No)(A:Np)(outer:List Env)(s:Ni)(H:Hp):Prop where
 frames:A.frames=some outer
 mod:Mod K mg base
 bs:∀b o,base.get? b=some o→s.heap.get? b=some o∧H b=none
 bsz:base.objs.size≤s.heap.objs.size
 funs:s.heap.FunFrames base outer
 frf:∀b∈frs outer,H b=none
 hok:WF s.heap
 bare:AllBare s.gens
inductive CE(outer:List Env)(P:Nk)(w:Nn)(H:Hp)(s:Ni)(Q:VK)(u:Value)(s':Ni):Prop
 |mk (v:_) (H':_) (h0:s'.os=s.os) (h1:AllBare s'.gens) (h2:Un (frs outer) [] H H' s.heap s'.heap) (h3:HOk P w H' s'.heap) (h4:RelV v u) (h5:Q v H'):CE outer P w H s Q u s'
def CR(CX:CXT)(outer:List Env)(P:Nk)(w:Nn)(H:Hp)(s:Ni)(Q:VK)(E:XK)(r:Result)(s':Ni):Prop:=
 match r with
 |.ok (.ret u)=>NH s'
 |.ok _=>False
 |.error e=>CX outer H s E e s'
structure FnOk(P:Nk)(w:Nn)(K:Na)(mg:Ng)(base:No)(CX:CXT)(k:Nat)(f:Nc)(fd:Nw)(ps:Nh)(sp:Sp):Prop where
 len:∀vs H Q E,sp vs H Q E→vs.length=ps.length
 run:∀(A:Np) (outer:List Env) (s:Ni) (H:Hp) (args:Args) (us:Nj) (vs:List V) (Q:VK) (E:XK),U5 A→JL H→JW args TR→MO us→sp vs H Q E →
  codeAny Sr A (.call Ce args) (CR CX outer P w H s Q E) s
def FnOk.imp{P:Nk}{w:Nn}{K:Na}{mg:Ng}{base:No}{CX:CXT}{k:Nat}{f:Nc}{fd:Nw}{ps:Nh}{sp sp':Sp}(F:ZC CX k f fd ps sp)(h:∀vs H Q E,sp' vs H Q E→sp vs H Q E):ZC CX k f fd ps sp':=
 ⟨λvs H Q E q=>F.len vs H Q E (h _ _ _ _ q),λA outer s H args us vs Q E hr he hb hv hs=>F.run A outer s H args us vs Q E hr he hb hv (h _ _ _ _ hs)⟩
def Env0.make{P:Nk}{w:Nn}{K:Na}{mg:Ng}{base:No}{A:Np}{outer:List Env}{s:Ni}{H:Hp}(e:JL H)(C:Nc)(us:Nj)(kw:Se (Str×Value)) :
  Env0 P w K mg base (Ob (.builtin "type.__call__" ⟨.ref C::us,kw⟩)) outer s H:=⟨by first|exact e.frames|(simpa[Around.under,Code.envs,Code.isFrame,pushEnvs] using e.frames),e.mod,e.bs,e.bsz,e.funs,e.frf,e.hok,e.bare⟩
variable{a7:Nd}{σ:St}{H:Hp}{s s':Ni}
def Inv.env0(I:Gj):Env0 X.prog X.w X.K X.mg X.base X.A X.stack s H:=
 ⟨I.ok.frames,I.ok.mod,I.bs,NC I.sz,I.stack,I.stkFree,I.hok,I.bare⟩
def Inv.after{Q:VK}{u:Value}(I:Gj)(h:CE X.stack X.prog X.w H s Q u s'):QB Q u s':=by obtain⟨v,H',os,bare,un,hok,r,q⟩:=h;obtain⟨hh,g,d,t,r9⟩:=s';obtain rfl:r9=s.os:=os;exact⟨v,H',I.call (h':=hh) (g':=g) (d':=d) (t':=t) (ch:=[]) un hok bare (λb z=>absurd z Fr),r,q⟩
def tCall(sp:Sp)(dvs:List V)(E:XK)(t:TA):TE:=λ σ H Q=>t σ H λvs H1=>sp (vs++dvs) H1 Q E
def tMake(C:Nc)(sp:Sp)(dvs:List V)(E:XK)(t:TA):TE:=λ σ H Q=>t σ H λvs H1=>∀x dx,H1 x=none→H1 dx=none→dx≠x →
 sp (.ref x::(vs++dvs)) (Ij (QI dx CH) x (.ins C dx [])) (λv H2=>v=.non∧Q RW H2) E
def Binds(K:Na)(fd:Nw)(ps:Nh)(ds:Nj):Prop:=
 ∀(s:Ni) (us:Nj),K.In s.heap→(us++ds).length=ps.length→JW ⟨us,[]⟩ (ps.zip (us++ds))
def Binds.all{K:Na}{fd:Nw}{ps:Nh}(h:∀us:List Value,us.length=ps.length→bindArgs fd ⟨us,[]⟩=pure TR):Z3 fd ps []:=λs us _ hl=>by rw[Zp]at hl ⊢;exact .of_eq (h us hl)
def zh1(CX:CXT)(X:Cx)(E:XK):Prop:=∀(a7:Nd) (σ:St) (H:Hp) (s:Ni) (e:Value) (s':Ni),ZA H s→CX X.stack H s E e s'→X.xe e s'
variable{CX:CXT}{k:Nat}{f C:Nc}{fd:Nw}{ps:Nh}{sp:Sp}{dvs:List V}{ds:Nj}{E:XK}{x m:Str}{p apos:Pos}{o:Expr}{ta:TE}
def run_fn{a7:Nd}{σ:St}{H:Hp}{s:Ni}{Q:VK}{us:Nj}{vs:List V}(F:QX sp)(hr:U5 X.A)(hb:BS ds)(hd:NI ds)(hx:NJ E)(I:Gj)(r:MO us)(h:sp (vs++dvs) H Q E):ZF (call Ce us) Tl X.xe s:=by
 have r2:Vals (vs++dvs) (us++ds):=r.append hd;have hl:(us++ds).length=ps.length:=by rw[←r2.length];exact Ms h
 refine wpAny_call (codeAny_mono (F.run X.A X.stack s H ⟨us,[]⟩ (us++ds) (vs++dvs) Q E hr I.env0 (hb s us I.kIn hl) r2 h) λr s' hq=>?_);cases r with
 |error e=>exact hx a7 σ H s e s' I hq
 |ok fl=>
  cases fl with
  |ret u=>exact I.after hq
  |next=>exact False.elim hq
  |brk=>exact False.elim hq
  |cont=>exact False.elim hq
def zam(F:QX sp)(hr:U5 X.A)(hg:Mr x)(hm:X.mg x=some Ce)(hk:PySem.W.keepIn X.K Ce=true)(hb:BS ds)(hd:NI ds)(hx:NJ E)(ha:Vt (e::es) t)(cM:Gw=false:=by decide)(he:starEach (e::es) X.env=(false,Ir)::starEach es X.env:=by rfl)(bo:(backTo pos HM).any (·.1)=false:=by rfl) :
  PE X (.Call (Sb p) (e::es) [] pos) (tCall sp dvs E t):=by
 intro a7 s σ H Q I h;refine wpAny_Call_Name_kw (Bp ?_ cM);refine PySem.W.callWith_K (h₀:=X.base) I.ok.mod.kin hk (thn Rt λus s1 ⟨vs,H1,I1,r,q⟩=>⟨I1.kIn,?_⟩) he bo;exact run_fn F hr hb hd hx I1 r q
structure Mk(K:Na)(C f:Nc):Prop where
 makes:KQ C=true
 init:ZQ Hw "__init__" = some (Fy f)
 fn:PySem.W.isFn K Ce=true
 kp:Q9 Hw=true
def run_make{a7:Nd}{σ:St}{H:Hp}{s:Ni}{Q:VK}{us:Nj}{vs:List V}(M:Mk X.K C f)(F:QX sp)(hr:Room (k+1) X.A)(hb:BS ds)(hd:NI ds)(hx:NJ E)(I:Gj)(r:MO us)(h:∀x dx,H x=none→H dx=none→dx≠x→sp (.ref x::(vs++dvs)) (Ij (ZU dx CH) x (.ins C dx [])) (λv H2=>v=.non∧Q RW H2) E) :
  wpAny FE X.A (call Hw us) Tl X.xe s:=by
 have hq:=h Gn s.heap.objs.size (RP (Um _)) C2 (Zk Ap);have I2:=Inv.made (C:=C) I;have r2:Vals (V.ref Gn::(vs++dvs)) (Value.ref Gn::(us++ds)):=.cons rfl (r.append hd);have hl:(Value.ref Gn::us++ds).length=ps.length:=by have e:=r2.length;rw[Ms hq]at e;exact e.symm
 refine wpAny_call (make_map (f:=f) I.kIn M.makes M.init (beq_iff_eq.mp M.fn) (codeAny_mono (F.run _ X.stack _ _ ⟨Value.ref Gn::us,[]⟩ (Value.ref Gn::(us++ds)) _ _ E (hr.make C us [])
  (I2.env0.make C us []) (hb _ (Value.ref Gn::us) I2.kIn hl) r2 hq) λr s' dP=>?_))
 cases r with
 |error e=>exact hx a7 σ _ _ e s' I2 dP
 |ok fl=>
  cases fl with
  |ret u=>obtain⟨v,H',I3,rv,ev,q3⟩:=I2.after dP;subst ev;exact⟨rv,⟨V.ref Gn,H',I3,rfl,q3⟩⟩
  |next=>exact False.elim dP
  |brk=>exact False.elim dP
  |cont=>exact False.elim dP
def pe_make(M:Mk X.K C f)(F:QX sp)(hr:Room (k+1) X.A)(hg:Mr x)(hm:X.mg x=some Hw)(hb:BS ds)(hd:NI ds)(hx:NJ E)(ha:Vt (e::es) t)(cM:Gw=false:=by decide)(he:starEach (e::es) X.env=(false,Ir)::starEach es X.env:=by rfl)(bo:(backTo pos HM).any (·.1)=false:=by rfl) :
  PE X (.Call (Sb p) (e::es) [] pos) (tMake C sp dvs E t):=by
 intro a7 s σ H Q I h;refine wpAny_Call_Name_kw (Bp ?_ cM);refine PySem.W.callWith_K (h₀:=X.base) I.ok.mod.kin M.kp (thn Rt λus s1 ⟨vs,H1,I1,r,q⟩=>⟨I1.kIn,?_⟩) he bo;exact run_make M F hr hb hd hx I1 r q
end
structure zar(N P:Nh)(sc:Scope):Prop where
 kind:sc.kind=.function
 co:sc.isCoroutine=false
 gen:sc.isGenerator=false
 nd:N.Nodup
 pre:N.take P.length=P
 par:∀x∈P,sc.names.lookup x=some .local∨sc.names.lookup x=some .cell
 nofree:∀y∈sc.names,y.2≠.free
theorem bindL_out{kindOf:Str→Option NameKind}{x:Str}:∀{binds:List (Str×Value)} {m:Ng},(∀v,(x,v)∉binds)→bindL kindOf binds m x=m x
 |[],_,_=>rfl
 | (n,v)::r,m,h=>by
  unfold bindL;rw[bindL_out λw hw=>h w (QM hw)];split
  ·have:x≠n:=by rintro rfl;exact h v Qc
   simp[this]
  rfl
theorem bindC_out{kindOf:Str→Option NameKind}{x:Str}:∀{binds:List (Str×Value)} {m:Ng},(∀v,(x,v)∉binds)→bindC kindOf binds m x=m x
 |[],_,_=>rfl
 |(n,v)::r,m,h=>by
  unfold bindC;rw[bindC_out λw hw=>h w (QM hw)];split
  ·rfl
  have:x≠n:=by rintro rfl;exact h v Qc
  simp[this]
theorem bindL_get{kindOf:Str→Option NameKind}{x:Str}{v:Value}:∀{P:Nh} {vs:Nj} {i:Nat} {m:Ng},P.Nodup→P[i]?=some x→vs[i]?=some v→kindOf x=some .local →
  bindL kindOf (P.zip vs) m x=some v
 |[],_,_,_,_,h,_,_=>by simp at h
 |_::_,[],_,_,_,_,h,_=>by simp at h
 |p::P,w::vs,0,m,nd,h1,h2,hk=>by simp at h1 h2;subst h1;subst h2;show bindL kindOf ((p,w)::P.zip vs) m p=_;unfold bindL;rw[bindL_out λv hv=>(Zh.mp nd).1 (Pt hv).1,if_pos hk];simp
 |p::P,w::vs,i+1,m,nd,h1,h2,hk=>by show bindL kindOf ((p,w)::P.zip vs) m x=_;unfold bindL;exact bindL_get (i:=i) (Zh.mp nd).2 (Fv h1) (Fv h2) hk
theorem bindC_get{kindOf:Str→Option NameKind}{x:Str}{v:Value}:∀{P:Nh} {vs:Nj} {i:Nat} {m:Ng},P.Nodup→P[i]?=some x→vs[i]?=some v→kindOf x≠some .local →
  bindC kindOf (P.zip vs) m x=some v
 |[],_,_,_,_,h,_,_=>by simp at h
 |_::_,[],_,_,_,_,h,_=>by simp at h
 |p::P,w::vs,0,m,nd,h1,h2,hk=>by simp at h1 h2;subst h1;subst h2;show bindC kindOf ((p,w)::P.zip vs) m p=_;unfold bindC;rw[bindC_out λv hv=>(Zh.mp nd).1 (Pt hv).1,if_neg hk];simp
 |p::P,w::vs,i+1,m,nd,h1,h2,hk=>by show bindC kindOf ((p,w)::P.zip vs) m x=_;unfold bindC;exact bindC_get (i:=i) (Zh.mp nd).2 (Fv h1) (Fv h2) hk
def start(N:Nh)(vs:List V):St:=vs.map some++List.replicate (N.length-vs.length) none
def cxOf(CX:CXT)(P:Nk)(w:Nn)(K:Na)(mg:Ng)(base:No)(N:Nh)(qual:Str)(scope:Scope)(f:Nc)(cd:Value)(A:Np)(outer:List Env)(s:Ni)(H:Hp)(E:XK):Cx where
 prog:=P
 w:=w
 K:=K
 mg:=mg
 base:=base
 A:=A.deeper Li
 N:=N
 s₀:=s
 H₀:=H
 env:=envOfC qual scope s.heap.objs.size f cd
 outer:=outer
 stack:=envOfC qual scope s.heap.objs.size f cd::outer
 ex:=[]
 calm:=true
 fn:=λ_=>true
 pn:=[]
 xe:=λe s'=>wpAny Sr (Oe Li) (leaving Li e) (λ_ md=>CX outer H s E e md) (λe' md=>CX outer H s E e' md) s'
def cell_has{sc:Scope}{n:Nat}{x:Str}(h:sc.names.lookup x=some .cell):∃c,(cellsFrom n sc.names []).lookup x=some c:=by have q:=PySem.W.cellsFrom_some sc.names n [] Oa;exact Option.isSome_iff_exists.mp q
def inv_start{CX:CXT}{P:Nk}{w:Nn}{K:Na}{mg:Ng}{base:No}{N ps:Nh}{qual:Str}{scope:Scope}{f:Nc}{cd:Value}{A:Np}{outer:List Env}{s s1:Ni}{H:Hp}{E:XK}{us:Nj}{vs:List V}(S:KR scope)(hd:A.handled=none)(e0:JL H)(hl:vs.length=ps.length)(r:MO us)(x:InCallC s s.heap.objs.size (bindL (FZ cd).kindOf TR λ_=>none) (cellsFrom Gn scope.names []) (bindC (FZ cd).kindOf TR λ_=>none) s1) :
  Inv (Ar cd) [] EO H s1:=by
 have bo:ps.length≤N.length:=by have:=congrArg List.length S.pre;rw[Ze]at this;lia
 obtain⟨h1,tk,rfl,hk⟩:=x.done;have noA:∀b:Addr,b∉(Ar cd).ex:=λb z=>absurd (show b∈([]:List Addr) from z) Fr;refine⟨⟨e0.mod,S.kind,rfl,rfl,Gg,λy z c h1 h2=>?_,λy hy=>?_,λy c _ h=>?_,λ_=>hd,Around.frames_deeper e0.frames,.inr ⟨rfl,rfl⟩,λb z=>absurd z (noA b),e0.bs,e0.bsz,λb _ _=>noA b,λb z=>absurd z (noA b),e0.funs,e0.frf⟩,
  rfl,e0.bare,Un.kept hk,⟨_,x.toInCall.ns,λi y v h1 h2 h3=>?_⟩,λy c h=>⟨_,x.cell y c h⟩,e0.hok.fresh Gg,λy c h=>?_,λp hp=>absurd (show p∈([]:List (Addr×Obj)) from hp) Fr,e0.hok.kept hk,?_⟩
 ·exact name_of_addr x.apart (Ue h1) (Ue h2)
 ·have hy:scope.names.lookup y=some .cell∨scope.names.lookup y=some .free:=hy;rcases hy with hy|hy
  ·exact cell_has hy
  exact absurd rfl (S.nofree _ (Ue hy))
 ·exact Zw As
 ·have hi:i < vs.length:=by
   unfold start at h2;by_cases hi:i<vs.length
   ·exact hi
   rw[Uy (Fv hi)]at h2;rw[List.getElem?_replicate]at h2;split at h2<;>cases h2
  have ha:vs[i]?=some v:=by
   unfold start at h2;rw[Xl (Fv hi),Qt]at h2;cases e:vs[i]? with
   |none=>rw[e]at h2;cases h2
   |some a=>rw[e]at h2;cases h2;rfl
  obtain⟨u,hu,rv⟩:=r.get ha;have hp:ps[i]?=some y:=by rw[←S.pre,List.getElem?_take_of_lt (by exact zar7 ‹_› ‹_›)];exact h1
  have ndP:ps.Nodup:=by rw[←S.pre];exact S.nd.sublist Og
  refine⟨u,rv,?_⟩;rcases S.par y (Wi hp) with k|k
  ·exact .inl ⟨k,bindL_get ndP hp hu k⟩
  obtain⟨c,e⟩:=cell_has (n:=s.heap.objs.size+1) k;refine .inr ⟨Gm k,c,e,?_⟩;have q:=x.cell y c e;rw[bindC_get ndP hp hu (by show scope.names.lookup y≠_;rw[k];decide)]at q;exact q
 ·exact e0.hok.fresh (Zw As)
 unfold start;show _=N.length;rw[Qk,Qa,List.length_replicate];lia
def fn_of{CX:CXT}{P:Nk}{w:Nn}{K:Na}{mg:Ng}{base:No}{k:Nat}{f:Nc}{name qual:Str}{params:Arguments}{body:List Stmt}{scope:Scope}{dV kV doc pm cdv ct oc:Value}{an od:Option Addr}{osl:Array Rc}{N ps:Nh}{sp:Sp}(lk:K.lookup f=some ⟨oc,od,.func (U2 ct),osl⟩)(aS:BB cdv qual=true)(S:KR scope)(len:∀vs H Q E,sp vs H Q E→vs.length=ps.length)(bG:∀ (A:Np) (outer:List Env) (s:Ni) (H:Hp) (vs:List V) (Q:VK) (E:XK),U5 (Oe (FZ cdv))→sp vs H Q E →
   ∃t,PSs (Ar cdv) body t∧t {nx:=λ_ H'=>Q .non H',rt:=Q} EO H) :
  FnOk P w K mg base CX (k+1) f (U2 ct) ps sp:=by
 refine⟨len,λA outer s H args us vs Q E hr e0 hb r eS=>?_⟩;have hl:=len _ _ _ _ eS;have KX:K.In s.heap:=e0.mod.kin.keeps λb o e=>(e0.bs b o e).1;have lim:s.heap.NoLimit:=e0.mod.nolimit.keeps λb o e=>(e0.bs b o e).1;have dD:∀y∈ps.zip us,scope.names.lookup y.1=some .local∨(scope.names.lookup y.1=some .cell∧((cellsFrom Gn scope.names []).lookup y.1).isSome=true):=λ⟨n,v⟩ hy=>by
  rcases S.par n (Pt hy).1 with q|q
  ·exact .inl q
  exact .inr ⟨q,PySem.W.cellsFrom_some _ _ _ Oh⟩
 refine codeAny_call_function hr.depth (KX _ _ lk) rfl S.co S.gen rfl (PySem.W.codeRec_of KX aS) (hb _ _ _ _ ?_);refine wpAny_newFunctionEnv_cells S.kind dD λenv he s1 x=>?_;subst he;refine⟨lim.keeps x.toInCall.keep,codeAny_func ?_⟩;obtain⟨t,ht,hq⟩:=bG A outer s H vs Q E (hr.deeper _) eS;have I:VN [] EO H s1:=inv_start S hr.hd e0 hl r x;refine wpAny_mono (ht [] s1 EO H _ I hq) (λfl s' hs=>?_) λe s' hs=>hs;have fin:∀{σ':St} {H':Hp} {v:V} {u:Value},VN [] σ' H' s'→UQ u→Q v H'→NH s':=
  λ{σ' H' v u} J rv q=>⟨v,H',J.os,J.bare,J.base,J.hok,rv,q⟩
 cases fl with
 |ret u=>obtain⟨v,σ',H',J,rv,q⟩:=hs;exact fin J rv q
 |next=>obtain⟨σ',H',J,q⟩:=hs;exact fin (v:=V.non) (u:=Value.none) J rfl q
 |brk=>obtain⟨_,_,_,q⟩:=hs;exact False.elim q
 |cont=>obtain⟨_,_,_,q⟩:=hs;exact False.elim q
section
variable{X:Cx}{x:Str}{p pos:Pos}{e:Expr}{es:Nq}{t:TA}{id T:String}{r:List V→Hp→VK→Prop}
def tCB(r:List V→Hp→VK→Prop)(t:TA):TE:=λ σ H Q=>t σ H λvs H1=>r vs H1 Q
def zai(hc:YV RV r)(hg:Mr x)(hm:X.mg x=none)(hv:bootBuiltins x=some RV)(ha:Vt (e::es) t)(hn:x ≠ "__name__" :=by decide)(cM:Gw=false:=by decide)(he:starEach (e::es) X.env=(false,Ir)::starEach es X.env:=by rfl)(bo:(backTo pos HM).any (·.1)=false:=by rfl):QA (.Call (Sb p) (e::es) [] pos) (tCB r t):=by intro a7 s σ H Q I h;refine wpAny_Call_Name_kw (J8 hv ?_ hn cM);exact PyProof.Rows.callWith_builtin1 (thn Rt λus s1 ⟨vs,H1,I1,r1,q1⟩=>hc a7 s1 σ H1 vs us Q I1 r1 q1) he bo
def zcb(hc:YV C3 r)(hg:Mr x)(hm:X.mg x=none)(hv:bootBuiltins x=some C3)(ha:Vt (e::es) t)(hn:x ≠ "__name__" :=by decide)(cM:Gw=false:=by decide)(he:starEach (e::es) X.env=(false,Ir)::starEach es X.env:=by rfl)(bo:(backTo pos HM).any (·.1)=false:=by rfl):QA (.Call (Sb p) (e::es) [] pos) (tCB r t):=by intro a7 s σ H Q I h;refine wpAny_Call_Name_kw (J8 hv ?_ hn cM);exact Xh (thn Rt λus s1 ⟨vs,H1,I1,r1,q1⟩=>hc a7 s1 σ H1 vs us Q I1 r1 q1) he bo
end
section
variable{κ:Type}[DecidableEq κ]
def valV(kvs:Se (κ×V))(k:κ):Option V:=(kvs.find? λkv=>decide (kv.1=k)).map (·.2)
def putK(kvs:Se (κ×V))(k:κ)(v:V):List (κ×V):=
 if(kvs.any λkv=>decide (kv.1=k))=true then kvs.map (λkv=>if kv.1=k then(kv.1,v) else kv) else kvs++[(k,v)]
def zdb{p:κ×V}{r:List (κ×V)}{k:κ}(e:p.1=k):valV (p::r) k=some p.2:=by simp[valV,Kh,e]
def zb7{p:κ×V}{r:List (κ×V)}{k:κ}(e:¬p.1=k):valV (p::r) k=valV r k:=by simp[valV,Kh,e]
theorem zh7(k:κ):∀kvs:List (κ×V),(kvs.any λkv=>decide (kv.1=k))=(BC k).isSome
 |[]=>rfl
 |p::r=>by
  rw[Kt];by_cases e:p.1=k
  ·simp only[zdb e,decide_eq_true e,Bool.true_or,Option.isSome_some]
  rw[zb7 e,decide_eq_false e,Bool.false_or];exact zh7 k r
def zed(kvs:Se (κ×V))(k:κ)(v:V):(YW k v).length≤kvs.length+1:=by
 unfold putK;split
 ·rw[Qa];exact XT _
 rw[Qk,Za,We];exact Qh _
def zf4{kvs:List (κ×V)}{k:κ}(v:V)(h:BC k=none):YW k v=kvs++[(k,v)]:=by unfold putK;rw[zh7,h];exact if_neg Fw
def RelO.isSome_eq{o:Option V}{u:Option Value}(r:RelO o u):o.isSome=u.isSome:=by
 cases o with
 |none=>cases u with
  |none=>rfl
  |some _=>exact(show False from r).elim
 |some _=>cases u with
  |none=>exact(show False from r).elim
  |some _=>rfl
def RelO.getD{o:Option V}{u:Option Value}{d:V}{d':Value}(r:RelO o u)(rd:RelV d d'):RelV (o.getD d) (u.getD d'):=by
 cases o with
 |none=>cases u with
  |none=>exact rd
  |some _=>exact(show False from r).elim
 |some _=>cases u with
  |none=>exact(show False from r).elim
  |some _=>exact r
def KV.val{kvs:List (κ×V)}{vs:List (κ×Value)}(r:UD vs)(k:κ):RelO (BC k) (valueAt vs k):=by
 unfold KV at r;induction r with
 |nil=>exact True.intro
 | @cons p q ps qs h t ih=>
  obtain⟨h1,h2⟩:=h;by_cases e:p.1=k
  ·have e':q.1=k:=h1.symm.trans e;have b:valueAt (q::qs) k=some q.2:=by simp[valueAt,Kh,e']
   rw[zdb e,b];exact h2
  have e':¬ q.1=k:=λz=>e EQ;have b:valueAt (q::qs) k=valueAt qs k:=by simp[valueAt,Kh,e']
  rw[zb7 e,b];exact ih
def KV.any{kvs:List (κ×V)}{vs:List (κ×Value)}(r:UD vs)(k:κ):(kvs.any λkv=>decide (kv.1=k))=vs.any λkv=>decide (kv.1=k):=by
 unfold KV at r;induction r with
 |nil=>rfl
 |cons h t ih=>rw[Kt,Kt,ih,h.1]
def KV.repl{kvs:List (κ×V)}{vs:List (κ×Value)}(r:UD vs)(k:κ){y:V}{u:Value}(ry:YE u) :
  KV (kvs.map λkv=>if kv.1=k then(kv.1,y) else kv) (vs.map λkv=>if kv.1=k then(kv.1,u) else kv):=by
 unfold KV at r ⊢;induction r with
 |nil=>exact .nil
 |@cons p q ps qs h t ih=>
  rw[Qo,Qo];refine .cons ?_ ih;obtain⟨h1,h2⟩:=h;by_cases e:p.1=k
  ·rw[if_pos e,if_pos (h1.symm.trans e)];exact⟨h1,ry⟩
  rw[if_neg e,if_neg (λz=>e EQ)];exact⟨h1,h2⟩
def KV.put{kvs:List (κ×V)}{vs:List (κ×Value)}(r:UD vs)(k:κ){y:V}{u:Value}(ry:YE u):KV (YW k y) (stored vs k u):=by
 unfold putK stored;rw[r.any k];by_cases e:(vs.any λkv=>decide (kv.1=k))=true
 ·rw[if_pos e,if_pos e];exact r.repl k ry
 rw[if_neg e,if_neg e];exact Paired.snoc r ⟨rfl,ry⟩
def KV.length{kvs:List (κ×V)}{vs:List (κ×Value)}(r:UD vs):kvs.length=vs.length:=Zl r
end
def kV_is{P:Nk}{w:Nn}{k:Key}{u:Value}(r:RelV (kV k) u):(J5 w).is k u=true:=by
 cases k with
 |inl i=>obtain⟨t,e⟩:=(show ∃t,u=B4 t from r);subst e;exact mixKind_int P w i t
 |inr x=>obtain⟨t,e⟩:=(show ∃t,u=YI t from r);subst e;exact zgu P w x t
theorem items_are{P:Nk}{w:Nn}:∀{ks:List Key} {us:Nj},Vals Av us→ItemsAre La ks us
 |[],_,r=>by rw[List.map_nil]at r;cases r;exact .nil
 |k::ks,_,r=>by
  rw[Qo]at r;cases r with
  |cons h t=>exact .cons (kV_is h) (items_are t)
abbrev KT(H:Hp):List (List Key×V)→List (List Key×Addr×Value)→Prop:=Paired λp q=>p.1=q.1∧H q.2.1=some (CF (p.1.map kV))∧NB q.2.2
def KT.val{H:Hp}{kvs:List (List Key×V)}{xs:List (List Key×Addr×Value)}(r:KU xs)(k:List Key):RelO (BC k) ((atKey xs k).map (·.2)):=by
 induction r with
 |nil=>exact True.intro
 | @cons p q ps qs h t ih=>
  obtain⟨h1,_,h2⟩:=h;by_cases e:p.1=k
  ·have e':q.1=k:=h1.symm.trans e;have b:atKey (q::qs) k=some q.2:=by simp[atKey,Kh,e']
   rw[zdb e,b];exact h2
  have e':¬ q.1=k:=λz=>e EQ;have b:atKey (q::qs) k=atKey qs k:=by simp[atKey,Kh,e']
  rw[zb7 e,b];exact ih
def KT.repl{H:Hp}{kvs:List (List Key×V)}{xs:List (List Key×Addr×Value)}(r:KU xs)(k:List Key){y:V}{u:Value}(ry:YE u) :
  KT H (kvs.map λkv=>if kv.1=k then(kv.1,y) else kv) (xs.map (putAt k u)):=by
 induction r with
 |nil=>exact .nil
 |@cons p q ps qs h t ih=>
  rw[Qo,Qo];refine .cons ?_ ih;obtain⟨h1,h2,h3⟩:=h;unfold putAt;by_cases e:p.1=k
  ·rw[if_pos e,if_pos (h1.symm.trans e)];exact⟨h1,h2,ry⟩
  rw[if_neg e,if_neg (λz=>e EQ)];exact⟨h1,h2,h3⟩
def KT.put{H:Hp}{kvs:List (List Key×V)}{xs:List (List Key×Addr×Value)}(r:KU xs)(k:List Key){b:Nc}{y:V}{u:Value}(hb:H b=some Tn)(ry:YE u) :
  KT H (YW k y) (storedH xs k b u):=by
 have e:(kvs.any λkv=>decide (kv.1=k))=(atKey xs k).isSome:=by rw[zh7,(r.val k).isSome_eq,Option.isSome_map]
 unfold putK storedH;rw[e];by_cases q:(atKey xs k).isSome=true
 ·rw[if_pos q,if_pos q];exact r.repl k ry
 rw[if_neg q,if_neg q];exact Paired.snoc r ⟨rfl,hb,ry⟩
def KT.keeps{H H':Hp}{kvs:List (List Key×V)}{xs:List (List Key×Addr×Value)}(r:KU xs)(ht:∀b ys,H b=some IO→H' b=some IO):KT H' kvs xs:=
 Paired.mapP r λ_ _ z=>⟨z.1,ht _ _ z.2.1,z.2.2⟩
section
variable{P:Nk}{w:Nn}{H:Hp}{h:No}{a:Nc}
def rd_of{u:HO}(ok:WF h)(e:Vc u):WO a u:=e.ok ok
def dk_rd{kvs:List (Key×V)}(ok:WF h)(e:Vc HS):kvs.length≤sizeLine∧(a==sysModules)=false∧∃vs,UD vs∧h.DictOf La a vs:=
 show WO a HS from rd_of ok e
def dk_of{kvs:List (Key×V)}(ok:WF h)(e:H a=some HS):kvs.length≤sizeLine∧(a==sysModules)=false∧∃vs,UD vs∧h.DictOf La a vs:=dk_rd ok (Gm e)
def key_of{ks:List Key}(ok:WF h)(e:H a=some (CF Av)):(Ew La).is h ks a:=by obtain⟨_,a8,r,o,h1,h2,n,h3⟩:=(show WO a (CF Av) from ok a _ e);exact⟨o,a8.toArray,n,h1,h2,h3,by simpa using items_are r⟩
def dt_rd{kvs:List (List Key×V)}(ok:WF h)(e:Vc Sx):kvs.length≤sizeLine∧(a == sysModules)=false ∧
  ∃xs,KU xs∧h.DictOfH (Ew La) a xs:=by
 obtain⟨z,y,xs,r,o,es,ep,h1,h2,h3,h4,h5⟩:=(show WO a Sx from rd_of ok e);refine⟨z,y,xs,r,o,es,ep,h1,h2,h3,h4,λx hx=>?_,h5⟩;have all:∀{l:List (List Key×V)} {m:List (List Key×Addr×Value)},KT H l m→∀x∈m,(Ew La).is h x.1 x.2.1:=by
  intro l m q;induction q with
  |nil=>intro x hx;exact nomatch hx
  |@cons p q ps qs hq t ih=>
   intro x hx;rcases Qi.mp hx with e|hx
   ·subst e;exact key_of ok (by rw[←hq.1];exact hq.2.1)
   exact ih x hx
 exact all r x hx
def dt_of{kvs:List (List Key×V)}(ok:WF h)(e:H a=some Sx):kvs.length≤sizeLine∧(a==sysModules)=false ∧
  ∃xs,KU xs∧h.DictOfH (Ew La) a xs:=dt_rd ok (Gm e)
def DGet(H:Hp)(a:Nc)(y:V)(r:Option V):Prop:=
 (∃kvs k,Vc HS∧y=kV k∧r=BC k)∨∃kvs k b,Vc Sx∧y=.ref b∧H b=some Tn∧r=BC k
def DPut(H:Hp)(a:Nc)(y v:V)(H':Hp):Prop:=
 (∃kvs k,H a=some HS∧y=kV k∧kvs.length<sizeLine∧H'=ZU a (.dK Au)) ∨
 ∃kvs k b,H a=some Sx∧y=.ref b∧H b=some Tn∧kvs.length<sizeLine∧H'=ZU a (.dT Au)
def DGet.k{H:Hp}{a:Nc}{kvs:List (Key×V)}{k:Key}(e:H a=some HS):KY (kV k) (BC k):=.inl ⟨kvs,k,Gm e,rfl,rfl⟩
def DGet.t{H:Hp}{a b:Nc}{kvs:List (List Key×V)}{k:List Key}(e:H a=some Sx)(eb:H b=some Tn):KY ER (BC k):=.inr ⟨kvs,k,b,Gm e,rfl,eb,rfl⟩
def DPut.k{H:Hp}{a:Nc}{kvs:List (Key×V)}{k:Key}{v:V}(e:H a=some HS)(hl:kvs.length<sizeLine):DPut H a (kV k) v (ZU a (.dK Au)):=.inl ⟨kvs,k,e,rfl,hl,rfl⟩
def DPut.t{H:Hp}{a b:Nc}{kvs:List (List Key×V)}{k:List Key}{v:V}(e:H a=some Sx)(eb:H b=some Tn)(hl:kvs.length<sizeLine) :
  DPut H a ER v (ZU a (.dT Au)):=.inr ⟨kvs,k,b,e,rfl,eb,hl,rfl⟩
variable{X:Cx}{a7:Nd}{σ:St}{s:Ni}{y v:V}{u r:Value}{o:Option V}{A:Np}{E:Nb}
def Inv.big(I:Gj):sysModules<s.heap.objs.size:=by have h:mainGlobals<s.heap.objs.size:=(I.mod.glob.keeps I.bk).lt;exact Wt Fw h
def d_getItem{Q:Nb}(hu:A.units+1<cLine)(I:Gj)(g:KY y (He v))(ry:YE u)(h:∀w' s',ZA H s'→UQ w'→Q w' s') :
  wpAny FE A (getItem Ht u) Q E s:=by
 rcases g with⟨kvs,k,e,ey,l⟩|⟨kvs,k,b,e,ey,eb,l⟩
 ·subst ey;obtain⟨z,hd,vs,rel,dd⟩:=XA e;obtain⟨w',hw,bV⟩:=RelO.some_of (v:=v) (o:=valueAt vs k) (by rw[l];exact rel.val k);exact wpAny_getItem_of Oi dd.mapOf hw (h w' _ HI bV)
 subst ey;cases(show u=Value.ref b from ry);obtain⟨z,hd,xs,rel,dd⟩:=XB e;obtain⟨w',hw,bV⟩:=RelO.some_of (v:=v) (o:=(atKey xs k).map (·.2)) (by rw[l];exact rel.val k);obtain⟨p,hp,aD⟩:=Option.map_eq_some_iff.mp hw;refine wpAny_getItem_heap Ti (KZ eb) dd hp ?_;rw[aD];exact h w' _ HI bV
def d_notIn{Q:Nb}(hu:A.units+1<cLine)(I:Gj)(g:KY y o)(ry:YE u)(h:∀s',ZA H s'→Q (.bool (!o.isSome)) s') :
  wpAny FE A (compareOp .NotIn u Ht) Q E s:=by
 rcases g with⟨kvs,k,e,ey,l⟩|⟨kvs,k,b,e,ey,eb,l⟩
 ·subst ey;obtain⟨z,hd,vs,rel,dd⟩:=XA e;refine wpAny_notIn_of Oi hd dd.mapOf ?_;rw[←(rel.val k).isSome_eq,←l];exact h _ HI
 subst ey;cases(show u=Value.ref b from ry);obtain⟨z,hd,xs,rel,dd⟩:=XB e;refine wpAny_notIn_heap Ti (KZ eb) hd dd ?_;have q:=(rel.val k).isSome_eq;rw[Option.isSome_map]at q;rw[←q,←l];exact h _ HI
def d_write{h':No}{t':Nat}{ob:HO}(I:Gj)(mu:Mut (H a))(hs:BY h')(he:∃q,h'.get? a=some q)(new:Z5 (ZU a ob) h' a ob) :
  Inv X a7 σ (ZU a ob) {s with heap:=h',toks:=t'}:=
 I.write (x:=a) (e:=a) mu Hr (λb q hb z=>(hs.2 b hb).trans z) he new
def dk_new{P:Nk}{w:Nn}{H':Hp}{h':No}{kvs:List (Key×V)}{vs:List (Key×Value)}(z:kvs.length≤sizeLine)(hd:(a==sysModules)=false)(rel:UD vs)(dd:h'.DictOf La a vs) :
  zbq P w H' h' a HS:=⟨z,hd,vs,rel,dd⟩
def d_setItem{H':Hp}{Q:Unit→Shared→Prop}(hu:A.units+1<cLine)(I:Gj)(g:DPut H a y v H')(ry:YE u)(rv:UQ r)(h:∀s',ZA H' s'→Q () s') :
  wpAny FE A (setItem Ht u r) Q E s:=by
 rcases g with⟨kvs,k,e,ey,l,eH⟩|⟨kvs,k,b,e,ey,eb,l,eH⟩
 ·subst ey eH;obtain⟨z,hd,vs,rel,dd⟩:=dk_of I.hok e;have hz:vs.length≤sizeLine:=by rw[←rel.length];exact z
  have hl:(YW k v).length≤sizeLine:=by have:=zed kvs k v;exact Zf ‹_› ‹_›
  refine wpAny_setItem_pairs (hsz:=hz) Oi dd λh' l9 hs=>h _ ?_;have he:∃q,h'.get? a=some q:=let⟨q,_,_,hq,_⟩:=l9;⟨q,hq⟩;exact d_write I (by rw[e];exact True.intro) hs he (dk_new hl hd (rel.put k rv) l9)
 subst ey eH;cases(show u=Value.ref b from ry);obtain⟨z,hd,xs,rel,dd⟩:=dt_of I.hok e;have hz:xs.length≤sizeLine:=by rw[←Zl rel];exact z
 have hl:(YW k v).length≤sizeLine:=by have:=zed kvs k v;exact Zf ‹_› ‹_›
 refine wpAny_setItem_heap (hsz:=hz) Ti (KZ eb) dd λh' l9 hs=>h _ ?_;obtain⟨q,es,ep,hq,h2,h3,h4,_,h5⟩:=l9;refine d_write I (by rw[e];exact True.intro) hs ⟨q,hq⟩ ⟨hl,hd,_,(rel.put k eb rv).keeps λc ys ec=>?_,q,es,ep,hq,h2,h3,h4,h5⟩;rw[zaf (zbg ec e (λz=>nomatch z))];exact ec
def NoSl(i:Expr):Prop:=∀ov iv,subscripted i false ov iv=operate [ov,iv] (getItem ov iv)
end
def subD_of{prog:Nk}{w:Nn}{A:Np}{E:Nb}{s:Ni}{env:Env}{value slice:Expr}{pos:Pos}{T id:String}{Q:Nb}(hl:typeLookup C3 "__getitem__" = pure (He RV))(hs:NoSl slice)(h:ZG (eval value env) (λo s₁=>ZG (eval slice env) (λi s₂=>s₂.TypeIs o T∧ZG (getItem o i) Q E s₂) E s₁) E s) :
  wpAny Ga A (Cb (.Subscript value slice pos)) Q E s:=by
 refine Subscript_ (MM (λo s₁ h₁=>Vu (λi s₂ h₂=>?_) λ_ _ x=>x) λ_ _ x=>x);obtain⟨hT,h₂⟩:=h₂;unfold subscriptTail;refine wpAny_bind ?_;rw[getitemInPython_of_ne hT.not_modules];refine wpAny_bind (wpAny_specialOf hT hl ?_);have fin:ZG (subscripted slice false o i) (λr s₃=>ZG (letTemporaryGo value o r >>= λ_=>pure r) Q E s₃) E s₂:=by rw[hs o i];exact wpAny_operating (Vv (λr s₃ h₃=>wpAny_bind (wpAny_letTemporaryGo (GG h₃))) λ_ _ x=>x)
 first
  |exact wpAny_pure (wpAny_bind fin)
  |exact wpAny_bind (wpAny_pure (wpAny_bind fin))
  |exact wpAny_bind fin
def dict_typeIs{X:Cx}{a7:Nd}{σ:St}{H:Hp}{s:Ni}{a:Nc}{y:V}{o:Option V}(I:Gj)(g:KY y o):s.TypeIs Ht "dict" :=by
 rcases g with⟨kvs,k,e,_,_⟩|⟨kvs,k,b,e,_,_,_⟩
 ·obtain⟨_,_,vs,_,dd⟩:=XA e;exact dd.typeIs
 obtain⟨_,_,xs,_,dd⟩:=XB e;exact dd.typeIs
inductive RDG(x y:V)(H:Hp)(Q:VK):Prop
 |mk (a:Nc) (v:V) (e:x=.ref a) (g:DGet H a y (some v)) (q:Q v H):RDG x y H Q
inductive RDI(x y:V)(H:Hp)(R:Option V→Prop):Prop
 |mk (a:Nc) (o:Option V) (e:x=.ref a) (g:DGet H a y o) (q:R o):RDI x y H R
inductive RDP(x y v:V)(H:Hp)(N:Hp→Prop):Prop
 |mk (a:Nc) (H4:Hp) (e:x=.ref a) (p:DPut H a y v H4) (q:N H4):RDP x y v H N
def tDGet(td ty:TE):TE:=λ σ H Q=>td σ H λx H1=>ty σ H1 λy H2=>RDG x y H2 Q
def tDNotIn(ty td:TE):TE:=λ σ H Q=>ty σ H λy H1=>td σ H1 λx H2=>RDI x y H2 λo=>Q (.bl (!o.isSome)) H2
def sDPut(td ty tv:TE):TS:=λD σ H=>tv σ H λv H1=>td σ H1 λx H2=>ty σ H2 λy H3=>RDP x y v H3 (D.nx σ)
section
variable{X:Cx}{o i e value:Expr}{pos aW tpos:Pos}{td ty tv:TE}
def pe_dget(hu:X.A.units+1<cLine)(ho:AU)(hi:QA i ty)(hs:NoSl i):QA Ao (tDGet td ty):=by intro a7 s σ H Q I h;refine subD_of PySem.F.slot_dict_getitem.lookup hs (thn SE λu s1 ⟨x,H1,I1,rx,q1⟩=>thn OW λiv s2 ⟨y,H2,I2,ry,a,v,ex,g,q2⟩=>?_);subst ex;obtain rfl:u=Value.ref a:=rx;exact⟨dict_typeIs I2 g,d_getItem hu I2 g ry λw' s3 I3 bV=>⟨v,H2,I3,bV,q2⟩⟩
def zew(hu:X.A.units+1<cLine)(hi:QA i ty)(ho:AU):PC X .NotIn i o (tDNotIn ty td):=by intro a7 s σ H Q I h;refine thn Sd λiv s1 ⟨y,H1,I1,ry,q1⟩=>thn OY λu s2 ⟨x,H2,I2,rx,a,ov,ex,g,q2⟩=>?_;subst ex;obtain rfl:u=Value.ref a:=rx;exact d_notIn hu I2 g ry λs3 I3=>⟨.bl (!ov.isSome),H2,I3,rfl,q2⟩
def zil(hu:X.A.units+1<cLine)(ho:AU)(hi:QA i ty)(hv:QA value tv)(hs:swapsWith value (He (.Subscript o i aW)) pos.line X.env=pure false) :
  PS X (.Assign [.Subscript o i aW] value pos) (sDPut td ty tv):=by
 intro a7 s σ H D I h;refine wpAny_Assign_Subscript (thn CM λr s1 ⟨v,H1,I1,rv,q1⟩=>thn OY λu s2 ⟨x,H2,I2,rx,q2⟩=>thn (hi a7 s2 σ H2 _ I2 q2) λiv s3 ⟨y,H3,I3,ry,a,H4,ex,g,q3⟩=>?_) hs;subst ex;obtain rfl:u=Value.ref a:=rx;exact d_setItem hu I3 g ry rv λs4 I4=>⟨σ,H4,I4,q3⟩
def dk_empty{P:Nk}{w:Nn}{H:Hp}(h:No)(hb:sysModules<h.objs.size):YM H (h.push {cls:=.type "dict",data:=.dict #[]}) h.objs.size (.dK []):=
 ⟨Sv,CC (Zd (Zk hb)),[],.nil,Heap.DictOf.new h⟩
def dt_empty{P:Nk}{w:Nn}{H:Hp}(h:No)(hb:sysModules<h.objs.size):YM H (h.push {cls:=.type "dict",data:=.dict #[]}) h.objs.size (.dT []):=
 ⟨Sv,CC (Zd (Zk hb)),[],.nil,_,#[],0,RY,⟨rfl,rfl,rfl⟩,rfl,rfl,Zy⟩
def tDNewK:TE:=λ_ H Q=>∀p,H p=none→Q Te (ZU p (.dK []))
def tDNewT:TE:=λ_ H Q=>∀p,H p=none→Q Te (ZU p (.dT []))
def pe_dnewK:QA (.Dict [] [] pos) tDNewK:=λa7 s σ H Q I h=>wpAny_Dict_empty ⟨FY,_,I.laid (a:=s.heap.objs.size) (o:=.dK []) (t':=s.toks) (λ_ _ q=>QS q) Gg Pb,rfl,h _ C2⟩
def pe_dnewT:QA (.Dict [] [] pos) tDNewT:=λa7 s σ H Q I h=>wpAny_Dict_empty ⟨FY,_,I.laid (a:=s.heap.objs.size) (o:=.dT []) (t':=s.toks) (λ_ _ q=>QS q) Gg (dt_empty s.heap I.big),rfl,h _ C2⟩
end
def tPairs:List (TE×TE)→St→Hp→(List (V×V)→Hp→Prop)→Prop
 |[],_,H,Q=>Q [] H
 |(tk,tv)::r,σ,H,Q=>tk σ H λx H1=>tv σ H1 λy H2=>tPairs r σ H2 λps H3=>Q ((x,y)::ps) H3
abbrev VV:List (V×V)→List (Value×Value)→Prop:=Paired λp q=>RelV p.1 q.1∧NB q.2
def PPs(X:Cx)(pos:Pos)(keys:Se OZ)(values:Nq)(trs:Se (TE×TE)):Prop:=
 ∀(a7:Nd) (s:Ni) (σ:St) (H:Hp) (Q:List (V×V)→Hp→Prop),ZA H s→tPairs trs σ H Q →
  wpAny FE X.A (evalPairs (pairTrees keys values X.env pos)) (λvs s'=>∃ps H',ZA H' s'∧VV ps vs∧Q ps H') X.xe s
def pps_nil{X:Cx}{pos:Pos}:Fc [] [] []:=λa7 s σ H Q I h=>pairTrees_nil_walk ⟨[],H,I,.nil,h⟩
def pps_cons{X:Cx}{pos:Pos}{k v:Expr}{ks:List OZ}{vs:Nq}{tk tv:TE}{trs:List (TE×TE)}(hk:QA k tk)(hv:QA v tv)(hr:Fc ks vs trs) :
  PPs X pos (some k::ks) (v::vs) ((tk,tv)::trs):=λa7 s σ H Q I h=>
 pairTrees_cons_walk (thn (hk a7 s σ H _ I h) λu s1 ⟨x,H1,I1,rx,q1⟩=>thn (hv a7 s1 σ H1 _ I1 q1) λw2 s2 ⟨y,H2,I2,ry,q2⟩=>thn (hr a7 s2 σ H2 _ I2 q2) λws s3 ⟨ps,H3,I3,rel,q3⟩=>⟨(x,y)::ps,H3,I3,Ez ⟨rx,ry⟩ rel,q3⟩)
def zhr(kvs more:Se (Key×V)):List (Key×V):=more.foldl (λaj kv=>putK aj kv.1 kv.2) kvs
def KV.merge:∀{more:List (Key×V)} {rs:List (Key×Value)} {kvs:List (Key×V)} {vs:List (Key×Value)},KV more rs→UD vs→KV (zhr kvs more) (merged vs rs):=by
 intro more rs kvs vs r;unfold KV at r;induction r generalizing kvs vs with
 |nil=>intro q;exact q
 |@cons p q ps qs h t ih=>
  intro r0;have e:KV Pu (stored vs q.1 q.2):=by have:=r0.put p.1 h.2;rw[←h.1];exact this
  exact ih e
theorem ze1:∀(more kvs:Se (Key×V)),(zhr kvs more).length≤kvs.length+more.length
 |[],kvs=>by show kvs.length≤kvs.length+0;exact Qh _
 |p::r,kvs=>by have h1:=ze1 r Pu;have h2:=zed kvs p.1 p.2;show(zhr Pu r).length≤_;rw[Za];lia
theorem zhy{P:Nk}{w:Nn}:∀{kvs:List (Key×V)} {ws:List (Value×Value)},VV (kvs.map λkv=>(kV kv.1,kv.2)) ws→∃rs,Carries La ws rs∧UD rs
 |[],_,r=>by rw[List.map_nil]at r;cases r;exact⟨[],True.intro,.nil⟩
 |p::kvs,_,r=>by
  rw[Qo]at r;cases r with
  |@cons a b as bs h t=>obtain⟨rs,c,q⟩:=zhy (P:=P) (w:=w) t;obtain⟨b1,b2⟩:=b;exact⟨(p.1,b2)::rs,⟨kV_is h.1,rfl,c⟩,.cons ⟨rfl,h.2⟩ q⟩
def tDisp(trs:Se (TE×TE)):TE:=λ σ H Q=>∀p,H p=none→tPairs trs σ (ZU p (.dK [])) λps H2=>H2 p=some (.dK [])∧∃kvs:List (Key×V),ps=kvs.map (λkv=>(kV kv.1,kv.2))∧kvs.length≤15∧Q Te (WD p (.dK (zhr [] kvs)))
def pe_disp{X:Cx}{pos:Pos}{keys:List OZ}{values:Nq}{trs:List (TE×TE)}(h:Fc keys values trs)(af:keys.all (·.isSome)=true)(hl:keys.length=values.length)(h0:keys≠[])(h15:keys.length≤15):QA (.Dict keys values pos) (tDisp trs):=by
 intro a7 s σ H Q I q;have hn:=I.hok.fresh (Qh s.heap.objs.size);have I1:=I.laid (a:=s.heap.objs.size) (o:=.dK []) (h':=s.heap.push {cls:=.type "dict",data:=.dict #[]}) (t':=s.toks) (λ_ _ q=>QS q) Gg Pb;refine wpAny_Dict_walk (knd:=Q2 X.w) af hl h0 h15 (thn (h a7 _ σ _ _ I1 (q _ hn)) λws s2 ⟨ps,H2,I2,rel,e,kvs,ep,lk,q2⟩=>?_);subst ep;obtain⟨rs,c,rk⟩:=zhy (P:=X.prog) (w:=X.w) rel;obtain⟨z,hd,vs0,r0,dd⟩:=dk_of I2.hok e;cases r0;refine⟨rs,c,dd,λh' l9 hs=>⟨FY,_,?_,rfl,q2⟩⟩;have hz:(zhr [] kvs).length≤sizeLine:=by have h1:=ze1 kvs [];rw[We]at h1;rw[sizeLine_eq];lia
 have he:∃q,h'.get? s.heap.objs.size=some q:=let⟨q,_,_,hq,_⟩:=l9;⟨q,hq⟩;exact d_write I2 (by rw[e];exact True.intro) hs he (dk_new hz hd (rk.merge .nil) l9)
structure M2(X:Cx)(o:Expr)(m:Str)(apos:Pos)(e f:Expr)(cpos:Pos):Prop where
 base:attributeBase o m X.env (GX o)=eval o X.env
 few:((Tz (starEach [e,f] X.env)).all (λx=>!x.1)&&(backToKw cpos (keywordEach [] X.env)).all (λx=>x.1.isSome)
  && decide (([e,f]:List Expr).length+([]:List Keyword).length+(if([]:List Keyword).isEmpty then 0 else 1)<30))=true
 line:(apos.endLine==cpos.line)=true
 trees:backTo cpos (starEach [e,f] X.env)=[(false,Ir),(false,GX f)]
def IsD(H:Hp)(a:Nc):Prop:=(∃kvs,Vc HS)∨∃kvs,Vc Sx
def isD_at{X:Cx}{a7:Nd}{σ:St}{H:Hp}{s:Ni}{a:Nc}(I:Gj)(d:IsD H a) :
  s.TypeIs Ht "dict" ∧ (∀b,Value.ref a=.ref b→∃ob,s.heap.get? b=some ob∧ob.dict=none)∧(a==sysModules)=false:=by
 rcases d with⟨kvs,e⟩|⟨kvs,e⟩
 ·obtain⟨_,hd,vs,_,dd⟩:=XA e;refine⟨dd.typeIs,λb q=>?_,hd⟩;cases q;obtain⟨ob,_,_,h1,h2,_⟩:=dd;exact⟨ob,h1,h2.2.1⟩
 obtain⟨_,hd,xs,_,dd⟩:=XB e;refine⟨dd.typeIs,λb q=>?_,hd⟩;cases q;obtain⟨ob,_,_,h1,h2,_⟩:=dd;exact⟨ob,h1,h2.2.1⟩
section
variable{X:Cx}{a7:Nd}{σ:St}{H:Hp}{s:Ni}{a:Nc}{y d:V}{u r:Value}{o:Option V}{A:Np}{E:Nb}
def d_get2{Q:Nb}(hu:A.units+1<cLine)(I:Gj)(g:KY y o)(ry:YE u)(rd:RelV d r)(h:∀w' s',ZA H s'→RelV (o.getD d) w'→Q w' s') :
  wpAny FE A (call (.builtin "dict.get") [Ht,u,r]) Q E s:=by
 rcases g with⟨kvs,k,e,ey,l⟩|⟨kvs,k,b,e,ey,eb,l⟩
 ·subst ey;obtain⟨z,hd,vs,rel,dd⟩:=XA e;refine call_meetsIn PySem.F.slot_dict_get dd.typeIs PySem.F.entry_dict_get (Vy _) (meets_dict_get_default S0 a Oi hd r) ⟨_,dd.mapOf,h _ _ HI ?_⟩;rw[l];exact(rel.val k).getD rd
 subst ey;cases(show u=Value.ref b from ry);obtain⟨z,hd,xs,rel,dd⟩:=XB e;refine call_meetsIn PySem.F.slot_dict_get dd.typeIs PySem.F.entry_dict_get (Vy _) (meetsH_dict_get_default (Ew S0) a b hd r) ⟨Ti,k,xs,KZ eb,dd,h _ _ HI ?_⟩;rw[l];exact(rel.val k).getD rd
def tDGet2(td ty tx:TE):TE:=λ σ H Q=>td σ H λx H1=>∃a,x=.ref a∧IsD H1 a∧ty σ H1 λy H2=>tx σ H2 λz H3=>∃o,DGet H3 a y o∧Q (o.getD z) H3
end
section
variable{X:Cx}{o e f:Expr}{apos cpos:Pos}{td ty tx:TE}
def pe_dget2(hu:X.A.units+1<cLine)(ho:AU)(he:QA e ty)(hf:QA f tx)(m:M2 X o "get" apos e f cpos):QA (.Call (.Attribute o "get" apos) [e,f] [] cpos) (tDGet2 td ty tx):=by intro a7 s σ H Q I h;refine wpAny_Call_method m.base m.few m.line PySem.F.plainAttrs_dict PySem.F.slot_dict_get PySem.F.type_dict_get (thn SE λu s1 ⟨x,H1,I1,rx,a,ex,d,q1⟩=>?_);subst ex;obtain rfl:u=Value.ref a:=rx;obtain⟨t1,t2,_⟩:=isD_at I1 d;refine⟨t1,t2,?_⟩;rw[m.trees];refine VO (Calls.evalArgs_plain (Calls.spliced_cons (thn (he a7 s1 σ H1 _ I1 q1) λiv s2 ⟨y,H2,I2,ry,q2⟩=>Calls.spliced_cons (thn (hf a7 s2 σ H2 _ I2 q2) λfv s3 ⟨z,H3,I3,rz,ov,g,q3⟩=>Calls.spliced_nil ?_))));exact d_get2 hu I3 g ry rz λw' s4 I4 bV=>⟨_,H3,I4,bV,q3⟩
end
end L2
namespace HT
open PySem PyProof.Rows
section
variable{prog:Nk}{w:Nn}{A:Np}{E:Nb}{s:Ni}
def cat_tup{t b:Nc}{vs ws:Nj}{Q:Nb}(ht:JU t vs.toArray)(hb:JU b ws.toArray)(hv:vs≠[])(h1:ws=[]→Q SI s)(h2:ws≠[]→Q FY {s with heap:=s.heap.push {cls:=.type "tuple",data:=.seq (vs++ws).toArray}})(hsz:vs.length+ws.length≤sizeLine):ZG (binaryOp .Add SI ER) Q E s:=by
 obtain⟨⟨cls,dd,data,sl⟩,ho,hc,n,hd⟩:=id ht;obtain⟨⟨cls2,dd2,data2,sl2⟩,qg,hc2,n2,oO⟩:=id hb;simp only at hc hd hc2 oO;subst hc hd hc2 oO;have e:vs.toArray++ws.toArray=(vs++ws).toArray:=by simp
 by_cases hw:ws=[]
 ·exact concat_meets ⟨_,ho,rfl⟩ ⟨_,qg,rfl⟩ noFill_tuple_add seq_tuple_add PySem.F.slot_tuple_add PySem.F.entry_tuple_add (VP _)
   (tuple_addW1 t b vs.toArray ws.toArray n n2 dd dd2 sl sl2 (Fv hv) (by simp[hw])) ⟨ho,qg,h1 hw⟩
 refine concat_meets ⟨_,ho,rfl⟩ ⟨_,qg,rfl⟩ noFill_tuple_add seq_tuple_add PySem.F.slot_tuple_add PySem.F.entry_tuple_add (VP _)
  (tuple_addW2 t b vs.toArray ws.toArray n n2 dd dd2 sl sl2 (Fv hv) IP (by rw[Qp,Qp];exact hsz)) ⟨ho,qg,?_⟩
 rw[e];exact h2 hw
def sIx(n d:Nat):Option Int→Nat
 |none=>d
 |some v=>if v<0 then(v+(n:Int)).toNat else min v.toNat n
def sIx_nat(n d k:Nat):sIx n d (some (k:Int))=min k n:=by show(if(k:Int)<0 then((k:Int)+(n:Int)).toNat else min (k:Int).toNat n)=min k n;rw[if_neg Fs,Ur]
end
end HT
namespace L2
open PySem PySem.Spec PyProof.Rows
abbrev TO:=St→Hp→(Option Int→Hp→Prop)→Prop
def PO(X:Cx)(e:Option Expr)(t:TO):Prop:=
 ∀(a7:Nd) (s:Ni) (σ:St) (H:Hp) (Q:Option Int→Hp→Prop),ZA H s→t σ H Q →
  wpAny FE X.A (evalPart e X.env) (λu s'=>∃o H',ZA H' s'∧IsPart u o∧Q o H') X.xe s
def tNoPart:TO:=λ_ H Q=>Q none H
inductive RPt(x:V)(R:Int→Prop):Prop
 |mk (i:Int) (e:x=.int i) (q:R i):RPt x R
def tPart(t:TE):TO:=λ σ H Q=>t σ H λx H1=>RPt x λi=>Q (He i) H1
section
variable{X:Cx}{e:Expr}{te:TE}{lo hi:Option Expr}{tl th:TO}{pos p2:Pos}
def zbu:PO X none tNoPart:=by intro a7 s σ H Q I h;rw[evalPart_none];exact wpAny_pure ⟨none,H,I,.none,h⟩
def zbx(h:Cy):PO X (He e) (tPart te):=by intro a7 s σ H Q I hw;rw[evalPart_some];refine thn (Cc _ hw) λu s1 ⟨x,H1,I1,r1,q1⟩=>?_;obtain⟨i,rfl,q⟩:=q1;obtain⟨t,rfl⟩:=r1;exact⟨He i,H1,I1,SQ i t,q⟩
def SlR(X:Cx)(r:V→Option Int→Option Int→Hp→VK→Prop):Prop:=
 ∀(a7:Nd) (s:Ni) (σ:St) (H:Hp) (x:V) (v vl vu:Value) (lo hi:Option Int) (sl:Nc) (Q:VK),ZA H s→WM v→s.heap.IsSliceOf sl vl vu .none→IsPart vl lo→IsPart vu hi→r x lo hi H Q →
  ∃T id,typeLookup C3 "__getitem__" = pure (He RV)∧s.TypeIs v T∧ZF (getItem v (Fu sl)) Tl X.xe s
def tSl(r:V→Option Int→Option Int→Hp→VK→Prop)(te:TE)(tl th:TO):TE:=λ σ H Q=>te σ H λx H1=>tl σ H1 λl H2=>th σ H2 λu H3=>r x l u H3 Q
def zbk{r:V→Option Int→Option Int→Hp→VK→Prop}(hr:SlR X r)(he:Cy)(hl:PO X lo tl)(hu:PO X hi th):QA (Th e Pw) (tSl r te tl th):=by intro a7 s σ H Q I h;refine Subscript_ (thn Rv λv s1 ⟨x,H1,I1,r1,q1⟩=>?_);refine wpAny_Slice (thn (hl a7 s1 σ H1 _ I1 q1) λvl s2 ⟨l,H2,I2,pl,q2⟩=>thn (hu a7 s2 σ H2 _ I2 q2) λvu s3 ⟨u,H3,I3,pu,q3⟩=>?_);rw[evalPart_none];refine wpAny_pure ?_;have I4:ZA H3 {s3 with heap:=s3.heap.push {cls:=.type "slice",data:=.fields #[vl,vu,.none]}}:=I3.kept (t':=s3.toks) λb ob q=>QS q;obtain⟨T,id,hT,ht,hg⟩:=hr a7 {s3 with heap:=s3.heap.push {cls:=.type "slice",data:=.fields #[vl,vu,.none]}} σ H3 x v vl vu l u s3.heap.objs.size Q I4 r1 (Heap.IsSliceOf.new ..) pl pu q3;show ZF (subscriptTail e Pw v Px) Tl X.xe {s3 with heap:=s3.heap.push {cls:=.type "slice",data:=.fields #[vl,vu,.none]}};exact tail_any (ops:=[Px,v]) ht hT hg (by with_unfolding_all rfl)
def cutV(xs:List V)(lo hi:Option Int):List V:=(xs.drop (QP 0 lo)).take (QP xs.length hi-QP 0 lo)
def zcz(xs:List V)(lo hi:Option Int):(MQ lo hi).length≤xs.length:=by unfold cutV;rw[Ze,Yu];lia
def rCatT(K:Na):R2:=λx y H Q=>∃a b xs ys,x=.ref a∧y=.ref b∧UB a xs∧UB b ys∧xs≠[]∧xs.length+ys.length≤sizeLine ∧
 (ys=[]→Q Ht H)∧(ys≠[]→∀p,H p=none→Q Te (ZU p (CF (xs++ys))))
def Vals.nil_iff{xs:List V}{us:Nj}(r:QZ us):us=[]↔xs=[]:=by
 cases r with
 |nil=>simp
 |cons _ _=>simp
def op_catT:WS Cq (rCatT X.K):=by intro a7 s σ H x y v u Q I rx ry h;obtain⟨a,b,xs,ys,rfl,rfl,ha,hb,hx,hz,q1,q2⟩:=h;cases rx;cases ry;obtain⟨a8,r1,p1,_⟩:=I.tuple ha;obtain⟨ak,r2,p2,_⟩:=I.tuple hb;refine HT.cat_tup p1 p2 (λz=>hx (r1.nil_iff.mp z)) (λz=>⟨Ht,H,I,rfl,q1 (r2.nil_iff.mp z)⟩) (λz=>?_) (by rw[←r1.length,←r2.length];exact hz);refine⟨FY,_,I.laid (t':=s.toks) (o:=.tup (xs++ys)) (λb ob q=>QS q) Gg ?_,rfl,q2 (λw=>z (r2.nil_iff.mpr w)) _ C2⟩;exact⟨FA Qk hz,_,r1.append r2,IsTup.new _ _⟩
def ixN(n:Nat)(i:Int):Option Nat:=if 0≤i then(if i<n then some i.toNat else none) else if -(n:Int)≤i then some (i+n).toNat else none
def atI{α:Type}(xs:List α)(i:Int):Option α:=(Mt i).bind λj=>xs[j]?
def ixN_seq{n:Nat}{i:Int}{j:Nat}(h:ixN n i=some j):seqIndex? i n=some j∧j<n∧-(n:Int)≤i∧i<n:=by
 unfold ixN at h;by_cases h0:0≤i
 ·rw[HK h0]at h;by_cases h1:i<n
  ·rw[HK h1]at h;have e:i.toNat=j:=Qq h;exact⟨by rw[seqIndex_of h0 h1,e],Fs,Fs,h1⟩
  rw[if_neg h1]at h;cases h
 rw[Rb h0]at h;by_cases h1:-(n:Int)≤i
 ·rw[HK h1]at h;have e:(i+n).toNat=j:=Qq h;exact⟨by rw[seqIndex_neg Fs h1,e],Fs,h1,Fs⟩
 rw[if_neg h1]at h;cases h
def atI_get{α:Type}{xs:List α}{i:Int}{v:α}(h:atI xs i=some v):∃j,seqIndex? i xs.length=some j∧xs[j]?=some v∧j<xs.length∧-(xs.length:Int)≤i∧i<xs.length:=by
 unfold atI at h;cases e:Mt i with
 |none=>rw[e]at h;cases h
 |some j=>rw[e]at h;obtain⟨h1,h2,h3,h4⟩:=ixN_seq e;exact⟨j,h1,h,h2,h3,h4⟩
def zav{α:Type}{xs:List α}{j:Nat}{v:α}(h:xs[j]?=some v):atI xs (j:Int)=some v:=by
 have hj:j<xs.length:=(LP h).1;have e:Mt (j:Int)=some j:=by unfold ixN;rw[if_pos Fs,if_pos (by exact zar9 ‹_›)];simp
 unfold atI;rw[e];exact h
def PlainIx(b:Expr):Prop:=∀o i,subscripted b false o i=operate [o,i] (getItem o i)
def IxR(X:Cx)(r:R2):Prop:=
 ∀(value slice:Expr) (a7:Nd) (s:Ni) (σ:St) (H:Hp) (x y:V) (v u:Value) (Q:VK),ZA H s→WM v→YE u→r x y H Q →
  subscripted slice false v u=operate [v,u] (getItem v u)→ZF (subscriptTail value slice v u) Tl X.xe s
def MtR(X:Cx)(id:String)(r:V→List V→Hp→VK→Prop):Prop:=
 ∀(a7:Nd) (s:Ni) (σ:St) (H:Hp) (x:V) (xs:List V) (v:Value) (us:Nj) (Q:VK),ZA H s→WM v→QZ us→r x xs H Q →
  wpAny FE X.A (Dq (v::us)) Tl X.xe s
variable{a b:Expr}{ta tb:TE}
def zbb{r:R2}(hr:DI r)(ha:T8)(hb:En)(hs:PlainIx b):QA (Th a b) (NE tb):=by intro a7 s σ H Q I h;exact Subscript_ (MP h λv u s2 x y H2 I2 rx ry q=>hr a b a7 s2 σ H2 x y v u Q I2 rx ry q (hs _ _))
inductive RrIxL(K:Na)(x:V)(y:V)(H:Hp)(Q:VK):Prop
 |mk (p:_) (xs:_) (i:_) (v:_) (h0:x=.ref p) (h1:y=.int i) (h2:SqL K H p xs) (h3:atI xs i=some v) (h4:Q v H):RrIxL K x y H Q
def rIxL(K:Na):R2:=λx y H Q=>RrIxL K x y H Q
inductive RrIxT(K:Na)(x:V)(y:V)(H:Hp)(Q:VK):Prop
 |mk (p:_) (xs:_) (i:_) (v:_) (h0:x=.ref p) (h1:y=.int i) (h2:SqT K H p xs) (h3:atI xs i=some v) (h4:Q v H):RrIxT K x y H Q
def rIxT(K:Na):R2:=λx y H Q=>RrIxT K x y H Q
inductive RrIxS(x:V)(y:V)(H:Hp)(Q:VK):Prop
 |mk (z:_) (i:_) (c:_) (h0:x=.str z) (h1:y=.int i) (h2:z.length≤sizeLine) (h3:atI z.cps.toList i=some c) (h4:Q (.str ⟨#[c]⟩) H):RrIxS  x y H Q
def rIxS:R2:=λx y H Q=>RrIxS  x y H Q
def zau:DI (rIxL X.K):=by
 intro value slice a7 s σ H x y v u Q I rx ry h hs;obtain⟨p,xs,i,z,rfl,rfl,hq,he,q⟩:=h;cases rx;obtain⟨t,rfl⟩:=ry;obtain⟨a8,r,pl,hz⟩:=I.list hq;obtain⟨j,h1,h2,h3,h4,h5⟩:=atI_get he;obtain⟨w,ew,bV⟩:=r.get h2;have hl:=r.length;have hn:=zez;have fin:QB Q w s:=⟨z,H,I,bV,q⟩;by_cases h0:0≤i
 ·have hj:i.toNat=j:=by rw[seqIndex_of h0 h5]at h1;exact Qq h1
  exact item_listR pl.isList h0 Fs (by rw[hj];simpa using ew) fin hs
 have hj:(i+(a8.toArray.size:Int)).toNat=j:=by rw[seqIndex_neg Fs h4]at h1;rw[Qp,←hl];exact Qq h1
 exact subscriptTail_builtinR (x:=w) pl.isList.typeIs slot_list_getitem.lookup
  (wpAny_getItem_list_neg (Q:=λr s'=>r=w∧QB Q r s') pl.isList Fs (by rw[Qp]<;>lia) Fs (by rw[hj];simpa using ew) ⟨rfl,fin⟩) hs
def ze3:DI (rIxT X.K):=by
 intro value slice a7 s σ H x y v u Q I rx ry h hs;obtain⟨p,xs,i,z,rfl,rfl,hq,he,q⟩:=h;cases rx;obtain⟨t,rfl⟩:=ry;obtain⟨a8,r,pl,hz⟩:=I.tuple hq;obtain⟨j,h1,h2,h3,h4,h5⟩:=atI_get he;obtain⟨w,ew,bV⟩:=r.get h2;have hl:=r.length;have hn:=zez;have fin:QB Q w s:=⟨z,H,I,bV,q⟩;exact subscriptTail_builtinR (x:=w) pl.typeIs slot_tuple_getitem.lookup
  (getItem_tuple (j:=j) (Q:=λr s'=>r=w∧QB Q r s') pl Fs Fs (by rw[Qp,←hl];exact h1) (Fv ew) ⟨rfl,fin⟩) hs
def ix_str:DI rIxS:=by
 intro value slice a7 s σ H x y v u Q I rx ry h hs;obtain⟨z,i,c,rfl,rfl,hz,he,q⟩:=h;obtain⟨t,rfl⟩:=rx;obtain⟨t',rfl⟩:=ry;obtain⟨j,h1,h2,h3,h4,h5⟩:=atI_get he;have hl:z.cps.toList.length=z.length:=by simp[Str.length]
 rw[hl]at h1 h4 h5;have hn:=zez;exact tail_any Is slot_str_getitem.lookup (getItem_str (c:=c) (by have e1:decide (i < -(2 ^ 63:Int))=false:=decide_eq_false Fs;have e2:decide (i≥2 ^ 63)=false:=decide_eq_false Fs;rw[e1,e2,Bool.or_false]) (by rw[h1];simpa using h2) ⟨Hy ⟨#[c]⟩,H,HI,⟨_,rfl⟩,q⟩) hs
def mapSeq_set(a8:Nj)(n j:Nat)(u:Value):Obj.mapSeq (·.setIfInBounds j u) {cls:=.type "list",data:=.seq a8.toArray n}={cls:=.type "list",data:=.seq (a8.set j u).toArray n}:=by simp[Obj.mapSeq]
def Inv.lst{a7:Nd}{σ:St}{H:Hp}{s:Ni}{p:Nc}{xs:List V}(I:Gj)(h:H p=some Sk) :
  ∃(a8:Nj) (n:Nat),QZ a8∧s.heap.get? p=some {cls:=.type "list",data:=.seq a8.toArray n}∧xs.length≤sizeLine:=by
 obtain⟨z,a8,n,r,e⟩:=XL h;exact⟨a8,n,r,e,z⟩
def Inv.lstUpd{a7:Nd}{σ:St}{H:Hp}{s:Ni}{p:Nc}{xs ys:List V}{a8 its':Nj}{n n':Nat}{f:Obj→Obj}(I:Gj)(h:H p=some Sk)(ho:s.heap.get? p=some {cls:=.type "list",data:=.seq a8.toArray n})(hf:f {cls:=.type "list",data:=.seq a8.toArray n}={cls:=.type "list",data:=.seq its'.toArray n'})(r:Y2 its')(hz:ys.length≤sizeLine)(t:Nat) :
  Inv X a7 σ (RC p ys) {s with heap:=s.heap.update p f,toks:=t}:=by
 have e:(s.heap.update p f).get? p=some {cls:=.type "list",data:=.seq its'.toArray n'}:=by rw[Wy f ho (by rw[hf]<;>rfl),hf]
 refine I.write (x:=p) (e:=p) (by rw[h];trivial) Hr (λb u hb q=>(VQ IQ).trans q) ⟨_,e⟩ ?_;exact⟨hz,its',n',r,e⟩
inductive RrSetL(o:V)(i:V)(v:V)(H:Hp)(Q:Hp→Prop):Prop
 |mk (p:_) (xs:_) (k:_) (j:_) (h0:o=.ref p) (h1:i=.int k) (h2:H p=some (.lst xs)) (h3:ixN xs.length k=some j) (h4:Q (upd H p (.lst (xs.set j v)))):RrSetL  o i v H Q
def rSetL:V→V→V→Hp→(Hp→Prop)→Prop:=λo i v H Q=>RrSetL  o i v H Q
def set_list:PSet X rSetL:=by
 intro a7 s σ H o i v ov iv u Q I ro ri rv h;obtain⟨p,xs,k,j,rfl,rfl,hp,hj,q⟩:=h;cases ro;obtain⟨t,rfl⟩:=ri;obtain⟨a8,n,r,ho,hz⟩:=I.lst hp;obtain⟨h1,h2,h3,h4⟩:=ixN_seq hj;have hl:=r.length;have hn:=zez;have I':ZA (RC p (xs.set j v)) {s with heap:=s.heap.update p (Obj.mapSeq (·.setIfInBounds j u))}:=
  I.lstUpd hp ho (mapSeq_set a8 n j u) (r.set rv j) (FA Us hz) s.toks
 by_cases h0:0≤k
 ·have hk:k.toNat=j:=by rw[seqIndex_of h0 h4]at h1;exact Qq h1
  exact PySem.W.ki_setAt ho h0 Fs (by rw[Qp,←hl];exact h4) (by rw[hk];exact⟨_,I',q⟩)
 have hk:(k+(a8.toArray.size:Int)).toNat=j:=by rw[seqIndex_neg Fs h3]at h1;rw[Qp,←hl];exact Qq h1
 exact PySem.W.ki_setBack ho Fs (by rw[Qp,←hl];exact h3) Fs (by rw[hk];exact⟨_,I',q⟩)
def slice_bounds(lo hi:Option Int)(n:Nat):(sliceBounds lo hi none n).1=((HT.sIx n 0 lo:Nat):Int)∧(sliceBounds lo hi none n).2.1=((HT.sIx n n hi:Nat):Int)∧(sliceBounds lo hi none n).2.2=1:=by
 refine⟨?_,?_,rfl⟩
 ·cases lo with
  |none=>simp[sliceBounds,HT.sIx]
  |some i=>
   simp only[sliceBounds,HT.sIx,Option.getD_none,show(1:Int)>0 by decide,if_true];by_cases h:i<0
   ·simp only[h,if_true]<;>lia
   simp only[h,if_false]<;>lia
 cases hi with
 |none=>simp[sliceBounds,HT.sIx]
 |some i=>
  simp only[sliceBounds,HT.sIx,Option.getD_none,show(1:Int)>0 by decide,if_true];by_cases h:i<0
  ·simp only[h,if_true]<;>lia
  simp only[h,if_false]<;>lia
def zic(a8:Nj)(lo hi:Option Int):slicePick a8.toArray lo hi none=((a8.drop (Vd 0 lo)).take (Vd a8.length hi-Vd 0 lo)).toArray:=by obtain⟨h1,h2,h3⟩:=slice_bounds lo hi a8.toArray.size;unfold slicePick;rw[h1,h2,h3];simp only[sliceRange_one,pick_run,Qp]<;>rfl
end
section
variable{X:Cx}{a b:Expr}{ta tb:TE}{pos:Pos}
inductive RrSlL(K:Na)(x:V)(lo:Option Int)(hi:Option Int)(H:Hp)(Q:VK):Prop
 |mk (a:_) (xs:_) (h0:x=.ref a) (h1:SqL K H a xs) (h2:∀p,H p=none→Q (.ref p) (upd H p (.lst (cutV xs lo hi)))):RrSlL K x lo hi H Q
def rSlL(K:Na):V→Option Int→Option Int→Hp→VK→Prop:=λx lo hi H Q=>RrSlL K x lo hi H Q
def zb8:SlR X (rSlL X.K):=by intro a7 s σ H x v vl vu lo hi sl Q I rx hs pl pu h;obtain⟨a,xs,rfl,hx,q⟩:=h;cases rx;obtain⟨a8,r,ht,hz⟩:=I.list hx;have aa:=r.length;refine⟨"list",_,slot_list_getitem.lookup,ht.isList.typeIs,?_⟩;refine KA hs pl pu .none Fr ?_ (by rw[Qp]<;>exact zd2 ‹_› ‹_›);rw[zic,←aa];refine⟨FY,_,I.laid (t':=s.toks) (o:=.lst (MQ lo hi)) (λb ob q=>QS q) Gg ?_,rfl,q _ C2⟩;exact⟨Zf (zcz xs lo hi) hz,_,0,(r.drop (QP 0 lo)).take (QP xs.length hi-QP 0 lo),RY⟩
def zd3:V→Bool
 |.non=>true
 |.bl _=>true
 |.int _=>true
 |.str _=>true
 |_=>false
def eqV:V→V→Bool
 |.non,.non=>true
 |.bl a,.bl b=>a==b
 |.bl a,.int b=>(if a then 1 else 0)==b
 |.int a,.bl b=>a==(if b then 1 else 0)
 |.int a,.int b=>a==b
 |.str a,.str b=>a==b
 |_,_=>false
def eqAt_V{A:Np}{s:Ni}{y x:V}{u v:Value}(ry:YE u)(rx:WM v)(fy:zd3 y=true)(fx:zd3 x=true):UF (eqV y x):=by
 cases y with
 |non=>
  cases ry;cases x with
  |non=>cases rx;exact SeqAt.EqAt.same _
  |bl b=>cases rx;exact SeqAt.EqAt.none_bool b
  |int b=>obtain⟨t,rfl⟩:=rx;exact SeqAt.EqAt.none_int b t
  |str b=>obtain⟨t,rfl⟩:=rx;exact SeqAt.EqAt.none_str b t
  |_=>exact absurd (show false=true from fx) Zb
 |bl a=>
  cases ry;cases x with
  |non=>cases rx;exact SeqAt.EqAt.bool_none a
  |bl b=>cases rx;exact SeqAt.EqAt.bool_bool a b
  |int b=>obtain⟨t,rfl⟩:=rx;exact SeqAt.EqAt.bool_int a b t
  |str b=>obtain⟨t,rfl⟩:=rx;exact SeqAt.EqAt.bool_str a b t
  |_=>exact absurd (show false=true from fx) Zb
 |int a=>
  obtain⟨t',rfl⟩:=ry;cases x with
  |non=>cases rx;exact SeqAt.EqAt.int_none a t'
  |bl b=>cases rx;exact SeqAt.EqAt.int_bool a t' b
  |int b=>obtain⟨t,rfl⟩:=rx;exact SeqAt.EqAt.int_int a t' b t
  |str b=>obtain⟨t,rfl⟩:=rx;exact SeqAt.EqAt.int_str a t' b t
  |_=>exact absurd (show false=true from fx) Zb
 |str a=>
  obtain⟨t',rfl⟩:=ry;cases x with
  |non=>cases rx;exact SeqAt.EqAt.str_none a t'
  |bl b=>cases rx;exact SeqAt.EqAt.str_bool a t' b
  |int b=>obtain⟨t,rfl⟩:=rx;exact SeqAt.EqAt.str_int a t' b t
  |str b=>obtain⟨t,rfl⟩:=rx;exact Uo a t' b t
  |_=>exact absurd (show false=true from fx) Zb
 |_=>exact absurd (show false=true from fy) Zb
def eqU(x:V)(u:Value):Bool:=match u with
 |.none=>eqV .non x
 |.bool b=>eqV C0 x
 |.int i _=>eqV EN x
 |.str z _=>eqV To x
 |_=>false
def eqU_of{x y:V}{u:Value}(r:YE u)(f:zd3 y=true):eqU x u=eqV y x:=by
 cases y with
 |non=>cases r;rfl
 |bl b=>cases r;rfl
 |int i=>obtain⟨t,rfl⟩:=r;rfl
 |str z=>obtain⟨t,rfl⟩:=r;rfl
 |_=>exact absurd (show false=true from f) Zb
theorem zha{x:V}:∀{xs:List V} {us:Nj},QZ us→xs.all zd3=true→us.any Tp=xs.any λy=>eqV y x
 |_,_,.nil,_=>rfl
 |y::xs,u::us,.cons r t,f=>by rw[Ws,Yn]at f;rw[Kt,Kt,eqU_of r f.1,zha t f.2]
theorem zdy{A:Np}{s:Ni}{x:V}{v:Value}(rx:WM v)(fx:zd3 x=true):∀{xs:List V} {us:Nj},QZ us→xs.all zd3=true→∀u∈us,UF (eqU x u)
 |_,_,.nil,_=>λu hu=>by cases hu
 |y::xs,u::us,.cons r t,f=>λu' hu=>by
  rw[Ws,Yn]at f;rcases Qi.mp hu with rfl|hu
  ·rw[eqU_of r f.1];exact eqAt_V r rx f.1 fx
  exact zdy rx fx t f.2 u' hu
def inV(x:V)(xs:List V):Bool:=xs.any λy=>eqV y x
inductive RrIn(K:Na)(neg:Bool)(x:V)(y:V)(H:Hp)(Q:VK):Prop
 |mk (p:_) (xs:_) (h0:y=.ref p) (h1:(SqL K H p xs∨SqT K H p xs)) (h2:zd3 x=true) (h3:xs.all zd3=true) (h4:Q (.bl (if neg then !inV x xs else inV x xs)) H):RrIn K neg x y H Q
def rIn(K:Na)(neg:Bool):R2:=λx y H Q=>RrIn K neg x y H Q
def op_in_seq:WS (compareOp .In) (rIn X.K false):=by
 intro a7 s σ H x y v u Q I rx ry h;obtain⟨p,xs,rfl,hq,fx,fs,q⟩:=h;cases ry;rcases hq with hq|hq
 ·obtain⟨a8,r,pl,hz⟩:=I.list hq;refine SeqAt.in_listAt Tp pl.isList (λw hw=>BD IP) ⟨O5,H,I,rfl,?_⟩;rw[show a8.toArray.any Tp=a8.any Tp by simp,zha r fs];exact q
 obtain⟨a8,r,pl,hz⟩:=I.tuple hq;refine SeqAt.in_tupleAt Tp pl (λw hw=>BD IP) ⟨O5,H,I,rfl,?_⟩;rw[show a8.toArray.any Tp=a8.any Tp by simp,zha r fs];exact q
def zc3:WS Lw (rIn X.K true):=by
 intro a7 s σ H x y v u Q I rx ry h;obtain⟨p,xs,rfl,hq,fx,fs,q⟩:=h;cases ry;rcases hq with hq|hq
 ·obtain⟨a8,r,pl,hz⟩:=I.list hq;refine SeqAt.notIn_listAt Tp pl.isList (λw hw=>BD IP) ⟨O5,H,I,rfl,?_⟩;rw[show a8.toArray.any Tp=a8.any Tp by simp,zha r fs];exact q
 obtain⟨a8,r,pl,hz⟩:=I.tuple hq;refine SeqAt.notIn_tupleAt Tp pl (λw hw=>BD IP) ⟨O5,H,I,rfl,?_⟩;rw[show a8.toArray.any Tp=a8.any Tp by simp,zha r fs];exact q
def op_notIn_str:WS Lw (λx y H Q=>Ex2 λi j=>Aj3 (x=.str i) (y=.str j) (Lq (!(!(Builtin.Str.occurrences j i 0 j.length 1).isEmpty)))):=by intro a7 s σ H x y v u Q I rx ry h;obtain⟨i,j,rfl,rfl,q⟩:=h;obtain⟨t,rfl⟩:=rx;obtain⟨t',rfl⟩:=ry;exact notIn_str ⟨O5,H,I,rfl,q⟩
def zak:YV (.builtin "len") (λxs H Q=>Ex2 λp ys=>Aj3 (xs=[Te]) (Py∨( SqT X.K H p ys)) (Q Cv H)):=by
 intro a7 s σ H xs us Q I r h;obtain⟨p,ys,rfl,hq,q⟩:=h;obtain⟨u,rfl,rx⟩:=vals1 r;cases rx;have hn:=zez;rcases hq with hq|hq
 ·obtain⟨a8,r',pl,hz⟩:=I.list hq;have aa:=r'.length;exact Calls.call_len_list pl.isList (by simp only[Qp]<;>lia) ⟨Cv,H,HI,⟨s.toks+1,by rw[Qp,aa]⟩,q⟩
 obtain⟨a8,r',pl,hz⟩:=I.tuple hq;have aa:=r'.length;exact len_tuple pl (by simp only[Qp]<;>lia) ⟨Cv,H,HI,⟨s.toks+1,by rw[Qp,aa]⟩,q⟩
def zby:YV (.builtin "len") (λxs H Q=>Ex1 λz=>Aj3 (xs=[To]) (z.length≤sizeLine) (Q (.int z.length) H)):=by intro a7 s σ H xs us Q I r h;obtain⟨z,rfl,hz,q⟩:=h;obtain⟨u,rfl,t,rfl⟩:=vals1 r;have hn:=zez;exact len_str Fs ⟨.int z.length,H,HI,⟨_,rfl⟩,q⟩
def zc7:YV (.type "list") (λxs H Q=>Ex2 λp ys=>Aj3 (xs=[Te]) (Py∨( SqT X.K H p ys)) (∀l,H l=none→Q Sh (RC l ys))):=by
 intro a7 s σ H xs us Q I r h;obtain⟨p,ys,rfl,hq,q⟩:=h;obtain⟨u,rfl,rx⟩:=vals1 r;cases rx;have fin:∀(a8:Nj),Y2 a8→ys.length≤sizeLine→∀(h':No) (c':Nat),(∀b o',s.heap.get? b=some o'→h'.get? b=some o') →
   h'.get? s.heap.objs.size=some {cls:=.type "list",dict:=none,data:=.seq a8.toArray c',slots:=#[]}→QB Q FY {s with heap:=h'}:=λa8 r' hz h' c' kp e=>
  ⟨FY,_,I.laid (t':=s.toks) kp Gg (show Z5 _ h' _ Pz from⟨hz,a8,c',r',e⟩),rfl,q _ C2⟩
 rcases hq with hq|hq
 ·obtain⟨a8,r',pl,hz⟩:=I.list hq;have aa:=r'.length;obtain⟨o,ho,hc,n,hd⟩:=pl.isList;exact call_list_seq p Hr ho hc hd (λh' c' kp e=>fin a8 r' hz h' c' kp e) (by simp only[Qp]<;>exact zd2 ‹_› ‹_›)
 obtain⟨a8,r',pl,hz⟩:=I.tuple hq;have aa:=r'.length;obtain⟨o,ho,hc,n,hd⟩:=pl;exact call_list_seq p (Ru rfl) ho hc hd (λh' c' kp e=>fin a8 r' hz h' c' kp e) (by simp only[Qp]<;>exact zd2 ‹_› ‹_›)
def ze7:YV (.type "tuple") (λxs H Q=>Ex2 λp ys=>Aj2 (xs=[Te]) ((Aj2 Py (∀l,H l=none→Q Sh (ZU l IO)))∨(Aj2 (Bz p ys) (Q Te H)))):=by
 intro a7 s σ H xs us Q I r h;obtain⟨p,ys,rfl,h⟩:=h;obtain⟨u,rfl,rx⟩:=vals1 r;cases rx;rcases h with⟨hq,q⟩|⟨hq,q⟩
 ·obtain⟨a8,r',pl,hz⟩:=I.list hq;have aa:=r'.length;refine call_tuple_list pl.isList (λh' kp=>?_) (by simp only[Qp]<;>exact zd2 ‹_› ‹_›);have I1:ZA H {s with heap:=h'}:=I.kept (t':=s.toks) kp;have I2:ZA (ZU h'.objs.size IO) {s with heap:=h'.push {cls:=.type "tuple",data:=.seq a8.toArray}}:=
   I1.laid (t':=s.toks) (λb o e=>QS e) Gg (show Z5 _ _ _ IO from⟨hz,a8,r',IsTup.new _ _⟩)
  exact⟨.ref h'.objs.size,_,I2,rfl,q _ SA⟩
 obtain⟨a8,r',pl,hz⟩:=I.tuple hq;exact call_tuple_same pl ⟨Te,H,I,rfl,q⟩
def tyV(K:Na)(T:String)(x:V)(H:Hp):Prop:=match x with
 |.str _=>T = "str"
 |.int _=>T = "int"
 | .ref p=>(T = "list" ∧ ∃ xs,W3 p xs)∨(T = "tuple" ∧ ∃ o,K.lookup p=some o∧o.cls=.type "tuple" ∧ o.dict=none) ∨
   (T = "dict" ∧ ((∃kvs,H p=some HS)∨∃kvs,H p=some Sx))∨(T = "set" ∧ ∃S n,H p=some (.set S n))
 |_=>False
def tyV_is{a7:Nd}{σ:St}{H:Hp}{s:Ni}{T:String}{x:V}{v:Value}(I:Gj)(r:WM v)(ty:tyV X.K T x H) :
  s.TypeIs v T∧∀a,v=.ref a→∃ob,s.heap.get? a=some ob∧ob.dict=none:=by
 cases x with
 |str z=>obtain⟨t,rfl⟩:=r;cases(show T = "str" from ty);exact⟨Is,λ_ e=>nomatch e⟩
 |int i=>obtain⟨t,rfl⟩:=r;cases(show T = "int" from ty);exact⟨typeIs_int s i t,λ_ e=>nomatch e⟩
 | ref p=>
  cases r;rcases ty with⟨rfl,xs,hq⟩|⟨rfl,o,hk,hc,hd⟩|⟨rfl,hk⟩|⟨rfl,S,n,hk⟩
  ·obtain⟨a8,_,pl,_⟩:=I.list hq;refine⟨pl.isList.typeIs,λa e=>?_⟩;cases e;obtain⟨o,n,e,c,hd,_⟩:=pl;exact⟨o,e,hd⟩
  ·refine⟨⟨o,I.kIn p o hk,hc⟩,λa e=>?_⟩;cases e;exact⟨o,I.kIn _ o hk,hd⟩
  ·have z:∃ o,s.heap.get? p=some o∧o.ExactDict:=by
    rcases hk with⟨kvs,hk⟩|⟨kvs,hk⟩
    ·obtain⟨_,_,_,_,o,_,_,e,ex,_⟩:=XL hk;exact⟨o,e,ex⟩
    obtain⟨_,_,_,_,o,_,_,e,ex,_⟩:=XL hk;exact⟨o,e,ex⟩
   obtain⟨o,e,ex⟩:=z;refine⟨⟨o,e,ex.1⟩,λa e2=>?_⟩;cases e2;exact⟨o,e,ex.2.1⟩
  obtain⟨o,_,_,_,e,ex,_⟩:=XL hk;refine⟨⟨o,e,ex.1⟩,λa e2=>?_⟩;cases e2;exact⟨o,e,ex.2.1⟩
 |_=>exact False.elim ty
def tBM0(K:Na)(T:String)(r:V→List V→Hp→VK→Prop)(to:TE):TE:=λ σ H Q=>to σ H λx H1=>tyV K T x H1∧r x [] H1 Q
def tBM(K:Na)(T:String)(r:V→List V→Hp→VK→Prop)(to:TE)(t:TA):TE:=λ σ H Q=>to σ H λx H1=>tyV K T x H1∧t σ H1 λxs H2=>r x xs H2 Q
variable{o e:Expr}{es:Nq}{to:TE}{t:TA}{name:Str}{apos cpos:Pos}{T id:String}{r:V→List V→Hp→VK→Prop}
def pe_bm0(pa:PlainAttrs T)(slot:O6)(fG:typeOf RV=pure (.type "method_descriptor"))(hm:MtR X id r)(ho:QA o to)(cO:attributeBase o name X.env (GX o)=eval o X.env:=by rfl)(cI:(apos.endLine==cpos.line)=true:=by rfl):QA (.Call LX [] [] cpos) (tBM0 X.K T r to):=by intro a7 s σ H Q I h;refine wpAny_Call_method0_late cO cI (thn SE λv s1 ⟨x,H1,I1,r1,ty,q1⟩=>?_);obtain⟨h1,h2⟩:=tyV_is I1 r1 ty;exact⟨T,id,pa,slot,fG,h1,h2,VO (PySem.evalArgs_none (hm a7 s1 σ H1 x [] v [] Q I1 r1 .nil q1))⟩
def zcd(pa:PlainAttrs T)(slot:O6)(fG:typeOf RV=pure (.type "method_descriptor"))(hm:MtR X id r)(ho:QA o to)(ha:Vt (e::es) t)(cO:attributeBase o name X.env (GX o)=eval o X.env:=by rfl)(kM:((Tz (starEach (e::es) X.env)).all (λx=>!x.1) && (backToKw cpos (keywordEach [] X.env)).all (λx=>x.1.isSome)
   && decide ((e::es).length+([]:List Keyword).length+(if([]:List Keyword).isEmpty then 0 else 1)<30))=true:=by rfl)(cI:(apos.endLine==cpos.line)=true:=by rfl)(hs:starEach (e::es) X.env=(false,Ir)::starEach es X.env:=by rfl)(dh:(Tz HM).any (·.1)=false:=by rfl) :
  PE X (.Call LX (e::es) [] cpos) (tBM X.K T r to t):=by
 intro a7 s σ H Q I h;refine wpAny_Call_method_late cO kM cI rfl (thn SE λv s1 ⟨x,H1,I1,r1,ty,q1⟩=>?_);obtain⟨h1,h2⟩:=tyV_is I1 r1 ty;refine⟨T,id,pa,slot,fG,h1,h2,?_⟩;have hA:=ha cpos a7 s1 σ H1 _ I1 q1;rw[hs]at hA ⊢;refine Calls.callWith_builtin (by show(false||(backTo cpos HM).any (·.1))=false;rw[dh]<;>rfl) (Calls.evalArgs_plain ?_);exact thn hA λus s2 ⟨vs,H2,I2,r2,q2⟩=>hm a7 s2 σ H2 x vs v us Q I2 r1 r2 q2
def MtM(X:Cx)(id:String)(r:V→List V→Hp→VK→Prop):Prop:=
 ∀(a7:Nd) (s:Ni) (σ:St) (H:Hp) (x:V) (xs:List V) (v:Value) (us:Nj) (Q:VK),ZA H s→WM v→QZ us→r x xs H Q →
  wpAny FE X.A (Dq (v::us)) Tl X.xe s
end
theorem Vals.one:∀{x:V} {us:Nj},Vals [x] us→∃u,us=[u]∧WM u
 |_,_,.cons r .nil=>⟨_,rfl,r⟩
theorem Vals.two:∀{x y:V} {us:Nj},Vals [x,y] us→∃u v,us=[u,v]∧WM u∧YE v
 |_,_,_,.cons r (.cons q .nil)=>⟨_,_,rfl,r,q⟩
theorem Vals.zero:∀{us:Nj},Vals [] us→us=[]
 |_,.nil=>rfl
def Vals.dropLast{xs:List V}{us:Nj}(h:QZ us):Vals xs.dropLast us.dropLast:=by
 induction h with
 |nil=>exact .nil
 |cons r t ih=>
  cases t with
  |nil=>exact .nil
  |cons q t'=>exact .cons r ih
theorem Vals.eraseIdx:∀{xs:List V} {us:Nj} (i:Nat),QZ us→Vals (xs.eraseIdx i) (us.eraseIdx i)
 |_,_,_,.nil=>.nil
 |_,_,0,.cons _ t=>t
 |_,_,i+1,.cons r t=>.cons r (Vals.eraseIdx i t)
def Vals.reverse{xs:List V}{us:Nj}(h:QZ us):Vals xs.reverse us.reverse:=by
 induction h with
 |nil=>exact .nil
 |cons r t ih=>rw[Xo,Xo];exact Vals.append ih (HY r)
def erase_last{α:Type}(l:List α):l.eraseIdx (l.length - 1)=l.dropLast:=by
 induction l with
 |nil=>rfl
 | cons a r ih=>
  cases r with
  |nil=>rfl
  |cons b r=>
   have e:(a::b::r).length-1=((b::r).length-1)+1:=by have h1:(a::b::r).length=r.length+2:=rfl;have h2:(b::r).length=r.length+1:=rfl;assumption
   rw[e,List.eraseIdx_cons_succ,ih]
   all_goals rfl
theorem len_erase{α:Type}:∀(l:List α) (i:Nat),(l.eraseIdx i).length≤l.length
 |[],_=>Qh _
 |_::_,0=>Um _
 |_::r,i+1=>Nat.succ_le_succ (len_erase r i)
section
variable{X:Cx}{a7:Nd}{σ:St}{H:Hp}{s:Ni}{l b:Nc}{xs ys zs:List V}
def Inv.lset{a8 its':Nj}{n:Nat}{f:Array Value→Array Value}{t':Nat}(I:Gj)(hH:H l=some Sk)(e:s.heap.get? l=some {cls:=.type "list",data:=.seq a8.toArray n})(hf:f a8.toArray=its'.toArray)(hv:Y2 its')(hz:ys.length≤sizeLine) :
  Inv X a7 σ (RC l ys) {s with heap:=s.heap.update l (Obj.mapSeq f),toks:=t'}:=by
 have q:=PySem.IsL.update e f;rw[hf]at q;refine I.write (x:=l) (e:=l) (by rw[hH];exact trivial) Hr (λb' u hb hu=>(Yi s.heap (Obj.mapSeq f) IQ).trans hu) ⟨_,q⟩ ?_;exact⟨hz,its',_,hv,q⟩
def Inv.lnew{a8:Nj}{t':Nat}(I:Gj)(hv:Y2 a8)(hz:ys.length≤sizeLine) :
  Inv X a7 σ (OH Pz) {s with heap:=s.heap.push {cls:=.type "list",data:=.seq a8.toArray},toks:=t'}:=
 I.laid (λ_ _ q=>QS q) Gg ⟨hz,a8,0,hv,RY⟩
def Inv.fresh(I:Gj):H s.heap.objs.size=none:=I.hok.fresh Gg
def Inv.lstM(I:Gj)(hH:H l=some Sk):xs.length≤sizeLine∧∃(a8:Nj) (n:Nat),QZ a8∧xs.length=a8.length∧s.heap.get? l=some {cls:=.type "list",data:=.seq a8.toArray n}:=by obtain⟨z,a8,n,r,e⟩:=I.hok l _ hH;exact⟨z,a8,n,r,r.length,e⟩
def notLongL{n:Nat}(h:n≤sizeLine):Builtin.List.listTooLong n=false:=by unfold Builtin.List.listTooLong;exact decide_eq_false Fs
end
section
variable{X:Cx}
inductive RrAppend(x:V)(vs:List V)(H:Hp)(Q:VK):Prop
 |mk (l:_) (xs:_) (y:_) (h0:x=.ref l) (h1:vs=[y]) (h2:H l=some (.lst xs)) (h3:xs.length<sizeLine) (h4:Q .non (upd H l (.lst (xs++[y])))):RrAppend  x vs H Q
def rAppend:V→List V→Hp→VK→Prop:=λx vs H Q=>RrAppend  x vs H Q
def zbc:NK "list.append" rAppend:=by intro a7 s σ H x vs v us Q I rx rv h;obtain⟨l,xs,y,rfl,rfl,hH,hz,q⟩:=h;cases rx;obtain⟨u,rfl,ru⟩:=rv.one;obtain⟨z,a8,n,r,hl,e⟩:=I.lstM hH;refine call_meets F.slot_list_append ⟨_,e,rfl⟩ F.entry_list_append (BM _) (PySem.list_append l a8.toArray n u (by rw[Qp];exact zd2 ‹_› ‹_›)) ⟨e,?_⟩;refine⟨.non,_,I.lset (its':=a8++[u]) hH e Fr (r.append (HY ru)) ?_,rfl,q⟩;rw[Qk,Wk];assumption
def rExtend:V→List V→Hp→VK→Prop:=λx vs H Q=>∃l b xs zs,x=.ref l∧vs=[ER]∧H l=some Sk∧H b=some (FJ zs)∧xs.length+zs.length≤sizeLine∧Q .non (RC l (xs++zs))
def mt_extend:NK "list.extend" rExtend:=by
 intro a7 s σ H x vs v us Q I rx rv h;obtain⟨l,b,xs,zs,rfl,rfl,hH,hB,hz,q⟩:=h;cases rx;obtain⟨u,rfl,ru⟩:=rv.one;cases ru;obtain⟨z,a8,n,r,hl,e⟩:=I.lstM hH;obtain⟨z2,ak,n2,r2,au,e2⟩:=I.lstM hB;have hsz:a8.toArray.size+ak.toArray.size≤sizeLine:=by rw[Qp,Qp];lia
 have o8:¬(!a8.toArray.isEmpty&&Builtin.List.listTooLong (a8.toArray.size+ak.toArray.size))=true:=by rw[notLongL hsz,Bool.and_false];exact Zb
 refine call_meets F.slot_list_extend ⟨_,e,rfl⟩ F.entry_list_extend (F.args_list_extend_2 _ _)
  (AutoSeq1.list_extend_list_list_0 l a8.toArray n b ak.toArray n2 o8 (Gp Qp) (by exact zh5 ‹_›)) ⟨e,e2,?_⟩
 refine⟨.non,_,I.lset (its':=a8++ak) hH e Fr (r.append r2) ?_,rfl,q⟩;rw[Qk];assumption
inductive RrPop(x:V)(vs:List V)(H:Hp)(Q:VK):Prop
 |mk (l:_) (xs:_) (y:_) (h0:x=.ref l) (h1:vs=[]) (h2:H l=some (.lst xs)) (h3:xs[xs.length-1]?=some y) (h4:Q y (upd H l (.lst xs.dropLast))):RrPop  x vs H Q
def rPop:V→List V→Hp→VK→Prop:=λx vs H Q=>RrPop  x vs H Q
def mt_pop:NK "list.pop" rPop:=by
 intro a7 s σ H x vs v us Q I rx rv h;obtain⟨l,xs,y,rfl,rfl,hH,hy,q⟩:=h;cases rx;have pZ:=rv.zero;subst pZ;obtain⟨z,a8,n,r,hl,e⟩:=I.lstM hH;obtain⟨u,hu,ru⟩:=r.get hy;have gQ:a8.toArray[a8.toArray.size-1]?=some u:=by show a8.toArray[a8.length-1]?=some u;rw[←Jc,←hl];exact hu
 refine call_meets F.slot_list_pop ⟨_,e,rfl⟩ F.entry_list_pop (F.args_list_pop_1 _) (MeetsSeq.list_pop_last l a8.toArray n u gQ (by rw[Qp];exact zd2 ‹_› ‹_›)) ⟨e,?_⟩;refine⟨y,_,I.lset (its':=a8.dropLast) hH e ?_ r.dropLast ?_,ru,q⟩
 ·show a8.toArray.eraseIdxIfInBounds (a8.toArray.size - 1)=a8.dropLast.toArray;rw[Qp,List.eraseIdxIfInBounds_toArray,erase_last]
 rw[List.length_dropLast];lia
def rPopAt:V→List V→Hp→VK→Prop:=λx vs H Q=>∃l xs i k y,x=.ref l∧vs=[EN]∧H l=some Sk∧-(2 ^ 63)≤i∧i<2 ^ 63∧seqIndex? i xs.length=some k∧xs[k]?=some y∧Q y (RC l (xs.eraseIdx k))
def mt_popAt:NK "list.pop" rPopAt:=by
 intro a7 s σ H x vs v us Q I rx rv h;obtain⟨l,xs,i,k,y,rfl,rfl,hH,h1,h2,hk,hy,q⟩:=h;cases rx;obtain⟨u,rfl,ru⟩:=rv.one;obtain⟨t,rfl⟩:=ru;obtain⟨z,a8,n,r,hl,e⟩:=I.lstM hH;obtain⟨w,hw,bV⟩:=r.get hy;refine call_meets F.slot_list_pop ⟨_,e,rfl⟩ F.entry_list_pop (F.args_list_pop_2 _ _)
  (MeetsSeq.list_pop_at l a8.toArray n i t k w (fitsIndex_both h1 h2) (by rw[Qp,←hl];exact hk) (by rw[←Jc];exact hw) (by rw[Qp];exact zd2 ‹_› ‹_›)) ⟨e,?_⟩
 refine⟨y,_,I.lset (its':=a8.eraseIdx k) hH e ?_ (r.eraseIdx k) ?_,bV,q⟩
 ·show a8.toArray.eraseIdxIfInBounds k=(a8.eraseIdx k).toArray;rw[List.eraseIdxIfInBounds_toArray]
 have:=len_erase xs k;exact Zf ‹_› ‹_›
inductive RrCat(x:V)(y:V)(H:Hp)(Q:VK):Prop
 |mk (l:_) (b:_) (xs:_) (zs:_) (h0:x=.ref l) (h1:y=.ref b) (h2:H l=some (.lst xs)) (h3:H b=some (.lst zs)) (h4:xs.length+zs.length≤sizeLine) (h5:∀p,H p=none→Q (.ref p) (upd H p (.lst (xs++zs)))):RrCat  x y H Q
def rCat:R2:=λx y H Q=>RrCat  x y H Q
def zce:WS Cq rCat:=by
 intro a7 s σ H x y v u Q I rx ry h;obtain⟨l,b,xs,zs,rfl,rfl,hH,hB,hz,q⟩:=h;cases rx;cases ry;obtain⟨z,a8,n,r,hl,e⟩:=I.lstM hH;obtain⟨z2,ak,n2,r2,au,e2⟩:=I.lstM hB;refine PySem.P.add_list e e2 ?_ (by rw[Qp,Qp];lia);have ea:a8.toArray++ak.toArray=(a8++ak).toArray:=by simp
 rw[ea];exact⟨Fu _,_,I.lnew (t':=s.toks) (r.append r2) (by rw[Qk];assumption),rfl,q _ I.fresh⟩
end
end L2
namespace Att
open PySem PySem.W PySem.Calls PyProof.Rows
def zg3{P:Params}{h:No}:∀(ns:List Int) (vs:Nj),WellAll P h vs (ns.map WData.int)→KB ns:=by
 intro ns;induction ns with
 |nil=>intro vs w;rw[List.map_nil]at w;cases w;exact .nil
 |cons n ns ih=>
  intro vs w;rw[Qo]at w;cases w with
  |cons a b=>cases a;exact .cons _ _ (ih _ b)
def script_of{l:OpenLaw}{n:Nat}(hn:l.most=some n){P:Params}{h:No}{args:List WData}{jd:Nj}(dQ:l.row.toRowW.claim.pre args=true)(eQ:WellAll P h jd args) :
  ∃a vs ns,jd=[TC a]∧args=[WData.list (ns.map WData.int)]∧h.get? a=some {cls:=.type "list",data:=.seq vs.toArray}∧KB ns∧ns.length≤n:=by
 have hsh:WShape.hasAll [] args [.list .int]=true:=(pre_splitW dQ).1;have hc:l.pre.holds [] {args:=args}=true:=(pre_splitW dQ).2;obtain⟨d,r,rfl,h1,h2⟩:=hasAllW_cons hsh;obtain rfl:=hasAllW_nil h2;obtain⟨xs,rfl,h3⟩:=hasW_list h1;obtain⟨ns,rfl⟩:=items_int h3;have aa:ns.length≤n:=by
  unfold OpenLaw.pre at hc;have h4:(WTm.not (.lt (.lit (.int (n:Int))) (.len (.arg 0)))).holds [] {args:=[.list (ns.map .int)]}=true:=by have h4:=(holds_andW hc).1;rw[hn]at h4;exact h4
  have h5:=condW_of h4 (w_not (w_lt w_lit (w_len_list (w_arg rfl))));rw[Qa]at h5;refine Kr λq=>?_;have q':(n:Int)<((ns.length:Nat):Int):=by exact zar9 ‹_›
  first
   |(rw[decide_eq_true q']at h5;exact absurd h5 (by decide))
   |(simp at h5;lia)
 cases eQ with
 |cons w1 w2=>
  cases w2;cases w1 with
  |list ho af=>exact⟨_,_,ns,rfl,rfl,ho,zg3 ns _ af,aa⟩
def post_true(l:OpenLaw)(args:List WData):l.row.toRowW.claim.post args Sl args=true:=
 postW_of (r:=l.row.toRowW) (X:=(true==true))
  (show WShape.has [] Sl .bool=true by first|rfl|decide|simp[WShape.has,WShape.arms,WShape.armsAll])
  (show(WTm.eq .res (.lit Sl)).value [] {args:=args,res:=some Sl,after:=args}=some (.bool (true==true)) from w_eq_bool (w_res rfl) w_lit) rfl
def attach_call{l:OpenLaw}{n:Nat}{q:Nk}{loose:Nh}{XP:(Str→Option Value)→Heap→Prop}{YP:World→Heap→Prop}{d:DefRec}(hn:l.most=some n)(oH:d.params.defaults=[])(call:∀ (w:Nn) (s₀ s₁:Ni) (mg mb:Ng) (fa:Nc) (o:Obj) (pm cd doc:Value) (a:Nc) (vs:Nj) (ns:List Int),
   Ground q loose [] XP w s₀ mg mb s₁.heap→YP w s₁.heap →
   s₁.heap.get? fa=some o→o.data=.func (docDef d.name d.params d.body d.scope pm cd doc)→s₁.heap.CodeRec cd d.name→mg d.name=some ES →
   s₁.heap.get? a=some {cls:=.type "list",data:=.seq vs.toArray}→KB ns→ns.length≤n→s₁.gens=#[] →
   codeAny (model l.prog w) callerA (.call ES ⟨[Ht],[]⟩) (λr s'=>r=.ok (.ret Sl)∧OldK s₁.heap s'.heap∧s'.os=s₁.os∧AllBare s'.gens) s₁) :
  WalkO q loose XP YP l.row.toRowW d [] (λf vs=>MR vs):=by
 intro w s₀ s₁ mg mb G Y fa o pm cd doc dV kV ho hd aS hD sR hg args jd as dQ hlay hrd eQ hlo;obtain rfl:dV=.none:=Dflts.none hD oH;obtain rfl:kV=.none:=Dflts.noKw hD;obtain⟨a,vs,ns,rfl,rfl,jR,gr,aa⟩:=script_of hn dQ eQ;refine enter_call (codeAny_mono (call w s₀ s₁ mg mb fa o pm cd doc a vs ns G Y ho (fd_plain hd) aS sR jR gr aa hg) λr s' hq=>?_);obtain⟨rfl,h2,h3,h4⟩:=hq;exact⟨.inl ⟨Sl,Sl,[],rfl,λ_=>rfl,Sl,post_true l _,λ_=>⟨List.Pairwise.nil,λ_ hm=>(nomatch hm)⟩⟩,h2,h3,h4⟩
end Att
namespace L2
open PySem PySem.Spec PyProof.Rows
theorem vals_ints:∀{vs:Nj} {ns:List Int},KB ns→N9 vs
 |_,_,.nil=>.nil
 |_,_,.cons n t h=>.cons ⟨t,rfl⟩ (vals_ints h)
def Only(H:Hp):Prop:=∀b,H b=none∨∃o xs,H b=some (T7 Sk)
def law_call{P:Nk}{w:Nn}{K:Na}{mg mb:Ng}{CX:CXT}{k:Nat}{fa a:Nc}{fd:Nw}{x:Str}{sp:Sp}{s₁:Ni}{vs:Nj}{ns:List Int}(KX:K.In s₁.heap)(qh:s₁.heap.Ns mainGlobals mg)(hb:s₁.heap.Ns builtinsNs mb)(qy:∀x:Str,x ≠ "__name__" → mb x=bootBuiltins x)(sV:s₁.heap.NoLimit)(hg:s₁.gens=#[])(ha:s₁.heap.get? a=some {cls:=.type "list",data:=.seq vs.toArray})(hi:KB ns)(hl:ns.length≤sizeLine)(hr:U5 callerA)(F:∀base:Heap,K.In base→base.Ns mainGlobals mg→ZC CX k fa fd [x] sp)(oU:∀(s:Shared) (u:Value),JW ⟨[u],[]⟩ [(x,u)])(eS:∀H:Hp,Only H→WW Lx→sp [Ht] H (λv _=>v=.bl true) λ_ _ _=>False)(uc:∀H e s',CX [] H s₁ (λ_ _ _=>False) e s'→False) :
  codeAny Sr callerA (.call ES ⟨[Ht],[]⟩) (λr s'=>r=.ok (.ret Sl)∧OldK s₁.heap s'.heap∧s'.os=s₁.os∧AllBare s'.gens) s₁:=by
 have rv:=vals_ints hi;have lenV:=hi.length;have core:∀ H:Hp,Only H→WW Lx→WF s₁.heap→(∀ b,H b≠none→b=a)→(H a≠none→K.lookup a=none) →
   codeAny Sr callerA (.call ES ⟨[Ht],[]⟩) (λr s'=>r=.ok (.ret Sl)∧OldK s₁.heap s'.heap∧s'.os=s₁.os∧AllBare s'.gens) s₁:=by
  intro H hO hS hok hA hK;have base_of:∀{b:Nc} {o:Obj},s₁.heap.get? b=some o→H b=none→(J9 H).get? b=some o:=λe n=>hidT_get e n;have noA:∀{b:Nc} {o:Obj} {es:Array DictEntry} {ep:Nat},s₁.heap.get? b=some o→o.data=.dict es ep→H b=none:=λ{b o es ep} e d=>by
   cases q:H b with
   |none=>rfl
   |some u=>have e':b=a:=hA b (by rw[q];simp);subst e';rw[ha]at e;cases e;have d':Data.seq vs.toArray _=Data.dict es ep:=d;cases d'
  have nsK:∀{b:Nc} {m:Ng},s₁.heap.Ns b m→(J9 H).Ns b m:=λ{b m} ⟨o,es,ep,e,d,r⟩=>⟨o,es,ep,base_of e (noA e d),d,r⟩;have hKb:K.In (J9 H):=λb o e=>base_of (KX b o e) (by
   cases q:H b with
   |none=>rfl
   |some u=>have e':b=a:=hA b (by rw[q];simp);subst e';rw[hK (by rw[q];simp)]at e;cases e)
  have hM:Mod K mg (J9 H):=⟨hKb,nsK qh,⟨mb,nsK hb,qy⟩,let⟨mc,h1,h2⟩:=sV;⟨mc,nsK h1,h2⟩⟩;have e0:Env0 P w K mg (J9 H) callerA [] s₁ H:=⟨rfl,hM,λb o e=>of_hidT e,Nat.le_of_eq (hidT_size _ _),trivial,λb hb=>absurd (show b∈([]:List Addr) from hb) Fr,hok,.of_eq hg⟩;refine codeAny_mono ((F _ hKb (nsK qh)).run callerA [] s₁ H ⟨[Ht],[]⟩ [Ht] [Ht] _ _ hr e0 (oU s₁ Ht) (HY rfl) (eS H hO hS)) λr s' h=>?_;cases r with
  |error e=>exact(uc H e s' h).elim
  | ok fl=>
   cases fl with
   |next=>exact False.elim h
   |brk=>exact False.elim h
   |cont=>exact False.elim h
   | ret u=>
    obtain⟨v,H',os,bare,un,sH,r',q⟩:=h;have q':v=.bl true:=q;subst q';obtain rfl:u=Value.bool true:=r';refine⟨rfl,OldK.of_keep λb o e=>?_,os,bare⟩;cases q:H b with
    |none=>exact un.keep b o e q (by intro z;exact absurd (show b∈([]:List Addr) from z) Fr) Fr
    |some u=>
     rcases hO b with z|⟨ob,xs,z⟩
     ·rw[q]at z;cases z
     have z2:=un.frzs b ob _ z;obtain⟨e1,_⟩:=hok b _ z;obtain⟨e2,_⟩:=sH b _ z2;rw[e]at e1;cases e1;exact e2
 cases hk:K.lookup a with
 |some o=>have e:=KX a o hk;rw[ha]at e;cases e;refine core (λ_=>none) (λ_=>.inl rfl) (Ru ⟨_,vs.toArray,_,hk,rfl,rfl,rfl,by rw[Qp,lenV];exact hl,Fv rv⟩) (λb u z=>by have z':(none:Option HO)=some u:=z;cases z') (λb z=>absurd rfl z) λz=>absurd rfl z
 | none=>
  refine core (λb=>if b=a then some (.frz {cls:=.type "list",data:=.seq vs.toArray} (FJ Lx)) else none) (λb=>?_) (Gm (.inr ⟨{cls:=.type "list",data:=.seq vs.toArray},HK rfl⟩)) (λb u z=>?_) (λb z=>?_) λ_=>hk
  ·by_cases hb:b=a
   ·exact .inr ⟨_,_,HK hb⟩
   exact .inl (Rb hb)
  ·by_cases hb:b=a
   ·have z':=(HK hb).symm.trans z;cases z';subst hb;exact⟨ha,AY hl,vs,_,rv,ha⟩
   have z':=(Rb hb).symm.trans z;cases z'
  by_cases hb:b=a
  ·exact hb
  exact absurd (Rb hb) z
def walk_of{l:PySem.W.OpenLaw}{n k:Nat}{q:Nk}{loose:Nh}{XP:(Str→Option Value)→Heap→Prop}{YP:World→Heap→Prop}{d:DefRec}{K:Params→PySem.W.Frag}{CX:World→CXT}{sp:World→Sp}{x:Str}(hn:l.most=some n)(bz:n≤sizeLine)(oH:d.params.defaults=[])(hr:U5 callerA)(hY:∀(w:World) (h:Heap),YP w h→(K w.params).In h)(F:∀ (w:Nn) (mg:Ng) (fa:Nc) (h:No),(K w.params).In h→h.Ns mainGlobals mg→mg d.name=some ES →
   ∃fd:FuncData,(∀(s:Ni) (u:Value),JW ⟨[u],[]⟩ [(x,u)]) ∧
    ∀base:Heap,(K w.params).In base→base.Ns mainGlobals mg→KC (CX w) k fa fd [x] (sp w))(eS:∀(w:Nn) (H:Hp) (a:Nc) (ns:List Int),ns.length≤n→Only H→SqL PB H a Lx→sp w [Ht] H (λv _=>v=.bl true) λ_ _ _=>False)(uc:∀(w:World) (H:Hp) (s:Shared) (e:Value) (s':Shared),CX w [] H s (λ_ _ _=>False) e s'→False) :
  PySem.W.WalkO q loose XP YP l.row.toRowW d [] (λf vs=>MR vs):=by
 refine Att.attach_call hn oH λw s₀ s₁ mg mb fa o pm cd doc a vs ns G Y ho hd aS sR jR gr aa hg=>?_;have KX:=hY w _ Y;obtain⟨fd,hb,hF⟩:=F w mg fa _ KX G.T.g sR;exact law_call KX G.T.g G.T.b G.T.builtins G.T.nolimit hg jR gr (Zf aa bz) hr hF hb (λH hO hS=>eS w H a ns aa hO hS) λH e s'=>uc w H s₁ e s'
def inClass(s:Stmt)(j:Nat):Stmt:=match s with
 |.ClassDef _ _ _ body _ _ _ _ _ _ _=>body.getD j (.Pass ⟨0,0,0,0⟩)
 |_=>.Pass ⟨0,0,0,0⟩
def zds(s:Stmt):Arguments:=match s with
 |.FunctionDef _ a _ _ _ _ _ _ _ _=>a
 |_=>{posonlyargs:=[],args:=[],vararg:=none,kwonlyargs:=[],kw_defaults:=[],kwarg:=none,defaults:=[]}
def zcy(s:Stmt):List Stmt:=match s with
 |.FunctionDef _ _ b _ _ _ _ _ _ _=>b
 |_=>[]
def zaj(s:Stmt):Scope:=match s with
 |.FunctionDef _ _ _ _ _ _ sc _ _ _=>sc
 |_=>{kind:=.function,names:=[],isGenerator:=false,isCoroutine:=false}
abbrev CX0:CXT:=λ_ _ _ _ _ _=>False
abbrev E0:XK:=λ_ _ _=>False
def zba{X:Cx}:zh1 CX0 X E0:=λ_ _ _ _ _ _ _ h=>h.elim
structure Fun(K:Na)(x qual:Str)(st:Stmt)(f:Nc)(fd:Nw):Prop where
 ex:∃(oc:Value) (od:Option Addr) (kV doc pm:Value) (an:Option Addr) (cdv ct:Value) (osl:Array Rc),
  fd=WH CN .none kV doc pm an cdv ct∧K.lookup f=some ⟨oc,od,.func fd,osl⟩∧BB cdv qual=true
 kp:Q9 Ce=true
section
variable{P:Nk}{w:Nn}{K:Na}{mg:Ng}{base:No}
def Fun.ok{x qual:Str}{st:Stmt}{f:Nc}{fd:Nw}{N ps:Nh}{k:Nat}{sp:Sp}(F:L7)(S:KR CN)(len:∀vs H Q E,sp vs H Q E→vs.length=ps.length)(bG:∀ (cdv:Value) (A:Np) (outer:List Env) (s:Ni) (H:Hp) (vs:List V) (Q:VK) (E:XK),U5 Rw→sp vs H Q E →
   ∃t,PSs (JD E).nox Oj t∧t {nx:=λ_ H'=>Q .non H',rt:=Q} EO H):ZB (k+1) f fd ps sp:=by
 obtain⟨oc,od,kV,doc,pm,an,cdv,ct,osl,rfl,lk,aS⟩:=F.ex;refine fn_of lk aS S len λA outer s H vs Q E hr eS=>?_;obtain⟨t,h,q⟩:=bG cdv A outer s H vs Q E hr eS;exact⟨t,h.nox,q⟩
def Fun.binds{x qual:Str}{st:Stmt}{f:Nc}{fd:Nw}{ps:Nh}(F:L7)(h:∀(kV doc pm:Value) (an:Option Addr) (cdv ct:Value) (us:Nj),us.length=ps.length→bindArgs SC ⟨us,[]⟩=pure TR):Z3 fd ps []:=by obtain⟨oc,od,kV,doc,pm,an,cdv,ct,osl,rfl,lk,aS⟩:=F.ex;exact .all (h kV doc pm an cdv ct)
def fun_mk{x qual:Str}{st:Stmt}{f:Nc}{oc:Value}{od an:Option Addr}{osl:Array Rc}{kV doc pm cdv ct:Value}(l:K.lookup f=some ⟨oc,od,.func SC,osl⟩)(c:BB cdv qual=true)(k:Q9 Ce=true):Z1 x qual st f SC:=⟨⟨oc,od,kV,doc,pm,an,cdv,ct,osl,rfl,l,c⟩,k⟩
def zcm{A:Np}{k:Nat}(hr:U5 A):A.units+1<cLine:=Yo (Xe (by decide:1≤64) _) hr.units
variable{X:Cx}
def pv(i:Nat){x:Str}{pos:Pos}(hN:X.N[i]?=some x:=by rfl)(hv:Vq x:=by first|exact Or.inl rfl|exact Or.inr (Or.inl rfl)|exact Or.inr Tq)(hd:Gw=false:=by decide)(aS:(x==("__classdict__" : Str))=false:=by decide):QA EM (tVar i):=pe_var hN hv hd aS
def iteF{A B:Prop}(h:B):if false=true then A else B:=by rw[if_neg Zb];exact h
def iteT{A B:Prop}(h:A):if true=true then A else B:=by rw[if_pos rfl];exact h
def ite2{c A B:Prop}[Decidable c](h1:c→A)(h2:¬c→B):if c then A else B:=by
 by_cases h:c
 ·rw[HK h];exact h1 h
 rw[Rb h];exact h2 h
def clOf(sc:Scope)(env:Env):List (Str×Addr):=sc.names.foldl GJ []
theorem cl_fold:∀(l:Se (Str×NameKind)) (cs:Se (Str×Addr)),(∀y∈l,y.2=.free→∃c,env.cells.lookup y.1=some c) →
  (forIn l cs (λ(y:Str×NameKind) (r:Se (Str×Addr))=>(do
   let(name,kind):=y
   if(kind==.free)=true then do
    let a ←cellOf env name
    pure (HU ((name,a)::r))
   else pure (HU r):Sem (ForInStep (Se (Str×Addr))))))=(pure (l.foldl GJ cs):Sem (Se (Str×Addr)))
 |[],cs,_=>rfl
 | (n,k)::r,cs,h=>by
  rw[List.forIn_cons];have ih:=λcs=>cl_fold (env:=env) r cs λy hy=>h y Iu;by_cases hk:(k==NameKind.free)=true
  ·obtain⟨c,hc⟩:=h (n,k) Qc (Fv hk);have dq:env.cells.lookup n=some c:=hc;have e:cellOf env n=pure c:=by unfold cellOf;rw[dq]
   rw[Xb];dsimp only;rw[if_pos hk,if_pos hk,e,dq];exact ih _
  rw[Xb];dsimp only;rw[if_neg hk,if_neg hk];exact ih _
def zcc(h:∀y∈sc.names,y.2=.free→∃c,env.cells.lookup y.1=some c):closureFor sc env=pure (WI env):=by unfold closureFor;have e:=cl_fold (env:=env) sc.names [] h;exact(congrArg (λt:Sem (Se (Str×Addr))=>t >>= λcs=>pure cs) e).trans rfl
theorem clOf_in{env:Env}{x:Str}{c:Nc}:∀(l:Se (Str×NameKind)) (cs:Se (Str×Addr)),(∀y∈l,y.2=.free→∃c,env.cells.lookup y.1=some c)→(∀x c,cs.lookup x=some c→env.cells.lookup x=some c) →
  (l.foldl GJ cs).lookup x=some c→env.cells.lookup x=some c
 |[],cs,_,hc,e=>hc _ _ e
 | (n,k)::r,cs,h,hc,e=>by
  rw[Xb]at e;refine clOf_in r _ (λy hy=>h y Iu) ?_ e;by_cases hk:(k==NameKind.free)=true
  ·obtain⟨a,ha⟩:=h (n,k) Qc (Fv hk);have ha':env.cells.lookup n=some a:=ha;dsimp only;rw[if_pos hk,ha'];intro x c q;rw[Uw]at q;cases hx:x==n with
   |true=>
    rw[hx]at q;have q':a=c:=Qq q;have:x=n:=by simpa using hx
    rw[this,←q'];exact ha'
   |false=>rw[hx]at q;exact hc x c q
  dsimp only;rw[if_neg hk];exact hc
theorem zi2{env:Env}{x:Str}:∀(l:Se (Str×NameKind)) (cs:Se (Str×Addr)),((x,NameKind.free)∈l∨∃c,cs.lookup x=some c) →
  ∃c,(l.foldl GJ cs).lookup x=some c
 |[],cs,h=>by
  rcases h with h|h
  ·exact absurd h Fr
  exact h
 | (n,k)::r,cs,h=>by
  rw[Xb];refine zi2 r _ ?_;rcases h with h|⟨c,h⟩
  ·rcases Qi.mp h with e|e
   ·obtain⟨rfl,rfl⟩:=Prod.mk.inj e;exact .inr ⟨(env.cells.lookup x).getD 0,by dsimp only;rw[if_pos FX,List.lookup_cons];simp⟩
   exact .inl e
  refine .inr ?_;dsimp only;by_cases hk:(k==NameKind.free)=true
  ·rw[HK hk,Uw];cases hx:x==n with
   |true=>exact⟨A5⟩
   |false=>exact⟨c,h⟩
  rw[if_neg hk];exact⟨c,h⟩
end
structure Blk(X:Cx)(sc:Scope)(M:Nh)(ix:Nu):Prop where
 kind:sc.kind=.function
 nocell:∀y∈sc.names,y.2≠.cell
 names:∀y∈sc.names,y.2=.local→sc.names.lookup y.1=some .local
 frees:∀y∈sc.names,y.2=.free→X.env.scope.names.lookup y.1=some .cell∨X.env.scope.names.lookup y.1=some .free
 len:ix.length=M.length
 nd:M.Nodup
 caps:∀(j i:Nat) (x:Str),M[j]?=some x→ix[j]?=some (He i)→X.N[i]?=some x∧sc.names.lookup x=some .free
def inner(ix:Nu)(σ:St):St:=ix.map λo=>match o with|none=>none|some i=>(σ[i]?).join
def zik{sc:Scope}{env:Env}{x:Str}{oz:Option Str}(hn:∀ y∈sc.names,y.2=.cell→oz=some y.1)(h:(relabel sc env).names.lookup x=some .cell∨(relabel sc env).names.lookup x=some .free):(x,NameKind.free)∈sc.names∨oz=some x:=by
 have key:∀k',k'=.cell∨k'=.free→(x,k')∈(relabel sc env).names→(x,NameKind.free)∈sc.names∨oz=some x:=λk' sZ hm=>by
  obtain⟨⟨n,k⟩,hy,e⟩:=Ql.mp hm;dsimp only at e;by_cases hb:(k==NameKind.free&&env.scope.kind==.function&&env.kindOf n==some .cell)=true
  ·rw[HK hb]at e;obtain⟨rfl,_⟩:=Prod.mk.inj e;have hk:k=.free:=by have:=(Bool.and_eq_true_iff.mp (Bool.and_eq_true_iff.mp hb).1).1;simpa using this
   rw[hk]at hy;exact .inl hy
  rw[Rb hb]at e;obtain⟨rfl,rfl⟩:=Prod.mk.inj e;rcases sZ with q|q
  ·exact .inr (hn _ hy q)
  rw[q]at hy;exact .inl hy
 rcases h with h|h
 ·exact key _ Hr (Ue h)
 exact key _ (Ru rfl) (Ue h)
def ocl(oz:Option Str)(C:Nc)(cl:List (Str×Addr)):List (Str×Addr):=match oz with
 |none=>cl
 |some z=>(z,C+1)::cl
def och(oz:Option Str)(h:No):Heap:=match oz with
 |none=>h
 |some _=>h.push {cls:=.type "cell",data:=.cell none}
structure BlkG(X:Cx)(sc:Scope)(oz:Option Str)(M:Nh)(ix:Nu):Prop where
 kind:sc.kind=.function
 own:∀y∈sc.names,y.2=.cell→oz=some y.1
 one:∀n cl,cellsFrom (n+1) sc.names cl=VR n cl
 psh:∀h,pushCells h sc.names=VS h
 zc:∀z,oz=some z→sc.names.lookup z=some .cell
 names:∀y∈sc.names,y.2=.local→sc.names.lookup y.1=some .local
 frees:∀y∈sc.names,y.2=.free→X.env.scope.names.lookup y.1=some .cell∨X.env.scope.names.lookup y.1=some .free
 len:ix.length=M.length
 nd:M.Nodup
 caps:∀(j i:Nat) (x:Str),M[j]?=some x→ix[j]?=some (He i)→X.N[i]?=some x∧sc.names.lookup x=some .free
theorem zi3:∀{l:List (Str×NameKind)} (_:∀y∈l,y.2≠.cell),(∀n cl,cellsFrom n l cl=cl)∧∀h,pushCells h l=h
 |[],_=>⟨FV,λ_=>rfl⟩
 |(a,k)::t,h=>by obtain⟨h1,h2⟩:=zi3 λy hy=>h y Iu;have hk:(k==NameKind.cell)=false:=beq_eq_false_iff_ne.mpr (h (a,k) Qc);exact⟨λn cl=>by unfold cellsFrom;rw[hk];exact h1 n cl,λg=>by unfold pushCells;rw[hk];exact h2 g⟩
def Blk.g{X:Cx}{sc:Scope}{M:Nh}{ix:Nu}(B:YX ix):BlkG X sc none M ix:=
 ⟨B.kind,λy hy h=>absurd h (B.nocell y hy),λn cl=>(zi3 B.nocell).1 _ cl,(zi3 B.nocell).2,λ_ h=>(by cases h),B.names,B.frees,B.len,B.nd,B.caps⟩
def zc5(X:Cx)(sc:Scope)(oz:Option Str)(M:Nh)(C:Nc)(a7:Nd)(ex:Nl)(s:Ni)(H:Hp):Cx:=
 {X with N:=M,s₀:=s,H₀:=H,env:=compEnvC sc (VR C SJ) C X.env,outer:=X.stack,ex:=ex,fn:=λx=>oz==some x,pn:=X.pn++a7,xe:=λ_ _=>False}
abbrev zc0(X:Cx)(sc:Scope)(M:Nh)(C:Nc)(a7:Nd)(ex:Nl)(s:Ni)(H:Hp):Cx:=zc5 X sc none M C a7 ex s H
section
variable{M:Model}{A:Np}{E:Nb}{s:Ni}
def zhq{sc:Scope}{g:Nc}{cl:List (Str×Addr)}{q:Str}{env:Env}{oz:Option Str}{Q:Env→Shared→Prop}(one:∀n cl,cellsFrom (n+1) sc.names cl=VR n cl)(psh:∀h,pushCells h sc.names=VS h)(hQ:Q (newEnv sc s.heap.objs.size g (VR s.heap.objs.size cl) q none .none (He env) builtinsNs) {s with heap:=VS (s.heap.push {cls:=.type "dict",data:=.dict #[]})}) :
  wpAny M A (newFunctionEnv sc g cl [] q none .none (He env)) Q E s:=by
 simp only[newFunctionEnv,Option.isSome_some,if_true];refine wpAny_bind (wpAny_alloc ?_);refine wpAny_bind (wpAny_layCells _ (λname kind cells=>by cases sY:kind==NameKind.cell<;>simp[sY]) _ _ _ _ ?_);rw[psh,show({s with heap:=s.heap.push {cls:=.type "dict",data:=.dict #[]}}:Shared).heap.objs.size=s.heap.objs.size+1 from Wv ..,one];exact wpAny_pure hQ
end
section
variable{X:Cx}{sc:Scope}{oz:Option Str}{M:Nh}{ix:Nu}{a7:Nd}{σ:St}{H:Hp}{s:Ni}
def BlkG.clos(B:J' ix)(I:Gj):∀y∈sc.names,y.2=.free→∃c,X.env.cells.lookup y.1=some c:=λy hy hf=>I.ok.has y.1 (by rcases B.frees y hy hf with z|z;exact .inl z;exact .inr z)
def Blk.clos(B:YX ix)(I:Gj):∀y∈sc.names,y.2=.free→∃c,X.env.cells.lookup y.1=some c:=B.g.clos I
def zix{ex:Nl}{s':Ni}{C:Nc}(B:J' ix)(I:Gj)(hx:∀ b∈ex,QL b)(ad:∀ b∈ex,b < s.heap.objs.size)(hC:C=s.heap.objs.size)(hn:s'.heap.Ns C λ_=>none)(hz:∀z,oz=some z→s'.heap.IsCell (C+1) none)(hk:∀b o,s.heap.get? b=some o→s'.heap.get? b=some o)(hg:s'.gens=s.gens)(ho:s'.os=s.os):Inv (Z6 H) [] Ik H s':=by
 have cls:=B.clos I;have cin:∀x c,(WI X.env).lookup x=some c→X.env.cells.lookup x=some c:=λx c e=>clOf_in sc.names [] cls (λ_ _ z=>by cases z) e;have cne:∀x c,(WI X.env).lookup x=some c→c<s.heap.objs.size:=λx c e=>by obtain⟨v,q⟩:=U4 (cin x c e);exact q.lt
 have zne:∀c:Addr,c<s.heap.objs.size→c≠C+1:=λc h e=>by rw[e,hC]at h;exact absurd (Jg h) Iq
 have zin:∀x c,(VR C SJ).lookup x=some c→(oz=some x∧c=C+1)∨oz≠some x∧(WI X.env).lookup x=some c:=λx c e=>by
  cases oz with
  |none=>exact .inr ⟨λz=>(by cases z),e⟩
  |some zn=>
   have e:((zn,C+1)::WI X.env).lookup x=some c:=e;rw[Uw]at e;cases q:x==zn with
   |true=>rw[q]at e;exact .inl ⟨by rw[eq_of_beq q],(Qq e).symm⟩
   |false=>rw[q]at e;exact .inr ⟨λz=>(by rw[Qq z,beq_self_eq_true]at q;cases q),e⟩
 have zout:∀x c,oz≠some x→(WI X.env).lookup x=some c→(VR C SJ).lookup x=some c:=λx c hx e=>by
  cases oz with
  |none=>exact e
  |some zn=>show((zn,C+1)::WI X.env).lookup x=_;rw[Uw,beq_eq_false_iff_ne.mpr λz=>hx (by rw[z])];exact e
 refine⟨⟨I.ok.mod,?_,I.ok.glob,I.ok.blt,?_,λx y c h1 h2=>?_,λx hx=>?_,λx c h e=>?_,I.ok.hd,I.ok.frames,Hr,λb hb=>?_,I.bs,?_,λb o e hb=>?_,λb hb=>?_,I.stack,I.stkFree⟩,
  ?_,?_,Un.kept hk,⟨_,hn,λj x v e1 e2 e3=>?_⟩,λx c e=>?_,?_,λx c e=>?_,λp hp=>?_,I.hok.kept hk,?_⟩
 ·show (relabel sc X.env).kind=.function;exact B.kind
 ·show s.heap.objs.size≤C;rw[hC];exact Qh _
 ·rcases zin x c h1 with⟨a,b⟩|⟨_,a⟩ <;> rcases zin y c h2 with⟨a',b'⟩|⟨_,a'⟩
  ·exact Qq (a.symm.trans a')
  ·exact absurd b (zne c (cne y c a'))
  ·exact absurd b' (zne c (cne x c a))
  exact I.ok.inj x y c (cin x c a) (cin y c a')
 ·by_cases q:oz=some x
  ·exact⟨C+1,by show(VR C SJ).lookup x=_;rw[q];show((x,C+1)::WI X.env).lookup x=_;rw[Uw,beq_self_eq_true]⟩
  obtain⟨c,hc⟩:=zi2 (env:=X.env) sc.names [] (Gm ((zik B.own hx).resolve_right q));exact⟨c,zout x c q hc⟩
 ·have h':oz=some x:=by have:(oz==some x)=true:=h;exact eq_of_beq this
  rcases zin x c e with⟨_,b⟩|⟨b,_⟩
  ·show s.heap.objs.size≤c;rw[b,hC];exact Um _
  exact absurd h' b
 ·have:=ad b hb;refine⟨λz=>?_,λx c e=>(zin x c e).elim (λq h=>zne b this (h.symm.trans q.2)) λe=>(hx b hb).2.2.2.2.1 x c (cin x c e.2)⟩;have z':b=C:=z;rw[z',hC]at this;exact Yy _ this
 ·exact NC I.sz
 ·rcases (hx b hb).2.2.2.1 with z|z
  ·exact Mq e z
  have h1:b < X.base.objs.size:=Qu e;have h2:=I.ok.bsz;have h3:X.s₀.heap.objs.size≤b:=z;exact absurd (Zx h1 (Zf h2 h3)) Iq
 ·intro z;rcases Qi.mp (X9 z) with q|q
  ·exact(hx b hb).2.1 q
  exact(hx b hb).2.2.1 q
 ·exact ho
 ·rw[hg];exact I.bare
 ·have hj:∃ i,ix[j]?=some (He i)∧σ[i]?=some (He v):=by
   unfold inner at e2;rw[Qt]at e2;cases q:ix[j]? with
   |none=>rw[q]at e2;cases e2
   | some o=>
    rw[q]at e2;cases o with
    |none=>cases e2
    |some i=>
     have qE:(σ[i]?).join=some v:=Qq e2;cases q2:σ[i]? with
     |none=>rw[q2]at qE;cases qE
     |some w=>rw[q2]at qE;exact⟨i,rfl,by rw[q2];exact congrArg some qE⟩
  obtain⟨i,hi,hσ⟩:=hj;obtain⟨hN,bE⟩:=B.caps j i x e1 hi;have hm:=Ue bE;have dD:=B.frees (x,.free) hm rfl;obtain⟨m,_,hl⟩:=I.loc;obtain⟨u,ru,lk⟩:=hl i x v hN hσ (by rcases dD with z|z;exact .inr PD;exact .inr (Ru z));refine⟨u,ru,.inr ?_⟩;obtain⟨c,hc⟩:=zi2 (env:=X.env) sc.names [] (Gm hm);have dq:=cin x c hc;have lk2:s.heap.IsCell c (He u):=by
   rcases lk with⟨k,_⟩|⟨_,c',e',z⟩
   ·have k':X.env.scope.names.lookup x=some .local:=k;rcases dD with q|q<;>(rw[show X.env.scope.names.lookup x=_ from q]at k';cases k')
   rw[dq]at e';cases e';exact z
  refine⟨?_,c,zout x c (λq=>by rw[B.zc x q]at bE;cases bE) hc,?_⟩
  ·have e3':Vis (relabel sc X.env) x:=e3;rcases e3' with z|z|z
   ·exfalso;have:=@lookup_relabel_local;have fe:∀(l:List (Str×NameKind)),l.lookup x=some .free→(l.map λ(y:Str×NameKind)=>match y with|(n,k)=>if(k==NameKind.free&&X.env.scope.kind==.function&&X.env.kindOf n==some .cell) then(n,NameKind.cell) else(n,k)).lookup x≠some .local:=by
     intro l;induction l with
     |nil=>intro h;cases h
     | cons y r ih=>
      obtain⟨n,k⟩:=y;intro h;rw[Uw]at h;rw[Qo];dsimp only;by_cases hb:(k==NameKind.free&&X.env.scope.kind==.function&&X.env.kindOf n==some .cell)=true
      ·rw[HK hb,Uw];cases hx:x==n with
       |true=>intro q;cases q
       |false=>rw[hx]at h;exact ih h
      rw[Rb hb,Uw];cases hx:x==n with
      |true=>rw[hx]at h;intro q;have h':k=NameKind.free:=Qq h;have q':k=NameKind.local:=Qq q;rw[h']at q';cases q'
      |false=>rw[hx]at h;exact ih h
    exact fe sc.names bE z
   ·exact .inl z
   exact .inr z
  obtain⟨o,aA,iF⟩:=lk2;exact⟨o,hk c o aA,iF⟩
 ·rcases zin x c e with⟨a,b⟩|⟨_,b⟩
  ·rw[b];exact⟨none,hz x a⟩
  obtain⟨v,o,aA,iF⟩:=U4 (cin x c b);exact⟨v,o,hk c o aA,iF⟩
 ·show H C=none;rw[hC];exact I.hok.fresh Gg
 ·rcases zin x c e with⟨_,b⟩|⟨_,b⟩
  ·rw[b];exact I.hok.fresh (by rw[hC];exact Um _)
  exact UJ (cin x c b)
 ·have cU:p∈X.pn++a7:=by have:p∈(X.pn++a7)++[]:=hp;rwa[Zp]at this
  obtain⟨e,n,ne,nf,d⟩:=YS cU;refine⟨hk _ _ e,n,?_,λz=>?_,d⟩
  ·intro z;have z':p.1=C:=z;have:=Qu e;rw[z',hC]at this;exact Yy _ this
  rcases Qi.mp (I.stkSub _ z) with q|q
  ·exact ne q
  exact nf q
 unfold inner;rw[Qa];exact B.len
def inv_blk(B:YX ix)(I:Gj)(hx:∀b∈ex,QL b)(ad:∀b∈ex,b<s.heap.objs.size)(hC:C=s.heap.objs.size)(hn:s'.heap.Ns C λ_=>none)(hk:∀b o,s.heap.get? b=some o→s'.heap.get? b=some o)(hg:s'.gens=s.gens)(ho:s'.os=s.os):Inv (ZR H) [] Ik H s':=zix B.g I hx ad hC hn (λ_ h=>by cases h) hk hg ho
def PTs(X:Cx)(ifs:Nq)(t:TT):Prop:=
 ∀(a7:Nd) (s:Ni) (σ:St) (H:Hp) (Q:Bool→Hp→Prop),ZA H s→t σ H Q →
  wpAny FE X.A (forIn ifs true λc r=>if r=true then do let ok ←isTrue c X.env (GX c);pure (HU ok) else pure (HU r)) (VF Q) X.xe s
def tAll:TT:=λ_ H Q=>Q true H
def zcp:PTs X [] tAll:=λ_ _ _ H _ I h=>wpAny_tests_nil ⟨H,I,h⟩
def zdo(h:Vs c t):PTs X [c] t:=λa7 s σ H Q I q=>wpAny_tests_one (Cc Q q)
def zfv{prog:Nk}{w:Nn}{A:Np}{s:Ni}{elt target iter:Expr}{ifs:Nq}{scope:Scope}{pos:Pos}{it aj:Value}{env:Env}{R:Nv}(I:Nat→Shared→Prop)(turn:∀ n s,I n s→wpAny (model prog w) A (pyNext it) (λr s₁=>match r with
   |none=>R Aw s₁
   | some v=>ZG IE (λ_ s₁'=>ZG Aa (λ_ s₂=>
     wpAny Ga A (forIn ifs true λc r=>if r=true then do let ok ←isTrue c env (Cb c);pure (HU ok) else pure (HU r)) (λok s₃=>
      if ok=true then ZG (Cb elt) (λx s₄=>wpAny Ga A (call (.builtin "list.append") [aj,x]) (λ_ s₅=>∃m,m<n∧I m s₅) (λ_ _=>False) s₄) (λ_ _=>False) s₃
      else ∃m,m<n∧I m s₃) (λ_ _=>False) s₂) (λ_ _=>False) s₁') (λ_ _=>False) s₁) (λ_ _=>False) s)(n:Nat)(h:I n s):codeAny Ga A (.compLoop (.ListComp elt [⟨target,iter,ifs,0⟩] scope pos) 0 it aj env) R s:=by
 refine codeAny_loop rfl I (λn s hI=>?_) n h;show ZW A ((compTurn (.ListComp elt [⟨target,iter,ifs,0⟩] scope pos) 0 it aj env).onRaise (λx=>do noteFrame x env;theTreesLotGoes x)) _ _ s;refine wpAny_noted ?_;rw[compTurn_list];refine wpAny_bind (wpAny_standAt (wpAny_bind (Mu (λr s₁ h₁=>?_) λ_ _ h'=>h'.elim)));cases r with
 |none=>exact wpAny_pure h₁
 |some v=>
  refine wpAny_bind (Vu (λ_ s₁' h₁'=>?_) λ_ _ h'=>h'.elim);refine wpAny_bind (Fd (λ_ s₂ h₂=>wpAny_bind (Vv (λok s₃ h₃=>?_) λ_ _ h'=>h'.elim)) λ_ _ h'=>h'.elim);cases ok with
  |false=>exact wpAny_pure ⟨rfl,h₃⟩
  |true=>exact wpAny_bind (wpAny_bind (wpAny_mono h₃ (λx s₄ h₄=>wpAny_bind (wpAny_mono h₄ (λ_ s₅ h₅=>wpAny_pure (wpAny_pure ⟨rfl,h₅⟩)) λ_ _ h'=>h'.elim)) λ_ _ h'=>h'.elim))
def rLC(g:TG)(tc:TT)(te:TE)(Q:VK)(J:It)(τ:St)(H1:Hp):Prop:=∃W:Nat→Nat→List V→St→Hp→Prop,(∃m,W 0 m [] τ H1)∧∀i m ys τ H,W i m ys τ H →
 (VH H∧∀D,H D=none→Q HQ (RC D ys)) ∨
 (Dm H∧ys.length<sizeLine∧∀x H',B8 H'→g x τ H' λ τ2 H2=>tc τ2 H2 λb H3=>if b=true then te τ2 H3 λy H4=>∃m',m'<m∧W Gr m' (ys++[y]) τ2 H4 else ∃m',m'<m∧W Gr m' ys τ2 H3)
def tLC(ix:Nu)(wi:TI)(g:TG)(tc:TT)(te:TE):TE:=λ σ H Q=>wi σ H λJ H1=>YJ H1
def lc_blockG{tg elt iter:Expr}{ifs:Nq}{pos:Pos}{g:TG}{tc:TT}{te:TE}{fp:Nl}{it:Nc}{tn:Nat→Heap→Prop}{J:It}{Q:VK}{RR:Value→Addr→Result→Shared→Prop}{E:Nb}(B:J' ix)(hc:X.calm=true)(hg:∀C ex s H,MS g)(ht:∀C ex s H,VT tc)(he:∀C ex s H,Mv te)(I:Gj)(T:U7 tn)(h0:IW)(hf:∀b∈fp,QL b)(q:YJ H)(kY:Hh) :
  wpAny FE X.A (newList []) (λaj s₃=>ZF GV (λcenv s₄=>codeAny FE X.A (.compStart F' 0 Rr aj {cenv with scope:=relabel sc X.env}) Lg s₄) E s₃) E s:=by
 refine wpAny_newObj_type (zhq B.one B.psh ?_);dsimp only;generalize hD:s.heap.objs.size=D;generalize fB:s.heap.push {cls:=.type "list",dict:=none,data:=.seq ([]:List Value).toArray}=g2;generalize kI:VS (g2.push {cls:=.type "dict",data:=.dict #[]})=h₁;have kp:∀(q:No) (b:Nc) (o:Obj),q.get? b=some o→(VS q).get? b=some o:=λq b o e=>by
  cases oz with
  |none=>exact e
  |some _=>exact QS e
 have hns₁:h₁.Ns g2.objs.size (λ_=>none):=kI▸(Heap.Ns.new g2 (.type "dict")).keeps λb o e=>kp _ b o e;have hz₁:∀z,oz=some z→h₁.IsCell (g2.objs.size+1) none:=λz ez=>by have e:(g2.push {cls:=.type "dict",data:=.dict #[]}).objs.size=g2.objs.size+1:=Wv ..;rw[←kI,←e,ez];exact⟨_,RY,rfl⟩
 have hC:g2.objs.size=D+1:=by rw[←fB,Wv,hD]
 have k2:∀b o,s.heap.get? b=some o→g2.get? b=some o:=λb o e=>by rw[←fB];exact QS e
 have I3:ZA H {s with heap:=g2}:=I.kept (t':=s.toks) k2;have HD:H D=none:=I.hok.fresh (by rw[hD];exact Qh _);have fD:QL D:=I.fpOk (by rw[hD];exact Qh _) HD;have D2:g2.get? D=some {cls:=.type "list",dict:=none,data:=.seq ([]:List Value).toArray}:=by rw[←fB,←hD];exact UN rfl
 have k1:∀b o,g2.get? b=some o→h₁.get? b=some o:=λb o e=>kI▸kp _ b o LY;have fpx:∀b∈D::fp,QL b:=λb hb=>by
  rcases Qi.mp hb with e|e
  ·rw[e];exact fD
  exact hf b e
 have fplt:∀b∈D::fp,b<g2.objs.size:=λb hb=>by
  rcases Qi.mp hb with e|e
  ·rw[e,hC];exact Yr _
  obtain⟨o,q,_⟩:=WX h0 b e;exact Qu (k2 b o q)
 have fpD:D∉fp:=λhm=>by obtain⟨o,q,_⟩:=WX h0 D hm;have:=Qu q;rw[hD]at this;exact Yy _ this
 generalize ap:Vn (D::fp) {s with heap:=g2} H=Y;have IY:JQ [] Ik H {s with heap:=h₁,toks:=s.toks+([]:List (Str×Value)).length}:=by rw[←ap];exact BT rfl
 have Yg:=ap▸hg g2.objs.size (D::fp) {s with heap:=g2} H;have Yt:=ap▸ht g2.objs.size (D::fp) {s with heap:=g2} H;have Ye:=ap▸he g2.objs.size (D::fp) {s with heap:=g2} H;have eP:Y.prog=X.prog:=by rw[←ap];rfl
 have eW:Y.w=X.w:=by rw[←ap];rfl
 have eK:Y.K=X.K:=by rw[←ap];rfl
 have eA:Y.A=X.A:=by rw[←ap];rfl
 have eC:Y.calm=true:=by rw[←ap];exact hc
 have eE:Y.env=compEnvC sc (JR SJ) g2.objs.size X.env:=by rw[←ap];rfl
 have eX:Y.xe=λ_ _=>False:=by rw[←ap];rfl
 have eEx:Y.ex=D::fp:=by rw[←ap];rfl
 have eFs:Y.fs=frs X.stack:=by rw[←ap];rfl
 have ePn:Y.pn=X.pn++a7:=by rw[←ap];rfl
 have eL:Y.env.locals=g2.objs.size:=by rw[eE];rfl
 have pz:Y.H₀=H:=by rw[←ap];rfl
 have jc:Y.s₀={s with heap:=g2}:=by rw[←ap];rfl
 have fY:∀{H':Hp} {pl:Nd} {b:Nc},b∈D::fp→H' b=none→(∀p∈pl,p.1≠b)→MT pl H' b:=λ{H' pl b} hb hn hp=>by
  obtain⟨f0,f1,f2,f3,f4,f5⟩:=fpx b hb;refine⟨hn,?_,?_,.inl LS,NL LS |>.2,λp cU=>?_⟩
  ·rw[eL];exact Zk Ax
  ·rw[eFs];intro z;rcases Qi.mp (NM z) with q|q
   ·exact f1 q
   exact f2 q
  rw[ePn]at cU;rcases Qg.mp cU with z|z
  ·exact f5 p z
  exact hp p z
 obtain⟨W,⟨m0,w0⟩,turn⟩:=q;have loop:∀ sN:Shared,sN={ s with heap:=h₁,toks:=s.toks+([]:List (Str×Value)).length } →
   codeAny FE X.A Tj CO sN:=by
  rintro sN rfl;refine zfv (λn s'=>Ex6 λi τ H' ys a8 k=>Aj7 (JQ [] τ H' s') CK (∀b∈D::fp,H' b=none) (s'.heap.get? D=some {cls:=.type "list",data:=.seq (a8:Nj).toArray k}) (Y2 a8) (ys.length≤sizeLine) Iv) ?_ m0
   ⟨0,Ik,H,[],[],0,IY,Q1 h0 λb _ o e=>k1 b o Cf,λb hb=>(fpx b hb).1,k1 _ _ D2,.nil,Sv,w0⟩
  rintro n s5 ⟨i,τ,H5,ys,a8,k,I5,t5,n5,d5,v5,z5,w5⟩;have oD:∀{s':Ni} {its':Nj} {k':Nat},s'.heap.get? D=some {cls:=.type "list",data:=.seq its'.toArray k'}→∀b∈[D],∃o,s'.heap.get? b=some o∧∀v,o.data≠.cell v:=λ{s' its' k'} e b hb=>by rw[Qd.mp hb];exact⟨_,e,λv z=>by cases z⟩
  have i8:JQ ([]++zca [D] s5.heap) τ H5 s5:=I5.pinned (λb hb=>fY (by rw[Qd.mp hb];exact Qc) (n5 b (by rw[Qd.mp hb];exact Qc)) Fr) (oD d5);have pD:∀p∈zca [D] s5.heap,p.1=D∧p.2={cls:=.type "list",data:=.seq a8.toArray k}:=λp hp=>by obtain⟨e1,e2⟩:=zex hp;have cZ:p.1=D:=Qd.mp e1;rw[cZ,d5]at e2;exact⟨cZ,(Qq e2).symm⟩
  have fN:∀{H':Hp},(∀b∈fp,H' b=none)→∀b∈fp,MT ([]++zca [D] s5.heap) H' b:=λhn b hb=>fY Tr Ab λp hp z=>by rw[Kg]at hp;rw[(pD p hp).1]at z;exact fpD (z▸hb)
  rcases K0 w5 with⟨stop,qn⟩|⟨go,zl,step⟩
  ·have h6:=UO (λ_ _=>False) i8 (fN λb hb=>n5 b Tr) t5 stop;rw[eA]at h6;refine thn h6 λr s6 ⟨hr,I6⟩=>?_;subst hr;have d6:s6.heap.get? D=some {cls:=.type "list",data:=.seq a8.toArray k}:=by have hp:=zbo (fp:=[D]) Ss d5;exact(I6.pin (D,_) (YT hp)).1
   have H5D:H5 D=none:=n5 D Qc;obtain⟨mL,nL,_⟩:=I6.loc;rw[eL]at nL;have CD:g2.objs.size≠D:=by rw[hC];exact Xy _
   refine kY D _ mL ys H5 s6 ?_ (qn D H5D) nL ?_ (by rw[hC,hD];exact Yr _)
   ·have u6:=I6.base;rw[eFs,eEx,pz,jc]at u6;refine I3.call' (ch:=D::fp) (I6.os.trans (by rw[jc])) ⟨u6.keep,u6.slot,λb o e n hx=>?_,u6.there,λb xs e=>?_,λb o u e=>?_,λb ps e=>?_⟩ ?_ I6.bare λb hb=>?_
    ·rw[zaf (λz=>hx C4)];exact u6.free b o e n hx
    ·rw[zaf Cg];exact u6.tups b xs e
    ·rw[zaf Cg];exact u6.frzs b o u e
    ·rw[zaf Cg];exact u6.tbls b ps e
    ·have iK:=I6.hok;rw[eP,eW]at iK;intro b u e;by_cases hb:b=D
     ·subst hb;rw[zab]at e;cases e;exact⟨z5,a8,k,v5,d6⟩
     rw[IK]at e;exact(iK b u e).stay (λc v _ q=>q) (λc q=>by rw[zaf ET];exact q) λc xs q=>by rw[zaf ET];exact q
    obtain⟨f0,f1,f2,f3,f4,f5⟩:=fpx b hb;exact⟨f3,f1,f4,f5⟩
   rw[zaf CD];have:=I6.free;rw[eL]at this;exact this
  have h6:=UP (λ_ _=>False) i8 (fN λb hb=>n5 b Tr) t5 go;rw[eA]at h6;refine thn h6 λr s6 ⟨u,hr,h7⟩=>?_;subst hr;refine thn h7 λ_ s7 ⟨x,H7,I7,r7,y7,t7,n7⟩=>?_;have pB:=K1 (WX t7);have h8:=Yg _ s7 τ H7 x u _ pB r7 (Fe y7);rw[eP,eW,eA,eX,eE]at h8;refine thn h8 λ_ s8 ⟨τ8,H8,I8,q8⟩=>?_;have h9:=Yt _ s8 τ8 H8 _ I8 q8;rw[eP,eW,eA,eX,eE]at h9;refine thn h9 λok s9 ⟨H9,I9,q9⟩=>?_;have again:∀{τ':St} {H':Hp} {s':Ni},JQ (([]++zca [D] s5.heap)++VJ s7.heap) τ' H' s'→s'.heap.get? D=some {cls:=.type "list",data:=.seq a8.toArray k}∧H' D=none∧tn Gr s'.heap∧∀b∈fp,H' b=none:=λ{τ' H' s'} I'=>by
   have pp:∀{b:Nc} {o:Obj},b∈fp→s7.heap.get? b=some o→s'.heap.get? b=some o∧H' b=none:=λ{b o} hb e=>
    let z:=I'.pin (b,o) TF
    ⟨z.1,z.2.1⟩
   have hp:=zbo (fp:=[D]) Ss d5;have z:=I'.pin (D,_) (YT L4);refine⟨z.1,z.2.1,Q1 t7 λb hb o e=>(pp hb e).1,λb hb=>?_⟩;obtain⟨o,e,_⟩:=WX t7 b hb;exact(pp hb e).2
  have drop:∀{pl:Nd} {τ':St} {H':Hp} {s':Ni},JQ pl τ' H' s'→JQ [] τ' H' s':=λI'=>I'.pins_of Fr;cases ok with
  |false=>rw[if_neg Fw]at q9 ⊢;obtain⟨m',hm,w9⟩:=q9;obtain⟨d9,H9D,t9,n9⟩:=again I9;exact⟨m',hm,i+1,τ8,H9,ys,a8,k,drop I9,t9,λb hb=>(O9 hb).elim (λe=>e▸H9D) (n9 b),d9,v5,z5,w9⟩
  | true=>
   rw[if_pos rfl]at q9 ⊢;have i5:=Ye _ s9 τ8 H9 _ I9 q9;rw[eP,eW,eA,eX,eE]at i5;refine thn i5 λy dF ⟨yv,dw,lj,lp,m',hm,qK⟩=>?_;obtain⟨lc,H10D,qV,rq⟩:=again lj;refine call_meets F.slot_list_append ⟨_,lc,rfl⟩ F.entry_list_append (BM _) (KD (by rw[Qp,←v5.length];assumption)) ⟨lc,?_⟩;have q:=Da (λa=>a.push y);have uq:AZ=(a8++[y]).toArray:=by simp
   rw[uq]at q;have kk:∀b o,b≠D→dF.heap.get? b=some o→(dF.heap.update D (Obj.mapSeq λa=>a.push y)).get? b=some o:=λb o hb e=>(Yi dF.heap (Obj.mapSeq λa=>a.push y) IQ).trans e;obtain⟨g0,g1,g2',g3,g4,g5⟩:=fY (pl:=[]) (H':=dw) (b:=D) Qc H10D Fr;have lW:=(drop lj).turned (h':=dF.heap.update D (Obj.mapSeq λa=>a.push y)) (t':=dF.toks) (it:=D) kk H10D g1 g3 g4 g5;exact⟨m',hm,i+1,τ8,dw,ys++[yv],a8++[y],_,lW,Q1 qV λb hb o e=>kk b o (λz=>fpD (z▸hb)) e,λb hb=>(O9 hb).elim (λe=>e▸H10D) (rq b),q,v5.append (HY lp),
    by rw[Qk,Wk];assumption,qK⟩
 exact codeAny_compStart_list EU (Ve (Q1 h0 λb _ o e=>k1 b o Cf) EU)
def lc_block{tg elt iter:Expr}{ifs:Nq}{pos:Pos}{g:TG}{tc:TT}{te:TE}{fp:Nl}{it:Nc}{tn:Nat→Heap→Prop}{J:It}{Q:VK}{RR:Value→Addr→Result→Shared→Prop}{E:Nb}(B:YX ix)(hc:X.calm=true)(hg:∀C ex s H,JX g)(ht:∀C ex s H,UU tc)(he:∀C ex s H,J0 elt te)(I:Gj)(T:U7 tn)(h0:IW)(hf:∀b∈fp,QL b)(q:YJ H)(kY:Hh) :
  wpAny FE X.A (newList []) (λaj s₃=>ZF GV (λcenv s₄=>codeAny FE X.A (.compStart F' 0 Rr aj {cenv with scope:=relabel sc X.env}) Lg s₄) E s₃) E s:=lc_blockG B.g hc hg ht he I T h0 hf q kY
def Inv.letgo{C:Nc}{m:Ng}{h':No}{s₀:No}(I:Gj)(hn:s.heap.Ns C m)(hC:H C=none)(ad:X.env.locals<s₀.objs.size)(bJ:∀x c,X.env.cells.lookup x=some c→c<s₀.objs.size)(hp:∀p∈X.pn++a7,p.1<s₀.objs.size)(aJ:X.s₀.heap.objs.size≤s₀.objs.size)(hc:s₀.objs.size<C)(hs:Heap.SameBut C s.heap h'):ZA H {s with heap:=h'}:=
 I.turned (t':=s.toks) (it:=C) (λb o hb e=>(hs.2 b hb).trans e) hC (Wd (Wt ad hc)) (Ru (Zf aJ (Zw hc))) (λx c e=>Zk (Wt (bJ x c e) hc)) λp q=>Zk (Wt (hp p q) hc)
def Inv.cl_lt(I:Gj):∀x c,X.env.cells.lookup x=some c→c<s.heap.objs.size:=λx c e=>by obtain⟨v,q⟩:=U4 e;exact q.lt
def Inv.pin_lt(I:Gj):∀p∈X.pn++a7,p.1<s.heap.objs.size:=λp hp=>Qu (YS hp).1
def pe_lcC(B:J' ix)(hc:X.calm=true)(hi:Ii)(hg:∀C a7 ex s H,MS g)(ht:∀C a7 ex s H,VT tc)(he:∀C a7 ex s H,Mv te)(hs:∀x,foldedSetIterable iter X.env x=pure x:=by intro _;rfl):QA F' (XC te):=by intro a7 s σ H Q I h;rw[eval_ListComp];refine wpAny_comprehension_free (use:=none) rfl hs Iw B.kind B.names (thn Sd λv s1 h1=>thn h1 λitv s2 h2=>?_);obtain⟨it,fp,tn,J,H2,e,I2,T,aH,f2,q⟩:=h2;subst e;refine lc_blockG (RR:=λaj C=>compPost FE X.A X.xe none Tl aj C) B hc (hg · a7) (ht · a7) (he · a7) I2 T aH f2 q ?_;intro D C m ys H' s' I' q' hn hC ad;refine⟨m,hn,λh' cQ=>⟨HQ,_,Bn cQ,rfl,q'⟩⟩
def zfw(B:YX ix)(hc:X.calm=true)(hi:Ii)(hg:∀C a7 ex s H,JX g)(ht:∀C a7 ex s H,UU tc)(he:∀C a7 ex s H,J0 elt te)(hs:∀x,foldedSetIterable iter X.env x=pure x:=by intro _;rfl):QA F' (XC te):=pe_lcC B.g hc hi hg ht he hs
def ps_lc(hN:X.N.Nodup)(cV:X.N[i]?=some y)(hy:X.env.scope.names.lookup y=some .local)(B:YX ix)(hc:X.calm=true)(hi:Ii)(hg:∀C a7 ex s H,JX g)(ht:∀C a7 ex s H,UU tc)(he:∀C a7 ex s H,J0 elt te)(rZ:swapsWith F' (He LK) spos.line X.env=pure true)(hs:∀x,foldedSetIterable iter X.env x=pure x:=by intro _;rfl):KO (.Assign [LK] F' spos) (tAsg (XC te) C1):=by
 intro a7 s σ H D' I h;rw[exec_Assign_Name_used _ _ _ _ rZ];refine wpAny_bind (IF (wpAny_bind ?_));show ZW X.A (do let _ ←comprehension F' sc X.env _ (newList []) false LR (He RN)) _ _ s;refine wpAny_bind (wpAny_mono (wpAny_comprehension_free (use:=some RN) (Q:=λ_ s'=>Bo D' .next s') rfl hs Iw B.kind B.names
  (thn Sd λv s1 h1=>thn h1 λitv s2 h2=>?_)) (λ_ s' hq=>wpAny_pure (GG hq)) λ_ _ e=>e)
 obtain⟨it,fp,tn,J,H2,e,I2,T,aH,f2,q⟩:=h2;subst e;refine lc_block (RR:=λaj C=>compPost FE X.A X.xe (He RN) (λ_ s'=>Bo D' .next s') aj C) B hc (hg · a7) (ht · a7) (he · a7) I2 T aH f2 q ?_;intro D C m ys H' s' I' q' hn hC ad;show ZW X.A Ay _ _ s';refine wpAny_assign_Name (MV (v:=.ref D) rfl (λmd uy ⟨a,sb,ha⟩=>?_) IR);have aC:C≠a:=by
  rcases ha with z|z
  ·rw[z];exact Wd (Wt I2.lt ad)
  exact Wd (Db ad)
 have bz:=hn.sameBut sb aC;exact⟨m,bz,λh' cQ=>⟨_,_,LH,q'⟩⟩
end
end L2
namespace Tim
open PySem PyProof.Rows
def gallopT:Bool→Keyed→Array Keyed→Nat→Nat→Nat→StateT SortSt Sem (Option Nat):=sortPriv% PySem.Builtin.gallop
def mergeLoT:Array Keyed→Array Keyed→StateT SortSt Sem (Array Keyed):=sortPriv% PySem.Builtin.mergeLo
def mergeHiT:Array Keyed→Array Keyed→StateT SortSt Sem (Array Keyed):=sortPriv% PySem.Builtin.mergeHi
section
variable{prog:Nk}{w:Nn}{A:Np}{E:Nb}{s:Ni}{kd:SortKind}{O:KeyOrd}{key:Keyed→O.α}{a₀:Array Keyed}
def Cmp(prog:Nk)(w:Nn)(A:Np)(E:Nb)(s:Ni)(kd:SortKind)(O:KeyOrd)(key:Keyed→O.α)(a₀:Array Keyed):Prop:=
 ∀(x y:Keyed) (st:SortSt) (Q:Option Bool→SortSt→Prop),x∈a₀.toList→y∈a₀.toList→kindOf st=kd→Q (He (O.blt (key x) (key y))) st→ZL (lt' x y) Q st
def gk(O:KeyOrd)(key:Keyed→O.α)(xs:Array Keyed)(i:Nat):O.α:=match xs[i]? with
 |some p=>key p
 |none=>key (.none,.none)
def zfl{xs:Array Keyed}{i:Nat}{p:Keyed}(h:xs[i]?=some p):ZP xs i=key p:=by unfold gk;rw[h]
def ze4{xs ys:Array Keyed}{i j:Nat}(h:xs[i]?=ys[j]?):ZP xs i=ZP ys j:=by unfold gk;rw[h]
def Of(a₀ xs:Array Keyed):Prop:=∀(i:Nat) (p:Keyed),xs[i]?=some p→p∈a₀.toList
def za8(O:KeyOrd)(key:Keyed→O.α)(left:Bool)(ky:Keyed)(arr:Array Keyed)(i:Nat):Bool:=if left=true then O.blt (ZP arr i) Az else !(O.blt Az (ZP arr i))
def za3{arr:Array Keyed}{i:Nat}{p:Keyed}{Q:Keyed→SortSt→Prop}{st:SortSt}(h:arr[i]?=some p)(q:Q p st):ZL (elem' arr i) Q st:=by rw[elem'_eq,h];exact wpS_pure q
def beyondT(left:Bool)(ky:Keyed)(arr:Array Keyed)(i:Nat):UV (Option Bool):=do
 let x ←elem' arr i
 if left=true then lt' x ky else do
  let r ←lt' ky x
  pure (r.map λz=>!z)
def wpS_beyond{left:Bool}{ky:Keyed}{arr:Array Keyed}{i:Nat}{Q:Option Bool→SortSt→Prop}{st:SortSt}(C:QC a₀)(hk:kindOf st=kd)(hO:BN arr)(hy:ky∈a₀.toList)(hi:i<arr.size)(q:Q (He (Q6 i)) st):ZL (Dc i) Q st:=by
 have e:=getElem?_pos arr i hi;unfold beyondT;refine wpS_bind (za3 e ?_);have m:=hO _ _ e;unfold za8 at q;rw[zfl e]at q;cases left with
 |true=>exact C _ _ _ _ m hy hk q
 |false=>exact wpS_bind (C _ _ _ _ hy m hk (wpS_pure q))
def zcn{left:Bool}{ky:Keyed}{arr:Array Keyed}{base n hint:Nat}{Q:Option Nat→SortSt→Prop}{st:SortSt}(C:QC a₀)(hk:kindOf st=kd)(hO:BN arr)(hy:ky∈a₀.toList)(hb:base+n≤arr.size)(hh:hint<n)(mono:∀i j,i≤j→j<n→Q6 (base+j)=true→Q6 (base+i)=true)(h:∀k,k≤n→(∀i,i<k→Q6 (base+i)=true)→(∀i,k≤i→i<n→Q6 (base+i)=false)→Q (He k) st) :
  wpS Ga A E s (gallopT left ky arr base n hint) Q st:=by
 generalize hP:(λi=>Q6 (base+i))=P;have eP:∀i,Q6 (base+i)=P i:=λi=>by rw[←hP]
 simp only[eP]at mono h;have ask:∀{i:Nat} {Q':Option Bool→SortSt→Prop},i<n→Q' (He (P i)) st→ZL (Dc (base+i)) Q' st:=λ{i Q'} hi q=>wpS_beyond C hk hO hy GK (FA eP q);have anti:∀i j,i≤j→j<n→P i=false→P j=false:=λi j fm hj hi=>by
  cases e:P j with
  |false=>rfl
  |true=>rw[mono i j fm hj e]at hi;exact hi
 have last:∀(f:Nat→(Option EV×Nat×Nat)→UV (ForInStep (Option EV×Nat×Nat))) (lo hi:Nat),lo≤hi→hi≤n→(∀i,i<lo→P i=true)→(∀i,hi≤i→i<n→P i=false) →
   (∀x l r Q',l≥r→Q' (ForInStep.done (none,l,r)) st→ZL (f x (none,l,r)) Q' st) →
   (∀x l r Q',¬l≥r→r≤n→(P (l+(r-l)/2)=true→Q' (HU (none,l+(r-l)/2+1,r)) st)→(P (l+(r-l)/2)=false→Q' (HU (none,l,l+(r-l)/2)) st)→ZL (f x (none,l,r)) Q' st) →
   wpS Ga A E s (forIn [:n] (none,lo,hi) f) (λc a9=>a9=st∧∃k,c=(none,k,k)∧k≤n∧(∀i,i<k→P i=true)∧(∀i,k≤i→i<n→P i=false)) st:=by
  intro f lo hi h1 h2 h3 h4 f1 f2;refine wpS_forRange
   (I:=λx c a9=>Aj2 (a9=st) (Ex2 λl r=>Aj6 (c=(none,l,r)) (l≤r) (r≤n) (r-l≤n-x) (∀i,i<l→P i=true) (∀i,r≤i→i<n→P i=false))) ?step ?fin ?init
  case init=>exact⟨rfl,lo,hi,rfl,h1,h2,Fs,h3,h4⟩
  case fin=>
   rintro c a9 ⟨rfl,l,r,rfl,a1,a2,a3,a4,a5⟩;have:l=r:=by lia
   subst this;exact⟨rfl,l,rfl,a2,a4,a5⟩
  case step=>
   rintro x c a9 _ hx ⟨rfl,l,r,rfl,a1,a2,a3,a4,a5⟩;by_cases cr:l≥r
   ·refine f1 x l r _ cr ?_;have:l=r:=by exact Kz ‹_› ‹_›
    subst this;exact⟨rfl,l,rfl,a2,a4,a5⟩
   refine f2 x l r _ cr a2 (λe=>?_) λe=>?_
   ·exact⟨rfl,_,A5,Fs,by assumption,Fs,λi hi=>mono i _ Fs Fs e,a5⟩
   exact⟨rfl,_,A5,by exact XT _,Fs,Fs,a4,λi g1 g2=>anti _ i g1 g2 e⟩
 unfold gallopT;refine wpS_bind (ask (i:=hint) hh ?_);cases e0:P hint with
 | true=>
  refine wpS_bind (wpS_mono (wpS_forRange
   (I:=λx c a9=>Aj2 (a9=st) (Ex2 λla of=>Aj5 (c=(none,la,of)) (P (hint+la)=true) (hint+la<n) (la<of) (x<of)))
   (Q:=λc a9=>Aj2 (a9=st) (Ex2 λla of=>Aj5 (c=(none,la,of)) (P (hint+la)=true) (hint+la<n) (la<of) ((n-hint≤of)∨(Aj2 (of<n-hint) (P (hint+of)=false))))) ?step ?fin ?init) ?post)
  case init=>exact⟨rfl,0,1,rfl,e0,hh,by exact Qh _,by exact Qh _⟩
  case fin=>rintro c a9 ⟨rfl,la,of,rfl,a1,a2,a3,a4⟩;exact⟨rfl,la,of,rfl,a1,a2,a3,Gm Fs⟩
  case step=>
   rintro x c a9 _ hx ⟨rfl,la,of,rfl,a1,a2,a3,a4⟩;dsimp only;by_cases cr:of≥n-hint
   ·rw[HK cr];exact wpS_pure ⟨rfl,la,of,rfl,a1,a2,a3,Gm cr⟩
   rw[Rb cr];refine wpS_bind (ask (i:=hint+of) Fs ?_);cases e:P (hint+of) with
   |true=>exact wpS_pure ⟨rfl,of,2*of+1,rfl,e,Fs,Fs,Fs⟩
   |false=>exact wpS_pure ⟨rfl,la,of,rfl,a1,a2,a3,Ru ⟨Fs,e⟩⟩
  case post=>
   rintro c a9 ⟨rfl,la,of,rfl,a1,a2,a3,a4⟩;refine wpS_bind (wpS_mono (last _ (hint+la+1) (hint+min of (n-hint)) Fs Fs (λi hi=>mono i _ Fs a2 a1) ?_ ?_ ?_) ?_)
   ·intro i g1 g2;rcases a4 with a4|⟨a4,a5⟩
    ·lia
    exact anti _ i Fs g2 a5
   ·intro x l r Q' cr q;dsimp only;rw[if_pos cr];exact wpS_pure q
   ·intro x l r Q' cr hr q1 q2;dsimp only;rw[if_neg cr];refine wpS_bind (ask (i:=l+(r-l)/2) Fs ?_);cases e:P (l+(r-l)/2) with
    |true=>exact wpS_pure (q1 e)
    |false=>exact wpS_pure (q2 e)
   rintro c a9 ⟨rfl,k,rfl,b1,b2,b3⟩;exact wpS_pure (h k b1 b2 b3)
 | false=>
  refine wpS_bind (wpS_mono (wpS_forRange
   (I:=λx c a9=>Aj2 (a9=st) (Ex2 λla of=>Aj5 (c=(none,la,of)) (P (hint-la)=false) (la≤hint) (la<of) (x<of)))
   (Q:=λc a9=>Aj2 (a9=st) (Ex2 λla of=>Aj5 (c=(none,la,of)) (P (hint-la)=false) (la≤hint) (la<of) ((hint+1≤of)∨(Aj2 (of<hint+1) (P (hint-of)=true))))) ?step ?fin ?init) ?post)
  case init=>exact⟨rfl,0,1,rfl,e0,by exact Zo _,by exact Qh _,by exact Qh _⟩
  case fin=>rintro c a9 ⟨rfl,la,of,rfl,a1,a2,a3,a4⟩;exact⟨rfl,la,of,rfl,a1,a2,a3,Gm Fs⟩
  case step=>
   rintro x c a9 _ hx ⟨rfl,la,of,rfl,a1,a2,a3,a4⟩;dsimp only;by_cases cr:of≥hint+1
   ·rw[HK cr];exact wpS_pure ⟨rfl,la,of,rfl,a1,a2,a3,Gm cr⟩
   rw[Rb cr];refine wpS_bind (ask (i:=hint-of) Fs ?_);cases e:P (hint-of) with
   |true=>exact wpS_pure ⟨rfl,la,of,rfl,a1,a2,a3,Ru ⟨Fs,e⟩⟩
   |false=>exact wpS_pure ⟨rfl,of,2*of+1,rfl,e,Fs,Fs,Fs⟩
  case post=>
   rintro c a9 ⟨rfl,la,of,rfl,a1,a2,a3,a4⟩;refine wpS_bind (wpS_mono (last _ (hint+1-min of (hint+1)) (hint-la) Fs Fs ?_ (λi g1 g2=>anti _ i g1 g2 a1) ?_ ?_) ?_)
   ·intro i hi;rcases a4 with a4|⟨a4,a5⟩
    ·lia
    exact mono i _ Fs Fs a5
   ·intro x l r Q' cr q;dsimp only;rw[if_pos cr];exact wpS_pure q
   ·intro x l r Q' cr hr q1 q2;dsimp only;rw[if_neg cr];refine wpS_bind (ask (i:=l+(r-l)/2) Fs ?_);cases e:P (l+(r-l)/2) with
    |true=>exact wpS_pure (q1 e)
    |false=>exact wpS_pure (q2 e)
   rintro c a9 ⟨rfl,k,rfl,b1,b2,b3⟩;exact wpS_pure (h k b1 b2 b3)
end
section
variable{σ α β:Type}{M:Model}{A:Np}{E:Nb}{s:Ni}{Q:α→σ→Prop}{st:σ}{c:Prop}[Decidable c]
def gen_post{m:Mw α}(h:∀Q0:α→σ→Prop,(∀r a9,Q r a9→Q0 r a9)→JE m Q0 st):JE m Q st:=h Q λ_ _ z=>z
def jp_if{f:Unit→β→Mw α}{x y:β}(h:∀z,JE (f () z) Q st):JE (if c then f () x else f () y) Q st:=by
 split
 ·exact h _
 exact h _
def zck{x y:Mw α}(h1:c→JE x Q st)(h2:¬c→JE y Q st):JE (if c then x else y) Q st:=by
 split
 next z=>exact h1 z
 next z=>exact h2 z
end
section
variable{prog:Nk}{w:Nn}{A:Np}{E:Nb}{s:Ni}{kd:SortKind}{O:KeyOrd}{key:Keyed→O.α}{a₀:Array Keyed}
def le(O:KeyOrd)(key:Keyed→O.α)(x y:Keyed):Prop:=O.kle (key x) (key y)
structure Jn(O:KeyOrd)(key:Keyed→O.α)(all out ra rb:List Keyed):Prop where
 perm:(out++ra++rb).Perm all
 so:out.Pairwise Rk
 lo:∀x∈out,∀y,(y∈ra∨y∈rb)→Z' x y
 sa:ra.Pairwise Rk
 sb:rb.Pairwise Rk
variable{all out ra rb seg:List Keyed}
def Jn.appA(j:QR all out (seg++ra) rb)(h:∀x∈seg,∀y∈rb,Z' x y):QR all (out++seg) ra rb:=by
 obtain⟨s1,s2,s3⟩:=Zv.mp j.sa;refine⟨?_,Zv.mpr ⟨j.so,s1,λx hx y hy=>j.lo x hx y (Gm (Y5 hy))⟩,λx hx y hy=>?_,s2,j.sb⟩
 ·have:=j.perm;simpa[Zc] using this
 rcases Qg.mp hx with q|q
 ·rcases hy with z|z
  ·exact j.lo x q y (Gm Pr)
  exact j.lo x q y (Ru z)
 rcases hy with z|z
 ·exact s3 x q y z
 exact h x q y z
def Jn.appB(j:QR all out ra (seg++rb))(h:∀x∈seg,∀y∈ra,Z' x y):QR all (out++seg) ra rb:=by
 obtain⟨s1,s2,s3⟩:=Zv.mp j.sb;refine⟨?_,Zv.mpr ⟨j.so,s1,λx hx y hy=>j.lo x hx y (Ru (Y5 hy))⟩,λx hx y hy=>?_,j.sa,s2⟩
 ·have p1:(out++seg++ra++rb).Perm (out++ra++(seg++rb)):=by rw[Zc out seg,Zc out,Zc,Zc];refine Jb out ?_;rw[←Zc,←Zc];exact List.Perm.append_right rb Ja
  exact p1.trans j.perm
 rcases Qg.mp hx with q|q
 ·rcases hy with z|z
  ·exact j.lo x q y PD
  exact j.lo x q y (Ru Pr)
 rcases hy with z|z
 ·exact h x q y z
 exact s3 x q y z
def Mg(O:KeyOrd)(key:Keyed→O.α)(all res:List Keyed):Prop:=res.Perm all∧res.Pairwise Rk
def Jn.finA(j:QR all out ra []):Q7 all (out++ra):=
 ⟨by have:=j.perm;rwa[Zp]at this,Zv.mpr ⟨j.so,j.sa,λx hx y hy=>j.lo x hx y (Gm hy)⟩⟩
def Jn.finB(j:QR all out [] rb):Q7 all (out++rb):=
 ⟨by have:=j.perm;rwa[Zp]at this,Zv.mpr ⟨j.so,j.sb,λx hx y hy=>j.lo x hx y IR⟩⟩
def Jn.finL(j:QR all out ra rb)(h:∀x∈rb,∀y∈ra,Z' x y):Q7 all (out++rb++ra):=by
 refine⟨List.Perm.trans ?_ j.perm,Zv.mpr ⟨Zv.mpr ⟨j.so,j.sb,λx hx y hy=>j.lo x hx y IR⟩,j.sa,λx hx y hy=>?_⟩⟩
 ·rw[Zc,Zc];exact Jb out Ja
 rcases Qg.mp hx with q|q
 ·exact j.lo x q y (Gm hy)
 exact h x q y hy
def zci{a:Array Keyed}{i:Nat}(h:i<a.size):a.toList.drop i=a[i]::a.toList.drop Gr:=by rw[Zz (Fv h)];simp
def zcg{a:Array Keyed}{i:Nat}:(a.extract i a.size).toList=a.toList.drop i:=by
 have:(a.extract i a.size).toList=(GZ i).take (a.size-i):=by simp
 rw[this];exact Qm Fr
def zg6{a:Array Keyed}{i k:Nat}(h:i+k≤a.size):(TH (i+k)).toList++a.toList.drop (i+k)=a.toList.drop i:=by
 have e:(TH (i+k)).toList=(GZ i).take k:=by simp[List.take_drop]
 rw[e,←List.drop_drop];exact Zq _ _
def zbp{x y z:Keyed}(h1:Z' x y)(h2:Z' y z):Z' x z:=Wf h1 h2
def zdg{x y:Keyed}{l:List Keyed}(p:(x::l).Pairwise Rk)(h:y∈x::l):Z' x y:=by
 rcases Qi.mp h with e|e
 ·rw[e];exact Ut _
 exact(Wo.mp p).1 y e
def Jn.pushB{a b:Array Keyed}{o:Array Keyed}{ia ib:Nat}(j:IC)(h1:ia<a.size)(h2:ib<b.size)(h:Z' b[ib] a[ia]) :
  Jn O key all (o.push b[ib]).toList (GZ ia) (RO (ib+1)):=by
 rw[Kq];rw[zci h2]at j;refine j.appB (seg:=[b[ib]]) λx hx y hy=>?_;rw[Qd.mp hx];have p:=j.sa;rw[zci h1]at p hy;exact zbp h C5
def Jn.pushA{a b:Array Keyed}{o:Array Keyed}{ia ib:Nat}(j:IC)(h1:ia<a.size)(h2:ib<b.size)(h:Z' a[ia] b[ib]) :
  Jn O key all (o.push a[ia]).toList (GZ (ia+1)) (RO ib):=by
 rw[Kq];rw[zci h1]at j;refine j.appA (seg:=[a[ia]]) λx hx y hy=>?_;rw[Qd.mp hx];have p:=j.sb;rw[zci h2]at p hy;exact zbp h C5
def zgv{a:Array Keyed}{i k:Nat}{x:Keyed}(h:i+k≤a.size)(hx:x∈(TH (i+k)).toList):∃m,∃(hm:i+m<a.size),m<k∧x=a[i+m]:=by
 obtain⟨m,hm,e⟩:=Zg hx;have hz:(TH (i+k)).toList.length=k:=by simp;lia
 refine⟨m,Fs,by exact zar7 ‹_› ‹_›,?_⟩;rw[←e];simp
def Jn.runA{a b:Array Keyed}{o:Array Keyed}{ia ib k:Nat}(j:IC)(h1:ia+k≤a.size)(h2:ib<b.size)(h:∀m (hm:ia+m<a.size),m<k→Z' a[ia+m] b[ib]) :
  Jn O key all (o++a.extract ia (ia+k)).toList (GZ (ia+k)) (RO ib):=by
 rw[Ya];rw[←zg6 h1]at j;refine j.appA λx hx y hy=>?_;obtain⟨m,hm,jZ,rfl⟩:=zgv h1 hx;have p:=j.sb;rw[zci h2]at p hy;exact zbp (h m hm jZ) C5
def Jn.runB{a b:Array Keyed}{o:Array Keyed}{ia ib k:Nat}(j:IC)(h1:ib+k≤b.size)(h2:ia<a.size)(h:∀m (hm:ib+m<b.size),m<k→Z' b[ib+m] a[ia]) :
  Jn O key all (o++b.extract ib (ib+k)).toList (GZ ia) (RO (ib+k)):=by
 rw[Ya];rw[←zg6 h1]at j;refine j.appB λx hx y hy=>?_;obtain⟨m,hm,jZ,rfl⟩:=zgv h1 hx;have p:=j.sa;rw[zci h2]at p hy;exact zbp (h m hm jZ) C5
def gk_at{xs:Array Keyed}{i:Nat}(h:i<xs.size):ZP xs i=key xs[i]:=zfl (getElem?_pos xs i h)
def srt_get{xs:Array Keyed}(p:xs.toList.Pairwise Rk){i j:Nat}(fm:i≤j)(hj:j<xs.size):Z' (xs[i]'(Yo fm hj)) xs[j]:=by
 rcases Kd i j with h|h
 ·have:=Jd.mp p i j (by simpa using Yo fm hj) (Fv hj) h;simpa using this
 have e:i=j:=by exact Kz ‹_› ‹_›
 subst e;exact Ut _
def zda{ky:Keyed}{xs:Array Keyed}{base n:Nat}(p:xs.toList.Pairwise Rk)(hb:base+n≤xs.size):∀i j,i≤j→j<n→WP false ky xs (base+j)=true→WP false ky xs (base+i)=true:=by intro i j fm hj h;unfold za8 at h ⊢;rw[gk_at Fs]at h ⊢;simp only[Wq,if_false,Ym]at h ⊢;exact Wf (srt_get p (show base+i≤base+j by lia) GK) (show DJ _ from h)
def zdl{ky:Keyed}{xs:Array Keyed}{base n:Nat}(p:xs.toList.Pairwise Rk)(hb:base+n≤xs.size):∀i j,i≤j→j<n→WP true ky xs (base+j)=true→WP true ky xs (base+i)=true:=by intro i j fm hj h;unfold za8 at h ⊢;rw[gk_at Fs]at h ⊢;simp only[if_true]at h ⊢;exact Ky (srt_get p (show base+i≤base+j by lia) GK) h
def right_le{ky:Keyed}{xs:Array Keyed}{i:Nat}(h:i<xs.size)(e:WP false ky xs i=true):Z' xs[i] ky:=by unfold za8 at e;rw[gk_at h]at e;simp only[Wq,if_false,Ym]at e;exact e
def right_lt{ky:Keyed}{xs:Array Keyed}{i:Nat}(h:i<xs.size)(e:WP false ky xs i=false):O.klt Az (key xs[i]):=by unfold za8 at e;rw[gk_at h]at e;simp only[Wq,if_false,Jv]at e;exact e
def left_lt{ky:Keyed}{xs:Array Keyed}{i:Nat}(h:i<xs.size)(e:WP true ky xs i=true):O.klt (key xs[i]) Az:=by unfold za8 at e;rw[gk_at h]at e;simp only[if_true]at e;exact e
def left_le{ky:Keyed}{xs:Array Keyed}{i:Nat}(h:i<xs.size)(e:WP true ky xs i=false):Z' ky xs[i]:=by unfold za8 at e;rw[gk_at h]at e;simp only[if_true]at e;exact e
def SG(st a9:SortSt):Prop:=∃g,a9=KK (Ha st) g (Ol st)
def wpS_mergeLo{a b:Array Keyed}{Q:Array Keyed→SortSt→Prop}{st:SortSt}(C:QC a₀)(hk:kindOf st=kd)(oa:BN a)(ob:BN b)(sa:a.toList.Pairwise Rk)(sb:b.toList.Pairwise Rk)(ha:0<a.size)(hb:0<b.size)(h0:O.klt (key b[0]) (key a[0]))(hl:∀y∈b.toList,Z' y a[a.size-1])(h:∀(res:Array Keyed) (a9:SortSt),Q7 Fz res.toList→DK a9→Q res a9):ZL (mergeLoT a b) Q st:=by
 have ia_:∀i (hi:i<a.size),a[i]∈a₀.toList:=λi hi=>oa i _ (getElem?_pos a i hi);have ib_:∀i (hi:i<b.size),b[i]∈a₀.toList:=λi hi=>ob i _ (getElem?_pos b i hi);have ea:∀i (hi:i<a.size),a[i]?=some a[i]:=λi hi=>getElem?_pos a i hi;have eb:∀i (hi:i<b.size),b[i]?=some b[i]:=λi hi=>getElem?_pos b i hi;have sgk:∀{a9},DK a9→kindOf a9=kd:=λ⟨g,e⟩=>by rw[e];exact hk
 have endB:∀{o:Array Keyed} {i k:Nat},QR Fz o.toList (GZ i) (RO k)→k=b.size→Q7 Fz (o++a.extract i++b.extract k).toList:=λ{o i k} j e=>by
  rw[Ya,Ya,zcg,zcg];have z:b.toList.drop k=[]:=by rw[e];simp
  rw[z]at j ⊢;rw[Zp];exact j.finA
 have endA:∀{o:Array Keyed} {i k:Nat},QR Fz o.toList (GZ i) (RO k)→i=a.size→Q7 Fz (o++a.extract i++b.extract k).toList:=λ{o i k} j e=>by
  rw[Ya,Ya,zcg,zcg];have z:a.toList.drop i=[]:=by rw[e];simp
  rw[z]at j ⊢;rw[Zp];exact j.finB
 have endL:∀{o:Array Keyed} {i k:Nat},QR Fz o.toList (GZ i) (RO k)→i+1=a.size→Q7 Fz (o++b.extract k++a.extract i).toList:=λ{o i k} j e=>by
  rw[Ya,Ya,zcg,zcg];refine j.finL λx hx y hy=>?_;rw[zci Fs]at hy;have z:a.toList.drop Gr=[]:=by rw[e];simp
  rw[z]at hy;rw[Qd.mp hy];have:=hl x (Wp hx);have e2:a.size-1=i:=by lia
  simp only[e2]at this;exact this
 unfold mergeLoT;refine wpS_bind (EW (wpAny_rule ⟨rfl,?_⟩));refine wpS_bind (za3 (eb 0 hb) ?_);have j0:QR Fz (#[b[0]]:Array Keyed).toList (GZ 0) (RO 1):=by have j:QR Fz (#[]:Array Keyed).toList (GZ 0) (RO 0):=⟨Fr,List.Pairwise.nil,λx hx=>by simp at hx,sa,sb⟩;exact j.pushB ha hb (Yz h0)
 by_cases c1:b.size=1
 ·rw[HK (by simp[c1])];exact wpS_pure (h _ _ (endB j0 c1.symm) ⟨_,rfl⟩)
 rw[if_neg (by simp;lia)];by_cases c2:a.size=1
 ·rw[HK (by simp[c2])];exact wpS_pure (h _ _ (endL j0 Fs) ⟨_,rfl⟩)
 rw[if_neg (by simp;lia)];refine wpS_bind (wpS_get ?_);refine wpS_bind (wpS_mono (wpS_forRange
  (I:=λx c a9=>YG (Ex4 λo i k g=>Aj5 (c=(none,o,i,k,g)) (i+1<a.size) (k<b.size) CP (x≤i+k)))
  (Q:=λc a9=>YG RI) ?step ?fin ?init) ?post)
 case init=>exact⟨⟨A5⟩,_,0,1,A5,Fs,Fs,j0,by exact Zo _⟩
 case fin=>rintro c a9 ⟨_,o,i,k,g,rfl,a1,a2,a3,a4⟩;exfalso;lia
 case post=>rintro c a9 ⟨g,res,r,rfl,m⟩;exact wpS_pure (h res a9 m g)
 case step=>
  rintro x c bd _ hx ⟨g1,o1,i1,k1,mg,rfl,a1,a2,a3,a4⟩;dsimp -zeta only;refine wpS_bind (wpS_mono (wpS_forRange
   (I:=λy c a9=>Aj2 (a9=bd) (Ex5 λo i k ac bc=>Aj5 (c=(none,o,i,k,ac,bc)) (i+1<a.size) (k<b.size) CP (i1+k1+y≤i+k)))
   (Q:=λc a9=>Aj2 (a9=bd) (RI∨(Ex5 λo i k ac bc=>Aj5 (c=(none,o,i,k,ac,bc)) (i+1<a.size) (k<b.size) CP (i1+k1<i+k)))) ?step1 ?fin1 ?init1) ?post1)
  case init1=>exact⟨rfl,o1,i1,k1,0,0,rfl,a1,a2,a3,by exact Qh _⟩
  case fin1=>rintro c a9 ⟨_,o,i,k,ac,bc,rfl,b1,b2,b3,b4⟩;exfalso;lia
  case step1=>
   rintro y c aH _ hy ⟨rfl,o,i,k,ac,bc,rfl,b1,b2,b3,b4⟩;dsimp -zeta only;refine wpS_bind (za3 (eb k b2) (wpS_bind (za3 (ea i Gf) (EY (C _ _ _ _ (ib_ k b2) (ia_ i Gf) (sgk g1) ?_)))));cases e:O.blt (key b[k]) (key (a[i]'(by exact Zw ‹_›))) with
   |true=>
    dsimp -zeta only;rw[if_pos rfl];refine wpS_bind (za3 (eb k b2) ?_);have j:=b3.pushB Gf b2 (Yz (show Vz _ from e));by_cases d1:k+1=b.size
    ·rw[HK (by simp[d1])];exact wpS_pure ⟨rfl,Gm ⟨_,_,rfl,endB j d1⟩⟩
    rw[Rb (by simp[d1])];by_cases d2:bc+1≥mg
    ·rw[HK d2];exact wpS_pure ⟨rfl,Ru ⟨_,i,k+1,_,_,rfl,b1,by exact zar5 ‹_› ‹_›,j,Fs⟩⟩
    rw[Rb d2];exact wpS_pure ⟨rfl,_,i,k+1,_,_,rfl,b1,by exact zar5 ‹_› ‹_›,j,by exact zar4 ‹_›⟩
   |false=>
    dsimp -zeta only;rw[if_neg Fr];refine wpS_bind (za3 (ea i Gf) ?_);have j:=b3.pushA Gf b2 (show Z' _ _ from e);by_cases d1:i+1+1=a.size
    ·rw[HK (by simp[d1])];exact wpS_pure ⟨rfl,Gm ⟨_,_,rfl,endL j d1⟩⟩
    rw[Rb (by simp[d1])];by_cases d2:ac+1≥mg
    ·rw[HK d2];exact wpS_pure ⟨rfl,Ru ⟨_,i+1,k,_,_,rfl,by exact zar5 ‹_› ‹_›,b2,j,Fs⟩⟩
    rw[Rb d2];exact wpS_pure ⟨rfl,_,i+1,k,_,_,rfl,by exact zar5 ‹_› ‹_›,b2,j,Fs⟩
  case post1=>
   rintro c aH ⟨rfl,⟨res,r,rfl,m⟩|⟨o2,i2,k2,ac2,bc2,rfl,b1,b2,b3,b4⟩⟩
   ·exact wpS_pure ⟨g1,res,_,rfl,m⟩
   dsimp -zeta only;refine wpS_bind (EW (wpAny_rule ⟨rfl,?_⟩));refine wpS_bind (wpS_mono (wpS_forRange
    (I:=λy c a9=>YG (Ex6 λo i k g ac bc=>Aj5 (c=(none,o,i,k,g,ac,bc)) (i+1<a.size) (k<b.size) CP (i2+k2≤i+k)))
    (Q:=λc a9=>YG (RI∨(Ex6 λo i k g ac bc=>Aj5 (c=(none,o,i,k,g,ac,bc)) (i+1<a.size) (k<b.size) CP (i2+k2≤i+k)))) ?step2 ?fin2 ?init2) ?post2)
   case init2=>exact⟨g1,o2,i2,k2,_,_,A5,b1,b2,b3,Gg⟩
   case fin2=>rintro c a9 ⟨g,o,i,k,g',ac,bc,rfl,c1,c2,c3,c4⟩;exact⟨g,Ru ⟨o,i,k,g',ac,bc,rfl,c1,c2,c3,c4⟩⟩
   case post2=>
    rintro c aP ⟨g3,⟨res,r,rfl,m⟩|⟨o3,i3,k3,g',ux,uu,rfl,c1,c2,c3,c4⟩⟩
    ·exact wpS_pure ⟨g3,res,_,rfl,m⟩
    dsimp -zeta only;refine wpS_bind (wpS_modify ?_);obtain⟨gg,e3⟩:=g3;exact wpS_pure ⟨⟨_,by rw[e3]⟩,o3,i3,k3,_,rfl,c1,c2,c3,Fs⟩
   case step2=>
    rintro y c aP _ hy ⟨g3,o3,i3,k3,mg3,ux,uu,rfl,c1,c2,c3,c4⟩;refine gen_post λQ0 du=>?_;dsimp -zeta only;have sgm:∀g',DK (Tf g'):=λg'=>by obtain⟨g,e⟩:=g3;exact⟨g',by rw[e]⟩
    extract_lets -underBinder+onlyGivenNames s1 out s2 ia s3 ib s4 mn s5 ac bc jp;refine jp_if (f:=jp) λm'=>?_;refine wpS_bind (wpS_modify ?_);refine wpS_bind (za3 (eb k3 c2) ?_);refine wpS_bind (zcn (base:=i3) (n:=a.size-i3) (hint:=0) C AA oa (ib_ k3 c2) Fs Fs (zda sa Fs) λk q1 q2 q3=>?_);dsimp -zeta only;have mm:∀hi:i3+k<a.size,O.klt (key b[k3]) (key a[i3+k]):=λhi=>right_lt hi (q3 k Gg Fs);have jr:=c3.runA (k:=k) Fs c2 λm hm jZ=>right_le hm (q2 m jZ);extract_lets -underBinder+onlyGivenNames ac' jp2;have h2:∀(n':Nat) (o':Array Keyed) (f1:n'+1<a.size),i3≤n'→QR Fz o'.toList (GZ n') (RO k3)→O.klt (key b[k3]) (key (a[n']'(by exact Zw ‹_›)))→ZL (jp2 () o' n') Q0 (Tf m'):=by
     intro n' o' f1 f2 fJ fl;have f0:n'<a.size:=by exact Zw ‹_›
     refine wpS_bind (za3 (eb k3 c2) ?_);have fK:=fJ.pushB f0 c2 (Yz fl);refine zck (λd=>?_) (λd=>?_)
     ·exact wpS_pure (Eu ⟨TB,Gm ⟨_,_,rfl,endB fK PH⟩⟩)
     have d':¬k3+1=b.size:=λz=>d HR;refine wpS_bind (za3 (ea n' f0) ?_);refine wpS_bind (zcn (base:=k3+1) (n:=b.size-(k3+1)) (hint:=0) C AA ob (ia_ n' f0) Fs Fs (zdl sb Fs) λk' r1 r2 r3=>?_);dsimp -zeta only;have js:=fK.runB (k:=k') Fs f0 λm hm jZ=>Yz (left_lt hm (r2 m jZ));have mo:=λhi:k3+1+k'<b.size=>left_le hi (r3 k' Gg Fs);extract_lets -underBinder+onlyGivenNames bc' jp3;have h3:∀(m2:Nat) (o2:Array Keyed) (p1:m2<b.size),k3+1≤m2→QR Fz o2.toList (GZ n') (RO m2)→Z' a[n'] b[m2]→ZL (jp3 () o2 m2) Q0 (Tf m'):=by
      intro m2 o2 p1 p2 pJ pl;refine wpS_bind (za3 (ea n' f0) ?_);have pK:=pJ.pushA f0 p1 pl;refine zck (λd=>?_) (λd=>?_)
      ·exact wpS_pure (Eu ⟨TB,Gm ⟨_,_,rfl,endL pK PH⟩⟩)
      have d2:¬n'+1+1=a.size:=λz=>d HR;refine zck (λ_=>?_) (λ_=>?_)
      ·exact wpS_pure (Eu ⟨TB,Ru ⟨_,n'+1,m2,_,_,_,rfl,by exact zar5 ‹_› ‹_›,p1,pK,Fs⟩⟩)
      exact wpS_pure (Eu ⟨TB,_,n'+1,m2,_,_,_,rfl,by exact zar5 ‹_› ‹_›,p1,pK,Fs⟩)
     refine zck (λkz=>?_) (λkz=>?_)
     ·refine zck (λd4=>?_) (λd4=>?_)
      ·exact wpS_pure (Eu ⟨TB,Gm ⟨_,_,rfl,endB js (Ri d4)⟩⟩)
      have d4':¬k3+1+k'=b.size:=λz=>d4 HR;have p1:k3+1+k'<b.size:=by lia
      exact h3 (k3+1+k') _ p1 (XT _) js (mo p1)
     have mq:k'=0:=Nat.eq_zero_of_not_pos kz;have p1:k3+1<b.size:=by exact zar5 ‹_› ‹_›
     subst mq;exact h3 (k3+1) _ p1 Gg fK (mo p1)
    refine zck (λkz=>?_) (λkz=>?_)
    ·refine zck (λd=>?_) (λd=>?_)
     ·exact wpS_pure (Eu ⟨TB,Gm ⟨_,_,rfl,endL jr PH⟩⟩)
     refine zck (λe=>?_) (λe=>?_)
     ·exact wpS_pure (Eu ⟨TB,Gm ⟨_,_,rfl,endA jr (Ri e)⟩⟩)
     have d':¬i3+k+1=a.size:=λz=>d HR;have e':¬i3+k=a.size:=λz=>e HR;have f1:i3+k+1<a.size:=by lia
     exact h2 (i3+k) _ f1 (XT _) jr (mm Gf)
    have mq:k=0:=Nat.eq_zero_of_not_pos kz;subst mq;exact h2 i3 _ c1 Gg c3 (mm Gf)
def opp(O:KeyOrd):KeyOrd where
 α:=O.α
 blt:=λa b=>O.blt b a
 irrefl:=O.irrefl
 trans:=λa b c h1 h2=>O.trans c b a h2 h1
 negTrans:=λa b c h=>(O.negTrans c b a h).symm
 total:=λa b h1 h2=>O.total a b h2 h1
def Jn.finM(j:QR all out ra rb)(h:∀x∈ra,∀y∈rb,Z' x y):Q7 all (out++ra++rb):=
 ⟨j.perm,Zv.mpr ⟨Zv.mpr ⟨j.so,j.sa,λx hx y hy=>j.lo x hx y (Gm hy)⟩,j.sb,λx hx y hy=>by
  rcases Qg.mp hx with q|q
  ·exact j.lo x q y IR
  exact h x q y hy⟩⟩
abbrev Jh(O:KeyOrd)(key:Keyed→O.α)(all:List Keyed)(o a b:Array Keyed)(na nb:Nat):Prop:=WN (Rj na).reverse (Lr nb).reverse
def Mg.flip{res:List Keyed}(m:Mg (opp O) key all res):Q7 all res.reverse:=
 ⟨(Xn res).trans m.1,List.pairwise_reverse.mpr (m.2.imp λh=>h)⟩
def zdc{a:Array Keyed}{n:Nat}(h:n<a.size):(Rj (n+1)).reverse=a[n]::(Rj n).reverse:=by
 rw[List.take_add_one];have e:a.toList[n]?=some a[n]:=by simp[h]
 rw[e];simp
def rev_seg{a:Array Keyed}{i n:Nat}(hi:i≤n)(h:n≤a.size):(TH n).toList.reverse++(Rj i).reverse=(Rj n).reverse:=by
 rw[←List.reverse_append];congr 1;have e:(TH n).toList=(Rj n).drop i:=by simp[List.drop_take]
 rw[e];have e2:a.toList.take i=(Rj n).take i:=by rw[List.take_take];congr 1;lia
 rw[e2];exact Zq _ _
def zd0{a:Array Keyed}{n:Nat}:(a.extract 0 n).toList=a.toList.take n:=by simp
variable{a b o:Array Keyed}{na nb:Nat}
def Jh.pushA(j:EJ all (na+1) (nb+1))(h1:na<a.size)(h2:nb<b.size)(h:Z' b[nb] a[na]):Q8 all (o.push a[na]) a b na (nb+1):=by show BO _;rw[Kq];have j':WN (Rj (na+1)).reverse (Lr (nb+1)).reverse:=j;rw[zdc h1]at j';refine Jn.appA (seg:=[a[na]]) j' λx hx y hy=>?_;rw[Qd.mp hx];have p:=j'.sb;rw[zdc h2]at p hy;exact zbp (O:=opp O) h C5
def Jh.pushB(j:EJ all (na+1) (nb+1))(h1:na<a.size)(h2:nb<b.size)(h:Z' a[na] b[nb]):Q8 all (o.push b[nb]) a b (na+1) nb:=by show BO _;rw[Kq];have j':WN (Rj (na+1)).reverse (Lr (nb+1)).reverse:=j;rw[zdc h2]at j';refine Jn.appB (seg:=[b[nb]]) j' λx hx y hy=>?_;rw[Qd.mp hx];have p:=j'.sa;rw[zdc h1]at p hy;exact zbp (O:=opp O) h C5
def mem_ext{a:Array Keyed}{i n:Nat}{x:Keyed}(h:n≤a.size)(hx:x∈(TH n).toList.reverse):∃m,∃(hm:m<a.size),i≤m∧m<n∧x=a[m]:=by
 obtain⟨m,hm,e⟩:=Zg (Ba.mp hx);have hz:(TH n).toList.length=n-i:=by simp;lia
 refine⟨i+m,Fs,by exact XT _,Fs,?_⟩;rw[←e];simp
def Jh.runA{at_:Nat}(j:EJ all na (nb+1))(hi:at_≤na)(h1:na≤a.size)(h2:nb<b.size)(h:∀m (hm:m<a.size),at_≤m→m<na→Z' b[nb] a[m]):Q8 all (o++(a.extract at_ na).reverse) a b at_ (nb+1):=by show BO _;rw[Ya,Ka];have j':WN (Rj na).reverse (Lr (nb+1)).reverse:=j;rw[←rev_seg hi h1]at j';refine Jn.appA j' λx hx y hy=>?_;obtain⟨m,hm,m1,m2,rfl⟩:=mem_ext h1 hx;have p:=j'.sb;rw[zdc h2]at p hy;exact zbp (O:=opp O) (h m hm m1 m2) C5
def Jh.runB{at_:Nat}(j:EJ all (na+1) nb)(hi:at_≤nb)(h1:nb≤b.size)(h2:na<a.size)(h:∀m (hm:m<b.size),at_≤m→m<nb→Z' a[na] b[m]):Q8 all (o++(b.extract at_ nb).reverse) a b (na+1) at_:=by show BO _;rw[Ya,Ka];have j':WN (Rj (na+1)).reverse (Lr nb).reverse:=j;rw[←rev_seg hi h1]at j';refine Jn.appB j' λx hx y hy=>?_;obtain⟨m,hm,m1,m2,rfl⟩:=mem_ext h1 hx;have p:=j'.sa;rw[zdc h2]at p hy;exact zbp (O:=opp O) (h m hm m1 m2) C5
def wpS_mergeHi{Q:Array Keyed→SortSt→Prop}{st:SortSt}(C:QC a₀)(hk:kindOf st=kd)(oa:BN a)(ob:BN b)(sa:a.toList.Pairwise Rk)(sb:b.toList.Pairwise Rk)(ha:0<a.size)(hb:0<b.size)(h0:O.klt (key b[0]) (key a[0]))(hl:∀y∈b.toList,Z' y a[a.size-1])(h:∀(res:Array Keyed) (a9:SortSt),Q7 Fz res.toList→DK a9→Q res a9):ZL (mergeHiT a b) Q st:=by
 have ia_:∀i (hi:i<a.size),a[i]∈a₀.toList:=λi hi=>oa i _ (getElem?_pos a i hi);have ib_:∀i (hi:i<b.size),b[i]∈a₀.toList:=λi hi=>ob i _ (getElem?_pos b i hi);have ea:∀i (hi:i<a.size),a[i]?=some a[i]:=λi hi=>getElem?_pos a i hi;have eb:∀i (hi:i<b.size),b[i]?=some b[i]:=λi hi=>getElem?_pos b i hi;have sgk:∀{a9},DK a9→kindOf a9=kd:=λ⟨g,e⟩=>by rw[e];exact hk
 have endA:∀{o:Array Keyed} {i k:Nat},Q8 Fz o a b i k→i=0→Q7 Fz (a.extract 0 i++b.extract 0 k++o.reverse).toList:=λ{o i k} j e=>by subst e;have j':Jn (opp O) key Fz o.toList [] (Lr k).reverse:=j;have m:=j'.finB.flip;rw[Ya,Ya,Ka,zd0,zd0];simpa using m
 have endB:∀{o:Array Keyed} {i k:Nat},Q8 Fz o a b i k→k=0→Q7 Fz (a.extract 0 i++b.extract 0 k++o.reverse).toList:=λ{o i k} j e=>by subst e;have j':Jn (opp O) key Fz o.toList (Rj i).reverse []:=j;have m:=j'.finA.flip;rw[Ya,Ya,Ka,zd0,zd0];simpa using m
 have endL:∀{o:Array Keyed} {i k:Nat},Q8 Fz o a b i k→k=1→Q7 Fz (b.extract 0 k++a.extract 0 i++o.reverse).toList:=λ{o i k} j e=>by
  subst e;have m:=(Jn.finM j λx hx y hy=>?_).flip
  ·rw[Ya,Ya,Ka,zd0,zd0];simpa using m
  rw[zdc hb]at hy;simp only[List.take_zero,List.reverse_nil,Qd]at hy;rw[hy];have bv:x∈a.toList:=Wh (Ba.mp hx);have e0:a.toList=a[0]::a.toList.drop 1:=by have:=zci (a:=a) ha;simpa using this
  rw[e0]at bv sa;exact Wf (O:=O) (Yz h0) (zdg sa bv)
 obtain⟨n0,hn0⟩:∃n0,a.size=n0+1:=⟨a.size-1,Fs⟩;obtain⟨m0,gj⟩:∃m0,b.size=m0+1:=⟨b.size-1,Fs⟩;have cG:n0<a.size:=by lia
 have hm1:m0<b.size:=by lia
 have j0:Q8 Fz (#[a[n0]]:Array Keyed) a b n0 b.size:=by
  have j:Q8 Fz (#[]:Array Keyed) a b (n0+1) (m0+1):=by have e1:a.toList.take (n0+1)=a.toList:=Qm (by simp;lia);have e2:b.toList.take (m0+1)=b.toList:=Qm (by simp;lia);show BO _;rw[e1,e2];exact⟨by simpa using List.Perm.append (Xn _) (Xn _),List.Pairwise.nil,λx hx=>by simp at hx,List.pairwise_reverse.mpr (sa.imp λh=>h),List.pairwise_reverse.mpr (sb.imp λh=>h)⟩
  rw[gj];refine j.pushA cG hm1 ?_;have:=hl b[m0] Fr;have e2:a.size-1=n0:=by lia
  simp only[e2]at this;exact this
 unfold mergeHiT;refine wpS_bind (EW (wpAny_rule ⟨rfl,?_⟩));have e2:a.size-1=n0:=by lia
 simp -zeta only[e2];refine wpS_bind (za3 (ea n0 cG) ?_);by_cases c1:n0=0
 ·rw[HK (by simp[c1])];exact wpS_pure (h _ _ (endA j0 c1) ⟨_,rfl⟩)
 rw[if_neg (by simp[c1])];by_cases c2:b.size=1
 ·rw[HK (by simp[c2])];exact wpS_pure (h _ _ (endL j0 c2) ⟨_,rfl⟩)
 rw[if_neg (by simp[c2])];refine wpS_bind (wpS_get ?_);obtain⟨n1,rfl⟩:∃n1,n0=n1+1:=⟨n0-1,by exact zar14 ‹_›⟩;obtain⟨m1,dC⟩:∃m1,b.size=m1+1+1:=⟨b.size-2,Fs⟩;rw[show b.size=m1+1+1 from dC]at j0;refine wpS_bind (wpS_mono (wpS_forRange
  (I:=λx c a9=>YG (Ex4 λo i k g=>Aj5 (c=(none,i+1,k+1+1,o,g)) (i<a.size) (k+1<b.size) (EJ Fz Gr (k+1+1)) (i+k+x+4≤a.size+b.size)))
  (Q:=λc a9=>YG RI) ?step ?fin ?init) ?post)
 case init=>exact⟨⟨A5⟩,_,n1,m1,_,by rw[dC],Gf,Fs,j0,Fs⟩
 case fin=>rintro c a9 ⟨_,o,i,k,g,rfl,a1,a2,a3,a4⟩;exfalso;lia
 case post=>rintro c a9 ⟨g,res,r,rfl,m⟩;exact wpS_pure (h res a9 m g)
 case step=>
  rintro x c bd _ hx ⟨g1,o1,i1,k1,mg,rfl,a1,a2,a3,a4⟩;dsimp -zeta only;refine wpS_bind (wpS_mono (wpS_forRange
   (I:=λy c a9=>Aj2 (a9=bd) (Ex5 λo i k ac bc=>Aj5 (c=(none,i+1,k+1+1,o,ac,bc)) (i<a.size) (k+1<b.size) (EJ Fz Gr (k+1+1)) (i+k+y≤i1+k1)))
   (Q:=λc a9=>Aj2 (a9=bd) (RI∨(Ex5 λo i k ac bc=>Aj5 (c=(none,i+1,k+1+1,o,ac,bc)) (i<a.size) (k+1<b.size) (EJ Fz Gr (k+1+1)) (i+k<i1+k1)))) ?step1 ?fin1 ?init1) ?post1)
  case init1=>exact⟨rfl,o1,i1,k1,0,0,rfl,a1,a2,a3,by exact Qh _⟩
  case fin1=>rintro c a9 ⟨_,o,i,k,ac,bc,rfl,b1,b2,b3,b4⟩;exfalso;lia
  case step1=>
   rintro y c aH _ hy ⟨rfl,o,i,k,ac,bc,rfl,b1,b2,b3,b4⟩;dsimp -zeta only;simp only[Nat.add_sub_cancel];refine wpS_bind (za3 (eb (k+1) b2) (wpS_bind (za3 (ea i b1) (EY (C _ _ _ _ (ib_ (k+1) b2) (ia_ i b1) (sgk g1) ?_)))));cases e:O.blt (key b[k+1]) (key a[i]) with
   |true=>
    dsimp -zeta only;rw[if_pos rfl];refine wpS_bind (za3 (ea i b1) ?_);have j:=b3.pushA b1 b2 (Yz (show Vz _ from e));by_cases d1:i=0
    ·rw[HK (by simp[d1])];exact wpS_pure ⟨rfl,Gm ⟨_,_,rfl,endA j d1⟩⟩
    rw[Rb (by simp[d1])];obtain⟨i',rfl⟩:∃i',i=i'+1:=⟨i-1,by exact zar14 ‹_›⟩;by_cases d2:ac+1≥mg
    ·rw[HK d2];exact wpS_pure ⟨rfl,Ru ⟨_,i',k,_,_,rfl,Gf,b2,j,Fs⟩⟩
    rw[Rb d2];exact wpS_pure ⟨rfl,_,i',k,_,_,rfl,Gf,b2,j,Fs⟩
   |false=>
    dsimp -zeta only;rw[if_neg Fr];refine wpS_bind (za3 (eb (k+1) b2) ?_);have j:=b3.pushB b1 b2 (show Z' _ _ from e);by_cases d1:k+1=1
    ·rw[HK (Fv d1)];exact wpS_pure ⟨rfl,Gm ⟨_,_,rfl,endL j d1⟩⟩
    rw[Rb (Fv d1)];obtain⟨k',rfl⟩:∃k',k=k'+1:=⟨k-1,Fs⟩;by_cases d2:bc+1≥mg
    ·rw[HK d2];exact wpS_pure ⟨rfl,Ru ⟨_,i,k',_,_,rfl,b1,Gf,j,Fs⟩⟩
    rw[Rb d2];exact wpS_pure ⟨rfl,_,i,k',_,_,rfl,b1,Gf,j,Fs⟩
  case post1=>
   rintro c aH ⟨rfl,⟨res,r,rfl,m⟩|⟨o2,i2,k2,ac2,bc2,rfl,b1,b2,b3,b4⟩⟩
   ·exact wpS_pure ⟨g1,res,_,rfl,m⟩
   dsimp -zeta only;refine wpS_bind (EW (wpAny_rule ⟨rfl,?_⟩));refine wpS_bind (wpS_mono (wpS_forRange
    (I:=λy c a9=>YG (Ex6 λo i k g ac bc=>Aj5 (c=(none,i+1,k+1+1,o,g,ac,bc)) (i<a.size) (k+1<b.size) (EJ Fz Gr (k+1+1)) (i+k≤i2+k2)))
    (Q:=λc a9=>YG (RI∨(Ex6 λo i k g ac bc=>Aj5 (c=(none,i+1,k+1+1,o,g,ac,bc)) (i<a.size) (k+1<b.size) (EJ Fz Gr (k+1+1)) (i+k≤i2+k2)))) ?step2 ?fin2 ?init2) ?post2)
   case init2=>exact⟨g1,o2,i2,k2,_,_,A5,b1,b2,b3,Gg⟩
   case fin2=>rintro c a9 ⟨g,o,i,k,g',ac,bc,rfl,c1,c2,c3,c4⟩;exact⟨g,Ru ⟨o,i,k,g',ac,bc,rfl,c1,c2,c3,c4⟩⟩
   case post2=>
    rintro c aP ⟨g3,⟨res,r,rfl,m⟩|⟨o3,i3,k3,g',ux,uu,rfl,c1,c2,c3,c4⟩⟩
    ·exact wpS_pure ⟨g3,res,_,rfl,m⟩
    dsimp -zeta only;refine wpS_bind (wpS_modify ?_);obtain⟨gg,e3⟩:=g3;exact wpS_pure ⟨⟨_,by rw[e3]⟩,o3,i3,k3,_,rfl,c1,c2,c3,Fs⟩
   case step2=>
    rintro y c aP _ hy ⟨g3,o3,i3,k3,mg3,ux,uu,rfl,c1,c2,c3,c4⟩;refine gen_post λQ0 du=>?_;dsimp -zeta only;have sgm:∀g',DK (Tf g'):=λg'=>by obtain⟨g,e⟩:=g3;exact⟨g',by rw[e]⟩
    extract_lets -underBinder+onlyGivenNames s1 na s2 nb s3 out s4 mn s5 ac bc jp;refine jp_if (f:=jp) λm'=>?_;refine wpS_bind (wpS_modify ?_);refine wpS_bind (za3 (eb (k3+1) c2) ?_);refine wpS_bind (zcn (n:=i3+1) (hint:=i3) C AA oa (ib_ (k3+1) c2) Fs (by exact Qh _) (zda sa Fs) λlV q1 q2 q3=>?_);dsimp -zeta only;have jr:=c3.runA (at_:=lV) q1 (by assumption) c2 λm hm m1 m2=>Yz (right_lt hm (by have:=q3 m m1 m2;rwa[Kc]at this));have mm:=λ(t:Nat) (ht:t<lV) (hi:t<a.size)=>right_le (O:=O) (key:=key) (ky:=b[k3+1]) hi (by have:=q2 t ht;rwa[Kc]at this);extract_lets -underBinder+onlyGivenNames kk ac' jp2;have h2:∀(n':Nat) (o':Array Keyed) (f1:n'<a.size),n'≤i3→Q8 Fz o' a b (n'+1) (k3+1+1)→Z' a[n'] b[k3+1]→ZL (jp2 () (n'+1) o') Q0 (Tf m'):=by
     intro n' o' f1 f2 fJ fl;refine wpS_bind (za3 (eb (k3+1) c2) ?_);have fK:=fJ.pushB f1 c2 fl;refine zck (λd=>?_) (λd=>?_)
     ·exact wpS_pure (Eu ⟨TB,Gm ⟨_,_,rfl,endL fK PH⟩⟩)
     have d':¬k3+1=1:=λz=>d HR;refine wpS_bind (za3 (ea n' f1) ?_);refine wpS_bind (zcn (n:=k3+1) (hint:=k3) C AA ob (ia_ n' f1) Fs (by exact Qh _) (zdl sb Fs) λlh r1 r2 r3=>?_);dsimp -zeta only;have js:=fK.runB (at_:=lh) r1 Gf f1 λm hm m1 m2=>left_le hm (by have:=r3 m m1 m2;rwa[Kc]at this);have mo:=λ(t:Nat) (ht:t<lh) (hi:t<b.size)=>Yz (left_lt (O:=O) (key:=key) (ky:=a[n']) hi (by have:=r2 t ht;rwa[Kc]at this));extract_lets -underBinder+onlyGivenNames rB bc' jp3;have h3:∀(m2:Nat) (o2:Array Keyed) (p1:m2+1<b.size),m2≤k3→Q8 Fz o2 a b (n'+1) (m2+1+1)→Z' b[m2+1] a[n']→ZL (jp3 () (m2+1+1) o2) Q0 (Tf m'):=by
      intro m2 o2 p1 p2 pJ pl;refine wpS_bind (za3 (ea n' f1) ?_);have pK:=pJ.pushA f1 p1 pl;refine zck (λd=>?_) (λd=>?_)
      ·exact wpS_pure (Eu ⟨TB,Gm ⟨_,_,rfl,endA pK PH⟩⟩)
      have d2:¬n'=0:=λz=>d HR;cases n' with
      |zero=>exact absurd rfl d2
      |succ t=>
       refine zck (λ_=>?_) (λ_=>?_)
       ·exact wpS_pure (Eu ⟨TB,Ru ⟨_,t,m2,_,_,_,rfl,Gf,p1,pK,Fs⟩⟩)
       exact wpS_pure (Eu ⟨TB,_,t,m2,_,_,_,rfl,Gf,p1,pK,Fs⟩)
     refine zck (λkz=>?_) (λkz=>?_)
     ·refine zck (λd4=>?_) (λd4=>?_)
      ·exact wpS_pure (Eu ⟨TB,Gm ⟨_,_,rfl,endL js (Ri d4)⟩⟩)
      refine zck (λd5=>?_) (λd5=>?_)
      ·exact wpS_pure (Eu ⟨TB,Gm ⟨_,_,rfl,endB js (Ri d5)⟩⟩)
      have d4':¬lh=1:=λz=>d4 HR;have d5':¬lh=0:=λz=>d5 HR;obtain⟨m2,e2⟩:∃m2,lh=m2+1+1:=⟨lh-2,Fs⟩;have:=h3 m2 _ Fs Fs (by rw[←e2];exact js) (mo (m2+1) Fs Fs);rw[←e2]at this;exact this
     have mq:¬ k3+1 - lh > 0:=kz;obtain⟨m2,e2⟩:∃m2,k3=m2+1:=⟨k3-1,Fs⟩;have:=h3 m2 _ Fs Fs (by rw[←e2];exact fK) (mo (m2+1) Fs Fs);rw[←e2]at this;exact this
    refine zck (λkz=>?_) (λkz=>?_)
    ·refine zck (λd=>?_) (λd=>?_)
     ·exact wpS_pure (Eu ⟨TB,Gm ⟨_,_,rfl,endA jr PH⟩⟩)
     have d':¬lV=0:=λz=>d HR;obtain⟨n',e1⟩:∃n',lV=n'+1:=⟨lV-1,by exact zar14 ‹_›⟩;have:=h2 n' _ Fs Fs (by rw[←e1];exact jr) (mm n' Fs Fs);rw[←e1]at this;exact this
    have mq:¬ i3+1 - lV > 0:=kz;exact h2 i3 _ c1 Gg c3 (mm i3 Fs c1)
variable{pre:Array Keyed}{p:Array (Nat×Nat×Nat)}{lo:Nat}
structure Bs(kd:SortKind)(a₀:Array Keyed)(p:Array (Nat×Nat×Nat))(lo:Nat)(pre:Array Keyed)(st:SortSt):Prop where
 kind:kindOf st=kd
 failed:failedOf st=none
 pend:pendingOf st=p
 perm:(Gu st).Perm a₀
 head:∀k,k<lo→(Gu st)[k]?=pre[k]?
def Bs.size{st:SortSt}(B:Z0 st):(Gu st).size=a₀.size:=B.perm.size_eq
def Bs.mem{st:SortSt}(B:Z0 st){i:Nat}(hi:i<a₀.size):∃q,(Gu st)[i]?=some q∧q∈a₀.toList:=by
 have cV:i<(Gu st).size:=by rw[B.size];exact hi
 exact⟨_,getElem?_pos _ i cV,(Uc.mp B.perm).mem_iff.mp Fr⟩
def zhe{st:SortSt}{i j:Nat}{Q:Option Bool→SortSt→Prop}(C:QC a₀)(B:Z0 st)(hi:i<a₀.size)(hj:j<a₀.size)(h:Q (He (O.blt (ZP TL i) (ZP TL j))) st):ZL (ltAt' i j) Q st:=by obtain⟨x,e1,m1⟩:=B.mem hi;obtain⟨y,e2,m2⟩:=B.mem hj;rw[zfl e1,zfl e2]at h;rw[ltAt'_eq];refine wpS_bind (wpS_get ?_);refine wpS_bind (za3 e1 (EY (za3 e2 ?_)));exact C x y st Q m1 m2 B.kind h
def zg5{xs:Array Keyed}{i j:Nat}(hj:j≤xs.size)(k:Nat):ZP (Ff i j ((j-i)/2)) k=if i≤k∧k<j then ZP xs (i+j-1-k) else ZP xs k:=by
 have e:=getElem?_mirror_all (i:=i) hj k;split
 next h=>rw[if_pos h]at e;exact ze4 e
 next h=>rw[if_neg h]at e;exact ze4 e
def gk_bubble{xs:Array Keyed}{src d:Nat}(hs:src<xs.size)(hd:d≤src)(k:Nat):ZP (bubble xs src d) k=if k=src-d then ZP xs src else if src-d<k∧k≤src then ZP xs (k-1) else ZP xs k:=by
 have e:=getElem?_bubble hs d hd k;split
 next h=>rw[if_pos h]at e;exact ze4 e
 next h=>
  rw[if_neg h]at e;split
  next h'=>rw[if_pos h']at e;exact ze4 e
  next h'=>rw[if_neg h']at e;exact ze4 e
def Bs.mirror{st:SortSt}{i j:Nat}(B:Z0 st)(hi:lo≤i)(hj:j≤a₀.size):Z0 (setArr st (mirror TL i j ((j-i)/2))):=
 ⟨B.kind,B.failed,B.pend,(mirror_perm _ _ _ _).trans B.perm,λk hk=>by have e:=getElem?_mirror_all (xs:=arrOf st) (i:=i) (j:=j) (by rw[B.size];exact hj) k;rw[if_neg Fs]at e;exact e.trans (B.head k hk)⟩
def Bs.bubble{st:SortSt}{src d:Nat}(B:Z0 st)(hs:src<a₀.size)(hd:lo+d≤src):Z0 (setArr st (bubble TL src d)):=
 ⟨B.kind,B.failed,B.pend,(bubble_perm _ _ _).trans B.perm,λk hk=>by have e:=getElem?_bubble (xs:=arrOf st) (src:=src) (by rw[B.size];exact hs) d Fs k;rw[if_neg Fs,if_neg Fs]at e;exact e.trans (B.head k hk)⟩
def Up(O:KeyOrd)(key:Keyed→O.α)(xs:Array Keyed)(lo hi:Nat):Prop:=∀i j,lo≤i→i≤j→j<hi→O.kle (ZP xs i) (ZP xs j)
def Dn(O:KeyOrd)(key:Keyed→O.α)(xs:Array Keyed)(lo hi:Nat):Prop:=∀i j,lo≤i→i≤j→j<hi→O.kle (ZP xs j) (ZP xs i)
def Up.one{xs:Array Keyed}:YY xs lo (lo+1):=λi j h1 h2 h3=>by
 have:i=j:=by lia
 subst this;exact Ut _
def Dn.one{xs:Array Keyed}:Bd xs lo (lo+1):=λi j h1 h2 h3=>by
 have:i=j:=by lia
 subst this;exact Ut _
def Up.snoc{xs:Array Keyed}{n:Nat}(u:YY xs lo (lo+n))(hn:1≤n)(h:O.kle (ZP xs (lo+n-1)) (ZP xs (lo+n))):YY xs lo (lo+(n+1)):=λi j h1 h2 h3=>by
 by_cases hj:j<lo+n
 ·exact u i j h1 h2 hj
 have ej:j=lo+n:=by lia
 subst ej;by_cases hi:i=lo+n
 ·subst hi;exact Ut _
 exact Wf (u i (lo+n-1) h1 Fs Fs) h
def Dn.snoc{xs:Array Keyed}{n:Nat}(u:Bd xs lo (lo+n))(hn:1≤n)(h:O.kle (ZP xs (lo+n)) (ZP xs (lo+n-1))):Bd xs lo (lo+(n+1)):=λi j h1 h2 h3=>by
 by_cases hj:j<lo+n
 ·exact u i j h1 h2 hj
 have ej:j=lo+n:=by lia
 subst ej;by_cases hi:i=lo+n
 ·subst hi;exact Ut _
 exact Wf h (u i (lo+n-1) h1 Fs Fs)
def Dn.turn{xs:Array Keyed}{hi:Nat}(d:Bd xs lo hi)(h:hi≤xs.size):YY (Ff lo hi ((hi-lo)/2)) lo hi:=λi j h1 h2 h3=>by rw[zg5 h,zg5 h,if_pos Fs,if_pos Fs];exact d _ _ Fs Fs Fs
def gk_same{xs:Array Keyed}{i j:Nat}(hj:j≤xs.size)(h:∀k,i≤k→k<j→ZP xs k=ZP xs (j-1))(k:Nat):ZP (Ff i j ((j-i)/2)) k=ZP xs k:=by
 rw[zg5 hj];split
 next q=>rw[h _ Fs Fs,h k Fs Fs]
 next=>rfl
def wpS_ite{α:Type}{b:Bool}{x y:UV α}{Q:α→SortSt→Prop}{st:SortSt}(h1:b=true→ZL x Q st)(h2:b=false→ZL y Q st):ZL (if b=true then x else y) Q st:=by
 cases b with
 |true=>rw[if_pos rfl];exact h1 rfl
 |false=>rw[if_neg Fr];exact h2 rfl
def wpS_binary{st:SortSt}{n ok:Nat}{Q:Bool→SortSt→Prop}(C:QC a₀)(hn:lo+n≤a₀.size)(hok:ok≤n)(B:Z0 st)(u:YY TL lo (lo+ok))(h:∀a9,Z0 a9→YY Sf lo (lo+n)→Q true a9):ZL (binarySort' lo n ok) Q st:=by
 rw[binarySort'_eq];refine wpS_bind (wpS_mono (wpS_forRange (I:=λk c a9=>Aj3 (c=(none,())) (Z0 a9) (YY Sf lo (lo+min k n))) (Q:=λc a9=>Aj3 (c=(none,())) (Z0 a9) (YY Sf lo (lo+n))) ?step ?fin ?init) ?post)
 case post=>rintro c a9 ⟨rfl,B',u'⟩;exact wpS_pure (h a9 B' u')
 case init=>
  refine⟨rfl,B,λi j h1 h2 h3=>?_⟩;by_cases z:ok=0
  ·exact Up.one (lo:=lo) i j h1 h2 Fs
  exact u i j h1 h2 Fs
 case fin=>rintro c a9 ⟨e,B',u'⟩;exact⟨e,B',λi j h1 h2 h3=>u' i j h1 h2 Fs⟩
 case step=>
  rintro k c a9 hak iA ⟨rfl,B',u'⟩;rw[show min k n=k by lia]at u';refine wpS_bind (wpS_mono (wpS_forRange
   (I:=λx c aQ=>Aj2 (aQ=a9) (Ex2 λl r=>Aj6 (c=(none,l,r)) (l≤r) (r≤k) (r-l≤k-x) (∀i,i<l→O.kle (PF (lo+i)) (PF (lo+k))) (∀i,r≤i→i<k→O.klt (PF (lo+k)) (PF (lo+i)))))
   (Q:=λc aQ=>Aj2 (aQ=a9) (Ex1 λl=>Aj4 (c=(none,l,l)) (l≤k) (∀i,i<l→O.kle (PF (lo+i)) (PF (lo+k))) (∀i,l≤i→i<k→O.klt (PF (lo+k)) (PF (lo+i))))) ?is ?if_ ?ii) ?ip)
  case ii=>exact⟨rfl,0,k,rfl,by exact Zo _,by exact Qh _,by exact Qh _,λi hi=>by lia,λi g1 g2=>by lia⟩
  case if_=>
   rintro c aQ ⟨rfl,l,r,rfl,b1,b2,b3,b4,b5⟩;have:l=r:=by lia
   subst this;exact⟨rfl,l,rfl,b2,b4,b5⟩
  case is=>
   rintro x c aQ _ hx ⟨rfl,l,r,rfl,b1,b2,b3,b4,b5⟩;dsimp only;by_cases ge:l≥r
   ·rw[HK ge];have:l=r:=by exact Kz ‹_› ‹_›
    subst this;exact wpS_pure ⟨rfl,l,rfl,b2,b4,b5⟩
   rw[Rb ge];refine wpS_bind (DL B' GK Fs ?_);cases e:O.blt (ZP IS (lo+k)) (ZP IS (lo+(l+r)/2)) with
   |true=>exact wpS_pure ⟨rfl,l,(l+r)/2,rfl,Fs,Fs,Fs,b4,λi g1 g2=>KeyOrd.klt_of_klt_of_kle (show Vz _ from e) (u' _ _ (by exact XT _) Fs Fs)⟩
   |false=>exact wpS_pure ⟨rfl,(l+r)/2+1,r,rfl,Fs,by assumption,Fs,λi g1=>Wf (u' (lo+i) (lo+(l+r)/2) (by exact XT _) Fs Fs) (show DJ _ from e),b5⟩
  case ip=>
   rintro c aQ ⟨rfl,l,rfl,b2,b4,b5⟩;show NN (do moveDown' (lo+k) (lo+l);pure (HU (none,()))) _ _;rw[moveDown'_eq];have hb:=B'.bubble (src:=lo+k) (d:=lo+k-(lo+l)) GK Fs;refine wpS_bind (OI (wpS_pure ⟨rfl,hb,?_⟩));rw[show min (k+1) n=k+1 by lia];have hk:lo+k<(Gu aQ).size:=by rw[B'.size];exact zar2 ‹_› ‹_›
   intro i j h1 h2 h3;show O.kle (ZP (Vf (lo+k) (lo+k-(lo+l))) i) (ZP (Vf (lo+k) (lo+k-(lo+l))) j);rw[gk_bubble hk Fs,gk_bubble hk Fs,show lo+k-(lo+k-(lo+l))=lo+l by lia];have lo_:∀t,lo≤t→t<lo+l→O.kle (ZP IS t) (ZP IS (lo+k)):=λt t1 t2=>by have:=b4 (t-lo) Fs;rwa[show lo+(t-lo)=t by lia]at this
   have hi_:∀t,lo+l≤t→t<lo+k→O.kle (ZP IS (lo+k)) (ZP IS t):=λt t1 t2=>by have:=b5 (t-lo) Fs Fs;rw[show lo+(t-lo)=t by lia]at this;exact Yz this
   repeat' split
   all_goals first
    |(exfalso;lia)
    |exact Ut _
    |exact lo_ _ (by assumption) (by lia)
    |exact hi_ _ (by lia) (by lia)
    |exact u' _ _ (by lia) (by lia) (by lia)
def wpS_count{st:SortSt}{nrem:Nat}{Q:Option Nat→SortSt→Prop}(C:QC a₀)(hn:lo+nrem≤a₀.size)(h1:1≤nrem)(B:Z0 st)(h:∀m a9,Z0 a9→1≤m→m≤nrem→YY Sf lo (lo+m)→Q (He m) a9):ZL (countRun' lo nrem) Q st:=by
 have asc:∀(f:Nat→(Option EV×Nat)→UV (ForInStep (Option EV×Nat))) (a:Nat) (bd:SortSt),Z0 bd→1≤a→a≤nrem→YY LU lo (lo+a) →
   (∀x y Q',1≤y→y<nrem→(O.klt (ZP LU (lo+y)) (ZP LU (lo+y-1))→Q' (ForInStep.done (none,y)) bd)→(O.kle (ZP LU (lo+y-1)) (ZP LU (lo+y))→Q' (HU (none,y+1)) bd)→ZL (f x (none,y)) Q' bd) →
   wpS Ga A E s (forIn [a:nrem] (none,a) f) (λc a9=>a9=bd∧∃n,c=(none,n)∧a≤n∧n≤nrem∧YY LU lo (lo+n)∧(n=nrem∨O.klt (ZP LU (lo+n)) (ZP LU (lo+n-1)))) bd:=by
  intro f a bd B1 a1 a2 u1 hf;refine wpS_forRange (I:=λx c a9=>Aj3 (a9=bd) (c=(none,x)) (YY LU lo (lo+x))) ?step ?fin ⟨rfl,rfl,u1⟩
  case fin=>rintro c a9 ⟨rfl,rfl,u'⟩;rw[show max a nrem=nrem by lia]at u' ⊢;exact⟨rfl,nrem,rfl,a2,Gg,u',Hr⟩
  case step=>rintro x c a9 g1 g2 ⟨rfl,rfl,u'⟩;exact hf x x _ (by exact Zf ‹_› ‹_›) g2 (λe=>⟨rfl,x,rfl,g1,Gf,u',Ru e⟩) λe=>⟨rfl,rfl,u'.snoc (by exact Zf ‹_› ‹_›) e⟩
 rw[countRun'_eq];refine wpS_bind (wpS_mono (asc _ 1 st B Gg h1 Up.one ?_) ?_)
 ·intro x y Q' y1 y2 q1 q2;dsimp only;refine wpS_bind (DL B GK Fs ?_);cases e:O.blt (ZP TL (lo+y)) (ZP TL (lo+y-1)) with
  |true=>exact wpS_pure (q1 e)
  |false=>exact wpS_pure (q2 e)
 rintro c a9 ⟨rfl,n,rfl,n1,n2,u,bz⟩;dsimp only;by_cases d1:n=nrem
 ·rw[HK (by simp[d1])];exact wpS_pure (h n _ B n1 n2 u)
 rw[if_neg (by simp[d1])];have ad:=bz.resolve_left d1;by_cases d2:n>1
 focus
  rw[if_pos d2];refine wpS_bind (DL B GK Fs ?_);cases e:O.blt (PF lo) (PF (lo+n-1)) with
  |true=>dsimp only;rw[if_pos rfl];exact wpS_pure (h n _ B n1 n2 u)
  |false=>?_
  dsimp only;rw[if_neg Fr];have eq_:∀k,lo≤k→k<lo+n→ZP Sf k=ZP Sf (lo+n-1):=λk k1 k2=>KeyOrd.kle_antisymm (u k _ k1 Fs Fs) (Wf (show DJ _ from e) (u lo k Gg k1 k2));have B2:=B.mirror (i:=lo) (j:=lo+n) Gg Fs;have same:=gk_same (O:=O) (key:=key) (xs:=arrOf a9) (i:=lo) (j:=lo+n) (by rw[B.size];lia) eq_;refine wpS_bind (wpS_reverse ?_);have D2:Bd (XD (lo+n) ((lo+n-lo)/2)) lo (lo+n):=λi j i1 i2 i3=>by rw[same,same,eq_ j (by exact Zf ‹_› ‹_›) i3,eq_ i i1 (by exact Yo ‹_› ‹_›)];exact Ut _
  have L2:O.klt (ZP (XD (lo+n) ((lo+n-lo)/2)) (lo+n)) (ZP (XD (lo+n) ((lo+n-lo)/2)) (lo+n-1)):=by rw[same,same];exact ad
 rotate_left
 focus
  rw[if_neg d2];have en:n=1:=by lia
  subst en;have B2:=B;have D2:Bd Sf lo (lo+1):=Dn.one;have L2:=ad
 all_goals
  refine wpS_bind (EW (wpAny_rule ⟨rfl,?_⟩));have D3:=D2.snoc (by assumption) (Yz L2);refine wpS_bind (wpS_mono (wpS_forRange
   (I:=λx c aH=>Ex1 λq=>Aj7 (c=(none,x,q)) (Z0 aH) (Bd Lj lo (lo+x)) (2≤x) (x≤nrem) (q+1≤x) (∀i,lo+x-(q+1)≤i→i<lo+x→ZP Lj i=ZP Lj (lo+x-1)))
   (Q:=λc aH=>Ex2 λx q=>Aj7 (c=(none,x,q)) (Z0 aH) (Bd Lj lo (lo+x)) (2≤x) (x≤nrem) (q+1≤x) (∀i,lo+x-(q+1)≤i→i<lo+x→ZP Lj i=ZP Lj (lo+x-1)))
   ?step ?fin ⟨0,rfl,B2,D3,Fs,Fs,Fs,λi i1 i2=>by congr 1;lia⟩) ?post)
  case fin=>rintro c aH ⟨q,rfl,b1,b2,b3,b4,b5,b6⟩;exact⟨_,q,rfl,b1,b2,b3,b4,b5,b6⟩
  case step=>
   rintro x c aH x1 x2 ⟨q,rfl,b1,b2,b3,b4,b5,b6⟩;dsimp only;refine wpS_bind (DL b1 GK Fs ?_);cases e1:O.blt (ZP Lj (lo+x)) (ZP Lj (lo+x-1)) with
   | true=>
    dsimp only;rw[if_pos rfl];by_cases q0:q>0
    ·rw[HK q0];refine wpS_bind (wpS_reverse (wpS_pure ?_));have sm:=gk_same (O:=O) (key:=key) (xs:=arrOf aH) (i:=lo+x-(q+1)) (j:=lo+x) (by rw[b1.size];lia) b6;refine⟨0,rfl,b1.mirror Fs Fs,?_,by exact zh5 ‹_›,by assumption,by exact K2 _,λi i1 i2=>by congr 1;lia⟩;refine Dn.snoc (λi j i1 i2 i3=>?_) Gf ?_
     ·show Dd (ZP (Y4 _) _);rw[sm,sm];exact b2 i j i1 i2 i3
     show Dd (ZP (Y4 _) _);rw[sm,sm];exact Yz (show Vz _ from e1)
    rw[Rb q0];exact wpS_pure ⟨0,rfl,b1,b2.snoc Gf (Yz (show Vz _ from e1)),by exact zh5 ‹_›,by assumption,by exact K2 _,λi i1 i2=>by congr 1;lia⟩
   | false=>
    dsimp only;rw[if_neg Fr];refine wpS_bind (DL b1 Fs GK ?_);cases e2:O.blt (ZP Lj (lo+x-1)) (ZP Lj (lo+x)) with
    |true=>dsimp only;rw[if_pos rfl];exact wpS_pure ⟨x,q,rfl,b1,b2,b3,b4,b5,b6⟩
    |false=>
     dsimp only;rw[if_neg Fr];have eqx:=NO e1 e2;refine wpS_pure ⟨q+1,rfl,b1,b2.snoc Gf (by rw[eqx];exact Ut _),by exact zh5 ‹_›,by assumption,by exact zar4 ‹_›,λi i1 i2=>?_⟩;rw[show lo+(x+1)-1=lo+x by lia];by_cases ix:i=lo+x
     ·rw[ix]
     rw[eqx];exact b6 i Fs Fs
  case post=>
   rintro c aH ⟨x,q,rfl,b1,b2,b3,b4,b5,b6⟩;dsimp only;have sm:=gk_same (O:=O) (key:=key) (xs:=arrOf aH) (i:=lo+x-(q+1)) (j:=lo+x) (by rw[b1.size];lia) b6;by_cases q0:q>0
   focus
    rw[if_pos q0];refine wpS_bind (wpS_reverse ?_);have B5:=b1.mirror (i:=lo+x-(q+1)) (j:=lo+x) Fs Fs;have D5:Bd (PyProof.Rows.mirror Lj (lo+x-(q+1)) (lo+x) ((lo+x-(lo+x-(q+1)))/2)) lo (lo+x):=λi j i1 i2 i3=>by rw[sm,sm];exact b2 i j i1 i2 i3
   rotate_left
   focus
    rw[if_neg q0];have B5:=b1;have D5:=b2
   all_goals
    refine wpS_bind (wpS_reverse ?_);have B6:=B5.mirror (i:=lo) (j:=lo+x) Gg Fs;have U6:=D5.turn (Zf (show lo+x≤a₀.size by lia) (Nat.le_of_eq B5.size.symm));refine wpS_bind (wpS_mono (asc _ x _ B6 Gf b4 U6 ?_) ?_)
    ·intro z y Q' y1 y2 q1 q2;dsimp only;refine wpS_bind (DL B6 GK Fs ?_);show NN (if _=true then _ else _) _ _;exact wpS_ite (λe=>wpS_pure (q1 e)) λe=>wpS_pure (q2 e)
    rintro c st6 ⟨rfl,m,rfl,m1,m2,um,_⟩;exact wpS_pure (h m _ B6 Fs m2 um)
def PR:List (Nat×Nat×Nat)→Nat→List HZ→Prop
 |[],_,[]=>True
 |q::ps,off,g::gs=>q.1=off∧q.2.1=g.length∧PR ps (off+g.length) gs
 |_,_,_=>False
theorem PR.split:∀{d7 dH:List (Nat×Nat×Nat)} {off:Nat} {gs:List HZ},PR (d7++dH) off gs→∃g1 g2,gs=g1++g2∧g1.length=d7.length∧PR d7 off g1∧PR dH (off+g1.flatten.length) g2
 |[],_,off,gs,h=>⟨[],gs,rfl,rfl,trivial,Fv h⟩
 |q::d7,dH,off,[],h=>False.elim h
 |q::d7,dH,off,g::gs,⟨h1,h2,h3⟩=>by obtain⟨g1,g2,e,l,p1,p2⟩:=PR.split h3;refine⟨g::g1,g2,by rw[e];rfl,by simp[l],⟨h1,h2,p1⟩,?_⟩;rw[Yl,Qk,←Xv];exact p2
theorem PR.join:∀{d7 dH:List (Nat×Nat×Nat)} {off:Nat} {g1 g2:List HZ},PR d7 off g1→PR dH (off+g1.flatten.length) g2→PR (d7++dH) off (g1++g2)
 |[],_,_,[],_,_,h=>by simpa using h
 |[],_,_,_::_,_,h,_=>False.elim h
 |_::_,_,_,[],_,h,_=>False.elim h
 |q::d7,dH,off,g::g1,g2,⟨h1,h2,h3⟩,h=>⟨h1,h2,PR.join h3 (by rw[Yl,Qk,←Xv]at h;exact h)⟩
theorem PR.len:∀{ps:List (Nat×Nat×Nat)} {off:Nat} {gs:List HZ},PR ps off gs→ps.length=gs.length
 |[],_,[],_=>rfl
 |[],_,_::_,h=>False.elim h
 |_::_,_,[],h=>False.elim h
 |_::ps,_,_::gs,⟨_,_,h⟩=>by simp[PR.len h]
def mid_at{arr:Array Keyed}{F M S:List Keyed}(e:arr.toList=F++(M++S)){j:Nat}(hj:j<M.length):arr[F.length+j]?=some M[j]:=by
 have:arr[F.length+j]?=arr.toList[F.length+j]?:=by simp
 rw[this,e,Uy (by exact XT _),show F.length+j-F.length=j by lia,Xl hj];simp
def mid_ext{arr:Array Keyed}{F M S:List Keyed}(e:arr.toList=F++(M++S)){i j:Nat}(hi:i≤j)(hj:j≤M.length):(arr.extract (F.length+i) (F.length+j)).toList=(M.drop i).take (j-i):=by
 have e1:(arr.extract (F.length+i) (F.length+j)).toList=(arr.toList.drop (F.length+i)).take (F.length+j-(F.length+i)):=by simp
 rw[e1,e,←List.drop_drop,List.drop_left,List.drop_append_of_le_length (by exact Zf ‹_› ‹_›),show F.length+j-(F.length+i)=j-i by lia];rw[Ku (Gp Yu)]
theorem put_back{sa:Nat}:∀(l:List Keyed) (n:Nat) (arr:Array Keyed) (F M S:List Keyed),arr.toList=F++(M++S)→F.length=sa+n→M.length=l.length →
  ((l.zipIdx n).foldl (λ(a:Array Keyed) (q:Keyed×Nat)=>a.setIfInBounds (sa+q.2) q.1) arr).toList=F++(l++S)
 |[],n,arr,F,M,S,e,_,hl=>by have:M=[]:=Kl.mp (Fv hl);rw[this]at e;simpa using e
 |p::l,n,arr,F,[],S,e,_,hl=>by simp at hl
 |p::l,n,arr,F,m::M,S,e,hf,hl=>by
  rw[List.zipIdx_cons,Xb];have e2:(arr.setIfInBounds (sa+n) p).toList=(F++[p])++(M++S):=by rw[Array.toList_setIfInBounds,e,←hf,Mm Gg,Nat.sub_self];simp
  have:=put_back (sa:=sa) l (n+1) _ (F++[p]) M S e2 (by rw[Qk];simp;lia) (Fv hl);rw[this];simp
structure Rn(kd:SortKind)(O:KeyOrd)(key:Keyed→O.α)(a₀:Array Keyed)(gs:List (List Keyed))(rest:List Keyed)(st:SortSt):Prop where
 kind:kindOf st=kd
 failed:failedOf st=none
 perm:(Gu st).Perm a₀
 arr:(Gu st).toList=gs.flatten++rest
 pend:PR (Ha st).toList 0 gs
 srt:∀g∈gs,g.Pairwise Rk∧g≠[]
def Rn.of{gs:List HZ}{rest:List Keyed}{st:SortSt}(R:T9):BN TL:=λi p e=>by
 refine(Uc.mp R.perm).mem_iff.mp ?_;have:(Gu st).toList[i]?=some p:=by simpa using e
 exact Wi this
def pw_get{M:List Keyed}(p:M.Pairwise Rk){i j:Nat}(fm:i≤j)(hj:j<M.length):Z' (M[i]'(Yo fm hj)) M[j]:=by
 rcases Kd i j with h|h
 ·exact Jd.mp p i j (Yo fm hj) hj h
 have e:i=j:=by exact Kz ‹_› ‹_›
 subst e;exact Ut _
def wpS_set{Q:PUnit→SortSt→Prop}{st a9:SortSt}(h:Q ⟨⟩ a9):ZL (set a9:UV PUnit) Q st:=by unfold wpS;rw[StateT.run_set];exact wpAny_pure ⟨rfl,h⟩
def zf6{i:Nat}{gs:List HZ}{rest:List Keyed}{Q:Bool→SortSt→Prop}{st:SortSt}(C:QC a₀)(R:T9)(hi:i+1 < (Ha st).size)(h:∀aw a9,Z2 aw rest a9→aw.length+1=gs.length→aw.flatten.length=gs.flatten.length→Q true a9):ZL (mergeAt' i) Q st:=by
 obtain⟨d7,q1,q2,dH,hp,hl⟩:∃d7 q1 q2 dH,(Ha st).toList=d7++q1::q2::dH∧d7.length=i:=by
  have h1:i<(Ha st).toList.length:=by simp;exact Zw ‹_›
  have h2:i+1<(Ha st).toList.length:=by simp;assumption
  refine⟨(Ha st).toList.take i,(Ha st).toList[i],(Ha st).toList[i+1],(Ha st).toList.drop (i+2),?_,Gp Ze⟩;rw[←Zz h2,←Zz h1,Zq]
 have pr:=R.pend;rw[hp]at pr;obtain⟨g1,gt,rfl,hg1,pr1,r8⟩:=pr.split;obtain _|⟨RA,_|⟨RB,g2⟩⟩:=gt
 ·exact False.elim r8
 ·exact False.elim r8.2.2
 obtain⟨sa,na,pw⟩:=q1;obtain⟨sb,nb,pw2⟩:=q2;obtain⟨e1,e2,e3,e4,r6⟩:=r8;simp only[Kc]at e1 e2 e3 e4 r6;subst e1 e2 e3 e4;have x1:(Ha st)[i]?=some (g1.flatten.length,RA.length,pw):=by
  have:(Ha st)[i]?=(Ha st).toList[i]?:=by simp
  rw[this,hp,←hl];simp
 have x2:(Ha st)[i+1]?=some (g1.flatten.length+RA.length,RB.length,pw2):=by
  have:(Ha st)[i+1]?=(Ha st).toList[i+1]?:=by simp
  rw[this,hp,←hl];simp
 have sA:=R.srt RA Fr;have sB:=R.srt RB Fr;have hA:0<RA.length:=Uf.mpr sA.2;have hB:0<RB.length:=Uf.mpr sB.2;have arr:(Gu st).toList=g1.flatten++((RA++RB)++(g2.flatten++rest)):=by rw[R.arr];simp
 generalize hF:g1.flatten=F at x1 x2 arr r6 hp;have hsz:F.length+(RA.length+RB.length)≤(Gu st).size:=by have:=congrArg List.length arr;simp only[Qk,Yb]at this;lia
 have at_:∀j (hj:j<(RA++RB).length),(Gu st)[F.length+j]?=some (RA++RB)[j]:=λj hj=>mid_at arr hj;have atA:∀j (hj:j<RA.length),(Gu st)[F.length+j]?=some RA[j]:=λj hj=>by rw[at_ j (Gp Qk),List.getElem_append_left hj]
 have atB:∀j (hj:j<RB.length),(Gu st)[F.length+RA.length+j]?=some RB[j]:=λj hj=>by rw[Xv,at_ (RA.length+j) (Gp Qk),List.getElem_append_right (by exact XT _)];simp
 have memA:∀j (hj:j<RA.length),RA[j]∈a₀.toList:=λj hj=>R.of _ _ (atA j hj);have memB:∀j (hj:j<RB.length),RB[j]∈a₀.toList:=λj hj=>R.of _ _ (atB j hj);have fin:∀(M:List Keyed) (a9:SortSt),M.Perm (RA++RB)→M.Pairwise Rk→kindOf a9=kd→failedOf a9=none→(Gu a9).toList=F++(M++(g2.flatten++rest)) →
   pendingOf a9=((Ha st).setIfInBounds i (F.length,RA.length+RB.length,pw)).eraseIdxIfInBounds Gr→Q true a9:=by
  intro M a9 m1 m2 m3 m4 m5 m6;have ml:=m1.length_eq;rw[Qk]at ml;refine h (g1++M::g2) a9 ⟨m3,m4,?_,?_,?_,λg hg=>?_⟩ (by simp;lia) ?_
  ·refine Uc.mpr (List.Perm.trans ?_ (Uc.mp R.perm));rw[m5,arr];exact Jb F (Mx m1)
  ·rw[m5,←hF];simp
  ·have e:(Ha a9).toList=d7++(F.length,RA.length+RB.length,pw)::dH:=by
    rw[m6];have e1:((Ha st).setIfInBounds i (F.length,RA.length+RB.length,pw)).toList=d7++(F.length,RA.length+RB.length,pw)::(F.length+RA.length,RB.length,pw2)::dH:=by rw[Array.toList_setIfInBounds,hp,←hl,Mm Gg,Nat.sub_self];rfl
    rw[Array.toList_eraseIdxIfInBounds,e1,←hl,List.eraseIdx_append_of_length_le (by exact XT _)];simp
   rw[e];refine pr1.join ⟨by rw[Kc,hF],by rw[←ml],?_⟩;rw[Kc,hF,ml,←Xv];exact r6
  ·rcases Qg.mp hg with z|z
   ·exact R.srt g (Y5 z)
   rcases Qi.mp z with z|z
   ·rw[z];exact⟨m2,λq=>by rw[q]at ml;simp at ml;lia⟩
   exact R.srt g (by simp[z])
  simp only[Ww,Yl,Qk];lia
 have gkA:∀j (hj:j<RA.length),ZP TL (F.length+j)=key RA[j]:=λj hj=>zfl (atA j hj);have gkB:∀j (hj:j<RB.length),ZP TL (F.length+RA.length+j)=key RB[j]:=λj hj=>zfl (atB j hj);unfold mergeAt';refine wpS_bind (wpS_get ?_);rw[x1,x2];dsimp only;refine wpS_bind (wpS_set ?_);refine wpS_bind (za3 (by have:=atB 0 hB;rwa[Nat.add_zero]at this) ?_);refine wpS_bind (DM (memB 0 hB) (Zf (show F.length+RA.length≤F.length+(RA.length+RB.length) by lia) hsz) hA ?_ λk k1 k2 k3=>?_)
 ·intro x y xy hy;unfold za8;rw[gkA x (by exact Yo ‹_› ‹_›),gkA y hy];simp only[Wq,if_false,Ym];exact λe=>Wf (pw_get sA.1 xy hy) (show DJ _ from e)
 have k2':∀j (hj:j<k) (cq:j<RA.length),Z' RA[j] RB[0]:=λj hj cq=>by have:=k2 j hj;unfold za8 at this;rw[gkA j cq]at this;simp only[Wq,if_false,Ym]at this;exact this
 have k3':∀j (hj:k≤j) (cq:j<RA.length),O.klt (key RB[0]) (key RA[j]):=λj hj cq=>by have:=k3 j hj cq;unfold za8 at this;rw[gkA j cq]at this;simp only[Wq,if_false,Jv]at this;exact this
 dsimp only;have B0:∀y∈RB,Z' RB[0] y:=λy hy=>by obtain⟨j,hj,e⟩:=Zg hy;rw[←e];exact pw_get sB.1 Sv hj
 by_cases c1:RA.length-k=0
 ·rw[HK (by simp[c1])];refine wpS_pure (fin (RA++RB) _ EZ (Zv.mpr ⟨sA.1,sB.1,λx hx y hy=>?_⟩) R.kind R.failed arr rfl);obtain⟨j,hj,e⟩:=Zg hx;rw[←e];exact zbp (k2' j Fs hj) (B0 y hy)
 rw[if_neg (by simp[c1])];have cJ:F.length+k+(RA.length-k)-1=F.length+(RA.length-1):=by lia
 have lA:RA.length-1<RA.length:=by exact zar1 ‹_›
 refine wpS_bind (za3 (by rw[cJ];exact atA _ lA) ?_);refine wpS_bind (DM (memA _ lA) (Zf (show F.length+RA.length+RB.length≤F.length+(RA.length+RB.length) by lia) hsz) Gk ?_ λm n1 n2 n3=>?_)
 ·intro x y xy hy;unfold za8;rw[gkB x (by exact Yo ‹_› ‹_›),gkB y hy];simp only[if_true];exact λe=>Ky (pw_get sB.1 xy hy) (show Vz _ from e)
 have n2':∀j (hj:j<m) (cq:j<RB.length),O.klt (key RB[j]) (key RA[RA.length-1]):=λj hj cq=>by have:=n2 j hj;unfold za8 at this;rw[gkB j cq]at this;simp only[if_true]at this;exact this
 have n3':∀j (hj:m≤j) (cq:j<RB.length),Z' RA[RA.length-1] RB[j]:=λj hj cq=>by have:=n3 j hj cq;unfold za8 at this;rw[gkB j cq]at this;simp only[if_true]at this;exact this
 have AL:∀x∈RA,Z' x RA[RA.length-1]:=λx hx=>by obtain⟨j,hj,e⟩:=Zg hx;rw[←e];exact pw_get sA.1 Fs lA
 dsimp only;by_cases c2:m=0
 ·rw[HK (by simp[c2])];refine wpS_pure (fin (RA++RB) _ EZ (Zv.mpr ⟨sA.1,sB.1,λx hx y hy=>?_⟩) R.kind R.failed arr rfl);obtain⟨j,hj,e⟩:=Zg hy;rw[←e];exact zbp (AL x hx) (n3' j Fs hj)
 rw[if_neg (by simp[c2])];have eX:((Gu st).extract (F.length+k) (F.length+RA.length)).toList=RA.drop k:=by rw[mid_ext arr (by assumption) (by rw[Qk];exact XT _),List.drop_append_of_le_length (by assumption),Ku (by rw[Yu];exact Qh _)];exact Qm (by rw[Yu];exact Qh _)
 have eY:((Gu st).extract (F.length+RA.length) (F.length+RA.length+m)).toList=RB.take m:=by rw[Xv,mid_ext arr (by exact XT _) (Gp Qk),List.drop_left,show RA.length+m-RA.length=m by lia]
 generalize hX:(Gu st).extract (F.length+k) (F.length+RA.length)=Xs at eX;generalize hY:(Gu st).extract (F.length+RA.length) (F.length+RA.length+m)=Ys at eY;have lX:Xs.size=RA.length-k:=by rw[←Yb,eX,Yu]
 have lY:Ys.size=m:=by rw[←Yb,eY,Ze];lia
 have gX:∀j (hj:j<Xs.size),Xs[j]=RA[k+j]'(by lia):=λj hj=>by
  have:Xs.toList[j]?=some (RA[k+j]'(by lia)):=by rw[eX,List.getElem?_drop];exact Qb Fs
  have e2:Xs.toList[j]?=some Xs[j]:=by simp[hj]
  rw[e2]at this;exact Qq this
 have gY:∀j (hj:j<Ys.size),Ys[j]=RB[j]'(by lia):=λj hj=>by
  have:Ys.toList[j]?=some (RB[j]'(by lia)):=by rw[eY,List.getElem?_take_of_lt (by exact zar7 ‹_› ‹_›)];exact Qb Fs
  have e2:Ys.toList[j]?=some Ys[j]:=by simp[hj]
  rw[e2]at this;exact Qq this
 have oX:BN Xs:=λj q e=>by
  have hj:j<Xs.size:=by
   rcases Kd j Xs.size with z|z
   ·exact z
   rw[getElem?_neg Xs j Fs]at e;cases e
  rw[getElem?_pos Xs j hj]at e;rw[←Qq e,gX j hj];exact memA _ _
 have oY:BN Ys:=λj q e=>by
  have hj:j<Ys.size:=by
   rcases Kd j Ys.size with z|z
   ·exact z
   rw[getElem?_neg Ys j Fs]at e;cases e
  rw[getElem?_pos Ys j hj]at e;rw[←Qq e,gY j hj];exact memB _ _
 have pX:Xs.toList.Pairwise Rk:=by rw[eX];exact sA.1.sublist (Xq _ _)
 have pY:Ys.toList.Pairwise Rk:=by rw[eY];exact sB.1.sublist Og
 have zX:0<Xs.size:=by lia
 have zY:0<Ys.size:=by lia
 have first:O.klt (key Ys[0]) (key Xs[0]):=by rw[gY 0 zY,gX 0 zX];exact k3' _ (by exact Qh _) _
 have lastX:Xs[Xs.size-1]=RA[RA.length-1]:=by rw[gX (Xs.size-1) Gk];congr 1;lia
 have lst:∀y∈Ys.toList,Z' y Xs[Xs.size-1]:=λy hy=>by rw[lastX];rw[eY]at hy;obtain⟨j,hj,e⟩:=Zg hy;rw[Ze]at hj;rw[←e,Jj];exact Yz (n2' j Fs Fs)
 have done:∀ (res:Array Keyed) (a9:SortSt),Q7 (Xs.toList++Ys.toList) res.toList→SG (KK (((Ha st).setIfInBounds i (F.length,RA.length+RB.length,pw)).eraseIdxIfInBounds Gr) (gallopOf st) (Ol st)) a9 →
   wpS Ga A E s (do
    modify λz=>SortSt.mk' (kindOf z) (res.toList.zipIdx.foldl (λ(a:Array Keyed) (q:Keyed×Nat)=>a.setIfInBounds (F.length+k+q.2) q.1) (Gu z)) (Ha z) (gallopOf z) (Ol z)
    let z ←get
    pure (Ol z).isNone) Q a9:=by
  intro res a9 mg ⟨g,est⟩;subst est;refine wpS_bind (OI (EY (wpS_get ?_)));have nY:failedOf st=none:=R.failed;show NN (pure (Ol st).isNone) _ _;rw[nY];rw[eX,eY]at mg;have perm2:(RA.take k++(res.toList++RB.drop m)).Perm (RA++RB):=by
   have e1:RA++RB=RA.take k++((RA.drop k++RB.take m)++RB.drop m):=by rw[Zc (RA.drop k),Zq,←Zc,Zq]
   rw[e1];exact Jb _ (Mx mg.1)
  have memR:∀x∈res.toList,x∈RA.drop k∨x∈RB.take m:=λx hx=>Qg.mp (mg.1.mem_iff.mp hx);have sorted2:(RA.take k++(res.toList++RB.drop m)).Pairwise Rk:=by
   refine Zv.mpr ⟨sA.1.sublist Og,Zv.mpr ⟨mg.2,sB.1.sublist (Xq _ _),λx hx y hy=>?_⟩,λx hx y hy=>?_⟩
   ·rcases memR x hx with z|z
    ·obtain⟨j,hj,e⟩:=Zg hy;rw[Yu]at hj;rw[←e,List.getElem_drop];exact zbp (AL x (Wp z)) (n3' _ (by exact XT _) Fs)
    have:=sB.1;rw[←Zq m RB]at this;exact(Zv.mp this).2.2 x z y hy
   have xle:Z' x RB[0]:=by obtain⟨j,hj,e⟩:=Zg hx;rw[Ze]at hj;rw[←e,Jj];exact k2' j Fs Fs
   rcases Qg.mp hy with z|z
   ·rcases memR y z with z|z
    ·have:=sA.1;rw[←Zq k RA]at this;exact(Zv.mp this).2.2 x hx y z
    exact zbp xle (B0 y (Wh z))
   exact zbp xle (B0 y (Wp z))
  refine wpS_pure (fin _ _ perm2 sorted2 R.kind rfl ?_ rfl);have uv:(Gu st).toList=(F++RA.take k)++((RA.drop k++RB.take m)++(RB.drop m++(g2.flatten++rest))):=by
   rw[arr];have e1:RA++RB=RA.take k++((RA.drop k++RB.take m)++RB.drop m):=by rw[Zc (RA.drop k),Zq,←Zc,Zq]
   rw[e1];simp only[Zc]
  have lr:=mg.1.length_eq;have pb:=put_back (sa:=F.length+k) res.toList 0 TL _ _ _ uv (by rw[Qk,Ze];lia) lr.symm;refine Eq.trans pb ?_;simp only[Zc]
 by_cases c3:RA.length-k≤m
 ·rw[HK c3];exact wpS_bind (wpS_mergeLo C R.kind oX oY pX pY zX zY first lst done)
 rw[Rb c3];exact wpS_bind (wpS_mergeHi C R.kind oX oY pX pY zX zY first lst done)
theorem PR.congr:∀{ps iJ:List (Nat×Nat×Nat)} {off:Nat} {gs:List HZ},(ps.map λq=>(q.1,q.2.1))=(iJ.map λq=>(q.1,q.2.1))→PR ps off gs→PR iJ off gs
 |[],[],_,_,_,h=>h
 |[],_::_,_,_,e,_=>by simp at e
 |_::_,[],_,_,e,_=>by simp at e
 |q::ps,q'::iJ,off,[],e,h=>False.elim h
 |q::ps,q'::iJ,off,g::gs,e,⟨h1,h2,h3⟩=>by rw[Qo,Qo]at e;obtain⟨e1,e2⟩:=List.cons.inj e;have e3:=congrArg Prod.fst e1;have e4:=congrArg Prod.snd e1;exact⟨e3.symm.trans h1,e4.symm.trans h2,PR.congr e2 h3⟩
def flat_ge{gs:List HZ}(h:∀g∈gs,g≠[]):gs.length≤gs.flatten.length:=by
 induction gs with
 |nil=>simp
 |cons g gs ih=>have h1:0<g.length:=Uf.mpr (h g Qc);have h2:=ih λg hg=>h g (QM hg);rw[Yl,Qk,Za];lia
def Rn.size{gs:List HZ}{rest:List Keyed}{st:SortSt}(R:T9):gs.flatten.length+rest.length=a₀.size:=by have e:=congrArg List.length R.arr;rw[Qk,Yb,R.perm.size_eq]at e;exact e.symm
def Rn.psize{gs:List HZ}{rest:List Keyed}{st:SortSt}(R:T9):(Ha st).size=gs.length:=by have e:=R.pend.len;rwa[Yb]at e
def Rn.found{gs:List HZ}{rest:List Keyed}{st a9:SortSt}{n:Nat}(R:T9)(B:Bs kd a₀ (Ha st) gs.flatten.length TL a9)(u:YY Sf gs.flatten.length (gs.flatten.length+n))(hn:n≤rest.length) :
  ∃G r,G.length=n∧G.Pairwise Rk∧Z2 gs (G++r) a9:=by
 have sz:(Gu a9).size=(Gu st).size:=by rw[B.size,R.perm.size_eq]
 have hz:=R.size;have e1:(Gu a9).toList.take gs.flatten.length=gs.flatten:=by
  have:(Gu a9).toList.take gs.flatten.length=(Gu st).toList.take gs.flatten.length:=by
   apply List.ext_getElem?;intro k;rw[List.getElem?_take,List.getElem?_take];split
   next hk=>have:=B.head k hk;simpa using this
   next=>rfl
  rw[this,R.arr,List.take_left]
 refine⟨((Gu a9).toList.drop gs.flatten.length).take n,((Gu a9).toList.drop gs.flatten.length).drop n,?_,?_,⟨B.kind,B.failed,B.perm,?_,by rw[B.pend];exact R.pend,R.srt⟩⟩
 ·rw[Ze,Yu,Yb,B.size];lia
 ·refine Jd.mpr λi j hi hj fm=>?_;rw[Ze,Yu,Yb,B.size]at hi hj;rw[Jj,Jj,List.getElem_drop,List.getElem_drop];have:=u (gs.flatten.length+i) (gs.flatten.length+j) (by exact XT _) Fs Fs;rw[gk_at (by rw[B.size];lia),gk_at (by rw[B.size];lia)]at this;rw[Kx,Kx];exact this
 rw[Zq]
 conv=>lhs;rw[←Zq gs.flatten.length (Gu a9).toList,e1]
def map_mod(f:Nat×Nat×Nat→Nat×Nat×Nat)(hf:∀q,((f q).1,(f q).2.1)=(q.1,q.2.1))(l:Se (Nat×Nat×Nat))(i:Nat):((l.modify i f).map λq=>(q.1,q.2.1))=l.map λq=>(q.1,q.2.1):=by
 apply List.ext_getElem?;intro k;rw[Qt,Qt,List.getElem?_modify];cases l[k]? with
 |none=>simp
 |some q=>
  by_cases e:i=k
  ·simp[e];exact Prod.mk.inj (hf q)
  simp[e]
def Rn.mod{gs:List HZ}{rest:List Keyed}{st:SortSt}(R:T9)(i:Nat)(f:Nat×Nat×Nat→Nat×Nat×Nat)(hf:∀q,((f q).1,(f q).2.1)=(q.1,q.2.1)):Z2 gs rest (setPending st ((Ha st).modify i f)):=
 ⟨R.kind,R.failed,R.perm,R.arr,by show PR ((Ha st).modify i f).toList 0 gs;rw[Array.toList_modify];exact R.pend.congr (map_mod f hf _ i).symm,R.srt⟩
def wpS_sortAll{st:SortSt}{Q:Unit→SortSt→Prop}(C:QC a₀)(hk:kindOf st=kd)(hf:failedOf st=none)(hp:(Gu st).Perm a₀)(eZ:pendingOf st=#[])(h:∀a9,(Gu a9).Perm a₀→failedOf a9=none→(Gu a9).toList.Pairwise Rk→Q () a9):ZL sortRuns' Q st:=by
 have R0:Z2 [] (Gu st).toList st:=⟨hk,hf,hp,Fr,by rw[eZ];trivial,λg hg=>by simp at hg⟩;rw[sortRuns'_eq];refine wpS_bind (wpS_get ?_);dsimp only;have hz:(Gu st).size=a₀.size:=hp.size_eq;rw[hz];generalize minRun' a₀.size a₀.size 0=mr;refine wpS_bind (wpS_mono (wpS_forRange
  (I:=λx c a9=>Ex2 λgs rest=>Aj3 (c=(none,gs.flatten.length)) (Z2 gs rest a9) (x≤gs.flatten.length))
  (Q:=λc a9=>Ex2 λgs rest=>Aj3 (c=(none,gs.flatten.length)) (Z2 gs rest a9) (a₀.size≤gs.flatten.length)) ?step ?fin ⟨[],_,rfl,R0,Sv⟩) ?post)
 case fin=>rintro c a9 ⟨gs,rest,rfl,R,hx⟩;exact⟨gs,rest,rfl,R,by assumption⟩
 case step=>
  rintro x c bd _ hx ⟨gs,rest,rfl,R,eO⟩;dsimp only;have hz2:=R.size;by_cases c0:gs.flatten.length≥a₀.size
  ·rw[HK c0];exact wpS_pure ⟨gs,rest,rfl,R,c0⟩
  rw[if_neg c0];have B0:Bs kd a₀ (Ha bd) gs.flatten.length LU bd:=⟨R.kind,R.failed,rfl,R.perm,FV⟩;refine wpS_bind (wpS_count C Fs Fs B0 λm aH B2 m1 m2 u2=>?_);dsimp only;by_cases c1:m<mr
  focus
   rw[if_pos c1];refine wpS_bind (EW (wpAny_rule ⟨rfl,?_⟩));refine wpS_bind (wpS_binary C Fs Fs B2 u2 λaP B3 u3=>?_);rw[if_neg Fr];obtain⟨G,r,g1,g2,R3⟩:=R.found B3 u3 Fs;have G0:1≤G.length:=by lia
  rotate_left
  focus
   rw[if_neg c1];obtain⟨G,r,g1,g2,R3⟩:=R.found B2 u2 Fs;have G0:1≤G.length:=by exact zar6 ‹_› ‹_›
  all_goals
   refine wpS_bind (wpS_get ?_);have push:∀{aw:List HZ} {bn:SortSt},Z2 aw (G++r) bn→aw.flatten.length=gs.flatten.length→Z2 (aw++[G]) r (SortSt.mk' (kindOf bn) (Gu bn) ((Ha bn).push (gs.flatten.length,G.length,0)) (gallopOf bn) (Ol bn)):=by
    intro aw bn R4 e4;refine⟨R4.kind,R4.failed,R4.perm,?_,?_,λg hg=>?_⟩
    ·have:=R4.arr;simp only[Ww,Yl,Ks,Zp,Zc];exact this
    ·show PR ((Ha bn).push _).toList 0 _;rw[Kq];exact R4.pend.join ⟨by rw[Kc,e4],rfl,trivial⟩
    rcases Qg.mp hg with z|z
    ·exact R4.srt g z
    rw[Cz];exact⟨g2,λq=>by rw[q]at G0;simp at G0⟩
   have nx:∀{aw:List HZ},aw.flatten.length=gs.flatten.length→x+1≤(aw++[G]).flatten.length∧(aw++[G]).flatten.length=gs.flatten.length+G.length:=λ{aw} e=>by simp only[Ww,Yl,Ks,Zp,Qk];lia
   rw[←g1];split
   next=>
    refine wpS_bind (wpS_mono (wpS_forRange (I:=λ_ c bn=>Aj2 (c=(none,())) (Ex1 λaw=>Aj2 (Z2 aw (G++r) bn) (aw.flatten.length=gs.flatten.length))) (Q:=λc bn=>Aj2 (c=(none,())) (Ex1 λaw=>Aj2 (Z2 aw (G++r) bn) (aw.flatten.length=gs.flatten.length))) ?istep (λ_ _ z=>z) ⟨rfl,gs,R3,rfl⟩) ?ipost)
    case istep=>
     rintro y c bn _ _ ⟨rfl,aw,R4,e4⟩;refine wpS_bind (wpS_get ?_);by_cases hs:(Ha bn).size>1
     ·rw[HK hs,getElem?_pos (Ha bn) ((Ha bn).size - 2) Fs];dsimp only;split
      ·exact wpS_pure ⟨rfl,aw,R4,e4⟩
      refine wpS_bind (zf6 C R4 Fs λue ma R5 l5 f5=>?_);rw[if_neg Fr];exact wpS_pure ⟨rfl,ue,R5,f5.trans e4⟩
     rw[Rb hs];exact wpS_pure ⟨rfl,aw,R4,e4⟩
    case ipost=>rintro c bn ⟨rfl,aw,R4,e4⟩;dsimp only;refine wpS_bind (wpS_modify (EY (OI (wpS_pure ?_))));exact⟨aw++[G],r,by rw[(nx e4).2],push (R4.mod _ _ λq=>rfl) e4,(nx e4).1⟩
   next=>refine wpS_bind (OI (wpS_pure ?_));exact⟨gs++[G],r,by rw[(nx rfl).2],push R3 rfl,(nx rfl).1⟩
 case post=>
  rintro c bd ⟨gs,rest,rfl,R,hx⟩;dsimp only;have hz2:=R.size;have er:rest=[]:=Kl.mp Fs;subst er;have cr:=flat_ge λg hg=>(R.srt g hg).2;refine wpS_bind (wpS_mono (wpS_forRange (I:=λx c bn=>Aj2 (c=(none,())) (Ex1 λaw=>Aj2 (Z2 aw [] bn) (aw.length+x≤a₀.size+1))) (Q:=λc bn=>Aj2 (c=(none,())) (Ex1 λaw=>Aj2 (Z2 aw [] bn) (aw.length≤1))) ?istep ?ifin ⟨rfl,gs,R,by rw[We]at hz2;lia⟩) ?ipost)
  case ifin=>rintro c bn ⟨rfl,aw,R4,e4⟩;exact⟨rfl,aw,R4,Fs⟩
  case istep=>
   rintro y c bn _ _ ⟨rfl,aw,R4,e4⟩;refine wpS_bind (wpS_get ?_);have lN:=R4.psize;by_cases hs:(Ha bn).size≤1
   ·rw[HK hs];exact wpS_pure ⟨rfl,aw,R4,by exact zd2 ‹_› ‹_›⟩
   rw[Rb hs];refine wpS_bind (zf6 C R4 ?_ λue ma R5 l5 f5=>?_)
   ·repeat' split
    all_goals lia
   rw[Rb Fr];exact wpS_pure ⟨rfl,ue,R5,Fs⟩
  case ipost=>
   rintro c bn ⟨rfl,aw,R4,e4⟩;refine wpS_pure (h bn R4.perm R4.failed ?_);have ea:=R4.arr;rw[Zp]at ea;obtain _|⟨g,_|⟨g',gs''⟩⟩:=aw
   ·rw[ea];exact List.Pairwise.nil
   ·rw[ea];simpa using(R4.srt g Qc).1
   simp at e4
end
section
variable{prog:Nk}{w:Nn}{A:Np}{E:Nb}{s:Ni}{kd:SortKind}{O:KeyOrd}{kv:Value→O.α}
def perm_back{l:List Keyed}{vs:Nj}(h:l.Perm (vs.map λv=>(v,v))):(Om (·.2)).Perm vs∧∀p∈l,p.1=p.2:=by
 refine⟨?_,λp hp=>?_⟩
 ·have:=h.map (·.2);rwa[Zu,show((λ(p:Keyed)=>p.2)∘λv=>(v,v))=id from rfl,List.map_id]at this
 obtain⟨v,_,e⟩:=Ql.mp (h.mem_iff.mp hp);rw[←e]
def out_of{l:List Keyed}{vs:Nj}(h:l.Perm (vs.map λv=>(v,v)))(p:l.Pairwise (le O λp=>kv p.1)):(Om (·.2)).Perm vs∧(Om (·.2)).Pairwise λx y=>MW (kv y):=by obtain⟨h1,h2⟩:=perm_back h;refine⟨h1,Uq.mpr (p.imp_of_mem λ{x y} hx hy q=>?_)⟩;rw[←h2 x hx,←h2 y hy];exact q
end
end Tim
namespace Tm
open PySem PyProof.Rows PySem.W MeetsSeq MeetsSeq2 MeetsSeq3 SeqRoads2
open AutoSeq1 (wpAny_loadPart')
section
variable{prog:Nk}{w:Nn}{A:Np}{E:Nb}{s:Ni}{R:List Value→Prop}{vs:Nj}
structure zbl(prog:Nk)(w:Nn)(A:Np)(E:Nb)(s:Ni)(R:List Value→Prop)(vs:Nj):Prop where
 few:vs.length<2→R vs
 go:2≤vs.length→∃kd:SortKind,(∀Q:SortKind→Shared→Prop,Q kd s→ZG Ac Q E s) ∧
  ∀Q:Unit→SortSt→Prop,(∀a9,(Gu a9).Perm E1→failedOf a9=none→R ((Gu a9).toList.map (·.2))→Q () a9)→ZL sortRuns' Q (SortSt.mk' kd (vs.toArray.zip vs.toArray) #[] 7 none)
def zc9(vs:Nj):(pairsOf vs).toList=vs.map λv=>(v,v):=by
 rw[pairsOf_toList];induction vs with
 |nil=>rfl
 |cons v r ih=>rw[List.zip_cons_cons,Qo,ih]
def perm_back{l:List Keyed}{vs:Nj}(h:l.Perm (vs.map λv=>(v,v))):(Om (·.2)).Perm vs:=by have:=h.map (·.2);rwa[Zu,show((λ(p:Keyed)=>p.2)∘λv=>(v,v))=id from rfl,List.map_id]at this
def zbl.ordT{O:KeyOrd}{kv:Value→O.α}(h:Hc):WQ (λws=>ws.Pairwise λx y=>MW (kv y)) vs:=by
 refine⟨λh2=>?_,λh2=>?_⟩
 ·obtain _|⟨v,_|⟨v',r⟩⟩:=vs
  ·exact List.Pairwise.nil
  ·exact Mn _
  exact absurd h2 Fr
 obtain⟨kd,a1,a2⟩:=h h2;refine⟨kd,a1,λQ q=>?_⟩;refine Tim.wpS_sortAll (kd:=kd) (O:=O) (key:=λp=>kv p.1) (a₀:=pairsOf vs) (λx y st Q' hx hy hk hq=>?_) rfl rfl Ad rfl λa9 hp hf hs=>?_
 ·rw[zc9]at hx hy;obtain⟨v,hv,rfl⟩:=Ql.mp hx;obtain⟨u,hu,rfl⟩:=Ql.mp hy;rw[lt'_eq];refine wpS_bind (wpS_get ?_);rw[hk];refine wpS_bind (EW (SU (a2 v u hv hu _ _ ⟨rfl,?_⟩)));exact wpS_pure hq
 exact q a9 hp hf (Tim.out_of (by rw[←zc9];exact Uc.mp hp) hs).2
def zbl.weak{R R':List Value→Prop}(T:WQ R vs)(h:∀l,R l→R' l):WQ R' vs:=
 ⟨λh2=>h _ (T.few h2),λh2=>let⟨kd,a,b⟩:=T.go h2;⟨kd,a,λQ q=>b Q λa9 p1 p2 r=>q a9 p1 p2 (h _ r)⟩⟩
def zbl.ord{O:KeyOrd}{kv:Value→O.α}(h:Hc):WQ (λws=>vs.length<64→ws.Pairwise λx y=>MW (kv y)) vs:=
 (zbl.ordT h).weak λ_ h _=>h
abbrev strO:KeyOrd:=strKind.toKeyOrd
def kvS(v:Value):List Nat:=(strOf v).cps.toList
def zem(hv:∀v∈vs,∃x t,v=.str x t):WQ (λws=>vs.length<64→ws.Pairwise λx y=>strO.kle (kvS x) (kvS y)) vs:=by
 refine .ord λh2=>⟨oneType',λQ q=>kas_kind (T:=.type "str") h2 (λv hm=>?_) Fw Fw q,λx y hx hy Q E' q=>?_⟩
 ·obtain⟨x,t,rfl⟩:=hv v hm;exact Looks.of_pure rfl
 obtain⟨a,t,rfl⟩:=hv x hx;obtain⟨b,u,rfl⟩:=hv y hy;rw[keyLt'_oneType];exact oneLt_str q
def sort_list{a:Nc}{n:Nat}{P:Fin→Shared→Prop}(ho:s.heap.get? a=some (seqObj "list" vs.toArray n))(hz:vs.length≤sizeLine)(hS:∀s':Shared,(∀b o,b≠a→s.heap.get? b=some o→s'.heap.get? b=some o)→YN A E s' R vs)(h:∀ws:List Value,ws.Perm vs→R ws→P (.done E2) {s with heap:=sortedHeap s.heap a vs ws.toArray}) :
  wpAny Ga A (Builtin.«list.sort» ⟨[Ht],[]⟩) P E s:=by
 have lt:a<s.heap.objs.size:=Qu ho;rw[list_sort_plain];refine wpAny_bind (listItems_at ho rfl (RH (listUpdate_at ho rfl ?_ (hsz:=by simpa using hz) (hsz2:=by simp))));obtain⟨e1,k1⟩:∃e,(s.heap.update a (Obj.mapSeq λ_=>#[])).get? a=some (seqObj "list" #[] e):=⟨_,get?_update_seq ho λ_=>#[]⟩;refine wpAny_bind (seqEpoch_at k1 rfl (Er (wpAny_newTuple (RH (wpAny_newList (wpAny_holding ?_))))));show ZG _ P E {s with heap:=((s.heap.update a (Obj.mapSeq λ_=>#[])).push (seqObj "tuple" vs.toArray 0)).push (seqObj "list" #[] 0)};generalize hg:((s.heap.update a (Obj.mapSeq λ_=>#[])).push (seqObj "tuple" vs.toArray 0)).push (seqObj "list" #[] 0)=g;have k6:g.get? a=some (seqObj "list" #[] e1):=by rw[←hg];exact QS (QS k1)
 have kk:∀b o,b≠a→s.heap.get? b=some o→g.get? b=some o:=λb o hb e=>by rw[←hg];exact QS (QS ((Yi s.heap _ IQ).trans e))
 have eh:∀out,sortedHeap s.heap a vs out=g.update a (Obj.mapSeq λ_=>out):=λout=>by rw[←hg];rfl
 have S:=hS {s with heap:=g} kk;dsimp only;have fin:∀(l:Array Keyed),l.toList.Perm (vs.map λv=>(v,v))→R (l.toList.map (·.2))→P (.done E2) {s with heap:=g.update a (Obj.mapSeq λ_=>l.map (·.2))}:=λl p1 p2=>by have:=h _ (perm_back p1) p2;rw[eh]at this;rw[show l.map (·.2)=(l.toList.map (·.2)).toArray by rw[←Array.toList_map]];exact this
 have lz:vs.toArray.size=vs.length:=Qp;have szOk:∀l:Array Keyed,l.toList.Perm (vs.map λv=>(v,v))→(Om (·.2)).size≤sizeLine+1:=λl p1=>by rw[Array.size_map,←Yb,p1.length_eq,Qa];exact zh5 ‹_›
 by_cases few:vs.toArray.size<2
 ·rw[HK few,HK few];refine wpAny_bind (wpAny_pure ?_);rw[StateT.run_pure];have pr:(pairsOf vs).toList.Perm (vs.map λv=>(v,v)):=by rw[zc9]
  refine wpAny_bind (Rp (seqEpoch_at k6 rfl (RH (listUpdate_at k6 rfl ?_ (hsz:=by simp) (hsz2:=szOk E1 pr)))));simp only[bne_self_eq_false,Wq,if_false];refine wpAny_pure (fin E1 pr ?_);rw[zc9,Zu,show((λ(p:Keyed)=>p.2)∘λv=>(v,v))=id from rfl,List.map_id];exact S.few (by rw[←lz];exact few)
 rw[Rb few,Rb few];obtain⟨kd,ask,C⟩:=S.go Fs;refine wpAny_bind (ask _ ?_);refine wpAny_bind (wpAny_mono (C (λ_ a9=>Aj3 ((Gu a9).Perm E1) (failedOf a9=none) (R ((Gu a9).toList.map (·.2)))) λa9 p1 p2 p3=>⟨p1,p2,p3⟩) ?_ λ_ _ e=>e);rintro⟨⟨⟩,a9⟩ s' ⟨rfl,p1,p2,p3⟩;have pr:(Gu a9).toList.Perm (vs.map λv=>(v,v)):=by rw[←zc9];exact Uc.mp p1
 dsimp only;refine wpAny_bind (seqEpoch_at k6 rfl (RH (listUpdate_at k6 rfl ?_ (hsz:=by simp) (hsz2:=szOk (Gu a9) pr))));rw[p2];simp only[bne_self_eq_false,Wq,if_false];exact wpAny_pure (fin _ pr p3)
def zfb{x:Value}{G:List Value→Prop}{R:List Value→List Value→Prop}{Q:Nb}(tT:∀(E':Nb) (R:List Value→Shared→Prop),(∀(g:No) (tk:Nat) (vs:Nj),Gc→s.heap.objs.size≤g.objs.size→G vs→R vs {s with heap:=g,toks:=tk})→ZI A.in1 (collect x) R E' s)(hz:∀vs,G vs→vs.length≤sizeLine)(hS:∀vs,G vs→∀(A':Around) (E':Value→Shared→Prop) (s':Shared),A'.units≤A.units+8→(∀b o,s.heap.get? b=some o→s'.heap.get? b=some o)→YN A' E' s' (R vs) vs)(h:∀(vs ws:Nj) (l:Nc) (g:No) (tk e:Nat),G vs→ws.Perm vs→R vs ws→s.heap.objs.size≤l→Gc→g.get? l=some (seqObj "list" ws.toArray e)→Q Sh {s with heap:=g,toks:=tk}) :
  wpAny Ga A (call (.builtin "sorted") [x]) Q E s:=by
 refine Calls.call_function_entry kind_sorted plain_sorted entry_sorted (args_sorted1 _) ?_;unfold Builtin.«sorted»;refine wpAny_bind (m:=checkCount "sorted" 1 1 _) (wpAny_pure (wpAny_bind (tT _ _ λg tk vs kg le hG=>?_)));have hzv:=hz vs hG;refine wpAny_bind (wpAny_newList ?_ (hsz:=hzv));have o1:(g.push (seqObj "list" vs.toArray 0)).get? g.objs.size=some (seqObj "list" vs.toArray 0):=UN rfl;show ZW _ _ _ _ {s with heap:=g.push (seqObj "list" vs.toArray 0),toks:=tk};refine wpAny_bind (wpAny_holding (wpAny_call_entry slot_list_sort ⟨_,o1,rfl⟩ entry_list_sort (sort_list (R:=R vs) o1 hzv (λs' k=>hS vs hG _ _ s' ?_ λb o e=>k b o (λz=>?_) (QS (kg b o e))) λws p1 p2=>⟨_,rfl,?_⟩) (args_list_sort _)))
 ·show A.units+1+1≤A.units+8;lia
 ·have lt:b < g.objs.size:=Qu (kg b o e);rw[z]at lt;exact absurd lt Iq
 obtain⟨e,he⟩:=sortedHeap_at (out:=ws.toArray) o1;refine wpAny_pure ⟨_,rfl,h vs ws _ _ _ e hG p1 p2 le (λb o q=>?_) he⟩;have lt:b<g.objs.size:=Qu (kg b o q);rw[sortedHeap_old PK (by rw[size_push'];exact Jf lt)];exact QS (kg b o q)
def zg7{T:String}{r d:Nc}{n:Nat}{P:Nat→Value→Prop}{OK:Heap→Prop}{R:List Value→Shared→Prop}(K:KdlSrc prog w T r d n P OK)(hh:A.handled=none)(ok:OK s.heap)(hn:n≤sizeLine)(h:∀(g:No) (tk:Nat) (aj:Array Value),Gc→s.heap.objs.size≤g.objs.size→ItemsOf P aj n→R aj.toList {s with heap:=g,toks:=tk}) :
  wpAny Ga A (collect (Fu r)) R E s:=by
 have there:=K.there _ ok;unfold collect;refine wpAny_bind (wpAny_runValue (codeAny_builtin entry_proto_collect' ?_));rw[Ud PySem.F.plain_proto_collect _];show ZW A.in1 (newList [] >>= λl=>again (.builtin "list.__iadd__" ⟨[l,Fu r],[]⟩)) _ _ s;refine wpAny_bind (wpAny_newObj_type (GG ⟨plainId_quiet PySem.F.plain_list_iadd _,codeAny_builtin entry_list_iadd' ?_⟩));rw[Ud PySem.F.plain_list_iadd _];show ZW A.in1 (Builtin.List.listExtendWith FY
  (.ref r) FY) _ _ _
 have li:(s.heap.push {cls:=.type "list",data:=.seq ([]:List Value).toArray}).get? s.heap.objs.size=some {cls:=.type "list",data:=.seq #[]}:=UN rfl;refine wpAny_mono (kdl_extend (A:=A) (s:={s with heap:=s.heap.push {cls:=.type "list",data:=.seq ([]:List Value).toArray}})
  (R:=λ(q:Result) (s':Ni)=>∃ (g:No) (tk:Nat) (aj:Array Value) (c:Nat),q=.ok (.ret FY)∧s'={ s with heap:=g,toks:=tk } ∧
   (∀b o,s.heap.get? b=some o→g.get? b=some o)∧g.get? s.heap.objs.size=some {cls:=.type "list",dict:=none,data:=.seq aj c,slots:=#[]}∧ItemsOf P aj n)
  K hh (K.keep _ _ ok λb _ o e=>QS e) s.heap.objs.size (Wd there.1) (Wd there.2) FY 0 li
  (λg tk aj c hk hS ha=>⟨g,tk,aj,c,rfl,rfl,λb o e=>hk b o Ec LY,hS,ha⟩) hn) (λfin s' x=>?_) λe s' x=>?_
 ·cases fin with
  |done f=>obtain⟨g,tk,aj,c,e,rfl,hk,hS,ha⟩:=x;cases e;show ZW A (load s.heap.objs.size >>= _) _ _ _;exact wpAny_bind Lu
  |again c1=>refine⟨x.1,codeAny_mono x.2 λq s2 y=>?_⟩;obtain⟨g,tk,aj,c,rfl,rfl,hk,hS,ha⟩:=y;show ZW A (load s.heap.objs.size >>= _) _ _ _;exact wpAny_bind Lu
 obtain⟨_,_,_,_,e',_⟩:=x;cases e'
def sorted_any{Q:Nb}(hl:s.heap.IsList l vs.toArray)(hz:vs.length≤sizeLine)(hS:∀(A':Around) (E':Value→Shared→Prop) (s':Shared),A'.units≤A.units+8→(∀b o,s.heap.get? b=some o→s'.heap.get? b=some o)→YN A' E' s' R vs)(h:∀(ws:Nj) (l:Nc) (g:No) (tk e:Nat),ws.Perm vs→R ws→s.heap.objs.size≤l→Gc→g.get? l=some (seqObj "list" ws.toArray e)→Q Sh {s with heap:=g,toks:=tk}) :
  wpAny Ga A (call (.builtin "sorted") [Sh]) Q E s:=
 zfb (G:=λus=>us=vs) (R:=λ_=>R) (λE' R' hR=>collect_list hl (hR _ _ _ (λb o e=>(VQ (Zd Ec)).trans LY) (by rw[Heap.size_update,size_push'];exact Um _) rfl) hz) (λus e=>e▸hz) (λus e=>e▸hS) λus ws l g tk e e' p1 p2=>h ws l g tk e (e'▸p1) p2
def str_ext{a b:Str}(h:a.cps.toList=b.cps.toList):a=b:=by cases a;cases b;exact congrArg _ (Array.toList_inj.mp h)
def str_ne{a b:Str}(h:¬a=b):¬a.cps.toList=b.cps.toList:=λq=>h (str_ext q)
def pairO(O P:KeyOrd):KeyOrd where
 α:=O.α×P.α
 blt a b:=O.blt a.1 b.1||(!Fg a.1&&P.blt a.2 b.2)
 irrefl a:=by rw[O.irrefl,P.irrefl];rfl
 trans a b c h1 h2:=by
  simp only[Je,Yn,Ym]at *;rcases h1 with h1|⟨n1,h1⟩
  ·rcases h2 with h2|⟨n2,h2⟩
   ·exact .inl (Fh h2)
   exact .inl (VA n2)
  rcases h2 with h2|⟨n2,h2⟩
  ·exact .inl (Ky n1 h2)
  exact .inr ⟨Wf n1 n2,P.trans _ _ _ h1 h2⟩
 negTrans a b c h:=by
  simp only[Je,Yn,Ym]at *;rcases h with h|⟨n,h⟩
  ·rcases O.negTrans _ b.1 _ h with q|q
   ·exact .inl Oh
   exact .inr Oh
  cases e1:O.blt a.1 b.1 with
  |true=>exact .inl Hr
  | false=>
   cases e2:Fg c.1 with
   |true=>exact .inr Hr
   |false=>
    have n1:Fg a.1=false:=Wf (O:=O) (a:=a.1) (b:=c.1) (c:=b.1) n e2;have n2:O.blt c.1 b.1=false:=Wf (O:=O) (a:=b.1) (b:=a.1) (c:=c.1) e1 n;rcases P.negTrans _ b.2 _ h with q|q
    ·exact .inl (Ru ⟨n1,q⟩)
    exact .inr (Ru ⟨n2,q⟩)
 total a b h1 h2:=by simp only[Bool.or_eq_false_iff,Bool.and_eq_false_iff,Jv]at *;have e1:=NO h1.1 h2.1;obtain⟨a1,a2⟩:=a;obtain⟨b1,b2⟩:=b;simp only at e1 h1 h2;subst e1;have i:=O.irrefl a1;rw[i]at h1 h2;have p1:P.blt a2 b2=false:=h1.2.elim (λz=>by cases z) id;have p2:P.blt b2 a2=false:=h2.2.elim (λz=>by cases z) id;rw[P.total _ _ p1 p2]
def zg2(h:No):Value→List Value
 | .ref a=>match h.get? a with
  |some o=>match o.data with
   |.seq xs _=>xs.toList
   |_=>[]
  |none=>[]
 |_=>[]
def zg1(e:h.get? a=some o)(d:o.data=.seq xs n):zg2 h Ht=xs.toList:=by unfold zg2;dsimp only;rw[e];dsimp only;rw[d]
def kvP(h:No)(v:Value):List Nat×List Nat:=(kvS ((zg2 h v).getD 0 .none),kvS ((zg2 h v).getD 1 .none))
def zei(h:No)(v:Value)(x:Str)(q:Value):Prop:=∃a o t n,v=.ref a∧h.get? a=some o∧o.cls=.type "tuple" ∧ o.data=.seq #[.str x t,q] n
def zei.key(p:J4 q):kvP h v=(x.cps.toList,kvS q):=by obtain⟨a,o,t,n,rfl,e,c,d⟩:=p;unfold kvP;rw[zg1 e d];rfl
end
theorem katTups(k:∀b o,h.get? b=some o→s.get? b=some o):∀(vs:Nj),(∀v∈vs,∃x q,J4 q)→∃fs,KatTups s vs fs∧fs.length=vs.length∧∀f∈fs,∃x t,f=.str x t
 |[],_=>⟨[],.nil,rfl,λf hf=>by cases hf⟩
 |v::vs,hv=>by
  obtain⟨fs,h1,h2,h3⟩:=katTups k vs λu hu=>hv u (QM hu);obtain⟨x,q,a,o,t,n,rfl,e,c,d⟩:=hv v Qc;refine⟨.str x t::fs,.cons Il c d rfl h1,by rw[Za,Za,h2],λf hf=>?_⟩;rcases Qi.mp hf with z|z
  ·exact⟨x,t,z⟩
  exact h3 f z
section
variable{prog:Nk}{w:Nn}{A:Np}{E:Nb}{s:Ni}{vs:Nj}{h:No}
def kind_tups(k:∀b o,h.get? b=some o→s.heap.get? b=some o)(hv:∀v∈vs,∃x q,J4 q)(h2:2≤vs.length)(q:Q (tuples' true) s):ZG Ac Q E s:=by obtain⟨fs,h1,h3,h4⟩:=katTups k vs hv;refine kat_kind (T:=.type "str") h1 Fs (λf hf=>?_) Fw q;obtain⟨x,t,rfl⟩:=h4 f hf;exact Looks.of_pure rfl
def blt_p:(Be strO).blt (x,y) (x',y')=if x=x' then decide (y<y') else decide (x<x'):=by
 show(decide (x<x')||(!decide (x'<x)&&decide (y<y')))=_;split
 ·rename_i e;subst e;rw[decide_eq_false (Ua x)];rfl
 rename_i ne;by_cases h1:x<x'
 ·rw[decide_eq_true h1];rfl
 rw[decide_eq_false h1,decide_eq_true (Yp λh2=>ne (strO.total _ _ (Gx h1) (Gx h2)))];rfl
def zd4(k:∀ b o,h.get? b=some o→s.heap.get? b=some o)(hv:∀ v∈vs,∃ x q,J4 q)(hd:∀ v∈vs,∀ u∈vs,∀ x p q,J4 p→zei h u x q→v=u∨∃ y t y' t',p=.str y t∧q=.str y' t'):WQ (λws=>ws.Pairwise λx y=>(Be strO).kle (kvP h x) (kvP h y)) vs:=by
 refine .ordT λh2=>⟨tuples' true,λQ q=>kind_tups k hv h2 q,λv v' hx hy Q E' q=>?_⟩;have same:=hd v hx v' hy;obtain⟨x,z,p⟩:=hv v hx;obtain⟨x',z',p'⟩:=hv v' hy;have P:=p;have P':=p';rw[P.key,P'.key,blt_p]at q;obtain⟨a,o,t,n,rfl,e,c,d⟩:=p;obtain⟨a',o',t',n',rfl,e',c',d'⟩:=p';refine kat_lt Il d (k _ _ e') d' ?_;show KatLex _ _ _ _ _ _ [(YI t,MX t'),(z,z')] 0 s;refine kat_cons (wpAny_eqBool_str ?_);by_cases ex:x=x'
 ·subst ex;rw[if_pos rfl]at q;rw[decide_eq_true rfl];refine kat_yes (kat_cons ?_);rcases same x z z' P P' with e2|⟨y,u,y',u',rfl,rfl⟩
  ·cases e2;rw[e]at e';cases e';rw[d]at d';have d2:(#[YI t,z]:Array Value)=#[YI t',z']:=by injection d'
   have d3:z=z':=by have:=congrArg (λa:Array Value=>a[1]?) d2;simpa using this
   subst d3;rw[decide_eq_false (Ua _)]at q;exact SeqAt.EqAt.same z _ _ _ _ (kat_yes (kat_nil q))
  refine wpAny_eqBool_str ?_;by_cases ey:y=y'
  ·subst ey;rw[show kvS (Bq u')=kvS (Bq u) from rfl,decide_eq_false (Ua _)]at q;rw[decide_eq_true rfl];exact kat_yes (kat_nil q)
  rw[Gx ey];exact kat_no (kat_one _ _ (lt_str q))
 rw[Gx ex];rw[if_neg (str_ne ex)]at q;exact kat_no (oneLt_str q)
def zib(k:∀b o,h.get? b=some o→s.heap.get? b=some o)(hv:∀v∈vs,∃x q,J4 q)(hd:∀v∈vs,∀u∈vs,∀x p q,J4 p→zei h u x q→v=u∨∃y t y' t',p=.str y t∧q=.str y' t'):WQ (λws=>vs.length<64→ws.Pairwise λx y=>(Be strO).kle (kvP h x) (kvP h y)) vs:=
 (zd4 k hv hd).weak λ_ h _=>h
end
end Tm
namespace L2
open PySem PySem.Spec PyProof.Rows
def ze5{K:Na}{a:Nc}{zs:Nh}{g:TG}{tb:TS}{D:Ends}{σ:St}{H:Hp}(Pv:Nat→St→Hp→Prop)(h0:Co)(hl:∀i σ H,i≤(zs.map V.str).length→Pv i σ H→WW Hz)(hs:∀i (hi:i<zs.length) σ H,Pv i σ H→g (.str zs[i]) σ H λ σ2 H2=>tb {D with nx:=Pv Gr,ct:=Pv Gr,bk:=D.nx} σ2 H2)(hd:∀σ H,Pv (zs.map V.str).length σ H→W8 H) :
  ∃W:Nat→Nat→St→Hp→Prop,(∃m,W 0 m σ H)∧∀i m σ H,W i m σ H →
   ((BA a).stop i H∧W8 H)∨((BA a).go i H∧∃N:St→Hp→Prop,Gi∧∀x H',(BA a).yld i H x H'→g x σ H' λ σ2 H2=>tb {D with nx:=N,ct:=N,bk:=D.nx} σ2 H2):=
 zbs Pv h0 hl (λi x σ H e p=>by
  have hi:i<zs.length:=by have:=(LP e).1;rwa[Qa]at this
  rw[Qt,Qb hi]at e;cases e;exact hs i hi σ H p) hd
section
variable{X:Cx}
inductive RrIndex(x:V)(vs:List V)(H:Hp)(Q:VK):Prop
 |mk (l:Nc) (xs:List V) (y:V) (j:Nat) (h0:x=.ref l) (h1:vs=[y]) (h2:H l=some (.lst xs)) (h3:zd3 y=true) (h4:xs.all zd3=true) (h5:(∃z,xs[j]?=some z∧eqV z y=true)) (h6:(∀m z,m<j→xs[m]?=some z→eqV z y=false)) (h7:Q (.int j) H):RrIndex x vs H Q
def rIndex:V→List V→Hp→VK→Prop:=λx vs H Q=>RrIndex x vs H Q
def zey:NK "list.index" rIndex:=by
 intro a7 s σ H x vs v us Q I rx rv h;obtain⟨l,xs,y,j,rfl,rfl,hH,fy,fs,⟨z,hz,ez⟩,fe,q⟩:=h;cases rx;obtain⟨u,rfl,ru⟩:=rv.one;obtain⟨zz,a8,n,r,hl,e⟩:=I.lstM hH;have hn:=zez;obtain⟨wv,hw,bV⟩:=r.get hz;have hj:j<a8.length:=(LP hw).1;have fl:∀{i:Nat} {a:V},xs[i]?=some a→zd3 a=true:=λ{i a} q=>Yc.mp fs a (Wi q);refine call_meets F.slot_list_index ⟨_,e,rfl⟩ F.entry_list_index (F.args_list_index_2 _ _)
  (SeqAt.list_indexAt l a8.toArray n none #[] u (eqU y) j (Fv hj) Fs ?_ ?_) ⟨e,λa ha=>zdy ru fy r fs a (Fv ha),?_⟩
 ·have e1:a8[j]=wv:=by have:=Qb hj;rw[this]at hw;exact Qq hw
  show eqU y (a8.toArray[j])=true;rw[Kw,e1,eqU_of bV (fl hz)];exact ez
 ·intro m hm ad;have ql:m<a8.length:=by simpa using hm
  have dC:m<xs.length:=by exact zar6 ‹_› ‹_›
  have gx:xs[m]?=some xs[m]:=Qb dC;obtain⟨wm,hwm,rm⟩:=r.get gx;have e1:a8[m]=wm:=by have:=Qb ql;rw[this]at hwm;exact Qq hwm
  show eqU y (a8.toArray[m])=false;rw[Kw,e1,eqU_of rm (fl gx)];exact fe m _ ad gx
 exact⟨Rq j,H,HI,⟨A5⟩,q⟩
inductive RrInsert(x:V)(vs:List V)(H:Hp)(Q:VK):Prop
 |mk (l:Nc) (xs:List V) (y:V) (k:Nat) (h0:x=.ref l) (h1:vs=[.int k,y]) (h2:H l=some (.lst xs)) (h3:xs.length<sizeLine) (h4:k≤xs.length) (h5:Q .non (upd H l (.lst (xs.take k++y::xs.drop k)))):RrInsert x vs H Q
def rInsert:V→List V→Hp→VK→Prop:=λx vs H Q=>RrInsert x vs H Q
def zgt:NK "list.insert" rInsert:=by
 intro a7 s σ H x vs v us Q I rx rv h;obtain⟨l,xs,y,k,rfl,rfl,hH,hz,hk,q⟩:=h;cases rx;obtain⟨u1,u,rfl,⟨t,rfl⟩,ru⟩:=rv.two;obtain⟨zz,a8,n,r,hl,e⟩:=I.lstM hH;have hn:=zez;obtain⟨i,hi⟩:∃i:Int,i=(k:Int):=⟨_,rfl⟩;have tK:¬(!Builtin.List.listFitsIndex i)=true:=by rw[fitsIndex_both Fs Fs];exact Zb
 have hsz:a8.toArray.size≤sizeLine:=by rw[Qp];exact zd2 ‹_› ‹_›
 have M:=AutoSeq1.list_insert_list_int_val_1 l a8.toArray n i t u tK hsz;rw[←hi];refine call_meets F.slot_list_insert ⟨_,e,rfl⟩ F.entry_list_insert (F.args_list_insert_3 _ _ _) M ⟨e,?_⟩;refine⟨.non,_,I.lset (its':=a8.take k++u::a8.drop k) hH e ?_ ((r.take k).append (Ez ru (r.drop k))) ?_,rfl,q⟩
 ·have e1:¬ (i < 0):=by lia
  have e2:min i.toNat a8.toArray.size=k:=by rw[Qp];lia
  show(a8.toArray.extract 0 (if i<0 then(i+((a8.toArray.size:Nat):Int)).toNat else min i.toNat a8.toArray.size)).push u++a8.toArray.extract (if i<0 then(i+((a8.toArray.size:Nat):Int)).toNat else min i.toNat a8.toArray.size)=_;rw[if_neg e1,e2];apply Array.toList_inj.mp;simp;rw[Qm (by rw[Yu];exact Qh _)]
 simp;lia
theorem zdm:∀{zs:Nh} {a8:Nj},JS a8→∃l:List (Str×Tok),a8=PySem.strValues l∧l.map (·.1)=zs
 |[],_,.nil=>⟨[],rfl,rfl⟩
 |z::zs,_,.cons r t=>by obtain⟨tk,rfl⟩:=r;obtain⟨l,rfl,e⟩:=zdm t;exact⟨(z,tk)::l,rfl,by rw[Qo,e]⟩
def zh6{a7:Nd}{s:Ni}{σ:St}{H:Hp}{p:Nc}{ys:List V}(hc:X.calm=true)(I:Gj)(hq:WC ys){Q:Nb}(h:∀ (a8:Nj) (It:Nc) (h1:No),Y2 a8→Walks X.prog X.w X.A.in1 It [It,p] [It] a8.toArray.size (λi v=>a8.toArray[i]?=some v) (λi h=>h.IsListIter It p i∧h.IsList p a8.toArray)→(h1.IsListIter It p 0∧h1.IsList p a8.toArray)→(∀ b∈[It,p],b < h1.objs.size) →
   (∀(h':No) (tk:Nat),(∀b o,b∉[It]→h1.get? b=some o→h'.get? b=some o)→ZA H {s with heap:=h',toks:=tk})→Q (Fu It) {s with heap:=h1}) :
  wpAny FE X.A.in1 (pyIter Te) Q X.xe s:=by
 obtain⟨a8,rv,pl,hz⟩:=I.list hq;refine wpAny_pyIter_list pl.isList ?_;have lt:p<s.heap.objs.size:=by obtain⟨o,n,e,_⟩:=pl;exact Qu e
 refine h a8 s.heap.objs.size _ rv (Walks.list (show X.A.in1.handled=none from I.ok.hd hc) _ _ PK _) ⟨⟨_,RY,rfl,rfl⟩,?_⟩ (λb hb=>?_) λh' tk k=>I.kept (t':=tk) λb o e=>?_
 ·obtain⟨o,e,r⟩:=pl.isList;exact⟨o,LY,r⟩
 ·rcases Qi.mp hb with e|e
  ·rw[e];simp[Heap.push]
  rw[Qd.mp e];simp[Heap.push];exact Jf lt
 exact k b o (λz=>absurd (Qu e) (by rw[Qd.mp z];exact Yy _)) LY
theorem zd9(ns:List Int):∀k,k≤ns.length→preSum (λi=>ns.getD i 0) k=(ns.take k).sum
 |0,_=>rfl
 |k+1,h=>by show preSum (λi=>ns.getD i 0) k+ns.getD k 0=_;have hk:k<ns.length:=h;rw[zd9 ns k Gf,Qj hk,List.sum_append,List.sum_singleton];congr 1;simp[List.getD,hk]
theorem zhg:∀{ns:List Int} {a8:Nj},N9 a8→∀(i:Nat) (v:Value),a8[i]?=some v→∃t,v=Value.int (ns.getD i 0) t
 |[],_,.nil,i,v,e=>by simp at e
 |n::ns,_,.cons r t,0,v,e=>by obtain⟨tk,rfl⟩:=r;simp at e;subst e;exact⟨tk,rfl⟩
 |n::ns,_,.cons r t,i+1,v,e=>by obtain⟨tk,h⟩:=zhg t i v Ip;exact⟨tk,by rw[h];simp⟩
def sum_small{ns:List Int}(hb:∀n∈ns,0≤n∧n≤1000000):0≤ns.sum∧ns.sum≤1000000*(ns.length:Int):=by
 induction ns with
 |nil=>simp
 |cons a r ih=>have h1:=hb a Qc;have h2:=ih λn hn=>hb n (QM hn);rw[List.sum_cons,Za];lia
def call_sum(hc:X.calm=true):YV (.builtin "sum") (λxs H Q=>Ex2 λ(p:Nc) (ns:List Int)=>Aj5 (xs=[Te]) (WC Lx) (ns.length≤1000000) (∀n∈ns,0≤n∧n≤1000000) (Q (.int ns.sum) H)):=by
 intro a7 s σ H xs us Q I r h;obtain⟨p,ns,rfl,hq,hl,hb,q⟩:=h;obtain⟨u,rfl,rx⟩:=vals1 r;cases rx;refine call_sum_walk (zh6 hc I hq λa8 It h1 rv W st lt keep=>⟨It,_,_,_,_,_,λi=>ns.getD i 0,rfl,W,st,lt,λi v e=>zhg rv i v Ip,λj hj=>?_,λh' tk t' k=>⟨.int ns.sum,H,Ds k,⟨t',?_⟩,q⟩⟩)
 ·have au:=rv.length;rw[Qa]at au;have gp:j<ns.length:=by rw[au];simpa using hj
  have s1:=sum_small (ns:=ns.take (j+1)) λn hn=>hb n (Wh hn);rw[Ze]at s1;have g:ns.getD j 0=ns[j]:=by simp[List.getD,gp]
  have g2:=hb _ (Qn gp);refine⟨?_,?_⟩
  ·show InLong (ns.getD j 0);rw[g];unfold InLong;lia
  rw[zd9 ns (j+1) gp];unfold InLong;lia
 have au:=rv.length;rw[Qa]at au;rw[Qp,zd9 ns _ Fs,←au,Qm Gg]
theorem zhh:∀{bs:List Bool} {a8:Nj},Vals (bs.map V.bl) a8→∀(i:Nat) (v:Value),a8[i]?=some v→v=Value.bool (bs.getD i true)
 |[],_,.nil,i,v,e=>by simp at e
 |n::ns,_,.cons r t,0,v,e=>by cases r;simp at e;subst e;rfl
 |n::ns,_,.cons r t,i+1,v,e=>by have h:=zhh t i v Ip;rw[h];simp
def all_range(bs:List Bool):(List.range bs.length).all (λi=>bs.getD i true)=bs.all id:=by
 rw[Yw,Yc,Yc];constructor
 ·intro h x hx;obtain⟨i,hi,e⟩:=Zg hx;have:=h i (Wa.mpr hi);simp[List.getD,hi]at this;rw[←e];exact this
 intro h i hi;have cV:=Wa.mp hi;simp[List.getD,cV];exact h _ (Qn cV)
def call_all(hc:X.calm=true):YV (.builtin "all") (λxs H Q=>Ex2 λ(p:Nc) (bs:List Bool)=>Aj3 (xs=[Te]) (WC (bs.map V.bl)) (Lq (bs.all id))):=by
 intro a7 s σ H xs us Q I r h;obtain⟨p,bs,rfl,hq,q⟩:=h;obtain⟨u,rfl,rx⟩:=vals1 r;cases rx;refine call_all_walk (zh6 hc I hq λa8 It h1 rv W st lt keep=>⟨It,_,_,_,_,_,λi=>bs.getD i true,rfl,W,st,λi v s' Q' E' e q'=>?_,λh' tk k=>⟨.bl (bs.all id),H,Ds k,?_,q⟩⟩)
 ·have e':=zhh rv i v Ip;subst e';exact wpAny_truthy_bool q'
 have au:=rv.length;rw[Qa]at au;show Value.bool _=Value.bool _;rw[Qp,←au,all_range]
end
end L2
namespace L2
open PySem PySem.Spec PyProof.Rows Tm
def Vals.perm{ws us:Nj}(p:ws.Perm us):∀{ys:List V},Y2 us→∃zs,zs.Perm ys∧Vals zs ws:=by
 induction p with
 |nil=>intro ys r;cases r;exact⟨[],.nil,.nil⟩
 |cons x q ih=>
  intro ys r;cases r with
  |cons r1 r2=>obtain⟨zs,h1,h2⟩:=ih r2;exact⟨_::zs,h1.cons _,Ez r1 h2⟩
 | swap x y l=>
  intro ys r;cases r with
  |cons r1 r2=>
   cases r2 with
   |cons r3 r4=>exact⟨_,List.Perm.swap ..,.cons r3 (Ez r1 r4)⟩
 |trans _ _ ih1 ih2=>intro ys r;obtain⟨zs,h1,h2⟩:=ih2 r;obtain⟨bQ,h3,h4⟩:=ih1 h2;exact⟨bQ,h3.trans h1,h4⟩
theorem Vals.pairwise{α:Type}{R:α→α→Prop}{kv:Value→α}{kV:V→α}:∀{zs:List V} {ws:Nj},Vals zs ws→(∀v∈zs,∀u,UQ u→kv u=kV v)→ws.Pairwise (λa b=>R (kv a) (kv b))→zs.Pairwise λa b=>R (kV a) (kV b)
 |_,_,.nil,_,_=>.nil
 |v::zs,u::ws,.cons r t,hk,h=>by rw[Wo]at h ⊢;refine⟨λb hb=>?_,Vals.pairwise t (λv hv=>hk v IT) h.2⟩;obtain⟨i,hi,e⟩:=Zg hb;obtain⟨x,hx,rx⟩:=Vals.get t (i:=i) (x:=b) (by rw[Qb hi,e]);have:=h.1 x (Wi hx);rw[hk v Qc u r,hk b Tr x rx]at this;exact this
section
variable{X:Cx}
def zd7{a7:Nd}{s:Ni}{σ:St}{H:Hp}{p:Nc}{ys:List V}{R:List Value→List Value→Prop}{Q:VK}(I:Gj)(hq:WC ys)(hS:∀a8,Y2 a8→∀(A':Around) (E':Value→Shared→Prop) (s':Shared),A'.units≤X.A.units+8→(∀b o,s.heap.get? b=some o→s'.heap.get? b=some o)→zbl X.prog X.w A' E' s' (R a8) a8)(h:∀(l:Nc) (ws:List V) (a8 us:Nj),H l=none→ws.Perm ys→Y2 a8→Vals ws us→R a8 us→Q Sh (RC l ws)) :
  wpAny FE X.A (call (.builtin "sorted") [Te]) Tl X.xe s:=by
 obtain⟨a8,r,pl,hz⟩:=I.list hq;refine sorted_any pl.isList (by rw[←r.length];exact hz) (hS a8 r) λws l g tk e p1 p2 le k he=>?_;obtain⟨zs,q1,q2⟩:=Vals.perm p1 r;exact⟨Sh,_,I.laid (t':=tk) k le (show Z5 _ g _ (FJ zs) from⟨by rw[q1.length_eq];exact hz,ws,e,q2,he⟩),rfl,h l zs a8 ws (RP le) q1 r q2 p2⟩
def leS(x y:Str):Prop:=¬y.cps.toList<x.cps.toList
def txV:V→List Nat
 |.str x=>x.cps.toList
 |_=>[]
def strs_perm{ws:List V}{zs:Nh}(pm:ws.Perm Hz):∃ts:List Str,ws=ts.map V.str∧ts.Perm zs:=by
 have a1:∀v∈ws,∃x,v=V.str x:=λv hv=>by obtain⟨x,_,e⟩:=Ql.mp (pm.mem_iff.mp hv);exact⟨x,e.symm⟩
 have a2:∃ts:List Str,ws=ts.map V.str:=by
  clear pm;induction ws with
  |nil=>exact⟨[],rfl⟩
  |cons v r ih=>obtain⟨ts,e⟩:=ih λv hv=>a1 v IT;obtain⟨x,e2⟩:=a1 v Qc;exact⟨x::ts,by rw[e,e2];rfl⟩
 obtain⟨ts,rfl⟩:=a2;refine⟨ts,rfl,?_⟩;have:=pm.map (λv=>match v with | .str x=>x|_=>Str.empty);rw[Zu,Zu]at this;simpa[Function.comp_def] using this
def zfn{zs:Nh}{a8:Nj}(r:JS a8):∀v∈a8,∃x t,v=.str x t:=λv hv=>by obtain⟨l,rfl,e⟩:=zdm r;obtain⟨pr,_,e2⟩:=Ql.mp hv;exact⟨_,_,e2.symm⟩
def txV_str{zs:Nh}:∀v∈zs.map V.str,∀u,UQ u→kvS u=txV v:=λv hv u ru=>by obtain⟨x,_,rfl⟩:=Ql.mp hv;obtain⟨t,rfl⟩:=ru;rfl
def strs_out{zs ts:Nh}{a8 us:Nj}(r:JS a8)(r2:Vals (ts.map V.str) us)(p:a8.length<64→us.Pairwise λx y=>strO.kle (kvS x) (kvS y))(h:zs.length<64):ts.Pairwise leS:=by have p2:=Vals.pairwise (R:=λa b=>strO.kle a b) (kV:=txV) r2 txV_str (p (by rw[←r.length,Qa];exact h));rw[Uq]at p2;exact p2.imp of_decide_eq_false
def zdk:YV (.builtin "sorted") (λxs H Q=>Ex2 λ(p:Nc) (zs:Nh)=>Aj3 (xs=[Te]) (WC Hz) (∀(l:Nc) (ws:Nh),H l=none→ws.Perm zs→(zs.length<64→ws.Pairwise leS)→Q Sh (ZU l HN))):=by intro a7 s σ H xs us Q I r h;obtain⟨p,zs,rfl,hq,q⟩:=h;obtain⟨u,rfl,rx⟩:=vals1 r;cases rx;refine zd7 I hq (λa8 r A' E' s' _ _=>zem (zfn r)) λl ws a8 us hl p1 r1 r2 p2=>?_;obtain⟨ts,rfl,p3⟩:=strs_perm p1;exact q l ts hl p3 (strs_out r1 r2 p2)
def zf0(I:Gj)(e:H a=some (.tup [TD,z])):∃q,RelV z q∧Dt Ht x q:=by obtain⟨_,a8,r,o,e1,c,n,d⟩:=YF e;obtain⟨u,w',rfl,⟨t,rfl⟩,rz⟩:=vals2 r;exact⟨w',rz,a,o,t,n,rfl,e1,c,d⟩
def zf7(r:Y2 a8):∀v∈a8,∃b∈ys,RelV b v:=λv hv=>by
 obtain⟨i,hi,e⟩:=Zg hv;have hl:=r.length;have ao:i<ys.length:=by exact zar6 ‹_› ‹_›
 obtain⟨u,hu,ru⟩:=r.get (i:=i) (Qb ao);rw[Qb hi,e]at hu;cases hu;exact⟨_,Pe,ru⟩
def zf1(a:J4 p)(b:zei h v y q):x=y∧p=q:=by
 obtain⟨a,o,t,n,rfl,e,c,d⟩:=a;obtain⟨a',o',t',n',e0,e',c',d'⟩:=b;cases e0;rw[e]at e';cases e';rw[d]at d';have d2:(#[YI t,p]:Array Value)=#[Bq t',q]:=by injection d'
 have d3:=congrArg (λa:Array Value=>a[0]?) d2;have d4:=congrArg (λa:Array Value=>a[1]?) d2;simp at d3 d4;exact⟨d3.1,d4⟩
def rowV(H:Hp):V→List Nat
 |.ref a=>match H a with
  |some (.tup [x,_])=>txV x
  |_=>[]
 |_=>[]
def zet(e:H a=some (.tup [x,y])):Du Ht=txV x:=by unfold rowV;dsimp only;rw[e]
def zfy:YV (.builtin "sorted") (λxs H Q=>Ex2 λ(p:Nc) (ys:List V)=>Aj5 (xs=[Te]) Py (∀v∈ys,∃a x z,v=.ref a∧H a=some (.tup [TD,z])) (∀v∈ys,∀u∈ys,Du v=Du u→v=u) (∀(l:Nc) (ws:List V),H l=none→ws.Perm ys→(ys.length<64→ws.Pairwise λa b=>strO.kle (Du a) (Du b))→Q Sh (RC l ws))):=by
 intro a7 s σ H xs us Q I r h;obtain⟨p,ys,rfl,hq,hy,hd,q⟩:=h;obtain⟨u,rfl,rx⟩:=vals1 r;cases rx;have back:∀a8,Y2 a8→∀v∈a8,∃b∈ys,RelV b v∧∃a x z q,b=.ref a∧v=.ref a∧H a=some (.tup [TD,z])∧Dt v x q:=λa8 r v hv=>by obtain⟨b,hb,rb⟩:=zf7 r v hv;obtain⟨a,x,z,rfl,e2⟩:=hy b hb;have rb':=rb;cases rb;obtain⟨q',_,T⟩:=zf0 I e2;exact⟨_,hb,rb',a,x,z,q',rfl,rfl,e2,T⟩
 refine zd7 I hq (λa8 r A' E' s' _ k=>zib k (λv hv=>?_) λv hv u hu x p q T T'=>?_) λl ws a8 us hl p1 r1 r2 p2=>q l ws hl p1 λh64=>?_
 ·obtain⟨b,hb,rb,a,x,z,q,_,_,_,T⟩:=back a8 r v hv;exact⟨x,q,T⟩
 ·obtain⟨b,hb,rb,a,x1,z,q1,rfl,rfl,e1,T1⟩:=back a8 r v hv;obtain⟨c,hc,rc,a',x2,z',q2,rfl,rfl,e2,T2⟩:=back a8 r u hu;have h1:=(zf1 T T1).1;have h2:=(zf1 T' T2).1;subst h1;subst h2;have:=hd _ hb _ hc (by rw[zet e1,zet e2]);cases this;exact .inl rfl
 refine Vals.pairwise (R:=λa b=>strO.kle a b) (kv:=λu=>(VU u).1) r2 (λv hv u ru=>?_) ((p2 (by rw[← r1.length];exact h64)).imp λh=>(Bool.or_eq_false_iff.mp h).1);obtain⟨a,x,z,rfl,e2⟩:=hy v (p1.mem_iff.mp hv);cases ru;obtain⟨q',_,T⟩:=zf0 I e2;rw[T.key,zet e2];rfl
def dk_at{a7:Nd}{s:Ni}{σ:St}{H:Hp}{d:Nc}{kvs:List (Key×V)}(I:Gj)(rd:Rd H d HS) :
  kvs.length≤sizeLine∧(d==sysModules)=false∧∃vs ep,UD vs∧s.heap.DictAt S0 d vs ep∧vs.length=kvs.length:=by
 obtain⟨z,y,vs,r,hd⟩:=rd.ok I.hok;obtain⟨ep,ha⟩:=hd.dictAt;exact⟨z,y,vs,ep,r,ha,(Zl r).symm⟩
def KV.get{kvs:List (Key×V)}{vs:List (Key×Value)}(r:UD vs){i:Nat}(e:vs[i]?=some (k,x)):∃v,kvs[i]?=some (k,v)∧UQ x:=by
 induction r generalizing i with
 |nil=>simp at e
 |cons h t ih=>
  cases i with
  |zero=>simp at e;subst e;exact⟨_,by simp;exact Prod.ext h.1 rfl,h.2⟩
  |succ j=>obtain⟨v,h1,h2⟩:=ih (i:=j) Ip;exact⟨v,Fv h1,h2⟩
def key_rel(h:(J5 w).is k v=true):RelV (kV k) v:=by
 rcases zbh h with⟨i,t,rfl,rfl⟩|⟨x,t,rfl,rfl⟩
 ·exact⟨t,rfl⟩
 exact⟨t,rfl⟩
def keys_vals{P:Nk}{w:Nn}{kvs:List (Key×V)}{vs:List (Key×Value)}{aj:Array Value}(r:UD vs)(hl:vs.length=kvs.length)(h:ItemsOf (λi v=>∃k x,vs[i]?=some (k,x)∧(J5 w).is k v=true) aj vs.length):Vals (kvs.map λp=>kV p.1) aj.toList:=by
 have g:∀(i:Nat),i<kvs.length→∃v,aj.toList[i]?=some v∧RelV (kV ((kvs.map Prod.fst).getD i (Gm 0))) v:=λi hi=>by
  have ao:i<aj.size:=by rw[h.1];exact zar6 ‹_› ‹_›
  have e:aj[i]?=some aj[i]:=by simp[ao]
  obtain⟨k,x,e1,e2⟩:=h.2 i _ e;obtain⟨v',e3,_⟩:=KV.get r e1;refine⟨aj[i],FA Jc e,?_⟩;have e4:(kvs.map Prod.fst).getD i (Gm 0)=k:=by rw[Qx,Qt,e3];rfl
  rw[e4];exact key_rel e2
 have hsz:aj.toList.length=kvs.length:=by rw[Yb,h.1];exact hl
 clear h r hl;generalize aj.toList=l at g hsz;induction kvs generalizing l with
 |nil=>have:l=[]:=Kl.mp hsz;subst this;exact .nil
 | cons p t ih=>
  cases l with
  |nil=>cases hsz
  |cons u us=>
   refine .cons ?_ (ih us (λi hi=>?_) (Fv hsz))
   ·obtain⟨v,e1,e2⟩:=g 0 Fr;simp at e1;subst e1;exact e2
   obtain⟨v,e1,e2⟩:=g Gr (Fv hi);exact⟨v,Fv e1,Fv e2⟩
def zb2(hc:X.calm=true):YV (.builtin "sorted") (λxs H Q=>Ex3 λ(d:Nc) (kvs:Se (Key×V)) (zs:Nh)=>Aj4 (xs=[Fu d]) (Rd H d HS) ((kvs.map λp=>kV p.1)=zs.map V.str) (∀(l:Nc) (ws:Nh),H l=none→ws.Perm zs→(zs.length<64→ws.Pairwise leS)→Q Sh (ZU l HN))):=by
 intro a7 s σ H xs us Q I r h;obtain⟨d,kvs,zs,rfl,hq,ez,q⟩:=h;obtain⟨u,rfl,rx⟩:=vals1 r;cases rx;obtain⟨z,lo,vs,ep,rk,ha,hl⟩:=dk_at I hq;refine zfb (G:=λa8=>JS a8) (λE' R hR=>zg7 (PySem.W.kdl_dict lo) (show X.A.in1.handled=none from I.ok.hd hc) ha (FA hl z) λg tk aj k le hi=>hR g tk _ k le (ez▸keys_vals rk hl hi))
  (λa8 r=>by rw[←r.length,←ez,Qa];exact z) (λa8 r A' E' s' _ _=>zem (zfn r)) λa8 ws l g tk e r p1 p2 le k he=>?_
 obtain⟨bQ,q1,q2⟩:=Vals.perm p1 r;obtain⟨ts,rfl,p3⟩:=strs_perm q1;refine⟨Sh,_,I.laid (t':=tk) k le (show Z5 _ g _ (FJ _) from⟨?_,ws,e,q2,he⟩),rfl,q l ts (RP le) p3 (strs_out r q2 p2)⟩;rw[q1.length_eq,←ez,Qa];exact z
variable{a7:Nd}{σ:St}{H:Hp}{s:Ni}
def Inv.freeze(I:Gj)(hd:H d=some u)(ho:s.heap.get? d=some o)(mu:Mut (He u)):ZA (ZU d IZ) s:=by
 have ne:∀b,H b=none→b≠d:=λb e z=>by rw[z,hd]at e;cases e
 have nt:∀b xs,H b=some Rl→b≠d:=λb xs e z=>by rw[z,hd]at e;cases e;exact mu
 have nf:∀b o' u',H b=some E3→b≠d:=λb o' u' e z=>by rw[z,hd]at e;cases e;exact mu
 have nb:∀b ps,H b=some O8→b≠d:=λb ps e z=>by rw[z,hd]at e;cases e;exact mu
 have no:∀b a,H b=some CG→b≠d:=λb a e z=>by rw[z,hd]at e;cases e;exact mu
 refine I.un (h':=s.heap) (t':=s.toks) ⟨λb o e _ _ _=>e,λb o e _ _ _=>⟨o.slots,e⟩,λb o e n _=>by rw[zaf (ne b n)];exact n,λb o e _=>⟨o,e⟩,λb xs e=>by rw[zaf (nt b xs e)];exact e,
  λb o' u' e=>by rw[zaf (nf b o' u' e)];exact e,λb ps e=>⟨#[],by rw[zaf (nb b ps e),e];simp⟩⟩ λb v e=>?_
 by_cases hb:b=d
 ·subst hb;rw[zab]at e;cases e;exact⟨ho,(Y' u hd).stay (λc v _ q=>q) (λc q=>by rw[zaf On];exact q) λc xs q=>by rw[zaf IG];exact q⟩
 rw[IK]at e;exact(Y' v e).stay (λc v _ q=>q) (λc q=>by rw[zaf On];exact q) λc xs q=>by rw[zaf IG];exact q
def Inv.thaw(I:Gj)(hd:H d=some IZ)(hx:∀o' u',X.H₀ d≠some E3):ZA (ZU d u) s:=by
 have ne:∀b,H b=none→b≠d:=λb e z=>by rw[z,hd]at e;cases e
 have nt:∀b xs,H b=some Rl→b≠d:=λb xs e z=>by rw[z,hd]at e;cases e
 have nb:∀b ps,H b=some O8→b≠d:=λb ps e z=>by rw[z,hd]at e;cases e
 have no:∀b a,H b=some CG→b≠d:=λb a e z=>by rw[z,hd]at e;cases e
 have B:=I.base;refine⟨I.ok,I.os,I.bare,⟨B.keep,B.slot,λb o e n hx=>?_,B.there,λb xs e=>?_,λb o' u' e=>?_,λb ps e=>?_⟩,I.loc,I.cell,?_,λx c e=>?_,λp hp=>?_,λb v e=>?_,I.len⟩
 ·have:=B.free b o e n hx;rw[zaf (ne b this)];exact this
 ·have:=B.tups b xs e;rw[zaf (nt b xs this)];exact this
 ·have:=B.frzs b o' u' e;have nd:b≠d:=λz=>hx o' u' (z▸e);rw[zaf nd];exact this
 ·obtain⟨m,q⟩:=B.tbls b ps e;exact⟨m,FQ (nb b _ q) q⟩
 ·rw[zaf (ne _ I.free)];exact I.free
 ·rw[zaf (ne c (UJ e))];exact UJ e
 ·obtain⟨h1,h2,h3⟩:=YS hp;exact⟨h1,FQ (ne _ h2) h2,h3⟩
 by_cases hb:b=d
 ·subst hb;rw[zab]at e;cases e;exact(show s.heap.get? b=some o∧Z5 H s.heap b u from Y' _ hd).2.stay (λc v _ q=>q) (λc q=>by rw[zaf On];exact q) λc xs q=>by rw[zaf IG];exact q
 rw[IK]at e;exact(Y' v e).stay (λc v _ q=>q) (λc q=>by rw[zaf On];exact q) λc xs q=>by rw[zaf IG];exact q
inductive Thaw(X:Cx)(R:Hp→Prop)(H':Hp):Prop
 |mk (d:Nc) (o:Obj) (u:HO) (h:H' d=some (.frz o u)) (n:∀o' u',X.H₀ d≠some (.frz o' u')) (q:R (upd H' d u)):Thaw X R H'
def sThaw(X:Cx)(t:TS):TS:=λD σ H=>t {nx:=λ σ' H'=>Thaw X (D.nx σ') H',rt:=λv H'=>Thaw X (D.rt v) H',bk:=λ σ' H'=>Thaw X (D.bk σ') H',ct:=λ σ' H'=>Thaw X (D.ct σ') H'} σ H
def ps_thaw{st:Stmt}{t:TS}(h:KO st t):KO st (sThaw X t):=by
 intro a7 s σ H D I q;refine thn (Cc _ q) λf s' z=>?_;cases f with
 |next=>obtain⟨σ',H',I',d,o,w',e1,e2,e3⟩:=z;exact⟨σ',_,VW e2,e3⟩
 |brk=>obtain⟨σ',H',I',d,o,w',e1,e2,e3⟩:=z;exact⟨σ',_,VW e2,e3⟩
 |cont=>obtain⟨σ',H',I',d,o,w',e1,e2,e3⟩:=z;exact⟨σ',_,VW e2,e3⟩
 |ret u=>obtain⟨v,σ',H',I',r,d,o,w',e1,e2,e3⟩:=z;exact⟨v,σ',_,VW e2,r,e3⟩
def Itd(d:Nc)(o:Obj)(kvs:Se (Key×V)):It:=
 ⟨λi H=>H d=some PL∧i<kvs.length,λi H x H'=>H'=H∧∃p,kvs[i]?=some p∧x=kV p.1,λi H=>H d=some PL∧kvs.length≤i⟩
def frz_at(I:Gj)(e:H d=some PL):s.heap.get? d=some o∧Z5 H s.heap d HS:=I.hok d _ e
def zhw{h:No}{kvs:List (Key×V)}{vs vs':List (Key×Value)}{ep ep':Nat}(ho:h.get? d=some o)(a:h.DictAt La d vs ep)(o':Obj)(h':No)(aA:h'.get? d=some o):h'.DictAt La d vs ep:=by obtain⟨q,es,e,r⟩:=a;rw[ho]at e;cases e;exact⟨o,es,aA,r⟩
theorem turn_dict{P:Nk}{w:Nn}{K:Na}{tg:Expr}{o:Obj}{kvs:List (Key×V)}{vs:List (Key×Value)}{ep:Nat}{h0:No}(d it:Nc)(rk:UD vs)(hl:vs.length=kvs.length)(h00:h0.get? d=some o)(li:h0.DictAt La d vs ep) :
  Turn P w K tg (DO kvs) [it] it (λi h=>h.IsKeyIter it d i vs.length ep) where
 mem:=by simp
 obj:=λi h st b hb=>by
  have e:b=it:=by simpa using hb
  subst e;obtain⟨o,e,c,d⟩:=st;exact⟨o,e,λv z=>by rw[d]at z;cases z⟩
 keep:=λi h h' st k=>st.at λo e=>k it Fr o e
 item:=by
  intro X hP hw hK hc i a7 s σ H E I hf st hg;subst hP hw hK;obtain⟨fz,hi⟩:=hg;obtain⟨ho,_⟩:=frz_at I fz;have DA:s.heap.DictAt S0 d vs ep:=zhw (kvs:=kvs) (vs':=vs) (ep':=ep) h00 li o s.heap ho;obtain⟨f0,f1,f2,f3,f4,f5⟩:=hf it Fr;have ao:i<vs.length:=by exact zar6 ‹_› ‹_›
  obtain⟨v',e3,_⟩:=KV.get rk (i:=i) (k:=vs[i].1) (x:=vs[i].2) (Qb ao);refine wpAny_pyNext_dict_item st DA (k:=vs[i].1) (v:=vs[i].2) (Qb ao) λkey h' hk a9 sb=>?_;have I1:ZA H {s with heap:=h'}:=I.turned (t':=s.toks) (λb o hb e=>(sb.2 b hb).trans e) f0 f1 f3 f4 f5;obtain⟨o2,e,c,d2⟩:=id a9;exact⟨key,rfl,go_of (s:={s with heap:=h'}) e c d2 Fw ⟨kV vs[i].1,H,I1,key_rel hk,⟨rfl,_,e3,rfl⟩,a9,λb hb=>(hf b hb).1⟩⟩
 done:=by intro X hP hw hK hc i a7 s σ H E I hf st hg;subst hP hw hK;obtain⟨fz,hi⟩:=hg;obtain⟨ho,_⟩:=frz_at I fz;have DA:s.heap.DictAt S0 d vs ep:=zhw (kvs:=kvs) (vs':=vs) (ep':=ep) h00 li o s.heap ho;obtain⟨f0,f1,f2,f3,f4,f5⟩:=hf it Fr;exact wpAny_pyNext_dict_end RT st DA (Ui Fs) λh' eb=>⟨rfl,I.turned (t':=s.toks) (λb o hb e=>eb b o hb e) f0 f1 f3 f4 f5⟩
 self:=λ_ _ _ _ _ st h=>wpAny_pyIter_keyiter st h
inductive RIDi(x:V)(H:Hp)(R:It→Hp→Prop):Prop
 |mk (d:Nc) (kvs:List (Key×V)) (e:x=.ref d) (h:H d=some (.dK kvs)) (q:∀o,R (Itd d o kvs) (upd H d (.frz o (.dK kvs)))):RIDi x H R
def iDict(td:TE):TI:=λ σ H R=>td σ H λx H1=>RIDi x H1 R
def pi_dict{tg l:Expr}{tl:TE}(hl:OP):JV l (iDict tl):=by
 intro a7 s σ H R I h;refine thn SH λv s1 ⟨x,H1,I1,r1,q1⟩=>?_;obtain⟨d,kvs,e,hd,q⟩:=q1;subst e;cases r1;obtain⟨z,lo,vs,ep,rk,ha,aa⟩:=dk_at I1 (Gm hd);obtain⟨o,es,ho,r⟩:=id ha;refine wpAny_pyIter_dict lo ha ?_;have I2:=I1.freeze hd ho trivial;have I3:ZA (QI d PL) {s1 with heap:=s1.heap.push {cls:=.type "dict_keyiterator",data:=.fields #[Fu d,O7,.int vs.length 0,SQ ep 0]}}:=I2.kept (t':=s1.toks) λb o e=>QS e;refine⟨s1.heap.objs.size,[s1.heap.objs.size],_,_,A5,I3,turn_dict d _ rk aa ho ha,⟨_,RY,rfl,rfl⟩,λb hb=>?_,q o⟩;have e:b=s1.heap.objs.size:=by simpa using hb
 subst e;exact I2.fpOk Gg (I2.hok.fresh Gg)
def for_dict{d:Nc}{o:Obj}{kvs:List (Key×V)}{g:TG}{tb:TS}{D:Ends}{σ:St}{H:Hp}(Pv:Nat→St→Hp→Prop)(h0:Co)(hl:∀i σ H,i≤kvs.length→Pv i σ H→H d=some PL)(hs:∀i p σ H,kvs[i]?=some p→Pv i σ H→g (kV p.1) σ H λ σ2 H2=>tb {D with nx:=Pv Gr,ct:=Pv Gr,bk:=D.nx} σ2 H2)(hd:∀σ H,Pv kvs.length σ H→W8 H) :
  ∃W:Nat→Nat→St→Hp→Prop,(∃m,W 0 m σ H)∧∀i m σ H,W i m σ H →
   ((DO kvs).stop i H∧W8 H)∨((DO kvs).go i H∧∃N:St→Hp→Prop,Gi∧∀x H',(DO kvs).yld i H x H'→g x σ H' λ σ2 H2=>tb {D with nx:=N,ct:=N,bk:=D.nx} σ2 H2):=by
 refine⟨λi m σ H=>m=kvs.length-i∧i≤kvs.length∧Pv i σ H,⟨kvs.length,Fr,Sv,h0⟩,?_⟩;rintro i m σ H ⟨rfl,hi,p⟩;have q:=hl i σ H hi p;by_cases ad:i<kvs.length
 ·refine .inr ⟨⟨q,ad⟩,Pv Gr,fun σ' H' p'=>⟨kvs.length - Gr,Gk,rfl,ad,p'⟩,λx H' y=>?_⟩;obtain⟨e,pr,e2,rfl⟩:=y;subst e;exact hs i pr σ _ e2 p
 have e:i=kvs.length:=by exact zar3 ‹_› ‹_›
 subst e;exact .inl ⟨⟨q,Gg⟩,IL⟩
end
end L2
namespace Enu
open PySem PyProof.Rows
open AutoSeq1 (wpAny_loadPart')
section
variable{prog:Nk}{w:Nn}{A:Np}{E:Nb}{s:Ni}
def next_item(st:P7)(ht:EI)(hx:xs[i]?=some x)(hQ:∀g,g.IsTupleIter j t Gr→Ny g→Q x {s with heap:=g}):ZG Ix Q E s:=by obtain⟨o,ho,hc,hd⟩:=id st;obtain⟨p,hp,_,k,hk⟩:=ht;unfold Builtin.SmallTypes.nextOf;refine wpAny_bind (wpAny_callSpecial?_slot (name:=Str.ofString "__next__") st.typeIs Uj (XV st.typeIs Xw ?_ (Xm _)));show ZW _ (field CQ 0 >>= _) _ _ s;refine wpAny_bind (UW (x:=.ref t) rfl ?_);show ZW _ (if(Value.ref t==.none)=true then _ else _) _ _ s;rw[if_neg (show ¬((Value.ref t==.none)=true) from Zb)];show ZW _ (field CQ 1 >>= _) _ _ s;refine wpAny_bind (UW (x:=.int i 0) rfl ?_);show ZW _ (seqItems? SI >>= _) _ _ s;refine wpAny_bind (NP ?_);simp only[Ur,hx];refine wpAny_bind (JF Fr (AB ⟨x,rfl,GG (hQ _ ⟨_,A4,(Obj.cls_mapFields ..).trans hc,by rw[Wz hd];simp[rawInt]⟩ (Uk ..))⟩))
def next_end(hh:A.handled=none)(st:P7)(ht:EI)(hx:xs[i]?=none)(hE:∀g e,NQ g→(∃o,g.get? e=some o∧o.cls=.type "StopIteration")→E TJ {s with heap:=g}):ZG Ix Q E s:=by
 obtain⟨o,ho,hc,hd⟩:=id st;obtain⟨p,hp,_,k,hk⟩:=ht;unfold Builtin.SmallTypes.nextOf;refine wpAny_bind (wpAny_callSpecial?_slot (name:=Str.ofString "__next__") st.typeIs Uj (XV st.typeIs Xw ?_ (Xm _)));show ZW _ (field CQ 0 >>= _) _ _ s;refine wpAny_bind (UW (x:=.ref t) rfl ?_);show ZW _ (if(Value.ref t==.none)=true then _ else _) _ _ s;rw[if_neg (show ¬((Value.ref t==.none)=true) from Zb)];show ZW _ (field CQ 1 >>= _) _ _ s;refine wpAny_bind (UW (x:=.int i 0) rfl ?_);show ZW _ (seqItems? SI >>= _) _ _ s;refine wpAny_bind (NP ?_);simp only[Ur,hx];refine wpAny_bind (PM (JF Fr ?_));show ZW _ (newExc (.type "StopIteration") [] >>= _) _ _ _;refine wpAny_bind ?_;simp only[newExc,newTuple];refine wpAny_bind (wpAny_newObj_type (wpAny_bind (m:=firstArgMember _ _) (wpAny_of_eq (a:=Value.none) (by first|rfl|(simp only[firstArgMember];rfl)) (wpAny_newObj_type ?_ (by size_fits)))) (by size_fits));simp only[raiseNew];refine wpAny_bind (wpAny_handled ?_)
 first|rw[show A.in1.handled=none from hh] | rw[hh]
 refine wpAny_bind (GG (wpAny_throw (hE _ _ (((Uk ..).extBut.push _).push _) ⟨_,RY,rfl⟩)))
theorem drawsT(hh:A.handled=none)(j t:Nc)(am:t≠j)(xs:Array Value) :
  Draws prog w A j [j,t] xs.size (λi v=>xs[i]?=some v) (λi h=>h.IsTupleIter j t i∧h.IsTuple t xs) where
 live:=λ_ _ st=>let⟨o,ho,_⟩:=st.1;⟨o,ho⟩
 frame:=λi h h' st k=>⟨st.1.at λo e=>k j Fr o e,let⟨o,e,r⟩:=st.2;⟨o,k t Fr o e,r⟩⟩
 item:=λi s Q E hi st hQ=>by refine next_item st.1 st.2 (x:=xs[i]) (by simp[hi]) λg a b=>?_;obtain⟨o,e,r⟩:=st.2;exact hQ _ g s.toks (by simp[hi]) ⟨a,o,(b.2 t am).trans e,r⟩ b
 done:=λs Q E st hE=>next_end hh st.1 st.2 Fr hE
def new_tuple(t:Nc)(xs:Array Value)(n:Nat)(dct:Option Addr)(sl:Array Rc) :
  Meets (Builtin.«enumerate.__new__» ⟨[.type "enumerate",SI],[]⟩) (λ_ R s=>s.heap.get? t=some {cls:=.type "tuple",dict:=dct,data:=.seq xs n,slots:=sl} ∧
   R (Ee (.ref (s.heap.push {cls:=.type "tuple_iterator",data:=.fields #[SI,O7]}).objs.size))
    {s with heap:=(s.heap.push {cls:=.type "tuple_iterator",data:=.fields #[SI,O7]}).push {cls:=.type "enumerate",data:=.fields #[.none,IX,FY,L8 0,.none,.none]}}):=
 .of_wp λprog w A R s h=>by
  obtain⟨hp,g,d,tk,os⟩:=s;obtain⟨hl,h⟩:=h;have fR:=sub_enumerate;have hL:Heap.IsTuple (Shared.heap ⟨hp,g,d,tk,os⟩) t xs:=⟨_,hl,rfl,n,rfl⟩;wp_walk using wpAny_loadPart' hl;refine wpAny_stack_any λst=>wpAny_pure ?_;split
  ·rename_i c _ _ _ _ _;cases(c==Value.type "enumerate")<;>(wp_walk using wpAny_loadPart' hl,wpAny_pyIter_tuple hL;exact⟨A5,h⟩)
  wp_walk using wpAny_loadPart' hl,wpAny_pyIter_tuple hL;exact⟨A5,h⟩
def call_enum(hL:EI)(h:∀g,IsEnum g Gn s.heap.objs.size 0 .none→g.IsTupleIter s.heap.objs.size t 0→g.objs.size=s.heap.objs.size+2→Gc→Q (Fu Gn) {s with heap:=g}) :
  wpAny Ga A (call (.type "enumerate") [SI]) Q E s:=by
 obtain⟨⟨c,dct,dt,sl⟩,hl,hc,n,hd⟩:=hL;replace hc:c=.type "tuple" :=hc;replace hd:dt=.seq xs n:=hd;subst hc hd;refine callType_new F.called_enumerate Fw (F.typeCall_enumerate_1 _) (F.newCall_enumerate_1 _) (λobj=>F.args_object_init_2 obj _) F.entry_enumerate_new (new_tuple t xs n dct sl) ⟨hl,?_⟩;have hz:(s.heap.push {cls:=.type "tuple_iterator",data:=.fields #[SI,O7]}).objs.size=s.heap.objs.size+1:=Wv ..;show _∧_;rw[hz];have he:IsEnum ((s.heap.push {cls:=.type "tuple_iterator",data:=.fields #[SI,O7]}).push {cls:=.type "enumerate",data:=.fields #[.none,IX,FY,L8 0,.none,.none]}) Gn s.heap.objs.size 0 .none:=by have q:=Qv (s.heap.push {cls:=.type "tuple_iterator",data:=.fields #[SI,O7]}) (o:={cls:=.type "enumerate",data:=.fields #[.none,IX,FY,L8 0,.none,.none]}) rfl;rw[hz]at q;exact q
 exact⟨⟨_,he,rfl⟩,h _ he ⟨_,QS RY,rfl,rfl⟩ (by rw[Wv,hz]) λb o x=>QS (QS x)⟩
end
end Enu
namespace L2
open PySem PySem.Spec PyProof.Rows Enu
def Ite(a:Nc)(K:Na):It:=
 ⟨λi H=>∃xs,UB a xs∧i<xs.length,λi H x H'=>∃y t,(∀xs,UB a xs→xs[i]?=some y)∧H t=none∧x=.ref t∧H'=ZU t (.tup [EN,y]),λi H=>∃xs,UB a xs∧xs.length≤i⟩
theorem turn_enum{P:Nk}{w:Nn}{K:Na}{elts:Nq}{kk:Nat}{pos:Pos}(a e j:Nc)(tM:e≠j)(haj:a≠j)(hae:e≠a) :
  Turn P w K (.Tuple elts kk pos) (Ite a K) [e,j] e (λi h=>(∃old,IsEnum h e j i old)∧h.IsTupleIter j a i) where
 mem:=by simp
 obj:=λi h st b hb=>by
  rcases Qi.mp hb with z|z
  ·subst z;obtain⟨old,q⟩:=st.1;exact⟨_,q,λv z=>by have z':Data.fields _=Data.cell v:=z;cases z'⟩
  rw[Cz];obtain⟨o,q,c,d⟩:=st.2;exact⟨o,q,λv z=>by rw[d]at z;cases z⟩
 keep:=λi h h' st k=>⟨let⟨old,q⟩:=st.1;⟨old,k e Fr _ q⟩,st.2.at λo q=>k j Fr o q⟩
 item:=by
  intro X hP hw hK hc i a7 s σ H E I hf st hg;subst hP hw hK;obtain⟨xs,hq,hi⟩:=hg;obtain⟨a8,rv,p,hz⟩:=I.tuple hq;have hl:=rv.length;obtain⟨⟨old,he⟩,gq⟩:=st;have hh:X.A.in1.handled=none:=I.ok.hd hc;refine wpAny_pyNext_enum_itemD (drawsT hh j a haj a8.toArray) he ⟨gq,p⟩ (by simp;exact zar7 ‹_› ‹_›) tM (by simp[tM,hae]) λx g tk hP ho hs hT hsz hk=>⟨FY,rfl,?_⟩;have fr:∀b,b∈[e,j]→QL b:=hf;obtain⟨e0,e1,e2,e3,e4,e5⟩:=hf e Fr;obtain⟨j0,j1,j2,j3,j4,j5⟩:=hf j Fr;have hHe:∀b u,H b=some u→b≠e∧b≠j:=λb u q=>⟨λz=>(by rw[z,e0]at q;cases q),λz=>(by rw[z,j0]at q;cases q)⟩;have I1:ZA H {s with heap:=g,toks:=tk+1}:=by
   refine I.step (g':=s.gens) (d':=s.drawn) (ch:=[e,j]) (λb hb=>?_) (λb o _ _ hc q _=>hk b o (λz=>hc (by simp[z])) (λz=>hc (by simp[z])) q) (λb o _ _ hc q _=>⟨o.slots,hk b o (λz=>hc (by simp[z])) (λz=>hc (by simp[z])) q⟩) (λ_ _ _ _ n=>n)
    (λb o hc q=>⟨o,hk b o (λz=>hc (by simp[z])) (λz=>hc (by simp[z])) q⟩) (λ_ _ q=>q) (λ_ _ _ q=>q) (λb ps q=>⟨#[],by rw[q];simp⟩) (λm hm=>?_) (λb u q=>?_) I.bare
   ·rcases Qi.mp hb with z|z
    ·subst z;exact⟨e3,e1,e4,e5⟩
    rw[Qd.mp z];exact⟨j3,j1,j4,j5⟩
   ·obtain⟨o,es,ep,q,r⟩:=hm;exact⟨o,es,ep,hk _ o (Zd e1) (Zd j1) q,r⟩
   refine (Y' u q).stay (λc v hc z=>?_) (λ_ z=>z) λ_ _ z=>z;have hcn:c≠e∧c≠j:=by
    rcases hc with rfl|hc
    ·exact hHe c u q
    exact hHe c _ hc
   exact hk c v hcn.1 hcn.2 z
  obtain⟨y,hy⟩:∃y,xs[i]?=some y:=⟨xs[i],Qb hi⟩;obtain⟨u,hu,ru⟩:=rv.get hy;have hP':a8[i]?=some x:=by simpa using hP
  rw[hu]at hP';have hux:u=x:=Qq hP';subst hux;have hN:H s.heap.objs.size=none:=I.hok.fresh Gg;refine wpAny_letOwnedTupleGo_enum ho λg' cv cQ=>?_;have nT:s.heap.objs.size≠e:=Wd (Qu he);have nJ:s.heap.objs.size≠j:=by obtain⟨o,q,_⟩:=gq;exact Wd (Qu q)
  have I2:ZA H {s with heap:=g',toks:=tk+1}:=Inv.turned (s:={s with heap:=g,toks:=tk+1}) (t':=tk+1) (it:=e) I1 (λb o hb q=>(cQ.2 b hb).trans q) e0 e1 e3 e4 e5;have hT':g'.get? s.heap.objs.size=some {cls:=.type "tuple",data:=.seq #[SQ i tk,u]}:=(cQ.2 _ nT).trans hT;have I3:ZA (OH (.tup [EN,y])) {s with heap:=g',toks:=tk+1}:=by
   refine⟨I2.ok,I2.os,I2.bare,⟨I2.base.keep,I2.base.slot,λb o q n hx=>?_,I2.base.there,λb zs q=>?_,λb o v q=>?_,λb ps q=>?_⟩,I2.loc,I2.cell,?_,λz c q=>?_,λpp hp=>?_,λb v q=>?_,I2.len⟩
   ·have lt:b < s.heap.objs.size:=D8 I.sz;rw[zaf PK];exact I2.base.free b o q n hx
   ·have:=I2.base.tups b zs q;rw[zaf (zac this hN)];exact this
   ·have:=I2.base.frzs b o v q;rw[zaf (zac this hN)];exact this
   ·obtain⟨m,z⟩:=I2.base.tbls b ps q;exact⟨m,FQ (A0 z hN) z⟩
   ·rw[zaf (Zk I.lt)];exact I2.free
   ·rw[zaf (Zk (I.cl_lt z c q))];exact I2.freeC z c q
   ·obtain⟨h1,h2,h3⟩:=I2.pin pp hp;exact⟨h1,FQ (Zk (I.pin_lt pp hp)) h2,h3⟩
   by_cases hb:b=s.heap.objs.size
   ·subst hb;rw[zab]at q;cases q;exact⟨Sq,[SQ i tk,u],Ez ⟨tk,rfl⟩ (HY ru),_,hT',rfl,A5⟩
   rw[IK]at q;exact(I2.hok b v q).stay (λc v _ z=>z) (λc z=>by rw[zaf (A0 z hN)];exact z) λc zs z=>by rw[zaf (A0 z hN)];exact z
  refine⟨FY,_,I3,rfl,⟨y,_,λys hys=>by rw[I.tuple_inj hys hq];exact hy,hN,rfl,rfl⟩,⟨⟨u,Fv cv⟩,?_⟩,λb hb=>?_⟩
  ·exact hs.1.at λo q=>(cQ.2 j (Zd tM)).trans q
  rcases Qi.mp hb with z|z
  ·rw[z,zaf (Zd nT)];exact e0
  rw[Qd.mp z,zaf (Zd nJ)];exact j0
 done:=by intro X hP hw hK hc i a7 s σ H E I hf st hg;subst hP hw hK;obtain⟨xs,hq,hi⟩:=hg;obtain⟨a8,rv,p,hz⟩:=I.tuple hq;have hl:=rv.length;obtain⟨⟨old,he⟩,gq⟩:=st;obtain⟨j0,j1,j2,j3,j4,j5⟩:=hf j Fr;have hh:X.A.in1.handled=none:=I.ok.hd hc;have hT:s.TypeIs TJ "enumerate" :=⟨_,he,rfl⟩;unfold pyNext;refine wpAny_bind (SU (wpAny_callSpecial?_slot (name:=Str.ofString "__next__") hT F.slot_enumerate_next (wpAny_call_entry F.slot_enumerate_next hT F.entry_enumerate_next ?_ (F.args_enumerate_next_1 _))));show ZW _ (field TJ 2 >>= _) _ _ _;refine wpAny_bind (wpAny_field he rfl (x:=.ref j) rfl (wpAny_bind (next_end hh gq p (by simp;exact zd2 ‹_› ‹_›) λg x hg hx=>?_)));obtain⟨o,ho,hc⟩:=hx;refine wpAny_bind (wpAny_isInstance (T:= "StopIteration") (b:=true) ⟨o,ho,hc⟩ isSubtype_stop (wpAny_pure ⟨rfl,?_⟩));exact I.turned (t':=s.toks) (λb o hb q=>hg b o hb q) j0 j1 j3 j4 j5
 self:=λA i s Q E st h=>by obtain⟨⟨old,he⟩,_⟩:=st;exact NR h
section
variable{X:Cx}
def iEnum(K:Na)(ta:TA):TI:=λ σ H R=>ta σ H λvs H1=>∃a,vs=[Ht]∧(∃xs,SqT K H1 a xs)∧R (Ite a K) H1
def pi_enum(hg:Mr "enumerate")(hm:X.mg "enumerate" = none)(ha:Vt [a] ta)(hs:starEach [a] X.env=[(false,GX a)]:=by rfl) :
  PI X (.Tuple elts kk tpos) (.Call (.Name "enumerate" p) [a] [] pos) (iEnum X.K ta):=by
 intro a7 s σ H R I h;refine Call_ (J8 boot_enumerate (Xh (thn Rt λus s1 ⟨vs,H1,I1,r1,q1⟩=>?_) hs rfl));obtain⟨t,e,⟨xs,hq⟩,q⟩:=q1;subst e;obtain⟨u,rfl,ru⟩:=vals1 r1;cases ru;obtain⟨a8,rv,pl,hz⟩:=I1.tuple hq;have lt:t<s1.heap.objs.size:=by obtain⟨o,q,_⟩:=pl;exact Qu q
 refine call_enum pl λg he gq hsz k=>NR ?_;have I2:ZA H1 {s1 with heap:=g}:=I1.kept (t':=s1.toks) k;refine⟨s1.heap.objs.size+1,[s1.heap.objs.size+1,s1.heap.objs.size],_,_,H1,rfl,I2,turn_enum t _ _ (Xy _) PK (Wd (Jf lt)),⟨⟨_,he⟩,gq⟩,λb hb=>?_,q⟩;have qA:s1.heap.objs.size≤b:=by
  rcases Qi.mp hb with z|z
  ·rw[z];exact Um _
  rw[Qd.mp z];exact Qh _
 exact I1.fpOk qA (I1.hok.fresh qA)
def for_enum{K:Na}{a:Nc}{xs:List V}{g:TG}{tb:TS}{D:Ends}{σ:St}{H:Hp}(Pv:Nat→St→Hp→Prop)(h0:Co)(hl:∀i σ H,i≤xs.length→Pv i σ H→H a=some Rl)(hs:∀i x t σ H,xs[i]?=some x→Pv i σ H→H t=none→g SI σ (ZU t (.tup [EN,x])) λ σ2 H2=>tb {D with nx:=Pv Gr,ct:=Pv Gr,bk:=D.nx} σ2 H2)(hd:∀σ H,Pv xs.length σ H→W8 H) :
  ∃W:Nat→Nat→St→Hp→Prop,(∃m,W 0 m σ H)∧∀i m σ H,W i m σ H →
   ((Ite a K).stop i H∧W8 H)∨((Ite a K).go i H∧∃N:St→Hp→Prop,Gi∧∀x H',(Ite a K).yld i H x H'→g x σ H' λ σ2 H2=>tb {D with nx:=N,ct:=N,bk:=D.nx} σ2 H2):=by
 refine⟨λi m σ H=>m=xs.length-i∧i≤xs.length∧Pv i σ H,⟨xs.length,Fr,Sv,h0⟩,?_⟩;rintro i m σ H ⟨rfl,hi,p⟩;have q:=hl i σ H hi p;by_cases ad:i<xs.length
 ·refine .inr ⟨⟨xs,HV q,ad⟩,Pv Gr,fun σ' H' p'=>⟨xs.length - Gr,Gk,rfl,ad,p'⟩,λx H' y=>?_⟩;obtain⟨z,t,e1,e3,rfl,rfl⟩:=y;exact hs i z t σ H (e1 xs (HV q)) p e3
 have e:i=xs.length:=by exact zar3 ‹_› ‹_›
 subst e;exact .inl ⟨⟨xs,HV q,Gg⟩,IL⟩
def Its(x:Str):It:=⟨λi _=>i<x.cps.size,λi H v H'=>H'=H∧∃c,x.cps[i]?=some c∧v=.str ⟨#[c]⟩,λi _=>x.cps.size≤i⟩
theorem turn_str{P:Nk}{w:Nn}{K:Na}{tg:Expr}{x:Str}{t:Tok}(it:Nc):XY (Its x) [it] it (λi h=>h.IsStrIter it "str_ascii_iterator" x t i) where
 mem:=by simp
 obj:=λi h st b hb=>by rw[Qd.mp hb];obtain⟨o,e,c,d⟩:=st;exact⟨o,e,λv z=>by rw[d]at z;cases z⟩
 keep:=λi h h' st k=>let⟨o,ho,r⟩:=st;⟨o,k it Fr o ho,r⟩
 item:=by intro X hP hw hK hc i a7 s σ H E I hf st hg;subst hP hw hK;obtain⟨f0,f1,f2,f3,f4,f5⟩:=hf it Fr;have hi:i<x.cps.size:=hg;refine wpAny_pyNext_ascii_item st (c:=x.cps[i]) (by simp[hi]) λh' a9 sb=>?_;have I1:ZA H {s with heap:=h',toks:=s.toks+1}:=I.turned (λb o hb e=>(sb.2 b hb).trans e) f0 f1 f3 f4 f5;obtain⟨o,e,c,d⟩:=id a9;exact⟨A5,go_of (s:={s with heap:=h',toks:=s.toks+1}) e c d Fw ⟨Hy ⟨#[x.cps[i]]⟩,H,I1,⟨A5⟩,⟨rfl,_,by simp[hi],rfl⟩,a9,λb hb=>(hf b hb).1⟩⟩
 done:=by intro X hP hw hK hc i a7 s σ H E I hf st hg;subst hP hw hK;obtain⟨f0,f1,f2,f3,f4,f5⟩:=hf it Fr;have hi:x.cps.size≤i:=hg;exact wpAny_pyNext_ascii_end RT st (by simp[hi]) λh' eb=>⟨rfl,I.turned (t':=s.toks) (λb o hb e=>eb b o hb e) f0 f1 f3 f4 f5⟩
 self:=λ_ _ _ _ _ st h=>wpAny_pyIter_striter_ascii st h
def iStr(tl:TE):TI:=λ σ H R=>tl σ H λv H1=>∃x:Str,v=.str x∧x.cps.all (· < 128)=true∧R (Its x) H1
def pi_str{tg l:Expr}{tl:TE}(hl:OP):JV l (iStr tl):=by intro a7 s σ H R I h;refine thn SH λv s1 ⟨y,H1,I1,r1,q1⟩=>?_;obtain⟨x,e,ha,q⟩:=q1;subst e;obtain⟨t,rfl⟩:=r1;refine wpAny_pyIter_ascii ha ?_;refine⟨s1.heap.objs.size,[s1.heap.objs.size],_,_,H1,rfl,I1.kept (t':=s1.toks) λb o e=>QS e,turn_str (t:=t) _,⟨_,RY,rfl,rfl⟩,λb hb=>?_,q⟩;rw[Qd.mp hb];exact J7 SA
def op_le_str:WS (compareOp .LtE) (λx y H Q=>Ex2 λi j=>Aj3 (x=.str i) (y=.str j) (Lq (!decide (j.cps.toList<i.cps.toList)))):=by intro a7 s σ H x y v u Q I rx ry h;obtain⟨i,j,rfl,rfl,q⟩:=h;obtain⟨t,rfl⟩:=rx;obtain⟨t',rfl⟩:=ry;exact PySem.P.le_str (QN rfl)
end
end L2
namespace L2
open PySem PySem.Spec PyProof.Rows
section
variable{X:Cx}{a7:Nd}{σ:St}{H:Hp}{s:Ni}
inductive RrNil(neg:Bool)(K:Na)(x:V)(y:V)(H:Hp)(Q:VK):Prop
 |mk (l:_) (b:_) (xs:_) (h0:x=.ref l) (h1:y=.ref b) (h2:SqL K H l xs) (h3:SqL K H b []) (h4:Q (.bl (if neg then !xs.isEmpty else xs.isEmpty)) H):RrNil neg K x y H Q
def rNil(neg:Bool)(K:Na):R2:=λx y H Q=>RrNil neg K x y H Q
def zgp(hu:X.A.units<cLine):WS (compareOp .Eq) (rNil false X.K):=by
 intro a7 s σ H x y v u Q I rx ry h;obtain⟨l,b,xs,rfl,rfl,h1,h2,q⟩:=h;cases rx;cases ry;obtain⟨a8,r,pl,_⟩:=I.list h1;obtain⟨ak,r2,dI,_⟩:=I.list h2;cases r2;cases r with
 |nil=>exact SeqAt.eq_listAt (e:=λ_=>true) pl.isList dI.isList rfl hu (λj h1 _=>by simp at h1) ⟨Ll,H,I,rfl,q⟩
 |cons a t=>exact SeqAt.eq_list_lengthsAt pl.isList dI.isList Fr hu ⟨RZ,H,I,rfl,q⟩
def zgn(hu:X.A.units<cLine):WB (rNil true X.K):=by
 intro a7 s σ H x y v u Q I rx ry h;obtain⟨l,b,xs,rfl,rfl,h1,h2,q⟩:=h;cases rx;cases ry;obtain⟨a8,r,pl,_⟩:=I.list h1;obtain⟨ak,r2,dI,_⟩:=I.list h2;cases r2;cases r with
 |nil=>exact SeqAt.RcNeAt.lists (e:=λ_=>true) pl.isList dI.isList rfl hu (λj h1 _=>by simp at h1) _ _ _ _ ⟨RZ,H,I,rfl,q⟩
 |cons a t=>exact SeqAt.RcNeAt.lists_lengths pl.isList dI.isList Fr hu _ _ _ _ ⟨Ll,H,I,rfl,q⟩
def op_ne_same(hu:X.A.units<cLine):WB (λx y H Q=>Ex3 λl b zs=>Aj5 (x=.ref l) (y=.ref b) (Bz l (Bf zs)) (Bz b (Bf zs)) (Q RZ H)):=by
 intro a7 s σ H x y v u Q I rx ry h;obtain⟨l,b,zs,rfl,rfl,h1,h2,q⟩:=h;cases rx;cases ry;obtain⟨a8,r,pl,_⟩:=I.tuple h1;obtain⟨ak,r2,dI,_⟩:=I.tuple h2;have l1:=r.length;have l2:=r2.length;refine SeqAt.RcNeAt.tuples (e:=λ_=>true) pl dI hu (λj j1 j2=>?_) _ _ _ _ ⟨RZ,H,I,?_,q⟩
 ·have a1:j < (Bf zs).length:=by rw[l1];simpa using j1
  have a2:j<zs.length:=by simpa using a1
  have g:(Bf zs)[j]?=some (.str zs[j]):=by simp[a2]
  obtain⟨u1,e1,t1,q1⟩:=r.get g;obtain⟨u2,e2,t2,q2⟩:=r2.get g;have f1:a8.toArray[j]=u1:=by have:=Qb (l:=a8) (i:=j) (Fv j1);rw[this]at e1;simpa using Qq e1
  have f2:ak.toArray[j]=u2:=by have:=Qb (l:=ak) (i:=j) (Fv j2);rw[this]at e2;simpa using Qq e2
  rw[f1,f2,q1,q2];have:=Uo (A:=X.A.in1) (s:=s) zs[j] t1 zs[j] t2;rw[beq_self_eq_true]at this;exact this
 show Value.bool _=Value.bool false;have e1:a8.toArray.size=ak.toArray.size:=by simp;lia
 rw[e1];simp
def eq_pairs(I:Gj)(hu:A.units < cLine)(ha:H a=some (.tup [TD,Hy y]))(hb:H b=some (.tup [Hy x',Hy y'])) :
  SeqAt.EqAt A s Ht ER (decide ((x,y)=(x',y'))):=by
 obtain⟨_,a8,r,p⟩:=YF ha;obtain⟨_,ak,r2,p2⟩:=Y' _ hb;obtain⟨u1,u2,rfl,⟨t1,rfl⟩,⟨t2,rfl⟩⟩:=vals2 r;obtain⟨w1,w2,rfl,⟨t3,rfl⟩,⟨t4,rfl⟩⟩:=vals2 r2;by_cases pd:a=b
 ·subst pd;rw[ha]at hb;cases hb;rw[decide_eq_true rfl];exact SeqAt.EqAt.same _
 have key:=SeqAt.RcAt.tuples (A:=A) (s:=s) (e:=λj=>if j=0 then x == x' else y == y') p p2 hu λj j1 j2=>by
  have jt:j<2:=by simpa using j1
  match j,jt with
  |0,_=>exact Uo x t1 x' t3
  |1,_=>exact Uo y t2 y' t4
 have e:((Ry (min (#[YI t1,Bq t2]:Array Value).size (#[MX t3,Value.str y' t4]:Array Value).size)).all (λj=>if j=0 then x==x' else y==y')&&(#[YI t1,Bq t2]:Array Value).size==(#[MX t3,Value.str y' t4]:Array Value).size)=decide ((x,y)=(x',y')):=by
  show((Ry 2).all (λj=>if j=0 then x==x' else y==y')&&true)=_;rw[show List.range 2=[0,1] from rfl];by_cases hx:x=x'
  ·by_cases hy:y=y'
   ·simp[hx,hy]
   simp[hx,hy]
  simp[hx]
 have rC:SeqAt.RcAt A s Ht ER (decide ((x,y)=(x',y'))):=e▸key;exact SeqAt.EqAt.of_refs pd rC
inductive RrInP(neg:Bool)(K:Na)(x:V)(y:V)(H:Hp)(Q:VK):Prop
 |mk (a p:Nc) (q:Str×Str) (as:Nl) (qs:Nr) (h0:x=.ref a) (h1:y=.ref p) (h2:H a=some (.tup [.str q.1,.str q.2])) (h3:SqL K H p (as.map V.ref)) (h4:Paired (λb (r:Str×Str)=>H b=some (.tup [Ek,El])) as qs) (h5:Lq (if neg then !decide (q∈qs) else decide (q∈qs))):DP Q
def rInP(neg:Bool)(K:Na):R2:=λx y H Q=>DP Q
def in_pairs(I:Gj)(hu:X.A.units+1 < cLine)(ha:H a=some (.tup [.str q.1,.str q.2]))(rv:De a8)(pq:Paired (λb (r:Str×Str)=>H b=some (.tup [Ek,El])) as qs):∃e:Value→Bool,(∀y∈a8,SeqAt.EqAt X.A.in1 s y Ht (e y))∧a8.any e=decide (q∈qs):=by
 refine⟨λv=>match v with | .ref b=>(match H b with|some (.tup [.str x,.str y])=>decide ((x,y)=q)|_=>false)|_=>false,?_,?_⟩
 ·intro y hy;obtain⟨b,hb,rb⟩:=zf7 rv y hy;obtain⟨c,hc,rfl⟩:=Ql.mp hb;cases rb;obtain⟨i,hi,ei⟩:=Zg hc;obtain⟨r,_,hr⟩:∃r,r∈qs∧H c=some (.tup [Ek,El]):=by
   clear rv hy hb hi ei i;induction pq with
   |nil=>cases hc
   |cons h t ih=>
    rcases Qi.mp hc with z|z
    ·subst z;exact⟨_,Qc,h⟩
    obtain⟨r,h1,h2⟩:=ih z;exact⟨r,QM h1,h2⟩
  dsimp only;rw[hr];exact eq_pairs I (by show X.A.units+1<cLine;exact hu) hr ha
 induction pq generalizing a8 with
 |nil=>cases rv;simp
 | cons h t ih=>
  cases rv with
  | cons r1 r2=>
   cases r1;rw[Kt,ih r2];dsimp only;rw[h];rename_i r _ rs _;have:decide (q∈r::rs)=(decide ((r.1,r.2)=q)||decide (q∈rs)):=by
    rw[Yw];simp only[decide_eq_true_eq,Qi,Je];constructor
    ·rintro (z|z)
     ·exact .inl z.symm
     exact .inr z
    rintro (z|z)
    ·exact .inl z.symm
    exact .inr z
   rw[this]
def zhb(hu:X.A.units+1<cLine):WS Lw (rInP true X.K):=by intro a7 s σ H x y v u Q I rx ry h;obtain⟨a,p,q,as,qs,rfl,rfl,ha,hq,pq,q'⟩:=h;cases rx;cases ry;obtain⟨a8,r,pl,_⟩:=I.list hq;obtain⟨e,h1,h2⟩:=in_pairs I hu ha r pq;refine SeqAt.notIn_listAt e pl.isList (λw hw=>h1 w IP) ⟨O5,H,I,?_,q'⟩;show Value.bool (!(a8.toArray.any e))=_;rw[show a8.toArray.any e=a8.any e by simp,h2];rfl
def op_mul_str:WS (binaryOp .Mult) (λx y H Q=>Ex2 λ(z:Str) (n:Nat)=>Aj5 (x=.str z) (y=.int n) (z.length≤1000) (n≤1000) (Q (Hy (Txt.mul z n)) H)):=by intro a7 s σ H x y v u Q I rx ry h;obtain⟨z,n,rfl,rfl,h1,h2,q⟩:=h;obtain⟨t,rfl⟩:=rx;obtain⟨t',rfl⟩:=ry;exact SB.mul (mulOk_of 1000 1000 h1 Fs Fs Fw Fw) λt' k=>⟨Hy _,H,HI,⟨t',rfl⟩,q⟩
theorem argBest_lt:∀k,argBest bt k≤k
 |0=>Qh _
 |k+1=>by
  show(if bt (k+1) (argBest bt k)=true then k+1 else argBest bt k)≤k+1;split
  ·exact Qh _
  exact Ji (argBest_lt k)
theorem zdi(f:Nat→List Nat):∀k j,j≤k→¬f j<f (argBest (λi j=>decide (f i<f j)) k)
 |0,j,h=>by
  have:j=0:=by lia
  subst this;exact Ua _
 | k+1,j,h=>by
  show ¬f j<f (if decide (f (k+1)<f (argBest (λi j=>decide (f i<f j)) k))=true then k+1 else argBest (λi j=>decide (f i<f j)) k);by_cases ad:f (k+1)<f (argBest (λi j=>decide (f i<f j)) k)
  ·rw[HK (Gh ad)];by_cases hj:j=k+1
   ·subst hj;exact Ua _
   intro z;exact zdi f k j Fs (List.lt_trans z ad)
  rw[Rb (Fv ad)];by_cases hj:j=k+1
  ·subst hj;exact ad
  exact zdi f k j Fs
def zi4(hc:X.calm=true):YV (.builtin "min") (λxs H Q=>Ex2 λ(p:Nc) (zs:Nh)=>Aj4 (xs=[Te]) (WC Hz) (zs≠[]) (∀z∈zs,(∀y∈zs,leS z y)→Q To H)):=by
 intro a7 s σ H xs us Q I r h;obtain⟨p,zs,rfl,hq,am,q⟩:=h;obtain⟨u,rfl,rx⟩:=vals1 r;cases rx;have bg:0<zs.length:=Uf.mpr am;refine call_min_walk (zh6 hc I hq λa8 It h1 rv W st lt keep=>⟨It,_,_,_,_,_,λi j=>decide ((Ra i).cps.toList<(Ra j).cps.toList),rfl,W,st,lt,?_,λi j vi vj s' Q' E' hi hj dP=>?_,λv h' tk hv k=>?_⟩)
 ·have:=rv.length;rw[Qa]at this;rw[Qp];exact zar7 ‹_› ‹_›
 ·have gs:∀ (i:Nat) (v:Value),a8.toArray[i]?=some v→∃ t,v=.str (Ra i) t:=λi v e=>by
   have e':a8[i]?=some v:=by simpa using e
   have hi:i<a8.length:=(LP e').1;have hl:=rv.length;rw[Qa]at hl;have ao:i<zs.length:=by exact zar6 ‹_› ‹_›
   obtain⟨u,e2,t,e3⟩:=rv.get (i:=i) (x:=.str zs[i]) (by simp[ao]);rw[e']at e2;cases e2;exact⟨t,by rw[e3];simp[List.getD,ao]⟩
  obtain⟨t1,rfl⟩:=gs i vi hi;obtain⟨t2,rfl⟩:=gs j vj hj;exact lt_str dP
 have hl:=rv.length;rw[Qa]at hl;have hk:=argBest_lt (bt:=λi j=>decide ((Ra i).cps.toList<(Ra j).cps.toList)) (a8.toArray.size-1);generalize hb:argBest (λi j=>decide ((Ra i).cps.toList<(Ra j).cps.toList)) (a8.toArray.size-1)=b at hv hk;have eG:b<zs.length:=by rw[Qp]at hk;lia
 have jy:a8[b]?=some v:=by simpa using hv
 obtain⟨u,e2,t,e3⟩:=rv.get (i:=b) (x:=.str zs[b]) (by simp[eG]);rw[jy]at e2;cases e2;refine⟨.str zs[b],H,Ds k,⟨t,e3⟩,q _ (Qn eG) λy hy=>?_⟩;obtain⟨j,hj,ej⟩:=Zg hy;have:=zdi (λi=>(Ra i).cps.toList) (a8.toArray.size-1) j (Gp Qp);rw[hb]at this;have g1:zs.getD b Str.empty=zs[b]:=by simp[List.getD,eG]
 have g2:zs.getD j Str.empty=y:=by simp[List.getD,hj,ej]
 rw[g1,g2]at this;exact this
def eqV_self{x:V}(f:zd3 x=true):eqV x x=true:=by
 cases x with
 |non=>rfl
 |bl b=>exact beq_self_eq_true b
 |int i=>exact beq_self_eq_true i
 |str z=>exact beq_self_eq_true z
 |_=>cases f
end
end L2
namespace DictR
open PySem PyProof.Rows PySem.Spec
def miss_keys:typeLookup (.type "list") "keys" = pure none:=am_miss_of_fast FK
section
variable{prog:Nk}{w:Nn}{A:Np}{E:Nb}{s:Ni}
def no_keys{a:Nc}{xs:Array Value}{k:Nat}{sl:Array Rc}{Q:Option Value→Shared→Prop}(hx:s.heap.get? a=some {cls:=.type "list",dict:=none,data:=.seq xs k,slots:=sl})(hA:A.handled=none)(h:∀g tk,Gc→Q none {s with heap:=g,toks:=tk}):ZG (getAttr? Ht "keys") Q E s:=by
 obtain⟨hp,g,d,tk,os⟩:=s;have hT:∀t',(⟨hp,g,d,t',os⟩:Shared).TypeIs Ht "list" :=λ_=>⟨_,hx,rfl⟩;have f1:=sub_AttributeError;have f3:=F.slot_list_getattribute.lookup;have f4:=F.slot_list_getattribute.bind Ht;have f5:=am_list_getattr_none;unfold getAttr? getAttrBy? getAttrBy
 repeat(any_goals (first|assumption|exact hT _|((with_reducible show ZW _ (call (Value.builtin "list.__getattribute__") _ _) _ _ _);refine call_meets F.slot_list_getattribute (hT _) am_entry_list_getattribute (F.args_list_getattribute_2 _ _) (meets_getattribute_miss_list a xs k sl "keys" _ miss_keys FK FK) ⟨hx,hA,λh' pF e bv=>?_⟩)|wp_step))
 obtain⟨t',u',he⟩:=bv.there;show ZW _ (getattributeRaised _ _ _ _ _ _ _) _ _ _;unfold getattributeRaised
 repeat(any_goals (first|assumption|wp_step))
 exact h h' pF bv.keeps
def zhu:entryFor table "dict.update.loop" = some Builtin.«dict.update.loop»:=entryFor_of_tree (by kernel_rfl)
def zdx:plainId "dict.update.loop" = true:=by decide+kernel
structure Row(K:Type) where
 a:Addr
 o:Obj
 k:K
 key:Value
 val:Value
 n:Nat
end
section
variable{prog:Nk}{w:Nn}{A:Np}{E:Nb}{s:Ni} {K:Type}[DecidableEq K]{knd:KeyKind prog w K}
def RowAt(knd:KeyKind prog w K)(h:No)(r:Row K):Prop:=h.get? r.a=some r.o∧r.o.cls=.type "tuple" ∧ r.o.data=.seq #[r.key,r.val] r.n∧knd.is r.k r.key=true
def stored_new{kvs:List (K×Value)}(h:k∉kvs.map (·.1)):stored kvs k v=kvs++[(k,v)]:=by unfold stored;rw[if_neg];intro z;obtain⟨p,hp,e⟩:=Bc.mp z;exact h (LL ⟨p,hp,Os e⟩)
def loop{R:Nv}{I l:Nc}(hh:A.handled=none)(rows:Se (Row K))(d:Nc)(tQ:d≠I)(hV:d≠l)(hlI:l≠I)(hr:∀ r∈rows,r.a≠d∧r.a≠I)(nd:(rows.map (·.k)).Nodup)(hz:rows.length≤sizeLine) :
  ∀(m i:Nat) (s:Ni),rows.length-i=m→i≤rows.length→s.heap.IsListIter I l i→s.heap.IsList l (rows.map λr=>Value.ref r.a).toArray→(∀r∈rows,Fi r)→s.heap.DictOf knd d ((rows.take i).map λr=>(r.k,r.val)) →
   (∀g tk,(∀b o,b≠d→b≠I→s.heap.get? b=some o→g.get? b=some o)→g.DictOf knd d (rows.map λr=>(r.k,r.val))→R (.ok E2) {s with heap:=g,toks:=tk}) →
   codeAny Ga A (.builtin "dict.update.loop" ⟨[Fu d,Fu I,L8 i,.none],[]⟩) R s:=by
 intro m;induction m with
 |zero=>
  intro i s hm hi st hl hR hd hQ;obtain rfl:i=rows.length:=by lia
  refine codeAny_builtin zhu ?_;rw[Ud zdx _];show ZW A.in1 (pyNext (Fu I) >>= _) _ _ s;refine wpAny_bind (wpAny_pyNext_list_end (show A.in1.handled=none from hh) st hl Fr λg eb=>?_);show ZW A.in1 (Builtin.Dict.addKeywords d [] >>= λ_=>ret Value.none) _ _ _;refine wpAny_bind (show ZW A.in1 (pure ()) _ _ _ from wpAny_pure (wpAny_pure (hQ g s.toks (λb o _ hb e=>eb b o hb e) ?_)));rw[Qm Gg]at hd;exact hd.extBut eb tQ
 | succ m ih=>
  intro i s hm hi st hl hR hd hQ;have lt:i<rows.length:=by lia
  obtain⟨e1,e2,e3,e4⟩:=hR rows[i] (Qn lt);obtain⟨n1,n2⟩:=hr rows[i] (Qn lt);refine codeAny_builtin zhu ?_;rw[Ud zdx _];show ZW A.in1 (pyNext (Fu I) >>= _) _ _ s;refine wpAny_bind (Bm hl (x:=.ref rows[i].a) (by simp[lt]) λg a9 sb=>?_);have k1:∀b o,b≠I→s.heap.get? b=some o→g.get? b=some o:=λb o hb e=>(sb.2 b hb).trans e;have tS:g.DictOf knd d ((rows.take i).map λr=>(r.k,r.val)):=hd.sameBut sb tQ;refine wpAny_bind (wpAny_holding ?_);refine wpAny_bind (wpAny_tryCatch ?_);show ZW A.in1 (Builtin.Dict.pairItems (.ref rows[i].a)) _ _ _;unfold Builtin.Dict.pairItems;refine wpAny_bind (wpAny_typeOf (T:= "tuple") ⟨_,k1 _ _ n2 e1,e2⟩ ?_);rw[if_pos Fw];refine wpAny_bind (wpAny_seqItems (k1 _ _ n2 e1) e3 (wpAny_pure ?_));show ZW A.in1 (holding [rows[i].key,rows[i].val] (dictSet d rows[i].key rows[i].val)) _ _ _;have nk:rows[i].k∉((rows.take i).map λr=>(r.k,r.val)).map (·.1):=by
   rw[Zu];intro q;obtain⟨r,aV,eV⟩:=Ql.mp q;obtain⟨j,hj,ej⟩:=Zg aV;rw[Ze]at hj;rw[Jj]at ej;have cq:j<rows.length:=by lia
   have:(rows.map (·.k))[j]'(Fv cq)=(rows.map (·.k))[i]'(Fv lt):=by rw[Zm,Zm,ej];exact eV
   have:=(Wu nd).mp this;lia
  refine wpAny_holding (wpAny_dictSet_pairs (knd:=knd) e4 tS (λg2 oO sb2=>?_) (by rw[Qa,Ze];lia));rw[stored_new nk]at oO;have oN:g2.DictOf knd d ((rows.take Gr).map λr=>(r.k,r.val)):=by rw[Qj lt,Qr];exact oO
  have k2:∀b o,b≠d→b≠I→s.heap.get? b=some o→g2.get? b=some o:=λb o hZ eG e=>(sb2.2 b hZ).trans (k1 b o eG e);have hc:((i:Int)+1)=((i+1:Nat):Int):=by push_cast;rfl
  refine wpAny_pure ⟨plainId_quiet zdx _,?_⟩;rw[hc];refine ih Gr _ Fs lt ?_ ?_ (λr nE=>?_) oN λg3 tk3 k3 tR=>?_
  ·obtain⟨o,q,z⟩:=a9;exact⟨o,(sb2.2 I (Zd tQ)).trans q,z⟩
  ·obtain⟨o,q,z⟩:=hl;exact⟨o,k2 l o (Zd hV) hlI q,z⟩
  ·obtain⟨q1,q2⟩:=hR r nE;exact⟨k2 _ _ (hr r nE).1 (hr r nE).2 q1,q2⟩
  exact hQ g3 tk3 (λb o hZ eG e=>k3 b o hZ eG (k2 b o hZ eG e)) tR
def call{l:Nc}{rows:List (Row K)}{Q:Nb}{xk:Nat}(hh:A.handled=none)(hl:s.heap.get? l=some {cls:=.type "list",data:=.seq (rows.map λr=>Value.ref r.a).toArray xk})(hR:∀r∈rows,Fi r)(nd:(rows.map (·.k)).Nodup)(hz:rows.length≤sizeLine)(h:∀g tk,g.DictOf knd s.heap.objs.size (rows.map λr=>(r.k,r.val))→Gc→Q FY {s with heap:=g,toks:=tk}) :
  wpAny Ga A (call (.type "dict") [Sh]) Q E s:=by
 refine callType_codes (Q₁:=λobj s₁=>obj=.ref s.heap.objs.size∧s₁={s with heap:=s.heap.push {cls:=.type "dict",data:=.dict #[]}}) PySem.F.kt_called_dict (PySem.F.kt_typeCall_dict_1 _) PySem.F.entry_dict_init (kt_code_dict_new _ ⟨rfl,rfl⟩) ?_;rintro obj s₁ ⟨rfl,rfl⟩;have cF:(s.heap.push {cls:=.type "dict",data:=.dict #[]}).DictOf knd s.heap.objs.size []:=Heap.DictOf.new s.heap;refine⟨cF.typeIs,PySem.F.args_dict_init_2 _ _,?_⟩;unfold Builtin.«dict.__init__»;refine wpAny_bind ?_;unfold Builtin.Dict.selfAndRest;refine wpAny_bind (wpAny_notOrdered_dict cF.typeIs (show ZW _ (pure (s.heap.objs.size,[TC l])) _ _ _ from wpAny_pure ?_));show ZW _ (Builtin.Dict.updateFrom "dict.__init__" s.heap.objs.size Sh [] .none) _ _ _;unfold Builtin.Dict.updateFrom;have ck:(s.heap.push {cls:=.type "dict",data:=.dict #[]}).get? l=some {cls:=.type "list",data:=.seq (rows.map λr=>Value.ref r.a).toArray xk}:=QS hl;refine wpAny_bind (wpAny_typeOf (T:= "list") ⟨_,ck,rfl⟩ ?_);rw[if_pos Fw];refine wpAny_bind (no_keys ck (by first|exact hh|(show A.handled=none;exact hh)) λg tk kg=>?_);simp only[Option.isNone_none,if_true];refine wpAny_bind (wpAny_rule ?_);have ltl:l<s.heap.objs.size:=Qu hl;have dg:g.DictOf knd s.heap.objs.size []:=by obtain⟨o,es,ep,q,z⟩:=cF;exact⟨o,es,ep,kg _ _ q,z⟩
 have hlg:g.IsList l (rows.map λr=>Value.ref r.a).toArray:=⟨_,kg _ _ ck,rfl,xk,rfl⟩;have ltd:s.heap.objs.size<g.objs.size:=by obtain⟨o,es,ep,q,z⟩:=dg;exact Qu q
 have lts:∀b o,s.heap.get? b=some o→b≠s.heap.objs.size∧b≠g.objs.size:=λb o e=>⟨Ec,Zk (Wt (Qu e) ltd)⟩;refine wpAny_bind (wpAny_pyIter_list (s:={s with heap:=g,toks:=tk}) hlg (GG ⟨plainId_quiet zdx _,?_⟩));refine loop (knd:=knd) (I:=g.objs.size) (l:=l) (by first|exact hh|(show A.handled=none;exact hh)) rows s.heap.objs.size (Zk ltd) (Wd ltl) (Zk (Wt ltl ltd)) (λr hr=>lts r.a r.o (hR r hr).1) nd hz _ 0 _ rfl Sv ⟨_,RY,rfl,rfl⟩ ?_ (λr hr=>?_) ?_ λg2 pE k2 hd=>?_
 ·obtain⟨o,q,z⟩:=hlg;exact⟨o,QS q,z⟩
 ·obtain⟨q1,q2⟩:=hR r hr;exact⟨QS (kg _ _ (QS q1)),q2⟩
 ·exact dg.push _
 exact⟨rfl,h g2 pE hd λb o e=>k2 b o (lts b o e).1 (lts b o e).2 (QS (kg _ _ LY))⟩
end
end DictR
namespace L2
open PySem PySem.Spec PyProof.Rows
section
variable{X:Cx}
abbrev RowsAt(H:Hp):List Addr→List (Str×V)→Prop:=Paired λa p=>H a=some (.tup [.str p.1,p.2])
theorem rows_of(I:Gj):∀{as:Nl} {ps:List (Str×V)},RowsAt H as ps →
  ∃rows:List (DictR.Row Key),rows.map (·.a)=as∧(∀r∈rows,DictR.RowAt S0 s.heap r)∧rows.map (·.k)=ps.map (λp=>Sum.inr p.1)∧KV (ps.map λp=>((Sum.inr p.1:Key),p.2)) (rows.map λr=>(r.k,r.val))
 |_,_,.nil=>⟨[],rfl,λr hr=>(by cases hr),rfl,.nil⟩
 |a::as,p::ps,.cons h t=>by
  obtain⟨rows,e1,e2,e3,e4⟩:=rows_of I t;obtain⟨_,a8,r,o,q,c,n,d⟩:=YF h;obtain⟨u,w',rfl,⟨tk,rfl⟩,rz⟩:=vals2 r;refine⟨⟨a,o,Sum.inr p.1,.str p.1 tk,w',n⟩::rows,by rw[Qo,e1],λx hx=>?_,by rw[Qo,Qo,e3],.cons ⟨rfl,rz⟩ e4⟩;rcases Qi.mp hx with z|z
  ·subst z;exact⟨q,c,d,zgu _ _ _ _⟩
  exact e2 x z
def zd6(hc:X.calm=true):YV (.type "dict") (λxs H Q=>Ex3 λ(p:Nc) (as:Nl) (ps:Se (Str×V))=>Aj5 (xs=[Te]) (H p=some Hs) (RowsAt H as ps) ((ps.map (·.1)).Nodup) (∀ l,H l=none→Q Sh (ZU l (.dK (ps.map λp=>((Sum.inr p.1:Key),p.2)))))):=by
 intro a7 s σ H xs us Q I r h;obtain⟨p,as,ps,rfl,hp,hr,nd,q⟩:=h;obtain⟨u,rfl,rx⟩:=vals1 r;cases rx;obtain⟨hz,a8,n,rv,hl,e⟩:=I.lstM hp;obtain⟨rows,e1,e2,e3,e4⟩:=rows_of I hr;have eits:a8=rows.map λr=>Value.ref r.a:=by
  have cZ:=e1;clear hz hl e hp e4 e3 e2 hr e1 q;induction rows generalizing as a8 with
  |nil=>subst cZ;cases rv;rfl
  | cons r rs ih=>
   cases as with
   |nil=>cases cZ
   |cons a as=>
    rw[Qo]at cZ rv;injection cZ with h1 h2;cases rv with
    |cons r1 r2=>cases r1;rw[Qo,h1,ih _ _ r2 h2]
 subst eits;have aa:rows.length≤sizeLine:=by rw[Qa]at hz hl;rw[Qa]at hl;exact zd2 ‹_› ‹_›
 have ndk:(rows.map (·.k)).Nodup:=by rw[e3,show(λp:Str×V=>(Sum.inr p.1:Key))=(Sum.inr:Str→Key)∘(λp:Str×V=>p.1) from rfl,←Zu];exact XW (λa b z q=>z (Kk q)) nd
 refine DictR.call (knd:=Q2 X.w) (rows:=rows) (xk:=n) RT e e2 ndk aa λg tk hd k=>?_;have nS:(s.heap.objs.size==sysModules)=false:=beq_eq_false_iff_ne.mpr (Wd I.big);refine⟨Fu _,_,I.laid (t':=tk) k Gg (show Z5 _ g _ (.dK _) from⟨?_,nS,_,e4,hd⟩),rfl,q _ C2⟩;have:=Zl e4;rw[Qa,Qa]at this;rw[Qa];lia
def zi1{prog:Nk}{w:Nn}{A:Np}{s:Ni}{kx vx target iter:Expr}{ifs:Nq}{scope:Scope}{pos:Pos}{it:Value}{D:Nc}{env:Env}{R:Nv}(I:Nat→Shared→Prop)(turn:∀ n s,I n s→wpAny (model prog w) A (pyNext it) (λr s₁=>match r with
   |none=>R Aw s₁
   | some v=>ZG IE (λ_ s₁'=>ZG Aa (λ_ s₂=>
     wpAny Ga A (forIn ifs true λc r=>if r=true then do let ok ←isTrue c env (Cb c);pure (HU ok) else pure (HU r)) (λok s₃=>
      if ok=true then ZG (Cb kx) (λkv s₄=>ZG (Cb vx) (λvv s₅=>wpAny Ga A (dictSet D kv vv) (λ_ s₆=>∃m,m<n∧I m s₆) (λ_ _=>False) s₅) (λ_ _=>False) s₄) (λ_ _=>False) s₃
      else ∃m,m<n∧I m s₃) (λ_ _=>False) s₂) (λ_ _=>False) s₁') (λ_ _=>False) s₁) (λ_ _=>False) s)(n:Nat)(h:I n s):codeAny Ga A (.compLoop (.DictComp kx vx [⟨target,iter,ifs,0⟩] scope pos) 0 it HQ env) R s:=by
 refine codeAny_loop rfl I (λn s hI=>?_) n h;show ZW A ((compTurn (.DictComp kx vx [⟨target,iter,ifs,0⟩] scope pos) 0 it HQ env).onRaise (λx=>do noteFrame x env;theTreesLotGoes x)) _ _ s;refine wpAny_noted ?_;rw[compTurn_dict];refine wpAny_bind (wpAny_standAt (wpAny_bind (Mu (λr s₁ h₁=>?_) λ_ _ h'=>h'.elim)));cases r with
 |none=>exact wpAny_pure h₁
 |some v=>
  refine wpAny_bind (Vu (λ_ s₁' h₁'=>?_) λ_ _ h'=>h'.elim);refine wpAny_bind (Fd (λ_ s₂ h₂=>wpAny_bind (Vv (λok s₃ h₃=>?_) λ_ _ h'=>h'.elim)) λ_ _ h'=>h'.elim);cases ok with
  |false=>exact wpAny_pure ⟨rfl,h₃⟩
  |true=>exact wpAny_bind (wpAny_bind (wpAny_mono h₃ (λkv s₄ h₄=>wpAny_bind (wpAny_holding (wpAny_mono h₄ (λvv s₅ h₅=>wpAny_bind (wpAny_standAt (wpAny_holding (wpAny_mono h₅ (λ_ s₆ h₆=>wpAny_pure ⟨rfl,h₆⟩) λ_ _ h'=>h'.elim)))) λ_ _ h'=>h'.elim))) λ_ _ h'=>h'.elim))
variable{sc:Scope}{M:Nh}{ix:Nu}{a7:Nd}{σ:St}{H:Hp}{s:Ni}
def rDC(g:TG)(tc:TT)(tk tv:TE)(Q:VK)(J:It)(τ:St)(H1:Hp):Prop:=∃W:Nat→Nat→List (Key×V)→St→Hp→Prop,(∃m,W 0 m [] τ H1)∧∀i m ys τ H,W i m ys τ H →
 (VH H∧∀D,H D=none→Q HQ (ZU D AC)) ∨
 (Dm H∧ys.length<sizeLine∧∀x H',B8 H'→g x τ H' λ τ2 H2=>tc τ2 H2 λb H3=>if b=true then tk τ2 H3 λkv H4=>tv τ2 H4 λy H5=>∃k,kv=kV k∧∃m',m'<m∧W Gr m' (putK ys k y) τ2 H5 else ∃m',m'<m∧W Gr m' ys τ2 H3)
def tDC(ix:Nu)(wi:TI)(g:TG)(tc:TT)(tk tv:TE):TE:=λ σ H Q=>wi σ H λJ H1=>VX H1
def dc_block{tg kx vx iter:Expr}{ifs:Nq}{pos:Pos}{g:TG}{tc:TT}{tk tv:TE}{fp:Nl}{it:Nc}{tn:Nat→Heap→Prop}{J:It}{Q:VK}{RR:Value→Addr→Result→Shared→Prop}{E:Nb}(B:YX ix)(hc:X.calm=true)(hg:∀C ex s H,JX g)(ht:∀C ex s H,UU tc)(hk:∀C ex s H,J0 kx tk)(he:∀C ex s H,J0 vx tv)(I:Gj)(T:U7 tn)(h0:IW)(hf:∀b∈fp,QL b)(q:VX H)(kY:∀D C m ys H' s',ZA (Y8 AC) s'→Q HQ (Y8 AC)→s'.heap.Ns C m→Y8 AC C=none→s.heap.objs.size<C→RR HQ C Aw s') :
  wpAny FE X.A newDict (λaj s₃=>ZF GV (λcenv s₄=>codeAny FE X.A (.compStart (.DictComp kx vx [⟨tg,iter,ifs,0⟩] sc pos) 0 Rr aj {cenv with scope:=relabel sc X.env}) Lg s₄) E s₃) E s:=by
 refine wpAny_newObj_type (wpAny_newFunctionEnv B.nocell (by intro y hy;simp at hy) (λh₁ hns₁ hsb₁=>?_) B.kind);dsimp only at hns₁ hsb₁ ⊢;generalize hD:s.heap.objs.size=D at hns₁ hsb₁ ⊢;generalize fB:s.heap.push {cls:=.type "dict",dict:=none,data:=.dict #[]}=g2 at hns₁ hsb₁ ⊢;have hC:g2.objs.size=D+1:=by rw[←fB,Wv,hD]
 have k2:∀b o,s.heap.get? b=some o→g2.get? b=some o:=λb o e=>by rw[←fB];exact QS e
 have I3:ZA H {s with heap:=g2}:=I.kept (t':=s.toks) k2;have HD:H D=none:=I.hok.fresh (by rw[hD];exact Qh _);have fD:QL D:=I.fpOk (by rw[hD];exact Qh _) HD;have D2:g2.get? D=some {cls:=.type "dict",dict:=none,data:=.dict #[]}:=by rw[←fB,←hD];exact UN rfl
 have nS:(D==sysModules)=false:=beq_eq_false_iff_ne.mpr (by rw[←hD];exact Wd I.big);have k1:∀b o,g2.get? b=some o→h₁.get? b=some o:=λb o e=>by have hb:b≠g2.objs.size:=Zk (Qu e);exact(hsb₁.2 b hb).trans LY
 have DN:h₁.DictOf S0 D []:=by
  have q:g2.DictOf S0 D []:=by rw[←fB,←hD];exact Heap.DictOf.new s.heap
  obtain⟨o,es,ep,e,r⟩:=q;exact⟨o,es,ep,k1 _ _ e,r⟩
 have fpx:∀b∈D::fp,QL b:=λb hb=>by
  rcases Qi.mp hb with e|e
  ·rw[e];exact fD
  exact hf b e
 have fplt:∀b∈D::fp,b<g2.objs.size:=λb hb=>by
  rcases Qi.mp hb with e|e
  ·rw[e,hC];exact Yr _
  obtain⟨o,q,_⟩:=WX h0 b e;exact Qu (k2 b o q)
 have fpD:D∉fp:=λhm=>by obtain⟨o,q,_⟩:=WX h0 D hm;have:=Qu q;rw[hD]at this;exact Yy _ this
 generalize ap:zc0 X sc M g2.objs.size a7 (D::fp) {s with heap:=g2} H=Y;have IY:JQ [] Ik H {s with heap:=h₁,toks:=s.toks+([]:List (Str×Value)).length}:=by rw[←ap];exact inv_blk B I3 fpx fplt rfl hns₁ k1 rfl rfl
 have Yg:=ap▸hg g2.objs.size (D::fp) {s with heap:=g2} H;have Yt:=ap▸ht g2.objs.size (D::fp) {s with heap:=g2} H;have Yk:=ap▸hk g2.objs.size (D::fp) {s with heap:=g2} H;have Ye:=ap▸he g2.objs.size (D::fp) {s with heap:=g2} H;have eP:Y.prog=X.prog:=by rw[←ap];rfl
 have eW:Y.w=X.w:=by rw[←ap];rfl
 have eK:Y.K=X.K:=by rw[←ap];rfl
 have eA:Y.A=X.A:=by rw[←ap];rfl
 have eC:Y.calm=true:=by rw[←ap];exact hc
 have eE:Y.env=compEnvC sc SJ g2.objs.size X.env:=by rw[←ap];rfl
 have eX:Y.xe=λ_ _=>False:=by rw[←ap];rfl
 have eEx:Y.ex=D::fp:=by rw[←ap];rfl
 have eFs:Y.fs=frs X.stack:=by rw[←ap];rfl
 have ePn:Y.pn=X.pn++a7:=by rw[←ap];rfl
 have eL:Y.env.locals=g2.objs.size:=by rw[eE];rfl
 have pz:Y.H₀=H:=by rw[←ap];rfl
 have jc:Y.s₀={s with heap:=g2}:=by rw[←ap];rfl
 have fY:∀{H':Hp} {pl:Nd} {b:Nc},b∈D::fp→H' b=none→(∀p∈pl,p.1≠b)→MT pl H' b:=λ{H' pl b} hb hn hp=>by
  obtain⟨f0,f1,f2,f3,f4,f5⟩:=fpx b hb;refine⟨hn,?_,?_,.inl LS,NL LS |>.2,λp cU=>?_⟩
  ·rw[eL];exact Zk Ax
  ·rw[eFs];intro z;rcases Qi.mp (NM z) with q|q
   ·exact f1 q
   exact f2 q
  rw[ePn]at cU;rcases Qg.mp cU with z|z
  ·exact f5 p z
  exact hp p z
 obtain⟨W,⟨m0,w0⟩,turn⟩:=q;have loop:∀ sN:Shared,sN={ s with heap:=h₁,toks:=s.toks+([]:List (Str×Value)).length } →
   codeAny FE X.A (.compLoop (.DictComp kx vx [⟨tg,iter,ifs,0⟩] sc pos) 0 Rr HQ (compEnvC sc SJ g2.objs.size X.env)) CO sN:=by
  rintro sN rfl;refine zi1 (λn s'=>Ex5 λi τ H' ys vs=>Aj7 (JQ [] τ H' s') CK (∀b∈D::fp,H' b=none) (s'.heap.DictOf S0 D vs) (KV ys vs) (ys.length≤sizeLine) Iv) ?_ m0
   ⟨0,Ik,H,[],[],IY,Q1 h0 λb _ o e=>k1 b o Cf,λb hb=>(fpx b hb).1,DN,.nil,Sv,w0⟩
  rintro n s5 ⟨i,τ,H5,ys,vs,I5,t5,n5,dd5,v5,z5,w5⟩;obtain⟨o5,l8,uh,d5,qF⟩:=id dd5;have nc5:∀v,o5.data≠.cell v:=λv z=>by obtain⟨_,q,_⟩:=qF;rw[q]at z;cases z
  have oD:∀b∈[D],∃o,s5.heap.get? b=some o∧∀v,o.data≠.cell v:=λb hb=>by rw[Qd.mp hb];exact⟨_,d5,nc5⟩
  have i8:JQ ([]++zca [D] s5.heap) τ H5 s5:=I5.pinned (λb hb=>fY (by rw[Qd.mp hb];exact Qc) (n5 b (by rw[Qd.mp hb];exact Qc)) Fr) oD;have pD:∀p∈zca [D] s5.heap,p.1=D∧p.2=o5:=λp hp=>by obtain⟨e1,e2⟩:=zex hp;have cZ:p.1=D:=Qd.mp e1;rw[cZ,d5]at e2;exact⟨cZ,(Qq e2).symm⟩
  have fN:∀{H':Hp},(∀b∈fp,H' b=none)→∀b∈fp,MT ([]++zca [D] s5.heap) H' b:=λhn b hb=>fY Tr Ab λp hp z=>by rw[Kg]at hp;rw[(pD p hp).1]at z;exact fpD (z▸hb)
  rcases K0 w5 with⟨stop,qn⟩|⟨go,zl,step⟩
  ·have h6:=UO (λ_ _=>False) i8 (fN λb hb=>n5 b Tr) t5 stop;rw[eA]at h6;refine thn h6 λr s6 ⟨hr,I6⟩=>?_;subst hr;have d6:s6.heap.get? D=some o5:=by have hp:=zbo (fp:=[D]) Ss d5;exact(I6.pin (D,_) (YT hp)).1
   have H5D:H5 D=none:=n5 D Qc;obtain⟨mL,nL,_⟩:=I6.loc;rw[eL]at nL;have CD:g2.objs.size≠D:=by rw[hC];exact Xy _
   refine kY D _ mL ys H5 s6 ?_ (qn D H5D) nL ?_ (by rw[hC,hD];exact Yr _)
   ·have u6:=I6.base;rw[eFs,eEx,pz,jc]at u6;refine I3.call' (ch:=D::fp) (I6.os.trans (by rw[jc])) ⟨u6.keep,u6.slot,λb o e n hx=>?_,u6.there,λb xs e=>?_,λb o u e=>?_,λb ps e=>?_⟩ ?_ I6.bare λb hb=>?_
    ·rw[zaf (λz=>hx C4)];exact u6.free b o e n hx
    ·rw[zaf Cg];exact u6.tups b xs e
    ·rw[zaf Cg];exact u6.frzs b o u e
    ·rw[zaf Cg];exact u6.tbls b ps e
    ·have iK:=I6.hok;rw[eP,eW]at iK;intro b u e;by_cases hb:b=D
     ·subst hb;rw[zab]at e;cases e;exact⟨z5,nS,vs,v5,o5,l8,uh,d6,qF⟩
     rw[IK]at e;exact(iK b u e).stay (λc v _ q=>q) (λc q=>by rw[zaf ET];exact q) λc xs q=>by rw[zaf ET];exact q
    obtain⟨f0,f1,f2,f3,f4,f5⟩:=fpx b hb;exact⟨f3,f1,f4,f5⟩
   rw[zaf CD];have:=I6.free;rw[eL]at this;exact this
  have h6:=UP (λ_ _=>False) i8 (fN λb hb=>n5 b Tr) t5 go;rw[eA]at h6;refine thn h6 λr s6 ⟨u,hr,h7⟩=>?_;subst hr;refine thn h7 λ_ s7 ⟨x,H7,I7,r7,y7,t7,n7⟩=>?_;have pB:=K1 (WX t7);have h8:=Yg _ s7 τ H7 x u _ pB r7 (Fe y7);rw[eP,eW,eA,eX,eE]at h8;refine thn h8 λ_ s8 ⟨τ8,H8,I8,q8⟩=>?_;have h9:=Yt _ s8 τ8 H8 _ I8 q8;rw[eP,eW,eA,eX,eE]at h9;refine thn h9 λok s9 ⟨H9,I9,q9⟩=>?_;have again:∀{τ':St} {H':Hp} {s':Ni},JQ (([]++zca [D] s5.heap)++VJ s7.heap) τ' H' s'→s'.heap.get? D=some o5∧H' D=none∧tn Gr s'.heap∧∀b∈fp,H' b=none:=λ{τ' H' s'} I'=>by
   have pp:∀{b:Nc} {o:Obj},b∈fp→s7.heap.get? b=some o→s'.heap.get? b=some o∧H' b=none:=λ{b o} hb e=>
    let z:=I'.pin (b,o) TF
    ⟨z.1,z.2.1⟩
   have hp:=zbo (fp:=[D]) Ss d5;have z:=I'.pin (D,_) (YT L4);refine⟨z.1,z.2.1,Q1 t7 λb hb o e=>(pp hb e).1,λb hb=>?_⟩;obtain⟨o,e,_⟩:=WX t7 b hb;exact(pp hb e).2
  have drop:∀{pl:Nd} {τ':St} {H':Hp} {s':Ni},JQ pl τ' H' s'→JQ [] τ' H' s':=λI'=>I'.pins_of Fr;cases ok with
  |false=>rw[if_neg Fw]at q9 ⊢;obtain⟨m',hm,w9⟩:=q9;obtain⟨d9,H9D,t9,n9⟩:=again I9;exact⟨m',hm,i+1,τ8,H9,ys,vs,drop I9,t9,λb hb=>(O9 hb).elim (λe=>e▸H9D) (n9 b),⟨o5,l8,uh,d9,qF⟩,v5,z5,w9⟩
  | true=>
   rw[if_pos rfl]at q9 ⊢;have i5:=Yk _ s9 τ8 H9 _ I9 q9;rw[eP,eW,eA,eX,eE]at i5;refine thn i5 λkv dF ⟨kw,dw,lj,lp,q10⟩=>?_;have ud:=Ye _ dF τ8 dw _ lj q10;rw[eP,eW,eA,eX,eE]at ud;refine thn ud λy qY ⟨yv,qI,lW,r11,kk,ek,m',hm,w11⟩=>?_;subst ek;obtain⟨d11,H11D,t11,n11⟩:=again lW;have ur:qY.heap.DictOf S0 D vs:=⟨o5,l8,uh,d11,qF⟩;have ko:(Q2 X.w).is kk kv=true:=by
    cases kk with
    |inl i=>obtain⟨t,rfl⟩:=lp;exact keyIs_int i t
    |inr x=>obtain⟨t,rfl⟩:=lp;exact keyIs_str x t
   refine wpAny_dictSet_pairs (knd:=Q2 X.w) ko ur (λh' iF sb=>?_) (by rw[←Zl v5];assumption);have kkp:∀b o,b≠D→qY.heap.get? b=some o→h'.get? b=some o:=λb o hb e=>(sb.2 b hb).trans e;obtain⟨g0,g1,g2',g3,g4,g5⟩:=fY (pl:=[]) (H':=qI) (b:=D) Qc H11D Fr;have I12:=(drop lW).turned (h':=h') (t':=qY.toks+1) (it:=D) kkp H11D g1 g3 g4 g5;refine⟨m',hm,i+1,τ8,qI,putK ys kk yv,stored vs kk y,I12,Q1 t11 λb hb o e=>kkp b o (λz=>fpD (z▸hb)) e,λb hb=>(O9 hb).elim (λe=>e▸H11D) (n11 b),iF,v5.put kk r11,?_,w11⟩;unfold putK;split
   ·rw[Qa];exact z5
   rw[Qk,Wk];assumption
 exact codeAny_compStart_dict EU (Ve (Q1 h0 λb _ o e=>k1 b o Cf) EU)
def ps_dc(hN:X.N.Nodup)(cV:X.N[i]?=some y)(hy:X.env.scope.names.lookup y=some .local)(B:YX ix)(hc:X.calm=true)(hi:Ii)(hg:∀C a7 ex s H,JX g)(ht:∀C a7 ex s H,UU tc)(hk:∀C a7 ex s H,J0 kx tk)(he:∀C a7 ex s H,J0 vx tv)(rZ:swapsWith (.DictComp kx vx [⟨tg,iter,ifs,0⟩] sc pos) (He LK) spos.line X.env=pure true)(hs:∀x,foldedSetIterable iter X.env x=pure x:=by intro _;rfl):KO (.Assign [LK] (.DictComp kx vx [⟨tg,iter,ifs,0⟩] sc pos) spos) (tAsg (tDC ix wi g tc tk tv) C1):=by
 intro a7 s σ H D' I h;rw[exec_Assign_Name_used _ _ _ _ rZ];refine wpAny_bind (IF (wpAny_bind ?_));show ZW X.A (do let _ ←comprehension (.DictComp kx vx [⟨tg,iter,ifs,0⟩] sc pos) sc X.env _ newDict false LR (He RN)) _ _ s;refine wpAny_bind (wpAny_mono (wpAny_comprehension_free (use:=some RN) (Q:=λ_ s'=>Bo D' .next s') rfl hs Iw B.kind B.names
  (thn Sd λv s1 h1=>thn h1 λitv s2 h2=>?_)) (λ_ s' hq=>wpAny_pure (GG hq)) λ_ _ e=>e)
 obtain⟨it,fp,tn,J,H2,e,I2,T,aH,f2,q⟩:=h2;subst e;refine dc_block (RR:=λaj C=>compPost FE X.A X.xe (He RN) (λ_ s'=>Bo D' .next s') aj C) B hc (hg · a7) (ht · a7) (hk · a7) (he · a7) I2 T aH f2 q ?_;intro D C m ys H' s' I' q' hn hC ad;show ZW X.A Ay _ _ s';refine wpAny_assign_Name (MV (v:=.ref D) rfl (λmd uy ⟨a,sb,ha⟩=>?_) IR);have aC:C≠a:=by
  rcases ha with z|z
  ·rw[z];exact Wd (Wt I2.lt ad)
  exact Wd (Db ad)
 have bz:=hn.sameBut sb aC;exact⟨m,bz,λh' cQ=>⟨_,_,LH,q'⟩⟩
end
end L2
namespace RawD
open PySem PyProof.Rows PySem.W
def At(h:No)(a:Nc)(es:Array DictEntry)(ep:Nat):Prop:=∃o,h.get? a=some o∧o.ExactDict∧o.data=.dict es ep
def At.typeIs{s:Ni}{a:Nc}{es:Array DictEntry}{ep:Nat}(x:At s.heap a es ep):s.TypeIs Ht "dict" :=let⟨o,e,c,_⟩:=x;⟨o,e,c.1⟩
def At.keep{h g:No}{a:Nc}{es:Array DictEntry}{ep:Nat}(x:At h a es ep)(k:∀o,h.get? a=some o→g.get? a=some o):At g a es ep:=let⟨o,e,r⟩:=x;⟨o,k _ e,r⟩
section
variable{prog:Nk}{w:Nn}{A:Np}{E:Nb}{s:Ni}{d:Nc}{es:Array DictEntry}{ep:Nat}
def iter{Q:Nb}(nS:(d==sysModules)=false)(m:VY ep)(q:Q FY {s with heap:=s.heap.push {cls:=.type "dict_keyiterator",data:=.fields #[Fu d,O7,.int es.size 0,SQ ep 0]}}):ZG (pyIter (Fu d)) Q E s:=by obtain⟨o,ho,hc,hd⟩:=id m;refine wpAny_pyIter_slot m.typeIs F.slot_dict_iter (wpAny_call_entry F.slot_dict_iter m.typeIs F.entry_dict_iter ?_ (F.args_dict_iter_1 _));unfold Builtin.«dict.__iter__»;refine wpAny_bind ?_;unfold Builtin.Dict.dictSlotNone;refine wpAny_bind (wpAny_notOrdered_dict m.typeIs (show ZW _ (pure (TC d)) _ _ s from wpAny_pure ?_));show ZW _ (Builtin.Dict.showsAll d >>= _) _ _ s;unfold Builtin.Dict.showsAll;rw[if_neg (FA nS Zb)];refine wpAny_bind (Rp (wpAny_dictEntries ho hd (RH (wpAny_dictEpoch ho hd ?_))));refine wpAny_bind (wpAny_newObj_type (GG ⟨_,rfl, "dict_keyiterator",_,⟨_,RY,rfl⟩,Ux.lookup,?_⟩));simpa[rawInt] using q
def item{j:Nc}{i:Nat}{Q:Option Value→Shared→Prop}(st:Io)(m:VY ep)(hi:i<es.size)(hQ:∀g,g.IsKeyIter j d Gr es.size ep→Ny g→Q (some es[i].key) {s with heap:=g}):ZG (pyNext CQ) Q E s:=by
 obtain⟨o,ho,hc,hd⟩:=id st;obtain⟨od,nV,aS,fA⟩:=id m;unfold pyNext;refine wpAny_bind (SU (wpAny_callSpecial?_slot (name:=Str.ofString "__next__") st.typeIs Ux (U3 ?_ EA)));refine wpAny_bind (Rp (wpAny_bind ?_))
 first|refine wpAny_bind (WA (wpAny_pure ?_))|refine wpAny_bind (WT (wpAny_pure ?_))
 refine wpAny_bind (NS ?_);have jP:Builtin.Dict_items.ownsTuple "dict_keyiterator" = false:=by decide
 simp only[jP,Wq,if_false];show ZW _ (if(Value.ref d==.none)=true then _ else _) _ _ s;rw[if_neg (show ¬((Value.ref d==.none)=true) from Zb)];refine wpAny_bind (Rp (ME ?_));rw[if_neg Fr];refine wpAny_bind (Rp (Nz ?_));rw[if_neg Fr];refine wpAny_pure ?_;simp only[show ¬((i:Int)<0) from by lia,if_false,Ur,Uh hi];refine wpAny_bind ?_
 first|refine wpAny_bind (WA (wpAny_pure ?_))|refine wpAny_bind (WT (wpAny_pure ?_))
 refine wpAny_bind (wpAny_isOneOf_keyiter st.typeIs ?_);show ZW _ (setField CQ 1 (L8 ((i:Int)+1)) >>= _) _ _ s;refine wpAny_bind (JF Fr ?_);have a9:(s.heap.update j (Obj.mapFields (·.setIfInBounds 1 (L8 ((i:Int)+1))))).IsKeyIter j d Gr es.size ep:=
  ⟨_,A4,(Obj.cls_mapFields ..).trans hc,by rw[Wz hd];simp[rawInt]⟩
 refine wpAny_bind (wpAny_holding (wpAny_bind (wpAny_isOneOf_keyiter (s:={s with heap:=s.heap.update j (Obj.mapFields (·.setIfInBounds 1 (L8 ((i:Int)+1))))}) a9.typeIs ?_)));show ZW _ (pure es[i].key) _ _ _;exact wpAny_pure (AB ⟨_,rfl,GG (hQ _ a9 (Uk ..))⟩)
def done{j:Nc}{i:Nat}{Q:Option Value→Shared→Prop}(hh:A.handled=none)(st:Io)(m:VY ep)(hi:es.size≤i)(hQ:∀g,NQ g→Q none {s with heap:=g}):ZG (pyNext CQ) Q E s:=by
 obtain⟨o,ho,hc,hd⟩:=id st;obtain⟨od,nV,aS,fA⟩:=id m;unfold pyNext;refine wpAny_bind (SU (wpAny_callSpecial?_slot (name:=Str.ofString "__next__") st.typeIs Ux (U3 ?_ EA)));refine wpAny_bind (Rp (wpAny_bind ?_))
 first|refine wpAny_bind (WA (wpAny_pure ?_))|refine wpAny_bind (WT (wpAny_pure ?_))
 refine wpAny_bind (NS ?_);have jP:Builtin.Dict_items.ownsTuple "dict_keyiterator" = false:=by decide
 simp only[jP,Wq,if_false];show ZW _ (if(Value.ref d==.none)=true then _ else _) _ _ s;rw[if_neg (show ¬((Value.ref d==.none)=true) from Zb)];refine wpAny_bind (Rp (ME ?_));rw[if_neg Fr];refine wpAny_bind (Rp (Nz ?_));rw[if_neg Fr];refine wpAny_pure ?_;simp only[show ¬((i:Int)<0) from by lia,if_false,Ur,Array.getElem?_eq_none hi];refine wpAny_bind ?_
 first|refine wpAny_bind (WA (wpAny_pure ?_))|refine wpAny_bind (WT (wpAny_pure ?_))
 show ZW _ (setField CQ 0 .none >>= _) _ _ s;refine wpAny_bind (JF Fr ?_);show ZW _ (newExc (.type "StopIteration") [] >>= _) _ _ _;refine wpAny_bind ?_;simp only[newExc,newTuple];refine wpAny_bind (wpAny_newObj_type (wpAny_bind (m:=firstArgMember _ _) (wpAny_of_eq (a:=Value.none) (by first|rfl|(simp only[firstArgMember];rfl)) (wpAny_newObj_type ?_ (by size_fits)))) (by size_fits));simp only[raiseNew];refine wpAny_bind (wpAny_handled ?_)
 first|rw[show A.in1.handled=none from hh] | rw[hh]
 refine wpAny_bind (GG (wpAny_throw ?_));refine wpAny_bind (wpAny_isInstance (T:= "StopIteration") (b:=true) ⟨_,RY,rfl⟩ isSubtype_stop ?_);exact wpAny_pure (hQ _ (((Uk ..).extBut.push _).push _))
theorem src(nS:(d==sysModules)=false):KdlSrc prog w "dict" d d es.size (λi v=>∃e,es[i]?=some e∧v=e.key) (λh=>At h d es ep) where
 type:=λ_ m=>m.typeIs
 there:=λ_ m=>let⟨_,e,_⟩:=m;⟨Qu e,Qu e⟩
 keep:=λ_ _ m k=>m.keep λo e=>k d Hr o e
 notList:=by decide
 notTuple:=by decide
 hint:=λ_ _ _ _ m q=>kdl_hint_dict m.typeIs q
 iter:=λA s hh m=>by
  have lt:d<s.heap.objs.size:=let⟨_,e,_⟩:=m;Qu e;refine⟨_,λi h=>h.IsKeyIter s.heap.objs.size d i es.size ep∧At h d es ep,λ_ _ q=>iter nS m q,?_,⟨_,RY,rfl,rfl⟩,m.keep λo e=>QS e⟩;exact
   {sub:=λb hb=>by simp at hb;simp[hb]
    frame:=λi h g st k=>⟨st.1.at λo e=>k _ Fr o e,st.2.keep λo e=>k d Fr o e⟩
    item:=λi s' Q E hi st hQ=>item st.1 st.2 hi λg a b=>hQ _ g s'.toks ⟨_,Uh hi,rfl⟩ ⟨a,st.2.keep λo e=>(b.2 d PK).trans e⟩ λc o hc e=>(b.2 c (λz=>hc (by simp[z]))).trans e
    done:=λs' Q E st hQ=>done hh st.1 st.2 Gg λg a=>hQ g s'.toks λc o hc e=>a c o (λz=>hc (by simp[z])) e
    self:=λ_ _ _ _ st q=>wpAny_pyIter_keyiter st.1 q}
end
end RawD
namespace L2
open PySem PySem.Spec PyProof.Rows Tm
def kP(q:Str×Str):List Key:=[Sum.inr q.1,Sum.inr q.2]
abbrev zbi(H:Hp):List Addr→List (Str×Str)→Prop:=Paired λb r=>H b=some (.tup [Ek,El])
section
variable{X:Cx}
def zdf{α β:Type}{R:α→β→Prop}{as aI:List α}(p:aI.Perm as):∀{bs:List β},QV as bs→∃i6,i6.Perm bs∧QV aI i6:=by
 induction p with
 |nil=>intro bs r;cases r;exact⟨[],.nil,.nil⟩
 |cons x q ih=>
  intro bs r;cases r with
  |cons r1 r2=>obtain⟨zs,h1,h2⟩:=ih r2;exact⟨_::zs,h1.cons _,Ez r1 h2⟩
 | swap x y l=>
  intro bs r;cases r with
  |cons r1 r2=>
   cases r2 with
   |cons r3 r4=>exact⟨_,List.Perm.swap ..,.cons r3 (Ez r1 r4)⟩
 |trans _ _ ih1 ih2=>intro bs r;obtain⟨zs,h1,h2⟩:=ih2 r;obtain⟨bQ,h3,h4⟩:=ih1 h2;exact⟨bQ,h3.trans h1,h4⟩
def pairs_mem{H:Hp}{as:Nl}{qs:Nr}(r:DQ as qs){a:Nc}(ha:a∈as):∃r:Str×Str,H a=some (.tup [Ek,El]):=by
 induction r with
 |nil=>cases ha
 |cons h t ih=>
  rcases Qi.mp ha with zz|zz
  ·subst zz;exact⟨_,h⟩
  exact ih zz
end
end L2
namespace L2
open PySem PySem.Spec PyProof.Rows
def fsk{N P:Nh}{sc:Scope}(a:sc.kind=.function:=by rfl)(b:sc.isCoroutine=false:=by rfl)(c:sc.isGenerator=false:=by rfl)(d:N.Nodup:=by decide+kernel)(e:N.take P.length=P:=by rfl)(f:∀x∈P,sc.names.lookup x=some .local∨sc.names.lookup x=some .cell:=by decide+kernel)(g:∀y∈sc.names,y.2≠.free:=by decide+kernel):zar N P sc:=⟨a,b,c,d,e,f,g⟩
section
variable{X:Cx}
def zas(i:Nat){x:Str}{e:Expr}{te:TE}{pos aW:Pos}(hN:X.N.Nodup)(he:Cy)(hi:X.N[i]?=some x:=by rfl)(hx:UA x:=by exact Or.inl rfl)(hs:swapsWith e (He (Sb aW)) pos.line X.env=pure false:=by rfl)(hf:X.fn x=true∨X.env.scope.names.lookup x=some .local:=by first|exact .inl rfl|exact .inr rfl|assumption) :
  PS X (.Assign [Sb aW] e pos) (tAsg te C1):=ps_set hN hi hx he hs hf
def za6(i:Nat){x:Str}{pos:Pos}(hN:X.N.Nodup)(hi:X.N[i]?=some x:=by rfl)(hx:UA x:=by exact Or.inl rfl)(hf:X.fn x=true∨X.env.scope.names.lookup x=some .local:=by first|exact .inl rfl|exact .inr rfl|assumption):Dl C1:=zgk hN hi hx hf
def zfx{o i:Expr}{td ty:TE}{pos:Pos}(hu:X.A.units+1<cLine)(ho:AU)(hi:QA i ty)(hs:NoSl i:=by exact λ_ _=>rfl):QA Ao (tDGet td ty):=pe_dget hu ho hi hs
def Fun.okL{P:Nk}{w:Nn}{K:Na}{mg:Ng}{base:No}{x qual:Str}{st:Stmt}{f:Nc}{fd:Nw}{N ps:Nh}{k:Nat}{sp:Sp}(F:L7)(S:KR CN)(bG:∀ (cdv:Value) (A:Np) (outer:List Env) (s:Ni) (H:Hp) (vs:List V) (Q:VK) (E:XK),U5 Rw→sp vs H Q E →
   ∃t,PSs (JD E).nox Oj t∧t {nx:=λ_ H'=>Q .non H',rt:=Q} EO H)(len:∀vs H Q E,sp vs H Q E→vs.length=ps.length:=by intro _ _ _ _ h;cases h;subst_vars;rfl):ZB (k+1) f fd ps sp:=F.ok S len bG
def chkB(sc:Scope)(M:Nh)(ix:Nu)(N:Nh)(S:Scope):Bool:=
 decide (sc.kind=.function)&&sc.names.all (λy=>decide (y.2≠.cell))&&sc.names.all (λy=>!decide (y.2=.local)||decide (sc.names.lookup y.1=some .local))&&sc.names.all (λy=>!decide (y.2=.free)||decide (S.names.lookup y.1=some .cell)||decide (S.names.lookup y.1=some .free)) &&
 decide (ix.length=M.length)&&decide M.Nodup&&(M.zip ix).all (λp=>match p.2 with
  |none=>true
  |some i=>decide (N[i]?=some p.1)&&decide (sc.names.lookup p.1=some .free))
def mkB{X:Cx}{sc S:Scope}{M N ps:Nh}{ix:Nu}(F:KR S)(hN:X.N=N:=by exact rfl)(hS:X.env.scope=S:=by exact rfl)(h:chkB sc M ix N S=true:=by decide+kernel):YX ix:=by
 subst hN hS;unfold chkB at h;simp only[Yn,decide_eq_true_eq,Yc,Je,Ym,decide_eq_false_iff_not]at h;obtain⟨⟨⟨⟨⟨⟨h1,h2⟩,h3⟩,h4⟩,h5⟩,h6⟩,h7⟩:=h;refine⟨h1,h2,λy hy e=>(h3 y hy).resolve_left λz=>z e,λy hy e=>?_,h5,h6,λj i x e1 e2=>?_⟩
 ·rcases h4 y hy with (z|z)|z
  ·exact absurd e z
  ·exact .inl z
  exact .inr z
 have:=h7 (x,He i) (Wi (i:=j) (by rw[List.getElem?_zip_eq_some];exact⟨e1,e2⟩));simpa using this
end
end L2
namespace K21
open PySem L2
abbrev qR:Str:= "_law_rounds_here"
abbrev qP:Str:= "_law_pot_here"
abbrev qM:Str:= "_law_many"
abbrev qO:Str:= "_law_other"
abbrev qS:Str:= "_law_script"
abbrev qN:Str:= "_law_names_here"
def top(i:Nat):Stmt:=PySem.Challenge.pw_fivehues_k14_rows_refused.main.body.getD i (.Pass ⟨0,0,0,0⟩)
def Pot(H:Hp)(p:Nc)(b m:Int):Prop:=H p=some (.lst [Rq b,Rq m])∧0≤b∧0≤m∧m<2147483648
inductive IspTake(vs:List V)(H:Hp)(Q:VK):Prop
 |mk (p:Nc) (b m n:Int) (h0:vs=[.ref p,.int n]) (h1:Pot H p b m) (h2:0<n) (h3:n<1073741824) (h4:∀(d b' m':Int) (H':Hp),0≤d→d<n→Pot H' p b' m'→(∀c o,H c=some o→c≠p→H' c=some o)→Q (.int d) H'):IspTake vs H Q
def zfo:Sp:=λvs H Q _=>IspTake vs H Q
end K21
namespace Wb
section
variable{α:Type}[DecidableEq α]
def nxt(zs:List α)(x:α):α:=zs.getD ((zs.idxOf x+1)%zs.length) x
def ins(zs:List α):Option α→α→List α
 |none,n=>n::zs
 |some c,n=>zs.take (zs.idxOf c+1)++n::zs.drop (zs.idxOf c+1)
abbrev Rs(α:Type):=List (α×List α)
def row(rs:Rs α)(x:α):List α:=((rs.find? λp=>decide (p.1=x)).map (·.2)).getD []
def zb9(rs:Rs α)(x:α)(r:List α):Rs α:=rs.map λp=>if p.1=x then(p.1,r) else p
def stp(rs:Rs α)(s:α×α):α×α:=(s.2,nxt (Bg s.2) s.1)
end
end Wb
namespace K21
open PySem L2 Wb
def Keep(xs:Nl)(H H':Hp):Prop:=∀c o,H c=some o→c∉xs→H' c=some o
def Keep.refl:WY H:=λ_ _ e _=>e
def Keep.trans(a:WY H1)(b:Keep xs H1 H2):WY H2:=λc o e n=>b c o (a c o e n) n
def Keep.sub(a:WY H1)(h:∀x∈xs,x∈ys):Keep ys H H1:=λc o e n=>a c o e λz=>n (h c z)
def Keep.new(h:H l=none):WY (ZU l o):=λc u e _=>by rw[zaf (BE h)];exact e
def nwk{o:HO}(h:H a=none)(e:ZU a o=H'):Keep [] H H'∧H' a=some o:=by subst e;exact⟨FM h,zab⟩
def Keep.wr(h:l∈xs):WY (ZU l o):=λc u e n=>by rw[zaf (λz=>n (FA z h))];exact e
abbrev Ent:=Str×List Str×Addr
abbrev eWV(es:List Ent):List (Key×V):=es.map λe=>((Sum.inr e.1:Key),Sj)
def rsOf(es:List Ent):Rs Str:=es.map λe=>(e.1,e.2.1)
def zf8{es:List Ent}(nd:(RX (·.1)).Nodup){e:Ent}(h:e∈es):valV (es.map λe=>((Sum.inr e.1:Key),Sj)) (Sum.inr e.1)=some Si:=by
 induction es with
 |nil=>cases h
 |cons a t ih=>
  rw[Qo,Zh]at nd;rw[Qo];rcases Qi.mp h with z|z
  ·subst z;exact zdb rfl
  rw[zb7]
  ·exact ih nd.2 z
  intro q;exact nd.1 (by rw[Kk q];exact Ql.mpr ⟨e,z,rfl⟩)
def val_out{es:List Ent}{x:Str}(h:x∉es.map (·.1)):valV (es.map λe=>((Sum.inr e.1:Key),Sj)) Ef=none:=by
 induction es with
 |nil=>rfl
 |cons a t ih=>
  rw[Qo,Qi,not_or]at h;rw[Qo,zb7]
  ·exact ih h.2
  intro q;exact h.1 (Kk q).symm
def zbw(nd:(RX (·.1)).Nodup)(h:e∈es):ZO e.1=e.2.1:=by
 unfold row rsOf;induction es with
 |nil=>cases h
 |cons a t ih=>
  rw[Qo,Zh]at nd;rw[Qo];rcases Qi.mp h with z|z
  ·subst z;rw[Wj Fr];rfl
  rw[Uu]
  ·exact ih nd.2 z
  intro q;exact nd.1 (by rw[of_decide_eq_true q];exact Ql.mpr ⟨e,z,rfl⟩)
def put_new{es:List Ent}{x:Str}{r:Nh}{a:Nc}(h:x∉es.map (·.1)):putK (eWV es) Ef Ht=(es++[(x,r,a)]).map λe=>((Sum.inr e.1:Key),Sj):=by rw[zf4 _ (val_out h),Qr];rfl
def zhx{xs:List V}{k:Nat}(h:k≤xs.length):MQ none (some (k:Int))=xs.take k:=by
 unfold cutV;have e1:QP 0 none=0:=rfl;have e2:QP xs.length (some (k:Int))=k:=by rw[HT.sIx_nat];lia
 rw[e1,e2];simp
def zd1{xs:List V}{k:Nat}(h:k≤xs.length):MQ (some (k:Int)) none=xs.drop k:=by
 unfold cutV;have e1:QP 0 (some (k:Int))=k:=by rw[HT.sIx_nat];lia
 have e2:QP xs.length none=xs.length:=rfl;rw[e1,e2,Qm (by rw[Yu];exact Qh _)]
def idx_lt{zs:Nh}{x:Str}(h:x∈zs):zs.idxOf x<zs.length:=Jm.mpr h
def index_of{zs:Nh}{x:Str}(h:x∈zs):(∃ z,(zs.map V.str)[zs.idxOf x]?=some z∧eqV z TD=true)∧∀ m z,m < zs.idxOf x→(zs.map V.str)[m]?=some z→eqV z TD=false:=by
 refine⟨⟨TD,?_,beq_self_eq_true x⟩,λm z hm e=>?_⟩
 ·rw[Qt,Qb (idx_lt h),Js];rfl
 rw [Qt]at e;have dC:m<zs.length:=Wt hm (idx_lt h);rw[Qb dC]at e;cases e;show(zs[m]==x)=false;refine beq_eq_false_iff_ne.mpr λq=>?_;have am:∀(l:Nh) (j:Nat) (hj:j<l.length),l[j]=x→l.idxOf x≤j:=by
  intro l;induction l with
  |nil=>intro j hj;simp at hj
  | cons a t ih=>
   intro j hj e;rw[List.idxOf_cons];cases j with
   |zero=>have e':a=x:=e;rw[e'];simp
   |succ i=>
    have:=ih i (Fv hj) Ip;by_cases h:a=x
    ·rw[h];simp
    have hb:(a == x)=false:=beq_eq_false_iff_ne.mpr h;rw[hb];simp;assumption
 have:=am zs m dC q;lia
def zcx(zs:Nh):(zs.map V.str).all zd3=true:=by rw[Yc];intro v hv;obtain⟨x,_,rfl⟩:=Ql.mp hv;rfl
end K21
namespace Wb
section
variable{α:Type}[DecidableEq α]
def itr(rs:Rs α)(s:α×α):Nat→α×α
 |0=>s
 |n+1=>stp rs (YZ s n)
def IsSt(rs:Rs α)(s:α×α):Prop:=∃p∈rs,p.1=s.2∧s.1∈p.2
def allSt(rs:Rs α):List (α×α):=rs.flatMap λp=>p.2.map λx=>(x,p.1)
def mem_allSt{rs:Rs α}{s:α×α}:s∈allSt rs↔K3 s:=by
 unfold allSt IsSt;rw[Bb];constructor
 ·rintro⟨p,hp,h⟩;obtain⟨x,hx,rfl⟩:=Ql.mp h;exact⟨p,hp,rfl,hx⟩
 rintro⟨p,hp,e,hx⟩;exact⟨p,hp,LL ⟨s.1,hx,by rw[e]⟩⟩
def Clo(rs:Rs α):Prop:=∀s,K3 s→K3 (stp rs s)
theorem itr_st{rs:Rs α}(c:Clo rs){s:α×α}(h:K3 s):∀n,K3 (YZ s n)
 |0=>h
 |n+1=>c _ (itr_st c h n)
def run(rs:Rs α)(s:α×α)(n:Nat):List (α×α):=(Ry n).map (YZ s)
def run_succ(rs:Rs α)(s:α×α)(n:Nat):VZ (n+1)=VZ n++[YZ s n]:=by unfold run;rw[List.range_succ,List.map_append];rfl
def zgs{l m:List (α×α)}(nd:l.Nodup)(h:∀x∈l,x∈m):l.length≤m.length:=by
 induction l generalizing m with
 |nil=>exact Zo _
 |cons a t ih=>rw[Zh]at nd;have ha:=h a Qc;have:=ih (m:=m.erase a) nd.2 λx hx=>(List.mem_erase_of_ne (λe=>nd.1 (by rw[←e];exact hx))).mpr (h x PN);rw[List.length_erase_of_mem ha]at this;have hp:0<m.length:=Ub ha;rw[Za];lia
end
end Wb
namespace K21
open PySem L2 Wb
section
variable{P:Nk}{w:Nn}{K:Na}{mg:Ng}{base:No}
def zbi.keep{H H':Hp}{as:Nl}{qs:Nr}(r:DQ as qs)(k:∀b x y,H b=some (.tup [x,y])→H' b=some (.tup [x,y])):zbi H' as qs:=by
 induction r with
 |nil=>exact .nil
 |cons h t ih=>exact .cons (k _ _ _ h) ih
end
end K21
namespace Wb
section
variable{α:Type}[DecidableEq α]
structure Gen(G:Rs α→Prop):Prop where
 clo:∀rs,G rs→Clo rs
 nd:∀rs,G rs→(rs.map (·.1)).Nodup
 sub:∀rs,G rs→∀p∈rs,p.2.Nodup∧∀x∈p.2,x∈rs.map (·.1)
 sy:∀rs,G rs→∀p∈rs,∀x∈p.2,p.1∈Bg x
 nil:G []
 new:∀rs x,G rs→x∉rs.map (·.1)→G (rs++[(x,[])])
 leaf:∀rs x p c,G rs→x∉rs.map (·.1)→p∈rs→(∀y,c=some y→y∈p.2)→(c=none→p.2=[])→G (zb9 (zb9 (rs++[(x,[])]) p.1 (DR c x)) x [p.1])
 tie:∀rs c p n,G rs→p∈rs→c∈p.2→(YZ (c,p.1) n).2≠p.1→(YZ (c,p.1) n).2∉p.2 →
  G (zb9 (zb9 rs p.1 (DR (He c) (YZ (c,p.1) n).2)) (YZ (c,p.1) n).2 (ins (Bg (YZ (c,p.1) n).2) (some (YZ (c,p.1) n).1) p.1))
def zcu{l m:List α}(nd:l.Nodup)(h:∀x∈l,x∈m):l.length≤m.length:=by
 induction l generalizing m with
 |nil=>exact Zo _
 |cons a t ih=>rw[Zh]at nd;have ha:=h a Qc;have:=ih (m:=m.erase a) nd.2 λx hx=>(List.mem_erase_of_ne (λe=>nd.1 (by rw[←e];exact hx))).mpr (h x PN);rw[List.length_erase_of_mem ha]at this;have hp:0<m.length:=Ub ha;rw[Za];lia
def Gen.rows{G:Rs α→Prop}(g:Gen G){rs:Rs α}(h:G rs):∀p∈rs,p.2.length≤rs.length:=λp hp=>by obtain⟨a,b⟩:=g.sub rs h p hp;have:=zcu a b;rwa[Qa]at this
def Gen.steps{G:Rs α→Prop}(g:Gen G){rs:Rs α}(h:G rs)(hl:rs.length≤40):(allSt rs).length≤1600:=by
 have key:∀(l:Rs α) (n:Nat),(∀p∈l,p.2.length≤n)→(allSt l).length≤l.length*n:=by
  intro l n;induction l with
  |nil=>intro _;simp[allSt]
  |cons a t ih=>intro hh;have h1:=ih λp hp=>hh p (QM hp);have h2:=hh a Qc;unfold allSt at h1 ⊢;rw[List.flatMap_cons,Qk,Qa,Za,Nat.succ_mul];lia
 have:=key rs rs.length (g.rows h);have:rs.length*rs.length≤40*40:=Nat.mul_le_mul hl hl;exact Zf ‹_› ‹_›
end
end Wb
namespace K21
open PySem L2 Wb
def pot_ne{H:Hp}{p a:Nc}{b m:Int}{zs:Nh}(h:Vg m)(ha:H a=some Ch):a≠p:=zbg ha h.1 (by
 intro z;have z':zs.map V.str=[Rq b,Rq m]:=by injection z
 cases zs with
 |nil=>cases z'
 |cons x t=>rw[Qo]at z';injection z' with z1 _;cases z1)
def Pot.keep{H H':Hp}{p:Nc}{b m:Int}{xs:Nl}(h:Vg m)(k:WY H')(hp:p∉xs):Pot H' p b m:=⟨k _ _ h.1 hp,h.2⟩
def za7{H H':Hp}{p:Nc}(h:∀c o,H c=some o→c≠p→H' c=some o):Keep [p] H H':=λc o e n=>h c o e λz=>n (by rw[z];exact Qd.mpr rfl)
section
variable{P:Nk}{w:Nn}{K:Na}{mg:Ng}{base:No}
def zeg{x:Str}{zs:Nh}:inV TD Hz=decide (x∈zs):=by
 unfold inV;rw[Yw,Bc,decide_eq_true_iff];constructor
 ·rintro⟨v,hv,e⟩;obtain⟨y,hy,rfl⟩:=Ql.mp hv;have e':y=x:=eq_of_beq e;rw[←e'];exact hy
 intro h;exact⟨TD,LL ⟨x,h,rfl⟩,beq_self_eq_true x⟩
def zal{c:Bool}{A B:Prop}(h:c=false)(b:B):if c=true then A else B:=by rw[h];exact iteF b
def zay{c:Bool}{A B:Prop}(h:c=true)(a:A):if c=true then A else B:=by rw[h];exact iteT a
def zgz(es:List Ent):((eWV es).map λp=>kV p.1)=(RX (·.1)).map V.str:=by rw[Zu,Zu];rfl
def zb6(z:Str):Prop:=1≤z.length∧z.length≤8∧∀c∈z.cps.toList,97≤c∧c≤122
def nodup_of_map{α β:Type}{f:α→β}{l:List α}(h:(Om f).Nodup):l.Nodup:=by
 induction l with
 |nil=>exact Zy
 |cons a t ih=>rw[Qo,Zh]at h;exact Zh.mpr ⟨λz=>h.1 (LL ⟨a,z,rfl⟩),ih h.2⟩
def ziq{α β:Type}{f:α→β}{l:List α}(nd:l.Nodup)(h:∀a∈l,∀b∈l,f a=f b→a=b):(Om f).Nodup:=by
 induction l with
 |nil=>exact Zy
 |cons a t ih=>rw[Zh]at nd;rw[Qo,Zh];refine⟨λz=>?_,ih nd.2 λx hx y hy=>h x PN y Iu⟩;obtain⟨b,hb,e⟩:=Ql.mp z;exact nd.1 (h b Tr a Qc e▸hb)
def zgr{β:Type}{f:Nat→β}{n:Nat}(h:∀a,a<n→∀b,b<n→f a=f b→a=b):((Ry n).map f).Nodup:=
 ziq Xz λa ha b hb=>h a (Wa.mp ha) b (Wa.mp hb)
def zdq:Str:= "abcdefghijklmnopqrstuvwxyz"
def letters_at:∀i:Fin 26,zdq.cps.toList[i.1]?=some (97+i.1):=by decide+kernel
def zec:zdq.length≤sizeLine:=by decide+kernel
def letter_at{j:Int}(h0:0≤j)(h1:j<26):KG j=some (97+j.toNat):=by obtain⟨n,rfl⟩:=Zi h0;exact zav (letters_at ⟨n,by exact zar8 ‹_›⟩)
def zap(k:WY H')(h:H' l=none)(hx:l∉xs):H l=none:=by
 cases z:H l with
 |none=>rfl
 |some o=>rw[k _ _ z hx]at h;cases h
end
end K21
namespace K21
open PySem L2 Wb Tm
def ze2(a b:Str)(h:leS a b)(g:leS b a):a=b:=by have e:a.cps.toList=b.cps.toList:=List.le_antisymm (List.not_lt.mp h) (List.not_lt.mp g);cases a;cases b;congr 1;exact Array.toList_inj.mp e
def leP(p q:Str×Str):Prop:=(Be strO).kle (p.1.cps.toList,p.2.cps.toList) (q.1.cps.toList,q.2.cps.toList)
end K21
namespace K21
open PySem L2 Wb
abbrev sWeb:Stmt:=top 21
structure TAt(H:Hp)(d:Nc)(es:List Ent):Prop where
 dc:H d=some HX
 ro:∀e∈es,H e.2.2=some (CF HW)
 nd:(RX (·.1)).Nodup
def TAt.keep(r:TAt H d es)(k:WY H')(hd:d∉xs)(h:∀e∈es,e.2.2∉xs):TAt H' d es:=⟨k _ _ r.dc hd,λe he=>k _ _ CS (h e he),r.nd⟩
def zgh(h:ws.Perm EB):∃aI:List Addr,ws=aI.map V.ref∧aI.Perm as:=by
 have key:∀ws:List V,(∀v∈ws,∃a,v=V.ref a)→∃aI:List Addr,ws=aI.map V.ref:=by
  intro ws;induction ws with
  |nil=>intro _;exact⟨[],rfl⟩
  |cons v t ih=>intro hh;obtain⟨a,rfl⟩:=hh v Qc;obtain⟨aI,rfl⟩:=ih λv hv=>hh v IT;exact⟨a::aI,rfl⟩
 obtain⟨aI,rfl⟩:=key ws λv hv=>by obtain⟨a,_,rfl⟩:=Ql.mp (h.mem_iff.mp hv);exact⟨a,rfl⟩
 refine⟨aI,rfl,?_⟩;have:=h.map (λv:V=>match v with | .ref a=>a|_=>0);rw[Zu,Zu]at this;have e:∀l:List Addr,l.map ((λv:V=>match v with | .ref a=>a|_=>0)∘V.ref)=l:=λl=>List.map_id l;rw[e,e]at this;exact this
def za0:∀{as:List α} {bs:List β},QV as bs→∀{i:Nat} (hi:i<as.length),∃ao:i<bs.length,R as[i] bs[i]:=by
 intro as bs r;induction r with
 |nil=>intro i hi;simp at hi
 |cons h t ih=>
  intro i hi;cases i with
  |zero=>exact⟨Fr,h⟩
  |succ j=>obtain⟨a,b⟩:=ih (i:=j) (Fv hi);exact⟨Fv a,b⟩
end K21
namespace L2
open PySem PySem.Spec PyProof.Rows
def Apart(R:Obj→Prop):Prop:=∀o v,R o→R (Obj.mapFields (λvs=>vs.setIfInBounds 1 v) o)
def HasR(R:Obj→Prop)(h:No)(a:Nc):Prop:=∃o,h.get? a=some o∧R o
section
variable{M:Model}{A:Np}{E:Nb}{s:Ni}{B:No}{env:Env}{outer:List Env}{L e:Nc}{cls a0:Value}{R:Obj→Prop}{Q:Unit→Shared→Prop}
def entryR{ob:Obj}{fs:Array Value}{hd:Value}{b:Bool}(cR:Apart R)(f1:A.frames=some (env::outer))(f2:s.heap.FunFrames B (env::outer))(f3:env.frame=some L)(g1:s.heap.get? e=some ob)(g2:B.StaysIn s.heap)(g3:B.get? e=none)(d1:ob.data=.fields fs)(d2:fs[0]?=some a0)(d3:1<fs.size)(r:R ob)(k:∀h',Vh e→Heap.HeldW B (env::outer) e ob.cls a0 L h'→s.heap.UpToSlots h'→Q () {s with heap:=h'}) :
  wpAny M A (frameOf env >>= λx=>entryPlaceOf L b >>= λpl=>EntryCells.newEntry hd x .none (L8 L) .none pl >>= λy=>setField TJ 1 y) Q E s:=by
 have ne:e∉(env::outer).filterMap (·.frame):=by intro z;obtain⟨_,o,ho,hn⟩:=f2.mem z;rw[g1]at ho;cases ho;exact hn fs d1
 refine wpAny_bind (wpAny_frameOf_fun f1 f2 f3 λh1 q1=>wpAny_bind (wpAny_entryPlaceOf λpl bo=>?_));unfold EntryCells.newEntry newFields;refine wpAny_bind (wpAny_newObj_type ?_ (bo.sizeOk5 _ _ _ _ _));have e1:h1.get? e=some ob:=(q1.2.1 e ne).trans g1;have s1:B.StaysIn h1:=λc o hc=>(q1.2.1 c (by intro z;rw[(f2.mem z).1]at hc;cases hc)).trans (g2 c o hc);generalize hE:([hd,TC L,.none,L8 L,.none]++(if pl.isEmpty then List.replicate 6 Value.none else pl)).toArray=ent;have e3:ent[3]?=some (L8 L):=by
  rw[←hE]
  first|(simp;done)|(rcases bo with rfl|⟨_,_,_,_,_,_,_,rfl⟩<;>simp)
 have e2:=Qe (h:=h1) {cls:=.type "traceback",dict:=none,data:=.fields ent} e1;refine wpAny_setField e2 d1 d3 ?_;generalize hT:h1.objs.size=T at *;have te:T≠e:=hT▸Wd (Qu e1);have dd:=Wz d1 (λvs=>vs.setIfInBounds 1 (TC T));have e4:=Wy (Obj.mapFields λvs=>vs.setIfInBounds 1 (TC T)) e2 (Kb dd);have e5:=(Yi (h1.push {cls:=.type "traceback",dict:=none,data:=.fields ent}) (Obj.mapFields λvs=>vs.setIfInBounds 1 (TC T)) (Zd te)).trans (hT▸Qv h1 rfl);have kp:∀c o,c≠e→h1.get? c=some o→((h1.push {cls:=.type "traceback",dict:=none,data:=.fields ent}).update e (Obj.mapFields λvs=>vs.setIfInBounds 1 (TC T))).get? c=some o:=λc o hc q=>by rw[VQ (Zd hc)];exact QS q
 have nr:∀c o,s.heap.get? c=some o→(∀vs,o.data≠.fields vs)→c≠e:=by rintro c o hc hn rfl;rw[g1]at hc;cases hc;exact hn fs d1
 refine k _ ⟨_,e4,cR _ _ r⟩ ⟨λc o q=>kp c o (by rintro rfl;rw[g3]at q;cases q) (s1 c o q),g3,f2.of_keeps λc o q hn=>?_,?_⟩ λc o q hn=>?_
 ·obtain⟨sl,q1⟩:=q1.2.2 c o q;exact⟨_,kp c _ TM q1,rfl⟩
 ·refine⟨_,_,T,_,_,e4,⟨Obj.cls_mapFields _ _,?_⟩,dd,by simp[d3],hT ▸ s1.fresh,te,e5,rfl,e3⟩;rw[Array.getElem?_setIfInBounds_ne Fw];exact d2
 obtain⟨sl,q1⟩:=q1.2.2 c o q;exact⟨sl,kp c _ TM q1⟩
def noteR(cR:Apart R)(f1:A.frames=some (env::outer))(f3:env.frame=some L)(fl:Y0 (env::outer) e cls a0 s.heap)(r:XZ e)(k:∀h',Vh e→Heap.HeldW B (env::outer) e cls a0 L h'→s.heap.UpToSlots h'→Q () {s with heap:=h'}):YD (noteFrame TJ env) Q E s:=by
 obtain⟨g2,g3,f2,ob,fs,T,oT,ts,g1,⟨rfl,d2⟩,d1,d4,t1,t2,t3,t4,t5⟩:=fl;obtain⟨ob',z,r⟩:=r;rw[g1]at z;cases z;unfold noteFrame;simp only[f3];refine wpAny_bind (V0 d1 d4 ?_);rw[if_pos Fr];refine wpAny_bind (wpAny_field t3 t4 t5 ?_);rw[if_neg (by simp[rawInt])];refine wpAny_bind (NT (Xk.mp t5).1 ?_);have ot:∀c,c≠T→(s.heap.update T (Obj.mapFields (·.setIfInBounds 3 Value.none))).get? c=s.heap.get? c:=λc hc=>VQ (Zd hc);have nr:∀c o,s.heap.get? c=some o→(∀vs,o.data≠.fields vs)→c≠T:=by rintro c o hc hn rfl;rw[t3]at hc;cases hc;exact hn ts t4
 refine entryR cR f1 (f2.of_keeps λc o q hn=>⟨o,(ot c TM).trans q,rfl⟩) f3 ((ot e (Zd t2)).trans g1) (λc o q=>(ot c (by rintro rfl;rw[t1]at q;cases q)).trans (g2 c o q)) g3 d1 d2 (Xk.mp d4).1 r λh' r' hh us=>k h' r' hh λc o q hn=>us c o ((ot c TM).trans q) hn
def landR{l:List Env}{fl:Value}(g2:B.StaysIn s.heap)(g3:B.get? e=none)(f2:s.heap.FunFrames B l)(tr:s.heap.TracedAtW B e cls a0 fl)(r:XZ e)(k:∀h',Vh e→Y0 l e cls a0 h'→s.heap.UpToSlots h'→Q () {s with heap:=h'}):YD (setFlight TJ none) Q E s:=by
 obtain⟨ob,fs,T,oT,ts,g1,d2,d1,d4,t1,t2,t3,t4,t5⟩:=tr;have z3:3<ts.size:=(Xk.mp t5).1;unfold setFlight;refine wpAny_bind (V0 d1 d4 ?_);rw[if_pos Fr];refine NT z3 ?_;generalize hu:s.heap.update T (Obj.mapFields λvs=>vs.setIfInBounds 3 ((none:Option Addr).elim Value.none λf=>rawInt f))=u;have ot:∀c,c≠T→u.get? c=s.heap.get? c:=λc hc=>hu▸VQ (Zd hc);have nr:∀c o,s.heap.get? c=some o→(∀vs,o.data≠.fields vs)→c≠T:=by rintro c o hc hn rfl;rw[t3]at hc;cases hc;exact hn ts t4
 refine k u (r.imp λo z=>⟨(ot e (Zd t2)).trans z.1,z.2⟩) ⟨λc o q=>(ot c (by rintro rfl;rw[t1]at q;cases q)).trans (g2 c o q),g3,f2.of_keeps λc o q hn=>⟨o,(ot c TM).trans q,rfl⟩,?_⟩ λc o q hn=>⟨o.slots,(ot c TM).trans q⟩;exact⟨ob,fs,T,_,_,(ot e (Zd t2)).trans g1,d2,d1,d4,t1,t2,hu▸Wy _ t3 (Kb (Wz t4 _)),Wz t4 _,by simp[z3]⟩
def leaveR(cR:Apart R)(f1:A.frames=some (env::outer))(f3:env.frame=some L)(fl:Y0 (env::outer) e cls a0 s.heap)(r:XZ e)(k:∀h',Vh e→Y0 outer e cls a0 h'→s.heap.UpToSlots h'→Q () {s with heap:=h'}):YD (leaving env TJ) Q E s:=by unfold leaving;refine wpAny_bind (noteR cR f1 f3 fl r λh1 r1 hd u1=>landR (s:={s with heap:=h1}) hd.1 hd.2.1 hd.2.2.1 hd.2.2.2 r1 λh2 r2 f2 u2=>k h2 r2 ⟨f2.1,f2.2.1,f2.2.2.1.2.2,f2.2.2.2⟩ O0)
def leaveMadeR{h:No}{vs:Nj}(cR:Apart R)(f1:A.frames=some (env::outer))(f3:env.frame=some L)(g2:B.StaysIn h)(f2:h.FunFrames B (env::outer))(hx:Heap.MadeExcOf h s.heap e cls vs)(r:XZ e)(k:∀h' t,Vh e→Y0 outer e cls SI h'→s.heap.UpToSlots h'→Q () {s with heap:=h'}):YD (leaving env TJ) Q E s:=by
 obtain⟨t,g1,tn,tt⟩:=hx.there;have g3:B.get? e=none:=by
  cases z:B.get? e with
  |none=>rfl
  |some o=>have:=g2 e o z;rw[hx.new]at this;cases this
 obtain⟨ob',z,r⟩:=r;rw[g1]at z;cases z;unfold leaving noteFrame;simp only[f3];refine wpAny_bind (RH (V0 rfl (x:=.none) rfl ?_));rw[if_neg Fw];refine entryR (a0:=.ref t) cR f1 (f2.of_keeps λc o q _=>⟨o,hx.keeps c o q,rfl⟩) f3 g1 (λc o q=>hx.keeps c o (g2 c o q)) g3 rfl rfl Fr r λh1 r1 hd u1=>?_;exact landR (s:={s with heap:=h1}) hd.1 hd.2.1 hd.2.2.1 hd.2.2.2 r1 λh2 r2 fl u2=>k h2 t r2 ⟨fl.1,fl.2.1,fl.2.2.1.2.2,fl.2.2.2⟩ O0
def LoneO(o:Obj):Prop:=∃vs,o.data=.fields vs∧vs[2]?=some .none
def apart_lone:Apart LoneO:=by rintro o v ⟨vs,hd,h2⟩;exact⟨_,Wz hd _,by rw[Array.getElem?_setIfInBounds_ne Fw];exact h2⟩
def zbq.got{P:Nk}{w:Nn}{H:Hp}{h:No}{a:Nc}{o:HO}(x:WO a o):∃u,h.get? a=some u:=by
 cases o with
 |lst xs=>obtain⟨_,_,_,_,e⟩:=x;exact⟨_,e⟩
 |tup xs=>obtain⟨_,_,_,u,e,_⟩:=x;exact⟨u,e⟩
 |dK kvs=>obtain⟨_,_,_,_,o,_,_,e,_⟩:=x;exact⟨_,e⟩
 |dT kvs=>obtain⟨_,_,_,_,o,_,_,e,_⟩:=x;exact⟨_,e⟩
 |set S n=>obtain⟨o,_,_,_,e,_⟩:=x;exact⟨_,e⟩
 |ins C dx fs=>obtain⟨_,_,_,e,_⟩:=x;exact⟨_,e⟩
 |own y=>obtain⟨_,e⟩:=x;exact⟨_,e⟩
 |xd fs=>obtain⟨_,⟨_,_,_,e,_⟩,_⟩:=x;exact⟨_,e⟩
 |rng lo hi=>obtain⟨_,_,_,e⟩:=x;exact⟨_,e⟩
 |frz ob u=>obtain⟨e,_⟩:=x;exact⟨_,e⟩
 |tbl ps=>exact⟨_,(show h.get? a=some _ from x)⟩
 |met f y=>exact⟨_,(show h.get? a=some _ from x)⟩
 |ext φ=>obtain⟨_,⟨_,e⟩,_⟩:=x;exact⟨_,e⟩
def LoneD(dd:Option Addr)(o:Obj):Prop:=LoneO o∧o.dict=dd
def zdj{dd:Option Addr}:Apart (LoneD dd):=by rintro o v ⟨h,hd⟩;refine⟨apart_lone o v h,?_⟩;obtain⟨c,d,da,sl⟩:=o;cases da<;>exact hd
end
inductive CXr(P:Nk)(w:Nn)(outer:List Env)(H:Hp)(s:Ni)(E:XK)(e:Value)(s':Ni):Prop
 | mk (a:Nc) (cls a0:Value) (dd:Option Addr) (H':Hp) (B:No) (he:e=.ref a) (os:s'.os=s.os) (bare:AllBare s'.gens) (un:Un (frs outer) [] H H' s.heap s'.heap) (hok:HOk P w H' s'.heap)
   (hB:∀b o,s.heap.get? b=some o→b∉frs outer→∃u,B.get? b=some u) (hT:∀b o,H' b=some o→∃u,B.get? b=some u) (fl:Y0 outer a cls a0 s'.heap) (ln:MF a) (q:E cls dd H'):BU w outer H s E e s'
def flyUn{P:Nk}{w:Nn}{l:List Env}{H H':Hp}{h g h' B base:No}(un:Un (frs l) [] H H' h g)(hok:WU H' g)(hB:∀b o,h.get? b=some o→b∉frs l→∃u,B.get? b=some u)(hT:∀b o,H' b=some o→∃u,B.get? b=some u)(hg:B.StaysIn g)(hh:B.StaysIn h')(fr:g.FunFrames base l)(us:g.UpToSlots h'):Un (frs l) [] H H' h h'∧WU H' h':=by
 have same:∀b o u,B.get? b=some u→g.get? b=some o→h'.get? b=some o:=λb o u e q=>by have:=hg b u e;rw[q]at this;cases this;exact hh b _ e
 refine⟨⟨λb o e n hb hx=>?_,λb o e n hb hx=>?_,un.free,λb o e hx=>?_,un.tups,un.frzs,un.tbls⟩,λb o e=>?_⟩
 ·obtain⟨u,eu⟩:=hB b o e hb;exact same b o u eu (un.keep b o e n hb hx)
 ·obtain⟨sl,e1⟩:=un.slot b o e n hb hx;obtain⟨_,o',aA,hd⟩:=fr.mem hb;obtain⟨ll,e2⟩:=us b _ e1 λvs z=>by rw[e1]at aA;cases aA;exact hd vs z
  exact⟨ll,e2⟩
 ·by_cases hb:b∈frs l
  ·obtain⟨_,o',aA,hd⟩:=fr.mem hb;obtain⟨ll,e2⟩:=us b _ aA hd;exact⟨_,e2⟩
  obtain⟨u,eu⟩:=hB b o e hb;exact⟨u,hh b u eu⟩
 refine (hok b o e).stay (λc v hc q=>?_) (λ_ q=>q) λ_ _ q=>q;obtain⟨u,eu⟩:∃u,B.get? c=some u:=by
  rcases hc with rfl|hc
  ·exact hT _ _ e
  exact hT _ _ hc
 exact same c v u eu q
def Inv.fly{X:Cx}{a7:Nd}{σ:St}{H H':Hp}{s s':Ni}{B h':No}(I:Gj)(os:s'.os=s.os)(bare:AllBare s'.gens)(un:Un (frs X.stack) [] H H' s.heap s'.heap)(hok:YU H' s'.heap)(hB:∀b o,s.heap.get? b=some o→b∉frs X.stack→∃u,B.get? b=some u)(hT:∀b o,H' b=some o→∃u,B.get? b=some u)(hg:B.StaysIn s'.heap)(hh:B.StaysIn h')(fr:s'.heap.FunFrames B X.stack)(us:s'.heap.UpToSlots h') :
  Inv X a7 σ H' {s' with heap:=h'}:=by
 obtain⟨u,k⟩:=flyUn un hok hB hT hg hh fr us;exact I.call' (s':={s' with heap:=h'}) (ch:=[]) os u k bare λb z=>absurd z Fr
def Inv.out{X:Cx}{a7:Nd}{σ:St}{H H':Hp}{s s':Ni}{B:No}{E:XK}{a:Nc}{cls a0:Value}{dd:Option Addr}(I:Gj)(oF:X.ex=[])(J:ZA H' s')(hB:∀b o,s.heap.get? b=some o→b∉frs X.stack→∃u,B.get? b=some u)(hT:∀b o,H' b=some o→∃u,B.get? b=some u)(fl:Y0 X.outer a cls a0 s'.heap)(ln:MF a)(q:E cls dd H'):CXr X.prog X.w X.outer X.H₀ X.s₀ E Ht s':=by
 refine⟨a,cls,a0,dd,H',B,rfl,J.os,J.bare,by have:=J.base;rw[oF]at this;exact this,J.hok,λb o e hb=>?_,hT,fl,ln,q⟩;obtain⟨o',e'⟩:=YC e (by rw[oF];simp);refine hB b o' e' λz=>?_;rcases Qi.mp (X9 z) with r|r
 ·exact absurd (UI I.ok.above) (by rw[r];exact Yy _)
 exact hb r
def PassesS(CX:CXT)(X:Cx)(E:St→XK):Prop:=∀(a7:Nd) (σ:St) (H:Hp) (s:Ni) (e:Value) (s':Ni),ZA H s→CX X.stack H s (E σ) e s'→X.xe e s'
section
variable{P:Nk}{w:Nn}{K:Na}{mg:Ng}{base:No}{N ps:Nh}{qual:Str}{scope:Scope}{f:Nc}{cd:Value}{A:Np}{outer:List Env}{s:Ni}{H:Hp}{E:XK}
def passR{E':XK}(h:∀c d H,E' c d H→E c d H):zh1 Ly Oo E':=by intro a7 σ H1 s1 e s' I hx;obtain⟨a,cls,a0,dd,H',B,rfl,os,bare,un,hok,hB,hT,fl,ln,q⟩:=hx;refine leaveR zdj I.ok.frames rfl fl ln λh' ln' fl' us=>?_;exact I.out rfl (I.fly os bare un hok hB hT fl.1 fl'.1 fl.2.2.1 us) hB hT fl' ln' (h _ _ _ q)
def raiseR{a7:Nd}{σ:St}{H1:Hp}{s1:Ni}{h1:No}{e:Nc}{cls:Value}{vs:Nj}(I:Df s1)(hx:Heap.MadeExcOf s1.heap h1 e cls vs)(q:E cls none H1) :
  (ZE E).xe TJ {s1 with heap:=h1}:=by
 have av:∀b o,s1.heap.get? b=some o→b∉frs Go→∃u,(Z7 AD).get? b=some u:=λb o e nb=>⟨o,NA e nb⟩;have ax:Heap.StaysIn (Z7 AD) s1.heap:=λb o e=>NU e;have bu:=PySem.W.funFrames_hide (as:=frs Go) I.stack λenv he b hb=>Xj.mpr ⟨env,he,hb⟩;have hT:∀b o,H1 b=some o→∃u,(Z7 AD).get? b=some u:=λb o e=>by have ad:=I.hok.lt e;obtain⟨u,hu⟩:∃u,s1.heap.get? b=some u:=(Y' o e).got;exact av b u hu λz=>by rw[I.stkFree b z]at e;cases e
 refine leaveMadeR (B:=Z7 AD) (zdj (dd:=none)) I.ok.frames rfl ax bu hx (hx.there.elim λt z=>⟨_,z.1,⟨_,rfl,rfl⟩,rfl⟩) λh' t ln fl us=>?_;refine I.out rfl (I.fly (s':=s1) rfl I.bare Un.refl I.hok av hT ax fl.1 bu ((Heap.UpToSlots.of_keeps hx.keeps).trans us)) av hT fl ln q
abbrev bmVE:List Value:=[.type "ValueError",.type "Exception",.type "BaseException",.type "object"]
end
structure Exc(K:Na)(C:Nc):Prop where
 inK:JM C bmVE "ValueError.__new__" = true
def exc_obj{K:Na}{h:No}{C:Nc}{bmB:Nj}{newId:String}(X:K.In h)(q:JM C bmB newId=true) :
  ∃bm N nm qn bs hdct sn sub ab col dd k0 k1 k2 k3 k5 mN,h.get? C=some (excClassObj nm qn C N bs bm hdct sn sub ab col dd k0 k1 k2 k3 k5 newId)∧h.Ns N mN∧mN "__init__" = none∧OwnTail h bmB bm:=by
 unfold PySem.W.excIn at q;split at q
 ·rename_i dd cd sl ho;split at q
  ·rename_i C' bm k0 k1 k2 k3 n k5 hm hs;simp only[Yn,beq_iff_eq,Ym]at q;obtain⟨⟨⟨⟨⟨rfl,rfl⟩,oI⟩,ht⟩,hok⟩,qi⟩:=q;obtain⟨nm,bs,mro,ns,qn,hd,sn,sub,ab,col,del⟩:=cd;dsimp only at hm oI hok qi;subst hm oI;have hsl:sl=#[k0,k1,k2,k3,He (.builtin n),k5]:=by obtain⟨l⟩:=sl;simp only at hs;rw[hs]
   subst hsl;exact⟨bm,ns,nm,qn,bs,hd,sn,sub,ab,col,dd,k0,k1,k2,k3,k5,_,X _ _ ho,.of_isNs (PySem.W.isNs_of_in X hok),PySem.W.nsMap_none_of_in X hok qi,PySem.W.tail_of_in X ht⟩
  cases q
 cases q
section
variable{P:Nk}{w:Nn}{K:Na}{mg:Ng}{base:No}{N ps:Nh}{qual:Str}{scope:Scope}{f:Nc}{cd:Value}{A:Np}{outer:List Env}{s:Ni}{H:Hp}{E:XK}
def tRaise(C:Nc)(E:XK)(t:TA):TS:=λ_ σ H=>t σ H λvs H1=>Aj2 (vs.length≤sizeLine) (E Hw none H1)
def ps_raise{x:Str}{C:Nc}{e₀:Expr}{rest:Nq}{np cpos pos:Pos}{t:TA}(c:NV C)(hg:Gl Oo x)(hm:mg x=some Hw)(ha:PA Oo (e₀::rest) t)(cM:Gw=false:=by decide)(he:starEach (e₀::rest) Li=(false,eval e₀ Li)::starEach rest Li:=by rfl)(bo:(Tz Pd).any (·.1)=false:=by rfl) :
  PS Oo (.Raise (He (.Call E4 (e₀::rest) [] cpos)) none pos) (tRaise C E t):=by
 intro a7 s1 σ H1 D I h;obtain⟨tl,N',nm,q,bs,hdct,sn,sub,ab,col,dd,k0,k1,k2,k3,k5,mN,hC,hN,qi,T⟩:=exc_obj I.ok.mod.kin c.inK;refine wpAny_Raise_call_subT (C:=C) (nm:=nm) (q:=q) (N:=N') (bs:=bs) (bm:=tl) (hdct:=hdct) (sn:=sn) (sub:=sub) (ab:=ab) (col:=col) (dd:=dd) (k0:=k0) (k1:=k1) (k2:=k2) (k3:=k3) (k5:=k5)
  Jx (mN:=mN) (T.hasType Jx.hasBase) (I.ok.hd rfl) (by rw[show starEach (e₀::rest) (ZE E).env=_ from he];show(false||(backTo cpos (starEach rest (ZE E).env)).any (·.1))=false;rw[show(Tz (starEach rest (ZE E).env)).any (·.1)=false from bo];rfl) qi (Bp ⟨rfl,?_⟩ cM)
 have h2:=ha cpos a7 s1 σ H1 _ I h;rw[show starEach (e₀::rest) (ZE E).env=_ from he]at h2 ⊢;exact Calls.evalArgs_plain (wpAny_mono h2 (λus s2 ⟨vs,H2,I2,r,hl,q2⟩=>⟨rfl,by rw[←r.length];exact hl,I2.bk _ _ hC,hN.keeps I2.bk,T.keeps I2.bk,λh' e hx=>raiseR I2 hx q2⟩) λ_ _ y=>y)
def Fun.okX{x qual:Str}{st:Stmt}{f:Nc}{fd:Nw}{N ps:Nh}{k:Nat}{sp:Sp}(F:L7)(S:KR CN)(len:∀vs H Q E,sp vs H Q E→vs.length=ps.length)(bG:∀ (cdv:Value) (A:Np) (outer:List Env) (s:Ni) (H:Hp) (vs:List V) (Q:VK) (E:XK),U5 Rw→sp vs H Q E →
   ∃t,PSs (cxOf Ly P w K mg base N qual CN f cdv A outer s H E) Oj t∧t {nx:=λ_ H'=>Q .non H',rt:=Q} EO H):ZC Ly (k+1) f fd ps sp:=by
 obtain⟨oc,od,kV,doc,pm,an,cdv,ct,osl,rfl,lk,aS⟩:=F.ex;exact fn_of lk aS S len λA outer s H vs Q E hr eS=>bG cdv A outer s H vs Q E hr eS
def zej{X:Cx}{a7:Nd}{σ:St}{H:Hp}{s:Ni}{M:Model}{A:Np}{E:Nb}{i:Nat}{x:Str}{pos:Pos}{Q:Unit→Shared→Prop}(I:Gj)(hN:X.N.Nodup)(hi:X.N[i]?=some x)(hk:X.env.scope.names.lookup x=some .local)(h:∀s',ZD Cr H s'→Q () s'):YD (do bindName X.env x .none;unbindBehindTheSuite X.env x pos) Q E s:=by
 obtain⟨m,hn,hl⟩:=id I.loc;have kR:(X.env.scope.kind==.class||(X.env.scope.kind==.module&&X.env.locals != X.env.globals))=false:=by rw[I.ok.kind];rfl
 refine wpAny_nameGoes_keeps hk hn kR λh' v jX hs=>h _ ?_;obtain⟨oL,_,_,hoL,_⟩:=id hn;have neL:∀b o,X.s₀.heap.get? b=some o→b≠X.env.locals:=λb o e=>Zk Lb;refine⟨I.ok,I.os,I.bare,⟨λb o e n hb hx=>(hs.2 b CI).trans (UR hx),λb o e n hb hx=>?_,I.base.free,λb o e hx=>?_,I.base.tups,I.base.frzs,I.base.tbls⟩,⟨_,jX,λj y v' e1 e2 e3=>?_⟩,λy c e=>?_,I.free,I.freeC,λp hp=>?_,λb ob e=>?_,by simpa using I.len⟩
 ·obtain⟨sl,e1⟩:=US hx;exact⟨sl,(hs.2 b CI).trans e1⟩
 ·obtain⟨o',e1⟩:=YC e hx;exact⟨o',(hs.2 b CI).trans e1⟩
 ·have hj:j≠i:=λz=>by
   subst z;rw[List.getElem?_set]at e2;split at e2
   ·split at e2<;>cases e2
   ·contradiction
  rw[List.getElem?_set_ne (Zd hj)]at e2;obtain⟨u',r',q⟩:=hl j y v' e1 e2 e3;refine⟨u',r',?_⟩;rcases q with⟨k,e⟩|⟨k,c,e,z⟩
  ·refine .inl ⟨k,?_⟩;have:y≠x:=λe=>hj (Fb (e▸hi));simp[this,e]
  exact .inr ⟨k,c,e,OO (I.cne y c e)⟩
 ·obtain⟨w',z⟩:=I.cell y c e;exact⟨w',OO (I.cne y c e)⟩
 ·obtain⟨e,n,ne,nf,d⟩:=YS hp;exact⟨(hs.2 p.1 ne).trans e,n,ne,nf,d⟩
 refine (Y' ob e).stay (λc w' hc q=>(hs.2 c ?_).trans q) (λ_ q=>q) λ_ _ q=>q;rintro rfl;rcases hc with hc|hc
 ·rw[←hc,I.free]at e;cases e
 rw[I.free]at hc;cases hc
def Ends.off(i:Nat)(D:Ends):Ends:={nx:=λ σ H=>D.nx Cr H,rt:=D.rt,bk:=λ σ H=>D.bk Cr H,ct:=λ σ H=>D.ct Cr H}
end
abbrev Cx.tried(X:Cx)(E:Nb)(pn:Nd):Cx:={X with xe:=E,pn:=pn}
abbrev Cx.suite(X:Cx)(a:Nc):Cx:={X with A:=X.A.mark (Fy a),calm:=false,xe:=λ_ _=>False}
section
variable{X:Cx}{a7:Nd}{σ:St}{H:Hp}{s:Ni}{E:Nb}{a:Nc}
def Cx.Ok.tried(ok:X.Ok)(E:Nb)(pn:Nd):(MG pn).Ok:=
 ⟨ok.mod,ok.kind,ok.glob,ok.blt,ok.above,ok.inj,ok.has,ok.cab,ok.hd,ok.frames,ok.stk,ok.exf,ok.bs,ok.bsz,ok.noex,ok.exfs,ok.funs,ok.frf⟩
def Inv.tried(I:Gj)(E:Nb):Inv (MG (X.pn++a7)) [] σ H s:=
 ⟨I.ok.tried E _,I.os,I.bare,I.base,I.loc,I.cell,I.free,I.freeC,λp hp=>YS (by rwa[Zp]at hp),I.hok,I.len⟩
def Inv.untried{pn:Nd}{pins':Nd}(ok:X.Ok)(I:Inv (MG (X.pn++a7)) pins' σ H s):ZA H s:=
 ⟨ok,I.os,I.bare,I.base,I.loc,I.cell,I.free,I.freeC,λp hp=>YS L4,I.hok,I.len⟩
def Inv.suite(I:Gj)(a:Nc):Inv (X.suite a) a7 σ H s:=
 ⟨⟨I.ok.mod,I.ok.kind,I.ok.glob,I.ok.blt,I.ok.above,I.ok.inj,I.ok.has,I.ok.cab,(λh=>nomatch h),I.ok.frames,I.ok.stk,I.ok.exf,I.ok.bs,I.ok.bsz,I.ok.noex,I.ok.exfs,I.ok.funs,I.ok.frf⟩,I.os,I.bare,I.base,I.loc,I.cell,I.free,I.freeC,I.pin,I.hok,I.len⟩
def SP.untried{D:Ends}{f:Flow}(ok:X.Ok)(h:SP (MG (X.pn++a7)) [] D f s):Bo D f s:=by
 cases f with
 |next=>obtain⟨σ',H',I,q⟩:=h;exact⟨σ',H',I.untried (pn:=[]) ok,q⟩
 |brk=>obtain⟨σ',H',I,q⟩:=h;exact⟨σ',H',I.untried (pn:=[]) ok,q⟩
 |cont=>obtain⟨σ',H',I,q⟩:=h;exact⟨σ',H',I.untried (pn:=[]) ok,q⟩
 |ret u=>obtain⟨v,σ',H',I,r,q⟩:=h;exact⟨v,σ',H',I.untried (pn:=[]) ok,r,q⟩
end
end L2
namespace L2
open PySem PySem.Spec PyProof.Rows PySem.W PySem.Builtin PySem.Builtin.ObjectAttr PySem.Builtin.Getset_descriptor
structure ExI(K:Na)(D:Nc):Prop where
 ga:findIn K HQ "__getattribute__" = some PP
 nga:findIn K HQ "__getattr__" = some none
 bx:mroIn K D (.type "BaseException")=some true
 at_:findIn K HQ "__class__" = some E5
 gs:specialIn K Gd "__get__" = some Ps
 tk:takesIn K Gd=some true
 ob:mroIn K D (.type "object")=some true
def ExI.cl{K:Na}{D:Nc}(c:V1 D):(clsIn K D).isSome=true:=by
 have h:=c.ob;unfold mroIn at h;cases z:clsIn K D with
 |none=>rw[z]at h;cases h
 |some _=>rfl
abbrev ExAt(x:Nc)(cls:Value)(h:No):Prop:=∃o,h.get? x=some o∧o.cls=cls
def ExAt.type{M:Model}{x:Nc}{cls:Value}{h:No}(p:ExAt x cls h):Vi (typeOf RW) cls:=by obtain⟨o,ho,rfl⟩:=p;exact(Looks.ld ho).andThen .now
section
variable{prog:Nk}{w:Nn}{A:Np}{E:Nb}{s:Ni}{K:Na}{x D:Nc}
def ex_find{M:Model}{h:No}(c:V1 D)(X:K.In h)(p:JN h):Vi (find RW HQ "__class__") (.bind GM Gd):=by have L1:=looks_findIn (M:=M) X c.at_;have L2:Vi (getOf E5) Ps:=looks_specialIn X c.gs;have L3:=looks_takesIn (M:=M) X c.tk;refine L1.andThen (L2.andThen ?_);exact(show Vi (dataDescriptor? E5 Ps) (He (GM,Gd)) from L3.andThen .now).andThen (Looks.tag .now)
def ex_class_get{tp:Value}{R:Nv}(X:K.In s.heap)(p:JN s.heap)(hm:mroIn K D (.type "object")=some true)(h:R (Ee HQ) s):codeAny Ga A (.call GM ⟨[Gd,RW,tp],[]⟩) R s:=by
 obtain⟨hh,g,dr,t,os⟩:=s;have L0:=p.type (M:=model prog w);have L1:=looks_mroIn (M:=model prog w) X hm;refine codeAny_call_builtin KF.slot_gs.plain KF.entry_gs (KF.slot_gs.check _ _ _ _ _ _ _ _ KF.type_class (KF.args_gs _ _ _) ?_);unfold Builtin.«getset_descriptor.__get__» descrGet;rw[dga_obj];refine wpAny_bind (wpAny_pure ?_);unfold descrGetter descrCheckInstance descrNameAndClass isInstance;simp only[KF.owner_class]
 repeat lk
 refine⟨JG FK,codeAny_builtin KF.entry_class ?_⟩;unfold Builtin.«object.__class__» shownTypeOf
 repeat lk
 exact h
def ex_check{M:Model}{nameV:Value}{Q:Unit→Shared→Prop}(c:V1 D)(X:K.In s.heap)(p:JN s.heap)(hq:Q () s):YD (checkBuiltinCall "BaseException.__getattribute__" ⟨[RW,nameV],[]⟩) Q E s:=by
 obtain⟨h,g,d,t,os⟩:=s;have hk:builtinKind "BaseException.__getattribute__" = some .slot:=by decide+kernel
 have jI:splitId "BaseException.__getattribute__" = some ("BaseException", "__getattribute__"):=by decide+kernel
 have ha:=F.args_bexc_ga RW nameV;have L0:=p.type (M:=M);have L1:=looks_mroIn (M:=M) X c.bx;have LI:Vi (isInstance RW (.type "BaseException")) true:=L0.andThen L1;simp only[checkBuiltinCall,hk,jI];refine wpAny_bind (LI.at ?_)
 repeat(first|lk|wp_step)
 exact hq
def ex_entry{tk:Tok}{Q:Fin→Shared→Prop}(c:V1 D)(X:K.In s.heap)(p:JN s.heap)(hq:Q (.done (.ret HQ)) s):ZG (Builtin.«object.__getattribute__» ⟨[RW,.str "__class__" tk],[]⟩) Q E s:=by have p':=p;have X':=X;obtain⟨h,g,d,t,os⟩:=s;have L0:=p.type (M:=model prog w);have M1:=ex_find (M:=model prog w) c X p;refine wpAny_bind (AB (Er (Rp (Vo (RH (M1.at ?_))))));show ZW _ (holding _ (call _ [_,RW,HQ]) >>= ret) _ _ _;exact wpAny_bind (Ts (wpAny_call (ex_class_get (s:=⟨h,g,d,t,os⟩) X p c.ob (GG hq))))
def ex_class{Q:Option Value→Shared→Prop}(c:V1 D)(X:K.In s.heap)(p:JN s.heap)(h:Q (Fy D) {s with toks:=s.toks+1}):ZG (getAttr? RW "__class__") Q E s:=by
 obtain⟨hh,g,d,t,os⟩:=s;have L0:=p.type (M:=model prog w);have L1:=looks_findIn (M:=model prog w) X c.ga;have L2:=looks_findIn (M:=model prog w) X c.nga;have eO:(Value.builtin "BaseException.__getattribute__" == Value.builtin "object.__getattribute__")=false:=by decide+kernel
 have f3:=Jy.ga.bind RW;unfold getAttr? getAttrBy? getAttrBy;refine wpAny_bind (wpAny_mkText (wpAny_bind (SU (wpAny_holding (Er (Vo (RH (L1.at ?_))))))));dsimp only;rw[if_neg (by rw[eO,Bool.and_false];exact Zb)];unfold getAttrByItsOwn hookBefore;rw[if_pos (show onTheHeap (TC D)=true from rfl)];refine wpAny_bind (NW (RH (SU (wpAny_holding ?_))));unfold callGetattribute;rw[if_neg (by exact Zb)];unfold boundAndCalled;rw[f3];refine wpAny_bind (wpAny_pure ?_);show ZW _ (call GQ [RW,.str "__class__" t]) _ _ _;refine wpAny_call (LM (ex_check (s:=⟨hh,g,d,t+1,os⟩) c X p (ex_entry (s:=⟨hh,g,d,t+1,os⟩) c X p ?_)));show ZW _ (handedOut HQ) _ _ _;exact handed_on rfl (GG h)
theorem ex_kit{K:Na}{x D:Nc}(c:V1 D):KitX K RW HQ (ExAt x HQ) where
 ty:=λ_ _ _ p=>p.type
 it:=λ_ _ X _=>by
  have dZ:=c.cl;unfold clsIn at dZ;split at dZ
  ·rename_i c' d' cd' ll ho;intro A' Q' E' s' k q;unfold isType loadHead;exact wpAny_bind (wpAny_loadPart (k _ _ (X _ _ ho)) (GG q))
  cases dZ
 ne:=λh tp dd a8 n sl X jA=>by
  have dZ:=c.cl;refine Jk.mpr λq=>?_;have e:D=tp:=Value.ref.inj (Ri q);subst e;unfold clsIn at dZ;split at dZ
  ·rename_i c' d' cd' ll ho;have z:=(X _ _ ho).symm.trans jA;cases z
  cases dZ
 ca:=λX p k=>ex_class c X p k
end
end L2
namespace L2
open PySem PySem.Spec PyProof.Rows
section
variable{X:Cx}{K:Na}{o e tg l:Expr}{es:Nq}{to tl:TE}{t:TA}{name:Str}{apos cpos:Pos}{T id:String}{r:V→List V→Hp→VK→Prop}
def pe_bmK(hK:X.K=K)(pa:PlainAttrs T)(slot:O6)(fG:typeOf RV=pure (.type "method_descriptor"))(hm:MtR X id r)(ho:QA o to)(ha:Vt (e::es) t)(cO:attributeBase o name X.env (GX o)=eval o X.env:=by rfl)(kM:((Tz (starEach (e::es) X.env)).all (λx=>!x.1) && (backToKw cpos (keywordEach [] X.env)).all (λx=>x.1.isSome)
   && decide ((e::es).length+([]:List Keyword).length+(if([]:List Keyword).isEmpty then 0 else 1)<30))=true:=by rfl)(cI:(apos.endLine==cpos.line)=true:=by rfl)(hs:starEach (e::es) X.env=(false,Ir)::starEach es X.env:=by rfl)(dh:(Tz HM).any (·.1)=false:=by rfl) :
  PE X (.Call LX (e::es) [] cpos) (tBM K T r to t):=hK▸zcd pa slot fG hm ho ha cO kM cI hs dh
end
def lc_words{K:Na}{g:TG}{tc:TT}{te:TE}{Q:VK}{a:Nc}{τ:St}{H:Hp}{as:Nl}{ps:List (Str×Bool)}(T:St→Prop)(ha:WW EB)(hp:Paired (λa p=>H a=some (.tup [.str p.1,.bl p.2])) as ps)(hn:as.length≤sizeLine)(h0:T τ)(hs:∀b w t,H b=some (.tup [Hy w,.bl t])→∀τ,T τ→∀(k1:V→St→Hp→Prop) (k0:St→Hp→Prop),(t=true→∀τ2,T τ2→k1 (Hy w) τ2 H)→(t=false→∀τ2,T τ2→MY H)→g ER τ H λ τ2 H2=>tc τ2 H2 λb H3=>if b=true then te τ2 H3 λy H4=>k1 y τ2 H4 else MY H3)(q:∀D,H D=none→Q HQ (ZU D (.lst ((ps.filter (·.2)).map λp=>V.str p.1)))):Y7 Pq τ H:=by
 have hl:=Zl hp;have at_:∀{as:Nl} {ps:List (Str×Bool)} (i:Nat),Paired (λa p=>H a=some (.tup [.str p.1,.bl p.2])) as ps→∀(h1:i<as.length) (h2:i<ps.length),H as[i]=some (.tup [.str ps[i].1,.bl ps[i].2]):=by
  intro as ps i r;induction r generalizing i with
  |nil=>intro h1;cases h1
  |cons h t ih=>
   intro h1 h2;cases i with
   |zero=>exact h
   |succ i=>exact ih i (Kn h1) (Kn h2)
 have dB:(as.map V.ref).length=as.length:=Qa ..;refine⟨λi m ys τ H1=>Aj5 (H1=H) (T τ) (m=as.length-i) (i≤as.length) (ys=((ps.take i).filter (·.2)).map λp=>V.str p.1),⟨_,rfl,h0,rfl,Sv,rfl⟩,?_⟩;rintro i m ys τ H1 ⟨rfl,ht,rfl,hi,rfl⟩;by_cases ad:i<as.length
 ·have gU:i < ps.length:=by lia
  refine .inr ⟨⟨EB,.ref as[i],ha,by rw[Qt,Qb ad];rfl⟩,?_,?_⟩
  ·rw[Qa];exact Yo (Wl ..) (Gp Ze)
  rintro x H' ⟨rfl,hx⟩;have bv:=hx _ ha;rw[Qt,Qb ad]at bv;have eN:V.ref as[i]=x:=Qq bv;subst eN;have tk:ps.take Gr=ps.take i++[ps[i]]:=Qj gU;have aO:=at_ i hp ad gU;generalize ps[i]=p at tk aO;refine hs as[i] p.1 p.2 aO τ ht _ _ (λht τ2 h2=>?_) (λht τ2 h2=>?_)
  ·exact⟨_,Gk,rfl,h2,rfl,ad,by rw[tk,Wc,Qr,Wn (by exact ht)];rfl⟩
  exact⟨_,Gk,rfl,h2,rfl,ad,by rw[tk,Wc,Qr,Wg (by rw[ht];decide)];simp⟩
 have e:i=as.length:=by lia
 subst e;refine .inl ⟨⟨EB,ha,by rw[dB];exact Qh _⟩,λD hD=>?_⟩;rw[Qm Fs];exact q D hD
section
variable{X:Cx}
def zeh:YV (.builtin "isinstance") (λxs H Q=>Ex4 λ(x:V) (T:String) (t:Value) (b:Bool)=>Aj4 (xs=[x,.ty T]) (TyOf X.K H x t) (NG C3=some b) (Lq b)):=by intro a7 s σ H xs us Q I r h;obtain⟨x,T,t,b,rfl,ty,e,q⟩:=h;obtain⟨u,w',rfl,rx,e2⟩:=vals2 r;have e':w'=Value.type T:=e2;subst e';exact isinst_ok I rx ty e λtk=>⟨C0,H,HI,rfl,q⟩
end
end L2
namespace L2
open PySem
def ps_no:KO st (λ_ _ _=>False):=λ_ _ _ _ _ _ h=>h.elim
def pe_tyN(hg:Mr x)(hm:X.mg x=none)(hv:bootBuiltins x=some C3)(hn:x ≠ "__name__" :=by decide)(cM:Gw=false:=by decide):QA EM (tC (.ty T)):=by intro a7 s σ H Q I h;exact J8 hv ⟨.ty T,H,I,rfl,h⟩ hn cM
end L2
namespace K21
open PySem L2 Wb
abbrev zgg:Stmt:=top 15
inductive Odd(H:Hp):V→Prop
 |tx (z:Str) (h:z.cps.all (· < 128)=true) (h2:z.cps.size≤1000):Odd H (.str z)
 |non:Odd H .non
 |bl (b:Bool):Odd H (.bl b)
 |int (i:Int):Odd H (.int i)
 |ls (a:Nc) (xs:List V) (h:H a=some (.lst xs)):Odd H (.ref a)
 |tp (a:Nc) (xs:List V) (h:H a=some (.tup xs)):Odd H (.ref a)
def Odd.keep{H H':Hp}{v:V}(h:V2 v)(k:Keep [] H H'):Odd H' v:=by
 cases h with
 |tx z h h2=>exact .tx z h h2
 |non=>exact .non
 |bl b=>exact .bl b
 |int i=>exact .int i
 |ls a xs h=>exact .ls a xs (Pc h)
 |tp a xs h=>exact .tp a xs (Pc h)
def sgn(c:Nat):Bool:=decide (97≤c∧c≤122)
def nmS(z:Str):Bool:=decide (1≤z.cps.size∧z.cps.size≤8)&&z.cps.toList.all sgn
def nmV:V→Bool
 |.str z=>nmS z
 |_=>false
def zis{z:Str}:nmS z=true↔zb6 z:=by
 unfold nmS zb6 sgn;rw[Yn,decide_eq_true_iff,Yc,and_assoc];constructor
 ·rintro⟨h1,h2,h3⟩;exact⟨h1,h2,λc hc=>of_decide_eq_true (h3 c hc)⟩
 rintro⟨h1,h2,h3⟩;exact⟨h1,h2,λc hc=>decide_eq_true (h3 c hc)⟩
def zio{H:Hp}{z:Str}(h:zb6 z):V2 To:=by refine .tx z ?_ (Zf h.2.1 Fw);rw[Array.all_eq_true];intro i hi;have:=h.2.2 z.cps[i] (by rw[Array.mem_toList_iff];exact Array.getElem_mem hi);exact decide_eq_true Fs
inductive IspIsName(vs:List V)(H:Hp)(Q:VK):Prop
 |mk (v:V) (h0:vs=[v]) (h1:Odd H v) (h2:∀H',Keep [] H H'→Q (.bl (nmV v)) H'):IspIsName vs H Q
def zdu:Sp:=λvs H Q _=>IspIsName vs H Q
def nd1:(["sign"]:List Str).Nodup:=by decide+kernel
section
variable{P:Nk}{w:Nn}{K:Na}{mg:Ng}{base:No}
def scIsName:zar ["thing"] ["thing"] (zaj zgg):=fsk
def ok_isname(F:Z1 "is_name" "is_name" zgg f fd)(hML:mg "MOST_LETTERS" = some (SQ 8 tk))(bi:mg "isinstance" = none)(jG:mg "str" = none)(aa:G')(af:mg "all" = none):ZB 1 f fd ["thing"] zdu:=by
 refine F.okL scIsName Fx;obtain⟨v,rfl,hv,k⟩:=h;have hu:=zcm hr;have aJ  :=sizeLine_eq;refine⟨_,zae (Ep (L9 (Ae (pe_tyN (T:= "str") rfl jG PyProof.Rows.boot_str))) (O1 zfg))
  (zag (za9 (pe_and (pe_chain op_le op_le zah (LV Re) (zea (v:=.int 8) rfl hML ⟨tk,rfl⟩))
   (pe_one (zai (call_all rfl) FX af PyProof.Rows.boot_all (zaa (zfw (M:=["sign"]) (ix:=[none]) (mkB scIsName) rfl (pi_str Hx) (λC a7 ex s H=>JH nd1)
      (λC a7 ex s H=>zcp) (λC a7 ex s H=>pe_chain op_le_str op_le_str za4 Hx za4)) zad)))))),?_⟩
 cases hv with
 |non=>exact⟨A5,_,_,_,false,rfl,.non,rfl,A5,WZ Rh⟩
 |bl b=>exact⟨A5,_,_,_,false,rfl,C0,rfl,A5,WZ Rh⟩
 |int i=>exact⟨A5,_,_,_,false,rfl,EN,rfl,A5,WZ Rh⟩
 |ls a xs h=>exact⟨A5,_,_,_,false,rfl,FJ h,rfl,A5,WZ Rh⟩
 |tp a xs h=>exact⟨A5,_,_,_,false,rfl,CF h,rfl,A5,WZ Rh⟩
 |tx z asc lE=>
 refine⟨A5,_,_,_,true,rfl,To,rfl,A5,W0 ?_⟩;refine⟨A5,z,rfl,(by show z.cps.size≤sizeLine;lia),_,A5,rfl,A5,?_⟩;have nof:¬(1≤z.cps.size∧z.cps.size≤8)→Q RZ H:=λq=>by
  have e:nmV To=false:=by show nmS z=false;unfold nmS;rw[decide_eq_false q];rfl
  have:=k H Keep.refl;rwa[e]at this
 rcases Kd z.cps.size 1 with h1|h1
 ·exact zal (Gx (by show ¬(1:Int)≤(z.cps.size:Int);lia)) ⟨_,rfl,W0 (nof λq=>by lia)⟩
 refine zay (Gh (by show(1:Int)≤(z.cps.size:Int);lia)) ?_;refine⟨_,A5,rfl,A5,?_⟩;rcases Kd 8 z.cps.size with h2|h2
 ·exact zal (Gx (by show ¬(z.cps.size:Int)≤8;lia)) (nof λq=>by lia)
 refine zay (Gh (by show(z.cps.size:Int)≤8;lia)) ?_;refine⟨A5,z,rfl,asc,λi m ys τ H1=>Aj5 (H1=H) (m=z.cps.size-i) (i≤z.cps.size) (ys=((Cs i).map sgn).map V.bl) (Ex1 λx0=>τ=[x0]),⟨_,rfl,rfl,Sv,rfl,none,rfl⟩,?_⟩;rintro i m ys τ H1 ⟨rfl,rfl,hi,rfl,x0,rfl⟩;by_cases ad:i<z.cps.size
 ·refine .inr ⟨ad,by rw[Qa,Qa,Ze];lia,?_⟩;rintro y H' ⟨rfl,c,hc,rfl⟩;have ke:i<z.cps.toList.length:=by rw[Yb];exact ad
  have qw:z.cps.toList[i]=c:=by rw[Uh ad]at hc;rw[Kx];exact Qq hc
  have tk:(Cs Gr).map sgn=(Cs i).map sgn++[sgn c]:=by rw[Qj ke,Qr,qw];rfl
  have l1:(!decide ((⟨#[c]⟩:Str).cps.toList<("a" : Str).cps.toList))=decide (97≤c):=by
   rw[show("a" : Str).cps.toList=[97] from by decide+kernel];show(!decide ([c]<[97]))=_;rw[Yw,Ym,decide_eq_false_iff_not,decide_eq_true_iff,List.cons_lt_cons_iff];constructor
   ·intro h;exact Kr λq=>h Oh
   rintro h (q|⟨_,q⟩)
   ·lia
   exact Ua _ q
  have l2:(!decide (("z" : Str).cps.toList<(⟨#[c]⟩:Str).cps.toList))=decide (c≤122):=by
   rw[show("z" : Str).cps.toList=[122] from by decide+kernel];show(!decide ([122]<[c]))=_;rw[Yw,Ym,decide_eq_false_iff_not,decide_eq_true_iff,List.cons_lt_cons_iff];constructor
   ·intro h;exact Kr λq=>h Oh
   rintro h (q|⟨_,q⟩)
   ·lia
   exact Ua _ q
  refine⟨A5,_,A5,rfl,A5,?_⟩;rw[l1];by_cases qx:97≤c
  ·refine zay (Gh qx) ⟨_,_,rfl,rfl,_,zar1 ‹_›,rfl,rfl,ad,?_,_,rfl⟩;rw[tk,Qr,l2];unfold sgn;rw[show decide (97≤c∧c≤122)=decide (c≤122) from decide_eq_decide.mpr ⟨λq=>q.2,λq=>⟨qx,q⟩⟩];rfl
  refine zal (Gx qx) ⟨_,zar1 ‹_›,rfl,rfl,ad,?_,_,rfl⟩;rw[tk,Qr,show sgn c=false from decide_eq_false λq=>qx q.1];rfl
 have e:i=z.cps.size:=by exact zar3 ‹_› ‹_›
 subst e;refine .inl ⟨Gg,λD hD=>?_⟩;rw[Qm (by rw[Yb];exact Qh _)];refine⟨D,z.cps.toList.map sgn,rfl,LN,?_⟩;have e:nmV To=(z.cps.toList.map sgn).all id:=by show nmS z=_;unfold nmS;rw[decide_eq_true ⟨h1,h2⟩,Bool.true_and,List.all_map];rfl
 rw[←e];exact k _ (FM hD)
end
end K21
namespace SetD
open PySem PyProof.Rows PySem.Spec
def dd(l:Nh):List Str:=l.foldl (λa x=>if x∈a then a else a++[x]) []
def dd_snoc(l:Nh)(x:Str):dd (l++[x])=if x∈dd l then dd l else dd l++[x]:=by unfold dd;rw[List.foldl_append];rfl
def dd_all(l:Nh):(dd l).Nodup∧(∀ x,x∈dd l↔x∈l)∧(dd l).length≤l.length∧((dd l).length=l.length↔l.Nodup):=by
 have key:∀n (l:Nh),l.length=n→(dd l).Nodup∧(∀x,x∈dd l↔x∈l)∧(dd l).length≤l.length∧((dd l).length=l.length↔l.Nodup):=by
  intro n;induction n with
  |zero=>intro l h;rw[List.eq_nil_of_length_eq_zero h];exact⟨Zy,λ_=>Iff.rfl,Gg,λ_=>Zy,λ_=>rfl⟩
  | succ n ih=>
   intro l h;have am:l≠[]:=λe=>by rw[e]at h;cases h
   obtain⟨t,x,rfl⟩:∃t x,l=t++[x]:=⟨l.dropLast,l.getLast am,(List.dropLast_concat_getLast am).symm⟩;rw[Qk,Wk]at h;obtain⟨h1,h2,h3,h4⟩:=ih t Fs;rw[dd_snoc];have hx:x∈dd t↔x∈t:=h2 x;by_cases q:x∈dd t
   ·rw[HK q];refine⟨h1,λy=>?_,Gp Qk,λe=>?_,λnd=>?_⟩
    ·rw[h2,Qg,Qd];exact⟨.inl,λz=>z.elim id λz=>z▸hx.mp q⟩
    ·rw[Qk,Wk]at e;lia
    rw[Zn]at nd;exact absurd rfl (nd.2.2 x (hx.mp q) x Qc)
   rw[Rb q,Qk,Qk,Wk];have nd1:∀{u:Nh},u.Nodup→x∉u→(u++[x]).Nodup:=λ{u} hu hn=>by rw[Zn];exact⟨hu,Zh.mpr ⟨Fr,Zy⟩,λa ha b hb e=>hn (by rw[Qd.mp hb]at e;exact e▸ha)⟩
   refine⟨nd1 h1 q,λy=>by rw[Qg,Qg,h2],Fs,λe=>nd1 (h4.mp Fs) λz=>q (hx.mpr z),λnd=>?_⟩;rw[h4.mpr (Zn.mp nd).1]
 exact key _ l rfl
def cn(l:Nh):Nat:=(dd l).length
def cn_le(l:Nh):cn l≤l.length:=(dd_all l).2.2.1
def cn_snoc(l:Nh)(x:Str):cn (l++[x])=if x∈l then cn l else cn l+1:=by
 unfold cn;rw[dd_snoc];by_cases h:x∈l
 ·rw[if_pos ((dd_all l).2.1 x |>.mpr h),if_pos h]
 rw[if_neg (λz=>h ((dd_all l).2.1 x |>.mp z)),if_neg h,Qk];rfl
section
variable{prog:Nk}{w:Nn}{A:Np}{R:Nv}{I:Nc}{fp wr:Nl}{G:Array GenState→Array GenState→Prop}{n:Nat}{P:Nat→Value→Prop}{St:Nat→Shared→Prop}
def loop(W:WalksS prog w A.in1 I fp wr G n P St)(S:Nc)(qC:S∉fp)(zs:Nh)(hz:zs.length=n)(jx:∀i v,P i v→∃t,v=.str (Ra i) t)(hb:n+1<scanBound) :
  ∀(k i:Nat) (s:Ni),n-i=k→i≤n→St i s→s.heap.SetOf Iy S (λx=>decide (x∈zs.take i)) (Op i) →
   (∀s',Moved (S::wr) G s s'→s'.heap.SetOf Iy S (λx=>decide (x∈zs.take n)) (Op n)→R (.ok E2) s')→codeAny Ga A (.builtin "set.update.loop" ⟨[Fu S,Fu I],[]⟩) R s:=by
 have hSw:S∉wr:=λh=>qC (W.sub _ h);have sub:∀b∈wr,b∈S::wr:=λb q=>QM q;intro k;induction k with
 |zero=>
  intro i s hk hi ax hS hR;obtain rfl:i=n:=by lia
  refine codeAny_builtin F.entry_set_update_loop ?_;rw[V3 _];show ZW A.in1 (pyNext (Fu I) >>= _) _ _ s;refine wpAny_bind (W.done s _ _ ax λs' hm=>(show ZW A.in1 (ret Value.none) _ _ s' from wpAny_pure (hR s' (hm.mono sub) ?_)));obtain⟨o,es,ep,t,ho,rest⟩:=hS;exact⟨o,es,ep,t,hm.heap S _ hSw ho,rest⟩
 |succ k ih=>
  intro i s hk hi ax hS hR;have lt:i<n:=by lia
  refine codeAny_builtin F.entry_set_update_loop ?_;rw[V3 _];show ZW A.in1 (pyNext (Fu I) >>= _) _ _ s;refine wpAny_bind (W.item i s _ _ lt ax λv s' hP jH hm=>?_);obtain⟨t,rfl⟩:=jx i v hP;have ao:i<zs.length:=by exact zar6 ‹_› ‹_›
  have eg:zs.getD i Str.empty=zs[i]:=by simp[List.getD,ao]
  rw[eg];have jb:s'.heap.SetOf Iy S (λx=>decide (x∈zs.take i)) (Op i):=by obtain⟨o,es,ep,tb,ho,rest⟩:=hS;exact⟨o,es,ep,tb,hm.heap S _ hSw ho,rest⟩
  show ZW A.in1 (holding [Value.str zs[i] t] (setAdd S (.str zs[i] t)) >>= _) _ _ s';refine wpAny_bind (wpAny_holding ?_);unfold setAdd;refine wpAny_holding (RH ((QG w).pyHash (k:=zs[i]) (by simp[PySem.strKind,Value.isStrOf]) ?_));refine wpAny_setAddHashed_of (knd:=QG w) (k:=zs[i]) (by simp[PySem.strKind,Value.isStrOf]) rfl jb (by have:=cn_le (zs.take i);rw[Ze]at this;lia) λg sb hS2=>?_;have hSi:g.SetOf Iy S (λx=>decide (x∈zs.take Gr)) (Op Gr):=by refine SetOf_congr hS2 (λx=>?_) (by rw[Qj ao,cn_snoc];by_cases q:zs[i]∈zs.take i<;>simp[q]);rw[Yw];simp only[Je,decide_eq_true_eq];rw[Qj ao,Qg,Qd]
  refine wpAny_pure ⟨plainId_quiet F.plain_set_update_loop _,ih Gr _ Fs lt (W.frame _ s' _ _ jH (by first|exact Qh _|exact Um _) λb q o e=>?_) hSi λs2 dC hS3=>hR s2 (Moved.trans W.gtrans ((hm.mono sub).then_heap (by first|exact Qh _|exact Um _) λb o q e=>?_) dC) hS3⟩
  ·rw[sb.2 b (λz:b=S=>qC (by rw[←z];exact q))];exact e
  rw[sb.2 b (λz:b=S=>q C4)];exact e
variable{E:Nb}{s:Ni}
def call_gen{x:Value}{zs:Nh}{Q:Nb}(hh:A.handled=none)(rO:∀ (led:Bool) (B:Np) (F:Nb) (R:Unit→Shared→Prop),B.handled=none→(∀ (g:No) (tk:Nat),g.SetOf Iy s.heap.objs.size (λx=>decide (x∈zs)) (cn zs)→(∀ b o,s.heap.get? b=some o→g.get? b=some o)→R () { s with heap:=g,toks:=tk }) →
   wpAny Ga B (Builtin.Frozenset.updateFrom "set.__init__" s.heap.objs.size x) R F {s with heap:=s.heap.push {cls:=.type "set",dict:=none,data:=.set #[] 0 HL}})(h:∀(g:No) (tk:Nat),g.SetOf Iy s.heap.objs.size (λx=>decide (x∈zs)) (cn zs)→Gc→Q FY {s with heap:=g,toks:=tk}) :
  wpAny Ga A (call (.type "set") [x]) Q E s:=by
 obtain⟨c,tl,hmro⟩:=Ul.mro;have hmade:=Ul.made;have fR:=Ul.sub;refine wpAny_call (codeAny_of_tree (show ZW _ (callAny (.type "set") _) _ _ _ from wpAny_pure ⟨JG FK,codeAny_builtin PySem.F.entry_type_call ?_⟩));rw[Around.under_plain (weight_type_call_type "set" [x] []) rfl];have h1:=Ul.notType;have h2:=Ul.canCreate;have hct:=PySem.F.typeCall_set_1 x
 repeat(any_goals (first|assumption|wp_step))
 refine codeAny_mono (code_set_new_1 x (E:=E) (Q₁:=λobj s₁=>∃led:Bool,obj=.ref s.heap.objs.size∧s₁={s with heap:=s.heap.push {cls:=.type "set",dict:=none,data:=.set #[] 0 HL}}) λled=>⟨led,rfl,rfl⟩) λr s1 hr=>?_;cases r with
 |error e=>exact hr
 | ok fl=>
  cases fl with
  | ret obj=>
   obtain⟨led,rfl,rfl⟩:=hr;have hS:(s.heap.push {cls:=.type "set",dict:=none,data:=.set #[] 0 HL}).get? s.heap.objs.size=some {cls:=.type "set",dict:=none,data:=.set #[] 0 HL}:=UN rfl;have hT:Shared.TypeIs {s with heap:=s.heap.push {cls:=.type "set",dict:=none,data:=.set #[] 0 HL}} FY "set" :=⟨_,hS,rfl⟩;have hli:=Ul.init.lookup;have hbi:=Ul.init.bind FY
   repeat(any_goals (first|assumption|wp_step))
   refine codeAny_mono (codeAny_call_builtin (R:=wants (λr s₂=>r=.none∧∃g tk,s₂={s with heap:=g,toks:=tk}∧g.SetOf Iy s.heap.objs.size (λx=>decide (x∈zs)) (cn zs)∧Gc) E)
    Ul.init.plain PySem.F.entry_set_init (check_set_init_1 hT ?_)) λr2 s2 eV=>?_
   ·unfold Builtin.«set.__init__» noKeywords;generalize hU:Builtin.Frozenset.updateFrom=U;wp_walk;subst hU;refine rO led _ _ _ (by simp[hh]) λg tk jb hk=>?_;exact wpAny_pure ⟨rfl,g,tk,rfl,jb,hk⟩
   cases r2 with
   |error e=>exact eV
   | ok fl2=>
    cases fl2 with
    |ret r=>
     obtain⟨rfl,g,tk,rfl,jb,sZ⟩:=eV
     repeat(any_goals (first|assumption|wp_step))
     exact h _ _ jb sZ
    |_=>exact eV.elim
  |_=>exact hr.elim
def call_set{l:Nc}{a8:Nj}{zs:Nh}{Q:Nb}(hh:A.handled=none)(hl:s.heap.IsList l a8.toArray)(hz:zs.length=a8.length)(jx:∀(i:Nat) (v:Value),a8[i]?=some v→∃t,v=.str (Ra i) t)(hb:a8.length+1<scanBound)(h:∀(g:No) (tk:Nat),g.SetOf Iy s.heap.objs.size (λx=>decide (x∈zs)) (cn zs)→Gc→Q FY {s with heap:=g,toks:=tk}) :
  wpAny Ga A (call (.type "set") [Sh]) Q E s:=by
 refine call_gen hh (λled B F R hB h=>?_) h;obtain⟨ol,jQ,bJ,nl,hV⟩:=hl;obtain⟨ocls,odict,odata,oslots⟩:=ol;simp only at bJ hV;subst bJ;subst hV;have hS:(s.heap.push {cls:=.type "set",dict:=none,data:=.set #[] 0 HL}).get? s.heap.objs.size=some {cls:=.type "set",dict:=none,data:=.set #[] 0 HL}:=UN rfl;have sF:(s.heap.push {cls:=.type "set",dict:=none,data:=.set #[] 0 HL}).get? l=some {cls:=.type "list",dict:=odict,data:=.seq a8.toArray nl,slots:=oslots}:=QS jQ;have hsls:=PySem.F.sub_list_set;have hslf:=PySem.F.sub_list_frozenset;have am:(Value.type "list" == Value.type "dict")=false:=by decide
 have ck:(s.heap.push {cls:=.type "set",dict:=none,data:=.set #[] 0 HL}).IsList l a8.toArray:=⟨_,sF,rfl,nl,rfl⟩;unfold Builtin.Frozenset.updateFrom;generalize hPI:pyIter=PI;wp_walk;subst hPI;refine wpAny_pyIter_list ck (RH (wpAny_runValue ?_));have hlS:l<s.heap.objs.size:=Qu jQ;have z1:(s.heap.push {cls:=.type "set",dict:=none,data:=.set #[] 0 HL}).objs.size=s.heap.objs.size+1:=Wv ..;have sO:l≠(s.heap.push {cls:=.type "set",dict:=none,data:=.set #[] 0 HL}).objs.size:=by rw[z1];exact Zk (Jf hlS)
 have qC:s.heap.objs.size∉[(s.heap.push {cls:=.type "set",dict:=none,data:=.set #[] 0 HL}).objs.size,l]:=by rw[z1];simp only[Qi,Jr,or_false,not_or];exact⟨Zk Ap,Wd hlS⟩
 refine loop ((Walks.list (by simp[hB]) _ l sO a8.toArray).toS) s.heap.objs.size qC zs (FA Qp hz) (λi v hv=>jx i v (Fv hv)) (FA Qp hb) _ 0 _ rfl Sv ⟨⟨_,RY,rfl,rfl⟩,(ck.push _)⟩ ?_ ?_
 ·exact SetOf_congr ((setObjOf_fresh (knd:=QG w) led).setOf (QS hS) (by unfold scanBound;exact K2 _)) (λ_=>by simp) rfl
 intro s' hm jb;obtain⟨g,g',d',pF,r9⟩:=s';have eg:g'=s.gens:=hm.gens;have ed:d'=s.drawn:=hm.drawn;have eo:r9=s.os:=hm.os;subst eg;subst ed;subst eo;show ZW _ _ _ _ _;refine wpAny_pure (h g pF ?_ λb o e=>?_)
 ·have e1:a8.toArray.size=zs.length:=by rw[Qp,hz]
  rw[e1,Qm Gg]at jb;exact jb
 have tX:b < s.heap.objs.size:=Qu e;refine hm.heap b o ?_ (QS LY);rw[z1];simp only[Qi,Jr,or_false,not_or];exact⟨Zk tX,Zk (Jf tX)⟩
end
end SetD
namespace L2
open PySem PySem.Spec PyProof.Rows
def setD(P:Nk)(w:Nn)(a:Nc)(zs:Nh):HO:=.ext λh=>h.SetOf (PySem.strKind P w) a (λx=>decide (x∈zs)) PQ
section
variable{X:Cx}
def call_set_any(hc:X.calm=true):YV (.type "set") (λxs H Q=>Ex2 λ(p:Nc) (zs:Nh)=>Aj4 (xs=[Te]) (WC Hz) (zs.length≤1000) (∀l,H l=none→Q Sh (ZU l (BV l zs)))):=by
 intro a7 s σ H xs us Q I r h;obtain⟨p,zs,rfl,hq,hz,q⟩:=h;obtain⟨u,rfl,rx⟩:=vals1 r;cases rx;obtain⟨a8,rv,pl,_⟩:=I.list hq;have hl:=rv.length;rw[Qa]at hl;refine SetD.call_set (zs:=zs) RT pl.isList hl (λi v e=>?_) (by unfold scanBound;lia) λg tk hS k=>?_
 ·have hi:i < a8.length:=(LP e).1;have ao:i<zs.length:=by exact zar6 ‹_› ‹_›
  obtain⟨u,e2,t,e3⟩:=rv.get (i:=i) (x:=.str zs[i]) (by simp[ao]);rw[e]at e2;cases e2;exact⟨t,by rw[e3];simp[List.getD,ao]⟩
 refine⟨Fu _,_,I.laid (t':=tk) k Gg (show Z5 _ g _ (BV s.heap.objs.size zs) from⟨hS,?_,λh1 h2 p1 k1=>?_⟩),rfl,q _ C2⟩
 ·obtain⟨o,_,_,_,e,_⟩:=hS;exact⟨o,e⟩
 obtain⟨o,es,ep,t,e,rest⟩:=p1;exact⟨o,es,ep,t,k1 o e,rest⟩
def zi6:YV (.builtin "len") (λxs H Q=>Ex2 λ(p:Nc) (zs:Nh)=>Aj4 (xs=[Te]) (H p=some (BV p zs)) (zs.length≤1000) (Q (Rq PQ) H)):=by intro a7 s σ H xs us Q I r h;obtain⟨p,zs,rfl,hq,hz,q⟩:=h;obtain⟨u,rfl,rx⟩:=vals1 r;cases rx;obtain⟨⟨o,es,ep,t,ho,oF,hd,hJ,hmem,hb,hf,hn⟩,_⟩:=(show Z5 H s.heap p (BV p zs) from XL hq);exact call_len_set ho oF hd hf (by rw[hn];have:=SetD.cn_le zs;lia) ⟨Rq PQ,H,HI,⟨_,by rw[hn]⟩,q⟩
end
end L2
namespace L2
open PySem
def lc_at(T:St→Prop)(ys:List V)(hl:ys.length=xs.length)(ha:WW xs)(hn:xs.length≤sizeLine)(h0:T τ)(hs:∀(i:Nat) (hi:i<xs.length) (cV:i<ys.length),∀τ,T τ→∀k:V→St→Hp→Prop,(∀τ2,T τ2→k ys[i] τ2 H)→g xs[i] τ H λ τ2 H2=>te τ2 H2 λy H4=>k y τ2 H4)(q:∀D,H D=none→Q HQ (RC D ys)):Mo H:=by
 refine⟨λi m zs τ H1=>Aj5 (H1=H) (T τ) (m=xs.length-i) (i≤xs.length) (zs=ys.take i),⟨_,rfl,h0,rfl,Sv,rfl⟩,?_⟩;rintro i m zs τ H1 ⟨rfl,ht,rfl,hi,rfl⟩;by_cases ad:i<xs.length
 ·refine .inr ⟨⟨xs,xs[i],ha,Qb ad⟩,by rw[Ze];lia,?_⟩;rintro x H' ⟨rfl,hx⟩;have bv:=hx xs ha;rw[Qb ad]at bv;have eN:xs[i]=x:=Qq bv;rw[←eN];refine hs i ad (by exact zar6 ‹_› ‹_›) τ ht (λy τ2 H4=>∃m',m'<xs.length-i∧Aj5 (H4=H') (T τ2) (m'=xs.length-Gr) (i+1≤xs.length) (ys.take i++[y]=ys.take Gr)) λ τ2 h2=>?_;exact⟨_,Gk,rfl,h2,rfl,ad,by rw[Qj (by exact zar6 ‹_› ‹_›:i<ys.length)]⟩
 have e:i=xs.length:=by exact zar3 ‹_› ‹_›
 refine .inl ⟨⟨xs,ha,Fs⟩,λD hD=>?_⟩;rw[Qm Fs];exact q D hD
end L2
namespace K21
open PySem L2 Wb
structure RwAt(H:Hp)(l:Nc)(as:Nl)(es:List Ent):Prop where
 ls:H l=some Hs
 ts:Paired (λa (e:Ent)=>H a=some (.tup [Tg,Si])) as es
 ro:∀e∈es,H e.2.2=some PU
def RwAt.keep(r:NX es)(k:Keep [] H H'):DS l as es:=
 ⟨k _ _ r.ls Fr,Paired.imp' (λ_ _ h=>k _ _ h Fr) r.ts,λe he=>k _ _ CS Fr⟩
abbrev zf2:Stmt:=top 16
abbrev sTwice:Stmt:=top 17
abbrev zii:Stmt:=top 18
abbrev Ro:=V×List V×Addr
structure RoAt(H:Hp)(l:Nc)(as:Nl)(rs:List Ro):Prop where
 ls:H l=some Hs
 ts:Paired (λa (r:Ro)=>H a=some (.tup [r.1,TZ])) as rs
 ro:∀r∈rs,H r.2.2=some Ci
def RoAt.keep{H H':Hp}{l:Nc}{as:Nl}{rs:List Ro}(r:NY rs)(k:Keep [] H H'):RoAt H' l as rs:=
 ⟨k _ _ r.ls Fr,Paired.imp' (λ_ _ h=>k _ _ h Fr) r.ts,λe he=>k _ _ CS Fr⟩
def OddR(H:Hp)(r:Ro):Prop:=r.2.1.length≤100∧V2 r.1∧∀x∈r.2.1,V2 x
def OddR.keep{H H':Hp}{r:Ro}(h:OddR H r)(k:Keep [] H H'):OddR H' r:=⟨h.1,h.2.1.keep k,λx hx=>(h.2.2 x hx).keep k⟩
def okR(r:Ro):Bool:=(r.1::r.2.1).all nmV
inductive zh3(C:Nc)(vs:List V)(H:Hp)(Q:VK)(E:XK):Prop
 |mk (l:Nc) (as:Nl) (rs:List Ro) (h0:vs=[.ref l]) (h1:RoAt H l as rs) (h2:∀r∈rs,OddR H r) (h3:∀H',Keep [] H H'→(rs.all okR=true→Q .non H')∧(rs.all okR=false→E (.ref C) none H')):zh3 C vs H Q E
def spNoNames(C:Nc):Sp:=zh3 C
def twOk(es:List Ent):Bool:=(es.map (·.1)::es.map λe=>e.2.1).all λzs=>decide zs.Nodup
inductive IspTwice(C:Nc)(vs:List V)(H:Hp)(Q:VK)(E:XK):Prop
 |mk (l:Nc) (as:Nl) (es:List Ent) (h0:vs=[.ref l]) (h1:RwAt H l as es) (h2:es.length≤60) (h4:∀e∈es,e.2.1.length≤100) (h5:∀H',Keep [] H H'→(twOk es=true→Q .non H')∧(twOk es=false→E (.ref C) none H')):IspTwice C vs H Q E
def spTwice(C:Nc):Sp:=IspTwice C
section
variable{P:Nk}{w:Nn}{K:Na}{mg:Ng}{base:No}
def zeq:zar ["rows", "place", "around", "thing"] ["rows"] (zaj zf2):=fsk
def ok_nonames(F:Z1 "refuse_no_names" "refuse_no_names" zf2 f fd)(cN:NV C)(nN:mg "NoName" = some Hw)(FN:Z1 "is_name" "is_name" zgg fn fdn)(bN:Z3 fdn ["thing"] [])(mN:mg "is_name" = some (Fu fn))(GN:ZB 1 fn fdn ["thing"] zdu):ZC Ly 2 f fd ["rows"] (spNoNames C):=by
 refine F.okX zeq (λvs H Q E h=>by obtain⟨l,as,rs,rfl,_⟩:=h;rfl) Fx;obtain⟨l,as,rs,rfl,R,hok,k⟩:=h;have hu:=zcm hr;have aJ  :=sizeLine_eq;refine⟨_,zag (BP Lz (XM (zat (X0 zeq.nd) (LA (za6 2 zeq.nd))))
  (zag (BP (zaz (W9 Oq RM)) (DT zeq.nd)
   (zag (Ep (PV hr mN Tt) (zag (Dv Tu))))))),?_⟩
 refine⟨A5,l,rfl,⟨_,Cw⟩,zbs (xs:=as.map V.ref) (λi σ H'=>Aj3 ((rs.take i).all okR=true) (Keep [] H H') (Ex3 λx1 x2 x3=>σ=[Cp,x1,x2,x3])) ⟨rfl,Keep.refl,none,none,none,rfl⟩ (λi σ H' _ hh=>SqL.of (hh.2 _ _ R.ls Fr)) ?_ ?_⟩
 ·rintro i y σ H1 hx ⟨af,k1,x1,x2,x3,rfl⟩;have hi:i<as.length:=by have:=(LP hx).1;rwa[Qa]at this
  have ik:y=.ref as[i]:=by rw[Qt,Qb hi]at hx;exact(Qq hx).symm
  subst ik;obtain⟨ao,aO⟩:=za0 R.ts hi;have cS:=Qn ao;obtain⟨fj,cG,bz⟩:=hok _ cS;have aU:=k1 _ _ (R.ro _ cS) Fr;have tk:rs.take Gr=rs.take i++[rs[i]]:=Qj ao;have aT:∀x∈rs[i].1::rs[i].2.1,nmV x=false→rs.all okR=false:=λx hx hb=>by rw[Jk];intro z;have:=Yc.mp z _ cS;have:=Yc.mp this x hx;rw[hb]at this;cases this
  generalize rs[i]=r at aO cS fj cG bz aU tk aT;refine⟨as[i],A5,HV (k1 _ _ aO Fr),rfl,_,A5,_,A5,rfl,?_⟩;refine⟨A5,SK,λq hq=>?_⟩;have nq:r.2.2≠q:=zac aU hq;refine⟨A5,q,r.2.2,_,A5,rfl,zab,(FQ nq aU),(by show 1+_≤sizeLine;lia),λq2 cB=>?_⟩;have k2:Keep [] H (Ij (QI q (.lst [r.1])) q2 (FJ ([r.1]++r.2.1))):=(SL TN).trans (FM cB);have df:(Ij (QI q (.lst [r.1])) q2 (FJ ([r.1]++r.2.1))) q2=some (FJ (r.1::r.2.1)):=zab;generalize upd (QI q (.lst [r.1])) q2 (FJ ([r.1]++r.2.1))=H2 at k2 df;refine⟨q2,rfl,⟨_,FH df⟩,zbs (xs:=r.1::r.2.1) (λj σ H'=>Aj3 (((r.1::r.2.1).take j).all nmV=true) (Keep [] H2 H') (Ex3 λx1 x2 x3=>σ=[Cp,x1,x2,x3])) ⟨rfl,Keep.refl,_,_,_,rfl⟩ (λj σ H' _ hh=>SqL.of (TU df Fr)) ?_ ?_⟩
  ·rintro j y σ H3 hy ⟨qq,k3,y1,y2,y3,rfl⟩;have hym:=Wi hy;have aZ:Odd H3 y:=by
    have:V2 y:=by
     rcases Qi.mp hym with e|e
     ·rw[e];exact cG
     exact bz y e
    exact this.keep (TV k3)
   refine⟨A5,y,rfl,aZ,λH4 k4=>⟨_,rfl,?_⟩⟩;have c9:=(TV k3).trans k4;cases hb:nmV y with
   |true=>refine W0 ⟨?_,OL,_,_,_,rfl⟩;obtain⟨hj,e⟩:=Qy.mp hy;rw[Qj hj,List.all_append,qq,e,Ws,hb];rfl
   |false=>exact WZ ⟨SK,(k _ c9).2 (aT y hym hb)⟩
  rintro σ H3 ⟨qq,k3,y1,y2,y3,rfl⟩;rw[Qm Gg]at qq;refine⟨?_,TV k3,_,_,A5⟩;rw[tk,List.all_append,af,Ws,show okR r=true from qq];rfl
 rintro σ H1 ⟨af,k1,x1,x2,x3,rfl⟩;rw[Qa,Zl R.ts,Qm Gg]at af;exact(k H1 k1).1 af
def ndPA:(["place", "around"]:List Str).Nodup:=by decide+kernel
def zgc:zar ["rows", "places", "names"] ["rows"] (zaj sTwice):=fsk
def zff(hK:X.K=K)(hc:X.calm=true)(h:ND t)(hn:(Sc es).length=n:=by rfl)(ax:(Sc es).findIdx? (·.1)=none:=by rfl):BK (gTup K n t):=hK▸zev hc h hn ax
def ok_twice(F:Z1 "refuse_twice" "refuse_twice" sTwice f fd)(cN:NV C)(nN:mg "Twice" = some Hw)(aa:G')(sd:mg "set" = none):ZC Ly 1 f fd ["rows"] (spTwice C):=by
 refine F.okX zgc (λvs H Q E h=>by obtain⟨l,as,es,rfl,_⟩:=h;rfl) Fx;obtain⟨l,as,es,rfl,R,hJ,hok,k⟩:=h;have hu:=zcm hr;have aJ  :=sizeLine_eq;refine⟨_,zae (ps_lc (i:=1) (M:=["place", "around"]) (ix:=[none,none]) zgc.nd rfl rfl (mkB zgc) rfl Lz
   (λC a7 ex s H=>zff (K:=K) (n:=2) rfl rfl O2)
   (λC a7 ex s H=>zcp) (λC a7 ex s H=>pv 0) rfl)
  (zag (BP (zaz (W9 Oq (zfw (M:=["place", "around"]) (ix:=[none,none]) (mkB zgc) rfl Lz
   (λC a7 ex s H=>zff (K:=K) (n:=2) rfl rfl O2)
   (λC a7 ex s H=>zcp) (λC a7 ex s H=>pv 1)))) (za6 2 zgc.nd)
   (zag (zbt (XN (zai zi6 FX aa Zj (Hf (zcb (call_set_any rfl) FX sd PyProof.Rows.boot_set (ZY zad))))
    (QW FX aa Zj Rg) HP) (zag (Dv Tu)) zaw)))),?_⟩
 have bK:as.length=es.length:=Zl R.ts;refine⟨A5,l,rfl,⟨_,Cw⟩,lc_at (xs:=as.map V.ref) (λ τ=>∃x0 x1,τ=[x0,x1]) ((RX (·.1)).map V.str) (by rw[Qa,Qa,Qa,bK]) Cw Rx ⟨none,none,rfl⟩ ?_ (λD hD=>?_)⟩
 ·rintro i hi cV τ ⟨x0,x1,rfl⟩ kk hk;rw[Qa]at hi;obtain⟨ao,aO⟩:=za0 R.ts hi;rw[Zm];refine⟨as[i],A5,HV aO,rfl,_,A5,_,A5,rfl,A5,?_⟩;have e:((RX (·.1)).map V.str)[i]=V.str es[i].1:=by rw[Zm,Zm]
  rw[e]at hk;exact hk _ ⟨_,_,rfl⟩
 generalize mh:ZU D _=H1;obtain⟨k1,hD1⟩:=Dw mh;have R1:=R.keep k1;refine⟨A5,SK,λq hq=>?_⟩;generalize jh:QI q _=H2;obtain⟨k2,cB⟩:=nwk hq jh;have R2:=R1.keep k2;refine⟨A5,l,rfl,⟨_,E6⟩,lc_at (xs:=as.map V.ref) (λ τ=>∃x0 x1,τ=[x0,x1]) (es.map λe=>V.ref e.2.2) (by rw[Qa,Qa,bK]) E6 Rx ⟨none,none,rfl⟩ ?_ (λD2 l4=>?_)⟩
 ·rintro i hi cV τ ⟨x0,x1,rfl⟩ kk hk;rw[Qa]at hi;obtain⟨ao,aO⟩:=za0 R2.ts hi;rw[Zm];refine⟨as[i],A5,HV aO,rfl,_,A5,_,A5,rfl,A5,?_⟩;rw[Zm]at hk;exact hk _ ⟨_,_,rfl⟩
 generalize mf:WD D2 _=H3;obtain⟨k3,gL⟩:=nwk l4 mf;refine⟨q,D2,_,A5,rfl,Cj cB,gL,(by rw[Qa];show 1+_≤sizeLine;lia),λq4 qf=>?_⟩;generalize fE:WK q4 _=H4;obtain⟨k4,nI⟩:=nwk qf fE;have c9:Keep [] H H4:=((SL k2).trans k3).trans k4;have bq:∀(i:Nat) (y:V),([V.ref D]++es.map λe=>V.ref e.2.2)[i]?=some y→∃(a:Nc) (zs:Nh),y=V.ref a∧H4 a=some Ch∧zs.length≤100∧(es.map (·.1)::es.map λe=>e.2.1)[i]?=some zs:=λi y hy=>by
  cases i with
  |zero=>cases hy;exact⟨D,Gv,rfl,k4 _ _ (Cj (Af hD1)) Fr,by rw[Qa];exact Zf hJ Fw,rfl⟩
  |succ i=>have hy:(es.map λe=>V.ref e.2.2)[i]?=some y:=hy;rw[Qt]at hy;obtain⟨e,he,rfl⟩:=Option.map_eq_some_iff.mp hy;refine⟨e.2.2,e.2.1,rfl,c9 _ _ (R.ro e (Wi he)) Fr,hok e (Wi he),?_⟩;show(es.map λe=>e.2.1)[i]?=_;rw[Qt,he];rfl
 refine⟨q4,rfl,⟨_,FH nI⟩,zbs (xs:=[V.ref D]++es.map λe=>V.ref e.2.2) (λi σ H'=>Aj3 (((es.map (·.1)::es.map λe=>e.2.1).take i).all (λzs=>decide zs.Nodup)=true) (Keep [] H4 H') (Ex2 λx1 x2=>σ=[Cp,x1,x2])) ⟨rfl,Keep.refl,_,_,rfl⟩ (λi σ H' _ hh=>SqL.of (TU nI Fr)) ?_ ?_⟩
 ·rintro i y σ H5 hy ⟨qB,k5,x1,x2,rfl⟩;obtain⟨a,zs,rfl,ha,dz,hz⟩:=bq i y hy;have ha:=k5 _ _ ha Fr;refine⟨A5,a,zs,rfl,FH ha,Fs,λt ht=>?_⟩;have rp:a≠t:=zac ha ht;have c1:=(SetD.dd_all zs).2.2;refine⟨t,zs,rfl,zab,Fs,A5,a,A5,HJ (by rw[zaf rp];exact ha),_,A5,rfl,A5,?_⟩;rw[Qa];by_cases hn:zs.Nodup
  ·have:=c1.2.mpr hn;refine zal (decide_eq_false (by show ¬((SetD.cn zs:Nat):Int)<_;unfold SetD.cn;lia)) ⟨?_,k5.trans (FM ht),_,_,rfl⟩;obtain⟨hj,e⟩:=Qy.mp hz;rw[Qj hj,List.all_append,qB,e,Ws,decide_eq_true hn];rfl
  have h1:(SetD.dd zs).length≠zs.length:=λe=>hn (c1.2.mp e);have h2:=c1.1;refine zay (decide_eq_true (by show((SetD.cn zs:Nat):Int)<_;unfold SetD.cn;lia)) ⟨SK,(k _ (AF (k5.trans (FM ht)))).2 ?_⟩;rw[Jk];intro z;exact hn (Os (Yc.mp z zs (Wi hz)))
 rintro σ H5 ⟨qB,k5,x1,x2,rfl⟩;rw[Qm Fr]at qB;exact(k H5 (AF k5)).1 qB
end
end K21
namespace L2
open PySem PySem.Spec PyProof.Rows PySem.W PySem.Builtin PySem.Builtin.ObjectAttr
abbrev tupO(vs:Nj):Obj:={cls:=.type "tuple",data:=.seq vs.toArray}
abbrev xrec(C:Nc)(dd:Option Addr)(a0:Value)(sl:Array Rc):Obj:=⟨Hw,dd,.fields #[a0,.none,.none,.none,IX,.none],sl⟩
abbrev excH(h:No)(C:Nc)(vs:Nj):Heap:=(h.push (tupO vs)).push (Y1 EC #[])
inductive ExcI(K:Na)(C HE fI:Nc):Prop
 | mk (nm q:Str) (N:Nc) (bs:Nj) (sn:Nh) (sub:Nj) (ab:Bool) (col:Option Bool) (dd:Option Addr) (k0 k1 k2 k3 k5:Option Value)
   (ob:K.lookup C=some (excClassObj nm q C N bs (.ref HE::bmVE) true sn sub ab col dd k0 k1 k2 k3 k5 "ValueError.__new__")) (he:NV HE)
   (ini:findIn K Hw "__init__" = some (Fy fI)) (fn:isFn K (Fu fI)=true):QY fI
def exc_tail{K:Na}{h:No}{HE:Nc}(X:K.In h)(he:NV HE):OwnTail h bmVE (.ref HE::bmVE):=by obtain⟨bm,N,nm,qn,bs,hdct,sn,sub,ab,col,dd,k0,k1,k2,k3,k5,mN,h1,h2,h3,_⟩:=exc_obj X he.inK;exact .own h1 h2 h3 .base
section
variable{prog:Nk}{w:Nn}{A:Np}{E:Nb}{h:No}{g:Array GenState}{d:Drawn}{t:Nat}{os:OsState}{K:Na}{C HE fI:Nc}
def exc_made{rest:Nj}{Q:Fin→Shared→Prop}(X:K.In h)(c:QY fI)(fT:rest.length≤sizeLine)(hq:ZG (call (Fu fI) (.ref (h.objs.size+1)::rest)) (λr s'=>r=.none∧Q (.done (.ret (Fu (h.objs.size+1)))) s') E ⟨V4 rest,g,d,t,os⟩) :
  wpAny Ga A (Builtin.«type.__call__» ⟨.ref C::rest,[]⟩) Q E ⟨h,g,d,t,os⟩:=by
 obtain⟨nm,q,N,bs,sn,sub,ab,col,dd,k0,k1,k2,k3,k5,ob,he,ini,fn⟩:=c;have F:=Jx;have hC:=X _ _ ob;have T:=exc_tail X he;have kk:∀b o,h.get? b=some o→(V4 rest).get? b=some o:=λb o e=>QS LY;have X₁:K.In (V4 rest):=X.keeps kk;have hC₁:=kk _ _ hC;have cK:(V4 rest).get? (h.objs.size+1)=some (Y1 EC #[]):=by have:=Qv (h.push (tupO rest)) (o:=Y1 EC #[]) rfl;rwa[Wv]at this
 repeat(first|with_reducible refine XE ?_|with_reducible refine wpAny_madeBy_exc hC ?_|wp_step)
 refine codeAny_call_builtin_code (JG F.quiet) (wpAny_check_new_subT F T hC ?_);refine codeAny_exc_new_subT F T hC ?_ fT;show ZW _ _ _ _ _;have hcC:(Value.ref C::.ref HE::bmVE).contains Hw=true:=by simp
 unfold isInstance
 repeat(first|with_reducible refine wpAny_loadPart_at cK ?_|(with_reducible refine wpAny_isSubtype_exc hC₁ ?_;rw[hcC])|wp_step)
 show ZW _ (typeLookup Hw _) _ _ _;have L1:=looks_findIn (M:=model prog w) X₁ ini;have L2:=bind_fn (M:=model prog w) X₁ (Fu (h.objs.size+1)) (Ri fn);refine Looks.at L1 (Ts (RH (NW ?_)));refine wpAny_bind (wpAny_mono hq (λr s' hr=>?_) λ_ _ x=>x);obtain⟨rfl,hQ⟩:=hr;wp_walk;exact hQ
def exc_call{rest:Nj}{Q:Nb}(X:K.In h)(c:QY fI)(fT:rest.length≤sizeLine)(hq:ZI (Ob (.builtin "type.__call__" ⟨.ref C::rest,[]⟩)) (call (Fu fI) (.ref (h.objs.size+1)::rest)) (λr s'=>r=.none∧Q (Fu (h.objs.size+1)) s') E ⟨V4 rest,g,d,t,os⟩) :
  wpAny Ga A (call Hw rest) Q E ⟨h,g,d,t,os⟩:=by
 have c':=c;obtain⟨nm,q,N,bs,sn,sub,ab,col,dd,k0,k1,k2,k3,k5,ob,he,ini,fn⟩:=c;have hC:=X _ _ ob;have f1:=tc_lookup;have f2:=tc_bind Hw;have hT:(⟨h,g,d,t,os⟩:Shared).TypeIs Hw "type" :=⟨_,hC,rfl⟩;refine wpAny_call (codeAny_of_tree ?_);show ZW _ (callAny Hw _) _ _ _
 repeat(any_goals (first|assumption|with_reducible refine XE ?_|wp_step))
 refine⟨rfl,?_⟩;exact codeAny_call_builtin_at (JG FK) entry_typeCall (wpAny_check_type_call_sub hC (exc_made X c' fT hq))
def raise_any{M:Model}{env:Env}{s:Ni}{x:Sem Value}{Q:Flow→Shared→Prop}(hh:A.handled=none)(he:NV HE)(h:YD x (λv s₁=>∃e a0 dd sl,v=.ref e∧K.In s₁.heap∧QY fI∧s₁.heap.get? e=some (UG dd a0 sl)∧E TJ s₁) E s) :
  wpAny M A (raiseStmt env (He x) none) Q E s:=by
 unfold raiseStmt;refine wpAny_bind (MM (λv s₁ h₁=>?_) λ_ _ x=>x);obtain⟨e,a0,dx,sl,rfl,X,c,he,hE⟩:=h₁;obtain⟨hp,g,d,tk,os⟩:=s₁;obtain⟨nm,q,N,bs,sn,sub,ab,col,dd,k0,k1,k2,k3,k5,ob,_,ini,fn⟩:=c;have hC:=X _ _ ob;have hcB:(Value.ref C::.ref HE::bmVE).contains (.type "BaseException")=true:=by rfl
 repeat(first|with_reducible refine wpAny_loadPart_at he ?_|with_reducible refine XE ?_|(with_reducible refine wpAny_isSubtype_exc hC ?_;rw[hcB])|wp_step)
 exact wpAny_raiseNew_none hh hE
def XcO(e C:Nc)(dd:Option Addr):HO:=.ext λh=>∃(a0:Nc) (sl:Array Rc),h.get? e=some (UG dd AG sl)
def XdO(d:Nc)(fs:Se (Str×V)):HO:=.ext λh=>∃mA,h.Ns1 d mA∧(∀f,YL Pm)∧YQ (fs.map (·.1))∧fs.length≤1000
end
structure XAt(K:Na)(C:Nc)(f:Str):Prop where
 na:findIn K Hw f=some none
 sa:findIn K Hw "__setattr__" = some (He (.builtin "object.__setattr__"))
section
variable{P:Nk}{w:Nn}{H:Hp}{h:No}{e C d:Nc}{dd:Option Addr}{fs:List (Str×V)}
def xc_ok{a0:Nc}{sl:Array Rc}(x:h.get? e=some (UG dd AG sl)):WO e (Br dd):=⟨⟨a0,sl,x⟩,⟨_,x⟩,λ_ _ ⟨a,b,q⟩ k=>⟨a,b,k _ q⟩⟩
def xd_ok{mA:Ng}(n:h.Ns1 d mA)(r:∀f,YL Pm)(wi:YQ (fs.map (·.1)))(l:fs.length≤1000):WO d (DU fs):=
 ⟨⟨mA,n,r,wi,l⟩,let⟨o,_,_,q,_⟩:=n;⟨o,q⟩,λ_ _ ⟨m,⟨o,es,ep,q,z⟩,rest⟩ k=>⟨m,⟨o,es,ep,k _ q,z⟩,rest⟩⟩
def upd_id{a:Nc}{o:HO}(x:H a=some o):ZU a o=H:=by
 funext b;unfold upd;split
 ·rename_i q;rw[q];exact x.symm
 rfl
variable{prog:Nk}{A:Np}{E:Nb}{s:Ni}{K:Na}{x HE fI:Nc}{name:Str}{v:Value}
def ExcI.cls(c:QY fI):∃cd,clsIn K C=some cd∧cd.hasDict=true∧cd.mro=.ref C::.ref HE::bmVE:=by obtain⟨nm,q,N,bs,sn,sub,ab,col,dd,k0,k1,k2,k3,k5,ob,he,ini,fn⟩:=c;unfold clsIn;rw[ob];exact⟨A5,rfl,rfl⟩
end
section
variable{prog:Nk}{w:Nn}{A:Np}{E:Nb}{s:Ni}{K:Na}{x C HE fI:Nc}{name:Str}{v:Value}
def xosa{ox:Obj}{od:Option Obj}{tk:Tok}{R:Nv}(X:K.In s.heap)(I:BW ox C od)(c:QY fI)(na:findIn K Hw name=some none)(h:ZI A.in1 (storeInOwnDict RW Hw ED name v false)
   (λfin s'=>match fin with | .done f=>R (.ok f) s' | .again c'=>c'.quiet=true∧codeAny (model prog w) A c' R s') (λe s'=>R (.error e) s') s) :
  codeAny Ga A (.call (.builtin "object.__setattr__") ⟨[RW,ED,v],[]⟩) R s:=by
 have SF:=PySem.F.store_object;obtain⟨cd,hc,_,gj⟩:=c.cls;have sub:VB (isInstance RW (.type "object")) true:=I.type.andThen (looks_mroIn X (by unfold mroIn;rw[hc,Option.bind_some,gj];rfl));refine codeAny_call_builtin SF.slot.plain SF.entry (@check_slot Ga _ _ s "object.__setattr__" "object" "__setattr__" RW [ED,v] [] _ SF.kind SF.split sub (SF.args RW ED v) ?_);have hm:VB (mroOf Hw) cd.mro:=(looks_clsIn X hc).andThen .now;rw[osa_eq,refuse_eq];refine wpAny_bind (Er (I.type.here (RH (hm.here ?_))));rw[gj,refuseLoop_ref,refuseLoop_ref,PySem.F.store_ValueError.passes];exact wpAny_pure (wpAny_bind (I.type.here (Er ((looks_findIn X na).here (RH (GG h))))))
def xset_new{a0:Value}{sl:Array Rc}{Q:Unit→Shared→Prop}(X:K.In s.heap)(hx:s.heap.get? x=some (Y1 a0 sl))(c:QY fI)(k:XO name)(h:∀h',h'.Ns1 s.heap.objs.size (λy=>if y=name then some v else none)→Heap.SameBut s.heap.objs.size ((s.heap.push emptyDict).update x λo=>{o with dict:=some s.heap.objs.size}) h'→Q () {s with heap:=h',toks:=s.toks+2}) :
  wpAny Ga A Ed Q E s:=by
 have J:BW (Y1 a0 sl) C none:=⟨hx,rfl,rfl,trivial⟩;refine set_plain X J k.sa (xosa (s:={s with toks:=s.toks+1}) X J c k.na ?_);obtain⟨cd,hc,hd,_⟩:=c.cls;have rL:(s.heap.push emptyDict).get? x=some (Y1 a0 sl):=QS hx;have il:x≠s.heap.objs.size:=Zk (Qu hx);refine wpAny_bind (wpAny_pure (wpAny_bind (wpAny_bind (KP (wpAny_bind (Looks.here (s:={s with toks:=s.toks+1}) (looks_clsIn X hc) ?_))))));rw[hd];refine wpAny_bind (wpAny_alloc' ?_);refine wpAny_bind (wpAny_update' rL ?_);refine wpAny_pure ?_;have gW:((s.heap.push emptyDict).update x λo=>{o with dict:=some s.heap.objs.size}).get? s.heap.objs.size=some emptyDict:=(Heap.get?_update_ne _ _ _ _ il.symm).trans (Heap.get?_push_at rfl rfl);have aR:((s.heap.push emptyDict).update x λo=>{o with dict:=some s.heap.objs.size}).Ns s.heap.objs.size (λ_=>none):=⟨_,#[],_,gW,rfl,λe he=>absurd he Fr,λ_=>rfl⟩;show ZW _ (storeInDict s.heap.objs.size (.str name s.toks) name v) _ _ _;unfold storeInDict newKeyGuard;refine wpAny_bind (wpAny_pure (wpAny_bind (wpAny_nsSet1 (Od aR) λh' jX hs=>?_)));obtain⟨oD,esD,epD,nX,oK,dZ⟩:=jX.count (Bw PySem.Within.nil);refine wpAny_bind (XS (by rw[oK];exact pastItsLine_dict (Zf dZ (by rw[Za,We,sizeLine_eq];lia))) ?_);exact wpAny_pure (h _ jX hs)
def xset_old{d:Nc}{a0:Value}{sl:Array Rc}{mA:Ng}{ns:Nh}{Q:Unit→Shared→Prop}(X:K.In s.heap)(hx:s.heap.get? x=some (UG PX a0 sl))(c:QY fI)(k:XO name)(hn:s.heap.Ns1 d mA)(hw:YQ ns)(hsz:ns.length≤1000)(h:∀h',h'.Ns1 d (λy=>if y=name then some v else mA y)→Heap.SameBut d s.heap h'→Q () {s with heap:=h',toks:=s.toks+2}) :
  wpAny Ga A Ed Q E s:=by
 obtain⟨od,ho,hl⟩:=zgx hn;have J:BW (UG PX a0 sl) C (He od):=⟨hx,rfl,rfl,ho⟩;refine set_plain X J k.sa (xosa (s:={s with toks:=s.toks+1}) X J c k.na ?_);obtain⟨cd,hc,hd,_⟩:=c.cls;refine wpAny_bind (wpAny_pure (wpAny_bind (wpAny_bind (KP (wpAny_bind (Looks.here (s:={s with toks:=s.toks+1}) (looks_clsIn X hc) ?_))))));rw[hd];refine wpAny_pure (a:=some d) (RH (GG (wpAny_bind ?_)));refine wpAny_nsSet1 (s:={s with toks:=s.toks+1}) hn λh' bz de=>?_;obtain⟨oD,esD,epD,nX,oK,dZ⟩:=bz.count (Bw hw);refine wpAny_bind (XS (by rw[oK];exact pastItsLine_dict (Zf dZ (by rw[Za,sizeLine_eq];lia))) ?_);exact wpAny_pure (h _ bz de)
def xget{d:Nc}{ox:Obj}{mA:Ng}{b:Bool}{Q:Nb}(X:K.In s.heap)(hx:s.heap.get? x=some ox)(hc:ox.cls=.ref C)(fe:notCls ox=true)(hd:ox.dict=some d)(c:QY fI)(k:XO name)(ci:V1 C)(hn:s.heap.Ns1 d mA)(hv:mA name=some v)(hh:handedIn v=true)(h:Q v {s with toks:=s.toks+1}):ZG (getAttr RW name b) Q E s:=by
 obtain⟨od,ho,hl⟩:=zgx hn;have J:BW ox C (He od):=⟨hx,hc,fe,FA hd ho⟩;obtain⟨cd,aS,hdt,_⟩:=c.cls;have hf:findObj K C (He od) name=some (.value v):=by unfold findObj;rw[aS,Xx,k.na,Xx,Xx,Xx];unfold PySem.W.ownOf;rw[hdt,if_pos rfl];dsimp only;rw[hl,hv];rfl
 have p:ExAt x Hw s.heap:=⟨_,hx,hc⟩;obtain⟨hp,g,dr,t,os⟩:=s;have L0:=p.type (M:=model prog w);have L1:=looks_findIn (M:=model prog w) X ci.ga;have L2:=looks_findIn (M:=model prog w) X ci.nga;have M1:=looks_find (M:=model prog w) X J hf;have eO:(Value.builtin "BaseException.__getattribute__" == Value.builtin "object.__getattribute__")=false:=by decide+kernel
 have f3:=Jy.ga.bind RW;unfold getAttr getAttrBy;refine wpAny_bind (wpAny_mkText (Ts (Er (Vo (RH (L1.at ?_))))));dsimp only;rw[if_neg (by rw[eO,Bool.and_false];exact Zb)];unfold getAttrByItsOwn hookBefore;rw[if_pos (show onTheHeap (TC C)=true from rfl)];refine wpAny_bind (NW (RH (SU (wpAny_holding ?_))));unfold callGetattribute;rw[if_neg (by rw[show onTheHeap (Value.builtin "BaseException.__getattribute__")=false from rfl,Bool.and_false];exact Zb)];unfold boundAndCalled;rw[f3];refine wpAny_bind (wpAny_pure ?_);show ZW _ (call GQ [RW,.str name t]) _ _ _;refine wpAny_call (LM (ex_check (s:=⟨hp,g,dr,t+1,os⟩) ci X p ?_));refine wpAny_bind (AB (Er (Rp (Vo (RH (M1.at ?_))))));refine wpAny_pure ?_;show ZW _ (handedOut v) _ _ _;exact handed_on hh h
variable{X:Cx}{o e value:Expr}{f:Str}{pos aW:Pos}{ta tv:TE}
def zhz:YV (.builtin "ValueError.__init__") (λxs H Q=>∃(a C HE fI:Nc) (dd:Option Addr) (v:V),xs=[Ht,v]∧H a=some (XcO a C dd)∧ExcI X.K C HE fI∧Q .non H):=by
 intro a7 s σ H xs us Q I r h;obtain⟨a,C,HE,fI,dd,v,rfl,ha,c,q⟩:=h;obtain⟨u1,u2,rfl,r1,r2⟩:=vals2 r;cases r1;obtain⟨⟨a0,sl,hx⟩,_⟩:=YF ha;obtain⟨nm,qn,N,bs,sn,sub,ab,col,d0,k0,k1,k2,k3,k5,ob,he,ini,fn⟩:=id c;have F:=Jx;have hC:=I.kIn _ _ ob;have T:=exc_tail I.kIn he;have fin:∀h':Heap,(∀b u,b≠a→s.heap.get? b=some u→h'.get? b=some u)→(∃a1,h'.get? a=some (UG dd (Fu a1) sl))→ZA H {s with heap:=h'}:=λh' k ⟨a1,x⟩=>by have:=I.write (x:=a) (e:=a) (o:=XcO a C dd) (h':=h') (t':=s.toks) (by rw[ha];exact True.intro) Hr k ⟨_,x⟩ (xc_ok x);rwa[upd_id ha]at this
 obtain⟨hp,g,d,t,os⟩:=s;refine wpAny_call (codeAny_call_builtin F.init.plain F.initEntry (wpAny_check_init_subT F T hC hx rfl ?_));wp_walk;refine⟨.non,H,fin _ (λb u hb hu=>?_) ⟨hp.objs.size,?_⟩,rfl,q⟩
 ·rw[VQ IQ];exact QS hu
 rw[Wy _ (QS hx) rfl];rfl
structure Bas(K:Na)(B:Nc)(m:Str)(id:String):Prop where
 rd:readsIn K B (.type "type")=true
 ga:specialIn K (Fu B) "__getattribute__" = some (He (.builtin "type.__getattribute__"))
 fc:findCls K (Fu B) (.type "type") m=some (.val RV)
def pe_base{pl:Sem Bool}{B:Nc}{x m:Str}{id:String}{np apos:Pos}{es:Nq}{t:TA}{r:List V→Hp→VK→Prop}(b:Bas X.K B m id)(hc:YV RV r)(hg:Mr x)(hm:X.mg x=some (Fu B))(ha:Vt (e::es) t)(hh:handedIn RV=true:=by rfl)(cM:Gw=false:=by decide)(ax:starEach (e::es) X.env=(false,Ir)::starEach es X.env:=by rfl)(bo:(backTo pos HM).any (·.1)=false:=by rfl)(ht:eval (.Call PY (e::es) [] pos) X.env=(do
   let ov ←eval E4 X.env
   standAt apos.atName
   let(f,first) ←holding [ov] (getMethod ov m pl)
   callWith pos f first (backTo pos (starEach (e::es) X.env)) (backToKw pos (keywordEach [] X.env))):=by rfl) :
  PE X (.Call PY (e::es) [] pos) (tCB r t):=by
 intro a7 s σ H Q I h;refine PySem.W.methodCall_KW (pl:=pl) (Bp ?_ cM) ht;refine method_cls I.kIn b.ga (cls_value I.kIn b.rd b.fc hh ?_);exact PyProof.Rows.callWith_builtin1 (thn (ha pos a7 _ σ H _ HI h) λus s1 ⟨vs,H1,I1,r1,q1⟩=>hc a7 s1 σ H1 vs us Q I1 r1 q1) ax bo
end
section
variable{X:Cx}{K:Na}{C HE fI:Nc}{o e value:Expr}{f:Str}{pos aW:Pos}{ta tv:TE}
inductive RXs(K:Na)(f:Str)(x y:V)(H:Hp)(N:Hp→Prop):Prop
 |new (e C HE fI:Nc) (h0:x=.ref e) (h:H e=some (XcO e C none)) (c:ExcI K C HE fI) (k:XAt K C f) (q:∀d,H d=none→d≠e→N (upd (upd H d (XdO d [(f,y)])) e (XcO e C (some d)))):RXs K f x y H N
 |old (e C HE fI d:Nc) (fs:List (Str×V)) (h0:x=.ref e) (h:H e=some (XcO e C (some d))) (c:ExcI K C HE fI) (k:XAt K C f) (hd:H d=some (XdO d fs)) (l:fs.length<1000) (q:N (upd H d (XdO d (putF f y fs)))):RXs K f x y H N
def sXst(K:Na)(ta tv:TE)(f:Str):TS:=λD σ H=>tv σ H λy H1=>ta σ H1 λx H2=>RXs K f x y H2 (D.nx σ)
def relO_put{fs:List (Str×V)}{mA:Ng}{y:V}{u:Value}(r:∀f,YL Pm)(ry:YE u):∀g,RelO ((NF fs).lookup g) (if g=f then some u else mA g):=λg=>by
 rw[zeb];by_cases q:g=f
 ·rw[if_pos q,if_pos q];exact ry
 rw[if_neg q,if_neg q];exact r g
def zhf{fs:List (Str×V)}{mA:Ng}{y:V}{u:Value}(wi:YQ (fs.map (·.1))):PySem.Within (λg=>if g=f then some u else mA g) ((NF fs).map (·.1)):=λg hg=>by
 by_cases q:g=f
 ·rw[q];exact(DG fs).1
 refine (DG fs).2 g (wi g λz=>hg ?_);show(if g=f then some u else mA g)=none;rw[if_neg q];exact z
def ps_xst(ha:QA o ta)(hv:QA value tv)(hs:swapsWith value (He LG) pos.line X.env=pure false):KO (.Assign [LG] value pos) (sXst X.K ta tv f):=by
 intro a7 s σ H D I h;refine plainObj_wpAny_Assign_Attribute (thn CM λu s1 ⟨y,H1,I1,ry,q⟩=>thn Pa λov s2 ⟨x,H2,I2,rx,q2⟩=>?_) hs;cases q2 with
 | new e C HE fI h0 h c k q=>
  subst h0;obtain rfl:ov=Value.ref e:=rx;obtain⟨⟨a0,sl,hx⟩,_⟩:=I2.hok e _ h;have il:e≠s2.heap.objs.size:=Zk (Qu hx);refine xset_new I2.kIn hx c k λh' hn sf=>⟨σ,_,?_,q s2.heap.objs.size (I2.hok.fresh Gg) (Zd il)⟩;have e1:(s2.heap.push emptyDict).get? s2.heap.objs.size=some emptyDict:=Qv s2.heap rfl;have n1:(s2.heap.push emptyDict).Ns s2.heap.objs.size (λ_=>none):=⟨emptyDict,#[],_,e1,rfl,(λe he=>absurd he Fr),λ_=>rfl⟩;have rL:(s2.heap.push emptyDict).get? e=some (Y1 AG sl):=QS hx;have J1:=I2.laid (a:=s2.heap.objs.size) (o:=WV []) (h':=s2.heap.push emptyDict) (t':=s2.toks) (λb u q=>QS q) Gg (xd_ok (Od n1) (λ_=>True.intro) (λy hy=>absurd rfl hy) Sv);have eO:((s2.heap.push emptyDict).update e λo=>{o with dict:=some s2.heap.objs.size}).get? e=some (UG S' AG sl):=Wy _ rL rfl;have qv:WD s2.heap.objs.size (WV []) e=some (Br none):=by rw[zaf il];exact h
  have J2:=J1.write (x:=e) (e:=e) (o:=Br S') (h':=(s2.heap.push emptyDict).update e λo=>{o with dict:=some s2.heap.objs.size}) (t':=s2.toks) (by rw[qv];exact True.intro) Hr (λb u hb q=>(Heap.get?_update_ne _ _ _ _ hb).trans q) ⟨_,eO⟩ (xc_ok eO);have J3:=J2.write (x:=s2.heap.objs.size) (e:=s2.heap.objs.size) (o:=WV [(f,y)]) (h':=h') (t':=s2.toks+2) (by rw[zaf (Zd il),zab];exact True.intro) Hr (λb u hb q=>(sf.2 b hb).trans q) (let⟨o,_,_,q,_⟩:=hn;⟨o,q⟩)
   (xd_ok hn (relO_put (fs:=[]) (mA:=λ_=>none) (λ_=>True.intro) ry) (zhf (fs:=[]) (mA:=λ_=>none) λy hy=>absurd rfl hy) (by decide:1≤1000))
  have eq:upd (Ij (WD s2.heap.objs.size (WV [])) e (Br S')) s2.heap.objs.size (WV [(f,y)])=upd (WD s2.heap.objs.size (WV [(f,y)])) e (Br S'):=by
   funext b;by_cases b1:b=s2.heap.objs.size
   ·subst b1;rw[zab,zaf (Zd il),zab]
   by_cases b2:b=e
   ·subst b2;rw[zaf b1,zab,zab]
   rw[zaf b1,zaf b2,zaf b1,zaf b2,zaf b1]
  rw[←eq];exact J3
 |old e C HE fI d fs h0 h c k hd l q=>subst h0;obtain rfl:ov=Value.ref e:=rx;obtain⟨⟨a0,sl,hx⟩,_⟩:=I2.hok e _ h;obtain⟨⟨mA,n,r,wi,l0⟩,_⟩:=I2.hok d _ hd;refine xset_old I2.kIn hx c k n wi (AY l0) λh' hn sf=>⟨σ,_,?_,q⟩;exact I2.write (x:=d) (e:=d) (by rw[hd];exact True.intro) Hr (λb u hb q=>(sf.2 b hb).trans q) (let⟨o,_,_,q,_⟩:=hn;⟨o,q⟩) (xd_ok hn (relO_put r ry) (zhf wi) (Zf (zee f y fs) l))
def PJ(X:Cx)(es:Nq)(t:St→Hp→Prop):Prop:=∀(a7:Nd) (s:Ni) (σ:St) (H:Hp) (out:Str) (Q:Nb),ZA H s→t σ H→out.length+2000*es.length≤sizeLine→(∀z tk s',ZA H s'→Q (.str z tk) s') →
 wpAny FE X.A (joinParts out (evalEach es X.env)) Q X.xe s
def pj_nil:Fj [] λ_ _=>True:=by intro a7 s σ H out Q I _ hl k;exact joinParts_nil (k _ _ _ HI) hl
def pj_str{x:Str}{kd}{es:Nq}{t:St→Hp→Prop}(hx:x.length≤2000)(h:Fj es t):Fj (.Constant TD kd pos::es) t:=by
 intro a7 s σ H out Q I ht hl k;rw[Za]at hl;refine joinParts_cons (Calls.Constant_str ⟨?_,h a7 _ σ H _ Q HI ht ?_ k⟩)
 ·rw[strLen_append];lia
 rw[strLen_append];lia
def pj_int{es:Nq}{t:St→Hp→Prop}(he:QA e ta)(h:Fj es t):Fj (.FormattedValue e (-1) none pos::es) λ σ H=>ta σ H λv H1=>∃i:Int,v=.int i∧i.natAbs<10 ^ 9∧H1=H∧t σ H:=by
 intro a7 s σ H out Q I ht hl k;rw[Za]at hl;refine joinParts_cons (FormattedValue_plain (thn Ag λu s1 ⟨v,H1,I1,rv,i,ev,hi,eH,q⟩=>?_));subst ev eH;obtain⟨tk,rfl⟩:=rv;have aa:=int_text_length_le10 (k:=9) Fw hi;refine formatField_int_small ?_ ⟨?_,h a7 _ σ H1 _ Q (I1.tok _) q ?_ k⟩
 ·by_cases z:i.natAbs=0
  ·rw[z];decide
  exact(Nat.log2_lt z).mpr (Wt hi FK)
 ·show (out++Str.ofString (toString i)).length≤sizeLine;rw[strLen_append,PySem.ofString_length];lia
 show (out++Str.ofString (toString i)).length+_≤sizeLine;rw[strLen_append,PySem.ofString_length];lia
def pe_fs{v1 v2:Expr}{es:Nq}{t:St→Hp→Prop}(h:Fj (v1::v2::es) t)(hl:2000*(v1::v2::es).length≤sizeLine):QA (.JoinedStr (v1::v2::es) pos) λ σ H Q=>t σ H∧∀z,Q To H:=by intro a7 s σ H Q I ⟨ht,hq⟩;exact JoinedStr_many (h a7 s σ H _ _ I ht (by show 0+_≤_;lia) λz tk s' I'=>⟨To,H,I',⟨_,rfl⟩,hq z⟩)
end
end L2
namespace L2
open PySem PySem.Spec PyProof.Rows PySem.W
def unt(H:Hp)(e:Nc):Hp:=λb=>if b=e then none else H b
def zco{H:Hp}{e b:Nc}(h:b≠e):unt H e b=H b:=if_neg h
def unt_same{H:Hp}{e:Nc}:unt H e e=none:=if_pos rfl
section
variable{X:Cx}{a7:Nd}{σ:St}{H:Hp}{s:Ni}{e C:Nc}{dd:Option Addr}
def Inv.unt(I:Gj)(he:H e=some (Br dd))(h0:X.s₀.heap.get? e=none):ZA (unt H e) s:=by
 have ne:∀b u,H b=some u→u≠Br dd→b≠e:=λb u q z y=>z (by rw[y,he]at q;exact(Qq q).symm);refine⟨I.ok,I.os,I.bare,⟨I.base.keep,I.base.slot,λb u q n hx=>?_,I.base.there,λb xs q=>?_,λb u v q=>?_,λb ps q=>?_⟩,I.loc,I.cell,?_,λx c q=>?_,λp hp=>?_,λb u q=>?_,I.len⟩
 ·have b1:b≠e:=λz=>by rw[z,h0]at q;cases q
  rw[zco b1];exact JC u q n hx
 ·have:=D9 q;rw[zco (ne _ _ this (λz=>by cases z))];exact this
 ·have:=I.base.frzs b u v q;rw[zco (ne _ _ this (λz=>by cases z))];exact this
 ·obtain⟨m,this⟩:=Fa q;exact⟨m,by rw[zco (ne _ _ this (λz=>by cases z))];exact this⟩
 ·have:=I.free;rw[zco (λz=>by rw[z,he]at this;cases this)];exact this
 ·have:=UJ q;rw[zco (λz=>by rw[z,he]at this;cases this)];exact this
 ·obtain⟨h1,h2,h3⟩:=YS hp;exact⟨h1,by rw[zco (λz=>by rw[z,he]at h2;cases h2)];exact h2,h3⟩
 have b1:b≠e:=λz=>by rw[z,unt_same]at q;cases q
 rw[zco b1]at q;exact(Y' u q).stay (λ_ _ _ z=>z) (λc z=>by rw[zco (ne _ _ z (λy=>by cases y))];exact z) λc xs z=>by rw[zco (ne _ _ z (λy=>by cases y))];exact z
variable{P:Nk}{w:Nn}{K:Na}{mg:Ng}{base:No}{N ps:Nh}{qual:Str}{scope:Scope}{f:Nc}{cd:Value}{A:Np}{outer:List Env}{E:XK}
def raiseI{a7:Nd}{σ:St}{H1:Hp}{s1:Ni}{e C:Nc}{dd:Option Addr}(I:Df s1)(he:H1 e=some (Br dd))(h0:s.heap.get? e=none)(q:E Hw dd (unt H1 e)) :
  (ZE E).xe TJ s1:=by
 obtain⟨⟨a0,sl,hx⟩,_⟩:=I.hok e _ he;have J:=I.unt he h0;have hef:e∉frs Go:=λz=>by have:=I.stkFree e z;rw[he]at this;cases this
 let as:=e::frs Go;have av:∀b o,s1.heap.get? b=some o→b∉as→∃u,(Z7 as).get? b=some u:=λb o q nb=>⟨o,NA q nb⟩;have ax:Heap.StaysIn (Z7 as) s1.heap:=λb o q=>NU q;have bu:=PySem.W.funFrames_hide (as:=as) I.stack λenv hv b hb=>QM (Xj.mpr ⟨env,hv,hb⟩);have g3:(Z7 as).get? e=none:=PySem.W.hideAll_none _ (Qc);have hT:∀b o,unt H1 e b=some o→∃u,(Z7 as).get? b=some u:=λb o q=>by
  have b1:b≠e:=λz=>by rw[z,unt_same]at q;cases q
  rw[zco b1]at q;obtain⟨u,hu⟩:∃u,s1.heap.get? b=some u:=(Y' o q).got;refine av b u hu λz=>?_;rcases Qi.mp z with y|y
  ·exact b1 y
  rw[I.stkFree b y]at q;cases q
 show ZW _ (leaving _ TJ) _ _ _;unfold leaving noteFrame;refine wpAny_bind (RH (wpAny_field hx rfl (x:=.none) rfl ?_));rw[if_neg Fw];refine entryR (R:=LoneD dd) (a0:=.ref a0) zdj I.ok.frames bu rfl hx ax g3 rfl rfl Fr ⟨⟨_,rfl,rfl⟩,rfl⟩ λh1 r1 hd u1=>?_;refine landR (s:={s1 with heap:=h1}) hd.1 hd.2.1 hd.2.2.1 hd.2.2.2 r1 λh2 r2 fl u2=>?_;have B0:∀b o,s.heap.get? b=some o→b∉frs outer→∃u,(Z7 as).get? b=some u:=λb o q nb=>by
  obtain⟨o',q'⟩:=YC q (by show b∉([]:List Addr);simp);refine av b o' q' λz=>?_;rcases Qi.mp z with y|y
  ·rw[y,h0]at q;cases q
  rcases Qi.mp (X9 y) with r|r
  ·exact absurd (D8 I.ok.above) (by rw[r];exact Yy _)
  exact nb r
 obtain⟨fu,fo⟩:=flyUn (l:=outer) (base:=Z7 as) (B:=Z7 as) (g:=s1.heap) (h':=h2) J.base J.hok B0 hT ax fl.1 bu.2.2 O0;exact⟨e,Hw,AG,dd,unt H1 e,A5,J.os,J.bare,fu,fo,B0,hT,⟨fl.1,fl.2.1,fl.2.2.1.2.2,fl.2.2.2⟩,r2,q⟩
def tRaiseI(C:Nc)(sp:Sp)(E:XK)(t:TA):TS:=λ_ σ H=>t σ H λvs H1=>Aj2 (vs.length≤sizeLine) (∀e,H1 e=none→sp (.ref e::vs) (QI e (Br none)) (λv H2=>v=.non∧∃dd,H2 e=some (Br dd)∧E Hw dd (unt H2 e)) λ_ _ _=>False)
def ps_raiseI{x:Str}{C HE fI:Nc}{fd:Nw}{k:Nat}{iJ:Nh}{sp:Sp}{e₀:Expr}{rest:Nq}{np cpos pos:Pos}{t:TA}(c:QY fI)(F:ZB k fI fd iJ sp)(hr:Room (k+1) (ZE E).A)(hb:Z3 fd iJ [])(hg:Gl Oo x)(hm:mg x=some Hw)(hkp:keepIn K Hw=true)(ha:PA Oo (e₀::rest) t)(cM:Gw=false:=by decide)(he:starEach (e₀::rest) Li=(false,eval e₀ Li)::starEach rest Li:=by rfl)(bo:(Tz Pd).any (·.1)=false:=by rfl) :
  PS Oo (.Raise (He (.Call E4 (e₀::rest) [] cpos)) none pos) (tRaiseI C sp E t):=by
 intro a7 s1 σ H1 D I h;have hE:NV HE:=by obtain⟨_,_,_,_,_,_,_,_,_,_,_,_,_,_,_,he,_,_⟩:=c;exact he
 rw[arm_exec_Raise];refine wpAny_bind (IF (raise_any (K:=K) (C:=C) (HE:=HE) (fI:=fI) (I.ok.hd rfl) hE ?_));refine wpAny_bind (wpAny_mono (Q:=λv s₁=>∃e a0 dd sl,v=.ref e∧K.In s₁.heap∧QY fI∧s₁.heap.get? e=some (UG dd a0 sl)∧(ZE E).xe TJ s₁) ?_ (λv s₃ h₃=>wpAny_bind (IF (GG h₃))) λ_ _ z=>z);refine wpAny_Call_Name_kw (Bp ?_ cM);refine PySem.W.callWith_K (h₀:=base) I.ok.mod.kin hkp (thn (ha cpos a7 s1 σ H1 _ I h) λus s2 ⟨vs,H2,I2,r,hl,q⟩=>⟨I2.kIn,?_⟩) he bo;have hq:=q (s2.heap.objs.size+1) (I2.hok.fresh (Um _));have cK:(excH s2.heap C us).get? (s2.heap.objs.size+1)=some (Y1 O3 #[]):=by have:=Qv (s2.heap.push (tupO us)) (o:=Y1 O3 #[]) rfl;rwa[Wv]at this
 have I3:=I2.laid (a:=s2.heap.objs.size+1) (o:=XcO (s2.heap.objs.size+1) C none) (h':=excH s2.heap C us) (t':=s2.toks) (λb u z=>QS (QS z)) (Um _) (xc_ok cK);have r2:Vals (V.ref (s2.heap.objs.size+1)::vs) (Value.ref (s2.heap.objs.size+1)::us):=.cons rfl r;have gU:(Value.ref (s2.heap.objs.size+1)::us++[]).length=iJ.length:=by have e:=r2.length;rw[Ms hq]at e;rw[Zp];exact e.symm
 have hsz:=I2.sz;obtain⟨hp,g,d,tk,os⟩:=s2;refine exc_call (rest:=us) I2.kIn c (by rw[←r.length];exact hl) ?_;refine wpAny_call (codeAny_mono (F.run _ (ZE E).stack _ _ ⟨Value.ref (hp.objs.size+1)::us,[]⟩ (Value.ref (hp.objs.size+1)::us) _ _ _ (hr.make C us []) (I3.env0.make C us []) (by have:=hb _ (Value.ref (hp.objs.size+1)::us) I3.kIn gU;rwa[Zp]at this) r2 hq) λr s' dP=>?_);cases r with
 |error e=>exact absurd dP (λz=>z)
 |ok fl=>
  cases fl with
  |ret u=>obtain⟨v,H',I4,rv,ev,dd,hH,q3⟩:=I3.after dP;subst ev;obtain⟨⟨a0,sl,hx⟩,_⟩:=I4.hok _ _ hH;refine⟨rv,_,_,dd,sl,rfl,I4.kIn,c,hx,raiseI I4 hH ?_ q3⟩;exact Heap.get?_none_of_le (Ji hsz)
  |next=>exact False.elim dP
  |brk=>exact False.elim dP
  |cont=>exact False.elim dP
end
end L2
namespace K21
open PySem L2 Wb
abbrev sLeast:Stmt:=top 20
inductive IspLeast(vs:List V)(H:Hp)(Q:VK):Prop
 |mk (a:Nc) (zs:Nh) (h0:vs=[.ref a]) (h1:H a=some (.lst (zs.map V.str))) (h2:zs.length≤100) (h3:∀(t:Nc) (j:Nat) (H':Hp),j≤zs.length→H' t=some (.tup ((zs.drop j++zs.take j).map V.str))→H t=none→Keep [] H H'→Q (.ref t) H'):IspLeast vs H Q
def spLeast:Sp:=λvs H Q _=>IspLeast vs H Q
def zho{α β γ:Type}{R:α→γ→Prop}{f:β→γ}:∀{as:List α} {bs:List β},Paired (λa b=>R a (f b)) as bs→QV as (bs.map f):=by
 intro as bs r;induction r with
 |nil=>exact .nil
 |cons h t ih=>exact .cons h ih
abbrev sOW:Stmt:=inClass (top 5) 0
def fldW(p:Str×Str):List (Str×V):=[("one",.str p.1),("other",.str p.2)]
inductive IspOW(C:Nc)(vs:List V)(H:Hp)(Q:VK):Prop
 |mk (e:Nc) (p:Str×Str) (h0:vs=[.ref e,.str p.1,.str p.2]) (h1:H e=some (XcO e C none)) (h2:p.1.length≤1000∧p.2.length≤1000) (h3:∀(d:Nc) (H':Hp),H' d=some (XdO d (fldW p))→H' e=some (XcO e C (some d))→d≠e→Keep [e] H H'→Q .non H'):IspOW C vs H Q
def spOW(C:Nc):Sp:=λvs H Q _=>IspOW C vs H Q
def zb0(es:List Ent):List (Str×Str):=es.flatMap λe=>e.2.1.map λx=>(e.1,x)
def zcl(es:List Ent)(p:Str×Str):Bool:=decide (p.2=p.1∨p.1∉ZO p.2)
inductive IspOneWay(C:Nc)(vs:List V)(H:Hp)(Q:VK)(E:XK):Prop
 | mk (l:Nc) (as:Nl) (es:List Ent) (h0:vs=[.ref l]) (h1:RwAt H l as es) (h2:(es.map (·.1)).Nodup) (h3:∀ e∈es,e.1.length≤1000∧∀ x∈e.2.1,x.length≤1000)
   (h4:∀H',Keep [] H H'→((zb0 es).find? LB=none→Q .non H')∧∀p,(zb0 es).find? LB=some p→∀d,H' d=some O4→E Hw PX H'):IspOneWay C vs H Q E
def spOneWay(C:Nc):Sp:=IspOneWay C
def ties_take{es:List Ent}{i j:Nat}(hi:i<es.length)(hj:j<es[i].2.1.length):∃B,zb0 es=(zb0 PZ++(es[i].2.1.take j).map λx=>(es[i].1,x))++(es[i].1,es[i].2.1[j])::B:=by
 refine⟨(es[i].2.1.drop (j+1)).map (λx=>(es[i].1,x))++zb0 (es.drop Gr),?_⟩;have e1:zb0 es=zb0 PZ++(es[i].2.1.map (λx=>(es[i].1,x))++zb0 (es.drop Gr)):=by
  have:zb0 es=zb0 PZ++zb0 (es[i]::es.drop Gr):=by unfold zb0;rw[←Zz hi,←List.flatMap_append,Zq]
  rw[this];rfl
 have e2:es[i].2.1.map (λx=>(es[i].1,x))=(es[i].2.1.take j).map (λx=>(es[i].1,x))++(es[i].1,es[i].2.1[j])::(es[i].2.1.drop (j+1)).map λx=>(es[i].1,x):=by rw[←Qo (f:=λx=>(es[i].1,x)),←Zz hj,←Qr,Zq]
 rw[e1,e2,Zc,Zc];rfl
def ties_all{es:List Ent}:zb0 (es.take es.length)=zb0 es:=by rw[Qm Gg]
def pj_txt{X:Cx}{e:Expr}{ta:TE}{pos:Pos}{es:Nq}{t:St→Hp→Prop}(he:QA e ta)(h:Fj es t):Fj (.FormattedValue e (-1) none pos::es) λ σ H=>ta σ H λv H1=>∃z:Str,v=.str z∧z.length≤1000∧H1=H∧t σ H:=by
 intro a7 s σ H out Q I ht hl k;rw[Za]at hl;refine PyProof.Rows.joinParts_cons (PyProof.Rows.FormattedValue_plain (thn Ag λu s1 ⟨v,H1,I1,rv,z,ev,hz,eH,q⟩=>?_));subst ev eH;obtain⟨tk,rfl⟩:=rv;refine PyProof.Rows.formatField_str (λt' pF=>⟨?_,h a7 _ σ H1 _ Q (I1.tok _) q ?_ k⟩) Fs
 ·rw[PySem.strLen_append];lia
 rw[PySem.strLen_append];lia
section
variable{P:Nk}{w:Nn}{K:Na}{mg:Ng}{base:No}
def zep:zar ["rows", "rounds", "one", "around", "other"] ["rows"] (zaj zii):=fsk
def scOW:zar ["self", "one", "other"] ["self", "one", "other"] (zaj sOW):=fsk
def ok_ow(F:Z1 "__init__" "OneWay.__init__" sOW f fd)(c:QY f)(b:Bas K HE "__init__" "ValueError.__init__")(hE:mg "HueError" = some (Fu HE))(a1:XO "one")(a2:XO "other"):ZB 1 f fd ["self", "one", "other"] (spOW C):=by
 refine F.okL scOW Fx;obtain⟨e,p,rfl,he,⟨b1,b2⟩,k⟩:=h;refine⟨_,zae (za2 (NZ (Ae (pe_fs (pj_txt RM (pj_str Fw (pj_txt RK (pj_str Fw pj_nil)))) Fw))))
  (Dg (zag (Bx RM rfl))),?_⟩
 refine⟨A5,⟨A5,A5,b2,rfl,A5,A5,b1,rfl,True.intro⟩,λz=>⟨e,C,HE,f,none,To,rfl,he,c,?_⟩⟩;refine⟨A5,A5,.new e C HE f rfl he c a1 λd hd am=>?_⟩;refine⟨A5,A5,.old e C HE f d _ rfl zab c a2 (by rw[zaf am,zab]) (by show 1<1000;lia) ?_⟩;refine k d _ zab (by rw[zaf (Zd am),zab]) am λb u hb hx=>?_;have n1:b≠d:=λz=>by rw[z,hd]at hb;cases hb
 have n2:b≠e:=λz=>hx C4;rw[zaf n1,zaf n2,zaf n1];exact hb
def ok_oneway{f:Nc}{fd:Nw}(F:Z1 "refuse_one_way" "refuse_one_way" zii f fd)(nN:mg "OneWay" = some Hw)(kN:Q9 Hw=true)(cN:QY fi)(bN:Z3 fdi ["self", "one", "other"] [])(GN:ZB 1 fi fdi ["self", "one", "other"] (spOW C))(gG:mg "dict" = none):ZC Ly 3 f fd ["rows"] (spOneWay C):=by
 refine F.okX zep (λvs H Q E h=>by obtain⟨l,as,es,rfl,_⟩:=h;rfl) Fx;obtain⟨l,as,es,rfl,R,aR,aa,k⟩:=h;have hu:=zcm hr;have aJ  :=sizeLine_eq;refine⟨_,zae (X1 zep.nd (zcb (zd6 rfl) FX gG PyProof.Rows.boot_dict Re))
  (zag (BP Lz (XM (zat (za6 2 zep.nd) (LA (DT zep.nd))))
   (zag (BP (zaz HF) (N0 zep.nd)
    (zag (Ep (PW.pt (pw_or (MZ SY RM HP) (zhl (zan zc3 RM (pe_dget2 hu RK SY RD ⟨rfl,rfl,rfl,rfl⟩) rfl)))) (zag (K' (ZY TW))))))))),?_⟩
 have lN:(es.map λe:Ent=>(e.1,Sj)).map (·.1)=es.map (·.1):=by rw[Zu];rfl
 refine⟨A5,l,as,es.map λe=>(e.1,Sj),rfl,R.ls,zho R.ts,FA lN aR,λd hd=>?_⟩;have sw:((es.map λe:Ent=>(e.1,Sj)).map λp=>((Sum.inr p.1:Key),p.2))=eWV es:=by rw[Zu];rfl
 rw[sw];generalize mh:ZU d _=H1;obtain⟨k1,tS⟩:=nwk hd mh;have R1:=R.keep k1;refine⟨A5,l,rfl,⟨_,AV⟩,zbs (xs:=as.map V.ref) (λi σ H'=>Aj3 (∀p∈zb0 PZ,V5 p=false) (Keep [] H1 H') (Ex3 λx2 x3 x4=>σ=[Cp,LO,x2,x3,x4])) ⟨λp h=>(by cases h),Keep.refl,none,none,none,rfl⟩ (λi σ H' _ hh=>SqL.of (hh.2 _ _ R1.ls Fr)) ?_ ?_⟩
 ·rintro i y σ H2 hx ⟨hg,k2,x2,x3,x4,rfl⟩;have hi:i<as.length:=by have:=(LP hx).1;rwa[Qa]at this
  have ik:y=.ref as[i]:=by rw[Qt,Qb hi]at hx;exact(Qq hx).symm
  subst ik;obtain⟨ao,aO⟩:=za0 R1.ts hi;have aU:=k2 _ _ (R1.ro _ Pe) Fr;refine⟨as[i],A5,HV (Af aO),rfl,_,A5,_,A5,rfl,?_⟩;refine⟨A5,es[i].2.2,rfl,⟨_,FH aU⟩,zbs (xs:=es[i].2.1.map V.str) (λj σ H'=>Aj3 (∀x∈es[i].2.1.take j,V5 (es[i].1,x)=false) (Keep [] H2 H') (Ex1 λx4=>σ=[Cp,LO,He (.str es[i].1),He (.ref es[i].2.2),x4])) ⟨λx h=>(by cases h),Keep.refl,_,rfl⟩ (λj σ H' _ hh=>SqL.of (TU aU Fr)) ?_ ?_⟩
  ·rintro j y σ H3 hy ⟨gw,k3,y4,rfl⟩;obtain⟨gp,ey⟩:=Qy.mp hy;have hj:j<es[i].2.1.length:=by rwa[Qa]at gp
   rw[Zm]at ey;subst ey;have oN:=k3 _ _ (Af tS) Fr;have ig:Keep [] H H3:=(SL k2).trans k3;have bad:∀H4,Keep [] H H4→V5 (es[i].1,es[i].2.1[j])=true→tRaiseI C (spOW C) E (tCons (tVar 2) (tCons (tVar 4) tNil)) {nx:=λ_ _=>True,rt:=λ_ _=>True} [Cp,LO,He (.str es[i].1),He (.ref es[i].2.2),He (.str es[i].2.1[j])] H4:=λH4 k4 hb=>by
    have hf:(zb0 es).find? LB=some (es[i].1,es[i].2.1[j]):=by
     obtain⟨B,eB⟩:=ties_take ao hj;rw[eB,Xp,Yx.mpr (λp hp=>?_),Wj hb]
     ·rfl
     rcases Qg.mp hp with z|z
     ·rw[hg p z];decide
     obtain⟨x,hx,rfl⟩:=Ql.mp z;rw[gw x hx];decide
    obtain⟨l1,l2⟩:=aa _ Pe;refine⟨A5,A5,Sq,λe he=>⟨e,(es[i].1,es[i].2.1[j]),rfl,zab,⟨l1,l2 _ AH⟩,λdx H6 oM tN jW k6=>⟨rfl,He dx,tN,?_⟩⟩⟩;have kk:Keep [] H Ot:=λc u hc _=>by
     have l6:=k4 c u hc Fr;have nce:c≠e:=λz=>by rw[z,he]at l6;cases l6
     rw[zco nce];exact k6 c u (FQ nce l6) (Fv nce)
    exact(k Ot kk).2 _ hf dx (by rw[zco jW];exact oM)
   refine⟨A5,A5,rfl,A5,?_⟩;by_cases am:es[i].2.1[j]=es[i].1
   ·exact zay (Gh (by rw[am])) (iteT (bad H3 ig (Gh (.inl am))))
   refine zal (decide_eq_false (λq=>am (by injection q))) ?_;refine⟨A5,A5,d,rfl,.inl ⟨_,Gm oN⟩,A5,Tv,λq hq=>?_⟩;have ndq:d≠q:=zac oN hq;have tR:(WK q Ge) d=some HX:=by rw[zaf ndq];exact oN
   have dg:=DGet.k (k:=Sum.inr es[i].2.1[j]) tR;have nxt:es[i].1∈ZO es[i].2.1[j]→∀x∈es[i].2.1.take (j+1),V5 (es[i].1,x)=false:=λhm x hx=>by
    rw[Qj hj]at hx;rcases Qg.mp hx with z|z
    ·exact gw x z
    rw[Cz];exact decide_eq_false λq=>q.elim am λq=>q hm
   by_cases av:es[i].2.1[j]∈es.map (·.1)
   ·obtain⟨e',cv,gF⟩:=Ql.mp av;have gF:e'.1=es[i].2.1[j]:=gF;have bZ:(WK q Ge) e'.2.2=some Pf:=by have h3:=k3 _ _ (Af (R1.ro e' cv)) Fr;rw[zaf (A0 h3 hq)];exact h3
    have eU:ZO es[i].2.1[j]=e'.2.1:=by rw[←gF];exact zbw aR cv
    rw[←gF,zf8 aR cv,gF]at dg;refine⟨_,dg,e'.2.2,A5,HJ bZ,rfl,zcx _,A5,?_⟩;rw[if_pos rfl,zeg];by_cases hm:es[i].1∈e'.2.1
    ·exact zal (by rw[decide_eq_true hm];rfl) ⟨nxt (FA eU hm),RQ TN,_,rfl⟩
    exact zay (by rw[decide_eq_false hm];rfl) (bad _ (ig.trans TN) (decide_eq_true (Ru (FA eU hm))))
   have fe:valV (es.map λe=>((Sum.inr e.1:Key),Sj)) (Sum.inr es[i].2.1[j])=none:=val_out av;rw[fe]at dg;refine⟨_,dg,q,[],rfl,HJ zab,rfl,rfl,A5,?_⟩;refine WZ (bad _ (ig.trans TN) (Gh (.inr ?_)));have:(rsOf es).find? (λp=>decide (p.1=es[i].2.1[j]))=none:=Yx.mpr λp hp hq=>by unfold rsOf at hp;obtain⟨e,he,rfl⟩:=Ql.mp hp;exact av (LL ⟨e,he,Os hq⟩)
   unfold row;rw[this];simp
  rintro σ H3 ⟨gw,k3,y4,rfl⟩;rw[Qa,Qm Gg]at gw;refine⟨λp hp=>?_,TV k3,_,_,A5⟩;rw[Qj ao]at hp;unfold zb0 at hp;rw[List.flatMap_append]at hp;rcases Qg.mp hp with z|z
  ·exact hg p z
  rw[List.flatMap_cons,List.flatMap_nil,Zp]at z;obtain⟨x,hx,rfl⟩:=Ql.mp z;exact gw x hx
 rintro σ H2 ⟨hg,k2,x2,x3,x4,rfl⟩;rw[Qa,Zl R1.ts,ties_all]at hg;refine(k H2 (SL k2)).1 (Yx.mpr λp hp=>?_);rw[hg p hp];decide
def scLeast:zar ["around", "at"] ["around"] (zaj sLeast):=fsk
def ok_least(F:Z1 "from_least" "from_least" sLeast f fd)(gi:mg "min" = none)(jz:mg "tuple" = none):ZB 1 f fd ["around"] spLeast:=by
 refine F.okL scLeast Fx;obtain⟨a,zs,rfl,ha,hz,k⟩:=h;have aJ  :=sizeLine_eq;refine⟨_,zae (X1 scLeast.nd (pe_ifExp (zf5 Hx (by intro _;rfl)) (U8 Hx (Hf (zai (zi4 rfl) FX gi PyProof.Rows.boot_min (ZM zad)))) zah))
  (zag (AE (zcb ze7 FX jz PyProof.Rows.boot_tuple (Hf (SX (pv 0) (zbx RK)))))),?_⟩
 have fg:(zs.map V.str).length=zs.length:=Qa ..;refine⟨A5,_,.inl ⟨_,FH ha,rfl⟩,?_⟩;by_cases rH:zs=[]
 ·refine zal (by rw[rH];rfl) ?_;have h0:0≤zs.length:=Zo _;refine⟨A5,A5,A5,a,A5,FH ha,λp1 h1=>?_⟩;have n1:a≠p1:=zac ha h1;refine⟨A5,A5,A5,a,A5,FH (by rw[zaf n1];exact ha),λp2 h2=>?_⟩;have ie:p1≠p2:=zac (o:=_) zab h2;refine⟨p1,p2,_,A5,rfl,CT,zab,?_,λp3 h3=>?_⟩
  ·have q1:=Bh (He (0:Int)) none;have q2:=Bh none (He (0:Int));rw[fg]at q1 q2;show _+_≤sizeLine;lia
  have ecut:YA (He (0:Int)) none++YA none (He (0:Int))=(zs.drop (0:Nat)++zs.take (0:Nat)).map V.str:=by show YA (He (((0:Nat)):Int)) none++YA none (He (((0:Nat)):Int))=_;rw[zd1 (FA fg h0),zhx (FA fg h0),Qr,Kf,Jl]
  rw[ecut];refine⟨p3,A5,.inl ⟨LN,λt ht=>?_⟩⟩;have kk:Keep [] H _:=(((FM h1).trans LW).trans E7).trans (Keep.new (o:=.tup ((zs.drop (0:Nat)++zs.take (0:Nat)).map V.str)) ht);exact k t (0:Nat) _ h0 zab (zap (xs:=[]) (((FM h1).trans LW).trans E7) ht Fr) kk
 refine zay (by cases hh:zs with
  |nil=>exact absurd hh rH
  |cons _ _=>rfl) ?_
 refine⟨A5,Hd ha,A5,a,zs,rfl,FH ha,rH,λz d8 _=>?_⟩;obtain⟨i1,i2⟩:=index_of d8;have hj:zs.idxOf z≤zs.length:=Zw (idx_lt d8);refine⟨a,_,_,A5,rfl,ha,rfl,zcx _,i1,i2,?_⟩;refine⟨A5,A5,A5,a,A5,FH ha,λp1 h1=>?_⟩;have n1:a≠p1:=zac ha h1;refine⟨A5,A5,A5,a,A5,FH (by rw[zaf n1];exact ha),λp2 h2=>?_⟩;have ie:p1≠p2:=zac (o:=_) zab h2;refine⟨p1,p2,_,A5,rfl,CT,zab,?_,λp3 h3=>?_⟩
 ·have q1:=Bh (He (Su:Int)) none;have q2:=Bh none (He (Su:Int));rw[fg]at q1 q2;show _+_≤sizeLine;lia
 have ecut:YA (He (Su:Int)) none++YA none (He (Su:Int))=(zs.drop Su++zs.take Su).map V.str:=by rw[zd1 Ck,zhx Ck,Qr,Kf,Jl]
 rw[ecut];refine⟨p3,A5,.inl ⟨LN,λt ht=>?_⟩⟩;have kk:Keep [] H _:=(((FM h1).trans LW).trans E7).trans (Keep.new (o:=.tup ((zs.drop Su++zs.take Su).map V.str)) ht);exact k t Su _ hj zab (zap (xs:=[]) (((FM h1).trans LW).trans E7) ht Fr) kk
end
end K21
namespace Wb
section lk
variable{β:Type}
def Lk(f:β→β):β→List β→β→Prop
 |s,[],e=>f s=e
 |s,x::t,e=>f s=x∧Lk f x t e
def lk_app:∀{A:List β} {s:β},JO (A++x::B) e↔JO A x∧Lk f x B e:=by
 intro A;induction A with
 |nil=>intro s;exact Iff.rfl
 |cons a t ih=>intro s;show f s=a∧Lk f a (t++x::B) e↔(f s=a∧Lk f a t x)∧Lk f x B e;rw[ih,and_assoc]
def lk_congr:∀{t:List β} {s:β},(∀y,y=s∨y∈t→g y=f y)→JO t e→Lk g s t e:=by
 intro t;induction t with
 |nil=>intro s h k;exact(h s Hr).trans k
 |cons a t ih=>
  intro s h k;refine⟨(h s Hr).trans k.1,ih (λy hy=>h y (.inr ?_)) k.2⟩;rcases hy with z|z
  ·rw[z];exact Qc
  exact QM z
def Cyc(f:β→β)(c:List β):Prop:=∃s t,c=s::t∧JO t s
def zfm(h:Cyc f (A++x::B)):Lk f x (B++A) x:=by
 obtain⟨s,t,e,k⟩:=h;cases A with
 |nil=>cases e;rw[Zp];exact k
 |cons a A'=>cases e;obtain⟨k1,k2⟩:=lk_app.mp k;exact lk_app.mpr ⟨k2,k1⟩
def cyc_congr(h:∀y∈c,g y=f y)(k:Cyc f c):Cyc g c:=by obtain⟨s,t,e,k⟩:=k;subst e;exact⟨s,t,rfl,lk_congr (λy hy=>h y (Qi.mpr hy)) k⟩
end lk
section nx
variable{α:Type}[DecidableEq α]
def zgq{A B:List α}{w:α}(h:w∉A):(B++A++[w]).head?=some (nxt (A++w::B) w):=by
 have hi:(A++w::B).idxOf w=A.length:=by rw[List.idxOf_append,if_neg h,List.idxOf_cons_self];lia
 unfold nxt;rw[hi,Qk,Za];cases B with
 |nil=>
  have e:(A.length+1)%(A.length+(([]:List α).length+1))=0:=by simp
  rw[e];cases A with
  |nil=>rfl
  |cons a t=>rfl
 | cons b t=>
  have e:(A.length+1)%(A.length+((b::t).length+1))=A.length+1:=Nat.mod_eq_of_lt (Gp Za);rw[e];have:(A++w::b::t).getD (A.length+1) w=b:=by
   rw[Qx,Uy (by exact XT _)];have:A.length+1-A.length=1:=by lia
   rw[this];rfl
  rw[this];rfl
def zia{zs:List α}{c:α}(h:c∈zs)(nd:zs.Nodup):∃A B,zs=A++c::B∧c∉A∧c∉B:=by
 obtain⟨A,B,e⟩:=Uz h;refine⟨A,B,e,?_,?_⟩
 ·rw[e,Zn]at nd;exact λz=>nd.2.2 _ z _ Qc rfl
 rw[e,Zn,Zh]at nd;exact nd.2.1.1
def ins_split{A B:List α}{c n:α}(h:c∉A):ins (A++c::B) (He c) n=A++c::n::B:=by
 have hi:(A++c::B).idxOf c=A.length:=by rw[List.idxOf_append,if_neg h,List.idxOf_cons_self];lia
 show(A++c::B).take ((A++c::B).idxOf c+1)++n::(A++c::B).drop ((A++c::B).idxOf c+1)=_;rw[hi];have e1:(A++c::B).take (A.length+1)=A++[c]:=by
  rw[List.take_append,Qm (by exact XT _)];have:A.length+1-A.length=1:=by lia
  rw[this];rfl
 have e2:(A++c::B).drop (A.length+1)=B:=by
  rw[List.drop_append,Jt (by exact XT _)];have:A.length+1-A.length=1:=by lia
  rw[this];rfl
 rw[e1,e2,Zc];rfl
variable{zs:List α}{c n:α}
def mem_ins(hc:c∈zs)(nd:zs.Nodup){w:α}:w∈ins zs (He c) n↔w=n∨w∈zs:=by
 obtain⟨A,B,rfl,h1,h2⟩:=zia hc nd;rw[ins_split h1];simp only[Qg,Qi];constructor
 ·rintro (h|h|h|h)
  ·exact .inr Oa
  ·exact .inr (Ru Oa)
  ·exact .inl h
  exact .inr (.inr (Ru h))
 rintro (h|h|h|h)
 ·exact .inr (Ru Oa)
 ·exact .inl h
 ·exact .inr Oa
 exact .inr (.inr (Ru h))
def nd_ins(hc:c∈zs)(nd:zs.Nodup)(hn:n∉zs):(ins zs (He c) n).Nodup:=by
 obtain⟨A,B,rfl,h1,h2⟩:=zia hc nd;rw[ins_split h1];rw[Zn,Zh]at nd;rw[Qg,Qi,not_or,not_or]at hn;obtain⟨nA,⟨ncB,nB⟩,nAB⟩:=nd;rw[Zn,Zh,Zh];refine⟨nA,⟨?_,hn.2.2,nB⟩,λa ha b hb=>?_⟩
 ·rw[Qi,not_or];exact⟨λe=>hn.2.1 e.symm,ncB⟩
 rcases Qi.mp hb with z|z
 ·rw[z];exact nAB a ha c Qc
 rcases Qi.mp z with y|y
 ·rw[y];exact λe=>hn.1 (e▸ha)
 exact nAB a ha b (QM y)
def nxt_rot(nd:zs.Nodup)(k:Nat){w:α}(hw:w∈zs):nxt (zs.drop k++zs.take k) w=KH w:=by
 obtain⟨A,B,rfl,h1,h2⟩:=zia hw nd;have k2:=zgq (B:=B) h1;by_cases hk:k≤A.length
 ·have e:(A++w::B).drop k++(A++w::B).take k=A.drop k++w::(B++A.take k):=by
   rw[List.drop_append,List.take_append];have:k-A.length=0:=by lia
   rw[this,List.drop_zero,List.take_zero,Zp,Zc];rfl
  have k1:=zgq (A:=A.drop k) (B:=B++A.take k) (λz=>h1 (Wp z));rw[e];refine Qq (k1.symm.trans (Eq.trans ?_ k2));rw[Zc B,Zq]
 have e:(A++w::B).drop k++(A++w::B).take k=(B.drop (k - A.length - 1)++A)++w::B.take (k - A.length - 1):=by
  rw[List.drop_append,List.take_append,Jt Fs,Qm Fs];have:k-A.length=(k-A.length-1)+1:=by lia
  conv=>lhs;rw[this]
  rw[List.drop_succ_cons,List.take_succ_cons,Kg,Zc]
 have k1:=zgq (A:=B.drop (k-A.length-1)++A) (B:=B.take (k-A.length-1)) (λz=>by
  rcases Qg.mp z with y|y
  ·exact h2 (Wp y)
  exact h1 y)
 rw[e];refine Qq (k1.symm.trans (Eq.trans ?_ k2));rw[←Zc,Zq]
end nx
section
variable{α:Type}[DecidableEq α]
def st(r:α→List α)(s:α×α):α×α:=(s.2,nxt (r s.2) s.1)
inductive Conn(r:α→List α)(x:α):α→Prop
 |refl:Conn r x x
 |step {y z:α}:Conn r x y→z∈r y→Conn r x z
def Conn.trans{r:α→List α}{x y z:α}(a:XF x y)(b:XF y z):XF x z:=by
 induction b with
 |refl=>exact a
 |step _ h ih=>exact .step ih h
def Conn.mono(h:∀x y,y∈r x→y∈r' x)(a:XF x y):Conn r' x y:=by
 induction a with
 |refl=>exact .refl
 |step _ hz ih=>exact .step ih (h _ _ hz)
structure Cert(ns:List α)(r:α→List α)(cs:List (List (α×α)))(lab:α→α):Prop where
 nd:ns.Nodup
 ro:∀x,x∉ns→r x=[]
 rn:∀x,(r x).Nodup
 ir:∀x,x∉r x
 sy:∀x y,y∈r x→x∈r y
 cf:cs.flatten.Nodup
 cm:∀s,s∈cs.flatten↔s.1∈r s.2
 cy:∀c∈cs,Dx c
 ln:∀x∈ns,lab x∈ns
 la:∀x y,y∈r x→lab y=lab x
 co:∀x∈ns,∀y∈ns,lab x=lab y→XF x y
end
section
variable{α:Type}[DecidableEq α] {ns:List α}{r r':α→List α}{cs:List (List (α×α))}{lab:α→α}
def Cert.inn(C:W1 lab){x y:α}(h:y∈r x):x∈ns:=Yp λz=>by rw[C.ro x z]at h;cases h
def Cert.inn'(C:W1 lab){x y:α}(h:y∈r x):y∈ns:=C.inn (C.sy x y h)
def Cert.inc(C:W1 lab){c:List (α×α)}(hc:c∈cs){s:α×α}(hs:s∈c):s.1∈r s.2:=(C.cm s).mp (IJ ⟨c,hc,hs⟩)
def zht{β:Type}[DecidableEq β]{c:List β}{cs:List Pg}(hc:c∈cs):cs.flatten.Perm (c++(cs.erase c).flatten):=by have:=Kp (List.perm_cons_erase hc);rwa[Yl]at this
def lk_pre{β:Type}{f:β→β}{e:β}:∀{t:List β} {s:β},JO t e→(s::t).Nodup→∃l∈s::t,f l=e∧∀y∈t,∃p∈s::t,f p=y∧p≠l:=by
 intro t;induction t with
 |nil=>intro s k _;exact⟨s,Qc,k,λy h=>by cases h⟩
 |cons a t ih=>
  intro s k nd;obtain⟨l,hl,e,h⟩:=ih k.2 (Zh.mp nd).2;refine⟨l,QM hl,e,λy hy=>?_⟩;rcases Qi.mp hy with rfl|hy
  ·exact⟨s,Qc,k.1,λz=>(Zh.mp nd).1 (z▸hl)⟩
  obtain⟨p,hp,q⟩:=h y hy;exact⟨p,QM hp,q⟩
def lk_snoc{β:Type}{f:β→β}{e:β}{t:List β}{s:β}(k:JO t e):JO (t++[e]) (f e):=lk_app.mpr ⟨k,rfl⟩
end
section
variable{α:Type}[DecidableEq α] {ns:List α}{r r':α→List α}{cs:List (List (α×α))}{lab:α→α} {β:Type}[DecidableEq β]{f:β→β}
def orbit{S:List β}(hc:∀ x∈S,f x∈S)(hi:∀ x∈S,∀ y∈S,f x=f y→x=y){s:β}:∀ (m:Nat) (t:List β) (e:β),JO t e→(s::t).Nodup→(∀ x∈s::t,x∈S)→S.length≤t.length+m→∃ t',JO t' s∧(s::t').Nodup∧∀ x∈s::t',x∈S:=by
 intro m;induction m with
 |zero=>intro t e _ nd hs hm;have:=zcu nd hs;rw[Za]at this;lia
 | succ m ih=>
  intro t e k nd hs hm;by_cases h1:e=s
  ·subst h1;exact⟨t,k,nd,hs⟩
  obtain⟨l,hl,fh,hp⟩:=lk_pre k nd;have h2:e∉t:=λz=>by obtain⟨p,hp,e2,ne⟩:=hp e z;exact ne (hi p (hs p hp) l (hs l hl) (e2.trans fh.symm))
  have heS:e∈S:=fh▸hc l (hs l hl);refine ih (t++[e]) (f e) (lk_snoc k) ?_ ?_ (by rw[Qk,Wk];lia)
  ·rw[← Yv,Zn];refine⟨nd,Zh.mpr ⟨Fr,Zy⟩,λa ha b hb z=>?_⟩;rw[Qd.mp hb]at z;subst z;rcases Qi.mp ha with q|q
   ·exact h1 q
   exact h2 q
  intro x hx;rw[←Yv]at hx;rcases Qg.mp hx with q|q
  ·exact hs x q
  rw[Qd.mp q];exact heS
def cycles:∀ (n:Nat) (S:List β),S.length≤n→S.Nodup→(∀ x∈S,f x∈S)→(∀ x∈S,∀ y∈S,f x=f y→x=y)→∃ cs:List Pg,cs.flatten.Perm S∧∀ c∈cs,Cyc f c:=by
 intro n;induction n with
 |zero=>intro S hn _ _ _;rw[List.eq_nil_of_length_eq_zero (Nat.le_zero.mp hn)];exact⟨[],.nil,λc h=>by cases h⟩
 | succ n ih=>
  intro S hn nd hc hi;cases S with
  |nil=>exact⟨[],.nil,λc h=>by cases h⟩
  | cons s S=>
   obtain⟨t,k,nt,hs⟩:=orbit hc hi (s:=s) (s::S).length [] (f s) rfl Fr Fr Fr;have dQ:∀y∈s::t,∃p∈s::t,f p=y:=λy hy=>by
    obtain⟨l,hl,e,h⟩:=lk_pre k nt;rcases Qi.mp hy with rfl|hy
    ·exact⟨l,hl,e⟩
    obtain⟨p,hp,q,_⟩:=h y hy;exact⟨p,hp,q⟩
   have hR:((s::S).filter λx=>decide (x∉s::t)).length≤n:=by
    have h1:((s::S).filter λx=>decide (x∉s::t)).length≤S.length:=by rw[Wg Fr];exact Wl _ _
    rw[Za]at hn;lia
   have mR:∀x,x∈(s::S).filter (λx=>decide (x∉s::t))↔x∈s::S∧x∉s::t:=λx=>by rw[Xa,decide_eq_true_iff]
   obtain⟨cs,hp,hcy⟩:=ih _ hR (Ju Xg nd) (λx hx=>by obtain⟨h1,h2⟩:=(mR x).mp hx;refine(mR _).mpr ⟨hc x h1,λz=>?_⟩;obtain⟨p,hp,e⟩:=dQ _ z;exact h2 (hi p (hs p hp) x h1 e▸hp)) λx hx y hy=>hi x ((mR x).mp hx).1 y ((mR y).mp hy).1;refine⟨(s::t)::cs,?_,λc h=>?_⟩
   ·rw[Yl];refine(Jz ?_ nd).mpr λx=>?_
    ·rw[Zn];refine⟨nt,hp.nodup_iff.mpr (Ju Xg nd),λa ha b hb e=>?_⟩;exact((mR b).mp (hp.mem_iff.mp hb)).2 (e▸ha)
    rw[Qg,hp.mem_iff,mR];by_cases hx:x∈s::t
    ·exact⟨λ_=>hs x hx,λ_=>.inl hx⟩
    exact⟨λz=>z.elim (λq=>absurd q hx) λq=>q.1,λz=>.inr ⟨z,hx⟩⟩
   rcases Qi.mp h with rfl|h
   ·exact⟨s,t,rfl,k⟩
   exact hcy c h
end
section
variable{α:Type}[DecidableEq α] {ns:List α}{r r':α→List α}{cs:List (List (α×α))}{lab:α→α}
def labels(sy:∀ x y,y∈r x→x∈r y):∀ E:List (α×α),(∀ e∈E,e.1∈ns∧e.2∈r e.1)→∃ lab:α→α,(∀ x∈ns,lab x∈ns)∧(∀ e∈E,lab e.1=lab e.2)∧∀ x y,lab x=lab y→XF x y:=by
 have back:∀{x y},XF x y→XF y x:=λ{x y} h=>by
  induction h with
  |refl=>exact .refl
  |step _ hz ih=>exact(Conn.step .refl (sy _ _ hz)).trans ih
 intro E;induction E with
 |nil=>intro _;exact⟨id,λ_ h=>h,λe h=>(by cases h),λx y e=>(show x=y from e)▸.refl⟩
 | cons e E ih=>
  intro h;obtain⟨lab,h1,h2,h3⟩:=ih λe' he=>h e' (QM he);obtain⟨qv,he2⟩:=h e Qc;refine⟨λz=>if lab z=lab e.2 then lab e.1 else lab z,λx hx=>?_,λe' he=>?_,λx y q=>?_⟩
  ·show (if lab x=lab e.2 then lab e.1 else lab x)∈ns;split
   ·exact h1 _ qv
   exact h1 _ hx
  ·show (if lab e'.1=lab e.2 then lab e.1 else lab e'.1)=if lab e'.2=lab e.2 then lab e.1 else lab e'.2
   rcases Qi.mp he with rfl|he
   ·rw[if_pos rfl];split<;>rfl
   rw[h2 e' he]
  have q:(if lab x=lab e.2 then lab e.1 else lab x)=if lab y=lab e.2 then lab e.1 else lab y:=q
  have c:XF e.1 e.2:=.step .refl he2;split at q
  ·rename_i a;split at q
   ·rename_i b;exact h3 x y (a.trans b.symm)
   exact((h3 x e.2 a).trans (back c)).trans (h3 e.1 y q)
  split at q
  ·rename_i b;exact((h3 x e.1 q).trans c).trans (h3 e.2 y b.symm)
  exact h3 x y q
def nxt_mem{zs:List α}{x:α}(h:x∈zs):KH x∈zs:=by unfold nxt;have hp:(zs.idxOf x+1)%zs.length<zs.length:=K5 (Ub h);rw[Qx,Qb hp];exact Qn hp
def nxt_inj{zs:List α}(nd:zs.Nodup){x y:α}(hx:x∈zs)(hy:y∈zs)(e:KH x=KH y):x=y:=by
 unfold nxt at e;have hl:=Ub hx;have h1:=List.idxOf_lt_length_of_mem hx;have h2:=List.idxOf_lt_length_of_mem hy;rw[Qx,Qb (K5 hl),Qx,Qb (K5 hl)]at e;have e2:=(Wu nd).mp e;have wrap:∀i,i<zs.length→Gr%zs.length=if i+1=zs.length then 0 else i+1:=λi hi=>by
  split
  ·rename_i q;rw[q,Nat.mod_self]
  exact Nat.mod_eq_of_lt Fs
 rw[wrap _ h1,wrap _ h2]at e2;have e3:zs.idxOf x=zs.idxOf y:=by split at e2<;>split at e2<;>lia
 have:=Js h1;rw[←this,←Js h2];congr 1
structure Sy(ns:List α)(r:α→List α):Prop where
 nd:ns.Nodup
 ro:∀x,x∉ns→r x=[]
 rn:∀x,(r x).Nodup
 ir:∀x,x∉r x
 sy:∀x y,y∈r x→x∈r y
def Cert.s(C:W1 lab):Sy ns r:=⟨C.nd,C.ro,C.rn,C.ir,C.sy⟩
def Sy.cert(S:Sy ns r):∃cs lab,W1 lab:=by
 have mS:∀s:α×α,s∈(ns.flatMap λp=>(r p).map λq=>(q,p))↔s.1∈r s.2:=λs=>by
  rw[Bb];constructor
  ·rintro⟨p,_,h⟩;obtain⟨q,hq,rfl⟩:=Ql.mp h;exact hq
  intro h;exact⟨s.2,Yp (λz=>by rw[S.ro _ z]at h;cases h),LL ⟨s.1,h,rfl⟩⟩
 have nS:(ns.flatMap λp=>(r p).map λq=>(q,p)).Nodup:=by
  rw[List.flatMap,Xi,List.pairwise_flatten];refine⟨λl hl=>?_,?_⟩
  ·obtain⟨p,_,rfl⟩:=Ql.mp hl;exact XW (λa b h e=>h (congrArg Prod.fst e)) (Xi.mp (S.rn p))
  refine XW (λa b h u hu v hv e=>?_) (Xi.mp S.nd);obtain⟨_,_,rfl⟩:=Ql.mp hu;obtain⟨_,_,rfl⟩:=Ql.mp hv;exact h (congrArg Prod.snd e)
 obtain⟨cs,hp,hc⟩:=cycles (f:=st r) _ _ Gg nS (λs hs=>(mS _).mpr (S.sy _ _ (nxt_mem ((mS s).mp hs)))) λs hs u hu e=>by have e1:s.2=u.2:=congrArg Prod.fst e;have e2:nxt (r s.2) s.1=nxt (r u.2) u.1:=congrArg Prod.snd e;have h1:=(mS s).mp hs;have h2:=(mS u).mp hu;rw[←e1]at e2 h2;exact Prod.ext (nxt_inj (S.rn _) h1 h2 e2) e1
 obtain⟨lab,l1,l2,l3⟩:=labels (ns:=ns) S.sy ((ns.flatMap λp=>(r p).map λq=>(q,p)).map λs=>(s.2,s.1)) λe he=>by obtain⟨s,hs,rfl⟩:=Ql.mp he;have h:=(mS s).mp hs;exact⟨Yp (λz=>by rw[S.ro _ z]at h;cases h),h⟩
 refine⟨cs,lab,S.nd,S.ro,S.rn,S.ir,S.sy,hp.nodup_iff.mpr nS,λs=>hp.mem_iff.trans (mS s),hc,l1,λx y h=>?_,λx _ y _ e=>l3 x y e⟩;exact(l2 (x,y) (LL ⟨(y,x),(mS (y,x)).mpr h,rfl⟩)).symm
def Good(rs:Rs α):Prop:=∃cs lab,Cert (rs.map (·.1)) Ou cs lab
def cyc_next{β:Type}{f:β→β}{c:List β}(h:Cyc f c){s:β}(hs:s∈c):f s∈c:=by
 obtain⟨A,B,rfl⟩:=Uz hs;have k:=zfm h;cases e:B++A with
 |nil=>rw[e]at k;rw[show f s=s from k];exact hs
 |cons a t=>
  rw[e]at k;rw[k.1];have:a∈B++A:=by rw[e];exact Qc
  rcases Qg.mp this with z|z
  ·exact YT Iz
  exact Y5 z
end
section
variable{α:Type}[DecidableEq α] {ns:List α}{r r':α→List α}{cs:List (List (α×α))}{lab:α→α} {rs:Rs α}
def zfr(nd:(rs.map (·.1)).Nodup){p:α×List α}(h:p∈rs):Bg p.1=p.2:=by
 unfold row;induction rs with
 |nil=>cases h
 |cons a t ih=>
  rw[Qo,Zh]at nd;rcases Qi.mp h with z|z
  ·subst z;rw[Wj Fr];rfl
  rw[Uu]
  ·exact ih nd.2 z
  intro q;exact nd.1 (by rw[of_decide_eq_true q];exact Ql.mpr ⟨p,z,rfl⟩)
def zdn(h:x∉rs.map (·.1)):Bg x=[]:=by
 unfold row;rw[Yx.mpr]
 ·rfl
 intro p hp q;exact h (of_decide_eq_true q▸Ql.mpr ⟨p,hp,rfl⟩)
def zdh(nd:(rs.map (·.1)).Nodup){s:α×α}:K3 s↔s.1∈Bg s.2:=by
 constructor
 ·rintro⟨p,hp,e,h⟩;rw[←e,zfr nd hp];exact h
 intro h;by_cases hx:s.2∈rs.map (·.1)
 ·obtain⟨p,hp,e⟩:=Ql.mp hx;have e':p.1=s.2:=e;rw[←e',zfr nd hp]at h;exact⟨p,hp,e',h⟩
 rw[zdn hx]at h;cases h
def zct(x:α)(rr:List α):(zb9 rs x rr).map (·.1)=rs.map (·.1):=by unfold zb9;rw[Zu];refine Jo λp _=>?_;show(if p.1=x then(p.1,rr) else p).1=p.1;split<;>rfl
def zbr{x:α}{rr:List α}(h:x∈rs.map (·.1)):DV x=rr:=by
 unfold row zb9;induction rs with
 |nil=>cases h
 |cons a t ih=>
  rw[Qo];by_cases hx:a.1=x
  ·rw[if_pos hx,Wj (Fv hx)];rfl
  rw[Rb hx,Uu (Fv hx)];refine ih ?_;rw[Qo]at h;rcases Qi.mp h with z|z
  ·exact absurd z.symm hx
  exact z
def zb5{x y:α}{rr:List α}(h:y≠x):DV y=Bg y:=by
 unfold row zb9;induction rs with
 |nil=>rfl
 |cons a t ih=>
  rw[Qo];by_cases hy:a.1=y
  ·have hx:a.1≠x:=λe=>h (hy ▸ e);rw[if_neg hx,Wj P0,Wj P0]
  have h1:(if a.1=x then (a.1,rr) else a).1=a.1:=by split <;> rfl
  rw[Uu (by rw[h1];simpa using hy),Uu P0];exact ih
def row_snoc{x:α}(h:x∉rs.map (·.1)):row (rs++[(x,[])])=row rs:=by
 funext y;unfold row;rw[Xp];cases e:rs.find? λp=>decide (p.1=y) with
 |some p=>rfl
 |none=>
  rw[Option.none_or];by_cases hy:x=y
  ·rw[Wj P0];rfl
  rw[Uu P0];rfl
def Sy.good(S:Sy (rs.map (·.1)) Ou):Good rs:=S.cert
def Sy.put{ns:List α}{r r':α→List α}(S:Sy ns r){a b:α}(ha:a∈ns)(hb:b∈ns)(ne:a≠b)(h1:∀ w,w∈r' a↔w=b∨w∈r a)(n1:(r' a).Nodup)(h2:∀ w,w∈r' b↔w=a∨w∈r b)(n2:(r' b).Nodup)(h3:∀ y,y≠a→y≠b→r' y=r y):Sy ns r':=by
 have hm:∀x y,y∈r' x↔y∈r x∨(x=a∧y=b)∨(x=b∧y=a):=λx y=>by
  by_cases xa:x=a
  ·subst xa;rw[h1];exact⟨λh=>h.elim (λq=>.inr (.inl ⟨rfl,q⟩)) .inl,λh=>h.elim .inr λq=>q.elim (λq=>.inl q.2) λq=>absurd q.1 ne⟩
  by_cases xb:x=b
  ·subst xb;rw[h2];exact⟨λh=>h.elim (λq=>.inr (.inr ⟨rfl,q⟩)) .inl,λh=>h.elim .inr λq=>q.elim (λq=>absurd q.1 xa) λq=>.inl q.2⟩
  rw[h3 x xa xb];exact⟨.inl,λh=>h.elim id λq=>q.elim (λq=>absurd q.1 xa) λq=>absurd q.1 xb⟩
 refine⟨S.nd,λx hx=>?_,λx=>?_,λx h=>?_,λx y h=>?_⟩
 ·rw[h3 x (λe=>hx (e▸ha)) λe=>hx (e▸hb)];exact S.ro x hx
 ·by_cases xa:x=a
  ·rw[xa];exact n1
  by_cases xb:x=b
  ·rw[xb];exact n2
  rw[h3 x xa xb];exact S.rn x
 ·rcases (hm x x).mp h with q|q|q
  ·exact S.ir x q
  ·exact ne (q.1.symm.trans q.2)
  exact ne (q.2.symm.trans q.1)
 refine (hm y x).mpr ?_;rcases(hm x y).mp h with q|q|q
 ·exact .inl (S.sy x y q)
 ·exact .inr (Ru ⟨q.2,q.1⟩)
 exact .inr (Gm ⟨q.2,q.1⟩)
def Good.s(h:Good rs):Sy (rs.map (·.1)) Ou:=let⟨_,_,C⟩:=h;C.s
def Good.new{x:α}(h:Good rs)(hx:x∉rs.map (·.1)):Sy (rs.map (·.1)++[x]) Ou:=by have S:=h.s;refine⟨?_,λy hy=>S.ro y λz=>hy (Y5 z),S.rn,S.ir,S.sy⟩;rw[Zn];exact⟨S.nd,Zh.mpr ⟨Fr,Zy⟩,λa ha b hb e=>hx (by rw[←Qd.mp hb,←e];exact ha)⟩
theorem zbv:Gen (Good (α:=α)) where
 clo:=λrs ⟨cs,lab,C⟩ s hs=>by obtain⟨c,hc,h⟩:=Yj.mp ((C.cm s).mpr ((zdh C.nd).mp hs));exact(zdh C.nd).mpr ((C.cm _).mp (IJ ⟨c,hc,cyc_next (M0 hc) h⟩))
 nd:=λrs ⟨cs,lab,C⟩=>C.nd
 sub:=λrs ⟨cs,lab,C⟩ p hp=>by have e:=zfr C.nd hp;exact⟨e▸C.rn p.1,λx hx=>C.inn' (x:=p.1) (FA e hx)⟩
 sy:=λrs ⟨cs,lab,C⟩ p hp x hx=>C.sy p.1 x (by rw[zfr C.nd hp];exact hx)
 nil:=Sy.good ⟨Zy,FV,λ_=>Zy,λx h=>absurd h (by simp[row]),λx y h=>absurd h (by simp[row])⟩
 new:=λrs x h hx=>by refine Sy.good ?_;rw[row_snoc hx,Qr];exact h.new hx
 leaf:=λrs x p c h hx hp hc hc0=>by
  have S:=h.s;have iy:p.1∈rs.map (·.1):=Ql.mpr ⟨p,hp,rfl⟩;have ss:p.1≠x:=λe=>hx (e▸iy);have e0:(zb9 (zb9 (rs++[(x,[])]) p.1 (DR c x)) x [p.1]).map (·.1)=rs.map (·.1)++[x]:=by rw[zct,zct,Qr];rfl
  have mY:x∈(zb9 (rs++[(x,[])]) p.1 (DR c x)).map (·.1):=by rw[zct,Qr];exact YT Qc
  have nK:p.1∈(rs++[(x,([]:List α))]).map (·.1):=by rw[Qr];exact Y5 iy
  have er:=zfr S.nd hp;have rx:Bg x=[]:=S.ro x hx;have nx:x∉p.2:=λz=>by have:=S.sy p.1 x (FA er z);rw[rx]at this;cases this
  have eM:p.2.Nodup:=er▸S.rn p.1;refine Sy.good ?_;rw[e0];refine(h.new hx).put (a:=p.1) (b:=x) (Y5 iy) (YT Qc) ss (λw=>?_) ?_ (λw=>?_) ?_ λy h1 h2=>?_
  ·rw[zb5 ss,zbr nK,er];cases c with
   |none=>exact Qi
   |some y=>exact mem_ins (hc y rfl) eM
  ·rw[zb5 ss,zbr nK];cases c with
   |none=>exact Zh.mpr ⟨nx,eM⟩
   |some y=>exact nd_ins (hc y rfl) eM nx
  ·rw[zbr mY,rx,Qd];exact⟨.inl,λq=>q.elim id λq=>by cases q⟩
  ·rw[zbr mY];exact Zh.mpr ⟨Fr,Zy⟩
  rw[zb5 h2,zb5 h1,row_snoc hx]
 tie:=λrs c p n h hp hc h1 h2=>by
  obtain⟨cs,lab,C⟩:=h;have er:=zfr C.nd hp;have de:∀n,(YZ (c,p.1) n).1∈Bg (YZ (c,p.1) n).2:=λn=>by
   induction n with
   |zero=>show c∈Bg p.1;rw[er];exact hc
   |succ n ih=>exact K6 (nxt_mem ih)
  have qa:=de n;generalize YZ (c,p.1) n=q at h1 h2 qa;have iy:p.1∈rs.map (·.1):=Ql.mpr ⟨p,hp,rfl⟩;have jL:q.2∈rs.map (·.1):=C.inn qa;have eM:p.2.Nodup:=er▸C.rn p.1;have nq:p.1∉Bg q.2:=λz=>h2 (by rw[←er];exact K6 z);refine Sy.good ?_;rw[zct,zct];refine C.s.put (a:=p.1) (b:=q.2) iy jL (Zd h1) (λw=>?_) ?_ (λw=>?_) ?_ λy h3 h4=>?_
  ·rw[zb5 (Zd h1),zbr iy,er];exact mem_ins hc eM
  ·rw[zb5 (Zd h1),zbr iy];exact nd_ins hc eM h2
  ·rw[zbr (FA zct jL)];exact mem_ins qa (C.rn _)
  ·rw[zbr (FA zct jL)];exact nd_ins qa (C.rn _) nq
  rw[zb5 h4,zb5 h3]
end
section
variable{α:Type}[DecidableEq α]{ns gP:List α}{r r':α→List α}{cs:List (List (α×α))}{lab:α→α}
def zf3(zs:List α)(k:Nat):(zs.drop k++zs.take k).Perm zs:=by refine Ja.trans ?_;rw[Zq]
def zg8(C:W1 lab)(hn:gP.Perm ns)(hr:∀x,∃k,r' x=(r x).drop k++(r x).take k):Cert gP r' cs lab:=by
 have hp:∀x,(r' x).Perm (r x):=λx=>by obtain⟨k,e⟩:=hr x;rw[e];exact zf3 _ k
 have hm:∀{x y},y∈r' x↔y∈r x:=λ{x y}=>(hp x).mem_iff;have ax:∀s:α×α,s.1∈r s.2→st r' s=st r s:=λs hs=>by obtain⟨k,e⟩:=hr s.2;unfold st;rw[e,nxt_rot (C.rn _) k hs]
 refine⟨hn.nodup_iff.mpr C.nd,λx hx=>?_,λx=>(hp x).nodup_iff.mpr (C.rn x),λx h=>C.ir x (hm.mp h),λx y h=>hm.mpr (C.sy x y (hm.mp h)),C.cf,λs=>(C.cm s).trans hm.symm,λc hc=>?_,λx hx=>hn.mem_iff.mpr (C.ln x (hn.mem_iff.mp hx)),λx y h=>C.la x y (hm.mp h),λx hx y hy e=>?_⟩
 ·have:=hp x;rw[C.ro x (λz=>hx (hn.mem_iff.mpr z))]at this;exact List.Perm.eq_nil this
 ·exact cyc_congr (λy hy=>ax y (C.inc hc hy)) (M0 hc)
 exact(C.co x (hn.mem_iff.mp hx) y (hn.mem_iff.mp hy) e).mono λ_ _ h=>hm.mpr h
end
end Wb
namespace K21
open PySem L2 Wb
abbrev sSteps:Stmt:=top 9
structure BAt(H:Hp)(b:Nc)(bs:List ((Str×Str)×Addr))(r:Nt):Prop where
 dc:H b=some (.dT (bs.map λe=>(P1,IM)))
 tp:∀e∈bs,H e.2=some (.tup [.str (st r e.1).1,.str (st r e.1).2])
 nd:(bs.map (·.1)).Nodup
def BAt.keep{H H':Hp}{b:Nc}{bs:List ((Str×Str)×Addr)}{r:Nt}{xs:Nl}(h:BAt H b bs r)(k:WY H')(hb:b∉xs)(ht:∀e∈bs,e.2∉xs):BAt H' b bs r:=
 ⟨k _ _ h.dc hb,λe he=>k _ _ (h.tp e he) (ht e he),h.nd⟩
def kP_inj{s u:Str×Str}(h:kP s=kP u):s=u:=by unfold kP at h;injection h with h1 h2;injection h2 with h2 _;exact Prod.ext (Kk h1) (Kk h2)
def valT_out{bs:List ((Str×Str)×Addr)}{s:Str×Str}(h:s∉bs.map (·.1)):valV (bs.map λe=>(P1,IM)) AI=none:=by
 induction bs with
 |nil=>rfl
 |cons a t ih=>
  rw[Qo,Qi,not_or]at h;rw[Qo,zb7]
  ·exact ih h.2
  intro q;exact h.1 (kP_inj q).symm
def valT_in{bs:List ((Str×Str)×Addr)}(nd:(bs.map (·.1)).Nodup){e:(Str×Str)×Addr}(h:e∈bs):valV (bs.map λe=>(P1,IM)) P1=some (.ref e.2):=by
 induction bs with
 |nil=>cases h
 |cons a t ih=>
  rw[Qo,Zh]at nd;rw[Qo];rcases Qi.mp h with z|z
  ·subst z;exact zdb rfl
  rw[zb7]
  ·exact ih nd.2 z
  intro q;exact nd.1 (by rw[kP_inj q];exact Ql.mpr ⟨e,z,rfl⟩)
inductive IspSteps(vs:List V)(H:Hp)(Q:VK):Prop
 |mk (d:Nc) (es:List Ent) (h0:vs=[.ref d]) (h1:TAt H d es) (h2:es.length≤60) (h3:(∀e∈es,e.2.1.Nodup∧e.2.1.length≤100)) (h4:∀(b:Nc) (bs:List ((Str×Str)×Addr)) (H':Hp),BAt H' b bs (row (rsOf es))→(∀s,s∈bs.map (·.1)↔s.1∈row (rsOf es) s.2)→bs.length≤10000→H b=none→Keep [] H H'→Q (.ref b) H'):IspSteps vs H Q
def spSteps:Sp:=λvs H Q _=>IspSteps vs H Q
def pidx(n j:Nat):Nat:=if j=0 then n-1 else j-1
def atI_prev{zs:List V}{j:Nat}(hj:j<zs.length):atI zs ((j:Int)-1)=zs[XG j]?:=by
 unfold pidx;by_cases h:j=0
 ·subst h;rw[if_pos rfl];unfold atI ixN;have e1:¬(0:Int)≤((0:Nat):Int)-1:=by lia
  have e2:-(zs.length:Int)≤((0:Nat):Int)-1:=by lia
  rw[if_neg e1,if_pos e2];show zs[(((0:Nat):Int)-1+(zs.length:Int)).toNat]?=_;congr 1;lia
 rw[Rb h];have e:(j:Int)-1=((j-1:Nat):Int):=by lia
 rw[e,zav (Qb Fs),Qb Fs]
def idx_at{zs:Nh}(nd:zs.Nodup){i:Nat}(hi:i<zs.length):zs.idxOf zs[i]=i:=by have h1:zs.idxOf zs[i]<zs.length:=idx_lt C7;have h2:zs[zs.idxOf zs[i]]=zs[i]:=Js h1;exact(Wu nd).mp h2
def nxt_idx{zs:Nh}(nd:zs.Nodup){j:Nat}(hj:j<zs.length)(hp:XG j<zs.length):KH zs[XG j]=zs[j]:=by
 unfold nxt;rw[Fk hp];have e:(XG j+1)%zs.length=j:=by
  unfold pidx;by_cases h:j=0
  ·rw[HK h,h];have:zs.length-1+1=zs.length:=by lia
   rw[this,Nat.mod_self]
  rw[Rb h];have:j-1+1=j:=by lia
  rw[this,Nat.mod_eq_of_lt hj]
 rw[e,Qx,Qb hj];rfl
section
variable{P:Nk}{w:Nn}{K:Na}{mg:Ng}{base:No}
def zfc:zar ["rounds", "behind", "place", "around", "at", "to"] ["rounds"] (zaj sSteps):=fsk
def ok_steps{f:Nc}{fd:Nw}(F:Z1 "steps_behind" "steps_behind" sSteps f fd)(oG:mg "enumerate" = none):ZB 1 f fd ["rounds"] spSteps:=by
 refine F.okL zfc Fx;obtain⟨d,es,rfl,T,ba,hok,k⟩:=h;have hu:=zcm hr;have aJ  :=sizeLine_eq;refine⟨_,zae (X1 zfc.nd pe_dnewT)
  (zae (ps_thaw (QH (pi_dict Hx) (za6 2 zfc.nd)
   (zae (JI zfc.nd (Y9 RM))
   (zag (QH (pi_enum rfl oG Tt) (XM (zat (N0 zfc.nd) (LA (DW zfc.nd))))
    (zag (zil hu RK (zbd (zaa (zbb ze3 HF (V6 SY zah) FV) Rg)) (zbd (ZY SV)) rfl)))))))
  (zag (AE RK))),?_⟩
 refine λb hb=>?_;have nfz:∀o' u',H d≠some E3:=λo' u' z=>by rw[T.dc]at z;cases z
 have nbd:d≠b:=V7 hb;have k1:Keep [] H (ZU b (.dT [])):=Keep.new hb;have hZ:BAt (ZU b (.dT [])) b [] Hv:=⟨zab,λe he=>(by cases he),Zy⟩;have T1:TAt (ZU b (.dT [])) d es:=MH Fr (λ_ _=>by simp);generalize ZU b (.dT [])=H1 at k1 hZ T1;have hbm:∀{H':Hp} {bs:List ((Str×Str)×Addr)},BAt H' b bs Hv→b≠d:=λ_=>Zd nbd;refine⟨_,rfl,d,_,rfl,T1.dc,λo=>for_dict (λi σ H'=>Aj4 (Ex4 λx2 x3 x4 x5=>σ=[LO,Fy b,x2,x3,x4,x5]) (H' d=some (T7 HX)) (Keep [d,b] H1 H') (Ex1 λbs=>KL (bs.length≤100*i) (∀s,s∈bs.map (·.1)↔s.2∈(Lv i).map (·.1)∧s.1∈ZO s.2)))
  ⟨⟨_,_,_,_,rfl⟩,zab,Ho,[],hZ.keep (xs:=[d]) Ho (Hb nbd) (λe he=>by cases he),Sv,λs=>⟨λh=>(by cases h),λh=>(by cases h.1)⟩⟩
  (λi σ H' _ hh=>hh.2) ?_ ?_⟩
 ·rintro i pr σ H2 su ⟨⟨x2,x3,x4,x5,rfl⟩,hz,k2,bs,eG,eF,fk⟩;have hi:i<es.length:=by have:=(LP su).1;rwa[Qa]at this
  have g1:pr=((Sum.inr es[i].1:Key),V.ref es[i].2.2):=by rw[Qt,Qb hi]at su;exact(Qq su).symm
  subst g1;have c8:es[i]∈es:=Qn hi;obtain⟨aR,kh⟩:=hok _ c8;have eU:ZO es[i].1=es[i].2.1:=zbw T.nd c8;have fS:=T1.ro _ c8;have nrd:es[i].2.2≠d:=zbg fS T1.dc FG;have nrb:es[i].2.2≠b:=zbg fS hZ.dc FG;have jJ:=k2 _ _ fS (by simp[nrd,nrb]);refine⟨A5,A5,d,.ref es[i].2.2,rfl,Gm ⟨_,Sum.inr es[i].1,Ru ⟨o,hz⟩,rfl,(zf8 T.nd c8).symm⟩,?_⟩;have cF:es[i].1∉(Lv i).map (·.1):=by
   have h1:(RX (·.1)).take Gr=(RX (·.1)).take i++[es[i].1]:=by rw[Qj (AY hi),Zm]
   have h2:((RX (·.1)).take Gr).Nodup:=Ju Og T.nd;rw[h1,Zn,←Jl]at h2;exact λz=>h2.2.2 _ z _ Ss rfl
  refine⟨_,rfl,es[i].2.2,rfl,⟨_,HV jJ⟩,for_enum (xs:=es[i].2.1.map V.str) (λj σ H'=>Aj4 (Ex2 λx4 x5=>σ=[LO,Fy b,He (.str es[i].1),He (.ref es[i].2.2),x4,x5]) (H' d=some (T7 HX)) (Keep [d,b] H1 H') (Ex1 λbs=>KL (bs.length≤100*i+j) (∀s,s∈bs.map (·.1)↔(s.2∈(Lv i).map (·.1)∧s.1∈ZO s.2)∨∃(m:Nat) (hm:m<j) (hp:pidx es[i].2.1.length m<es[i].2.1.length),s=(es[i].2.1[GY m],es[i].1))))
   ⟨⟨_,_,rfl⟩,hz,k2,bs,eG,eF,λs=>(fk s).trans ⟨.inl,λh=>by
    rcases h with z|⟨m,hm,_⟩
    ·exact z
    exact absurd hm (Nat.not_lt_zero m)⟩⟩ (λj σ H' _ hh=>hh.3 _ _ fS (by simp[nrd,nrb])) ?_ ?_⟩
  ·rintro j y t σ H3 hy ⟨⟨y4,y5,rfl⟩,rJ,k3,lU,cu,oS,gl⟩ ht;have hj:j<es[i].2.1.length:=by have:=(LP hy).1;rwa[Qa]at this
   have iN:y=.str es[i].2.1[j]:=by rw[Qt,Qb hj]at hy;exact(Qq hy).symm
   subst iN;have sv:pidx es[i].2.1.length j<es[i].2.1.length:=by unfold pidx;split<;>lia
   have sj:=k3 _ _ fS (by simp[nrd,nrb]);have k4:Keep [] H3 (WK t (.tup [Rq j,.str es[i].2.1[j]])):=Keep.new ht;refine⟨t,A5,HV zab,rfl,_,A5,_,A5,rfl,?_⟩;generalize WK t (.tup [Rq j,.str es[i].2.1[j]])=H4 at k4;refine⟨A5,A5,Sq,λv hv=>?_⟩;generalize ic:QJ v _=H5;obtain⟨k5,hv5⟩:=nwk hv ic;have lB:Keep [] H3 H5:=k4.trans k5;have si:=lB _ _ sj Fr;have cX:atI (es[i].2.1.map V.str) ((j:Int)-1)=some (.str es[i].2.1[AW]):=by rw[atI_prev (AY hj),Qa,Qt,Qb sv];rfl
   refine⟨A5,A5,A5,_,A5,rfl,es[i].2.2,_,_,A5,rfl,HV si,cX,A5,Sq,λq hq=>?_⟩;have k6:Keep [] H5 (QF q (.tup [.str es[i].2.1[AW],.str es[i].1])):=Keep.new hq;have nH:(QF q (.tup [.str es[i].2.1[AW],.str es[i].1])) q=some (CF ((kP (es[i].2.1[AW],es[i].1)).map kV)):=zab;generalize QF q (.tup [.str es[i].2.1[AW],.str es[i].1])=H6 at k6 nH;have rE:Keep [] H3 H6:=lB.trans k6;have qz:BAt H6 b lU Hv:=cu.keep rE Fr (λ_ _=>by simp);have hv6:=k6 _ _ hv5 Fr;have hz6:=rE _ _ rJ Fr;refine⟨b,A5,DPut.t qz.dc nH Rx,?_⟩;have gz:(es[i].2.1[AW],es[i].1)∉lU.map (·.1):=λz=>by
    rcases(gl _).mp z with⟨z1,_⟩|⟨m,hm,hpm,e⟩
    ·exact cF z1
    have e1:=(Prod.mk.inj e).1;have e2:=(Wu aR).mp e1;unfold pidx at e2;by_cases kE:j=0
    ·lia
    rw[Rb kE]at e2;by_cases gj:m=0
    ·rw[if_pos gj]at e2;lia
    rw[if_neg gj]at e2;lia
   have jN:putK (lU.map λe=>(P1,IM)) (kP (es[i].2.1[AW],es[i].1)) (Fu v)=(lU++[((es[i].2.1[AW],es[i].1),v)]).map λe=>(P1,IM):=by rw[zf4 _ (valT_out gz),Qr];rfl
   have ax:Bi (es[i].2.1[AW],es[i].1)=(es[i].1,es[i].2.1[j]):=by show(es[i].1,nxt (ZO es[i].1) es[i].2.1[AW])=_;rw[eU,nxt_idx aR hj sv]
   refine⟨⟨_,A5⟩,FQ nbd hz6,(RQ (rE.sub Fr)).trans Ho,_,⟨by rw[zab,jN],λe he=>?_,?_⟩,?_,λs=>?_⟩
   ·rcases Qg.mp he with z|z
    ·have:=qz.tp e z;rw[zaf (zbg this qz.dc FG)];exact this
    rw[Qd.mp z,ax,zaf (zbg hv6 qz.dc FG)];exact hv6
   ·rw[Qr,Zn];refine⟨cu.nd,Zh.mpr ⟨Fr,Zy⟩,λx hx y hy e=>?_⟩;have gQ:y=(es[i].2.1[AW],es[i].1):=by simpa using hy
    exact gz (by rw[←gQ,←e];exact hx)
   ·rw[Qk];show _+1≤_;exact zar4 ‹_›
   rw[Qr,Qg,gl];constructor
   ·rintro ((z|⟨m,hm,hp,e⟩)|z)
    ·exact .inl z
    ·exact .inr ⟨m,by exact zh5 ‹_›,hp,e⟩
    exact .inr ⟨j,by exact Qh _,sv,Fv z⟩
   rintro (z|⟨m,hm,hp,e⟩)
   ·exact .inl PD
   by_cases hmj:m < j
   ·exact .inl (Ru ⟨m,hmj,hp,e⟩)
   have:m=j:=by lia
   subst this;exact .inr (FA e Qc)
  rintro σ H3 ⟨⟨y4,y5,rfl⟩,rJ,k3,lU,cu,oS,gl⟩;rw[Qa]at gl oS;refine⟨⟨_,_,_,A5⟩,rJ,k3,lU,cu,Fs,λs=>(gl s).trans ?_⟩;have bf:(Lv Gr).map (·.1)=(Lv i).map (·.1)++[es[i].1]:=by rw[Qj hi,Qr];rfl
  rw[bf,Qg,Qd];constructor
  ·rintro (⟨z1,z2⟩|⟨m,hm,hp,e⟩)
   ·exact⟨Gm z1,z2⟩
   rw[e];exact⟨Ru rfl,by rw[eU];exact Qn hp⟩
  rintro⟨z1|z1,z2⟩
  ·exact .inl ⟨z1,z2⟩
  refine .inr ?_;rw[z1,eU]at z2;obtain⟨q,hq,e⟩:=Zg z2;by_cases cJ:q+1<es[i].2.1.length
  ·have sD:pidx es[i].2.1.length (q+1) < es[i].2.1.length:=by unfold pidx;rw[Rb Fs];assumption
   refine⟨q+1,cJ,sD,Prod.ext ?_ z1⟩;show s.1=es[i].2.1[GY (q+1)];rw[←e];congr 1
  have sD:pidx es[i].2.1.length 0 < es[i].2.1.length:=by unfold pidx;rw[HK rfl];lia
  refine⟨0,Fs,sD,Prod.ext ?_ z1⟩;show s.1=es[i].2.1[GY 0];rw[←e];congr 1;unfold pidx;rw[if_pos rfl];lia
 rintro σ H2 ⟨⟨x2,x3,x4,x5,rfl⟩,hz,k2,bs,eG,eF,fk⟩;rw[Qa]at fk eF;rw[Qm Gg]at fk;refine⟨d,o,_,hz,nfz,?_⟩;have kf:Keep [] H (WD d HX):=λc u ec _=>by
  have nc:c≠b:=XH hb;by_cases aS:c=d
  ·subst aS;rw[zab,←T.dc];exact ec
  rw[zaf aS];exact k2 c u Ov (by simp[aS,nc])
 refine⟨A5,k b bs _ (eG.keep (xs:=[d]) Ho (Hb nbd) (λe he=>by simpa using zbg (eG.tp e he) hz FG)) (λs=>?_) Fs hb kf⟩;rw[fk];constructor
 ·exact λh=>h.2
 intro h;refine⟨?_,h⟩;obtain⟨p,hp,e,_⟩:=(zdh (rs:=rsOf es) (by unfold rsOf;rw[List.map_map];exact T.nd)).mpr h;obtain⟨en,be,rfl⟩:=Ql.mp hp;exact Ql.mpr ⟨en,be,e⟩
end
end K21
namespace Tm
open PySem PyProof.Rows PySem.W MeetsSeq MeetsSeq2 MeetsSeq3 SeqRoads2
open AutoSeq1 (wpAny_loadPart')
def lexB(O:KeyOrd):List O.α→List O.α→Bool
 |[],[]=>false
 |[],_::_=>true
 |_::_,[]=>false
 |x::xs,y::ys=>M3 y||(!DX x&&lexB O xs ys)
def ze0{O:KeyOrd}{x y:O.α}{xs ys:List O.α}:lexB O (x::xs) (y::ys)=(M3 y||(!DX x&&lexB O xs ys)):=rfl
def listO(O:KeyOrd):KeyOrd where
 α:=List O.α
 blt:=lexB O
 irrefl a:=by
  induction a with
  |nil=>rfl
  |cons x t ih=>show(M3 x||(!M3 x&&lexB O t t))=false;rw[O.irrefl,ih];rfl
 trans a b c h1 h2:=by
  induction a generalizing b c with
  | nil=>
   cases c with
   |cons z u=>rfl
   |nil=>cases b with
    |nil=>exact h1
    |cons y v=>cases h2
  | cons x t ih=>
   cases b with
   |nil=>cases h1
   | cons y v=>
    cases c with
    |nil=>cases h2
    | cons z u=>
     rw[ze0,Je,Yn,Ym]at *;rcases h1 with h1|⟨n1,h1⟩
     ·rcases h2 with h2|⟨n2,h2⟩
      ·exact .inl (Fh h2)
      exact .inl (VA n2)
     rcases h2 with h2|⟨n2,h2⟩
     ·exact .inl (Ky n1 h2)
     exact .inr ⟨Wf n1 n2,ih _ _ h1 h2⟩
 negTrans a b c h:=by
  induction a generalizing b c with
  |nil=>
   cases b with
   |nil=>exact .inr h
   |cons y v=>exact .inl rfl
  | cons x t ih=>
   cases c with
   |nil=>cases h
   | cons z u=>
    cases b with
    |nil=>exact .inr rfl
    | cons y v=>
     rw[ze0,Je,Yn,Ym]at *;rw[ze0,Je,Yn,Ym];rcases h with h|⟨n,h⟩
     ·rcases O.negTrans _ y _ h with q|q
      ·exact .inl Oh
      exact .inr Oh
     cases e1:M3 y with
     |true=>exact .inl Hr
     | false=>
      cases e2:DX z with
      |true=>exact .inr Hr
      |false=>
       have n1:DX x=false:=Wf (O:=O) (a:=x) (b:=z) (c:=y) n e2;have n2:O.blt z y=false:=Wf (O:=O) (a:=y) (b:=x) (c:=z) e1 n;rcases ih v u h with q|q
       ·exact .inl (Ru ⟨n1,q⟩)
       exact .inr (Ru ⟨n2,q⟩)
 total a b h1 h2:=by
  induction a generalizing b with
  |nil=>cases b with
   |nil=>rfl
   |cons y v=>cases h1
  |cons x t ih=>cases b with
   |nil=>cases h2
   |cons y v=>rw[ze0,Bool.or_eq_false_iff,Bool.and_eq_false_iff,Jv]at h1 h2;have e1:=NO h1.1 h2.1;subst e1;have i:=O.irrefl x;rw[i]at h1 h2;rw[ih v (h1.2.elim (λz=>by cases z) id) (h2.2.elim (λz=>by cases z) id)]
abbrev kyL(zs:Se (Str×Tok)):List Hu:=zs.map λp=>p.1.cps.toList
def lt_loopT(l b:Nc)(xs ys:Se (Str×Tok))(n n2:Nat)(k:Nat) :
  ∀ i:Nat,min xs.length ys.length - i=k→i≤min xs.length ys.length→Meets (Builtin.«list.__eq__.loop» ⟨[Sh,ER,L8 i,L8 0],[]⟩)
   (λA R s=>s.heap.get? l=some { cls:=.type "list",data:=.seq (SN xs).toArray n }∧s.heap.get? b=some { cls:=.type "list",data:=.seq (SN ys).toArray n2 } ∧
    R (Ee (.bool (BF (kyL (xs.drop i)) (kyL (ys.drop i))))) s):=by
 have get:∀(zs:Se (Str×Tok)) (i:Nat),(SN zs).toArray[((i:Nat):Int).toNat]?=zs[i]?.map λp=>MA p.2:=λzs i=>by simp[strValues]
 have sz:∀zs:List (Str×Tok),(SN zs).toArray.size=zs.length:=λzs=>by simp[strValues]
 induction k with
 | zero=>
  intro i hk fh prog w A R s h;obtain⟨hp,g,d,tk,os⟩:=s;obtain⟨hl,hb,h⟩:=h;wp_walk using wpAny_loadPart' hl,wpAny_loadPart' hb;rw[get,get];by_cases hx:i<xs.length
  ·have hy:ys[i]?=none:=by simp;lia
   rw[hy,Qb hx];dsimp only[Option.map_some,Option.map_none];wp_walk using wpAny_loadPart' hl,wpAny_loadPart' hb;rw[Zz hx,Jt (l:=ys) Fs]at h;show R (Ee (.bool (decide ((SN xs).toArray.size<(SN ys).toArray.size)))) _;rw[sz,sz,decide_eq_false Fs];exact h
  have bv:xs[i]?=none:=by simp;lia
  rw[bv];dsimp only[Option.map_some,Option.map_none];wp_walk using wpAny_loadPart' hl,wpAny_loadPart' hb;rw[Jt (l:=xs) Fs]at h;show R (Ee (.bool (decide ((SN xs).toArray.size<(SN ys).toArray.size)))) _;rw[sz,sz];by_cases hy:i<ys.length
  ·rw[Zz hy]at h;rw[decide_eq_true Fs];exact h
  rw[Jt Fs]at h;rw[decide_eq_false Fs];exact h
 | succ k ih=>
  intro i hk fh prog w A R s h;obtain⟨hp,g,d,tk,os⟩:=s;obtain⟨hl,hb,h⟩:=h;wp_walk using wpAny_loadPart' hl,wpAny_loadPart' hb;have hx:i<xs.length:=by lia
  have hy:i<ys.length:=by lia
  rw[get,get,Qb hx,Qb hy];dsimp only[Option.map_some];have hc:((i:Int)+1)=((i+1:Nat):Int):=by push_cast;rfl
  have ex:xs.drop i=xs[i]::xs.drop Gr:=Zz hx;have ey:ys.drop i=ys[i]::ys.drop Gr:=Zz hy;rw[ex,ey]at h;refine wpAny_bind (wpAny_eqBool_str ?_);by_cases he:xs[i].1=ys[i].1
  ·rw[Gh he];wp_walk;rw[hc];have e2:BF (kyL (xs[i]::xs.drop Gr)) (kyL (ys[i]::ys.drop Gr))=BF (kyL (xs.drop Gr)) (kyL (ys.drop Gr)):=by show(strO.blt _ _||(!strO.blt _ _&&BF _ _))=_;rw[show(λp:Str×Tok=>p.1.cps.toList) ys[i]=(λp:Str×Tok=>p.1.cps.toList) xs[i] from by show ys[i].1.cps.toList=xs[i].1.cps.toList;rw[he],strO.irrefl];rfl
   rw[e2]at h;exact⟨plainId_quiet plain_eq_loop _,codeAny_builtin entry_eq_loop (by rw[Fl _];exact ih Gr Fs Fs prog w A R _ ⟨hl,hb,h⟩)⟩
  rw[Gx he];wp_walk using wpAny_loadPart' hl,wpAny_loadPart' hb;rw[get,get,Qb hx,Qb hy];dsimp only[Option.map_some];refine wpAny_bind (show ZW _ (compareOp .Lt (Value.str xs[i].1 xs[i].2) (Value.str ys[i].1 ys[i].2)) _ _ _ from lt_str ?_);wp_walk;have e2:BF (kyL (xs[i]::xs.drop Gr)) (kyL (ys[i]::ys.drop Gr))=strO.blt xs[i].1.cps.toList ys[i].1.cps.toList:=by
   show(strO.blt _ _||(!strO.blt _ _&&BF _ _))=_;cases h1:strO.blt xs[i].1.cps.toList ys[i].1.cps.toList with
   |true=>rfl
   |false=>
    cases h2:strO.blt ys[i].1.cps.toList xs[i].1.cps.toList with
    |true=>rfl
    |false=>exact absurd (str_ext (strO.total _ _ h1 h2)) he
  rw[e2]at h;exact h
def list_ltT(l b:Nc)(xs ys:Se (Str×Tok))(n n2:Nat):Meets (Builtin.«list.__lt__» ⟨[Sh,ER],[]⟩)
   (λA R s=>s.heap.get? l=some { cls:=.type "list",data:=.seq (SN xs).toArray n }∧s.heap.get? b=some { cls:=.type "list",data:=.seq (SN ys).toArray n2 } ∧
    R (Ee (.bool (BF (kyL xs) (kyL ys)))) s):=by
 intro prog w A R s h;obtain⟨hp,g,d,tk,os⟩:=s;obtain⟨hl,hb,h⟩:=h;have f3:=AutoSeq1.sub_list_list;wp_walk using wpAny_loadPart' hl,wpAny_loadPart' hb;exact⟨plainId_quiet plain_eq_loop _,codeAny_builtin entry_eq_loop (by rw[Fl _];exact lt_loopT l b xs ys n n2 _ 0 rfl Sv prog w A R _ ⟨hl,hb,h⟩)⟩
def kvL(h:No)(v:Value):List Hu:=(zg2 h v).map kvS
section
variable{prog:Nk}{w:Nn}{A:Np}{E:Nb}{s:Ni}
def kvL_ref{h:No}{a:Nc}{xs:List (Str×Tok)}{n:Nat}(e:h.get? a=some {cls:=.type "list",data:=.seq (SN xs).toArray n}):kvL h Ht=kyL xs:=by unfold kvL;rw[zg1 e rfl];simp only[strValues,Zu];rfl
def zgb{vs:Nj}{h:No}(hu:A.units<cLine)(k:∀b o,h.get? b=some o→s.heap.get? b=some o)(hv:∀v∈vs,∃a xs n,v=.ref a∧h.get? a=some {cls:=.type "list",data:=.seq (SN xs).toArray n}):WQ (λws=>ws.Pairwise λx y=>(listO strO).kle (kvL h x) (kvL h y)) vs:=by
 refine .ordT λh2=>⟨oneType',λQ q=>kas_kind (T:=.type "list") h2 (λv hm=>?_) Fw Fw q,λx y hx hy Q E' q=>?_⟩
 ·obtain⟨a,xs,n,rfl,e⟩:=hv v hm;exact(Looks.ld Il).andThen .now
 obtain⟨a,xs,n,rfl,e⟩:=hv x hx;obtain⟨b,ys,m,rfl,e'⟩:=hv y hy;rw[kvL_ref e,kvL_ref e']at q;rw[keyLt'_oneType,oneLt'_eq];simp only[if_true];refine wpAny_bind (wpAny_cRoomFor hu ?_);refine wpAny_bind (wpAny_callSpecialIfBound?_slot ⟨_,Il,rfl⟩ F.slot_list_lt (call_meets F.slot_list_lt ⟨_,Il,rfl⟩ F.entry_list_lt (F.args_list_lt_2 _ _) (list_ltT a b xs ys n m) ⟨Il,k _ _ e',?_⟩));exact wpAny_truthy_bool q
end
end Tm
namespace L2
open PySem PySem.Spec PyProof.Rows Tm
def lstV(H:Hp):V→List Hu
 |.ref a=>match H a with
  |some (.lst xs)=>xs.map txV
  |_=>[]
 |_=>[]
def zit(e:H a=some Sk):lstV H Ht=xs.map txV:=by unfold lstV;dsimp only;rw[e]
section
variable{X:Cx}
def zc6(hu:X.A.units+8<cLine):YV (.builtin "sorted") (λxs H Q=>Ex2 λ(p:Nc) (ys:List V)=>Aj4 (xs=[Te]) Py (∀v∈ys,∃a zs,v=.ref a∧H a=some (FJ (Bf zs))) (∀(l:Nc) (ws:List V),H l=none→ws.Perm ys→(ws.Pairwise λa b=>(listO strO).kle (lstV H a) (lstV H b))→Q Sh (RC l ws))):=by
 intro a7 s σ H xs us Q I r h;obtain⟨p,ys,rfl,hq,hy,q⟩:=h;obtain⟨u,rfl,rx⟩:=vals1 r;cases rx;refine zd7 I hq (λa8 r A' E' s' hA k=>zgb (by exact Yo ‹_› ‹_›) k λv hv=>?_) λl ws a8 us hl p1 r1 r2 p2=>q l ws hl p1 ?_
 ·obtain⟨b,hb,ru⟩:=zf7 r v hv;obtain⟨a,zs,rfl,e2⟩:=hy b hb;cases ru;obtain⟨_,ak,n,r2,e3⟩:=YF e2;obtain⟨l2,rfl,_⟩:=zdm r2;exact⟨a,l2,n,rfl,e3⟩
 refine Vals.pairwise (R:=λa b=>(listO strO).kle a b) r2 (λv hv u ru=>?_) p2;obtain⟨a,zs,rfl,e2⟩:=hy v (p1.mem_iff.mp hv);cases ru;obtain⟨_,ak,n,r3,e3⟩:=YF e2;obtain⟨l2,rfl,z⟩:=zdm r3;rw[kvL_ref e3,zit e2];rw[←z,Zu,Zu];rfl
def keyP(p:Str×Str):List Nat×List Nat:=(p.1.cps.toList,p.2.cps.toList)
def leP(a b:Str×Str):Prop:=(Be strO).kle (keyP a) (keyP b)
def zcr{α β γ:Type}{R:α→β→Prop}{S:γ→γ→Prop}{f:α→γ}{g:β→γ}{as:List α}{bs:List β}(h:QV as bs)(e:∀ a b,R a b→f a=g b)(p:as.Pairwise λx y=>S (f x) (f y)):bs.Pairwise λx y=>S (g x) (g y):=by
 have mem:∀{as:List α} {bs:List β},QV as bs→∀b∈bs,∃a∈as,R a b:=λ{as bs} h=>by
  induction h with
  |nil=>intro b hb;cases hb
  |cons h t ih=>
   intro b hb;rcases Qi.mp hb with z|z
   ·exact⟨_,Qc,z▸h⟩
   obtain⟨a,ha,r⟩:=ih b z;exact⟨a,QM ha,r⟩
 induction h with
 |nil=>exact .nil
 |cons h t ih=>rw[Wo]at p;refine Wo.mpr ⟨λb hb=>?_,ih p.2⟩;obtain⟨a,ha,r⟩:=mem t b hb;rw[←e _ _ h,←e _ _ r];exact p.1 a ha
def zg9(hc:X.calm=true):YV (.builtin "sorted") (λxs H Q=>Ex3 λ(d:Nc) (kvs:Se (List Key×V)) (qs:Nr)=>Aj4 (xs=[Fu d]) (H d=some Sx) (kvs.map (·.1)=qs.map kP) (∀ (l:Nc) (as:Nl) (ws:Nr),H l=none→ws.Perm qs→DQ as ws→ws.Pairwise leP→Q Sh (ZU l Hs))):=by
 intro a7 s σ H xs us Q I r h;obtain⟨d,kvs,qs,rfl,hq,ek,q⟩:=h;obtain⟨u,rfl,rx⟩:=vals1 r;cases rx;obtain⟨z,lo,ts,rk,o,es,ep,e1,e2,e3,e4,e5⟩:=(show Z5 H s.heap d Sx from I.hok d _ hq);have li:RawD.At s.heap d es ep:=⟨o,e1,e2,e3⟩;have aa:kvs.length=ts.length:=Zl rk;have ba:es.size=ts.length:=by rw[←Yb,e4,Qa]
 have iW:DQ (ts.map λt=>t.2.1) qs:=by
  clear e4 e5 ba aa li z q hq;induction rk generalizing qs with
  |nil=>
   cases qs with
   |nil=>exact .nil
   |cons a b=>cases ek
  |@cons p t ps ts' h1 t1 ih=>
   cases qs with
   |nil=>cases ek
   |cons a b=>rw[Qo,Qo]at ek;injection ek with k1 k2;refine .cons ?_ (ih _ k2);have:=h1.2.1;rw[k1]at this;exact this
 have ng:∀aj:Array Value,ItemsOf (λi v=>∃e,es[i]?=some e∧v=e.key) aj es.size→aj.toList=(ts.map λt=>t.2.1).map Value.ref:=λaj hi=>by
  apply List.ext_getElem?;intro i;rw[Qt,Qt];by_cases ad:i<es.size
  ·have sU:i < aj.size:=by rw[hi.1];exact ad
   have a1:aj[i]?=some aj[i]:=Uh sU;obtain⟨e,h1,h2⟩:=hi.2 i _ a1;rw[Jc,a1,h2];have h3:es.toList[i]?=some e:=by rw[Jc];exact h1
   rw[e4,Qt]at h3;cases ht:ts[i]? with
   |none=>rw[ht]at h3;cases h3
   |some t=>rw[ht]at h3;have h4:entryOfKey (Ew S0) t=e:=Qq h3;rw[←h4];rfl
  have a1:aj.toList[i]?=none:=by rw[Jc];exact Array.getElem?_eq_none (by rw[hi.1];lia)
  have a2:ts[i]?=none:=Ui Fs;rw[a1,a2];rfl
 have hvr:∀as:List Addr,De (as.map Value.ref):=λas=>by
  induction as with
  |nil=>exact .nil
  |cons a r ih=>exact .cons rfl ih
 refine zfb (R:=λa8 ws=>ws.Pairwise λx y=>(Be strO).kle (VU x) (VU y)) (G:=λa8=>a8=(ts.map λt=>t.2.1).map Value.ref) (λE' R hR=>zg7 (RawD.src lo) (show X.A.in1.handled=none from I.ok.hd hc) li Fs λg tk aj k le hi=>hR g tk _ k le (ng aj hi))
  (λa8 e=>by rw[e,Qa,Qa];exact zd2 ‹_› ‹_›) (λa8 e A' E' s' _ k=>?_) λa8 ws l g tk e r p1 p2 le k he=>?_
 ·have all:∀ v∈a8,∃ x y t,Dt v x (.str y t):=λv hv=>by rw[e]at hv;obtain⟨a,ha,rfl⟩:=Ql.mp hv;obtain⟨rr,nE⟩:∃r:Str×Str,H a=some (.tup [Ek,El]):=pairs_mem iW ha;obtain⟨q',⟨t,rfl⟩,T⟩:=zf0 I nE;exact⟨_,_,t,T⟩
  refine zd4 k (λv hv=>let⟨x,y,t,T⟩:=all v hv;⟨x,_,T⟩) λv hv u hu x p q T T'=>.inr ?_;obtain⟨_,y,t,T1⟩:=all v hv;obtain⟨_,y',t',T2⟩:=all u hu;exact⟨y,t,y',t',(zf1 T T1).2,(zf1 T' T2).2⟩
 subst r;obtain⟨as,rfl,p3⟩:∃as:List Addr,ws=as.map Value.ref∧as.Perm (ts.map λt=>t.2.1):=by
  have key:∀{ws:Nj} {bs:Nl},ws.Perm (bs.map Value.ref)→∃as:List Addr,ws=as.map Value.ref∧as.Perm bs:=λ{ws bs} pm=>by
   have a2:∃as:List Addr,ws=as.map Value.ref:=by
    have a1:∀v∈ws,∃a,v=Value.ref a:=λv hv=>by obtain⟨a,_,e⟩:=Ql.mp (pm.mem_iff.mp hv);exact⟨a,e.symm⟩
    clear pm;induction ws with
    |nil=>exact⟨[],rfl⟩
    |cons v r ih=>obtain⟨as,e⟩:=ih λv hv=>a1 v IT;obtain⟨x,e2⟩:=a1 v Qc;exact⟨x::as,by rw[e,e2];rfl⟩
   obtain⟨as,rfl⟩:=a2;refine⟨as,rfl,?_⟩;have:=pm.map (λv=>match v with | .ref a=>a|_=>0);rw[Zu,Zu]at this;simpa[Function.comp_def] using this
  exact key p1
 obtain⟨qs',q1,q2⟩:=zdf p3 iW;refine⟨Sh,_,I.laid (t':=tk) k le (show Z5 _ g _ (FJ _) from⟨?_,as.map Value.ref,e,hvr as,he⟩),rfl,q l as qs' (RP le) q1 q2 ?_⟩
 ·rw[Qa,p3.length_eq,Qa];exact zd2 ‹_› ‹_›
 rw[Uq]at p2;refine zcr (f:=λa=>VU Ht) (g:=keyP) q2 (λa b e=>?_) p2;obtain⟨q',⟨t,rfl⟩,T⟩:=zf0 I e;rw[T.key];rfl
end
end L2
namespace K21
open PySem L2 Wb Tm PySem.W PyProof.Rows
def leP_antisymm{a b:Str×Str}(h1:leP a b)(h2:leP b a):a=b:=by have e:=KeyOrd.kle_antisymm h1 h2;unfold keyP at e;injection e with e1 e2;exact Prod.ext (str_ext e1) (str_ext e2)
def leP_total(a b:Str×Str):leP a b∨leP b a:=by
 cases h:(Be strO).blt (keyP b) (keyP a) with
 |false=>exact .inl h
 |true=>exact .inr (Yz h)
structure zfz(r:Nt)(L:Nr):Prop where
 cy:∃s t,L=s::t∧Lk (st r) s t s∧∀u∈L,leP s u
structure zbf(r:Nt)(Ls:List (List (Str×Str))):Prop where
 fa:∀L∈Ls,V8 L
 nd:Ls.flatten.Nodup
 al:∀s,s∈Ls.flatten↔s.1∈r s.2
def lk_clo{β:Type}{f:β→β}{e:β}:∀{t:List β} {s:β},JO t e→∀u,u=s∨u∈t→f u=e∨f u∈t:=by
 intro t;induction t with
 |nil=>
  intro s h u hu;rcases hu with rfl|hu
  ·exact .inl h
  cases hu
 |cons a t ih=>
  intro s h u hu;rcases hu with rfl|hu
  ·exact .inr (by rw[h.1];exact Qc)
  rcases ih h.2 u (O9 hu) with z|z
  ·exact .inl z
  exact .inr Iz
def lk_all{β:Type}{f:β→β}{e:β}{P:β→Prop}(hP:∀u,P u→P (f u)):∀{t:List β} {s:β},JO t e→P s→∀u∈t,P u:=by
 intro t;induction t with
 |nil=>intro s h hs u hu;cases hu
 |cons a t ih=>
  intro s h hs u hu;have ha:P a:=h.1▸hP s hs;rcases Qi.mp hu with z|z
  ·rw[z];exact ha
  exact ih h.2 ha u z
def lk_eq{β:Type}{f:β→β}{e:β}:∀{t t':List β} {s:β},JO t e→JO t' e→e∉t→e∉t'→t=t':=by
 intro t;induction t with
 |nil=>
  intro t' s h h' n n';cases t' with
  |nil=>rfl
  |cons x u=>exact absurd (by rw[show x=e from h'.1.symm.trans h];exact Qc) n'
 |cons a t ih=>
  intro t' s h h' n n';cases t' with
  |nil=>exact absurd (by rw[show a=e from h.1.symm.trans h'];exact Qc) n
  |cons x u=>have e1:a=x:=h.1.symm.trans h'.1;subst e1;rw[ih h.2 h'.2 (λz=>n Iz) λz=>n' Iz]
def zfz.sub{r:Nt}{L L':Nr}(a:V8 L)(b:V8 L'){s:Str×Str}(h:s∈L)(h':s∈L'):∀u∈L,u∈L':=by
 obtain⟨s0,t,rfl,k,_⟩:=a;obtain⟨i9,t',rfl,k',_⟩:=b;obtain⟨A,B,e⟩:=Uz h;have c:Dx (A++s::B):=⟨s0,t,e.symm,k⟩;have hl:=zfm c;have clo:∀u,u∈i9::t'→st r u∈i9::t':=λu hu=>by
  rcases lk_clo k' u (O9 hu) with z|z
  ·rw[z];exact Qc
  exact QM z
 have al:=lk_all (P:=λu=>u∈i9::t') clo hl h';intro u hu;rw[e]at hu;rcases Qg.mp hu with z|z
 ·exact al u Pr
 rcases Qi.mp z with y|y
 ·rw[y];exact h'
 exact al u (Y5 y)
def zfz.one{r:Nt}{L L':Nr}(a:V8 L)(b:V8 L')(n:L.Nodup)(n':L'.Nodup){s:Str×Str}(h:s∈L)(h':s∈L'):L=L':=by have s1:=a.sub b h h';have s2:=b.sub a h' h;obtain⟨s0,t,rfl,k,m⟩:=a;obtain⟨i9,t',rfl,k',m'⟩:=b;have e:=leP_antisymm (m i9 (s2 _ Qc)) (m' s0 (s1 _ Qc));subst e;rw[lk_eq k k' (Zh.mp n).1 (Zh.mp n').1]
def flat_nd{β:Type}:∀{Ls:List Pg},Ls.flatten.Nodup→(∀L∈Ls,L≠[])→Ls.Nodup∧∀L∈Ls,L.Nodup:=by
 intro Ls;induction Ls with
 |nil=>intro _ _;exact⟨Zy,λL h=>by cases h⟩
 |cons L t ih=>
  intro h n;rw[Yl,Zn]at h;obtain⟨h1,h2⟩:=ih h.2.1 λL' cw=>n L' (QM cw);refine⟨Zh.mpr ⟨λz=>?_,h1⟩,λL' cw=>?_⟩
  ·obtain⟨x,hx⟩:=List.exists_mem_of_ne_nil L (n L Qc);exact h.2.2 x hx x (IJ ⟨L,z,hx⟩) rfl
  rcases Qi.mp cw with z|z
  ·rw[z];exact h.1
  exact h2 L' z
def zbf.row{r:Nt}{Ls:List Gy}(a:N2 Ls):Ls.Nodup∧∀L∈Ls,L.Nodup:=
 flat_nd a.nd λL hL=>by obtain⟨s,t,e,_⟩:=(a.fa L hL).cy;rw[e];exact Dy _
def zbf.sub{r:Nt}{Ls dv:List Gy}(a:N2 Ls)(b:N2 dv):∀L∈Ls,L∈dv:=λL hL=>by
 obtain⟨s,t,e,_⟩:=(a.fa L hL).cy;have hs:s∈L:=by rw[e];exact Qc
 obtain⟨L',cw,cQ⟩:=Yj.mp ((b.al s).mpr ((a.al s).mp (IJ ⟨L,hL,hs⟩)));rw[(a.fa L hL).one (b.fa L' cw) (a.row.2 L hL) (b.row.2 L' cw) hs cQ];exact cw
def zbf.one{r:Nt}{Ls dv:List Gy}(a:N2 Ls)(b:N2 dv):Ls.Perm dv:=
 (Jz a.row.1 b.row.1).mpr λL=>⟨a.sub b L,b.sub a L⟩
def zbf.turn{r r':Nt}{Ls:List Gy}(a:N2 Ls)(hm:∀s:Str×Str,s.1∈r s.2↔s.1∈r' s.2)(hs:∀s:Str×Str,s.1∈r s.2→st r' s=st r s):zbf r' Ls:=by refine⟨λL hL=>?_,a.nd,λs=>(a.al s).trans (hm s)⟩;obtain⟨s,t,e,k,m⟩:=(a.fa L hL).cy;refine⟨s,t,e,lk_congr (λy hy=>hs y ((a.al y).mp (IJ ⟨L,hL,by rw[e];exact Qi.mpr hy⟩))) k,m⟩
def leL(a b:Nh):Prop:=(listO strO).kle (a.map λx=>x.cps.toList) (b.map λx=>x.cps.toList)
end K21
namespace K21
open PySem L2 Wb
abbrev sFaces:Stmt:=top 10
def ze9(H:Hp)(a:Nc)(h:Str):Prop:=∃t:List Str,H a=some (FJ ((h::t).map V.str))
def zcv(es:List Ent):List Str:=(es.filter λe=>e.2.1.isEmpty).map (·.1)
def zbz(H:Hp)(a:Nc)(zs:Nh):Prop:=H a=some Ch
abbrev sing(x:Str):List Str:=[x]
abbrev nmL(L:Nr):List Str:=L.map (·.1)
inductive IspFacesO(vs:List V)(H:Hp)(Q:VK):Prop
 |mk (d:Nc) (es:List Ent) (cs:List (List (Str×Str))) (lab:Nx) (h0:vs=[.ref d]) (h1:TAt H d es) (h2:es.length≤60) (h3:(∀e∈es,e.2.1.length≤100)) (h4:Cert (es.map (·.1)) (row (rsOf es)) cs lab) (h5:∀(l:Nc) (as:Nl) (zss:List (List Str)) (Ls lg:List (List (Str×Str))) (H':Hp),H' l=some (.lst (as.map V.ref))→as.length≤20000→Paired (zbz H') as zss→zss.Perm ((zcv es).map sing++Ls.map nmL)→zss.Pairwise leL→zbf (row (rsOf es)) Ls→lg.Perm cs→Paired List.Perm Ls lg→H l=none→(∀a∈as,H a=none)→Keep [] H H'→Q (.ref l) H'):IspFacesO vs H Q
def spFacesO:Sp:=λvs H Q _=>IspFacesO vs H Q
def pt_truthK{X:Cx}{K:Na}{a:Expr}{ta:TE}(hK:X.K=K)(ha:T8)(he:∀whole,isTrue a X.env whole=(do let v ←whole;standAt a.pos;holding [v] I0)) :
  PT X a (λ σ H Q=>ta σ H λx H'=>RTr K x H' Q):=hK▸zf5 ha he
def ndF:(["place", "rounds"]:List Str).Nodup:=by decide+kernel
def valG_out{gs:Nr}{s:Str×Str}(h:s∉gs):valV (gs.map λs=>(AI,Tk)) AI=none:=by
 induction gs with
 |nil=>rfl
 |cons a t ih=>
  rw[Qi,not_or]at h;rw[Qo,zb7]
  ·exact ih h.2
  intro q;exact h.1 (kP_inj q).symm
def valG_in{gs:Nr}{s:Str×Str}(h:s∈gs):valV (gs.map λs=>(AI,Tk)) AI=some Ll:=by
 induction gs with
 |nil=>cases h
 |cons a t ih=>
  rw[Qo];by_cases e:a=s
  ·exact zdb (by rw[e])
  rw[zb7 (λq=>e (kP_inj q))];rcases Qi.mp h with z|z
  ·exact absurd z.symm e
  exact ih z
def lk_get{β:Type}{f:β→β}{e:β}:∀{t:List β} {s:β},JO t e→∀k,k<(s::t).length→f ((s::t).getD k e)=(s::t).getD (k+1) e:=by
 intro t;induction t with
 |nil=>
  intro s h k hk;have:k=0:=by simp at hk;exact hk
  subst this;exact h
 |cons a t ih=>
  intro s h k hk;cases k with
  |zero=>exact h.1
  |succ n=>have:=ih h.2 n (Fv hk);simpa using this
def zdz{H H':Hp}{D g:Nc}{fa:Nl}{hd:Nh}{xs:Nl}(k:WY H')(h:V9 fa hd)(hx:∀a (h:Str) (t:Nh),H a=some (FJ ((h::t).map V.str))→a∉xs):Paired (ze9 H') fa hd:=
 Paired.imp' (λa h ⟨t,e⟩=>⟨t,k _ _ e (hx a h t e)⟩) h
theorem Paired.impM{α β:Type}{R S:α→β→Prop}:∀{as:List α} {bs:List β},(∀a b,b∈bs→R a b→S a b)→QV as bs→Paired S as bs
 |_,_,_,.nil=>.nil
 |_,_,h,.cons r t=>.cons (h _ _ Qc r) (Paired.impM (λa b hb=>h a b Tr) t)
def zel{H H':Hp}{fa:Nl}{zs:List Ta}(k:Keep [] H H')(h:V' fa zs):Vw fa zs:=Paired.imp' (λa z e=>k _ _ e Fr) h
def least_at{ws:Nr}(h:ws.Pairwise leP){i:Nat}(hi:i<ws.length){u:Str×Str}(hu:u∈ws)(hn:u∉ws.take i):leP ws[i] u:=by
 rw[←Zq i ws]at hu;rcases Qg.mp hu with z|z
 ·exact absurd z hn
 rw[Zz hi]at z;rcases Qi.mp z with y|y
 ·rw[y];exact(leP_total _ _).elim id id
 have h2:=h.sublist (Xq i ws);rw[Zz hi,Wo]at h2;exact h2.1 u y
def zao{α β:Type}{R:α→β→Prop}:∀{as aI:List α} {bs i6:List β},QV as bs→QV aI i6→QV (as++aI) (bs++i6):=by
 intro as aI bs i6 r r';induction r with
 |nil=>exact r'
 |cons h t ih=>exact .cons h ih
section
variable{P:Nk}{w:Nn}{K:Na}{mg:Ng}{base:No}
def zde:zar ["rounds", "behind", "found", "gone", "first", "face", "step"] ["rounds"] (zaj sFaces):=fsk
def ok_facesO{f fs:Nc}{fd fds:Nw}(F:Z1 "faces_of" "faces_of" sFaces f fd)(FS:Z1 "steps_behind" "steps_behind" sSteps fs fds)(bS:Z3 fds ["rounds"] [])(mS:mg "steps_behind" = some (Fu fs))(GS:ZB 1 fs fds ["rounds"] spSteps)(ay:mg "sorted" = none):ZB 2 f fd ["rounds"] spFacesO:=by
 refine F.okL zde Fx;obtain⟨d,es,cs,lab,rfl,T,ba,bw,C,k⟩:=h;have hu:=zcm hr;have rP:(Oe (PyProof.Rows.envOfC "faces_of" (zaj sFaces) s.heap.objs.size f cdv)).units+8<cLine:=Yo (Xe (by decide:8≤64) _) hr.units;have aJ  :=sizeLine_eq;refine⟨_,zae (X1 zde.nd (BQ bS .nil zba Re))
  (zae (ps_thaw (ps_lc (i:=2) (M:=["place", "rounds"]) (ix:=[none,He 0]) zde.nd rfl rfl (mkB zde) rfl (pi_dict Hx) (λC a7 ex s H=>JH ndF)
    (λC a7 ex s H=>zdo (zfs (pt_truthK (K:=K) rfl (zfx (by exact hu) RK Hx) (by intro _;rfl)))) (λC a7 ex s H=>za1 Re) rfl))
  (zae (JI zde.nd pe_dnewT)
  (zae (QH (zaz (CB (zg9 rfl) HH)) (N0 zde.nd)
   (zae (zas 5 zde.nd RD)
   (zae (N3 zde.nd SY)
   (zae (M4 (IA CU HF)
    (zae (zil hu HF CU zfg rfl)
    (zae (Eo Lc (Hf (zbb ze3 CU zah FV)))
    (zag (N3 zde.nd (zfx hu RK CU))))))
   (zag (zbt (zf5 Lc (by intro _;rfl)) (zag (Eo RM SV)) zaw))))))
  (zag (AE (CB (zc6 rP) Rg)))))),?_⟩
 have ag:∀e∈es,ZO e.1=e.2.1:=λe he=>zbw T.nd he;refine⟨A5,d,es,rfl,T,ba,λe he=>⟨ag e he▸C.rn e.1,bw e he⟩,λb bs H1 hZ fk eF hbfr k1=>?_⟩;have T1:TAt H1 d es:=MH Fr (λ_ _=>by simp);have nfz:∀o' u',H d≠some E3:=λo' u' z=>by rw[T.dc]at z;cases z
 refine⟨_,rfl,d,_,rfl,T1.dc,λo=>⟨λi m ys τ H2=>Aj6 (m=es.length-i) (i≤es.length) (Ex1 λx0=>τ=[x0,LO]) (H2 d=some (T7 HX)) (Keep [d] H1 H2) (Ex1 λ(as:Nl)=>Aj4 (ys=as.map V.ref) (as.length≤i) (∀a∈as,H a=none) (Paired (zbz H2) as ((zcv PZ).map sing))),
  ⟨es.length,rfl,Sv,⟨none,rfl⟩,zab,AK,[],rfl,Sv,(λa ha=>by cases ha),.nil⟩,?_⟩⟩
 rintro i m ys τ H2 ⟨rfl,hi,⟨x0,rfl⟩,hz,k2,fa,rfl,tJ,bu,bH⟩;have mz:∀{q:Nc},H2 q=none→H q=none:=λ{q} hq=>by refine zap k1 (zap k2 hq ?_) Fr;intro z;rw[Qd.mp z,hz]at hq;cases hq
 by_cases ad:i<es.length
 ·refine .inr ⟨⟨hz,by rw[Qa];exact ad⟩,by rw[Qa];lia,?_⟩;rintro y H' ⟨rfl,pr,e1,rfl⟩;have g1:pr=((Sum.inr es[i].1:Key),V.ref es[i].2.2):=by rw[Qt,Qb ad]at e1;exact(Qq e1).symm
  subst g1;have c8:es[i]∈es:=Qn ad;have cS:=T1.ro _ c8;have nri:es[i].2.2≠d:=zbg cS T1.dc FG;have jJ:=k2 _ _ cS (Fv nri);have bf:es.take Gr=es.take i++[es[i]]:=Qj ad;refine⟨A5,A5,d,.ref es[i].2.2,rfl,Gm ⟨_,Sum.inr es[i].1,Ru ⟨o,hz⟩,rfl,(zf8 T.nd c8).symm⟩,_,.inr (Gm ⟨_,HV jJ,rfl⟩),?_⟩;have iE:(es[i].2.1.map V.str).isEmpty=es[i].2.1.isEmpty:=by cases es[i].2.1<;>rfl
  cases hb:es[i].2.1.isEmpty with
  |false=>
   refine zal (by rw[iE,hb];rfl) ⟨_,?_,rfl,ad,⟨_,rfl⟩,hz,k2,fa,rfl,by exact zh5 ‹_›,bu,?_⟩
   ·exact zar1 ‹_›
   unfold zcv;rw[bf,Wc,Wg (by rw[hb];decide),Ug,Zp];exact bH
  | true=>
   refine zay (by rw[iE,hb];rfl) ⟨_,rfl,SK,λq hq=>⟨_,?_,rfl,ad,⟨_,rfl⟩,?_,k2.trans TN,fa++[q],?_,?_,?_,?_⟩⟩
   ·exact zar1 ‹_›
   ·rw[zaf (A0 hz hq)];exact hz
   ·rw[Qr];rfl
   ·rw[Qk];show _+1≤_;exact zar4 ‹_›
   ·intro a ha;rcases Qg.mp ha with z|z
    ·exact bu a z
    rw[Qd.mp z];exact mz hq
   unfold zcv;rw[bf,Wc,Wn (by rw[hb]),Ug,Qr,Qr];exact zao (zel TN bH) (HY zab)
 have kF:i=es.length:=by exact zar3 ‹_› ‹_›
 subst kF;rw[Qm Gg]at bH;refine .inl ⟨⟨hz,by rw[Qa];exact Qh _⟩,λD hD=>?_⟩;have ndD:d≠D:=zac hz hD;refine⟨d,o,_,(FQ ndD hz),nfz,?_⟩;have k3:Keep [] H1 (Bl HX):=λc u ec _=>by
  by_cases aS:c=d
  ·subst aS;rw[zab,←T1.dc];exact ec
  have ec1:=k2 c u ec (Fv aS);rw[zaf aS,zaf (A0 ec1 hD)];exact ec1
 have gL:(Bl HX) D=some Eg:=by rw[zaf (Zd ndD)];exact zab
 have dj:Paired (zbz (Bl HX)) fa ((zcv es).map sing):=Paired.imp' (λa h e=>by show BG a=_;rw[zaf (MI hz FG),zaf (BE hD)];exact e) bH;generalize Bl HX=H3 at k3 gL dj;have cu:BAt H3 b bs Hv:=hZ.keep k3 Fr (λ_ _=>by simp);refine λg hg=>?_;generalize fE:WK g _=H4;obtain⟨k4,hg4⟩:=nwk hg fE;have hb4:BAt H4 b bs Hv:=cu.keep k4 Fr (λ_ _=>by simp);refine⟨A5,b,_,bs.map (·.1),rfl,hb4.dc,(by rw[Zu,Zu];rfl),λl as ws hl ae pa ai=>?_⟩;have k5:Keep [] H4 (QJ l Hs):=Keep.new hl;have dU:(QJ l Hs) l=some Hs:=zab;have mi:zbi (QJ l Hs) as ws:=zbi.keep pa λc x y ec=>k5 _ _ ec Fr;have nDl:D≠l:=zac (k4 _ _ gL Fr) hl;generalize QJ l Hs=H5 at k5 dU mi;have lB:Keep [] H3 H5:=k4.trans k5;have iI:=lB _ _ gL Fr;have ou:=k5 _ _ hg4 Fr;have tW:BAt H5 b bs Hv:=hb4.keep k5 Fr (λ_ _=>by simp);have cC:Paired (zbz H5) fa ((zcv es).map sing):=zel lB dj;have jo:Keep [] H H5:=(SL k3).trans lB;have nlg:l≠g:=zbg dU ou FG;have nDg:D≠g:=zbg iI ou FG;have nbg:b≠g:=zac cu.dc hg;have nbD:b≠D:=zbg tW.dc iI FG;have bK:as.length=ws.length:=Zl mi;have eQ:ws.length≤10000:=by rw[ae.length_eq,Qa];exact eF
 have notDg:∀{H':Hp} {qD:Nl} {gs:Nr},H' D=some (FJ (qD.map V.ref))→H' g=some (.dT (gs.map λs=>(AI,Tk)))→∀a (h:Str) (t:Nh),zbz H' a (h::t)→a≠D∧a≠g:=λ{H' qD gs} e1 e2 a h t e=>
  ⟨MI e1 (by
   intro z;have z':(h::t).map V.str=qD.map V.ref:=by injection z
   cases qD with
   |nil=>cases z'
   |cons x u=>rw[Qo,Qo]at z';injection z' with z1 _;cases z1),MI e2 FG⟩
 refine⟨l,rfl,⟨_,FH dU⟩,zbs (xs:=as.map V.ref) (λi σ H'=>Aj3 (Ex3 λx4 x5 x6=>σ=[LO,Fy b,Fy D,Fy g,x4,x5,x6]) (Keep [D,g] H5 H') (Ex5 λ(gs:Nr) (dn rem:List Gy) (fa:Nl) (Ls:List Gy)=>Aj9 (H' g=some (.dT (gs.map λs=>(AI,Tk)))) gs.Nodup (∀s,s∈gs↔s∈dn.flatten) (cs.Perm (dn++rem)) (∀s∈ws.take i,s∈gs) (H' D=some Eg) (Vw fa ((zcv es).map sing++Ls.map nmL)) (Aj2 (Paired List.Perm Ls dn) (∀L∈Ls,zfz Hv L)) (Aj2 (∀a∈fa,H a=none) (fa.length≤100+i))))
  ⟨⟨_,_,_,rfl⟩,Keep.refl,[],[],cs,fa,[],ou,Zy,λs=>Iff.rfl,EZ,λs hs=>(by cases hs),iI,by rw[List.map_nil,Zp];exact cC,⟨.nil,λL hL=>by cases hL⟩,bu,Fs⟩
  (λi σ H' _ hh=>SqL.of (TU dU (by simp[Zd nDl,nlg]))) ?_ ?_⟩
 ·rintro i y σ H6 hx ⟨⟨x4,x5,x6,rfl⟩,k6,gs,dn,rem,px,eD,qr,tH,gW,dY,lG,pj,fX,⟨aS,lR⟩,iC,oB⟩;have hi:i<as.length:=by have:=(LP hx).1;rwa[Qa]at this
  have ik:y=.ref as[i]:=by rw[Qt,Qb hi]at hx;exact(Qq hx).symm
  subst ik;obtain⟨ao,kX⟩:=za0 mi hi;have nag:as[i]≠g:=zbg kX ou FG;have naD:as[i]≠D:=zbg kX iI FG;have p9:=k6 _ _ kX (by simp[nag,naD]);have hws:ws[i]∈ws:=Qn ao;have hsi:ws[i].1∈ZO ws[i].2:=(fk _).mp (ae.mem_iff.mp hws);have hwt:∀{aw:Nr},(∀s∈gs,s∈aw)→ws[i]∈aw→∀s∈ws.take Gr,s∈aw:=λ{aw} h1 h2 s hs=>by
   rw[Qj ao]at hs;rcases Qg.mp hs with z|z
   ·exact h1 s (lG s z)
   rw[Qd.mp z];exact h2
  refine⟨Tv,λfl dX=>?_⟩;have k7:Keep [] H6 (U9 fl Ge):=Keep.new dX;have c7:(U9 fl Ge) fl=some Ge:=zab;have nfD:fl≠D:=Zd (A0 pj dX);have nfg:fl≠g:=Zd (A0 qr dX);have nafl:as[i]≠fl:=zac p9 dX;generalize U9 fl Ge=H7 at k7 c7;have oq:=k7 _ _ qr Fr;have lS:=k7 _ _ pj Fr;have oZ:=k7 _ _ p9 Fr;have jm:Keep [D,g] H5 H7:=k6.trans AJ;have tV:BAt H7 b bs Hv:=tW.keep jm (by simp[nbD,nbg]) λe he=>by have h1:=tW.tp e he;simp[zbg h1 iI FG,zbg h1 ou FG]
  have nbfl:b≠fl:=zbg tV.dc c7 FG;have nO:Paired (zbz H7) px ((zcv es).map sing++eD.map nmL):=zel k7 fX;refine⟨A5,?_⟩;by_cases aq:ws[i]∈gs
  ·-- it is gone already
   refine⟨λm σ H'=>Aj2 (σ=[LO,Fy b,Fy D,Fy g,He (.ref as[i]),Fy fl,He (.ref as[i])]) (H'=H7),⟨0,rfl,rfl⟩,?_⟩;rintro m σ H' ⟨rfl,rfl⟩;have dg:=DGet.t (k:=kP ws[i]) oq oZ;rw[valG_in aq]at dg;refine⟨A5,A5,g,A5,dg,A5,W0 ?_⟩;refine⟨A5,_,.inl ⟨_,FH c7,rfl⟩,W0 ?_⟩;exact⟨⟨_,_,A5⟩,jm,gs,dn,rem,px,eD,oq,tH,gW,dY,hwt (λ_ h=>h) aq,lS,nO,⟨aS,lR⟩,iC,by exact zh5 ‹_›⟩
  ·-- a new cycle
   obtain⟨c,gJ,qc⟩:=Yj.mp ((C.cm ws[i]).mpr hsi);obtain⟨A1,B1,pk⟩:=Uz qc;have kj:=zfm (pk▸M0 gJ);generalize hL:ws[i]::(B1++A1)=L;have eI:L.Perm c:=by rw[←hL,pk];refine List.perm_iff_count.mpr λa=>?_;simp only[List.count_append,List.count_cons];lia
   have iY:=(Kp dY).nodup_iff.mp C.cf;rw[Ww,Zn]at iY;have j8:c∈rem:=by
    rcases Qg.mp (dY.mem_iff.mp gJ) with z|z
    ·exact absurd ((gW _).mpr (IJ ⟨c,z,qc⟩)) aq
    exact z
   have u5:∀s∈L,s∉gs:=λs hs hg=>by exact absurd rfl (iY.2.2 s ((gW s).mp hg) s (IJ ⟨c,j8,eI.mem_iff.mp hs⟩))
   have ph:L.Nodup:=by rw[eI.nodup_iff];have:=(zht gJ).nodup_iff.mp C.cf;rw[Zn]at this;exact this.1
   have kZ:∀s∈L,s.1∈ZO s.2:=λs hs=>C.inc gJ (eI.mem_iff.mp hs);have hLpos:0<L.length:=by rw[←hL];simp
   have af:gs++L |>.Nodup:=Zn.mpr ⟨tH,ph,λa ha b' qA e=>u5 b' qA (e▸ha)⟩
   have hsz:(gs++L).length≤10000:=by
    refine Zf (zgs af (m:=bs.map (·.1)) λs hs=>?_) (AY eF);rcases Qg.mp hs with z|z
    ·obtain⟨c',dq,cQ⟩:=Yj.mp ((gW s).mp z);exact(fk s).mpr (C.inc (dY.mem_iff.mpr (Y5 dq)) cQ)
    exact(fk s).mpr (kZ s z)
   rw[Qk]at hsz;have cK:∀k (hk:k<L.length),Bi L[k]=L.getD (k+1) ws[i]:=λk hk=>by have:=lk_get kj k (FA hL hk);rw[hL,Qx,Qb hk]at this;exact this
   refine⟨λm σ H'=>Ex2 λ(k:Nat) (t:Nc)=>Aj7 (m=L.length-k) (k≤L.length) (σ=[LO,Fy b,Fy D,Fy g,He (.ref as[i]),Fy fl,Fy t]) (Keep [g,fl] H7 H') (H' g=some (CV k)) (H' fl=some (Hm k)) (H' t=some (.tup [.str (L.getD k ws[i]).1,.str (L.getD k ws[i]).2])),
    ⟨_,0,as[i],rfl,Sv,rfl,Keep.refl,by rw[List.take_zero,Zp];exact oq,c7,by rw[←hL];exact oZ⟩,?_⟩
   rintro m σ H8 ⟨k8,t,rfl,hk8,rfl,pM,oo,gE,lJ⟩;have dg:=DGet.t (k:=kP (L.getD k8 ws[i])) oo lJ;by_cases dS:k8<L.length
   ·have gH:L.getD k8 ws[i]=L[k8]:=by rw[Qx,Qb dS];rfl
    have bf:L.take (k8+1)=L.take k8++[L[k8]]:=Qj dS;have cF:L[k8]∉gs++L.take k8:=λz=>by
     rcases Qg.mp z with q|q
     ·exact u5 _ (Qn dS) q
     have:=Ju (Jw (k8+1) L) ph;rw[bf,Zn]at this;exact this.2.2 _ q _ Ss rfl
    rw[gH]at lJ dg;rw[valG_out cF]at dg;refine⟨A5,A5,g,A5,dg,A5,WZ ?_⟩;refine⟨_,λ σ' H' z=>z,?_⟩;have o9:(Gq k8).length<sizeLine:=by rw[Qa,Qk,Ze];lia
    refine⟨A5,A5,g,A5,DPut.t (k:=kP L[k8]) oo lJ o9,?_⟩;have jN:putK (Gq k8) (kP L[k8]) Ll=(gs++L.take (k8+1)).map λs=>(AI,Tk):=by rw[zf4 _ (valG_out cF),bf,←Zc,Qr (l₂:=[L[k8]])];rfl
    rw[jN];have ntg:t≠g:=zbg lJ oo FG;have ntfl:t≠fl:=zbg lJ gE FG;have k9:Keep [g,fl] H7 (UX g (CV (k8+1))):=pM.trans Ho;have hg9:(UX g (CV (k8+1))) g=some (CV (k8+1)):=zab;have kJ:(UX g (CV (k8+1))) fl=some (Hm k8):=by rw[zaf nfg];exact gE
    have nv:(UX g (CV (k8+1))) t=some (.tup [.str L[k8].1,.str L[k8].2]):=by rw[zaf ntg];exact lJ
    generalize UX g (CV (k8+1))=H9 at k9 hg9 kJ nv;refine⟨A5,Hd kJ,A5,t,_,_,A5,rfl,HV nv,zav (j:=0) rfl,fl,_,A5,rfl,kJ,(by rw[Qa,Qa,Ze];lia),?_⟩;have hfe:((L.take k8).map (·.1)).map V.str++[V.str L[k8].1]=((L.take (k8+1)).map (·.1)).map V.str:=by rw[bf,Qr,Qr];rfl
    rw[hfe];have jq:Keep [g,fl] H7 (Vj fl (Hm (k8+1))):=k9.trans Ho;have oy:(Vj fl (Hm (k8+1))) g=some (CV (k8+1)):=by rw[zaf (Zd nfg)];exact hg9
    have iZ:(Vj fl (Hm (k8+1))) fl=some (Hm (k8+1)):=zab;have nz:(Vj fl (Hm (k8+1))) t=some (.tup [.str L[k8].1,.str L[k8].2]):=by rw[zaf ntfl];exact nv
    generalize Vj fl (Hm (k8+1))=dw at jq oy iZ nz;have kT:BAt dw b bs Hv:=tV.keep jq (by simp[nbg,nbfl]) λe he=>by have h1:=tV.tp e he;simp[zbg h1 oq FG,zbg h1 c7 FG]
    obtain⟨e,he,hee⟩:=Ql.mp ((fk L[k8]).mpr (kZ _ (Qn dS)));have dg2:=DGet.t (k:=kP L[k8]) kT.dc nz;rw[←hee,valT_in kT.nd he]at dg2;have jA:=kT.tp e he;rw[hee,cK k8 dS]at jA;refine⟨A5,A5,b,A5,dg2,L.length-(k8+1),Gk,k8+1,e.2,rfl,dS,rfl,jq,oy,iZ,jA⟩
   have hk:k8=L.length:=by exact zar3 ‹_› ‹_›
   subst hk;have gH:L.getD L.length ws[i]=ws[i]:=by rw[Qx,Ui Gg];rfl
   rw[Qm Gg]at oo gE dg;have hwL:ws[i]∈L:=by rw[←hL];exact Qc
   rw[gH,valG_in (YT hwL)]at dg;refine⟨A5,A5,g,A5,dg,A5,W0 ?_⟩;have am:((L.map (·.1)).map V.str).isEmpty=false:=by rw[←hL];rfl
   refine⟨A5,_,.inl ⟨_,FH gE,rfl⟩,zay (by rw[am];rfl) ?_⟩;have hD8:=pM _ _ lS (by simp[nDg,Zd nfD]);refine⟨A5,Hd hD8,A5,D,_,A5,rfl,hD8,Rx,?_⟩;have k9:Keep [D,g] H5 (UX D (FJ (px.map V.ref++[Fu fl]))):=by
    refine Keep.trans (λc' u' ec dq=>?_) Ho;have h7:=jm c' u' ec dq;refine pM c' u' h7 ?_;have ncg:c'≠g:=λz=>dq (by simp[z]);have ncf:c'≠fl:=λz=>by have:=k6 c' u' ec dq;rw[z,dX]at this;cases this
    simp[ncg,ncf]
   refine⟨⟨_,_,A5⟩,k9,gs++L,dn++[c],rem.erase c,px++[fl],eD++[L],FQ (Zd nDg) oo,af,λs=>?_,?_,hwt (λs hs=>Y5 hs) (YT hwL),by rw[zab,Qr];rfl,?_,⟨zao aS (HY eI),λL' cw=>?_⟩,λa ha=>?_,by rw[Qk];show _+1≤_;exact zar4 ‹_›⟩
   ·rw[Qg,gW,Ww,Qg,Yl,Ks,Zp,eI.mem_iff]
   ·refine dY.trans ?_;rw[Zc];exact Jb _ (List.perm_cons_erase j8)
   ·rw[Qr,← Zc];refine zao (Paired.impM (λa zs hz e=>?_) nO) (.cons ?_ .nil)
    ·obtain⟨h,t,rfl⟩:∃ h t,zs=h::t:=by
      rcases Qg.mp hz with z|z
      ·obtain⟨y,_,rfl⟩:=Ql.mp z;exact⟨y,[],rfl⟩
      obtain⟨L',cw,rfl⟩:=Ql.mp z;obtain⟨s1,t1,e1,_⟩:=(lR L' cw).cy;exact⟨s1.1,t1.map (·.1),by rw[e1];rfl⟩
     have n1:=notDg lS oq a h t e;have naf:a≠fl:=MI c7 (by intro z;injection z with z;cases z);show BG a=_;rw[zaf n1.1];exact pM _ _ e (by simp[n1.2,naf])
    show BG fl=_;rw[zaf nfD,gE]
   ·rcases Qg.mp cw with z|z
    ·exact lR L' z
    rw[Cz];refine⟨ws[i],B1++A1,hL.symm,kj,λu hu=>?_⟩;exact least_at ai ao (Ca ((fk u).mpr (kZ u hu))) λz=>u5 u hu (lG u z)
   rcases Qg.mp ha with z|z
   ·exact iC a z
   rw[Cz];refine zap jo (zap k6 dX ?_) Fr;simp[nfD,nfg]
 rintro σ H6 ⟨⟨x4,x5,x6,rfl⟩,k6,gs,dn,rem,px,eD,qr,tH,gW,dY,lG,pj,fX,⟨aS,lR⟩,iC,oB⟩;rw[Qa,bK,Qm Gg]at lG;have sk:rem=[]:=by
  cases rem with
  |nil=>rfl
  |cons c rem'=>
   have oQ:c∈cs:=dY.mem_iff.mpr (YT Qc);obtain⟨s0,t0,hc0,_⟩:=M0 oQ;have aJ:s0∈c:=by rw[hc0];exact Qc
   have h1:s0∈ws:=ae.mem_iff.mpr ((fk s0).mpr (C.inc oQ aJ));have h2:=(gW s0).mp (lG s0 h1);have h3:=(Kp dY).nodup_iff.mp C.cf;rw[Ww,Zn]at h3;exact absurd rfl (h3.2.2 s0 h2 s0 (IJ ⟨c,Qc,aJ⟩))
 rw[sk,Zp]at dY;have uw:∀a zs,zbz H6 a zs→lstV H6 Ht=zs.map λx=>x.cps.toList:=λa zs e=>by rw[zit e,Zu];rfl
 refine⟨A5,D,A5,FH pj,λv hv=>?_,λl7 qJ aK di cb=>?_⟩
 ·obtain⟨a,ha,rfl⟩:=Ql.mp hv;obtain⟨j,hj,rfl⟩:=Zg ha;obtain⟨_,e⟩:=za0 fX hj;exact⟨_,A5,e⟩
 obtain⟨eJ,rfl,az⟩:=zgh di;obtain⟨lZ,lM,cB⟩:=zdf az fX;have fl7:H l7=none:=by
  refine zap jo (zap k6 aK ?_) Fr;intro z;rcases Qi.mp z with z|z
  ·rw[z,pj]at aK;cases aK
  rw[Qd.mp z,qr]at aK;cases aK
 rw[Uq]at cb;have hfz:eD.flatten.Perm dn.flatten:=by
  clear fX lR lM cB lG gW dY;induction aS with
  |nil=>exact .refl _
  |cons h t ih=>rw[Yl,Yl];exact h.append ih
 have cY:JT eD:=⟨lR,hfz.nodup_iff.mpr ((Kp dY).nodup_iff.mp C.cf),λs=>(hfz.mem_iff.trans (Kp dY).mem_iff.symm).trans (C.cm s)⟩;refine k l7 eJ lZ eD dn _ zab (by rw[az.length_eq];rw[Qa]at oB;lia) (Paired.imp' (λa z e=>by show BG a=_;rw[zaf (BE aK)];exact e) cB) lM (show lZ.Pairwise leL from zcr (S:=λa b=>(Tm.listO Tm.strO).kle a b) (f:=λa=>lstV H6 Ht) (g:=λz:List Str=>z.map λx:Str=>x.cps.toList) cB uw cb) cY dY.symm aS fl7 (λa ha=>iC a (az.mem_iff.mp ha)) ?_;refine(λc u ec _=>?_);have nD:c≠D:=λz=>by
  by_cases zd:c=d
  ·exact ndD (zd▸z)
  have h2:=k2 c u Ov (Fv zd);rw[z,hD]at h2;cases h2
 have nG:c≠g:=λz=>by have h1:=k3 c u Ov Fr;rw[z,hg]at h1;cases h1
 have:=k6 c u (jo c u ec Fr) (by simp[nD,nG]);rw[zaf (zac this aK)];exact this
theorem hd_pair{H:Hp}:∀{as:Nl} {zss:List Ta},(∀zs∈zss,∃h t,zs=h::t)→V' as zss→V9 as (zss.map λz=>z.headD "")
 |_,_,_,.nil=>.nil
 |_,_,h,.cons r t=>by obtain⟨x,u,rfl⟩:=h _ Qc;exact .cons ⟨u,r⟩ (hd_pair (λzs hz=>h zs (QM hz)) t)
abbrev sPiece:Stmt:=top 11
abbrev zih:Stmt:=top 12
def marks(ks:Nh):List (Key×V):=ks.map λz=>((Sum.inr z:Key),Tk)
def zh8(h:x∉ks):valV (marks ks) Ef=none:=by
 unfold marks;induction ks with
 |nil=>rfl
 |cons a t ih=>
  rw[Qi,not_or]at h;rw[Qo,zb7]
  ·exact ih h.2
  intro q;exact h.1 (Kk q).symm
def valM_in(h:x∈ks):valV (marks ks) Ef=some Ll:=by
 unfold marks;induction ks with
 |nil=>cases h
 |cons a t ih=>
  rw[Qo];by_cases e:a=x
  ·exact zdb (by rw[e])
  rw[zb7 (λq=>e (Kk q))];rcases Qi.mp h with z|z
  ·exact absurd z.symm e
  exact ih z
def putM_new(h:x∉ks):VC Ll=marks (ks++[x]):=by rw[zf4 _ (zh8 h)];unfold marks;rw[List.map_append];rfl
def putM_old(h:x∈ks):VC Ll=marks ks:=by
 unfold putK marks;rw[if_pos]
 ·rw[Zu];refine Jo λz _=>?_;show(if(Sum.inr z:Key)=Sum.inr x then((Sum.inr z:Key),Tk) else(Sum.inr z,Tk))=_;split<;>rfl
 exact Bc.mpr ⟨_,LL ⟨x,h,rfl⟩,Fr⟩
def mkeys(ks:Nh):((marks ks).map λp=>kV p.1)=ks.map V.str:=by unfold marks;rw[List.map_map];rfl
inductive IspPiece(vs:List V)(H:Hp)(Q:VK):Prop
 |mk (d:Nc) (es:List Ent) (cs:List (List (Str×Str))) (lab:Nx) (x:Str) (h0:vs=[.ref d,.str x]) (h1:TAt H d es) (h2:es.length≤60) (h3:Cert (es.map (·.1)) (row (rsOf es)) cs lab) (h4:x∈es.map (·.1)) (h5:∀(l:Nc) (zs:Nh) (H':Hp),H' l=some (.lst (zs.map V.str))→zs.Nodup→zs.Pairwise leS→(∀y,y∈zs↔y∈es.map (·.1)∧lab y=lab x)→H l=none→Keep [] H H'→Q (.ref l) H'):IspPiece vs H Q
def spPiece:Sp:=λvs H Q _=>IspPiece vs H Q
def seqO(b:Bool)(xs:List V):HO:=bif b then .tup xs else .lst xs
structure GAt(b:Bool)(H:Hp)(d:Nc)(es:List Ent):Prop where
 dc:H d=some HX
 ro:∀e∈es,H e.2.2=some (seqO b HW)
 nd:(RX (·.1)).Nodup
def GAt.keep(r:GAt b H d es)(k:WY H')(hd:d∉xs)(h:∀e∈es,e.2.2∉xs):GAt b H' d es:=⟨k _ _ r.dc hd,λe he=>k _ _ CS (h e he),r.nd⟩
def SqB(b:Bool)(K:Na)(H:Hp)(a:Nc)(xs:List V):Prop:=bif b then UB a xs else WW xs
def ItB(b:Bool)(K:Na)(a:Nc):It:=bif b then DF a else BA a
def SqB.of{b:Bool}{K:Na}{H:Hp}{a:Nc}{xs:List V}(h:H a=some (seqO b xs)):DY H a xs:=by
 cases b
 ·exact SqL.of h
 exact SqT.of h
def GAt.sq{b:Bool}{K:Na}{H:Hp}{d:Nc}{es:List Ent}{e:Ent}(r:GAt b H d es)(he:e∈es):DY H e.2.2 HW:=SqB.of CS
def iB(b:Bool)(K:Na)(tl:TE):TI:=λ σ H R=>tl σ H λx H1=>RI1 x (λa=>∃xs,DY H1 a xs) λa=>R (DZ a) H1
def pi_b(b:Bool){X:Cx}{tg l:Expr}{tl:TE}(hl:OP):JV l (iB b X.K tl):=by
 cases b
 ·exact zaz hl
 exact pi_tup hl
def for_b(b:Bool){K:Na}{a:Nc}{xs:List V}{g:TG}{tb:TS}{D:Ends}{σ:St}{H:Hp}(Pv:Nat→St→Hp→Prop)(h0:Co)(hl:∀i σ H,i≤xs.length→Pv i σ H→DY H a xs)(hs:∀i x σ H,xs[i]?=some x→Pv i σ H→g x σ H λ σ2 H2=>tb {D with nx:=Pv Gr,ct:=Pv Gr,bk:=D.nx} σ2 H2)(hd:∀σ H,Pv xs.length σ H→W8 H) :
  ∃W:Nat→Nat→St→Hp→Prop,(∃m,W 0 m σ H)∧∀i m σ H,W i m σ H →
   ((DZ a).stop i H∧W8 H)∨((DZ a).go i H∧∃N:St→Hp→Prop,Gi∧∀x H',(DZ a).yld i H x H'→g x σ H' λ σ2 H2=>tb {D with nx:=N,ct:=N,bk:=D.nx} σ2 H2):=by
 cases b
 ·exact zbs Pv h0 hl hs hd
 exact for_tup Pv h0 hl hs hd
inductive IspPieceG(b:Bool)(vs:List V)(H:Hp)(Q:VK):Prop
 |mk (d:Nc) (es:List Ent) (x:Str) (h0:vs=[.ref d,.str x]) (h1:GAt b H d es) (h2:es.length≤60) (h3:∀z y,y∈row (rsOf es) z→y∈es.map (·.1)) (h4:x∈es.map (·.1)) (h5:∀(l:Nc) (zs:Nh) (H':Hp),H' l=some (.lst (zs.map V.str))→zs.Nodup→zs.Pairwise leS→(∀y,y∈zs↔Conn (row (rsOf es)) x y)→H l=none→Keep [] H H'→Q (.ref l) H'):IspPieceG b vs H Q
def spPieceG(b:Bool):Sp:=λvs H Q _=>IspPieceG b vs H Q
def zgd:zar ["rounds", "start", "reached", "waiting", "place", "other"] ["rounds", "start"] (zaj sPiece):=fsk
def ok_pieceG(b:Bool){f:Nc}{fd:Nw}(F:Z1 "piece_from" "piece_from" sPiece f fd)(ay:mg "sorted" = none):ZB 1 f fd ["rounds", "start"] (spPieceG b):=by
 refine F.okL zgd Fx;obtain⟨d,es,x,rfl,T,ba,iG,hx,k⟩:=h;have hu:=zcm hr;have aJ  :=sizeLine_eq;refine⟨_,zae (BH zgd.nd (pe_disp (pps_cons RK zfg pps_nil) rfl rfl Fw Fw))
  (zae (JI zgd.nd Oq)
  (zae (M4 (zf5 HF (by intro _;rfl))
   (zae (X2 zgd.nd (pe_bm0 Qz PySem.F.slot_list_pop PySem.F.type_list_pop mt_pop HF))
   (zag (QH (pi_b b (Y9 SY)) (DW zgd.nd)
    (zag (zbt (IA Lc RM)
     (zae (MB rfl)
     (zag (Eo HF SV))) zaw))))))
  (zag (AE (X3 FX ay Yq Rg))))),?_⟩
 have ag:∀e∈es,ZO e.1=e.2.1:=λe he=>zbw T.nd he;refine λre iS=>⟨_,rfl,zab,[(Ef,Ll)],rfl,(by show 1≤15;decide),?_⟩;have gj:(zhr [] [((Sum.inr x:Key),Tk)])=marks [x]:=rfl;rw[gj];have kre:Keep [] H (Ij (ZU re (.dK [])) re (.dK (marks [x]))):=by rw[upd_upd];exact Keep.new iS
 have dO:(Ij (ZU re (.dK [])) re (.dK (marks [x]))) re=some (.dK (marks [x])):=zab;generalize upd (ZU re (.dK [])) re (.dK (marks [x]))=H1 at kre dO;refine⟨A5,SK,λwa rN=>?_⟩;have k2:Keep [] H (QI wa (.lst [TD])):=kre.trans (FM rN);have ju:H wa=none:=zap (xs:=[]) kre rN Fr;have n8:(QI wa (.lst [TD])) wa=some (FJ ([x].map V.str)):=zab;have pI:re≠wa:=zac dO rN;have fW:(QI wa (.lst [TD])) re=some (.dK (marks [x])):=by rw[zaf pI];exact dO
 generalize QI wa (.lst [TD])=H2 at k2 n8 fW;have T2:GAt b H2 d es:=T.keep k2 Fr (λ_ _=>by simp);have rl:d≠re:=V7 iS;have ndw:d≠wa:=V7 ju;have rowne:∀e∈es,e.2.2≠re∧e.2.2≠wa:=λe he=>⟨A0 (T.ro e he) iS,A0 (T.ro e he) ju⟩;refine⟨λm σ H'=>Aj3 (Ex2 λx4 x5=>σ=[LO,SO x,Fy re,Fy wa,x4,x5]) (Keep [re,wa] H2 H') (Ex2 λ(ks wl:Nh)=>Aj9 (H' re=some (Sm ks)) (H' wa=some (FJ (wl.map V.str))) ks.Nodup wl.Nodup (∀z∈wl,z∈ks) (∀z∈ks,z∈es.map (·.1)∧M5 z) (x∈ks) (∀z∈ks,z∉wl→∀y∈ZO z,y∈ks) (m=es.length+wl.length-ks.length)),
  ⟨_,⟨none,none,rfl⟩,Keep.refl,[x],[x],fW,n8,Zh.mpr ⟨Fr,Zy⟩,Zh.mpr ⟨Fr,Zy⟩,λz h=>h,λz h=>(by rw[Qd.mp h];exact⟨hx,.refl⟩),Qc,λz h h'=>absurd h h',rfl⟩,?_⟩
 rintro m σ H3 ⟨⟨x4,x5,rfl⟩,k3,ks,wl,cA,jw,iA,rM,pW,km,hxk,bJ,rfl⟩;have hkle:ks.length≤es.length:=by have:=zcu iA (m:=es.map (·.1)) λz hz=>(km z hz).1;rwa[Qa]at this
 have mZ:wl.length≤ks.length:=zcu rM pW;refine⟨A5,_,.inl ⟨_,FH jw,rfl⟩,?_⟩;rcases List.eq_nil_or_concat wl with eQ|⟨ini,z,eQ⟩
 ·-- all are reached
  subst eQ;refine W0 ?_;refine⟨A5,re,_,ks,rfl,Gm cA,mkeys ks,λl zs hl ae ai=>?_⟩;have kf:Keep [] H H3:=λc u ec _=>k3 c u (k2 c u ec Fr) (by simp[XH iS,XH ju]);refine k l zs _ zab (ae.nodup_iff.mpr iA) (ai Fs) (λy=>?_) (zap kf hl Fr) (kf.trans Cl);rw[ae.mem_iff];constructor
  ·exact λh=>(km y h).2
  intro hc;induction hc with
  |refl=>exact hxk
  |step _ hz ih=>exact bJ _ ih Fr _ hz
 rw[List.concat_eq_append]at eQ;subst eQ;refine zay (by rw[Qr];cases ini<;>rfl) ?_;refine⟨_,λ σ' H' zz=>zz,?_⟩;have dM:z∈ks:=pW z (YT Qc);obtain⟨en,be,dy⟩:=Ql.mp (km z dM).1;have mJ:en.1=z:=dy;rw[Zn]at rM;obtain⟨av,_,tP⟩:=rM;have hzi:z∉ini:=λq=>tP z q z Qc rfl;have cJ:((ini++[z]).map V.str)[((ini++[z]).map V.str).length-1]?=some To:=by rw[Qr,Qk,Uy Fr];simp
 have hV:((ini++[z]).map V.str).dropLast=ini.map V.str:=by rw[Qr];exact List.dropLast_concat
 refine⟨A5,Hd jw,wa,_,A5,rfl,jw,cJ,?_⟩;rw[hV];have k4:Keep [re,wa] H2 (WK wa SM):=k3.trans Ho;have n6:(WK wa SM) wa=some SM:=zab;have fV:(WK wa SM) re=some (Sm ks):=by rw[zaf pI];exact cA
 generalize WK wa SM=H4 at k4 n6 fV;have T4:GAt b H4 d es:=T2.keep k4 (by simp[rl,ndw]) λe he=>by simp[(rowne e he).1,(rowne e he).2]
 have dg:DGet H4 d To EE:=by have:=DGet.k (k:=Sum.inr en.1) T4.dc;rw[zf8 T4.nd be,mJ]at this;exact this
 have hrz:ZO z=en.2.1:=by rw[←mJ];exact ag en be
 refine⟨_,rfl,_,rfl,d,_,rfl,dg,en.2.2,rfl,⟨_,GAt.sq T4 be⟩,for_b b (xs:=en.2.1.map V.str) (λj σ H'=>Aj3 (Ex1 λx5=>σ=[LO,SO x,Fy re,Fy wa,SO z,x5]) (Keep [re,wa] H2 H') (Ex1 λ(nw:Nh)=>Aj5 (H' re=some (Sm (ks++nw))) (H' wa=some (FJ ((ini++nw).map V.str))) ((ks++nw).Nodup) (∀y∈nw,y∈es.map (·.1)∧M5 y) (∀y∈en.2.1.take j,y∈ks++nw)))
  ⟨⟨_,rfl⟩,k4,[],FA Zp fV,FA Zp n6,FA Zp iA,λy hy=>(by cases hy),λy hy=>(by cases hy)⟩
  (λj σ H' _ hh=>(SqB.of (TU (T2.ro en be) (by simp[(rowne en be).1,(rowne en be).2])))) ?_ ?_⟩
 ·rintro j y σ H5 hy ⟨⟨y5,rfl⟩,k5,nw,ce,iu,dl,dR,fH⟩;have hj:j<en.2.1.length:=by have:=(LP hy).1;rwa[Qa]at this
  have iN:y=.str en.2.1[j]:=by rw[Qt,Qb hj]at hy;exact(Qq hy).symm
  subst iN;have ij:en.2.1[j]∈ZO z:=by rw[hrz];exact Qn hj
  have bf:en.2.1.take (j+1)=en.2.1.take j++[en.2.1[j]]:=Qj hj;have hsz:(ks++nw).length≤es.length:=by
   have:=zcu dl (m:=es.map (·.1)) λq hq=>by
    rcases Qg.mp hq with h|h
    ·exact(km q h).1
    exact(dR q h).1
   rwa[Qa]at this
  have qH:=DGet.k (k:=Sum.inr en.2.1[j]) ce;by_cases av:en.2.1[j]∈ks++nw
  ·rw[valM_in av]at qH;refine⟨A5,A5,re,A5,qH,A5,W0 ?_⟩;refine⟨⟨A5⟩,k5,nw,ce,iu,dl,dR,λq hq=>?_⟩;rw[bf]at hq;rcases Qg.mp hq with h|h
   ·exact fH q h
   rw[Qd.mp h];exact av
  rw[zh8 av]at qH;refine⟨A5,A5,re,A5,qH,A5,WZ ?_⟩;refine⟨A5,A5,re,A5,DPut.k (k:=Sum.inr en.2.1[j]) ce (by unfold marks;rw[List.length_map];lia),?_⟩;rw[putM_new av];have jv:(QF re (Sm (ks++nw++[en.2.1[j]]))) wa=some (FJ ((ini++nw).map V.str)):=by rw[zaf (Zd pI)];exact iu
  have dN:(QF re (Sm (ks++nw++[en.2.1[j]]))) re=some (Sm (ks++nw++[en.2.1[j]])):=zab;have k6:Keep [re,wa] H2 (QF re (Sm (ks++nw++[en.2.1[j]]))):=k5.trans Ho;generalize QF re (Sm (ks++nw++[en.2.1[j]]))=H6 at jv dN k6;rw[Qk]at hsz;rw[Qk,Za,We]at mZ;refine⟨A5,Hd jv,A5,wa,_,A5,rfl,jv,(by rw[Qa,Qk];lia),?_⟩;refine⟨⟨A5⟩,k6.trans Ho,nw++[en.2.1[j]],by rw[zaf pI,←Zc];exact dN,by rw[zab,←Zc,Qr (l₂:=[en.2.1[j]])];rfl,?_,λq hq=>?_,λq hq=>?_⟩
  ·rw[← Zc,Zn];refine⟨dl,Zh.mpr ⟨Fr,Zy⟩,λa ha b hb e=>?_⟩;rw[Qd.mp hb]at e;exact av (e▸ha)
  ·rcases Qg.mp hq with h|h
   ·exact dR q h
   rw[Qd.mp h];exact⟨iG z _ ij,.step (km z dM).2 ij⟩
  rw[bf]at hq;rw[←Zc];rcases Qg.mp hq with h|h
  ·exact Y5 (fH q h)
  exact YT h
 rintro σ H5 ⟨⟨y5,rfl⟩,k5,nw,ce,iu,dl,dR,fH⟩;rw[Qa,Qm Gg]at fH;have hsz:(ks++nw).length≤es.length:=by
  have:=zcu dl (m:=es.map (·.1)) λq hq=>by
   rcases Qg.mp hq with h|h
   ·exact(km q h).1
   exact(dR q h).1
  rwa[Qa]at this
 have gh:=dl;rw[Zn]at gh;refine⟨es.length+(ini++nw).length-(ks++nw).length,?_,⟨_,A5⟩,k5,ks++nw,ini++nw,ce,iu,dl,?_,?_,?_,Y5 hxk,?_,rfl⟩
 ·rw[Qk]at hsz;rw[Qk,Qk,Qk,Za,We];rw[Qk,Za,We]at mZ;lia
 ·rw[Zn];refine⟨av,gh.2.1,λa ha b hb e=>gh.2.2 a (pW a (Y5 ha)) b hb e⟩
 ·intro q hq;rcases Qg.mp hq with h|h
  ·exact Y5 (pW q (Y5 h))
  exact YT h
 ·intro q hq;rcases Qg.mp hq with h|h
  ·exact km q h
  exact dR q h
 intro q hq jL y hy;rw[Qg,not_or]at jL;rcases Qg.mp hq with h|h
 ·by_cases hqz:q=z
  ·rw[hqz,hrz]at hy;exact fH y hy
  exact Y5 (bJ q h (by rw[Qg,not_or,Qd];exact⟨jL.1,hqz⟩) y hy)
 exact absurd h jL.2
def ok_piece(F:Z1 "piece_from" "piece_from" sPiece f fd)(ay:mg "sorted" = none):ZB 1 f fd ["rounds", "start"] spPiece:=
 (ok_pieceG true F ay).imp λvs H Q E ⟨d,es,cs,lab,x,e,T,ba,C,hx,k⟩=>⟨d,es,x,e,⟨T.dc,T.ro,T.nd⟩,ba,λz y h=>C.inn' h,hx,λl zs H' h1 h2 h3 h4=>k l zs H' h1 h2 h3 λy=>(h4 y).trans ⟨λh=>by
  induction h with
  |refl=>exact⟨hx,rfl⟩
  |step _ ij ih=>exact⟨C.inn' ij,(C.la _ _ ij).trans ih.2⟩,λh=>N4 h.1 h.2.symm⟩⟩
def zdt(ns:Nh)(lab:Nx)(zs:Nh):Prop:=zs.Nodup∧∃s∈ns,∀y,y∈zs↔y∈ns∧lab y=lab s
structure InRow(ns:Nh)(zss:List (List Str)):Prop where
 so:∀zs∈zss,zs.Pairwise leS
 hd:zss.Pairwise λa b=>a≠b∧∀x∈a.head?,∀y∈b.head?,leS x y
 al:∀y∈ns,∃zs∈zss,y∈zs
inductive IspPieces(vs:List V)(H:Hp)(Q:VK):Prop
 |mk (d:Nc) (es:List Ent) (cs:List (List (Str×Str))) (lab:Nx) (h0:vs=[.ref d]) (h1:TAt H d es) (h2:es.length≤60) (h3:Cert (es.map (·.1)) (row (rsOf es)) cs lab) (h4:∀(l:Nc) (as:Nl) (zss:List (List Str)) (H':Hp),H' l=some (.lst (as.map V.ref))→Paired (zbz H') as zss→(∀zs∈zss,zdt (es.map (·.1)) lab zs)→InRow (es.map (·.1)) zss→H l=none→(∀a∈as,H a=none)→Keep [] H H'→Q (.ref l) H'):IspPieces vs H Q
def spPieces:Sp:=λvs H Q _=>IspPieces vs H Q
def zdv:zar ["rounds", "found", "reached", "start", "piece", "place"] ["rounds"] (zaj zih):=fsk
def ok_pieces(F:Z1 "pieces_of" "pieces_of" zih f fd)(FP:Z1 "piece_from" "piece_from" sPiece fp fdp)(bP:Z3 fdp ["rounds", "start"] [])(mP:mg "piece_from" = some (Fu fp))(GP:ZB 1 fp fdp ["rounds", "start"] spPiece)(ay:mg "sorted" = none):ZB 2 f fd ["rounds"] spPieces:=by
 refine F.okL zdv Fx;obtain⟨d,es,cs,lab,rfl,T,ba,C,k⟩:=h;have hu:=zcm hr;have aJ  :=sizeLine_eq;refine⟨_,zae (X1 zdv.nd RD)
  (zae (BH zdv.nd pe_dnewK)
  (zae (QH Cm (DT zdv.nd)
   (zag (zbt (IA HF RM)
    (zae (X2 zdv.nd (M6 bP .nil zba (ZM Tt)))
    (zae (Eo RK TW)
    (zag (QH (zaz SY) (DW zdv.nd)
     (zag (MB rfl)))))) zaw)))
  (zag (AE RK)))),?_⟩
 refine⟨Tv,λfo gZ re iS=>?_⟩;have fU:H re=none:=zap (xs:=[]) (FM gZ) iS Fr;have rj:fo≠re:=zac (o:=_) zab iS;have k1:Keep [] H (Ij TK re (.dK [])):=(FM gZ).trans (FM iS);have dm:(Ij TK re (.dK [])) fo=some Ge:=by rw[zaf rj];exact zab
 have dO:(Ij TK re (.dK [])) re=some (.dK []):=zab;generalize upd TK re (.dK [])=H1 at k1 dm dO;have T1:TAt H1 d es:=MH Fr (λ_ _=>by simp);refine⟨A5,d,_,Gv,rfl,.inl T1.dc,zgz es,λl ws hl ae ai=>?_⟩;replace ai:=ai Rx;have k2:Keep [] H1 (QI l HN):=Keep.new hl;have au:(QI l HN) l=some HN:=zab;have nlf:l≠fo:=Zd (A0 dm hl);generalize QI l HN=H2 at k2 au;have gD:=k2 _ _ dm Fr;have fW:=k2 _ _ dO Fr;have nlr:l≠re:=zbg au fW FG;have T2:TAt H2 d es:=T1.keep k2 Fr (λ_ _=>by simp);have rB:Keep [] H H2:=k1.trans k2;have ndf:d≠fo:=V7 gZ;have rl:d≠re:=V7 fU;have eQ:ws.length=es.length:=by rw[ae.length_eq,Qa]
 refine⟨l,rfl,⟨_,FH au⟩,ze5 (zs:=ws) (λi σ H'=>Aj3 (Ex3 λx3 x4 x5=>σ=[LO,Fy fo,Fy re,x3,x4,x5]) (Keep [fo,re] H2 H') (Ex3 λ(as:Nl) (zss:List Ta) (ks:Nh)=>Aj8 (H' fo=some Hs) (H' re=some (Sm ks)) (Vw as zss) (∀zs∈zss,zdt Gv lab zs) (as.length≤i) ks.Nodup (∀z∈ks,z∈es.map (·.1)) (Aj7 (∀a∈as,a≠fo∧H a=none) (∀y∈ws.take i,y∈ks) (∀y∈ks,∃zs∈zss,y∈zs) (∀zs∈zss,∀y∈zs,y∈ks) (∀zs∈zss,∀x∈zs.head?,x∈ws.take i) (zss.Pairwise λa b=>a≠b∧∀x∈a.head?,∀y∈b.head?,leS x y) (∀zs∈zss,zs.Pairwise leS))))
  ⟨⟨_,_,_,rfl⟩,Keep.refl,[],[],[],gD,fW,.nil,λzs h=>(by cases h),Sv,Zy,λz h=>(by cases h),λz h=>(by cases h),λz h=>(by cases h),λz h=>(by cases h),λz h=>(by cases h),λz h=>(by cases h),List.Pairwise.nil,λz h=>(by cases h)⟩ (λi σ H' _ hh=>SqL.of (TU au (by simp[nlf,nlr]))) ?_ ?_⟩
 ·rintro i hi σ H3 ⟨⟨x3,x4,x5,rfl⟩,k3,as,zss,ks,gC,cA,dj,f8,tZ,iA,qo,gK,c1,c2,c6,c3,c4,c5⟩;have dg:=DGet.k (k:=Sum.inr ws[i]) cA;have T3:TAt H3 d es:=T2.keep k3 (by simp[ndf,rl]) λe he=>by have h1:=T.ro e he;simp[zac h1 gZ,zac h1 fU]
  by_cases av:ws[i]∈ks
  ·rw[valM_in av]at dg;refine⟨A5,A5,re,A5,dg,A5,W0 ?_⟩;refine⟨⟨_,_,A5⟩,k3,as,zss,ks,gC,cA,dj,f8,by exact zh5 ‹_›,iA,qo,gK,λy hy=>?_,c2,c6,λzs h x hx=>Wh (i:=i) (by rw[List.take_take,Nat.min_eq_left (Um i)];exact c3 zs h x hx),c4,c5⟩;rw[Qj hi]at hy;rcases Qg.mp hy with h|h
   ·exact c1 y h
   rw[Qd.mp h];exact av
  rw[zh8 av]at dg;refine⟨A5,A5,re,A5,dg,A5,WZ ?_⟩;have iq:=ae.mem_iff.mp C7;refine⟨A5,A5,d,es,cs,lab,ws[i],rfl,T3,ba,C,iq,λp zs H4 bp dy pT d8 nM k4=>?_⟩;obtain⟨jk,sX⟩:∃jk,jk=ks:=⟨_,rfl⟩;rw[←sX]at cA iA qo av c1 c2 c6;have gB:=k4 _ _ gC Fr;have fV:=k4 _ _ cA Fr;have npf:p≠fo:=Zd (A0 gC nM);have npr:p≠re:=zbg bp fV FG;refine⟨A5,Hd gB,A5,fo,_,A5,rfl,gB,Rx,?_⟩;have k5:Keep [fo,re] H2 (QJ fo Ow):=(RQ (k4.sub Fr)).trans Ho;have gA:(QJ fo Ow) fo=some (FJ ((as++[p]).map V.ref)):=by rw[zab,Qr];rfl
  have ce:(QJ fo Ow) re=some (Sm jk):=by rw[zaf (Zd rj)];exact fV
  have aY:(QJ fo Ow) p=some Ch:=by rw[zaf npf];exact bp
  have cC:Paired (zbz (QJ fo Ow)) (as++[p]) (zss++[zs]):=by
   refine zao ?_ (HY aY);have:∀{as:Nl} {zss:List Ta},Paired (zbz H3) as zss→(∀a∈as,a≠fo)→Paired (zbz (QJ fo Ow)) as zss:=λ{as zss} r ha=>by
    have h2:∀(L:List V),Paired (zbz (QJ fo (FJ L))) as zss:=λL=>by
     induction r with
     |nil=>exact .nil
     |cons h t ih=>exact .cons (by unfold zbz;rw[zaf (ha _ List.mem_cons_self)];exact k4 _ _ h Fr) (ih λa h=>ha a (ML h))
    exact h2 _
   exact this dj λa ha=>(gK a ha).1
  have oV:∀a∈as++[p],a≠fo∧H a=none:=λa ha=>by
   rcases Qg.mp ha with h|h
   ·exact gK a h
   rw[Qd.mp h];refine⟨npf,zap rB (zap k3 nM ?_) Fr⟩;simp[npf,npr]
  generalize QJ fo Ow=H5 at k5 gA ce aY cC;refine⟨_,rfl,p,rfl,⟨_,FH aY⟩,zbs (xs:=zs.map V.str) (λj σ H'=>Aj3 (Ex1 λx5=>σ=[LO,Fy fo,Fy re,He (.str ws[i]),Fy p,x5]) (Keep [re] H5 H') (Ex1 λ(ks:Nh)=>Aj4 (H' re=some (Sm ks)) ks.Nodup (∀z∈ks,z∈es.map (·.1)) (∀z,z∈ks↔z∈jk∨z∈zs.take j)))
   ⟨⟨_,rfl⟩,Keep.refl,jk,ce,iA,qo,λz=>⟨.inl,λh=>h.elim id λh=>(by cases h)⟩⟩ (λj σ H' _ hh=>SqL.of (TU aY (Fv npr))) ?_ ?_⟩
  ·rintro j y σ H6 hy ⟨⟨y5,rfl⟩,k6,jj,dN,gm,gn,cH⟩;have hj:j<zs.length:=by have:=(LP hy).1;rwa[Qa]at this
   obtain⟨z,hz,rfl,ez⟩:∃z,z∈zs∧y=V.str z∧z=zs[j]:=by rw[Qt,Qb hj]at hy;exact⟨zs[j],AH,(Qq hy).symm,rfl⟩
   have step:∀q,(q∈jj∨q=z)↔q∈jk∨q∈zs.take (j+1):=λq=>by rw[cH,Qj hj,Qg,Qd,ez,or_assoc]
   have hsz:jj.length≤es.length:=by have:=zcu gm gn;rwa[Qa]at this
   refine⟨A5,A5,re,A5,DPut.k (k:=Sum.inr z) dN (by unfold marks;rw[List.length_map];lia),⟨A5⟩,k6.trans Ho,?_⟩;by_cases dM:z∈jj
   ·exact⟨jj,by rw[zab,putM_old dM],gm,gn,λq=>by rw[←step q];exact⟨.inl,λh=>h.elim id λe=>e▸dM⟩⟩
   refine⟨jj++[z],by rw[zab,putM_new dM],?_,λq hq=>?_,λq=>by rw[← step q,Qg,Qd]⟩
   ·rw[Zn];refine⟨gm,Zh.mpr ⟨Fr,Zy⟩,λa ha b hb e=>?_⟩;rw[Qd.mp hb]at e;exact dM (e▸ha)
   rcases Qg.mp hq with h|h
   ·exact gn q h
   rw[Qd.mp h];exact((d8 z).mp hz).1
  rintro σ H6 ⟨⟨y5,rfl⟩,k6,jj,dN,gm,gn,cH⟩;rw[Qa,Qm Gg]at cH;have lF:ws[i]∈zs:=(d8 _).mpr ⟨iq,rfl⟩;have iX:zs.head?=some ws[i]:=by
   cases rG:zs with
   |nil=>rw[rG]at lF;cases lF
   | cons m t=>
    have hmz:m∈zs:=by rw[rG];exact Qc
    obtain⟨qk,dB⟩:=(d8 m).mp hmz;obtain⟨j,hj,ej⟩:=Zg (Ca qk);have h1:leS m ws[i]:=by
     rw[rG]at lF pT;rcases Qi.mp lF with q|q
     ·rw[q];exact λz=>Ua _ z
     exact(Wo.mp pT).1 _ q
    have fm:i≤j:=Kr λad=>by have gj:m∈jk:=c1 m (by rw[←ej,←Jj (j:=i) (h:=by rw[Ze];lia)];exact Qn _);obtain⟨bQ,mQ,sP⟩:=c2 m gj;obtain⟨_,s,_,hs⟩:=f8 bQ mQ;exact av (c6 bQ mQ _ ((hs _).mpr ⟨iq,dB.symm.trans ((hs m).mp sP).2⟩))
    have h2:leS ws[i] m:=by
     rcases Nat.lt_or_eq_of_le fm with q|q
     ·rw[←ej];exact Jd.mp ai i j hi hj q
     subst q;rw[ej];exact λz=>Ua _ z
    rw[D0 h1 h2];rfl
  have tk:ws.take Gr=ws.take i++[ws[i]]:=Qj hi;refine⟨⟨_,_,A5⟩,k5.trans (k6.sub Fr),as++[p],zss++[zs],jj,k6 _ _ gA (Fv rj),dN,Paired.imp' (λa zs h=>k6 _ _ h (by simpa using zbg h ce FG)) cC,λq hq=>?_,by rw[Qk];show _+1≤_;exact zar4 ‹_›,gm,gn,oV,λy hy=>?_,λy hy=>?_,λq hq y hy=>?_,λq hq x hx=>?_,?_,λq hq=>?_⟩
  ·rcases Qg.mp hq with h|h
   ·exact f8 q h
   rw[Qd.mp h];exact⟨dy,ws[i],iq,d8⟩
  ·rw[tk]at hy;rcases Qg.mp hy with h|h
   ·exact(cH y).mpr (Gm (c1 y h))
   rw[Qd.mp h];exact(cH _).mpr (Ru lF)
  ·rcases (cH y).mp hy with h|h
   ·obtain⟨z,hz,iN⟩:=c2 y h;exact⟨z,Y5 hz,iN⟩
   exact⟨zs,YT Qc,h⟩
  ·rcases Qg.mp hq with h|h
   ·exact(cH y).mpr (Gm (c6 q h y hy))
   rw[Qd.mp h]at hy;exact(cH y).mpr IR
  ·rw[tk];rcases Qg.mp hq with h|h
   ·exact Y5 (c3 q h x hx)
   rw[Qd.mp h,iX]at hx;rw[←Qq hx];exact YT Qc
  ·rw[Zv];refine⟨c4,Mn _,λa ha b hb=>⟨?_,λx hx y hy=>?_⟩⟩
   ·rintro rfl;rw[Qd.mp hb]at ha;exact av (c6 zs ha _ lF)
   rw[Qd.mp hb,iX]at hy;rw[←Qq hy];obtain⟨j,hj,ej⟩:=Zg (c3 a ha x hx);rw[Ze]at hj;rw[←ej,Jj];exact Jd.mp ai j i Fs hi Fs
  rcases Qg.mp hq with h|h
  ·exact c5 q h
  rw[Qd.mp h];exact pT
 rintro σ H3 ⟨⟨x3,x4,x5,rfl⟩,k3,as,zss,ks,gC,cA,dj,f8,tZ,iA,qo,gK,c1,c2,c6,c3,c4,c5⟩;rw[Qa,Qm Gg]at c1;refine⟨A5,k fo as zss H3 gC dj f8 ⟨c5,c4,λy hy=>c2 y (c1 y (Ca hy))⟩ gZ (λa ha=>(gK a ha).2) λc u ec _=>k3 c u (rB c u ec Fr) (by simp[XH gZ,XH fU])⟩
end
end K21
namespace L2
open PySem
def ziv(T:St→Prop)(q:V→Bool)(ha:WW xs)(hn:xs.length≤sizeLine)(h0:T τ)(hs:∀x∈xs,∀τ,T τ→∀(k1:V→St→Hp→Prop) (k0:St→Hp→Prop),(q x=true→∀τ2,T τ2→k1 x τ2 H)→(q x=false→∀τ2,T τ2→MY H)→g x τ H λ τ2 H2=>tc τ2 H2 λb H3=>if b=true then te τ2 H3 λy H4=>k1 y τ2 H4 else MY H3)(hq:∀D,H D=none→Q HQ (RC D (xs.filter q))):Y7 Pq τ H:=by
 refine⟨λi m ys τ H1=>Aj5 (H1=H) (T τ) (m=xs.length-i) (i≤xs.length) (ys=(Lp i).filter q),⟨_,rfl,h0,rfl,Sv,rfl⟩,?_⟩;rintro i m ys τ H1 ⟨rfl,ht,rfl,hi,rfl⟩;by_cases ad:i<xs.length
 ·have tJ:((Lp i).filter q).length≤i:=Bt (by rw[Ze];lia);refine .inr ⟨⟨xs,xs[i],ha,Qb ad⟩,Fs,?_⟩;rintro x H' ⟨rfl,hx⟩;have bv:=hx xs ha;rw[Qb ad]at bv;have eN:xs[i]=x:=Qq bv;have bf:xs.take Gr=xs.take i++[x]:=by rw[Qj ad,eN]
  refine hs x (eN▸Qn ad) τ ht (λy τ2 H4=>∃m',m'<xs.length-i∧Aj5 (H4=H') (T τ2) (m'=xs.length-Gr) (i+1≤xs.length) ((Lp i).filter q++[y]=(Lp Gr).filter q))
   (λ τ2 H4=>∃m',m'<xs.length-i∧Aj5 (H4=H') (T τ2) (m'=xs.length-Gr) (i+1≤xs.length) ((Lp i).filter q=(Lp Gr).filter q)) (λjK τ2 h2=>?_) λjK τ2 h2=>?_
  ·exact⟨_,Gk,rfl,h2,rfl,ad,by rw[bf,Wc,Wn jK,Ug]⟩
  exact⟨_,Gk,rfl,h2,rfl,ad,by rw[bf,Wc,Wg (by rw[jK];decide),Ug,Zp]⟩
 have e:i=xs.length:=by exact zar3 ‹_› ‹_›
 subst e;refine .inl ⟨⟨xs,ha,Gg⟩,λD hD=>?_⟩;rw[Qm Gg];exact hq D hD
end L2
namespace K21
open PySem L2 Wb
def iso_eq{es:List Ent}(nd:(RX (·.1)).Nodup):zcv es=(RX (·.1)).filter λx=>(ZO x).isEmpty:=by unfold zcv;rw[Xc];congr 1;exact List.filter_congr λe he=>by show e.2.1.isEmpty=(ZO e.1).isEmpty;rw[zbw nd he]
def ziw(hK:X.K=K):DI (rIxL K):=hK▸zau
def zhp(hK:X.K=K):WS (compareOp .In) (rIn K false):=hK▸op_in_seq
def ze8(hK:X.K=K):YV (.builtin "len") (λxs H Q=>Ex2 λp ys=>Aj3 (xs=[Te]) (W3 p ys∨UB p ys) (Q Cv H)):=hK▸zak
abbrev sFlat:Stmt:=top 19
abbrev sNF:Stmt:=inClass (top 6) 0
abbrev iNt(n:Nat):V:=.int (n:Int)
abbrev T3:=Nat×Nat×Nat
def zbm(r:Nt)(fc:List Ta)(zs:Nh):T3:=(zs.length,(zs.map λx=>(r x).length).sum/2,(fc.filter λf=>decide (f.headD "" ∈ zs)).length)
def badT(t:T3):Bool:=decide (t.1+t.2.2≠t.2.1+2)
def fldT(t:T3):List (Str×V):=[("many_places",iNt t.1),("many_ties",iNt t.2.1),("many_faces",iNt t.2.2)]
inductive IspNF(C:Nc)(vs:List V)(H:Hp)(Q:VK):Prop
 |mk (e:Nc) (t:T3) (h0:vs=[.ref e,iNt t.1,iNt t.2.1,iNt t.2.2]) (h1:H e=some (XcO e C none)) (h2:t.1<10 ^ 8∧t.2.1<10 ^ 8∧t.2.2<10 ^ 8) (h3:∀(d:Nc) (H':Hp),H' d=some (XdO d (fldT t))→H' e=some (XcO e C (some d))→d≠e→Keep [e] H H'→Q .non H'):IspNF C vs H Q
def spNF(C:Nc):Sp:=λvs H Q _=>IspNF C vs H Q
inductive IspFlatX(C:Nc)(vs:List V)(H:Hp)(Q:VK)(E:XK):Prop
 | mk (d:Nc) (es:List Ent) (cs:List (List (Str×Str))) (lab:Nx) (h0:vs=[.ref d]) (h1:TAt H d es) (h2:es.length≤60) (h3:(∀ e∈es,e.2.1.length≤100)) (h4:Cert (es.map (·.1)) (row (rsOf es)) cs lab)
   (h5:∀(fc zss:List Ta) (Ls:List Gy) (H':Hp),fc.Perm ((zcv es).map sing++Ls.map nmL)→JT Ls→(∀zs∈zss,zdt Gv lab zs)→InRow Gv zss→Keep [] H H'→((Ah (ZS fc)).find? badT=none→Q .non H')∧∀t,(Ah (ZS fc)).find? badT=some t→∀d,H' d=some (DU (fldT t))→E Hw PX H'):IspFlatX C vs H Q E
def spFlat(C:Nc):Sp:=IspFlatX C
def sum_le{β:Type}{f:β→Nat}{n:Nat}:∀{l:List β},(∀z∈l,f z≤n)→(Om f).sum≤l.length*n:=by
 intro l;induction l with
 |nil=>intro _;exact Zo _
 |cons z t ih=>intro h;have h1:=ih λy hy=>h y Iu;have h2:=h z Qc;rw[Qo,List.sum_cons,Za,Nat.succ_mul];lia
def take_bad{β γ:Type}{f:β→γ}{q:γ→Bool}{l:List β}{i:Nat}(hi:i<l.length)(h0:∀z∈l.take i,q (f z)=false)(h:q (f l[i])=true):(Om f).find? q=some (f l[i]):=by
 have e:l.map f=(l.take i).map f++f l[i]::(l.drop Gr).map f:=by rw[←Qo,←Zz hi,←Qr,Zq]
 rw[e,Xp,Yx.mpr (λy hy=>by obtain⟨z,hz,rfl⟩:=Ql.mp hy;rw[h0 z hz];decide),Wj h];rfl
def ndFB:(["face", "piece"]:List Str).Nodup:=by decide+kernel
def inPc(H:Hp)(zs:Nh):V→Bool
 |.ref a=>match H a with
  |some (.lst (.str h::_))=>decide (h∈zs)
  |_=>false
 |_=>false
def ziy(e:ze9 H a h):inPc H zs Ht=decide (h∈zs):=by obtain⟨t,e⟩:=e;show(match H a with|some (.lst (.str h::_))=>decide (h∈zs)|_=>false)=_;rw[e];rfl
def filt_len(r:V9 as hd):((as.map V.ref).filter (inPc H zs)).length=(hd.filter λh=>decide (h∈zs)).length:=by
 induction r with
 |nil=>rfl
 |cons h t ih=>
  rename_i a b _ _;rw[Qo];have e:=ziy (zs:=zs) h;by_cases hz:b∈zs
  ·rw[Wn (by rw[e];simpa using hz),Wn (Fv hz),Za,Za,ih]
  rw[Wg (by rw[e];simpa using hz),Wg (Fv hz),ih]
def sum_cast(ns:List Nat):(ns.map λn:Nat=>(n:Int)).sum=((ns.sum:Nat):Int):=by
 induction ns with
 |nil=>rfl
 |cons a t ih=>rw[Qo,List.sum_cons,List.sum_cons,ih];lia
section
variable{P:Nk}{w:Nn}{K:Na}{mg:Ng}{base:No}
def scNF:zar ["self", "many_places", "many_ties", "many_faces"] ["self", "many_places", "many_ties", "many_faces"] (zaj sNF):=fsk
def ok_nf(F:Z1 "__init__" "NotFlat.__init__" sNF f fd)(c:QY f)(b:Bas K HE "__init__" "ValueError.__init__")(hE:mg "HueError" = some (Fu HE))(a1:XO "many_places")(a2:XO "many_ties")(a3:XO "many_faces"):ZB 1 f fd ["self", "many_places", "many_ties", "many_faces"] (spNF C):=by
 refine F.okL scNF Fx;obtain⟨e,t,rfl,he,⟨b1,b2,b3⟩,k⟩:=h;refine⟨_,zae (za2 (NZ (Ae (pe_fs (pj_str Fw (pj_int RK (pj_str Fw (pj_int RM (pj_str Fw (pj_int (pv 3) pj_nil)))))) Fw))))
  (Dg (zae (Bx RM rfl) (zag (Bx HF rfl)))),?_⟩
 have na:∀{n:Nat},n<10 ^ 8→(n:Int).natAbs<10 ^ 9:=λ{n} h=>by rw[Int.natAbs_natCast];lia
 refine⟨A5,⟨A5,A5,na b1,rfl,A5,A5,na b2,rfl,A5,A5,na b3,rfl,True.intro⟩,λz=>⟨e,C,HE,f,none,To,rfl,he,c,?_⟩⟩;refine⟨A5,A5,.new e C HE f rfl he c a1 λd hd am=>?_⟩;refine⟨A5,A5,.old e C HE f d _ rfl zab c a2 (by rw[zaf am,zab]) (by show 1<1000;lia) ?_⟩;refine⟨A5,A5,.old e C HE f d _ rfl (by rw[zaf (Zd am),zab]) c a3 zab (by show 2<1000;lia) ?_⟩;refine k d _ zab (by rw[zaf (Zd am),zaf (Zd am),zab]) am λb u hb hx=>?_;have n1:b≠d:=λz=>by rw[z,hd]at hb;cases hb
 have n2:b≠e:=λz=>hx C4;rw[zaf n1,zaf n1,zaf n2,zaf n1];exact hb
def zfq:zar ["rounds", "found", "piece", "many_places", "many_ties", "many_faces"] ["rounds"] (zaj sFlat):=fsk
def ok_flat(F:Z1 "refuse_not_flat" "refuse_not_flat" sFlat f fd)(nN:mg "NotFlat" = some Hw)(kN:Q9 Hw=true)(cN:QY fi)(bN:Z3 fdi ["self", "many_places", "many_ties", "many_faces"] [])(GN:ZB 1 fi fdi ["self", "many_places", "many_ties", "many_faces"] (spNF C))(FF:Z1 "faces_of" "faces_of" sFaces ff fdf)(bF:Z3 fdf ["rounds"] [])(mF:mg "faces_of" = some (Fu ff))(GF:ZB 2 ff fdf ["rounds"] spFacesO)(FP:Z1 "pieces_of" "pieces_of" zih fp fdp)(bP:Z3 fdp ["rounds"] [])(mP:mg "pieces_of" = some (Fu fp))(GP:ZB 2 fp fdp ["rounds"] spPieces)(aa:G')(jF:mg "sum" = none):ZC Ly 3 f fd ["rounds"] (spFlat C):=by
 refine F.okX zfq (λvs H Q E h=>by obtain⟨d,es,cs,lab,rfl,_⟩:=h;rfl) Fx;obtain⟨d,es,cs,lab,rfl,T,ba,bw,C,k⟩:=h;have hu:=zcm hr;have aJ  :=sizeLine_eq;refine⟨_,zae (X1 zfq.nd A2)
  (zag (BP (zaz (M6 bP .nil zba Re)) (zgk (i:=2) zfq.nd rfl Tq)
   (zae (JI zfq.nd (RJ Rg))
   (zae (X2 zfq.nd (VD (Dz FX jF PyProof.Rows.boot_sum (zaa (zfw (M:=["place", "rounds"]) (ix:=[none,He 0]) (mkB zfq) rfl (zaz RM) (λC a7 ex s H=>JH ndF) (λC a7 ex s H=>zcp)
      (λC a7 ex s H=>zai (ze8 (K:=K) rfl) FX (by exact aa) Zj (Hf (zfx (by exact hu) RK (pv 0))))) zad)) zah))
   (zae (zas 5 zfq.nd (QW FX aa Zj (zaa (zfw (M:=["face", "piece"]) (ix:=[none,He 2]) (mkB zfq) rfl (zaz RK) (λC a7 ex s H=>JH ndFB)
      (λC a7 ex s H=>zdo (zan (zhp (K:=K) rfl) (zbb (ziw (K:=K) rfl) Hx zah FV) RK rfl)) (λC a7 ex s H=>pv 0)) zad)))
   (zag (Ep (MJ (QU HF Lc) (QU SY zah) HP) (zag (K' (Q3 (Q4 SV)))))))))))  ,?_⟩
 refine⟨A5,d,es,cs,lab,rfl,T,ba,bw,C,λfo fas fc Ls lg H1 dm oE qt fq _ cY _ _ _ _ k1=>?_⟩;have am:∀z∈fc,∃h t,z=h::t:=λz hz=>by
  rcases Qg.mp (fq.mem_iff.mp hz) with y|y
  ·obtain⟨x,_,rfl⟩:=Ql.mp y;exact⟨x,[],rfl⟩
  obtain⟨L,hL,rfl⟩:=Ql.mp y;obtain⟨u,v,e,_⟩:=(cY.fa L hL).cy;rw[e];exact⟨_,A5⟩
 have tG:=hd_pair am qt;have T1:TAt H1 d es:=MH Fr (λ_ _=>by simp);refine⟨A5,d,es,cs,lab,rfl,T1,ba,C,λl as zss H2 au bH f8 ag _ _ k2=>?_⟩;have T2:TAt H2 d es:=T1.keep k2 Fr (λ_ _=>by simp);have gD:=k2 _ _ dm Fr;have kG:Dh (fc.map λz=>z.headD ""):=zdz (D:=d) (g:=d) k2 tG (λ_ _ _ _=>by simp);refine⟨l,rfl,⟨_,FH au⟩,zbs (xs:=as.map V.ref) (λi σ H'=>Aj3 (∀zs∈zss.take i,badT E8=false) (Keep [] H2 H') (Ex4 λx2 x3 x4 x5=>σ=[LO,Fy fo,x2,x3,x4,x5])) ⟨λzs h=>(by cases h),Keep.refl,_,_,_,_,rfl⟩ (λi σ H' _ hh=>SqL.of (TU au Fr)) ?_ ?_⟩
 ·rintro i y σ H3 hx ⟨cu,k3,x2,x3,x4,x5,rfl⟩;have hi:i<as.length:=by have:=(LP hx).1;rwa[Qa]at this
  have ik:y=.ref as[i]:=by rw[Qt,Qb hi]at hx;exact(Qq hx).symm
  subst ik;obtain⟨ao,aO⟩:=za0 bH hi;have sr:=f8 _ Pe;obtain⟨zs,cP⟩:∃zs,zs=zss[i]:=⟨_,rfl⟩;rw[←cP]at aO sr;have iH:H3 as[i]=some Ch:=k3 _ _ aO Fr;have db:∀z∈zs,∃e∈es,e.1=z:=λz hz=>by obtain⟨_,s,_,hm⟩:=sr;exact Ql.mp ((hm z).mp hz).1
  have dz:zs.length≤100:=by
   have:=zcu sr.1 (m:=es.map (·.1)) λz hz=>by obtain⟨e,he,rfl⟩:=db z hz;exact Ql.mpr ⟨e,he,rfl⟩
   rw[Qa]at this;lia
  refine⟨A5,as[i],A5,HJ iH,?_⟩;have T3:TAt H3 d es:=T2.keep k3 Fr (λ_ _=>by simp);refine⟨A5,as[i],rfl,⟨_,FH iH⟩,lc_at (xs:=zs.map V.str) (λ τ=>∃x0,τ=[x0,LO]) ((zs.map λx=>((ZO x).length:Int)).map V.int) (by rw[Qa,Qa,Qa]) (FH iH) Rx ⟨none,rfl⟩ ?_ (λD hD=>?_)⟩
  ·rintro j hj gp τ ⟨x0,rfl⟩ kk hk;rw[Qa]at hj;rw[Zm];obtain⟨en,be,aE⟩:=db _ AH;have dg:DGet H3 d (.str zs[j]) EE:=by have:=DGet.k (k:=Sum.inr en.1) T3.dc;rw[zf8 T3.nd be,aE]at this;exact this
   refine⟨A5,A5,d,A5,dg,en.2.2,A5,.inr (HV (T3.ro en be)),?_⟩;have e:((zs.map λx=>((ZO x).length:Int)).map V.int)[j]=V.int ((en.2.1.map V.str).length:Int):=by rw[Zm,Zm,←aE,Fm be,Qa]
   rw[e]at hk;exact hk _ ⟨_,rfl⟩
  generalize fE:WK D _=H4;obtain⟨k4,hD4⟩:=Dw fE;refine⟨D,A5,FH hD4,Rx,λn hn=>?_,?_⟩
  ·obtain⟨z,hz,rfl⟩:=Ql.mp hn;obtain⟨en,be,aE⟩:=db z hz;have h1:=bw en be;rw[←aE,Fm be];lia
  have fQ:(zs.map λx=>((ZO x).length:Int)).sum=(((zs.map λx=>(ZO x).length).sum:Nat):Int):=by rw[←sum_cast,Zu];rfl
  rw[fQ];refine⟨_,A5,rfl,⟨Fw,Fw⟩,?_⟩;have gB:=k4 _ _ (Cj gD) Fr;have u0:=k4 _ _ iH Fr;have om:Paired (ze9 H4) fas (fc.map λz=>z.headD ""):=zdz (D:=d) (g:=d) OL kG (λ_ _ _ _=>by simp);refine⟨A5,fo,rfl,⟨_,FH gB⟩,ziv (xs:=fas.map V.ref) (λ τ=>∃x0,τ=[x0,He (.ref as[i])]) (inPc H4 zs) (FH gB) Rx ⟨none,rfl⟩ ?_ (λD2 l4=>?_)⟩
  ·rintro x hx τ ⟨x0,rfl⟩ mx my oh oi;obtain⟨a,ha,rfl⟩:=Ql.mp hx;obtain⟨j,hj,rfl⟩:=Zg ha;obtain⟨cq,cX⟩:=za0 om hj;have av:=ziy (zs:=zs) cX;obtain⟨t,et⟩:=cX;refine⟨A5,fas[j],_,_,A5,rfl,FH et,zav (j:=0) rfl,A5,as[i],A5,HJ u0,rfl,zcx zs,A5,?_⟩;cases hb:decide ((fc.map λz=>z.headD "")[j]∈zs) with
   |true=>exact zay (show inV _ _=true by rw[zeg];exact hb) ⟨_,rfl,oh Em _ ⟨_,rfl⟩⟩
   |false=>exact zal (show inV _ _=false by rw[zeg];exact hb) (oi Em _ ⟨_,rfl⟩)
  have k5:Keep [] H4 (QJ D2 (FJ ((fas.map V.ref).filter (inPc H4 zs)))):=Keep.new l4;refine⟨D2,A5,HJ zab,?_⟩;rw[filt_len om];have kQ:((fc.map λz=>z.headD "").filter λh=>decide (h∈zs)).length=(ZS fc zs).2.2:=by rw[Xc,Qa];rfl
  have jC:((((zs.map λx=>(ZO x).length).sum:Nat):Int)/2)=(((ZS fc zs).2.1:Nat):Int):=rfl;rw[kQ,jC];have bo:(zs.map V.str).length=(ZS fc zs).1:=Qa _;rw[bo];refine⟨A5,A5,_,A5,rfl,A5,_,A5,rfl,rfl,A5,?_⟩;cases aT:badT E8 with
  |false=>
   refine zal ?_ ⟨λz hz=>?_,(RQ k4).trans k5,_,_,_,_,rfl⟩
   ·rw[Jv,decide_eq_true_iff];refine congrArg V.int ?_;have:=of_decide_eq_false aT;lia
   rw[Qj ao]at hz;rcases Qg.mp hz with y|y
   ·exact cu z y
   rw[Qd.mp y,←cP];exact aT
  | true=>
   refine zay ?_ ?_
   ·rw[Ym,decide_eq_false_iff_not];intro z;have z:=V.int.inj z;have:=of_decide_eq_true aT;lia
   have oC:(Ah (ZS fc)).find? badT=some E8:=by have:=take_bad (f:=ZS fc) (q:=badT) ao cu (by rw[←cP];exact aT);rw[←cP]at this;exact this
   have hmf:(fc.filter λf=>decide (f.headD "" ∈ zs)).length≤20000:=Bt (by rw[←Zl qt];exact oE);refine⟨A5,A5,A5,(by show 3≤sizeLine;lia),λe he=>⟨e,E8,rfl,zab,⟨?_,?_,?_⟩,λdx H6 oM tN jW k6=>⟨rfl,He dx,tN,?_⟩⟩⟩
   ·show zs.length<_;lia
   ·have h1:(zs.map λx=>(ZO x).length).sum≤zs.length*100:=by refine sum_le λz hz=>?_;obtain⟨en,be,aE⟩:=db z hz;rw[←aE,Fm be];exact bw en be
    show(zs.map λx=>(ZO x).length).sum/2<_;lia
   ·show(fc.filter λf=>decide (f.headD "" ∈ zs)).length<_;lia
   have kk:Keep [] H Ot:=λc u hc _=>by
    have h5:=(RQ k4).trans k5;have l6:=h5 c u (k2 c u (k1 c u hc Fr) Fr) Fr;have nce:c≠e:=λz=>by rw[z,he]at l6;cases l6
    rw[zco nce];exact k6 c u (FQ nce l6) (Fv nce)
   exact(k fc zss Ls Ot fq cY f8 ag kk).2 _ oC dx (by rw[zco jW];exact oM)
 rintro σ H3 ⟨cu,k3,x2,x3,x4,x5,rfl⟩;rw[Qa,Zl bH,Qm Gg]at cu;refine(k fc zss Ls H3 fq cY f8 ag ((SL k2).trans k3)).1 (Yx.mpr λy hy=>?_);obtain⟨z,hz,rfl⟩:=Ql.mp hy;rw[cu z hz];decide
abbrev sInit:Stmt:=inClass sWeb 0
abbrev zh0:List Ent→List Ent→Prop:=Paired λt e=>t.1=e.1∧∃k,t.2.1=e.2.1.drop k++e.2.1.take k
abbrev RwE:List Ro→List Ent→Prop:=Paired λr e=>r.1=.str e.1∧r.2.1=e.2.1.map V.str∧r.2.2=e.2.2
def rwe_of{rs:List Ro}(h:rs.all okR=true):∃ es,Ma es:=by
 induction rs with
 |nil=>exact⟨[],.nil⟩
 | cons r t ih=>
  rw[Ws,Yn]at h;obtain⟨es,he⟩:=ih h.2;have tx:∀{v:V},nmV v=true→∃z,v=.str z:=λ{v} q=>by
   cases v with
   |str z=>exact⟨z,rfl⟩
   |_=>cases q
  have h1:=Yc.mp h.1;obtain⟨z,hz⟩:=tx (h1 r.1 Qc);obtain⟨zs,cP⟩:∃zs:List Str,r.2.1=zs.map V.str:=by
   have:∀l:List V,(∀v∈l,nmV v=true)→∃zs:List Str,l=zs.map V.str:=λl=>by
    induction l with
    |nil=>intro _;exact⟨[],rfl⟩
    |cons v l ih=>intro q;obtain⟨z,rfl⟩:=tx (q v Qc);obtain⟨zs,rfl⟩:=ih λv hv=>q v IT;exact⟨z::zs,rfl⟩
   exact this _ λv hv=>h1 v IT
  exact⟨(z,zs,r.2.2)::es,Ez ⟨hz,cP,rfl⟩ he⟩
def RwE.mem{rs:List Ro}{es:List Ent}(h:Ma es){e:Ent}(he:e∈es):∃r∈rs,r.1=.str e.1∧r.2.1=e.2.1.map V.str∧r.2.2=e.2.2:=by
 induction h with
 |nil=>cases he
 |cons h _ ih=>
  rcases Qi.mp he with z|z
  ·subst z;exact⟨_,Qc,h⟩
  obtain⟨r,hr,q⟩:=ih z;exact⟨r,QM hr,q⟩
def RoAt.rw{H:Hp}{l:Nc}{as:Nl}{rs:List Ro}{es:List Ent}(R:NY rs)(h:Ma es):NX es:=by
 refine⟨R.ls,?_,λe he=>?_⟩
 ·have:=R.ts;clear R;induction h generalizing as with
  |nil=>cases this;exact .nil
  |cons h _ ih=>cases this with
   |cons h1 t1=>exact .cons (by rw[h1,h.1,h.2.2]) (ih t1)
 obtain⟨r,hr,_,h2,h3⟩:=h.mem he;rw[←h3,←h2];exact R.ro r hr
def RwE.names{rs:List Ro}{es:List Ent}(h:Ma es)(hok:rs.all okR=true):∀e∈es,zb6 e.1∧∀x∈e.2.1,zb6 x:=λe he=>by
 obtain⟨r,hr,h1,h2,_⟩:=h.mem he;have q:=Yc.mp (Yc.mp hok r hr);refine⟨zis.mp ?_,λx hx=>zis.mp ?_⟩
 ·have:=q r.1 Qc;rw[h1]at this;exact this
 exact q TD (QM (by rw[h2];exact Ql.mpr ⟨x,hx,rfl⟩))
def rows_sy{es:List Ent}(h1:twOk es=true)(h2:(zb0 es).find? LB=none):Sy Gv Hv:=by
 unfold twOk at h1;rw[Ws,Yn,decide_eq_true_iff,Yc]at h1;have nd:=h1.1;have rn:∀e∈es,e.2.1.Nodup:=λe he=>of_decide_eq_true (h1.2 _ (LL ⟨e,he,rfl⟩));have ro:∀x,x∉es.map (·.1)→ZO x=[]:=λx hx=>zdn (by unfold rsOf;rw[List.map_map];exact hx);have tie:∀x y,y∈ZO x→y≠x∧x∈ZO y:=λx y hy=>by
  have hx:x∈es.map (·.1):=Yp λz=>by rw[ro x z]at hy;cases hy
  obtain⟨e,he,rfl⟩:=Ql.mp hx;rw[zbw nd he]at hy;have:=Yx.mp h2 (e.1,y) (Bb.mpr ⟨e,he,LL ⟨y,hy,rfl⟩⟩);have:=of_decide_eq_false (Jk.mpr this);exact⟨λz=>this PD,Yp λz=>this (Ru z)⟩
 refine⟨nd,ro,λx=>?_,λx h=>(tie x x h).1 rfl,λx y h=>(tie x y h).2⟩;by_cases hx:x∈es.map (·.1)
 ·obtain⟨e,he,rfl⟩:=Ql.mp hx;rw[zbw nd he];exact rn e he
 rw[ro x hx];exact Zy
structure Cls4 where
 c1:Addr
 c2:Addr
 c3:Addr
 c4:Addr
def Told(cc:Cls4)(es:List Ent)(Q:Hp→Prop)(E:XK)(H':Hp):Prop:=
 (twOk es=false→E CW none H')∧(twOk es=true→(∀ p,(zb0 es).find? LB=some p→∀ d,H' d=some O4→E Ld PX H')∧((zb0 es).find? LB=none→∀ (cs:List Gy) (lab:Nx),Cert Gv Hv cs lab →
  ∀(ts es2:List Ent) (fc zss:List Ta) (Ls:List Gy),es2.Perm es→DB es2→fc.Perm ((zcv ts).map sing++Ls.map nmL)→XX Ls→(∀zs∈zss,zdt (ts.map (·.1)) lab zs)→InRow (ts.map (·.1)) zss →
   ((Ah (Di fc)).find? badT=none→Q H')∧∀t,(Ah (Di fc)).find? badT=some t→∀d,H' d=some (DU (fldT t))→E CY PX H'))
inductive IspInit(C:Nc)(cc:Cls4)(vs:List V)(H:Hp)(Q:VK)(E:XK):Prop
 | mk (x dx l:Nc) (as:Nl) (rs:List Ro) (h0:vs=[.ref x,.ref l]) (h1:H x=some (.ins C dx [])) (h2:RoAt H l as rs) (h3:rs.length≤40) (h4:∀ r∈rs,OddR H r)
   (h6:∀H',Keep [x] H H'→(rs.all okR=false→E CZ none H')∧∀es,rs.all okR=true→Ma es→Told cc es (λH'=>Q .non H') E H'):IspInit C cc vs H Q E
def spInit(C:Nc)(cc:Cls4):Sp:=IspInit C cc
def zch(h:DB es):ts.map (·.1)=es.map (·.1):=by
 induction h with
 |nil=>rfl
 |cons h t ih=>rw[Qo,Qo,h.1,ih]
def zhj(h:DB es)(ht:t∈ts):∃e∈es,t.1=e.1∧∃k,t.2.1=e.2.1.drop k++e.2.1.take k:=by
 induction h with
 |nil=>cases ht
 |cons h _ ih=>
  rcases Qi.mp ht with z|z
  ·subst z;exact⟨_,Qc,h⟩
  obtain⟨e,he,r⟩:=ih z;exact⟨e,QM he,r⟩
def zfa(h:DB es2)(hp:es2.Perm es)(nd:(RX (·.1)).Nodup):∀x,∃k,X4 x=(ZO x).drop k++(ZO x).take k:=λx=>by
 have eM:(ts.map (·.1)).Nodup:=by rw[zch h];exact(hp.map _).nodup_iff.mpr nd
 by_cases hx:x∈ts.map (·.1)
 ·obtain⟨t,ht,rfl⟩:=Ql.mp hx;obtain⟨e,he,e1,k,e2⟩:=zhj h ht;refine⟨k,?_⟩;rw[zbw eM ht,e1,zbw nd (hp.mem_iff.mp he),e2]
 refine⟨0,?_⟩;have eO:x∉es.map (·.1):=λz=>hx (by rw[zch h];exact(hp.map _).mem_iff.mpr z);have n1:x∉(rsOf ts).map (·.1):=by unfold rsOf;rw[List.map_map];exact hx
 have n2:x∉(rsOf es).map (·.1):=by unfold rsOf;rw[List.map_map];exact eO
 rw[zdn n1,zdn n2];rfl
def scInit:zar ["self", "rows", "rounds"] ["self", "rows"] (zaj sInit):=fsk
def ok_init(F:Z1 "__init__" "Web.__init__" sInit f fd)(cW:Cls K C)(nW:NoAttr K C "rounds")(FN:Z1 "refuse_no_names" "refuse_no_names" zf2 fn fdn)(bN:Z3 fdn ["rows"] [])(mN:mg "refuse_no_names" = some (Fu fn))(GN:ZC Ly 2 fn fdn ["rows"] (spNoNames cc.c1))(FT:Z1 "refuse_twice" "refuse_twice" sTwice ft fdt)(bT:Z3 fdt ["rows"] [])(mT:mg "refuse_twice" = some Cn)(GT:ZC Ly 1 ft fdt ["rows"] (spTwice cc.c2))(FO:Z1 "refuse_one_way" "refuse_one_way" zii fo fdo)(bO:Z3 fdo ["rows"] [])(mO:mg "refuse_one_way" = some (Fu fo))(GO:ZC Ly 3 fo fdo ["rows"] (spOneWay cc.c3))(FL:Z1 "from_least" "from_least" sLeast fl fdl)(bL:Z3 fdl ["around"] [])(mL:mg "from_least" = some (Fu fl))(GL:ZB 1 fl fdl ["around"] spLeast)(FF:Z1 "refuse_not_flat" "refuse_not_flat" sFlat ff fdf)(bF:Z3 fdf ["rounds"] [])(mF:mg "refuse_not_flat" = some (Fu ff))(GF:ZC Ly 3 ff fdf ["rounds"] (spFlat cc.c4))(ay:mg "sorted" = none):ZC Ly 4 f fd ["self", "rows"] (spInit C cc):=by
 refine F.okX scInit (λvs H Q E h=>by obtain⟨x,dx,l,as,rs,rfl,_⟩:=h;rfl) Fx;obtain⟨x,dx,l,as,rs,rfl,hx,R0,gR,aZ,k⟩:=h;have hu:=zcm hr;have aV:Vk _:=hr.mono Fw;have eV:Room 2 _:=hr.mono Fw;have aJ  :=sizeLine_eq;refine⟨_,zae (za2 (M7 bN .nil (passR (E':=E) λ_ _ _ h=>h) HH))
  (zae (za2 (ZX bT .nil (passR (E':=E) λ_ _ _ h=>h) HH))
  (zae (za2 (M8 bO .nil (passR (E':=E) λ_ _ _ h=>h) HH))
  (zae (ps_dc (i:=2) (M:=["place", "around"]) (ix:=[none,none]) scInit.nd rfl rfl (mkB scInit) rfl
    (zaz (CB zfy HH))
    (λC a7 ex s H=>zff (K:=K) (n:=2) rfl rfl O2)
    (λC a7 ex s H=>zcp) (λC a7 ex s H=>pv 0) (λC a7 ex s H=>zam GL (by exact aV) rfl (by exact mL) FL.kp bL .nil zba HH) rfl)
  (zae (za2 (UY bF .nil (passR (E':=E) λ_ _ _ h=>h) Rg))
  (zag (ps_fld Hx RM rfl)))))),?_⟩
 refine⟨A5,l,as,rs,rfl,R0,aZ,λH1 k1=>⟨λaf=>?_,λaf=>(k H1 (k1.sub Fr)).1 af⟩⟩;obtain⟨es,hE⟩:=rwe_of af;have R:=R0.rw hE;have ba:es.length≤40:=by rw[←Zl hE];exact gR
 have nQ:=hE.names af;have hok:∀e∈es,zb6 e.1:=λe he=>(nQ e he).1;have bw:∀e∈es,e.2.1.length≤100:=λe he=>by obtain⟨r,hr,_,h2,_⟩:=hE.mem he;have:=(aZ r hr).1;rw[h2,Qa]at this;exact this
 have R1:=R.keep k1;refine⟨A5,l,as,es,rfl,R1,Fs,bw,λH2 k2=>⟨λbY=>?_,λbY=>((k H2 ((SL k2).sub Fr)).2 es af hE).1 bY⟩⟩;have aR:(RX (·.1)).Nodup:=by unfold twOk at bY;rw[Ws,Yn,decide_eq_true_iff]at bY;exact bY.1
 have kh:∀{z:Str},zb6 z→z.length≤1000:=λh=>Zf h.2.1 Fw;have R2:=R1.keep k2;refine⟨A5,l,as,es,rfl,R2,aR,λe he=>⟨kh (hok e he),λy hy=>kh ((nQ e he).2 y hy)⟩,λH3 k3=>⟨λtL=>?_,λp hp d hd=>(((k H3 (((SL k2).trans k3).sub Fr)).2 es af hE).2 bY).1 p hp d hd⟩⟩;obtain⟨cs,lab,Ct⟩:=(rows_sy bY tL).cert;have ag:∀e∈es,ZO e.1=e.2.1:=λe he=>zbw aR he;have R3:=R2.keep k3;have k03:Keep [] H H3:=(SL k2).trans k3;have bK:as.length=es.length:=Zl R3.ts;refine⟨A5,l,A5,TY,λv hv=>?_,λv hv u hu e=>?_,λl2 wsV au ae ai=>?_⟩
 ·obtain⟨a,ha,rfl⟩:=Ql.mp hv;obtain⟨i,hi,rfl⟩:=Zg ha;obtain⟨ao,h⟩:=Fn hi;exact⟨_,_,A5,h⟩
 ·obtain⟨a,ha,rfl⟩:=Ql.mp hv;obtain⟨b,hb,rfl⟩:=Ql.mp hu;obtain⟨i,hi,rfl⟩:=Zg ha;obtain⟨j,hj,rfl⟩:=Zg hb;obtain⟨ao,h1⟩:=Fn hi;obtain⟨cq,h2⟩:=Fn hj;rw[zet h1,zet h2]at e;have e':es[i].1=es[j].1:=by have q:es[i].1.cps.toList=es[j].1.cps.toList:=e;generalize es[i].1=a1 at q ⊢;generalize es[j].1=a2 at q ⊢;cases a1;cases a2;congr 1;exact Array.toList_inj.mp q
  have e2:(RX (·.1))[i]'(AY ao)=(RX (·.1))[j]'(AY cq):=by rw[Zm,Zm];exact e'
  have:=(Wu aR).mp e2;subst this;rfl
 obtain⟨bj,rfl,aD⟩:=zgh ae;obtain⟨es2,eZ,rR⟩:=zdf aD R3.ts;generalize fE:WK l2 _=H4;obtain⟨k4,qm⟩:=nwk au fE;have ni:Paired (λa (e:Ent)=>H4 a=some (.tup [Tg,Si])) bj es2:=Paired.imp' (λ_ _ h=>k4 _ _ h Fr) rR;have sh:∀e∈es2,H4 e.2.2=some PU:=λe he=>k4 _ _ (R3.ro e (eZ.mem_iff.mp he)) Fr;have o4:(es2.map (·.1)).Nodup:=(eZ.map _).nodup_iff.mpr aR;have oW:bj.length=es2.length:=Zl ni;have hel2:es2.length=es.length:=eZ.length_eq;refine⟨l2,rfl,⟨_,FH qm⟩,λi m ys τ H'=>Aj5 (m=es2.length-i) (i≤es2.length) (Ex2 λx0 x1=>τ=[x0,x1]) (Keep [] H4 H') (Ex1 λ(ts:List Ent)=>Aj3 (ys=(eWV ts)) (∀e∈ts,H' e.2.2=some (CF HW)) (DB (es2.take i))),
  ⟨es2.length,rfl,Sv,⟨none,none,rfl⟩,Keep.refl,[],rfl,λe he=>(by cases he),.nil⟩,?_⟩
 rintro i m ys τ H5 ⟨rfl,hi,⟨x0,x1,rfl⟩,k5,ts,rfl,jA,iO⟩;by_cases ad:i<es2.length
 ·have lI:=zch iO;have jB:ts.length≤i:=by have:=congrArg List.length lI;rw[Qa,Qa,Ze]at this;lia
  refine .inr ⟨⟨_,.ref bj[i],E9,by rw[Qt,Qb (by exact zar6 ‹_› ‹_›)];rfl⟩,Rx,?_⟩;rintro v H6 ⟨rfl,hv⟩;have jy:=hv _ E9;rw[Qt,Qb (by exact zar6 ‹_› ‹_›)]at jy;obtain rfl:V.ref bj[i]=v:=Qq jy;obtain⟨ao,aO⟩:=za0 ni (by exact zar6 ‹_› ‹_›:i<bj.length);have c8:es2[i]∈es2:=Qn ad;have aU:=k5 _ _ (sh _ c8) Fr;have o0:es2[i].1∉ts.map (·.1):=by
   rw[lI];have h1:(es2.map (·.1)).take Gr=(es2.map (·.1)).take i++[es2[i].1]:=by rw[Qj (AY ad),Zm]
   have h2:((es2.map (·.1)).take Gr).Nodup:=Ju Og o4;rw[h1,Zn,←Jl]at h2;exact λz=>h2.2.2 _ z _ Ss rfl
  refine⟨bj[i],A5,HV (k5 _ _ aO Fr),rfl,_,A5,_,A5,rfl,A5,A5,es2[i].2.2,es2[i].2.1,rfl,aU,bw _ (eZ.mem_iff.mp c8),λt j H7 hj jD htfr k7=>?_⟩;refine⟨Sum.inr es2[i].1,rfl,es2.length-Gr,Gk,rfl,ad,⟨_,A5⟩,k5.trans k7,ts++[(es2[i].1,es2[i].2.1.drop j++es2[i].2.1.take j,t)],put_new (r:=es2[i].2.1.drop j++es2[i].2.1.take j) o0,λe he=>?_,?_⟩
  ·rcases Qg.mp he with z|z
   ·exact k7 _ _ (jA e z) Fr
   rw[Qd.mp z];exact jD
  rw[Qj ad];exact zao iO (.cons ⟨rfl,j,rfl⟩ .nil)
 have kF:i=es2.length:=by exact zar3 ‹_› ‹_›
 subst kF;rw[Qm Gg]at iO;refine .inl ⟨⟨_,E9,by rw[Qa,oW];exact Qh _⟩,λd hd=>?_⟩;generalize jg:QF d _=H6;obtain⟨k6,oM⟩:=nwk hd jg;have lI:=zch iO;have T6:TAt H6 d ts:=⟨oM,λe he=>k6 _ _ (jA e he) Fr,FA lI o4⟩;have jB:ts.length=es.length:=by have:=congrArg List.length lI;rw[Qa,Qa,eZ.length_eq]at this;exact this
 have C6:Cert (ts.map (·.1)) (row (rsOf ts)) cs lab:=zg8 Ct (by rw[lI];exact eZ.map _) (zfa iO eZ aR);refine⟨A5,d,ts,cs,lab,rfl,T6,Fs,λe he=>?_,C6,λfc zss Ls H7 fq cY f8 eU k7=>⟨λhn=>?_,λt ht dx' hdx=>?_⟩⟩
 ·obtain⟨e',cv,_,kk,e2⟩:=zhj iO he;rw[e2,(zf3 _ kk).length_eq];exact bw e' (eZ.mem_iff.mp cv)
 ·have pR:Keep [] H H7:=(((k03.trans k4).trans k5).trans k6).trans k7;have hx7:=pR _ _ hx Fr;refine⟨A5,A5,x,C,dx,[],rfl,hx7,cW,nW,Fw,?_⟩;exact((((k _ ((pR.sub Fr).trans Ho)).2 es af hE).2 bY).2 tL cs lab Ct ts es2 fc zss Ls eZ iO fq cY f8 eU).1 hn
 have pR:Keep [] H H7:=(((k03.trans k4).trans k5).trans k6).trans k7;exact((((k H7 (pR.sub Fr)).2 es af hE).2 bY).2 tL cs lab Ct ts es2 fc zss Ls eZ iO fq cY f8 eU).2 t ht dx' hdx
def zgl:∀{as:List α} {bs:List β} (n:Nat),QV as bs→QV (as.take n) (bs.take n):=by
 intro as bs n r;induction r generalizing n with
 |nil=>rw[List.take_nil,List.take_nil];exact .nil
 |cons h t ih=>
  cases n with
  |zero=>exact .nil
  |succ k=>exact .cons h (ih k)
def zgm:∀{as:List α} {bs:List β} (n:Nat),QV as bs→QV (as.drop n) (bs.drop n):=by
 intro as bs n r;induction r generalizing n with
 |nil=>rw[List.drop_nil,List.drop_nil];exact .nil
 |cons h t ih=>
  cases n with
  |zero=>exact .cons h t
  |succ k=>exact ih k
abbrev sPot:Stmt:=top 23
abbrev zd5:Stmt:=top 24
abbrev qG:Str:= "_law_digit"
end
inductive IspPot(K:Na)(vs:List V)(H:Hp)(Q:VK):Prop
 |mk (a:Nc) (ns:List Int) (j:Nat) (h0:vs=[.ref a,.int j]) (h1:SqL K H a (ns.map V.int)) (h2:j≤1000) (fC:ns.length≤1000) (h3:∀(l:Nc) (b m:Int) (H':Hp),H l=none→Pot H' l b m→Keep [] H H'→Q (.ref l) H'):IspPot K vs H Q
def spPot(K:Na):Sp:=λvs H Q _=>IspPot K vs H Q
def sq_keep(h:WW xs)(k:Keep [] H H'):SqL K H' a xs:=h.imp (λr=>r.imp (λe=>k _ _ e Fr) λ⟨o,e⟩=>⟨o,Pc e⟩) id
section
variable{P:Nk}{w:Nn}{K:Na}{mg:Ng}{base:No}
def scDigit:zar [qP,qM, "_law_digit_here"] [qP,qM] (zaj zd5):=fsk
def ok_digit(F:Z1 qG qG zd5 f fd):ZB 1 f fd [qP,qM] zfo:=by
 refine F.okL scDigit Fx;obtain⟨p,b,m,n,rfl,⟨hp,hb,hm,dC⟩,hn,bz,k⟩:=h;have i0:atI [Tc b,Tc m] ((0:Nat):Int)=some (Rq b):=zav rfl;have i1:atI [Tc b,Tc m] ((1:Nat):Int)=some (Rq m):=zav rfl;refine⟨_,zae (zbt (BI LC zah HP)
  (zae (BH scDigit.nd (Y3 LC RK))
  (zae (zft (VD (QE Hx zah (λ_ _=>rfl)) RK) Ai)
   (zag (AE RM)))) zaw)
  (zae (zft (Y3 (Es (K7 LC zah)) zah) Ai)
  (zag (AE (Y3 (VD (Y3 (K7 LC LC) zah) zah) RK)))),?_⟩
 refine⟨A5,p,_,_,A5,rfl,FH hp,i0,_,A5,rfl,A5,?_⟩;refine ite2 (λbg=>?_) (λhneg=>?_)
 ·have tX:0 < b:=of_decide_eq_true bg;refine⟨A5,p,_,_,A5,rfl,FH hp,i0,A5,_,A5,rfl,hn,?_⟩;refine⟨A5,p,_,_,A5,rfl,FH hp,i0,A5,_,A5,rfl,⟨hn,bz⟩,A5,p,_,0,0,rfl,rfl,hp,rfl,A5,?_⟩;refine k (b%n) (b/n) m _ (Xd _ Fs) (Kj _ hn) ⟨zab,Int.ediv_nonneg hb Fs,hm,dC⟩ λc o e hc=>?_;rw[zaf hc];exact e
 have i1':∀ x:Int,atI [Tc b,Tc x] ((1:Nat):Int)=some (Rq x):=λx=>zav rfl;have r0:0≤(m*48271+12289)%2147483629:=Xd _ Fw;have r1:(m*48271+12289)%2147483629<2147483629:=Kj _ Fw;refine⟨A5,p,_,_,A5,rfl,FH hp,i1,_,A5,rfl,Gm ⟨Fs,Fs⟩,_,A5,rfl,_,A5,rfl,(by show(0:Int)<2147483629;decide),A5,p,_,1,1,rfl,rfl,hp,rfl,?_⟩;refine⟨A5,p,_,_,A5,rfl,LN,i1' _,A5,p,_,_,A5,rfl,LN,i1' _,_,A5,rfl,Gm ⟨Fs,Fs⟩,_,A5,rfl,(by show(0:Int)<2147483587;decide),_,A5,rfl,⟨Fw,Fw⟩,A5,_,A5,rfl,hn,?_⟩;refine k _ b ((m*48271+12289)%2147483629) _ (Xd _ Fs) (Kj _ hn) ⟨zab,hb,r0,Fs⟩ λc o e hc=>?_;rw[zaf hc];exact e
def scPot:zar [qS, "_law_k", "_law_cell"] [qS, "_law_k"] (zaj sPot):=fsk
def ok_pot(F:Z1 "_law_pot" "_law_pot" sPot f fd)(aa:G')(gi:mg "min" = none)(ka:mg "max" = none)(bq:mg "list" = none):ZB 1 f fd [qS, "_law_k"] (spPot K):=by
 refine F.okL scPot Fx;obtain⟨a,ns,j,rfl,hS,hj,qh,k⟩:=h;have aJ  :=sizeLine_eq;refine⟨_,zae (BH scPot.nd (QE (W9 (zcb zc7 FX bq Km Re) (za1 Ia))
   (Dj FX gi PyProof.Rows.boot_min (ZZ (Hf (RJ (ZM zad))))) FV))
  (zag (za9 (za1 (zaa (OQ (V6 RM (zaq op_pow zah zah)))
   (zaa (Y3 (Es (QU (K7 (Y3 RM zah) zah) (K7 zah RK))) zah) zad))))),?_⟩
 refine⟨A5,a,A5,Gm hS,λp1 h1=>?_⟩;refine⟨SK,λp2 h2=>?_⟩;have ie:p1≠p2:=zac (o:=_) zab h2;refine⟨p1,p2,_,A5,rfl,CT,zab,by rw[Qa];show _+1≤_;lia,λp3 h3=>?_⟩;have k3:Keep [] H (Ij (Y6 (.lst [Rq 0])) p3 (FJ (ns.map V.int++[Rq 0]))):=((FM h1).trans LW).trans E7;have S3:=sq_keep hS k3;have l3:(Ij (Y6 (.lst [Rq 0])) p3 (FJ (ns.map V.int++[Rq 0]))) p3=some (FJ ((ns++[0]).map V.int)):=by rw[zab,Qr];rfl
 refine⟨A5,A5,a,A5,Gm S3,j,ns.length,by rw[Qa],?_⟩;generalize upd (Y6 (.lst [Rq 0])) p3 (FJ (ns.map V.int++[Rq 0]))=H3 at S3 k3 l3;obtain⟨i,hi,e⟩:∃i:Nat,i<(ns++[0]).length∧(if(ns.length:Int)<(j:Int) then(ns.length:Int) else(j:Int))=(i:Int):=by
  rw[Qk];split
  ·exact⟨ns.length,Ap,rfl⟩
  exact⟨j,by show j<ns.length+1;lia,rfl⟩
 rw[e];have g:((ns++[0]).map V.int)[i]?=some (.int (ns++[0])[i]):=by rw[Qt,Qb hi];rfl
 refine⟨p3,_,_,A5,rfl,FH l3,zav g,?_⟩;generalize(ns++[0])[i]=c;have q0:0≤c%2147483629:=Xd _ Fw;have q1:c%2147483629<2147483629:=Kj _ Fw;refine⟨A5,_,A5,rfl,⟨Fw,Fw,Fw⟩,_,A5,rfl,_,A5,?_⟩;refine⟨A5,_,A5,rfl,(by show(0:Int)<2147483629;decide),_,A5,rfl,Gm ⟨Fs,Fs⟩,A5,_,A5,rfl,Gm ⟨Fw,Fw⟩,_,A5,rfl,_,A5,rfl,_,A5,rfl,(by show(0:Int)<2147483629;decide),Sq,λl hl=>?_⟩;refine k l _ _ _ (zap k3 hl Fr) ⟨zab,?_,Xd _ Fw,Int.lt_trans (Kj _ Fw) Fw⟩ (RQ Cl);split
 ·lia
 decide
end
end K21
namespace L2
open PySem PySem.Spec PyProof.Rows
abbrev iV(n:Nat):V:=.int (n:Int)
section
variable{X:Cx}
def op_ne_pairsN(hu:X.A.units<cLine):WB (λx y H Q=>Ex4 λ(a b:Nc) (q r:Nat×Nat)=>Aj5 (x=.ref a) (y=.ref b) (H a=some (.tup [iV q.1,iV q.2])) (H b=some (.tup [iV r.1,iV r.2])) (Lq (!decide (q=r)))):=by
 intro a7 s σ H x y v u Q I rx ry h;obtain⟨a,b,q,r,rfl,rfl,ha,hb,k⟩:=h;cases rx;cases ry;obtain⟨_,a8,r1,p⟩:=YF ha;obtain⟨_,ak,r2,p2⟩:=Y' _ hb;obtain⟨u1,u2,rfl,⟨t1,rfl⟩,⟨t2,rfl⟩⟩:=vals2 r1;obtain⟨w1,w2,rfl,⟨t3,rfl⟩,⟨t4,rfl⟩⟩:=vals2 r2;refine SeqAt.RcNeAt.tuples (e:=λj=>if j=0 then(q.1:Int)==(r.1:Int) else(q.2:Int)==(r.2:Int)) p p2 hu (λj j1 j2=>?_) _ _ _ _ ⟨.bl (!decide (q=r)),H,I,?_,k⟩
 ·have jt:j < 2:=by simpa using j1
  match j,jt with
  |0,_=>exact SeqAt.EqAt.int_int (q.1:Int) t1 (r.1:Int) t3
  |1,_=>exact SeqAt.EqAt.int_int (q.2:Int) t2 (r.2:Int) t4
 show Value.bool _=Value.bool _;congr 1;have:decide (q=r)=(((q.1:Int)==(r.1:Int))&&((q.2:Int)==(r.2:Int))):=by rw[Yw];simp[Prod.ext_iff];lia
 rw[this];show(!((Ry 2).all (λj=>if j=0 then(q.1:Int)==(r.1:Int) else(q.2:Int)==(r.2:Int))&&true))=_;rw[show List.range 2=[0,1] from rfl];simp
end
end L2
namespace Wb
section
variable{α:Type}[DecidableEq α]
theorem zg0(rs:Rs α)(s:α×α):∀n,YZ s (n+1)=YZ (stp rs s) n
 |0=>rfl
 |n+1=>congrArg (stp rs) (zg0 rs s n)
theorem lk_itr:∀{t:List (α×α)} {s:α×α},Lk (st Ou) s t e→VZ (t.length+1)=s::t∧YZ s (t.length+1)=e
 |[],s,k=>⟨rfl,k⟩
 |y::t,s,k=>by obtain⟨h1,h2⟩:=lk_itr k.2;have hs:stp rs s=y:=k.1;refine⟨?_,by rw[Za,zg0,hs];exact h2⟩;unfold run at h1 ⊢;rw[Za,List.range_succ_eq_map,Qo,Zu,←h1];refine congrArg (s::·) (Jo λn _=>?_);show YZ s (n+1)=_;rw[zg0,hs]
def good_round{rs:Rs α}(h:Good rs){s:α×α}(hs:K3 s):∃L,YZ s (L+1)=s∧(VZ (L+1)).Nodup:=by obtain⟨cs,lab,C⟩:=h;obtain⟨c,hc,h⟩:=Yj.mp ((C.cm s).mpr ((zdh C.nd).mp hs));obtain⟨A,B,e⟩:=Uz h;have k:=M0 hc;rw[e]at k;obtain⟨h1,h2⟩:=lk_itr (zfm k);refine⟨_,h2,?_⟩;rw[h1];have hn:c.Nodup:=(List.pairwise_flatten.mp C.cf).1 c hc;rw[e]at hn;have:=(Ja (l₁:=A) (l₂:=s::B)).nodup_iff.mp hn;exact this
def round_ne{rs:Rs α}{s:α×α}{L n:Nat}(nd:(VZ (L+1)).Nodup)(h0:0<n)(h:n≤L):YZ s n≠s:=λe=>by unfold run at nd;have:=(Wu (i:=n) (j:=0) (h₀:=by rw[Qa,Wm];lia) (h₁:=by rw[Qa,Wm];lia) nd).mp (by rw[Zm,Zm,Ki,Ki];exact e);lia
end
def rsN(rr:List Hu):Rs Nat:=(List.range rr.length).map λk=>(k,rr.getD k [])
def zdp(rr:List Hu):(rsN rr).map (·.1)=List.range rr.length:=by unfold rsN;rw[Zu];exact(Jo λ_ _=>rfl).trans (List.map_id _)
def nd_N(rr:List Hu):((rsN rr).map (·.1)).Nodup:=by rw[zdp];exact Xz
def zhc{rr:List Hu}{k:Nat}(h:k<rr.length):(k,rr[k])∈rsN rr:=by unfold rsN;exact Ql.mpr ⟨k,Wa.mpr h,by rw[Qx,Qb h];rfl⟩
def row_N{rr:List Hu}{k:Nat}(h:k<rr.length):JY k=rr[k]:=zfr Ph (zhc h)
def row_No{rr:List Hu}{k:Nat}(h:¬k<rr.length):JY k=[]:=zdn (by rw[zdp];exact λz=>h (Wa.mp z))
def set_N(rr:List Hu)(k:Nat)(r:List Nat):zb9 TX k r=rsN (rr.set k r):=by
 unfold zb9 rsN;rw[Zu,Us];refine Jo λj hj=>?_;have gp:=Wa.mp hj;show(if j=k then(j,r) else(j,rr.getD j []))=(j,(rr.set k r).getD j []);rw[Qx,Qx,List.getElem?_set];by_cases e:j=k
 ·subst e;rw[if_pos rfl,if_pos rfl,if_pos gp];rfl
 rw[if_neg e,if_neg (Zd e)]
def snoc_N(rr:List Hu):rsN (rr++[[]])=rsN rr++[(rr.length,[])]:=by
 unfold rsN;rw[Qk,Za,We,List.range_succ,Qr];congr 1
 ·refine Jo λj hj=>?_;rw[Qx,Qx,Xl (Wa.mp hj)]
 show [(rr.length,(rr++[[]]).getD rr.length [])]=_;rw[Qx,Uy Gg,Nat.sub_self];rfl
end Wb
namespace K21
open PySem L2 Wb
abbrev zfe:Stmt:=top 27
abbrev zfd:Stmt:=top 28
structure NAt(H:Hp)(l:Nc)(as:Nl)(rr:List (List Nat)):Prop where
 ls:H l=some Hs
 ro:Paired (λa r=>H a=some Td) as rr
 nd:as.Nodup
def NAt.len(R:UH rr):as.length=rr.length:=Zl R.ro
def NAt.row(R:UH rr){k:Nat}(h:k<as.length)(h':k<rr.length):H as[k]=some (FJ (rr[k].map iV)):=let⟨_,z⟩:=za0 R.ro h;z
def NAt.keep(R:UH rr)(k:WY H')(hl:l∉xs)(ha:∀a∈as,a∉xs):UK rr:=by
 refine⟨k _ _ R.ls hl,?_,R.nd⟩;have:=R.ro;clear R;induction this with
 |nil=>exact .nil
 |cons r t ih=>exact .cons (k _ _ r (ha _ Qc)) (ih λa h=>ha a (QM h))
def NAt.k0(R:UH rr)(k:Keep [] H H'):UK rr:=R.keep k Fr λ_ _=>by simp
def NAt.apart(R:UH rr):l∉as:=λh=>by
 obtain⟨k,hk,e⟩:=Zg h;have h1:=R.row hk (by rw[←R.len];exact hk);rw[e,R.ls]at h1;have h2:as.map V.ref=(rr[k]'(by rw[←R.len];exact hk)).map iV:=by injection h1 with z;injection z
 cases as with
 |nil=>simp at hk
 |cons a t=>
  generalize(rr[k]'(by rw[←R.len];exact hk))=r at h2;cases r with
  |nil=>cases h2
  |cons y s=>rw[Qo,Qo]at h2;injection h2 with z1 _;cases z1
def zg4{zs:List Nat}{x:Nat}(h:x∈zs):(∃ z,(zs.map iV)[zs.idxOf x]?=some z∧eqV z (iV x)=true)∧∀ m z,m < zs.idxOf x→(zs.map iV)[m]?=some z→eqV z (iV x)=false:=by
 have ad:zs.idxOf x<zs.length:=Jm.mpr h;refine⟨⟨iV x,?_,beq_self_eq_true (x:Int)⟩,λm z hm e=>?_⟩
 ·rw[Qt,Qb ad,Js];rfl
 rw [Qt]at e;have dC:m<zs.length:=Wt hm ad;rw[Qb dC]at e;cases e;show((zs[m]:Int)==(x:Int))=false;refine beq_eq_false_iff_ne.mpr λq=>?_;have q:zs[m]=x:=Int.ofNat.inj q;have am:∀(l:List Nat) (j:Nat) (hj:j<l.length),l[j]=x→l.idxOf x≤j:=by
  intro l;induction l with
  |nil=>intro j hj;simp at hj
  | cons a t ih=>
   intro j hj e;rw[List.idxOf_cons];cases j with
   |zero=>have e':a=x:=e;rw[e'];simp
   |succ i=>
    have:=ih i (Fv hj) Ip;by_cases h:a=x
    ·rw[h];simp
    have hb:(a == x)=false:=beq_eq_false_iff_ne.mpr h;rw[hb];simp;assumption
 have:=am zs m dC q;lia
def ze6(zs:List Nat):(zs.map iV).all zd3=true:=by rw[Yc];intro v hv;obtain⟨x,_,rfl⟩:=Ql.mp hv;rfl
inductive IspBehind(vs:List V)(H:Hp)(Q:VK):Prop
 |mk (a:Nc) (zs:List Nat) (x:Nat) (h0:vs=[.ref a,iV x]) (h1:H a=some (.lst (zs.map iV))) (h2:x∈zs) (h3:zs.length≤900) (h4:Q (iV (nxt zs x)) H):IspBehind vs H Q
def spBehind:Sp:=λvs H Q _=>IspBehind vs H Q
abbrev zcf(H:Hp)(as:Nl)(qs:Se (Nat×Nat)):Prop:=Paired (λa q=>H a=some (.tup [iV q.1,iV q.2])) as qs
def zcf.keep(r:zcf H as qs)(k:∀b x y,H b=some (.tup [x,y])→H' b=some (.tup [x,y])):zcf H' as qs:=Paired.imp' (λa q h=>k _ _ _ h) r
def zcf.snoc(r:zcf H as qs)(h:H a=some (.tup [iV q.1,iV q.2])):zcf H (as++[a]) (qs++[q]):=by
 induction r with
 |nil=>exact .cons h .nil
 |cons r t ih=>exact .cons r ih
inductive IspSteps0(vs:List V)(H:Hp)(Q:VK):Prop
 |mk (l:Nc) (as:Nl) (rr:List (List Nat)) (s:Nat×Nat) (h0:vs=[.ref l,iV s.1,iV s.2]) (h1:NAt H l as rr) (h2:IsSt (rsN rr) s) (h3:Good (rsN rr)) (h4:rr.length≤40)
  (h6:∀(t:Nc) (ps:Nl) (n:Nat) (H':Hp),H t=none→H' t=some Ei→zcf H' ps (JZ s (n+1))→(JZ s (n+1)).Nodup→n+1≤1600→Keep [] H H'→Q SI H'):IspSteps0 vs H Q
def spSteps0:Sp:=λvs H Q _=>IspSteps0 vs H Q
section
variable{P:Nk}{w:Nn}{K:Na}{mg:Ng}{base:No}
def scBehind:zar ["_law_around", "_law_one"] ["_law_around", "_law_one"] (zaj zfe):=fsk
def ok_behind(F:Z1 "_law_behind" "_law_behind" zfe f fd)(aa:G'):ZB 1 f fd ["_law_around", "_law_one"] spBehind:=by
 refine F.okL scBehind Fx;obtain⟨a,zs,x,rfl,ha,hx,hz,k⟩:=h;have hu:=zcm hr;refine⟨_,zag (za9 (QE Hx (Y3 (Es (U8 Hx HH))
  (QW FX aa Zj Re)) FV)),?_⟩
 obtain⟨i1,i2⟩:=zg4 hx;have bg:0<zs.length:=Ub hx;have hm:(zs.idxOf x+1)%zs.length<zs.length:=K5 bg;have g:(zs.map iV)[(zs.idxOf x+1)%zs.length]?=some (iV (KH x)):=by rw[Qt,Qb hm];unfold nxt;simp[List.getD,hm]
 have e1:((zs.idxOf x:Nat):Int)+1=((zs.idxOf x+1:Nat):Int):=by lia
 have g2:atI (zs.map iV) ((((zs.idxOf x:Nat):Int)+1)%((zs.map iV).length:Int))=some (iV (KH x)):=by rw[e1,Qa,←Int.natCast_emod];exact zav g
 refine⟨A5,A5,Hd ha,A5,a,_,_,A5,rfl,ha,rfl,ze6 zs,i1,i2,_,A5,rfl,A5,a,A5,HJ ha,_,A5,rfl,?_,a,_,_,A5,rfl,FH ha,g2,k⟩;rw[Qa];exact zar9 ‹_›
def zc1:zar [qR, "_law_p", "_law_q", "_law_found", "_law_here"] [qR, "_law_p", "_law_q"] (zaj zfd):=fsk
def ok_steps0(F:Z1 "_law_steps" "_law_steps" zfd f fd)(FB:Z1 "_law_behind" "_law_behind" zfe fb fdb)(bB:Z3 fdb ["_law_around", "_law_one"] [])(mB:mg "_law_behind" = some (Fu fb))(GB:ZB 1 fb fdb ["_law_around", "_law_one"] spBehind) :
  FnOk P w K mg base CX0 2 f fd [qR, "_law_p", "_law_q"] spSteps0:=by
 refine F.okL zc1 Fx;obtain⟨d,ra,rr,st,rfl,R,ax,hG,ba,k⟩:=h;have hu:=zcm hr;refine⟨_,zae Ox
  (zae (OS (QE (pv 0) RM FV))
  (zae (M4 (zan (op_ne_pairsN (Wt Ap hu)) SY (QE HF zah (λ_ _=>rfl)) rfl)
   (zae (Eo HF TW)
   (zag (OF (LZ (QE Hx (YO FV) FV))))))
  (zag (AE HF)))),?_⟩
 obtain⟨L,hL,nd⟩:=good_round hG ax;have iG:=zbv.clo _ hG;have kl:(rsN rr).length=rr.length:=by unfold rsN;rw[List.length_map,List.length_range]
 have u8:L+1≤1600:=by
  have:=zgs nd (m:=allSt TX) λx hx=>by obtain⟨i,_,rfl⟩:=Ql.mp hx;exact mem_allSt.mpr (itr_st iG ax i)
  unfold Wb.run at this;rw[Qa,Wm]at this;exact Zf this (zbv.steps hG (FA kl ba))
 have bM:∀q:Nat×Nat,MC q→∃(h:q.2<rr.length) (h':q.2<ra.length),q.1∈rr[q.2]∧rr[q.2].length≤900∧BR q=(q.2,nxt rr[q.2] q.1):=λq hq=>by
  have h1:=(zdh Ph).mp hq;by_cases h:q.2<rr.length
  ·rw[row_N h]at h1;refine⟨h,by rw[R.len];exact h,h1,?_,by unfold stp;rw[row_N h]⟩;have:=zbv.rows hG _ (zhc h);rw[kl]at this;exact Zf this Fs
  rw[row_No h]at h1;cases h1
 have i0:∀x y:V,atI [x,y] ((0:Nat):Int)=some x:=λx y=>zav rfl;have i1:∀x y:V,atI [x,y] ((1:Nat):Int)=some y:=λx y=>zav rfl;have aJ  :=sizeLine_eq;refine⟨A5,A5,Sq,λt0 fP=>⟨SK,λl hl=>?_⟩⟩;have k1:Keep [] H (upd (ZU t0 (.tup [IU,Ib])) l (.lst [C8])):=(FM fP).trans Cl;have ntl:t0≠l:=zac (o:=_) zab hl;have eR:(upd (ZU t0 (.tup [IU,Ib])) l (.lst [C8])) t0=some (.tup [IU,Ib]):=by rw[zaf ntl];exact zab
 have ck:(upd (ZU t0 (.tup [IU,Ib])) l (.lst [C8])) l=some (.lst [C8]):=zab;have fl:H l=none:=zap (xs:=[]) (FM fP) hl Fr;generalize upd (ZU t0 (.tup [IU,Ib])) l (.lst [C8])=H1 at k1 eR ck;have R1:=R.k0 k1;obtain⟨g1,g2,g3,g4,g5⟩:=bM st ax;refine⟨A5,A5,A5,d,_,_,A5,rfl,AV,zav (by rw[Qt,Qb g2];rfl),A5,_,rr[st.2],st.1,rfl,R1.row g2 g1,g3,g4,Sq,λt ht=>?_⟩;have e5:[Ib,iV (nxt rr[st.2] st.1)]=[iV (Z9 1).1,iV (Z9 1).2]:=by show _=[iV (BR st).1,iV (BR st).2];rw[g5]
 rw[e5];have nlt:l≠t:=zac ck ht;refine⟨λm σ H2=>Ex3 λ(n:Nat) (t:Nc) (as:Nl)=>Aj8 (m=L-n) (n≤L) (σ=[LO,He IU,He Ib,Cp,Fy t]) (Keep [l] H1 H2) (H2 l=some (FJ ((t0::as).map V.ref))) (zcf H2 (t0::as) (JZ st (n+1))) (H2 t=some (.tup [iV (Z9 (n+1)).1,iV (Z9 (n+1)).2])) (as.length=n),
  ⟨_,0,t,[],rfl,Sv,rfl,FM ht,FQ nlt ck,HY (FQ (A0 eR ht) eR),zab,rfl⟩,?_⟩
 rintro m σ H2 ⟨n,t,as,rfl,hn,rfl,k2,au,pa,iP,bK⟩;have jE:=k2 _ _ eR (Fv ntl);refine⟨A5,A5,l,_,_,A5,rfl,FH au,(show atI ((t0::as).map V.ref) ((0:Nat):Int)=some C8 from zav rfl),t,t0,Z9 (n+1),st,rfl,rfl,iP,jE,A5,?_⟩;by_cases he:n=L
 ·subst he;refine zal (by rw[decide_eq_true hL];rfl) ?_;exact⟨A5,k l (t0::as) n H2 fl au pa nd u8 λc o ec _=>k2 c o (k1 _ _ ec Fr) (by simpa using XH fl)⟩
 refine zay (by rw[Gx (round_ne nd (Nat.succ_pos n) Fs)];rfl) ?_;have ji:t≠l:=zbg iP au FG;refine⟨_,λ σ' H' z=>z,?_⟩;refine⟨A5,Hd au,A5,l,_,A5,rfl,au,by rw[Qa,Za];lia,?_⟩;have k3:Keep [l] H1 Pi:=k2.trans AK;have fM:(WD l Hg) t=some (.tup [iV (Z9 (n+1)).1,iV (Z9 (n+1)).2]):=by rw[zaf ji];exact iP
 have fj:(WD l Hg) l=some (FJ ((t0::(as++[t])).map V.ref)):=by rw[zab,←Yv,Qr];rfl
 have mj:zcf Pi (t0::(as++[t])) (JZ st (n+1+1)):=by rw[run_succ,←Yv];refine zcf.snoc (zcf.keep pa λb x y eb=>?_) fM;rw[zaf (zbg eb au FG)];exact eb
 generalize WD l Hg=H3 at k3 fM fj mj;have nra:∀a∈ra,a≠l:=λa ha=>by obtain⟨j,hj,rfl⟩:=Zg ha;exact zac (R.row hj (by rw[←R.len];exact hj)) fl
 have R3:NAt H3 d ra rr:=R1.keep k3 (by simpa using zac R.ls fl) λa ha=>by simpa using nra a ha
 obtain⟨g1,g2,g3,g4,g5⟩:=bM (Z9 (n+1)) (itr_st iG ax _);refine⟨A5,t,_,_,A5,rfl,HV fM,i1 _ _,A5,A5,t,_,_,A5,rfl,HV fM,i1 _ _,d,_,_,A5,rfl,TY,zav (by rw[Qt,Qb g2];rfl),A5,t,_,_,A5,rfl,HV fM,i0 _ _,_,rr[(Z9 (n+1)).2],(Z9 (n+1)).1,rfl,R3.row g2 g1,g3,g4,Sq,λt' iQ=>?_⟩;have e6:[iV (Z9 (n+1)).2,iV (nxt rr[(Z9 (n+1)).2] (Z9 (n+1)).1)]=[iV (Z9 (n+1+1)).1,iV (Z9 (n+1+1)).2]:=by show _=[iV (BR (Z9 (n+1))).1,iV (BR (Z9 (n+1))).2];rw[g5]
 rw[e6];have lq:l≠t':=zac fj iQ;exact⟨L-(n+1),Fs,n+1,t',as++[t],rfl,Fs,rfl,RQ (FM iQ),FQ lq fj,zcf.keep mj λb x y eb=>by rw[zaf (A0 eb iQ)];exact eb,zab,by rw[Qk,bK];rfl⟩
abbrev sTie:Stmt:=top 29
def inV_nat{x:Nat}{zs:List Nat}:inV (iV x) (zs.map iV)=decide (x∈zs):=by
 unfold inV;rw[Yw,Bc,decide_eq_true_iff];constructor
 ·rintro⟨v,hv,e⟩;obtain⟨z,hz,rfl⟩:=Ql.mp hv;have e:((z:Int)==(x:Int))=true:=e;have:z=x:=Int.ofNat.inj (eq_of_beq e);rw[←this];exact hz
 intro h;exact⟨_,LL ⟨x,h,rfl⟩,beq_self_eq_true (x:Int)⟩
def NAt.mem(R:UH rr)(ha:a∈as):∃r:List Nat,H a=some Td:=by obtain⟨j,hj,rfl⟩:=Zg ha;exact⟨_,R.row hj (by rw[←R.len];exact hj)⟩
def NAt.set(R:UH rr){k:Nat}(h:k < as.length)(r:List Nat):NAt (ZU as[k] Td) l as (rr.set k r):=by
 have hl:l≠as[k]:=λz=>R.apart (z▸Qn h);refine⟨by rw[zaf hl];exact R.ls,?_,R.nd⟩;have aR:=R.nd;have hr:=R.ro;clear R hl;induction hr generalizing k with
 |nil=>simp at h
 | cons r1 t ih=>
  rename_i a r0 aI dG;rw[Zh]at aR;cases k with
  | zero=>
   refine .cons zab ?_;show Paired _ aI dG;refine Paired.imp' (λb r' hb=>hb) ?_;clear ih;have key:∀{xs:Nl} {ys:List Hu},Paired (λa r=>H a=some Td) xs ys→a∉xs→Paired (λb r'=>(RC a (r.map iV)) b=some (FJ (r'.map iV))) xs ys:=by
    intro xs ys hp;induction hp with
    |nil=>intro _;exact .nil
    |cons q t' ih'=>intro hn;rw[Qi,not_or]at hn;exact .cons (FQ (Zd hn.1) q) (ih' hn.2)
   exact key t aR.1
  |succ j=>
   have hj:j<aI.length:=by simpa using h
   refine .cons ?_ (ih (k:=j) hj aR.2);show(ZU aI[j] _) a=_;rw[zaf (λz=>aR.1 (by rw[z];exact Qn hj))];exact r1
def pot_l(h:Vg m)(R:UH rr):l≠p:=zbg R.ls h.1 (by
 intro z;have z':as.map V.ref=[Rq b,Rq m]:=by injection z
 cases as with
 |nil=>cases z'
 |cons x t=>rw[Qo]at z';injection z' with z1 _;cases z1)
def zcf.mem(r:zcf H as qs)(ha:a∈as):∃q∈qs,H a=some (.tup [iV q.1,iV q.2]):=by
 induction r with
 |nil=>cases ha
 |cons r t ih=>
  rcases Qi.mp ha with e|e
  ·exact⟨_,Qc,e▸r⟩
  obtain⟨q,h1,h2⟩:=ih e;exact⟨q,QM h1,h2⟩
inductive IspTieD(vs:List V)(H:Hp)(Q:VK):Prop
 |mk (p l:Nc) (b m:Int) (as:Nl) (rr:List (List Nat)) (h0:vs=[.ref p,.ref l]) (h1:Pot H p b m) (h2:NAt H l as rr) (h3:Good (rsN rr)) (h4:0<rr.length) (h5:rr.length≤40) (bH:p∉as)
  (h6:∀(b' m':Int) (dG:List Hu) (H':Hp),dG.length=rr.length→Good (rsN dG)→Q5 m'→UK dG→Keep (p::as) H H'→Q .non H'):IspTieD vs H Q
def spTieD:Sp:=λvs H Q _=>IspTieD vs H Q
def scTie:zar [qP,qR, "_law_one", "_law_ahead", "_law_steps_here", "_law_first", "_law_p", "_law_q"] [qP,qR] (zaj sTie):=fsk
def ok_tie(F:Z1 "_law_tie" "_law_tie" sTie f fd)(FT:RU)(bT:Z3 fdt [qP,qM] [])(mT:mg qG=some Cn)(GT:ZB 1 ft fdt [qP,qM] zfo)(FS:Z1 "_law_steps" "_law_steps" zfd fs fds)(bS:Z3 fds [qR, "_law_p", "_law_q"] [])(mS:mg "_law_steps" = some (Fu fs))(GS:ZB 2 fs fds [qR, "_law_p", "_law_q"] spSteps0)(aa:G'):ZB 3 f fd [qP,qR] spTieD:=by
 refine F.okL scTie Fx;obtain⟨p,l,b,m,as,rr,rfl,hp,R,hG,bg,bw,bH,k⟩:=h;have hu:=zcm hr;have bX:=Jg hu;have aV:Vk _:=hr.mono Fw;have aJ  :=sizeLine_eq;refine⟨_,zae (BH scTie.nd (SS Et))
  (zae (Ep (zan (zgp bX) AM RD HP) (zag ps_retN))
  (zae (JI scTie.nd (QE AM (SS (OE (RJ (Pj (pv 1) (pv 2))))) FV))
  (zae (X2 scTie.nd (BQ bS .nil zba (ZZ (Q3 Rg))))
  (zae (zas 5 scTie.nd (SS (Hf (RJ (Q4 zad)))))
  (zag (QH (zaz (SX (pv 4) (zbx (pv 5)))) (XM (zat (za6 6 scTie.nd) (LA (za6 7 scTie.nd))))
   (zag (zbt (PW.pt (pw_and (MJ OG RM HP) (zgi (zan zc3 OG (QE RK RM (λ_ _=>rfl)) rfl))))
    (zae (za2 (Vl AM (zaa (Es (U8 AM Tt)) (Hf OG))))
    (zae (za2 (Vl (Hq 1 7) (zaa (Es (U8 (Hq 1 7) (Bj zad))) Rg)))
    (zag ps_retN))) zaw)))))))),?_⟩
 have kl:(rsN rr).length=rr.length:=by unfold rsN;rw[List.length_map,List.length_range]
 have bK:=R.len;have nlp:=pot_l hp R;have nap:∀a∈as,a≠p:=λa ha z=>bH (z▸ha);have dB:(as.map V.ref).length=rr.length:=by rw[Qa];exact bK
 refine⟨A5,A5,l,A5,Gm Cw,p,b,m,A5,hp,Fs,Fs,λj1 b1 m1 H1 kE hj1 cg mv=>?_⟩;have k1:Keep [p] H H1:=za7 mv;have R1:NAt H1 l as rr:=R.keep k1 Tb λa ha=>by simpa using nap a ha
 obtain⟨one,rfl⟩:=Zi kE;have ho:one<rr.length:=by lia
 have aA:one<as.length:=by lia
 have a1:∀{c:Nat} (h:c<as.length),DC (c:Int)=some (.ref as[c]):=λh=>zav (by rw[Qt,Qb h];rfl);refine⟨A5,A5,l,_,_,A5,rfl,AV,a1 aA,Tv,λq hq=>?_⟩;have k2:Keep [p] H (QI q Ge):=k1.trans TN;have aD:Pot (QI q Ge) p b1 m1:=cg.keep (xs:=[]) TN Fr;have R2:NAt (QI q Ge) l as rr:=R1.k0 TN;refine⟨as[one],q,A5,rfl,FH (R2.row aA ho),LN,A5,?_⟩;generalize QI q Ge=H2 at k2 aD R2;have ag:=R2.row aA ho;have gM:∀(b' m':Int) (H':Hp),Q5 m'→Keep [p] H H'→Q .non H':=λb' m' H' cU k'=>k b' m' rr H' rfl hG cU (R.keep k' Tb λa ha=>by simpa using nap a ha) (k'.sub Fr);by_cases he:rr[one]=[]
 ·exact zay (by rw[he];rfl) (gM b1 m1 H2 aD k2)
 refine zal (by cases z:rr[one] with|nil=>exact absurd z he|cons _ _=>rfl) ?_;have dz:rr[one].length≤900:=by have:=zbv.rows hG _ AN;rw[kl]at this;exact Zf this Fs
 have hzp:0<rr[one].length:=Uf.mpr he;have hml1:(rr[one].map iV).length=rr[one].length:=Qa ..;refine⟨A5,A5,l,_,_,A5,rfl,E6,a1 aA,A5,A5,A5,l,_,_,A5,rfl,E6,a1 aA,as[one],A5,HJ ag,p,b1,m1,A5,aD,Fs,Fs,λj2 b3 m3 H3 kC tD br ly=>?_⟩;obtain⟨jn,rfl⟩:=Zi kC;have qp:jn<rr[one].length:=by lia
 have k3:Keep [p] H H3:=k2.trans (za7 ly);have R3:NAt H3 l as rr:=R.keep k3 Tb λa ha=>by simpa using nap a ha
 refine⟨as[one],_,_,iV rr[one][jn],rfl,rfl,FH (R3.row aA ho),zav (by rw[Qt,Qb qp];rfl),?_⟩;have pc:rr[one][jn]∈rr[one]:=Qn qp;generalize rr[one][jn]=ah at pc;have ax:MC (ah,one):=(zdh Ph).mpr (by show ah∈JY one;rw[row_N ho];exact pc);refine⟨A5,A5,A5,l,as,rr,(ah,one),rfl,R3,ax,hG,bw,λt ps n H4 ft ht pa nd hn k4=>?_⟩;have c9:Keep [p] H H4:=k3.trans (k4.sub Fr);have bp:=br.keep k4 Fr;have bo:ps.length=n+1:=by have:=Zl pa;unfold Wb.run at this;rwa[Qa,Wm]at this
 have hml2:(ps.map V.ref).length=n+1:=by rw[Qa];exact bo
 have ntp:t≠p:=λz=>by rw[z,br.1]at ft;cases ft
 refine⟨A5,A5,t,A5,HJ ht,p,b3,m3,A5,bp,Fs,Fs,λj5 b5 m5 H5 kr tq aY iM=>?_⟩;obtain⟨jf,rfl⟩:=Zi kr;have hjf:jf≤(ps.map V.ref).length:=by lia
 have k5:Keep [p] H H5:=c9.trans (za7 iM);have ny:=iM _ _ ht ntp;have mi:zcf H5 ps (JZ (ah,one) (n+1)):=zcf.keep pa λb' x' y' eb=>iM _ _ eb (zbg eb bp.1 FG);refine⟨A5,A5,A5,t,A5,FH ny,λs1 lK=>?_⟩;rw[zd1 hjf];have ht6:(QF s1 (FJ ((ps.map V.ref).drop jf))) t=some Ei:=by rw[zaf (A0 ny lK)];exact ny
 refine⟨A5,A5,A5,t,A5,FH ht6,λs2 de=>?_⟩;rw[zhx hjf];have rh:s1≠s2:=zac (o:=_) zab de;refine⟨s1,s2,_,A5,rfl,FQ rh zab,zab,by rw[Yu,Ze];lia,λs3 qd=>?_⟩;have k6:Keep [] H5 (Ij (LD s1 (FJ ((ps.map V.ref).drop jf)) s2 ((ps.map V.ref).take jf)) s3 (FJ ((ps.map V.ref).drop jf++(ps.map V.ref).take jf))):=((FM lK).trans (FM de)).trans (FM qd);have iw:(Ij (LD s1 (FJ ((ps.map V.ref).drop jf)) s2 ((ps.map V.ref).take jf)) s3 (FJ ((ps.map V.ref).drop jf++(ps.map V.ref).take jf))) s3=some (FJ ((ps.map V.ref).drop jf++(ps.map V.ref).take jf)):=zab;have hvs:∀v∈(ps.map V.ref).drop jf++(ps.map V.ref).take jf,∃a∈ps,v=.ref a:=λv hv=>by
  rcases Qg.mp hv with z|z
  ·obtain⟨a,ha,rfl⟩:=Ql.mp (Wp z);exact⟨a,ha,rfl⟩
  obtain⟨a,ha,rfl⟩:=Ql.mp (Wh z);exact⟨a,ha,rfl⟩
 generalize(ps.map V.ref).drop jf++(ps.map V.ref).take jf=vs at iw hvs k6;generalize upd (LD s1 (FJ ((ps.map V.ref).drop jf)) s2 ((ps.map V.ref).take jf)) s3 (FJ vs)=H6 at k6 iw;have fF:Keep [p] H H6:=k5.trans (k6.sub Fr);have cT:=aY.keep k6 Fr;have R6:NAt H6 l as rr:=R.keep fF Tb λa ha=>by simpa using nap a ha
 have pa6:zcf H6 ps (JZ (ah,one) (n+1)):=zcf.keep mi λb' x' y' eb=>k6 _ _ eb Fr;have cz:=R6.row aA ho;refine⟨s3,rfl,⟨_,FH iw⟩,zbs (xs:=vs) (λi σ H'=>Aj2 (Ex2 λx6 x7=>σ=[Fy p,Cp,Sa one,Sa ah,Fy t,Sa jf,x6,x7]) (H'=H6)) ⟨⟨_,_,rfl⟩,rfl⟩ (λi σ H' _ hh=>hh.2▸SqL.of iw) ?_ ?_⟩
 ·rintro i v σ H' hv ⟨⟨x6,x7,rfl⟩,rfl⟩;obtain⟨a,ha,rfl⟩:=hvs v (Wi hv);obtain⟨⟨x,y⟩,hxy,hta⟩:=pa6.mem ha;obtain⟨n',_,e'⟩:=Ql.mp hxy;refine⟨a,A5,HV hta,rfl,_,A5,_,A5,rfl,?_⟩;refine⟨A5,A5,rfl,A5,?_⟩;by_cases pU:y=one
  ·subst pU;exact zal Fr (iteF ⟨⟨_,_,rfl⟩,rfl⟩)
  refine zay (by simpa using λz=>pU Fs) ?_;refine⟨A5,A5,A5,l,_,_,A5,rfl,Ln,a1 aA,as[one],A5,HJ cz,rfl,ze6 _,A5,?_⟩;rw[inV_nat];by_cases ij:y∈rr[one]
  ·exact zal (by rw[decide_eq_true ij];rfl) ⟨⟨_,_,rfl⟩,rfl⟩
  refine zay (by rw[decide_eq_false ij];rfl) ?_;obtain⟨i1,i2⟩:=zg4 pc;have hi1:rr[one].idxOf ah<rr[one].length:=Jm.mpr pc;refine⟨A5,A5,l,_,_,A5,rfl,Ln,a1 aA,Hd cz,A5,A5,l,_,_,A5,rfl,Ln,a1 aA,Hd cz,A5,as[one],_,_,A5,rfl,cz,rfl,ze6 _,i1,i2,_,A5,rfl,A5,as[one],_,_,rr[one].idxOf ah+1,rfl,by rw[show((rr[one].idxOf ah+1:Nat):Int)=(rr[one].idxOf ah:Int)+1 by lia],cz,Rx,Rx,?_⟩;have jH:MC (x,y):=e'▸itr_st (zbv.clo _ hG) ax n';have mX:=(zdh Ph).mp jH;have hy:y<rr.length:=Yp λz=>by have im:x∈JY y:=mX;rw[row_No z]at im;cases im
  have gQ:y<as.length:=by lia
  have mX:x∈rr[y]:=by have im:x∈JY y:=mX;rwa[row_N hy]at im
  have hyl:rr[y].length≤900:=by have:=zbv.rows hG _ (zhc hy);rw[kl]at this;exact Zf this Fs
  have e1:(rr[one].map iV).take (rr[one].idxOf ah+1)++iV y::(rr[one].map iV).drop (rr[one].idxOf ah+1)=(ins rr[one] Ic y).map iV:=by rw[←Jl,←Kf,←Qo,←Qr];rfl
  rw[e1];have R7:=R6.set aA (ins rr[one] Ic y);have k7:Keep (p::as) H (upd H' as[one] (FJ ((ins rr[one] Ic y).map iV))):=(fF.sub Fr).trans (Keep.wr (QM (Qn aA)));have az:Pot (upd H' as[one] (FJ ((ins rr[one] Ic y).map iV))) p b5 m5:=cT.keep (xs:=[as[one]]) Ho (Hb (nap _ (Qn aA)));generalize upd H' as[one] (FJ ((ins rr[one] Ic y).map iV))=H7 at R7 k7 az;have hy7:y<(rr.set one (ins rr[one] Ic y)).length:=by rw[Us];exact hy
  have aX:=R7.row gQ hy7;rw[Xf (Zd pU)]at aX;obtain⟨i3,i4⟩:=zg4 mX;have ao:rr[y].idxOf x<rr[y].length:=Jm.mpr mX;refine⟨A5,A5,l,_,_,A5,rfl,AX,a1 gQ,Hd aX,A5,A5,l,_,_,A5,rfl,AX,a1 gQ,Hd aX,A5,as[y],_,_,A5,rfl,aX,rfl,ze6 _,i3,i4,_,A5,rfl,A5,as[y],_,_,rr[y].idxOf x+1,rfl,by rw[show((rr[y].idxOf x+1:Nat):Int)=(rr[y].idxOf x:Int)+1 by lia],aX,Rx,Rx,?_⟩;have e2:(rr[y].map iV).take (rr[y].idxOf x+1)++iV one::(rr[y].map iV).drop (rr[y].idxOf x+1)=(ins rr[y] (He x) one).map iV:=by rw[←Jl,←Kf,←Qo,←Qr];rfl
  rw[e2];have hg:=zbv.tie TX ah (one,rr[one]) n' hG AN pc (FA e' pU) (FA e' ij);rw[e']at hg;have hg:Good (zb9 (zb9 TX one (ins rr[one] Ic y)) y (ins (JY y) (He x) one)):=hg;rw[row_N hy,set_N,set_N]at hg;exact k b5 m5 _ _ (by rw[Us,Us]) hg (az.keep (xs:=[as[y]]) Ho (Hb (nap _ (Qn gQ)))) (R7.set gQ _) (Sg (Keep.wr (QM (Qn gQ))))
 rintro σ H' ⟨⟨x6,x7,rfl⟩,rfl⟩;exact gM b5 m5 H' cT fF
end
end K21
namespace Wb
def good_turn{α:Type}[DecidableEq α]{rs aN:Rs α}(h:Good rs)(hn:aN.map (·.1)=rs.map (·.1))(hr:∀x,∃k,row aN x=(Bg x).drop k++(Bg x).take k):Good aN:=by obtain⟨cs,lab,C⟩:=h;exact⟨cs,lab,zg8 C (by rw[hn]) hr⟩
def idx_at{zs:List Nat}(nd:zs.Nodup){i:Nat}(h:i<zs.length):zs.idxOf zs[i]=i:=
 (Wu (h₀:=Jm.mpr (Qn h)) (h₁:=h) nd).mp (Js _)
def leaf_N{rr:List Hu}(hG:Good TX){o j:Nat}(ho:o < rr.length)(hj:j≤rr[o].length) :
  Good (rsN (((rr++[[]]).set rr.length [o]).set o (rr[o].take j++rr.length::rr[o].drop j))):=by
 have hx:rr.length∉(rsN rr).map (·.1):=by rw[zdp];exact λz=>Yy _ (Wa.mp z)
 have fe:rr.length≠o:=Wd ho;have base:∀c,(∀y,c=some y→y∈rr[o])→(c=none→rr[o]=[])→Good (rsN (((rr++[[]]).set rr.length [o]).set o (ins rr[o] c rr.length))):=λc h1 h2=>by have:=zbv.leaf TX rr.length (o,rr[o]) c hG hx AN h1 h2;have this:Good (zb9 (zb9 (rsN rr++[(rr.length,[])]) o (ins rr[o] c rr.length)) rr.length [o]):=this;rw[←snoc_N,set_N,set_N,List.set_comm _ _ (Zd fe)]at this;exact this
 by_cases hz:rr[o]=[]
 ·have:=base none (λy z=>by cases z) λ_=>hz;have e:rr[o].take j++rr.length::rr[o].drop j=ins rr[o] none rr.length:=by rw[hz];simp[ins]
  rw[e];exact this
 have nd:rr[o].Nodup:=(zbv.sub _ hG _ AN).1;cases j with
 |succ i=>
  have hi:i<rr[o].length:=hj;have:=base (some rr[o][i]) (λy z=>by cases z;exact Qn hi) λz=>by cases z
  have e:ins rr[o] (some rr[o][i]) rr.length=rr[o].take Gr++rr.length::rr[o].drop Gr:=by show rr[o].take (rr[o].idxOf rr[o][i]+1)++rr.length::rr[o].drop (rr[o].idxOf rr[o][i]+1)=_;rw[Fk hi]
  rw[e]at this;exact this
 | zero=>
  have hp:0<rr[o].length:=Uf.mpr hz;have hi:rr[o].length-1<rr[o].length:=by lia
  have hg:=base (some rr[o][rr[o].length-1]) (λy z=>by cases z;exact Qn hi) λz=>by cases z
  have e:ins rr[o] (some rr[o][rr[o].length-1]) rr.length=rr[o]++[rr.length]:=by show rr[o].take (rr[o].idxOf rr[o][rr[o].length-1]+1)++rr.length::rr[o].drop (rr[o].idxOf rr[o][rr[o].length-1]+1)=_;rw[Fk hi,show rr[o].length-1+1=rr[o].length by lia,List.take_length,List.drop_length]
  rw[e]at hg;refine good_turn hg (by rw[zdp,zdp];simp) λx=>?_;have ck:(((rr++[[]]).set rr.length [o]).set o (rr[o]++[rr.length])).length=rr.length+1:=by simp
  have au:(((rr++[[]]).set rr.length [o]).set o (rr[o].take 0++rr.length::rr[o].drop 0)).length=rr.length+1:=by simp
  by_cases pV:x<rr.length+1
  ·rw[row_N (by rw[au];exact pV),row_N (by rw[ck];exact pV)];by_cases rK:x=o
   ·subst rK;rw[List.getElem_set_self,List.getElem_set_self];exact⟨rr[x].length,by rw[List.drop_left,List.take_left];rfl⟩
   rw[Xf (Zd rK),Xf (Zd rK)];exact⟨0,Fr⟩
  rw[row_No (by rw[au];exact pV),row_No (by rw[ck];exact pV)];exact⟨0,rfl⟩
def new_N{rr:List Hu}(hG:Good TX):Good (rsN (rr++[[]])):=by rw[snoc_N];exact zbv.new _ _ hG (by rw[zdp];exact λz=>Yy _ (Wa.mp z))
def nil_N:Good (rsN []):=zbv.nil
end Wb
namespace K21
open PySem L2 Wb
abbrev zig:Stmt:=top 30
def NAt.snoc(R:UH rr)(he:H e=some Ge)(am:e∉as)(fh:l≠e):NAt (ZU l (Hn e)) l (as++[e]) (rr++[[]]):=by
 refine⟨by rw[zab,Qr];rfl,?_,?_⟩
 ·have lQ:=R.apart;have hr:=R.ro;clear R;induction hr with
  |nil=>exact .cons (FQ (Zd fh) he) .nil
  | cons r t ih=>
   rw[Qi,not_or]at lQ am;refine .cons (FQ (Zd lQ.1) r) ?_;have key:∀{zs:List V} {xs:Nl} {ys:List Hu},Paired (λa r=>H a=some Td) xs ys→l∉xs→Paired (λa r=>(RC l zs) a=some Td) (xs++[e]) (ys++[[]]):=by
    intro zs xs ys hp;induction hp with
    |nil=>intro _;exact .cons (FQ (Zd fh) he) .nil
    |cons q t' ih'=>intro hn;rw[Qi,not_or]at hn;exact .cons (FQ (Zd hn.1) q) (ih' hn.2)
   exact key t lQ.2
 rw[Zn];exact⟨R.nd,Zh.mpr ⟨Fr,Zy⟩,λa ha b hb z=>am (by rw[←Qd.mp hb,←z];exact ha)⟩
inductive zh2(vs:List V)(H:Hp)(Q:VK):Prop
 |mk (p:Nc) (b m:Int) (n:Nat) (h0:vs=[.ref p,iV n]) (h1:Pot H p b m) (h2:n≤40)
  (h3:∀(l:Nc) (as:Nl) (rr:List Hu) (b' m':Int) (H':Hp),UK rr→Good TX→rr.length≤n→Q5 m'→p∉as→H l=none→(∀a∈as,H a=none)→Keep [p] H H'→Q Sh H'):zh2 vs H Q
def spRoundsD:Sp:=λvs H Q _=>zh2 vs H Q
section
variable{P:Nk}{w:Nn}{K:Na}{mg:Ng}{base:No}
def zeo:zar [qP, "_law_most",qR, "_law_k",qO] [qP, "_law_most"] (zaj zig):=fsk
def ok_rounds(F:Z1 "_law_rounds" "_law_rounds" zig f fd)(FT:RU)(bT:Z3 fdt [qP,qM] [])(mT:mg qG=some Cn)(GT:ZB 1 ft fdt [qP,qM] zfo)(FI:Z1 "_law_tie" "_law_tie" sTie fi fdi)(bI:Z3 fdi [qP,qR] [])(mI:mg "_law_tie" = some (Fu fi))(GI:ZB 3 fi fdi [qP,qR] spTieD)(aa:G')(bA:mg "range" = none):ZB 4 f fd [qP, "_law_most"] spRoundsD:=by
 refine F.okL zeo Fx;obtain⟨p,b,m,n,rfl,hp,hn,k⟩:=h;have hu:=zcm hr;have aV:Vk _:=hr.mono Fw;have aJ  :=sizeLine_eq;refine⟨_,zae (BH zeo.nd RD)
  (zae (QH (Bk (OE (SS (Hf (Es RK))))) (DT zeo.nd)
   (zae (Eo RM (Hf (za1 zad)))
   (zag (zbt (PW.pt (pw_and (Eh HF) (zgi (Eh Sn))))
    (zae (X2 zeo.nd (SS (Q3 zad)))
    (zae (Eo (Hq 2 3) TW)
    (zag (za2 (Vl (Hq 2 4) (zaa (SS (OE (Es (RJ (Pj (pv 2) (pv 4)))))) Tt)))))) zaw))))
  (zae (QH (Bk (zaa (ZX bT .nil zba (ZM (zaa (QE (za1 (QQ (zaa (Es (RJ Rg)) (Hf (Es (K7 zah (RJ (ZY zad))))))))
     (ZX bT .nil zba (ZM Ia)) FV) zad))) zad)) (DT zeo.nd)
   (zag (za2 (zam GI hr rfl mI FI.kp bI .nil zba (ZM Rg)))))
  (zag (AE RM)))),?_⟩
 refine⟨Tv,λl hl=>?_⟩;have k1:Keep [p] H (ZU l Ge):=Keep.new hl;have cg:Pot (ZU l Ge) p b m:=hp.keep (xs:=[]) Cl Fr;have nlp:l≠p:=Zd (Mb hl);have R1:NAt (ZU l Ge) l [] []:=⟨zab,.nil,Zy⟩;generalize ZU l Ge=H1 at k1 cg R1;refine⟨A5,A5,_,A5,rfl,p,b,m,A5,cg,Fs,Fs,λj2 b2 m2 H2 kC tD aD mt=>?_⟩;have k2:Keep [p] H H2:=k1.trans (za7 mt);have R2:NAt H2 l [] []:=R1.keep (za7 mt) Tb λa ha=>by cases ha
 obtain⟨many,rfl⟩:=Zi kC;have hmany:many≤40:=by lia
 refine⟨A5,Fs,Fs,?_⟩;refine zcw (lo:=0) (λi σ H'=>Aj3 (Ex2 λx3 x4=>σ=[Fy p,Sa n,Cp,x3,x4]) (Keep [p] H H') (Ex4 λ(as:Nl) (rr:List Hu) (b' m':Int)=>VE (rr.length=i) P2 (p∉as) (∀a∈as,H a=none)))
  ⟨⟨_,_,rfl⟩,k2,[],[],b2,m2,R2,nil_N,rfl,aD,Fr,λa ha=>by cases ha⟩ ?_ ?_
 ·rintro i σ H3 hi ⟨⟨x3,x4,rfl⟩,k3,as,rr,b3,m3,R3,pi,bw,br,bH,bu⟩;have hi40:rr.length<40:=by lia
  refine⟨A5,.inl ⟨rfl,_,TY⟩,Tv,λe he=>?_⟩;have R4:NAt Pk l as rr:=R3.k0 (FM he);have he4:(WK e Ge) e=some Ge:=zab;have fh:l≠e:=zac R3.ls he;have am:e∉as:=λz=>by obtain⟨r,hr⟩:=R3.mem z;rw[he]at hr;cases hr
  have nep:e≠p:=Zd (zac br.1 he);have feH:H e=none:=zap k3 he (Fv nep);have dB:(as.map V.ref).length=rr.length:=by rw[Qa];exact R3.len
  refine⟨l,_,A5,rfl,R4.ls,Fs,?_⟩;have R5:=R4.snoc he4 am fh;have k5:Keep [p] H (Ij Pk l (Hn e)):=λc u ec hc=>by have h1:=k3 c u ec hc;rw[zaf (λz=>by rw[z,hl]at ec;cases ec),zaf (A0 h1 he)];exact h1
  have aY:Pot (Ij Pk l (Hn e)) p b3 m3:=(br.keep (xs:=[]) (FM he) Fr).keep (xs:=[l]) Ho (Hb nlp);generalize upd Pk l (Hn e)=H5 at R5 k5 aY;have cC:p∉as++[e]:=λz=>by
   rcases Qg.mp z with y|y
   ·exact bH y
   exact nep (Qd.mp y).symm
  have iD:∀a∈as++[e],H a=none:=λa ha=>by
   rcases Qg.mp ha with y|y
   ·exact bu a y
   rw[Qd.mp y];exact feH
  have dU:(rr++[[]]).length=i+1:=by rw[Qk,bw];rfl
  have stop:∀(x3 x4:Option V) (b' m':Int) (H':Hp),Q5 m'→NAt H' l (as++[e]) (rr++[[]])→Keep [p] H H'→Aj3 (Ex2 λy3 y4=>[ID,Sa n,Cp,x3,x4]=[ID,Sa n,Cp,y3,y4]) (Keep [p] H H') (Ex4 λ(as:Nl) (rr:List Hu) (b' m':Int)=>VE (rr.length=i+1) P2 (p∉as) (∀a∈as,H a=none)):=λx3 x4 b' m' H' cU R' k'=>⟨⟨_,_,rfl⟩,k',_,_,b',m',R',new_N pi,dU,cU,cC,iD⟩;refine⟨A5,_,A5,rfl,A5,?_⟩;by_cases hi0:i=0
  ·exact zal (Gx Fs) (iteF (stop _ _ b3 m3 H5 aY R5 k5))
  refine zay (Gh Fs) ?_;refine⟨A5,p,b3,m3,6,rfl,aY,Fw,Fw,λj6 b6 m6 H6 _ _ cT iL=>⟨_,_,rfl,rfl,_,rfl,?_⟩⟩;have k6:Keep [p] H H6:=k5.trans Oy;have dJ:∀a∈as++[e],a≠p:=λa ha z=>cC (z▸ha);have R6:NAt H6 l (as++[e]) (rr++[[]]):=R5.keep Oy Tb λa ha=>by simpa using dJ a ha
  cases decide (j6>0) with
  |false=>exact iteF (stop _ _ b6 m6 H6 cT R6 k6)
  |true=>
   refine iteT ?_;refine⟨A5,A5,p,b6,m6,A5,cT,Fs,Fs,λj7 b7 m7 H7 tf hj71 az lx=>?_⟩;obtain⟨ot,rfl⟩:=Zi tf;have sE:ot<rr.length:=by lia
   have k7:Keep [p] H H7:=k6.trans (za7 lx);have R7:NAt H7 l (as++[e]) (rr++[[]]):=R6.keep (za7 lx) Tb λa ha=>by simpa using dJ a ha
   have bK:as.length=rr.length:=R3.len;have og:rr.length<(as++[e]).length:=by rw[Qk,bK];exact Yr _
   have hkR:rr.length<(rr++[[]]).length:=by rw[Qk];exact Yr _
   have a1:∀{c:Nat} (h:c<(as++[e]).length),atI ((as++[e]).map V.ref) (c:Int)=some (.ref (as++[e])[c]):=λh=>zav (by rw[Qt,Qb h];rfl);have ei:(0:Int)+(i:Int)=((rr.length:Nat):Int):=by lia
   have aX:=R7.row og hkR;have e0:(rr++[[]])[rr.length]'hkR=[]:=by simp
   rw[e0]at aX;refine⟨A5,A5,l,_,_,.ref (as++[e])[rr.length],rfl,rfl,AX,(by rw[ei];exact a1 og),Hd aX,A5,_,_,A5,rfl,aX,Fw,?_⟩;have k8:Keep [p] H (JP (as++[e])[rr.length] (FJ ([ot].map iV))):=λc u ec hc=>by rw[zaf (λz=>by rw[z,iD _ (Qn og)]at ec;cases ec)];exact k7 c u ec hc
   have R8:=R7.set og [ot];have fZ:Pot (JP (as++[e])[rr.length] (FJ ([ot].map iV))) p b7 m7:=az.keep (xs:=[(as++[e])[rr.length]]) Ho (Hb (dJ _ (Qn og)));rw[show List.map iV ([]:List Nat)++[V.int (ot:Int)]=[ot].map iV from rfl];generalize JP (as++[e])[rr.length] (FJ ([ot].map iV))=H8 at k8 R8 fZ;have dk:ot<(as++[e]).length:=by lia
   have nP:ot<((rr++[[]]).set rr.length [ot]).length:=by rw[Us];lia
   have dA:=R8.row dk nP;have e8:((rr++[[]]).set rr.length [ot])[ot]'(nP)=rr[ot]:=by rw[Xf Fs,List.getElem_append_left sE]
   rw[e8]at dA;have jQ:rr[ot].length≤900:=by have:=zbv.rows pi _ (zhc sE);rw[show(rsN rr).length=rr.length by unfold rsN;rw[List.length_map,List.length_range]]at this;exact Zf this Fs
   have hml8:(rr[ot].map iV).length=rr[ot].length:=Qa ..;refine⟨A5,A5,l,_,_,A5,rfl,SqL.of R8.ls,a1 dk,Hd dA,A5,A5,A5,l,_,_,A5,rfl,SqL.of R8.ls,a1 dk,_,A5,HJ dA,_,A5,rfl,p,b7,m7,A5,fZ,Fs,Fs,λj9 b9 m9 H9 t8 hj91 jO ms=>?_⟩;obtain⟨jn,rfl⟩:=Zi t8;have qp:jn≤rr[ot].length:=by lia
   have nF:=ms _ _ dA (dJ _ (Qn dk));refine⟨A5,_,_,_,jn,rfl,rfl,nF,Fs,Fs,?_⟩;have R9:NAt H9 l (as++[e]) ((rr++[[]]).set rr.length [ot]):=R8.keep (za7 ms) Tb λa ha=>by simpa using dJ a ha
   have e9:(rr[ot].map iV).take jn++V.int (0+(i:Int))::(rr[ot].map iV).drop jn=(rr[ot].take jn++rr.length::rr[ot].drop jn).map iV:=by rw[ei,Qr,Qo,Jl,Kf]
   rw[e9];refine⟨⟨_,A5⟩,λc u ec hc=>?_,as++[e],_,b9,m9,R9.set dk _,leaf_N pi sE qp,by rw[Us,Us];exact dU,jO.keep (xs:=[(as++[e])[ot]]) Ho (Hb (dJ _ (Qn dk))),cC,iD⟩;rw[zaf (λz=>by rw[z,iD _ (Qn dk)]at ec;cases ec)];exact(k8.trans (za7 ms)) c u ec hc
 rintro σ H3 ⟨⟨x3,x4,rfl⟩,k3,as,rr,b3,m3,R3,pi,bw,br,bH,bu⟩;have dB:(as.map V.ref).length=rr.length:=by rw[Qa];exact R3.len
 refine⟨A5,A5,l,A5,Gm TY,_,A5,rfl,A5,l,A5,Gm TY,_,A5,rfl,Gm ⟨Fw,Fw⟩,_,A5,rfl,(Ft 3),λq hq=>?_⟩;have k4:Keep [] H3 (WK q GA):=Keep.new hq;have qf:(WK q GA) q=some GA:=zab;have nqp:q≠p:=Zd (zac br.1 hq);generalize WK q GA=H4 at k4 qf;have bp:=br.keep k4 Fr;refine⟨A5,p,b3,m3,3,rfl,bp,Fw,Fw,λj5 b5 m5 H5 kr tq aY iM=>?_⟩;have gT:=iM _ _ qf nqp;obtain⟨v,hv,hv1,hv2,hv3⟩:∃v:Int,atI [Tc 1,Tc (((as.map V.ref).length:Int)+1),Tc (3*((as.map V.ref).length:Int)+1)] j5=some (Rq v)∧0<v∧v≤121∧(rr.length=0→v=1):=by
  obtain⟨jn,rfl⟩:=Zi kr;have:jn=0∨jn=1∨jn=2:=by lia
  rcases this with rfl|rfl|rfl
  ·exact⟨_,zav rfl,Fw,Fw,λ_=>rfl⟩
  ·exact⟨_,zav rfl,Fs,Fs,λz=>by lia⟩
  exact⟨_,zav rfl,Fs,Fs,λz=>by lia⟩
 refine⟨q,_,_,Rq v,rfl,rfl,FH gT,hv,p,b5,m5,v,rfl,aY,hv1,Fs,λj6 b6 m6 H6 tm hj61 cT iL=>?_⟩;have k6:Keep [p] H3 H6:=(k4.sub Fr).trans ((za7 iM).trans Oy);have nap:∀a∈as,a≠p:=λa ha z=>bH (z▸ha);have R6:NAt H6 l as rr:=R3.keep k6 Tb λa ha=>by simpa using nap a ha
 obtain⟨jn,rfl⟩:=Zi tm;refine⟨A5,Fs,Fs,?_⟩;refine zcw (lo:=0) (λi σ H'=>Aj3 (Ex2 λx3 x4=>σ=[Fy p,Sa n,Cp,x3,x4]) (Keep [p] H H') (Ex3 λ(dG:List Hu) (b' m':Int)=>Aj4 (UK dG) (Good (rsN dG)) (dG.length=rr.length) P2))
  ⟨⟨_,_,rfl⟩,RQ k6,rr,b6,m6,R6,pi,rfl,cT⟩ ?_ ?_
 ·rintro i σ H7 hi ⟨⟨y3,y4,rfl⟩,k7,dG,b7,m7,R7,u9,aK,az⟩;refine⟨A5,A5,p,l,b7,m7,as,dG,rfl,az,R7,u9,Fs,Fs,bH,λb8 m8 rr8 H8 hl8 hG8 fZ R8 k8=>?_⟩;refine⟨⟨_,A5⟩,λc u ec hc=>k8 c u (k7 c u ec hc) λz=>?_,rr8,b8,m8,R8,hG8,hl8.trans aK,fZ⟩;rcases Qi.mp z with y|y
  ·exact hc (by rw[y];exact Qd.mpr rfl)
  rw[bu c y]at ec;cases ec
 rintro σ H7 ⟨⟨y3,y4,rfl⟩,k7,dG,b7,m7,R7,u9,aK,az⟩;exact⟨A5,k l as dG b7 m7 H7 R7 u9 Fs az bH hl bu k7⟩
end
end K21
namespace L2
open PySem PySem.Spec PyProof.Rows
theorem picks_to(cs:List Nat):∀b:Nat,b≤cs.length→(Ry b).filterMap (cs[·]?)=cs.take b
 |0,_=>by simp
 |b+1,h=>by rw[List.range_succ,List.filterMap_append,picks_to cs b Fs,Qj Fs];simp[Qb (show b<cs.length by lia)]
def indices_to{b n:Nat}(h:b≤n):XI (some (b:Int)) 1 n=List.range b:=by
 have:=PySem.StrLaws.strSliceIndices_plain (a:=0) (b:=b) (len:=n) Sv h;have e:XI (some (b:Int)) 1 n=PySem.Builtin.Str.strSliceIndices (He ((0:Nat):Int)) (some (b:Int)) 1 n:=by unfold PySem.Builtin.Str.strSliceIndices;simp;rw[show max (0:Int) (min 0 (n:Int))=0 by lia]
 rw[e,this];simp
section
variable{X:Cx}
def sl_strP:SlR X (λx lo hi H Q=>Ex2 λ(z:Str) (j:Nat)=>Aj6 (x=.str z) (lo=none) (hi=some (j:Int)) (j≤z.length) (z.length≤sizeLine) (∀y:Str,y.cps.toList=z.cps.toList.take j→Q (Hy y) H)):=by
 intro a7 s σ H x v vl vu lo hi sl Q I rx hs pl pu h;obtain⟨z,j,rfl,rfl,rfl,hj,hz,q⟩:=h;obtain⟨t,rfl⟩:=rx;cases pl;cases pu;rename_i tj;have hi:=indices_to hj;have aa:z.cps.toList.length=z.length:=by simp[Str.length]
 refine⟨"str",_,PySem.F.slot_str_getitem.lookup,Is,wpAny_getItem_str_slice (l:=none) (u:=some ((j:Int),tj)) (st:=none) hs rfl ?_⟩;have e1:slicePicked z none (He ((j:Int),tj)) none=List.range j:=hi;unfold sliceMade;rw[e1];split
 ·rename_i hc;have dq:j=z.length:=by simpa using hc
  exact⟨To,H,I,⟨t,rfl⟩,q z (by rw[dq,←aa,List.take_length])⟩
 refine⟨?_,⟨Hy _,H,HI,⟨_,rfl⟩,q _ ?_⟩⟩
 ·show ((Ry j).filterMap (z.cps[·]?)).toArray.size≤sizeLine;rw[Qp];exact Zf (List.length_filterMap_le ..) (by rw[Wm];exact Zf hj hz)
 show ((Ry j).filterMap (z.cps[·]?)).toArray.toList=_;rw[List.toList_toArray];have:=picks_to z.cps.toList j (FA aa hj);rw[←this];simp
end
end L2
namespace K21
open PySem L2 Wb
abbrev sCount:Stmt:=top 25
abbrev sNames:Stmt:=top 26
def cntF(ls:List Nat):Nat→Nat→List Nat
 |0,_=>[]
 |f+1,n=>if n=0 then[] else cntF ls f ((n-1)/ls.length)++[ls.getD ((n-1)%ls.length) 0]
theorem cntF_zero(ls:List Nat):∀f,cntF ls f 0=[]
 |0=>rfl
 |_+1=>rfl
inductive IspCount(vs:List V)(H:Hp)(Q:VK):Prop
 |mk (n:Nat) (ls:Str) (h0:vs=[iV n,.str ls]) (h1:n≤1000) (h2:2≤ls.length) (h3:ls.length≤1000) (h4:∀z:Str,z.cps.toList=cntF ls.cps.toList n n→Q (.str z) H):IspCount vs H Q
def spCount:Sp:=λvs H Q _=>IspCount vs H Q
def str_len(z:Str):z.cps.toList.length=z.length:=by simp[Str.length]
def zi0(a b:Str):(a++b).cps.toList=a.cps.toList++b.cps.toList:=by show(a.cps++b.cps).toList=_;simp
def app_len(a b:Str):(a++b).length=a.length+b.length:=by rw[←str_len,←str_len,←str_len,zi0,Qk]
section
variable{P:Nk}{w:Nn}{K:Na}{mg:Ng}{base:No}
def zie:zar ["_law_number", "_law_letters", "_law_name"] ["_law_number", "_law_letters"] (zaj sCount):=fsk
def ok_count(F:Z1 "_law_counted" "_law_counted" sCount f fd)(aa:G'):ZB 1 f fd ["_law_number", "_law_letters"] spCount:=by
 refine F.okL zie Fx;obtain⟨n,ls,rfl,hn,au,fj,k⟩:=h;have aJ:=sizeLine_eq;refine⟨_,zae (BH zie.nd za4)
  (zae (M4 (Eh Hx)
   (zae (BH zie.nd (zaq zfj (zbb ix_str RK (Y3 (V6 Hx zah) (LV HH)) FV) RM))
   (zag (zas 0 zie.nd (VD (V6 Hx zah) (LV HH))))))
  (zag (AE RM))),?_⟩
 have ki:=str_len ls;refine⟨λm σ H'=>Ex3 λ(c f:Nat) (z:Str)=>Aj6 (m=c) (σ=[Sa c,SO ls,SO z]) (H'=H) (c≤f) (KI f c++z.cps.toList=KI n n) (z.length+c≤n),
  ⟨n,n,n, "",rfl,rfl,rfl,Gg,by simp;rfl,by show 0+n≤n;lia⟩,?_⟩
 rintro m σ H' ⟨c,f,z,rfl,rfl,rfl,hcf,he,dz⟩;refine⟨A5,_,A5,rfl,A5,?_⟩;by_cases h0:m=0
 ·subst h0;refine zal (Gx Fs) ?_;rw[cntF_zero]at he;exact⟨A5,k z he⟩
 refine zay (Gh Fs) ?_;cases f with
 |zero=>lia
 |succ f=>
  have e1:(m:Int)-1=((m-1:Nat):Int):=by lia
  have sQ:(m-1)%ls.length<ls.length:=K5 Fs;have cX:atI ls.cps.toList (((m:Int)-1)%(ls.length:Int))=some (ls.cps.toList.getD ((m-1)%ls.length) 0):=by rw[e1,←Int.natCast_emod];refine zav ?_;rw[Qx,Qb (FA ki sQ)];rfl
  refine⟨_,λ σ' H' z=>z,?_⟩;refine⟨A5,A5,_,A5,rfl,A5,A5,Fs,_,A5,rfl,by show(0:Int)<(ls.length:Int);lia,_,_,A5,rfl,Fs,cX,A5,_,A5,rfl,by show 1+z.length≤sizeLine;lia,?_⟩;refine⟨A5,_,A5,rfl,A5,A5,Fs,_,A5,rfl,⟨Fs,Fs⟩,?_⟩;have e2:((m:Int)-1)/(ls.length:Int)=(((m-1)/ls.length:Nat):Int):=by rw[e1];exact(Int.natCast_ediv ..).symm
  have fh:(m-1)/ls.length≤m-1:=Nat.div_le_self _ _;rw[e2];refine⟨(m-1)/ls.length,Fs,(m-1)/ls.length,f,A5,rfl,rfl,Fs,?_,?_⟩
  ·rw[← he,zi0];show cntF _ f _++([_]++_)=(if m=0 then[] else KI f ((m-1)/ls.cps.toList.length)++[ls.cps.toList.getD ((m-1)%ls.cps.toList.length) 0])++_;rw[if_neg h0,ki,Zc]
  rw[app_len];show 1+z.length+(m-1)/ls.length≤n;lia
def zc4(j:Nat):Str:=[("ab" : Str), "za", "xyz", "qn"].getD j "ab"
def nmF(way many first pA:Nat)(tl:List Nat)(k:Nat):List Nat:=
 if way=0∧many≤26 then[97+(first+pA*k)%676%26]
 else if way=1 then cntF (zc4 (tl.length%4)).cps.toList (1+(first+pA*k)%97) (1+(first+pA*k)%97)
 else[97+(first+pA*k)%676/26,97+(first+pA*k)%676%26]++tl.take ((first+k)%(tl.length+1))
def cnt_nd:∀j<4,((Ry 97).map λi=>cntF (zc4 j).cps.toList (1+i) (1+i)).Nodup:=by decide+kernel
def cnt_ok:∀j<4,∀i<97,1≤(cntF (zc4 j).cps.toList (1+i) (1+i)).length∧(cntF (zc4 j).cps.toList (1+i) (1+i)).length≤8∧∀c∈cntF (zc4 j).cps.toList (1+i) (1+i),97≤c∧c≤122:=by decide+kernel
def cnt_inj{j a b:Nat}(hj:j<4)(ha:a<97)(hb:b<97)(h:cntF (zc4 j).cps.toList (1+a) (1+a)=cntF (zc4 j).cps.toList (1+b) (1+b)):a=b:=by refine(Wu (h₀:=by rw[Qa,Wm];exact ha) (h₁:=by rw[Qa,Wm];exact hb) (cnt_nd j hj)).mp ?_;rw[Zm,Zm,Ki,Ki];exact h
def byS:List Nat:=[1,3,5,7,9,25,27,675]
def by_inj{b f a c:Nat}(hb:b∈byS)(ha:a<40)(hc:c<40)(h:(f+b*a)%676=(f+b*c)%676):a=c:=by simp[byS]at hb;rcases hb with rfl|rfl|rfl|rfl|rfl|rfl|rfl|rfl<;>omega
def by_inj97{b f a c:Nat}(hb:b∈byS)(ha:a<40)(hc:c<40)(h:(f+b*a)%97=(f+b*c)%97):a=c:=by simp[byS]at hb;rcases hb with rfl|rfl|rfl|rfl|rfl|rfl|rfl|rfl<;>omega
def by_inj26{b f a c:Nat}(hb:b∈byS)(ha:a<26)(hc:c<26)(h:(f+b*a)%676%26=(f+b*c)%676%26):a=c:=by simp[byS]at hb;rcases hb with rfl|rfl|rfl|rfl|rfl|rfl|rfl|rfl<;>omega
def nm_inj{way many f b a c:Nat}{tl:List Nat}(hb:b∈byS)(hm:many≤40)(ha:a<many)(hc:c<many)(h:YB a=YB c):a=c:=by
 unfold nmF at h;split at h
 ·rename_i z;have h:97+(f+b*a)%676%26=97+(f+b*c)%676%26:=by injection h
  exact by_inj26 (f:=f) hb Fs Fs Fs
 split at h
 ·exact by_inj97 hb Fs Fs (cnt_inj Id Id Id h)
 rw[Yv,Yv,Yv,Yv]at h;injection h with h1 h2;injection h2 with h2 _;exact by_inj (f:=f) hb Fs Fs Fs
def nm_ok{way many f b k:Nat}{tl:List Nat}(ht:tl.length≤6)(hc:∀c∈tl,97≤c∧c≤122):1≤(YB k).length∧(YB k).length≤8∧∀c∈YB k,97≤c∧c≤122:=by
 unfold nmF;split
 ·refine⟨Gg,by show 1≤8;decide,λc h=>?_⟩;rw[Qd.mp h];lia
 split
 ·exact cnt_ok _ Id _ Id
 refine⟨Fr,by simp[Ze];lia,λc h=>?_⟩;rw[Yv,Yv,Kg,Qi,Qi]at h;rcases h with h|h|h
 ·lia
 ·lia
 exact hc c (Wh h)
def cnt_not:∀j<4,∀i<97,cntF (zc4 j).cps.toList (1+i) (1+i)≠("nobody" : Str).cps.toList:=by decide+kernel
def nm_not{way many f b k:Nat}{tl:List Nat}(ht:∀ c t,tl=c::t→c=110):YB k≠("nobody" : Str).cps.toList:=by
 have e:("nobody" : Str).cps.toList=[110,111,98,111,100,121]:=rfl;unfold nmF;split
 ·rw[e];simp
 split
 ·exact cnt_not _ Id _ Id
 rw[e];intro h;rw[Yv,Yv,Kg]at h;injection h with _ h;injection h with _ h;cases tl with
 |nil=>simp at h
 |cons c t=>
  have:=ht c t rfl;cases hk:(f+k)%((c::t).length+1) with
  |zero=>rw[hk]at h;simp at h
  |succ n=>rw[hk,List.take_succ_cons]at h;injection h with h _;lia
inductive IspNames(vs:List V)(H:Hp)(Q:VK):Prop
 |mk (p:Nc) (b m:Int) (n:Nat) (h0:vs=[.ref p,iV n]) (h1:Pot H p b m) (h2:n≤40) (h3:∀(l:Nc) (zs:Nh) (b' m':Int) (H':Hp),H' l=some (.lst (zs.map V.str))→zs.length=n→zs.Nodup→(∀z∈zs,zb6 z∧z ≠ "nobody")→Pot H' p b' m'→H l=none→Keep [p] H H'→Q (.ref l) H'):IspNames vs H Q
def spNames:Sp:=λvs H Q _=>IspNames vs H Q
def zc8:zar [qP,qM, "_law_letters", "_law_first", "_law_by", "_law_tail", "_law_way", "_law_found", "_law_k", "_law_at", "_law_name"] [qP,qM] (zaj sNames):=fsk
def ok_names(F:Z1 "_law_names" "_law_names" sNames f fd)(FT:RU)(bT:Z3 fdt [qP,qM] [])(mT:mg qG=some Cn)(GT:ZB 1 ft fdt [qP,qM] zfo)(FC:Z1 "_law_counted" "_law_counted" sCount fc fdc)(bC:Z3 fdc ["_law_number", "_law_letters"] [])(mC:mg "_law_counted" = some (Fu fc))(GC:ZB 1 fc fdc ["_law_number", "_law_letters"] spCount)(aa:G')(bA:mg "range" = none):ZB 2 f fd [qP,qM] spNames:=by
 refine F.okL zc8 Fx;obtain⟨p,b,m,n,rfl,hp,hn,k⟩:=h;have aJ:=sizeLine_eq;refine⟨_,zae (BH zc8.nd za4)
  (zae (JI zc8.nd Rm)
  (zae (X2 zc8.nd (QE (za1 (QQ (QQ (QQ (QQ (QQ (QQ (QQ Ia)))))))) Rm FV))
  (zae (zas 5 zc8.nd (zbk sl_strP za4 zbu (zbx Rm)))
  (zae (N3 zc8.nd Rm)
  (zae (zas 7 zc8.nd RD)
  (zae (QH (Bk HH) (za6 8 zc8.nd)
   (zae (zas 9 zc8.nd OR)
   (zag (zbt (PW.pt (pw_and (MZ CU zah HP) (zgi (zan op_le RK zah HP))))
    (zag (Eo OG (Hf (KM FV))))
    (zag (zbt (MZ CU zah HP)
     (zag (Eo OG (OE (zam GC hr rfl mC FC.kp bC .nil zba (zaa (QU zah OR) (Pj (za1 (QK (QK (QK Tu)))) (Y3 (K4 FX aa Zj SV) zah)))))))
     (zae (zas 10 zc8.nd (zaq zfj (zbb ix_str RM (VD (pv 9) zah) FV) (KM FV)))
     (zag (Eo OG (Hf (zaq zfj (pv 10) (zbk sl_strP Lc zbu (zbx (Y3 (QU (pv 3) OT) (QU (K4 FX aa Zj SV) zah)))))))))))))))
  (zag (AE OG)))))))),?_⟩
 refine⟨A5,p,b,m,676,rfl,hp,Fw,Fw,λd1 b1 m1 H1 i5 ud cg mv=>?_⟩;refine⟨(Ft 8),λq hq=>?_⟩;have k2:Keep [p] H (QI q GE):=(za7 mv).trans TN;have aD:Pot (QI q GE) p b1 m1:=cg.keep (xs:=[]) TN Fr;have cB:(QI q GE) q=some GE:=zab;have nqp:q≠p:=Zd (zac cg.1 hq);generalize QI q GE=H2 at k2 aD cB;obtain⟨f,rfl⟩:=Zi i5;refine⟨A5,p,b1,m1,8,rfl,aD,Fw,Fw,λd3 b3 m3 H3 h30 h31 br ly=>?_⟩;have jM:=ly _ _ cB nqp;have k3:=k2.trans (za7 ly);obtain⟨bb,cX,qy⟩:∃bb:Nat,atI [Tc 1,Tc 3,Tc 5,Tc 7,Tc 9,Tc 25,Tc 27,V.int 675] d3=some (iV bb)∧bb∈byS:=by
  obtain⟨jn,rfl⟩:=Zi h30;have hj:jn<8:=by lia
  have:∀j:Fin 8,∃bb∈byS,[Tc 1,Tc 3,Tc 5,Tc 7,Tc 9,Tc 25,Tc 27,V.int 675][j.1]?=some (iV bb):=by decide
  obtain⟨bb,h1,h2⟩:=this ⟨jn,hj⟩;exact⟨bb,zav h2,h1⟩
 have hbb2:bb≤675:=by
  have:∀x∈byS,x≤675:=by decide
  exact this bb qy
 refine⟨q,_,_,iV bb,rfl,rfl,FH jM,cX,?_⟩;refine⟨A5,p,b3,m3,7,rfl,br,Fw,Fw,λd4 b4 m4 H4 h40 h41 bp jl=>?_⟩;obtain⟨j4,rfl⟩:=Zi h40;have k4:=k3.trans (za7 jl);refine⟨A5,_,j4,rfl,rfl,rfl,by show j4≤6;lia,Fw,λtl jB=>?_⟩;have rT:tl.cps.toList.length≤6:=by rw[jB,Ze];lia
 have rS:∀c∈tl.cps.toList,97≤c∧c≤122:=λc hc=>by
  rw[jB]at hc;have:∀x∈("nqxbkw" : Str).cps.toList,97≤x∧x≤122:=by decide+kernel
  exact this c (Wh hc)
 have rX:∀c t,tl.cps.toList=c::t→c=110:=λc t ht=>by
  rw[jB]at ht;cases j4 with
  |zero=>cases ht
  |succ j=>rw[show("nqxbkw" : Str).cps.toList=110::[113,120,98,107,119] from rfl,List.take_succ_cons]at ht;injection ht with h _;exact h.symm
 have nn:=str_len tl;refine⟨A5,p,b4,m4,3,rfl,bp,Fw,Fw,λd5 b5 m5 H5 h50 h51 aY iM=>?_⟩;obtain⟨wy,rfl⟩:=Zi h50;have k5:=k4.trans (za7 iM);refine⟨Tv,λl hl=>?_⟩;have k6:Keep [p] H (QF l Ge):=k5.trans Cl;have nlp:l≠p:=Zd (zac aY.1 hl);have flH:H l=none:=zap k5 hl Tb;have cT:Pot (QF l Ge) p b5 m5:=aY.keep (xs:=[]) Cl Fr;have hl6:(QF l Ge) l=some (FJ (([]:List Str).map V.str)):=zab;generalize QF l Ge=H6 at k6 cT hl6;refine⟨A5,(n:Int),rfl,Fs,Fs,?_⟩;rw[Ur];refine zcw (lo:=0) (λi σ H'=>Aj4 (Ex3 λx8 x9 l'=>σ=[Fy p,Sa n,SO zdq,Sa f,Sa bb,SO tl,Sa wy,Cp,x8,x9,l']) (Keep [p] H H') (Pot H' p b5 m5) (Ex1 λzs:List Str=>Aj2 (H' l=some Ch) (zs.map (·.cps.toList)=(Ry i).map EF)))
  ⟨⟨_,_,_,rfl⟩,k6,cT,[],hl6,rfl⟩ ?_ ?_
 ·rintro i σ H7 hi ⟨⟨x8,x9,l',rfl⟩,k7,az,zs,aK,cP⟩;have dz:zs.length=i:=by have:=congrArg List.length cP;rwa[Qa,Qa,Wm]at this
  have fin:∀(y8 y9 y10:Option V) (z:Str) (H8:Hp),Keep [] H7 H8→z.cps.toList=X5 tl.cps.toList i→Aj4 (Ex3 λx8 x9 l'=>[ID,Sa n,SO zdq,Sa f,Sa bb,SO tl,Sa wy,Cp,y8,y9,y10]=[ID,Sa n,SO zdq,Sa f,Sa bb,SO tl,Sa wy,Cp,x8,x9,l']) (Keep [p] H (UX l (FJ (zs.map V.str++[To])))) (Pot (UX l (FJ (zs.map V.str++[To]))) p b5 m5) (Ex1 λbQ:List Str=>Aj2 ((UX l (FJ (zs.map V.str++[To]))) l=some (FJ (bQ.map V.str))) (bQ.map (·.cps.toList)=(Ry Gr).map EF)):=λy8 y9 y10 z H8 k8 hz=>⟨⟨_,_,_,rfl⟩,λc u ec hc=>by rw[zaf (XH flH)];exact k8 _ _ (k7 c u ec hc) Fr,(az.keep k8 Fr).keep (xs:=[l]) Ho (Hb nlp),zs++[z],by rw[zab,Qr];rfl,by rw[Qr,cP,List.range_succ,Qr,Qo,Qo,hz];rfl⟩;have e9:((f:Int)+(bb:Int)*(0+(i:Int)))%676=(((f+bb*i)%676:Nat):Int):=by rw[Int.zero_add,←Int.natCast_mul,←Int.natCast_add];rfl
  have e97:((f:Int)+(bb:Int)*(0+(i:Int)))%97=(((f+bb*i)%97:Nat):Int):=by rw[Int.zero_add,←Int.natCast_mul,←Int.natCast_add];rfl
  refine⟨A5,A5,A5,_,A5,rfl,Gm ⟨Fs,Fs⟩,_,A5,rfl,_,A5,rfl,Fw,?_⟩;rw[e9];have hat6:(f+bb*i)%676<676:=K5 Fw;have sS:(((f+bb*i)%676:Nat):Int)%26=(((f+bb*i)%676%26:Nat):Int):=rfl;have iT:KG ((((f+bb*i)%676:Nat):Int)%26)=some (97+(f+bb*i)%676%26):=by rw[sS];exact letter_at Fs Fs
  refine⟨A5,rfl,A5,?_⟩;have d8:(zs.map V.str).length<sizeLine:=by rw[Qa];lia
  by_cases hA:wy=0∧n≤26
  ·refine zay (Gh (by rw[hA.1];rfl)) ⟨_,rfl,_,_,rfl,rfl,_,rfl,zay (Gh Fs) ?_⟩;refine⟨A5,Hd aK,A5,A5,_,A5,rfl,Fw,_,_,A5,rfl,zec,iT,l,_,A5,rfl,aK,d8,?_⟩;exact fin _ _ _ _ H7 Keep.refl (by unfold nmF;rw[if_pos hA])
  have hc:(wy=0∧¬n≤26)∨wy≠0:=by lia
  rcases hc with⟨hw,hn26⟩|hw;refine zay (Gh (by rw[hw];rfl)) ⟨_,rfl,_,_,rfl,rfl,_,rfl,zal (Gx Fs) ?_⟩
  rotate_left
  refine zal (decide_eq_false (λz=>hw (by injection z;lia))) (iteF ?_)
  all_goals
   refine⟨A5,rfl,A5,?_⟩;by_cases h1:wy=1
   ·refine zay (Gh (by rw[h1];rfl)) ?_;refine⟨A5,Hd aK,A5,A5,A5,_,A5,rfl,Gm ⟨Fs,Fs⟩,_,A5,rfl,_,A5,rfl,Fw,_,A5,rfl,(Ft 4),λq8 hq8=>?_⟩;have tz:tl.length%4<4:=K5 Fw;have tY:atI [V.str "ab",V.str "za",V.str "xyz",V.str "qn"] ((tl.length:Int)%4)=some (Hy (zc4 (tl.length%4))):=by
     rw[show(tl.length:Int)%4=((tl.length%4:Nat):Int) from rfl];have:∀j:Fin 4,[V.str "ab",V.str "za",V.str "xyz",V.str "qn"][j.1]?=some (Hy (zc4 j.1)):=by decide
     exact zav (this ⟨_,tz⟩)
    have iU:∀j<4,2≤(zc4 j).length∧(zc4 j).length≤1000:=by decide+kernel
    have k8:Keep [] H7 (JP q8 (.lst [.str "ab",.str "za",.str "xyz",.str "qn"])):=Keep.new hq8;refine⟨A5,tl,rfl,Fs,_,A5,rfl,Fw,q8,_,_,Hy (zc4 (tl.length%4)),rfl,rfl,LN,tY,1+(f+bb*i)%97,zc4 (tl.length%4),by rw[e97];rfl,by have:=Wx (f+bb*i) (show 0<97 by decide);lia,(iU _ tz).1,(iU _ tz).2,λz hz=>?_⟩;refine⟨l,_,A5,rfl,k8 _ _ aK Fr,d8,?_⟩;exact fin _ _ _ z _ k8 (by unfold nmF;rw[if_neg hA,if_pos h1,nn];exact hz)
   refine zal (decide_eq_false (λz=>h1 (by injection z;lia))) ?_;have sT:KG ((((f+bb*i)%676:Nat):Int)/26)=some (97+(f+bb*i)%676/26):=by rw[show(((f+bb*i)%676:Nat):Int)/26=(((f+bb*i)%676/26:Nat):Int) from rfl];exact letter_at Fs Fs
   refine⟨A5,A5,_,A5,rfl,⟨Fw,Fw⟩,_,_,A5,rfl,zec,sT,A5,A5,_,A5,rfl,Fw,_,_,A5,rfl,zec,iT,_,A5,rfl,by show 1+1≤sizeLine;decide,?_⟩;have hjm:(f+i)%(tl.length+1)<tl.length+1:=K5 (Nat.succ_pos _);refine⟨A5,Hd aK,A5,A5,A5,A5,_,A5,rfl,A5,tl,rfl,Fs,_,A5,rfl,_,A5,rfl,by show(0:Int)<(tl.length:Int)+1;lia,A5,tl,(f+i)%(tl.length+1),rfl,rfl,by rw[Int.zero_add];rfl,Fs,Fs,λy hy=>?_⟩;have hyl:y.length≤6:=by rw[←str_len,hy,Ze];lia
   refine⟨_,A5,rfl,by rw[app_len];show 1+1+y.length≤sizeLine;lia,l,_,A5,rfl,aK,d8,?_⟩;exact fin _ _ _ _ H7 Keep.refl (by unfold nmF;rw[if_neg hA,if_neg h1,zi0,zi0,hy,nn];rfl)
 rintro σ H7 ⟨⟨x8,x9,l',rfl⟩,k7,az,zs,aK,cP⟩;have dz:zs.length=n:=by have:=congrArg List.length cP;rwa[Qa,Qa,Wm]at this
 refine⟨A5,k l zs b5 m5 H7 aK dz ?_ (λz hz=>?_) az flH k7⟩
 ·refine nodup_of_map (f:=λz:Str=>z.cps.toList) ?_;rw[cP];exact zgr λa ha c hc h=>nm_inj qy hn ha hc h
 have:z.cps.toList∈(Ry n).map EF:=by rw[← cP];exact Ql.mpr ⟨z,hz,rfl⟩
 obtain⟨j,_,e⟩:=Ql.mp this;have:=nm_ok (way:=wy) (many:=n) (f:=f) (b:=bb) (k:=j) rT rS;rw[e]at this;have fe:=nm_not (way:=wy) (many:=n) (f:=f) (b:=bb) (k:=j) rX;rw[e]at fe;exact⟨⟨by rw[←str_len];exact this.1,by rw[←str_len];exact this.2.1,this.2.2⟩,λz=>fe (by rw[z])⟩
end
end K21
namespace Wb
section
variable{α β:Type}[DecidableEq α][DecidableEq β]{ns:List α}{r:α→List α}{f:α→β}
def sy_map(hf:∀x y,f x=f y→x=y)(C:Sy ns r){r':β→List β}(hr:∀x,r' (f x)=(r x).map f)(gS:∀y,(∀x,y≠f x)→r' y=[]):Sy (ns.map f) r':=by
 have hm:∀{y z},z∈r' y→∃x w,y=f x∧z=f w∧w∈r x:=λ{y z} h=>by
  by_cases hy:∃x,y=f x
  ·obtain⟨x,rfl⟩:=hy;rw[hr]at h;obtain⟨w,hw,rfl⟩:=Ql.mp h;exact⟨x,w,rfl,rfl,hw⟩
  rw[gS y λx e=>hy ⟨x,e⟩]at h;cases h
 have qk:∀{l:List α},l.Nodup→(Om f).Nodup:=λnd=>Uq.mpr (nd.imp λh e=>h (hf _ _ e));refine⟨qk C.nd,λy hy=>?_,λy=>?_,λy h=>?_,λx y h=>?_⟩
 ·cases e:r' y with
  |nil=>rfl
  |cons z t=>obtain⟨x,w,rfl,_,hw⟩:=hm (y:=y) (z:=z) (FA e Qc);refine absurd (Ql.mpr ⟨x,Yp λq=>?_,rfl⟩) hy;rw[C.ro x q]at hw;cases hw
 ·by_cases hy:∃ x,y=f x
  ·obtain⟨x,rfl⟩:=hy;rw[hr];exact qk (C.rn x)
  rw[gS y λx e=>hy ⟨x,e⟩];exact Zy
 ·obtain⟨x,w,e1,e2,hw⟩:=hm h;have:=hf _ _ (e1.symm.trans e2);subst this;exact C.ir _ hw
 obtain⟨a,w,rfl,rfl,hw⟩:=hm h;rw[hr];exact Ql.mpr ⟨_,K6 hw,rfl⟩
end
end Wb
namespace L2
open PySem PySem.Spec PyProof.Rows
section
variable{X:Cx}
theorem fm_some{β γ:Type}{f:β→Option γ}{g:β→γ}:∀{l:List β},(∀x∈l,f x=some (g x))→l.filterMap f=l.map g
 |[],_=>rfl
 |a::t,h=>by rw[List.filterMap_cons,h a Qc,Qo,fm_some λx hx=>h x PN]
def pick_rev(a8:Nj):slicePick a8.toArray none none (He (-1))=a8.reverse.toArray:=by
 unfold slicePick sliceBounds;simp only[Option.getD_some,show ¬((-1:Int)>0) by decide,if_false,Qp];congr 1;unfold sliceRange;simp only[show ¬((-1:Int)>0) by decide,if_false];have hc:(if((a8.length:Int)-1) > -1 then(((a8.length:Int)-1) - -1 - -1-1)/(- -1) else 0).toNat=a8.length:=by
  split
  ·rw[show(- (-1:Int))=1 from rfl,Int.ediv_one];lia
  lia
 rw[hc,List.filterMap_map];have hk:∀k∈List.range a8.length,((a8.toArray[·]?)∘λ(k:Nat)=>(((a8.length:Int)-1)+-1*(k:Int)).toNat) k=some (a8.reverse.getD k .none):=λk hk=>by
  have hk:=Wa.mp hk;have e:(((a8.length:Int)-1)+-1*(k:Int)).toNat=a8.length-1-k:=by lia
  show a8.toArray[(((a8.length:Int)-1)+-1*(k:Int)).toNat]?=_;rw[e,List.getElem?_toArray,Qx,List.getElem?_reverse hk];rw[Qb Fs];rfl
 rw[fm_some hk];apply List.ext_getElem
 ·simp
 intro i h1 h2;have h3:i<a8.reverse.length:=h2;rw[Zm,Ki,Qx,Qb h3];rfl
def pe_rev(he:Cy):QA (Th e SR) (λ σ H Q=>te σ H λx H1=>Ex2 λa xs=>Aj3 (x=.ref a) (SqL X.K H1 a xs) (∀p,H1 p=none→Q Te (QI p (.lst xs.reverse)))):=by intro a7 s σ H Q I h;refine Subscript_ (thn Rv λv s1 ⟨x,H1,I1,r1,a,xs,ex,hx,q⟩=>?_);subst ex;cases r1;refine wpAny_Slice (thn (zbu (X:=X) a7 s1 σ H1 (λo H'=>o=none∧H'=H1) I1 ⟨rfl,rfl⟩) λvl s2 ⟨l,H2,I2,pl,el,eh⟩=>?_);subst el;subst eh;refine thn (zbu (X:=X) a7 s2 σ H2 (λo H'=>o=none∧H'=H2) I2 ⟨rfl,rfl⟩) λvu s3 ⟨l,H3,I3,pu,el,eh⟩=>?_;subst el;subst eh;refine thn (zbx (X:=X) (pe_un un_neg (zah (X:=X))) a7 s3 σ H3 (λo H'=>o=some (-1)∧H'=H3) I3 ⟨_,rfl,_,rfl,rfl,rfl⟩) λvs s4 ⟨l,H4,I4,ps,el,eh⟩=>?_;subst el;subst eh;have I5:ZA H4 {s4 with heap:=s4.heap.push {cls:=.type "slice",data:=.fields #[vl,vu,vs]}}:=I4.kept (t':=s4.toks) λb ob q=>QS q;obtain⟨a8,r,ht,hz⟩:=I5.list hx;have aa:=r.length;show ZF (subscriptTail e SR Ht P3) Tl X.xe {s4 with heap:=s4.heap.push {cls:=.type "slice",data:=.fields #[vl,vu,vs]}};refine tail_any (ops:=[Ht,P3]) ht.isList.typeIs slot_list_getitem.lookup ?_ (by with_unfolding_all rfl);refine KA (Heap.IsSliceOf.new ..) pl pu ps Fw ?_ (by rw[Qp]<;>exact zd2 ‹_› ‹_›);rw[pick_rev];refine⟨Fu _,_,I5.laid (t':=s4.toks) (o:=.lst xs.reverse) (λb ob q=>QS q) Gg ?_,rfl,q _ (I5.hok.fresh Gg)⟩;exact⟨by rw[List.length_reverse];exact hz,_,0,r.reverse,RY⟩
def lc_map{K:Na}{g:TG}{te:TE}{Q:VK}{a:Nc}{τ:St}{H:Hp}{xs:List V}(T:St→Prop)(f:V→V)(ha:WW xs)(hn:xs.length≤sizeLine)(h0:T τ)(hs:∀x∈xs,∀τ,T τ→∀k:V→St→Hp→Prop,(∀τ2,T τ2→k (f x) τ2 H)→g x τ H λ τ2 H2=>te τ2 H2 λy H4=>k y τ2 H4)(q:∀D,H D=none→Q HQ (RC D (xs.map f))):Mo H:=by
 refine⟨λi m ys τ H1=>Aj5 (H1=H) (T τ) (m=xs.length-i) (i≤xs.length) (ys=(Lp i).map f),⟨_,rfl,h0,rfl,Sv,rfl⟩,?_⟩;rintro i m ys τ H1 ⟨rfl,ht,rfl,hi,rfl⟩;by_cases ad:i<xs.length
 ·refine .inr ⟨⟨xs,xs[i],ha,Qb ad⟩,by rw[Qa,Ze];lia,?_⟩;rintro x H' ⟨rfl,hx⟩;have bv:=hx xs ha;rw[Qb ad]at bv;have eN:xs[i]=x:=Qq bv;refine hs x (eN▸Qn ad) τ ht (λy τ2 H4=>∃m',m'<xs.length-i∧Aj5 (H4=H') (T τ2) (m'=xs.length-Gr) (i+1≤xs.length) ((Lp i).map f++[y]=(Lp Gr).map f)) λ τ2 h2=>?_;exact⟨_,Gk,rfl,h2,rfl,ad,by rw[Qj ad,Qr,eN];rfl⟩
 have e:i=xs.length:=by exact zar3 ‹_› ‹_›
 subst e;refine .inl ⟨⟨xs,ha,Gg⟩,λD hD=>?_⟩;rw[Qm Gg];exact q D hD
end
end L2
namespace K21
open PySem L2 Wb
def zhn{α β:Type}{R:α→β→Prop}{as:List α}{bs:List β}(h:QV as bs):QV as.reverse bs.reverse:=by
 induction h with
 |nil=>exact .nil
 |cons h t ih=>rw[Xo,Xo];exact zao ih (HY h)
end K21
namespace Wb
def zb1(zs:List PySem.Str)(k:Nat):PySem.Str:=zs.getD k ⟨#[200+k]⟩
open K21 in
def nameN_inj{zs:List PySem.Str}(nd:zs.Nodup)(ok:∀ z∈zs,zb6 z)(a b:Nat)(h:U' a=U' b):a=b:=by
 unfold zb1 at h;rw[Qx,Qx]at h;have bad:∀(i j:Nat) (hi:i<zs.length),zs[i]≠(⟨#[200+j]⟩:PySem.Str):=λi j hi e=>by have:=(ok _ C7).2.2 (200+j) (FA e Qc);lia
 by_cases ha:a<zs.length
 ·rw[Qb ha]at h;by_cases hb:b<zs.length
  ·rw[Qb hb]at h;exact(Wu nd).mp h
  rw[Ui Fs]at h;exact absurd h (bad a b ha)
 rw[Ui Fs]at h;by_cases hb:b<zs.length
 ·rw[Qb hb]at h;exact absurd h.symm (bad b a hb)
 rw[Ui Fs]at h;have h:(⟨#[200+a]⟩:PySem.Str)=⟨#[200+b]⟩:=h;have:200+a=200+b:=by have:=congrArg (λz:PySem.Str=>z.cps.toList) h;have:[200+a]=[200+b]:=this;injection this
 lia
def nameN_lt{zs:List PySem.Str}{k:Nat}(h:k<zs.length):U' k=zs[k]:=by unfold zb1;rw[Qx,Qb h];rfl
def rsZ(rr:List Hu)(zs:List PySem.Str):Rs PySem.Str:=(List.range rr.length).map λk=>(U' k,(rr.getD k []).map Tx)
open K21 in
def good_Z{rr:List Hu}{zs:List PySem.Str}(hG:Good TX)(nd:zs.Nodup)(ok:∀z∈zs,zb6 z):∃cs lab,Cert ((List.range rr.length).map Tx) (row (rsZ rr zs)) cs lab:=by
 obtain⟨cs,lab,C⟩:=hG;rw[zdp]at C;have inj:=nameN_inj nd ok;have hn:(rsZ rr zs).map (·.1)=(List.range rr.length).map Tx:=by unfold rsZ;rw[List.map_map];rfl
 have aR:((rsZ rr zs).map (·.1)).Nodup:=by rw[hn];exact Uq.mpr (Xz.imp λh e=>h (inj _ _ e))
 refine(sy_map (f:=zb1 zs) inj C.s (λx=>?_) λy hy=>?_).cert
 ·by_cases hx:x < rr.length
  ·rw[row_N hx];refine(zfr aR (p:=(U' x,(rr.getD x []).map Tx)) (LL ⟨x,Wa.mpr hx,rfl⟩)).trans ?_;rw[Qx,Qb hx];rfl
  rw[row_No hx];refine zdn ?_;rw[hn];intro z;obtain⟨y,hy,e⟩:=Ql.mp z;rw[inj _ _ e]at hy;exact hx (Wa.mp hy)
 refine zdn ?_;rw[hn];intro z;obtain⟨x,_,e⟩:=Ql.mp z;exact hy x e.symm
end Wb
namespace K21
open PySem L2 Wb
abbrev sRows:Stmt:=top 31
abbrev sDrawn:Stmt:=top 36
inductive IspRowsD(vs:List V)(H:Hp)(Q:VK):Prop
 |mk (p l nl:Nc) (b m:Int) (as:Nl) (rr:List (List Nat)) (zs:Nh) (h0:vs=[.ref p,.ref l,.ref nl]) (h1:Pot H p b m) (h2:NAt H l as rr) (h3:Good (rsN rr)) (h4:rr.length≤40) (h5:H nl=some (.lst (zs.map V.str))) (h5':zs.length=rr.length) (h5n:zs.Nodup) (h5k:∀z∈zs,zb6 z∧z ≠ "nobody") (bH:p∉as)
  (h6:∀(t:Nc) (bs:Nl) (es:List Ent) (cs:List Gy) (lab:Nx) (b' m':Int) (H':Hp),DS t bs es→Cert Gv Hv cs lab→es.length≤rr.length→(∀e∈es,zb6 e.1∧e.1 ≠ "nobody")→(∀e∈es,H e.2.2=none)→Q5 m'→H t=none→Keep [p] H H'→Q SI H'):IspRowsD vs H Q
def spRowsD:Sp:=λvs H Q _=>IspRowsD vs H Q
def ndW:([qO,qN]:List Str).Nodup:=by decide+kernel
abbrev TurnZ(rr:List Hu)(zs:Nh):List Ent→List Nat→Prop:=Paired λe k=>e.1=U' k∧∃j,e.2.1=((rr.getD k []).map Tx).drop j++((rr.getD k []).map Tx).take j
def names_Z(h:Bu es ks):es.map (·.1)=ks.map Tx:=by
 induction h with
 |nil=>rfl
 |cons h _ ih=>rw[Qo,Qo,ih,h.1]
def cert_Z{rr:List Hu}{zs:Nh}{es:List Ent}{ks:List Nat}(hG:Good TX)(nd:zs.Nodup)(ok:∀z∈zs,zb6 z)(h:Bu es ks)(hk:ks.Perm Tw):∃cs lab,Cert Gv Hv cs lab:=by
 obtain⟨cs,lab,C⟩:=good_Z hG nd ok;refine⟨cs,lab,zg8 C (by rw[names_Z h];exact hk.map _) ?_⟩;have e:rsZ rr zs=rsOf ((List.range rr.length).map λk=>((U' k,(rr.getD k []).map Tx,0):Ent)):=by unfold rsZ rsOf;rw[List.map_map];rfl
 rw[e];refine zfa (es2:=ks.map λk=>((U' k,(rr.getD k []).map Tx,0):Ent)) ?_ (hk.map _) ?_
 ·clear hk e;induction h with
  |nil=>exact .nil
  |cons h _ ih=>exact .cons h ih
 rw[Zu];exact Uq.mpr (Xz.imp λh e=>h (nameN_inj nd ok _ _ e))
section
variable{P:Nk}{w:Nn}{K:Na}{mg:Ng}{base:No}
def zen:zar [qP,qR,qN, "_law_rows_here", "_law_k", "_law_around", "_law_far"] [qP,qR,qN] (zaj sRows):=fsk
def ok_rows(F:Z1 "_law_rows" "_law_rows" sRows f fd)(FT:RU)(bT:Z3 fdt [qP,qM] [])(mT:mg qG=some Cn)(GT:ZB 1 ft fdt [qP,qM] zfo)(aa:G')(bA:mg "range" = none):ZB 2 f fd [qP,qR,qN] spRowsD:=by
 refine F.okL zen Fx;obtain⟨p,l,nl,b,m,as,rr,zs,rfl,hp,R,hG,bw,cD,dz,dy,dM,bH,k⟩:=h;have hu:=zcm hr;have aJ:=sizeLine_eq;refine⟨_,zae (JI zen.nd RD)
  (zae (QH (Bk Et) (N0 zen.nd)
   (zae (ps_lc (i:=5) (M:=[qO,qN]) (ix:=[none,He 2]) zen.nd rfl rfl (mkB zen) rfl (zaz (Hq 1 4)) (λC a7 ex s H=>JH ndW)
      (λC a7 ex s H=>zcp) (λC a7 ex s H=>zbb (ziw (K:=K) rfl) RK Hx FV) rfl)
   (zae (N3 zen.nd (ST (RJ (WL zad))))
   (zag (Eo HF (OE (zbd (zaa (Hq 2 4) (Hf (W9 (YH (zbx CU) zbu) (YH zbu (zbx CU))))))))))))
  (zae (N3 zen.nd (ST (RJ (Q3 zad))))
  (zae (JI zen.nd (SX HF (zbx (pv 6))))
  (zae (Ep (MZ Rm zah HP) (zag (JI zen.nd (pe_rev HF))))
  (zag (AE HF)))))),?_⟩
 have nlp:=pot_l hp R;have nnp:nl≠p:=pot_ne hp cD;have nap:∀a∈as,a≠p:=λa ha z=>bH (z▸ha);have dB:(as.map V.ref).length=rr.length:=by rw[Qa];exact R.len
 refine⟨Tv,λt ht=>?_⟩;have k1:Keep [p] H (ZU t Ge):=Keep.new ht;have ntp:t≠p:=Zd (Mb ht);have cg:Pot (ZU t Ge) p b m:=hp.keep (xs:=[]) (FM ht) Fr;have eR:(ZU t Ge) t=some (FJ (([]:List Addr).map V.ref)):=zab;generalize ZU t Ge=H1 at k1 cg eR;have R1:∀{H':Hp},Keep [p] H H'→UK rr:=λkk=>R.keep kk Tb λa ha=>by simpa using nap a ha
 have N1:∀{H':Hp},Keep [p] H H'→H' nl=some Ch:=λkk=>kk _ _ cD (Fv nnp);refine⟨A5,l,A5,Gm (SqL.of (R1 k1).ls),?_⟩;refine⟨A5,Fs,Fs,?_⟩;refine zcw (lo:=0) (λi σ H'=>Aj3 (Ex3 λx4 x5 x6=>σ=[Fy p,Cp,Fy nl,Fy t,x4,x5,x6]) (Keep [p] H H') (Ex4 λ(bs:Nl) (es:List Ent) (b' m':Int)=>Aj5 (DS t bs es) (Bu es (Ry i)) P2 (∀e∈es,H e.2.2=none) (∀e∈es,e.2.2≠t)))
  ⟨⟨_,_,_,rfl⟩,k1,[],[],b,m,⟨eR,.nil,λe he=>by cases he⟩,.nil,cg,(λe he=>by cases he),(λe he=>by cases he)⟩ ?_ ?_
 ·rintro i σ H2 hi ⟨⟨x4,x5,x6,rfl⟩,k2,bs,es,b2,m2,W2,T2,aD,lO,jT⟩;have hi:i<rr.length:=by lia
  have hia:i<as.length:=by rw[R.len];exact hi
  have hR2:=R1 k2;have hN2:=N1 k2;have ag:=hR2.row hia hi;have fR:∀x∈rr[i],x<rr.length:=λx hx=>by have:=(zbv.sub _ hG _ (zhc hi)).2 x hx;rw[zdp]at this;exact Wa.mp this
  have kl:(rsN rr).length=rr.length:=by unfold rsN;rw[List.length_map,List.length_range]
  have hrl2:rr[i].length≤900:=by have:=zbv.rows hG _ (zhc hi);rw[kl]at this;exact Zf this Fs
  have a1:DC (0+(i:Int))=some (.ref as[i]):=by rw[Int.zero_add];exact zav (by rw[Qt,Qb hia];rfl)
  have z1:∀{x:Nat},x<rr.length→DD (x:Int)=some (Hy (U' x)):=λ{x} hx=>zav (by rw[Qt,Qb Fs,nameN_lt Fs];rfl);have hg:rr.getD i []=rr[i]:=by rw[Qx,Qb hi];rfl
  refine⟨A5,A5,l,_,_,A5,rfl,SqL.of hR2.ls,a1,as[i],rfl,⟨_,SqL.of ag⟩,lc_map (xs:=rr[i].map iV) (λ τ=>∃x0,τ=[x0,some (.ref nl)]) (λx=>match x with | .int n=>.str (zb1 zs n.toNat)|v=>v) (SqL.of ag) (by rw[Qa];lia) ⟨none,rfl⟩ ?_ (λar har=>?_)⟩
  ·rintro x hx τ ⟨x0,rfl⟩ kk hk;obtain⟨z,hz,rfl⟩:=Ql.mp hx;exact⟨A5,A5,nl,_,_,A5,rfl,FH hN2,z1 (fR z hz),hk _ ⟨A5⟩⟩
  have emap:(rr[i].map iV).map (λx=>match x with | .int n=>.str (zb1 zs n.toNat)|v=>v)=(rr[i].map (zb1 zs)).map V.str:=by rw[Zu,Zu];rfl
  rw[emap];have ki:(rr[i].map Tx).length=rr[i].length:=Qa ..;generalize eu:rr[i].map Tx=ru at ki;generalize mf:WD ar _=H3;obtain⟨k3,kW⟩:=nwk har mf;have br:=aD.keep k3 Fr;have fg:(ru.map V.str).length=ru.length:=Qa ..;refine⟨A5,A5,ar,A5,HJ kW,_,A5,rfl,p,b2,m2,A5,br,Fs,Fs,λj4 b4 m4 H4 kB tu bp jl=>?_⟩;have k4:=za7 jl;obtain⟨j,rfl⟩:=Zi kB;have hj:j≤ru.length:=by lia
  have kU:=k4 _ _ kW (by simpa using pot_ne br kW);have c9:Keep [p] H H4:=(TV (k3.sub Fr)).trans k4;have W4:RwAt H4 t bs es:=⟨k4 _ _ (k3 _ _ W2.ls Fr) (Fv ntp),Paired.imp' (λa e h=>k4 _ _ (Cj h) (by simpa using zbg h aD.1 FG)) W2.ts,λe he=>k4 _ _ (Cj (D1 he)) (by simpa using pot_ne aD (D1 he))⟩;refine⟨A5,.inl ⟨rfl,_,SqL.of W4.ls⟩,A5,A5,nl,_,_,A5,rfl,FH (N1 c9),by rw[Int.zero_add];exact z1 hi,A5,A5,A5,ar,A5,FH kU,λq1 h1=>?_⟩;have n1:ar≠q1:=zac kU h1;refine⟨A5,A5,A5,ar,A5,FH (by rw[zaf n1];exact kU),λq2 h2=>?_⟩;have ie:q1≠q2:=zac (o:=_) zab h2;rw[zd1 Ck,zhx Ck]at *;refine⟨q1,q2,_,A5,rfl,CT,zab,by rw[Yu,Ze];lia,λq3 h3=>?_⟩;rw[←Kf,←Jl,←Qr]at *;have k5:Keep [] H4 (OJ (FJ ((ru.drop j).map V.str)) ((ru.take j).map V.str) ((ru.drop j++ru.take j).map V.str)):=((FM h1).trans LW).trans E7;have gT:(OJ (FJ ((ru.drop j).map V.str)) ((ru.take j).map V.str) ((ru.drop j++ru.take j).map V.str)) q3=some (FJ ((ru.drop j++ru.take j).map V.str)):=zab;have f3:H4 q3=none:=zap ((Keep.new (xs:=[]) h1).trans LW) h3 Fr;generalize upd (SD (FJ ((ru.drop j).map V.str)) ((ru.take j).map V.str)) q3 (FJ ((ru.drop j++ru.take j).map V.str))=H5 at k5 gT;have nq3t:q3≠t:=Zd (zac W4.ls f3);have fq3:H q3=none:=zap c9 f3 (Hb (zac bp.1 f3));refine⟨Sq,λc hc=>?_⟩;have k6:Keep [] H4 (QF c (.tup [IN,Fu q3])):=k5.trans (FM hc);have eD:(QF c (.tup [IN,Fu q3])) c=some (.tup [IN,Fu q3]):=zab;have nH:(QF c (.tup [IN,Fu q3])) q3=some (FJ ((ru.drop j++ru.take j).map V.str)):=by rw[zaf (A0 gT hc)];exact gT
  generalize QF c (.tup [IN,Fu q3])=H6 at k6 eD nH;have W6:=W4.keep k6;have eF:bs.length=i:=by rw[Zl W6.ts,Zl T2,Wm]
  refine⟨t,_,A5,rfl,W6.ls,Rx,?_⟩;have tupt:∀{a:Nc} {xs:List V},H6 a=some Rl→a≠t:=λ{a xs} e=>MI W6.ls FG;have kt:Keep [p] H (U9 t (FJ (bs.map V.ref++[V.ref c]))):=λa u ea ha=>by rw[zaf (A0 ea ht)];exact k6 _ _ (c9 a u ea ha) Fr
  refine⟨⟨_,_,A5⟩,kt,bs++[c],es++[(U' i,ru.drop j++ru.take j,q3)],b4,m4,⟨by rw[zab,Qr];rfl,?_,λe' he=>?_⟩,?_,(bp.keep k6 Fr).keep (xs:=[t]) Ho (Hb ntp),λe' he=>?_,λe' he=>?_⟩
  ·exact zao (Paired.imp' (λa e h=>by rw[zaf (tupt h)];exact h) W6.ts) (HY (FQ (tupt eD) eD))
  ·rcases Qg.mp he with z|z
   ·rw[zaf (jT e' z)];exact W6.ro e' z
   rw[Qd.mp z];exact(zaf nq3t).trans nH
  ·rw[List.range_succ];exact zao T2 (.cons ⟨rfl,j,by rw[hg,eu]⟩ .nil)
  ·rcases Qg.mp he with z|z
   ·exact lO e' z
   rw[Qd.mp z];exact fq3
  rcases Qg.mp he with z|z
  ·exact jT e' z
  rw[Qd.mp z];exact nq3t
 rintro σ H2 ⟨⟨x4,x5,x6,rfl⟩,k2,bs,es,b2,m2,W2,T2,aD,lO,jT⟩;have T2:Bu es Tw:=by rw[dB]at T2;exact T2
 have hJ:es.length=rr.length:=by rw[Zl T2,Wm]
 have eF:bs.length=rr.length:=by rw[Zl W2.ts,hJ]
 have fg:(bs.map V.ref).length=rr.length:=by rw[Qa];exact eF
 refine⟨A5,A5,t,A5,Gm (SqL.of W2.ls),_,A5,rfl,p,b2,m2,A5,aD,Fs,Fs,λj4 b4 m4 H4 kB tu bp jl=>?_⟩;have k4:=za7 jl;obtain⟨j,rfl⟩:=Zi kB;have hj:j≤rr.length:=by lia
 have c9:Keep [p] H H4:=k2.trans k4;have W4:RwAt H4 t bs es:=⟨k4 _ _ W2.ls (Fv ntp),Paired.imp' (λa e h=>k4 _ _ h (by simpa using zbg h aD.1 FG)) W2.ts,λe he=>k4 _ _ (D1 he) (by simpa using pot_ne aD (D1 he))⟩;refine⟨A5,A5,A5,t,A5,SqL.of W4.ls,λq1 h1=>?_⟩;have n1:t≠q1:=zac W4.ls h1;refine⟨A5,A5,A5,t,A5,FH (by rw[zaf n1];exact W4.ls),λq2 h2=>?_⟩;have ie:q1≠q2:=zac (o:=_) zab h2;rw[zd1 Ck,zhx Ck]at *;refine⟨q1,q2,_,A5,rfl,CT,zab,by rw[Yu,Ze];lia,λq3 h3=>?_⟩;rw[←Kf,←Jl,←Qr]at *;have ug:H q3=none:=zap (AF ((FM h1).trans LW)) h3 (by simpa using Zd (A0 (((Keep.new (xs:=[]) h1).trans LW) _ _ bp.1 Fr) h3));have k5:Keep [] H4 (OJ (FJ ((bs.drop j).map V.ref)) ((bs.take j).map V.ref) ((bs.drop j++bs.take j).map V.ref)):=((FM h1).trans LW).trans E7;have gT:(OJ (FJ ((bs.drop j).map V.ref)) ((bs.take j).map V.ref) ((bs.drop j++bs.take j).map V.ref)) q3=some (FJ ((bs.drop j++bs.take j).map V.ref)):=zab;generalize upd (SD (FJ ((bs.drop j).map V.ref)) ((bs.take j).map V.ref)) q3 (FJ ((bs.drop j++bs.take j).map V.ref))=H5 at k5 gT;have W5:RwAt H5 q3 (bs.drop j++bs.take j) (es.drop j++es.take j):=⟨gT,by
  have:=(W4.keep k5).ts;exact zao (zgm j this) (zgl j this),λe he=>(W4.keep k5).ro e (by
   rcases Qg.mp he with z|z
   ·exact Wp z
   exact Wh z)⟩
 have T5:Bu (es.drop j++es.take j) ((List.range rr.length).drop j++(List.range rr.length).take j):=zao (zgm j T2) (zgl j T2);have P5:((List.range rr.length).drop j++(List.range rr.length).take j).Perm Tw:=Ja.trans (by rw[Zq]);have f5:∀e∈es.drop j++es.take j,H e.2.2=none:=λe he=>lO e (by
   rcases Qg.mp he with z|z
   ·exact Wp z
   exact Wh z)
 have dU:(es.drop j++es.take j).length=rr.length:=by rw[Qk,Yu,Ze];lia
 have aY:=bp.keep k5 Fr;have jo:Keep [p] H H5:=c9.trans IH;generalize es.drop j++es.take j=l8 at W5 T5 f5 dU;generalize bs.drop j++bs.take j=bs5 at W5 gT;generalize(List.range rr.length).drop j++(List.range rr.length).take j=ks at T5 P5;have fin:∀(t':Nc) (i6:Nl) (aG:List Ent) (rA:List Nat) (b' m':Int) (H':Hp),DS t' i6 aG→Bu aG rA→rA.Perm Tw→aG.length=rr.length→(∀e∈aG,H e.2.2=none)→Q5 m'→H t'=none→Keep [p] H H'→Q (Fu t') H':=λt' i6 aG rA b' m' H' W' T' P' hl' f' cU uf k'=>by obtain⟨cs,lab,C⟩:=cert_Z hG dy (λz hz=>(dM z hz).1) T' P';refine k t' i6 aG cs lab b' m' H' W' C Fs (λe he=>?_) f' cU uf k';have:e.1∈aG.map (·.1):=Ql.mpr ⟨e,he,rfl⟩;rw[names_Z T']at this;obtain⟨x,hx,ex⟩:=Ql.mp this;have hx:=Wa.mp (P'.mem_iff.mp hx);rw[←ex,nameN_lt Fs];exact dM _ (Qn _)
 refine⟨A5,p,b4,m4,2,rfl,aY,Fw,Fw,λj7 b7 m7 H7 h70 h71 az lx=>?_⟩;have k7:=za7 lx;have n3p:q3≠p:=zbg gT aY.1 (by
  intro z;have z':bs5.map V.ref=[Rq b4,Rq m4]:=by injection z
  cases bs5 with
  |nil=>cases z'
  |cons a aI=>rw[Qo]at z';injection z' with z1 _;cases z1)
 have W7:RwAt H7 q3 bs5 l8:=⟨k7 _ _ W5.ls (Fv n3p),Paired.imp' (λa e h=>k7 _ _ h (by simpa using zbg h aY.1 FG)) W5.ts,λe he=>k7 _ _ (W5.ro e he) (by simpa using pot_ne aY (W5.ro e he))⟩;have jm:=jo.trans k7;refine⟨rfl,A5,?_⟩;refine ite2 (λ_=>?_) (λ_=>?_)
 ·refine⟨_,rfl,q3,_,rfl,SqL.of W7.ls,λq4 h4=>?_⟩;have kn:Keep [] H7 (JP q4 (.lst (bs5.map V.ref).reverse)):=Keep.new h4;exact⟨A5,fin q4 bs5.reverse l8.reverse ks.reverse b7 m7 _ ⟨by rw[zab,List.map_reverse],zhn (W7.keep kn).ts,λe he=>(W7.keep kn).ro e (Ba.mp he)⟩ (zhn T5) ((Xn ks).trans P5) (by rw[List.length_reverse];exact dU) (λe he=>f5 e (Ba.mp he)) (az.keep kn Fr) (zap jm h4 (Hb (zac az.1 h4))) (jm.trans (kn.sub Fr))⟩
 exact⟨A5,fin q3 bs5 l8 ks b7 m7 H7 W7 T5 P5 dU f5 az ug jm⟩
end
end K21
namespace L2
open PySem PySem.Spec PyProof.Rows
def paired_get{α β:Type}{R:α→β→Prop}{as:List α}{bs:List β}(r:QV as bs):∀(j:Nat) (h1:j<as.length) (h2:j<bs.length),R as[j] bs[j]:=by
 induction r with
 |nil=>intro j h1;cases h1
 |cons h t ih=>
  intro j h1 h2;cases j with
  |zero=>exact h
  |succ j=>exact ih j (Kn h1) (Kn h2)
section
variable{X:Cx}{a7:Nd}{σ:St}{H:Hp}{s:Ni}
def zfk{R:V→V→Prop}{A:Np}{xs ys:List V}{a8 ak:Nj}(r:QZ a8)(r2:Y2 ak)(pr:QV xs ys)(h:∀x y u v,R x y→WM u→YE v→UF true) :
  ∀j (h1:j<a8.toArray.size) (h2:j<ak.toArray.size),SeqAt.EqAt A s a8.toArray[j] ak.toArray[j] true:=by
 intro j h1 h2;rw[Qp]at h1 h2;have a1:j<xs.length:=by rw[r.length];exact h1
 have a2:j<ys.length:=by rw[r2.length];exact h2
 obtain⟨u1,e1,q1⟩:=r.get (Qb a1);obtain⟨u2,e2,q2⟩:=r2.get (Qb a2);rw[Kw,Kw,(LP e1).2,(LP e2).2];exact h _ _ _ _ (paired_get pr j a1 a2) q1 q2
def pair_eq{q r:Str×Str}:((Ry 2).all (λj=>if j=0 then q.1==r.1 else q.2==r.2)&&true)=decide (q=r):=by rw[show List.range 2=[0,1] from rfl,Yw];simp[Prod.ext_iff]
def pair_at{A:Np}{s:Ni}{l b:Nc}{q r:Str×Str}{t1 t2 t3 t4:Tok}(h:A.units<cLine)(p:s.heap.IsTuple l #[.str q.1 t1,.str q.2 t2])(p2:s.heap.IsTuple b #[.str r.1 t3,.str r.2 t4]):SeqAt.RcAt A s Sh ER (decide (q=r)):=by
 rw[←pair_eq];refine SeqAt.RcAt.tuples (e:=λj=>if j=0 then q.1==r.1 else q.2==r.2) p p2 h λj j1 j2=>?_;have jt:j<2:=by simpa using j1
 match j,jt with
 |0,_=>exact Uo q.1 t1 r.1 t3
 |1,_=>exact Uo q.2 t2 r.2 t4
end
section
variable{X:Cx}
def op_ne_pairsS(hu:X.A.units<cLine):WB (λx y H Q=>Ex4 λ(a b:Nc) (q r:Str×Str)=>Aj5 (x=.ref a) (y=.ref b) (H a=some (.tup [.str q.1,.str q.2])) (H b=some (.tup [Ek,El])) (Lq (!decide (q=r)))):=by
 intro a7 s σ H x y v u Q I rx ry h;obtain⟨a,b,q,r,rfl,rfl,ha,hb,k⟩:=h;cases rx;cases ry;obtain⟨_,a8,r1,p⟩:=YF ha;obtain⟨_,ak,r2,p2⟩:=Y' _ hb;obtain⟨u1,u2,rfl,⟨t1,rfl⟩,⟨t2,rfl⟩⟩:=vals2 r1;obtain⟨w1,w2,rfl,⟨t3,rfl⟩,⟨t4,rfl⟩⟩:=vals2 r2;refine SeqAt.RcNeAt.tuples (e:=λj=>if j=0 then q.1==r.1 else q.2==r.2) p p2 hu (λj j1 j2=>?_) _ _ _ _ ⟨.bl (!decide (q=r)),H,I,?_,k⟩
 ·have jt:j < 2:=by simpa using j1
  match j,jt with
  |0,_=>exact Uo q.1 t1 r.1 t3
  |1,_=>exact Uo q.2 t2 r.2 t4
 show Value.bool _=Value.bool _;congr 1;rw[←pair_eq];rfl
end
end L2
namespace K21
open PySem L2 Wb
inductive zh4(vs:List V)(H:Hp)(Q:VK):Prop
 |mk (a:Nc) (zs:Nh) (x:Str) (h0:vs=[.ref a,.str x]) (h1:H a=some (.lst (zs.map V.str))) (h2:x∈zs) (h3:zs.length≤900) (h4:Q (.str (nxt zs x)) H):zh4 vs H Q
def spBehindS:Sp:=λvs H Q _=>zh4 vs H Q
structure RF(H:Hp)(d:Nc)(es:List Ent):Prop where
 dc:Rd H d HX
 nd:(RX (·.1)).Nodup
 ro:∀e∈es,H e.2.2=some PU
def RF.get(R:RF H d es)(he:e∈es):DGet H d Tg (He Si):=.inl ⟨_,Sum.inr e.1,R.dc,rfl,(zf8 R.nd he).symm⟩
def RF.keep(R:RF H d es)(k:Keep [] H H'):RF H' d es:=
 ⟨R.dc.imp (λe=>k _ _ e Fr) λ⟨o,e⟩=>⟨o,Pc e⟩,R.nd,λe he=>k _ _ (R.ro e he) Fr⟩
def RF.inn{d:Nc}(R:RF H d es)(h:a∈es.map (·.1)):∃e∈es,e.1=a∧DGet H d (Hy a) (He Si):=by obtain⟨e,he,ea⟩:=Ql.mp h;have ea':e.1=a:=ea;subst ea';exact⟨e,he,rfl,R.get he⟩
structure Rnd(r:Nt)(s:Str×Str)(L:Nr):Prop where
 cy:∃t,L=s::t∧Lk (st r) s t s
 nd:L.Nodup
 al:∀u∈L,u.1∈r u.2
def rnd_of{ns:Nh}{r:Nt}{cs:List Gy}{lab:Nx}(C:W1 lab){s:Str×Str}(hs:s.1∈r s.2):∃L,Rnd r s L:=by
 obtain⟨c,gJ,qc⟩:=Yj.mp ((C.cm s).mpr hs);obtain⟨A1,B1,pk⟩:=Uz qc;have kj:=zfm (pk▸M0 gJ);have eI:(s::(B1++A1)).Perm c:=by rw[pk];refine List.perm_iff_count.mpr λa=>?_;simp only[List.count_append,List.count_cons];lia
 refine⟨s::(B1++A1),⟨A5,kj⟩,?_,λu hu=>C.inc gJ (eI.mem_iff.mp hu)⟩;rw[eI.nodup_iff];have:=(zht gJ).nodup_iff.mp C.cf;rw[Zn]at this;exact this.1
inductive IspStepsS(vs:List V)(H:Hp)(Q:VK):Prop
 |mk (d:Nc) (es:List Ent) (cs:List (List (Str×Str))) (lab:Nx) (s:Str×Str) (h0:vs=[.ref d,.str s.1,.str s.2]) (h1:RF H d es) (h2:s.1∈row (rsOf es) s.2) (h3:Cert (es.map (·.1)) (row (rsOf es)) cs lab) (h4:es.length≤40)
  (h6:∀(t:Nc) (ps:Nl) (L:Nr) (H':Hp),H t=none→H' t=some Ei→zbi H' ps L→Rnd Hv s L→L.length≤1600→(∀a∈ps,H a=none)→Keep [] H H'→Q SI H'):IspStepsS vs H Q
def spStepsS:Sp:=λvs H Q _=>IspStepsS vs H Q
def steps_len{es:List Ent}{r:Nt}{cs:List Gy}{lab:Nx}(C:Cert Gv r cs lab)(h:es.length≤40){L:Nr}(nd:L.Nodup)(al:∀u∈L,u.1∈r u.2):L.length≤1600:=by
 have fR:∀u∈L,u∈(RX (·.1)).flatMap λx=>(RX (·.1)).map λy=>(x,y):=λu hu=>by have h1:=al u hu;refine Bb.mpr ⟨u.1,C.inn' h1,LL ⟨u.2,C.inn h1,rfl⟩⟩
 have:=zgs nd fR;rw[List.length_flatMap]at this;simp only[Qa,List.map_const',List.sum_replicate_nat]at this;have h2:es.length*es.length≤40*40:=Nat.mul_le_mul h h;lia
section
variable{P:Nk}{w:Nn}{K:Na}{mg:Ng}{base:No}
def ok_behindS(F:Z1 "_law_behind" "_law_behind" zfe f fd)(aa:G'):ZB 1 f fd ["_law_around", "_law_one"] spBehindS:=by
 refine F.okL scBehind Fx;obtain⟨a,zs,x,rfl,ha,hx,hz,k⟩:=h;have hu:=zcm hr;refine⟨_,zag (za9 (QE Hx (Y3 (Es (U8 Hx HH))
  (QW FX aa Zj Re)) FV)),?_⟩
 obtain⟨i1,i2⟩:=index_of hx;have bg:0<zs.length:=Ub hx;have hm:(zs.idxOf x+1)%zs.length<zs.length:=K5 bg;have g:(zs.map V.str)[(zs.idxOf x+1)%zs.length]?=some (Hy (KH x)):=by rw[Qt,Qb hm];unfold nxt;simp[List.getD,hm]
 have e1:((zs.idxOf x:Nat):Int)+1=((zs.idxOf x+1:Nat):Int):=by lia
 have g2:DD ((((zs.idxOf x:Nat):Int)+1)%((zs.map V.str).length:Int))=some (Hy (KH x)):=by rw[e1,Qa,←Int.natCast_emod];exact zav g
 refine⟨A5,A5,Hd ha,A5,a,_,_,A5,rfl,ha,rfl,zcx zs,i1,i2,_,A5,rfl,A5,a,A5,HJ ha,_,A5,rfl,?_,a,_,_,A5,rfl,FH ha,g2,k⟩;rw[Qa];exact zar9 ‹_›
def ok_stepsS(F:Z1 "_law_steps" "_law_steps" zfd f fd)(FB:Z1 "_law_behind" "_law_behind" zfe fb fdb)(bB:Z3 fdb ["_law_around", "_law_one"] [])(mB:mg "_law_behind" = some (Fu fb))(GB:ZB 1 fb fdb ["_law_around", "_law_one"] spBehindS) :
  FnOk P w K mg base CX0 2 f fd [qR, "_law_p", "_law_q"] spStepsS:=by
 refine F.okL zc1 Fx;obtain⟨d,es,cs,lab,sp,rfl,R,ax,C,ba,k⟩:=h;have hu:=zcm hr;refine⟨_,zae Ox
  (zae (OS (Y9 RM))
  (zae (M4 (zan (op_ne_pairsS (Wt Ap hu)) SY (QE HF zah (λ_ _=>rfl)) rfl)
   (zae (Eo HF TW)
   (zag (OF (LZ (Y9 (YO FV)))))))
  (zag (AE HF)))),?_⟩
 obtain⟨L,⟨lt,eL,kj⟩,nd,al⟩:=rnd_of C ax;have u8:=steps_len C ba nd al;have eI:0<L.length:=by rw[eL];simp
 have cK:∀k (hk:k<L.length),Bi L[k]=L.getD (k+1) sp:=λk hk=>by have:=lk_get kj k (by rw[←eL];exact hk);rw[←eL,Qx,Qb hk]at this;exact this
 have rn:∀e∈es,e.2.1.length≤900:=λe he=>by
  have h1:e.2.1.Nodup:=by have:=C.rn e.1;rw[zbw C.nd he]at this;exact this
  have:∀y∈e.2.1,y∈es.map (·.1):=λy hy=>C.inn' (x:=e.1) (by rw[zbw C.nd he];exact hy);have:=zcu h1 this;rw[Qa]at this;lia
 have bM:∀{H':Hp},RF H' d es→∀q:Str×Str,q.1∈ZO q.2→∃e∈es,DGet H' d (.str q.2) (He Si)∧H' e.2.2=some PU∧q.1∈e.2.1∧Bi q=(q.2,Fo q.1):=λ{H'} R' q hq=>by obtain⟨e,he,ee,g⟩:=R'.inn (C.inn hq);have hr:=zbw C.nd he;rw[ee]at hr;exact⟨e,he,g,R'.ro e he,by rw[←hr];exact hq,by show(q.2,nxt (ZO q.2) q.1)=_;rw[hr]⟩
 have i0:∀x y:V,atI [x,y] ((0:Nat):Int)=some x:=λx y=>zav rfl;have i1:∀x y:V,atI [x,y] ((1:Nat):Int)=some y:=λx y=>zav rfl;have aJ  :=sizeLine_eq;refine⟨A5,A5,Sq,λt0 fP=>⟨SK,λl hl=>?_⟩⟩;have k1:Keep [] H (Ij (ZU t0 (.tup [Ea,Eb])) l (.lst [C8])):=(FM fP).trans Cl;have ntl:t0≠l:=zac (o:=_) zab hl;have eR:(Ij (ZU t0 (.tup [Ea,Eb])) l (.lst [C8])) t0=some (.tup [Ea,Eb]):=by rw[zaf ntl];exact zab
 have ck:(Ij (ZU t0 (.tup [Ea,Eb])) l (.lst [C8])) l=some (.lst [C8]):=zab;have fl:H l=none:=zap (xs:=[]) (FM fP) hl Fr;generalize upd (ZU t0 (.tup [Ea,Eb])) l (.lst [C8])=H1 at k1 eR ck;have R1:=R.keep k1;obtain⟨e,he,g1,g2,g3,g5⟩:=bM R1 sp ax;refine⟨A5,A5,A5,d,A5,g1,A5,_,e.2.1,sp.1,rfl,g2,g3,rn e he,Sq,λt ht=>?_⟩;have h0:L[0]'(eI)=sp:=by
  have:L[0]?=some sp:=by rw[eL];rfl
  exact(Qy.mp this).2
 have e5:[V.str sp.2,V.str (Fo sp.1)]=[V.str (C9 1).1,V.str (C9 1).2]:=by rw[←cK 0 eI,h0,g5]
 rw[e5];have nlt:l≠t:=zac ck ht;have oA:∀{a:Nc},H1 a=none→H a=none:=λ{a} h=>zap k1 h Fr;refine⟨λm σ H2=>Ex3 λ(n:Nat) (t:Nc) (as:Nl)=>Aj9 (m=L.length-n) (n<L.length) (σ=[LO,He Ea,He Eb,Cp,Fy t]) (Keep [l] H1 H2) (H2 l=some (FJ ((t0::as).map V.ref))) (zbi H2 (t0::as) (L.take (n+1))) (H2 t=some (.tup [.str (C9 (n+1)).1,.str (C9 (n+1)).2])) (as.length=n) (Aj2 (∀a∈t0::as,H a=none) (H t=none)),
  ⟨_,0,t,[],rfl,eI,rfl,FM ht,FQ nlt ck,?_,zab,rfl,λa ha=>by rw[Qd.mp ha];exact fP,oA ht⟩,?_⟩
 ·rw[show L.take (0+1)=[sp] by rw[eL];rfl];exact .cons (FQ (A0 eR ht) eR) .nil
 rintro m σ H2 ⟨n,t,as,rfl,hn,rfl,k2,au,pa,iP,bK,bu,hft⟩;have jE:=k2 _ _ eR (Fv ntl);refine⟨A5,A5,l,_,_,A5,rfl,FH au,(show atI ((t0::as).map V.ref) ((0:Nat):Int)=some C8 from zav rfl),t,t0,C9 (n+1),sp,rfl,rfl,iP,jE,A5,?_⟩;by_cases qv:n+1=L.length
 ·have hL:L.getD (n+1) sp=sp:=by rw[Qx,Ui Fs];rfl
  refine zal (by rw[decide_eq_true hL];rfl) ?_;rw[Qm Fs]at pa;exact⟨A5,k l (t0::as) L H2 fl au pa ⟨⟨lt,eL,kj⟩,nd,al⟩ u8 bu λc o ec _=>k2 c o (k1 _ _ ec Fr) (by simpa using XH fl)⟩
 have cG:n+1 < L.length:=by lia
 have gH:L.getD (n+1) sp=L[n+1]:=by rw[Qx,Qb cG];rfl
 rw[gH]at iP ⊢;have am:L[n+1]≠sp:=λz=>by rw[←h0]at z;have:=(Wu (h₀:=cG) (h₁:=eI) nd).mp z;lia
 refine zay (by rw[decide_eq_false am];rfl) ?_;have ji:t≠l:=zbg iP au FG;refine⟨_,λ σ' H' z=>z,?_⟩;refine⟨A5,Hd au,A5,l,_,A5,rfl,au,by rw[Qa,Za];lia,?_⟩;have k3:Keep [l] H1 Pi:=k2.trans AK;have fM:(WD l Hg) t=some (.tup [.str L[n+1].1,.str L[n+1].2]):=by rw[zaf ji];exact iP
 have fj:(WD l Hg) l=some (FJ ((t0::(as++[t])).map V.ref)):=by rw[zab,←Yv,Qr];rfl
 have mj:zbi Pi (t0::(as++[t])) (L.take (n+1+1)):=by rw[Qj cG,←Yv];refine zao (zbi.keep pa λb x y eb=>?_) (HY fM);rw[zaf (zbg eb au FG)];exact eb
 generalize WD l Hg=H3 at k3 fM fj mj;have R3:RF H3 d es:=⟨R1.dc.imp (λz=>k3 _ _ z (by simpa using zbg z ck (by intro q;cases q))) λ⟨o,z⟩=>⟨o,k3 _ _ z (by simpa using zbg z ck (by intro q;cases q))⟩,R1.nd,λe he=>k3 _ _ (R1.ro e he) (by simpa using zac (R.ro e he) fl)⟩;obtain⟨e,he,g1,g2,g3,g5⟩:=bM R3 L[n+1] (al _ (Qn cG));refine⟨A5,t,_,_,A5,rfl,HV fM,i1 _ _,A5,A5,t,_,_,A5,rfl,HV fM,i1 _ _,d,A5,g1,A5,t,_,_,A5,rfl,HV fM,i0 _ _,_,e.2.1,L[n+1].1,rfl,g2,g3,rn e he,Sq,λt' iQ=>?_⟩;have e6:[V.str L[n+1].2,V.str (Fo L[n+1].1)]=[V.str (C9 (n+1+1)).1,V.str (C9 (n+1+1)).2]:=by rw[←cK (n+1) cG,g5]
 rw[e6];have lq:l≠t':=zac fj iQ;have uf:H t'=none:=oA (zap k3 iQ (Hb lq));refine⟨L.length-(n+1),Fs,n+1,t',as++[t],rfl,cG,rfl,RQ (FM iQ),FQ lq fj,zbi.keep mj λb x y eb=>by rw[zaf (A0 eb iQ)];exact eb,zab,by rw[Qk,bK];rfl,λa ha=>?_,uf⟩;rw[←Yv]at ha;rcases Qg.mp ha with z|z
 ·exact bu a z
 rw[Qd.mp z];exact hft
end
end K21
namespace L2
open PySem
def ix_tupK{X:Cx}{K:Na}(hK:X.K=K):DI (rIxT K):=hK▸ze3
end L2
namespace K21
open PySem L2 Wb
abbrev zgf:Stmt:=top 32
inductive IspLFaces(vs:List V)(H:Hp)(Q:VK):Prop
 |mk (d:Nc) (es:List Ent) (cs:List (List (Str×Str))) (lab:Nx) (h0:vs=[.ref d]) (h1:RF H d es) (h2:es.length≤40) (h4:Cert (es.map (·.1)) (row (rsOf es)) cs lab) (h5:∀(l:Nc) (as:Nl) (zss:List (List Str)) (Ls:List (List (Str×Str))) (H':Hp),H' l=some (.lst (as.map V.ref))→as.length≤20000→Paired (zbz H') as zss→zss.Perm ((zcv es).map sing++Ls.map nmL)→zss.Pairwise leL→zbf (row (rsOf es)) Ls→H l=none→Keep [] H H'→Q (.ref l) H'):IspLFaces vs H Q
def spLFaces:Sp:=λvs H Q _=>IspLFaces vs H Q
def leP_lex{a b:Str×Str}(h1:leS a.1 b.1)(h2:a.1=b.1→leS a.2 b.2):leP a b:=by
 show(Tm.pairO Tm.strO Tm.strO).blt (keyP b) (keyP a)=false;show(Mc a.1.cps.toList||(!Md b.1.cps.toList&&Me a.2.cps.toList))=false;have e1:Mc a.1.cps.toList=false:=decide_eq_false h1;rw[e1,Bool.false_or];cases e2:Md b.1.cps.toList with
 |true=>rfl
 |false=>have e3:Me a.2.cps.toList=false:=decide_eq_false (h2 (Tm.str_ext (Tm.strO.total _ _ e2 e1)));rw[e3];rfl
def leS_at{ws:Nh}(h:ws.Pairwise leS){i:Nat}(hi:i<ws.length){u:Str}(hu:u∈ws)(hn:u∉ws.take i):leS ws[i] u:=by
 rw[←Zq i ws]at hu;rcases Qg.mp hu with z|z
 ·exact absurd z hn
 rw[Zz hi]at z;rcases Qi.mp z with y|y
 ·rw[y];exact λz=>Ua _ z
 have h2:=h.sublist (Xq i ws);rw[Zz hi,Wo]at h2;exact h2.1 u y
theorem Paired.impL{α β:Type}{R S:α→β→Prop}:∀{as:List α} {bs:List β},(∀a b,a∈as→R a b→S a b)→QV as bs→Paired S as bs
 |_,_,_,.nil=>.nil
 |_,_,h,.cons r t=>.cons (h _ _ Qc r) (Paired.impL (λa b hb=>h a b Tr) t)
def Keep.fr(k:Keep [] H H')(h:H a=none):Keep [] H (Ij H' a o):=λc u ec hc=>by rw[zaf (XH h)];exact k c u ec hc
structure LF(H0 H:Hp)(r:Nt)(fo se:Nc)(fa sa:Nl)(zss:List (List Str))(iso:Nh)(Ls:List (List (Str×Str))):Prop where
 hf:H fo=some Eg
 pf:V' fa zss
 pm:zss.Perm (iso.map sing++Ls.map nmL)
 hs:H se=some (FJ (sa.map V.ref))
 ps:DQ sa Ls.flatten
 fc:∀L∈Ls,V8 L
 nd:Ls.flatten.Nodup
 al:∀s∈Ls.flatten,s.1∈r s.2
 fn:∀a∈fa,H0 a=none
 ns:se≠fo
def LF.keep{H':Hp}(h:YK Ls)(k:Keep [] H H'):LF H0 H' r fo se fa sa zss iso Ls:=
 ⟨k _ _ h.hf Fr,zel k h.pf,h.pm,k _ _ h.hs Fr,zbi.keep h.ps λb x y eb=>k _ _ eb Fr,h.fc,h.nd,h.al,h.fn,h.ns⟩
def flat_len{β:Type}:∀{Ls:List Pg},(∀L∈Ls,L≠[])→Ls.length≤Ls.flatten.length:=by
 intro Ls;induction Ls with
 |nil=>intro _;exact Qh _
 |cons L t ih=>intro h;have h1:=ih λL' cw=>h L' (QM cw);have h2:0<L.length:=Uf.mpr (h L Qc);rw[Za,Yl,Qk];lia
def LF.len{es:List Ent}{cs:List Gy}{lab:Nx}(h:YK Ls)(C:Cert Gv r cs lab)(ba:es.length≤40):fa.length≤iso.length+1600∧sa.length≤1600:=by
 have h1:=steps_len C ba h.nd h.al;have h2:=Zl h.ps;have h3:=Zl h.pf;have h4:=h.pm.length_eq;rw[Qk,Qa,Qa]at h4;have h5:=flat_len (Ls:=Ls) λL hL=>by obtain⟨s,t,e,_⟩:=(h.fc L hL).cy;rw[e];exact Dy _
 lia
def LF.put2{u qW:Nc}{zs:Nh}{qX:Nl}{dv:List Gy}(h:YK Ls)(hu:zbz H u zs)(fu:H0 u=none)(nu:u≠fo)(pm:(zss++[zs]).Perm (iso'.map sing++dv.map nmL))(hs:H qW=some (FJ (qX.map V.ref)))(ps:DQ qX dv.flatten)(fc:∀L∈dv,V8 L)(nd:dv.flatten.Nodup)(al:∀s∈dv.flatten,s.1∈r s.2)(ns:qW≠fo):LF H0 (RC fo (fa.map V.ref++[Fu u])) r fo qW (fa++[u]) qX (zss++[zs]) iso' dv:=by
 refine⟨by rw[zab,Qr];rfl,?_,pm,FQ ns hs,?_,fc,nd,al,λa ha=>?_,ns⟩
 ·refine zao (Paired.impL (λa z ha e=>?_) h.pf) (.cons ?_ .nil)
  ·have:a≠fo:=MI h.hf (by
    intro z1;have z2:z.map V.str=fa.map V.ref:=by injection z1
    cases fa with
    |nil=>cases ha
    |cons b t=>cases z with
     |nil=>cases z2
     |cons c w=>rw[Qo,Qo]at z2;injection z2 with z3 _;cases z3)
   show BG a=_;rw[zaf this];exact e
  show BG u=_;rw[zaf nu];exact hu
 ·exact zbi.keep ps λb x y eb=>by rw[zaf (zbg eb h.hf FG)];exact eb
 rcases Qg.mp ha with z|z
 ·exact h.fn a z
 rw[Qd.mp z];exact fu
def LF.put{u:Nc}{zs:Nh}(h:YK Ls)(hu:zbz H u zs)(fu:H0 u=none)(nu:u≠fo)(pm:(zss++[zs]).Perm (iso'.map sing++Ls.map nmL)):LF H0 (RC fo (fa.map V.ref++[Fu u])) r fo se (fa++[u]) sa (zss++[zs]) iso' Ls:=
 h.put2 hu fu nu pm h.hs h.ps h.fc h.nd h.al h.ns
def rnd_new{r:Nt}{s:Str×Str}{L:Nr}{Ls:List Gy}(R:Rnd r s L)(hf:∀L∈Ls,V8 L)(hn:s∉Ls.flatten):∀u∈L,u∉Ls.flatten:=by
 intro u hu z;obtain⟨L',cw,lH⟩:=Yj.mp z;obtain⟨i9,t',rfl,k',_⟩:=(hf L' cw).cy;obtain⟨t,rfl,k⟩:=R.cy;have clo:∀v,v∈i9::t'→st r v∈i9::t':=λv hv=>by
  rcases lk_clo k' v (O9 hv) with z|z
  ·rw[z];exact Qc
  exact QM z
 obtain⟨A,B,e⟩:=Uz hu;have c:Dx (A++u::B):=⟨s,t,e.symm,k⟩;have al:=lk_all (P:=λu=>u∈i9::t') clo (zfm c) lH;refine hn (IJ ⟨_,cw,?_⟩);have hs:s∈A++u::B:=by rw[←e];exact Qc
 rcases Qg.mp hs with z|z
 ·exact al s Pr
 rcases Qi.mp z with y|y
 ·rw[y];exact lH
 exact al s (Y5 y)
def ndLF:(["_law_step"]:List Str).Nodup:=by decide+kernel
section
variable{P:Nk}{w:Nn}{K:Na}{mg:Ng}{base:No}
def zc2:zar [qR, "_law_found", "_law_seen", "_law_place",qO, "_law_steps_here"] [qR] (zaj zgf):=fsk
def ok_lfaces(F:Z1 "_law_faces" "_law_faces" zgf f fd)(FS:Z1 "_law_steps" "_law_steps" zfd fs fds)(bS:Z3 fds [qR, "_law_p", "_law_q"] [])(mS:mg "_law_steps" = some (Fu fs))(GS:ZB 2 fs fds [qR, "_law_p", "_law_q"] spStepsS)(ay:mg "sorted" = none):ZB 3 f fd [qR] spLFaces:=by
 refine F.okL zc2 Fx;obtain⟨d,es,cs,lab,rfl,R,ba,C,k⟩:=h;have hu:=zcm hr;have bX:=Jg hu;have rP:(Oe (PyProof.Rows.envOfC "_law_faces" (zaj zgf) s.heap.objs.size f cdv)).units+8<cLine:=Yo (Xe (by decide:8≤64) _) hr.units;have aJ:=sizeLine_eq;refine⟨_,zae (X1 zc2.nd RD)
  (zae (BH zc2.nd RD)
  (zae (QH Cm (DT zc2.nd)
   (zae (zbt (zan (zgp bX) (Y9 HF) RD HP) (zag (Eo RK (Hf (za1 Tt)))) zaw)
   (zag (QH (zaz (CB zdk (Hf (Y9 (pv 3))))) (N0 zc2.nd)
    (zag (zbt (zan (zhb hu) (zbd (Q3 TW)) RM rfl)
     (zae (zas 5 zc2.nd (BQ bS .nil zba (ZM (Q3 TW))))
     (zae (BH zc2.nd (W9 RM Lc))
     (zag (za2 (Z8 RK (zaa (zfw (M:=["_law_step"]) (ix:=[none]) (mkB zc2) rfl (zaz Lc) (λC a7 ex s H=>JH ndLF) (λC a7 ex s H=>zcp) (λC a7 ex s H=>zbb (ix_tupK (K:=K) rfl) Hx zah FV)) zad)))))) zaw))))))
  (zag (AE (CB (zc6 rP) HH))))),?_⟩
 refine⟨Tv,λfo gZ=>⟨Tv,λje hse=>?_⟩⟩;have nfs:fo≠je:=zac (o:=_) zab hse;have k1:Keep [] H (Ij TK je Ge):=(FM gZ).trans (FM hse);have qu:(Ij TK je Ge) fo=some Ge:=by rw[zaf nfs];exact zab
 have lK:(Ij TK je Ge) je=some Ge:=zab;generalize upd TK je Ge=H1 at k1 qu lK;have R1:=R.keep k1;refine⟨A5,d,_,Gv,rfl,R1.dc,zgz es,λl ws hl ae ai=>?_⟩;replace ai:=ai Rx;have k2:Keep [] H (QI l HN):=k1.trans Cl;have au:(QI l HN) l=some HN:=zab;have lO:=(zaf (o:=.lst (ws.map V.str)) (A0 qu hl)).trans qu;have de:=(zaf (o:=.lst (ws.map V.str)) (A0 lK hl)).trans lK;have nlf:l≠fo:=Zd (A0 qu hl);generalize QI l HN=H2 at k2 au lO de;have eQ:ws.length≤40:=by rw[ae.length_eq,Qa];exact ba
 generalize gS:row (rsOf es)=r at *;refine⟨l,rfl,⟨_,FH au⟩,ze5 (zs:=ws) (λi σ H'=>Aj3 (Ex4 λse x3 x4 x5=>Aj2 (σ=[LO,Fy fo,Fy se,x3,x4,x5]) (Ex4 λfa sa zss Ls=>Aj2 (Mp ((Ej i).filter λx=>(r x).isEmpty) Ls) (∀x∈ws.take i,∀y∈r x,(x,y)∈Ls.flatten))) (Keep [fo] H2 H') (Keep [] H H'))
  ⟨⟨je,_,_,_,rfl,[],[],[],[],⟨lO,.nil,Ad,de,.nil,(λL hL=>by cases hL),Zy,(λs hs=>by cases hs),(λa ha=>by cases ha),Zd nfs⟩,λx hx=>(by cases hx)⟩,Keep.refl,k2⟩ (λi σ H' _ hh=>SqL.of (TU au (Fv nlf))) ?_ ?_⟩
 ·rintro i hi σ H3 ⟨⟨se,x3,x4,x5,rfl,fa,sa,zss,Ls,lf,aq⟩,k3,ig⟩;have R3:=R.keep ig;have av:ws[i]∈es.map (·.1):=ae.mem_iff.mp C7;obtain⟨e,he,ee,g⟩:=R3.inn av;have ag:r ws[i]=e.2.1:=by rw[←gS,←ee];exact Mf he
  have tk:ws.take Gr=ws.take i++[ws[i]]:=Qj hi;have aU:=R3.ro e he;have bw:e.2.1.length≤40:=by have h1:=C.rn ws[i];rw[ag]at h1;have:∀y∈e.2.1,y∈es.map (·.1):=λy hy=>C.inn' (x:=ws[i]) (FA ag hy);have:=zcu h1 this;rw[Qa]at this;lia
  have ki:=lf.len C ba;have hil:((Ej i).filter λx=>(r x).isEmpty).length≤40:=Bt (Gp Ze);refine⟨A5,A5,d,A5,g,Tv,λq hq=>?_⟩;have nrq:e.2.2≠q:=zac aU hq;refine⟨e.2.2,q,A5,rfl,FH (by rw[zaf nrq];exact aU),LN,A5,?_⟩;have kq:Keep [] H3 (WK q Ge):=Keep.new hq;have lw:=lf.keep kq;generalize WK q Ge=H4 at kq lw;have c9:Keep [] H H4:=ig.trans kq;have k4:Keep [fo] H2 H4:=k3.trans (kq.sub Fr);by_cases iE:e.2.1=[]
  ·refine zay (by rw[iE];rfl) ⟨_,rfl,.inl ⟨rfl,_,SqL.of lw.hf⟩,_,rfl,SK,λu lH=>?_⟩;have ku:Keep [] H4 (QJ u (.lst [.str ws[i]])):=Keep.new lH;have hu5:(QJ u (.lst [.str ws[i]])) u=some (.lst [.str ws[i]]):=zab;have pL:=lw.keep ku;generalize QJ u (.lst [.str ws[i]])=H5 at ku hu5 pL;have nuf:u≠fo:=Zd (zac lw.hf lH);refine⟨fo,_,A5,rfl,pL.hf,Rx,?_⟩;have fu:H u=none:=zap c9 lH Fr;have kK:(Ej Gr).filter (λx=>(r x).isEmpty)=(Ej i).filter (λx=>(r x).isEmpty)++[ws[i]]:=by rw[tk,Wc,Wn (by rw[ag,iE];rfl),Ug]
   have lf6:=pL.put (zs:=[ws[i]]) (iso':=(Ej i).filter (λx=>(r x).isEmpty)++[ws[i]]) hu5 fu nuf (by rw[Qr,Zc];refine(pL.pm.append_right _).trans ?_;rw[Zc];exact Jb _ Ja);have k6:Keep [fo] H5 (QF fo (FJ (fa.map V.ref++[Fu u]))):=Keep.wr Fr;have fF:Keep [] H (QF fo (FJ (fa.map V.ref++[Fu u]))):=(AF ku).fr gZ;generalize QF fo (FJ (fa.map V.ref++[Fu u]))=H6 at lf6 k6 fF;have R6:=R.keep fF;have g6:=R6.get he;rw[ee]at g6;refine⟨A5,A5,d,A5,g6,e.2.2,[],rfl,SqL.of (by have:=R6.ro e he;rw[iE]at this;exact this),λl7 qJ aK az _=>?_⟩;have e7:qJ=[]:=Kl.mp az.length_eq;subst e7;generalize me:U9 l7 _=H7;obtain⟨k7,cj⟩:=nwk aK me;refine⟨l7,rfl,⟨_,FH cj⟩,ze5 (zs:=[]) (λj σ H'=>Aj2 (σ=[LO,Fy fo,Fy se,He (.str ws[i]),x4,x5]) (H'=H7)) ⟨rfl,rfl⟩ (λj σ H' _ hh=>by rw[hh.2];exact SqL.of cj) (λj hj=>by cases hj) ?_⟩;rintro σ H8 ⟨rfl,rfl⟩;refine⟨⟨se,_,_,A5,fa++[u],sa,zss++[[ws[i]]],Ls,kK▸lf6.keep k7,λx hx y hy=>?_⟩,((k4.trans (ku.sub Fr)).trans k6).trans AJ,fF.trans k7⟩;rw[tk]at hx;rcases Qg.mp hx with z|z
   ·exact aq x z y hy
   rw[Qd.mp z,ag,iE]at hy;cases hy
  have kK:(Ej Gr).filter (λx=>(r x).isEmpty)=(Ej i).filter (λx=>(r x).isEmpty):=by rw[tk,Wc,Wg (by rw[ag];simpa using iE),Ug,Zp]
  have am:(e.2.1.map V.str).isEmpty=false:=by
   cases h9:e.2.1 with
   |nil=>exact absurd h9 iE
   |cons a t=>rfl
  refine zal (by rw[if_neg Fw];exact am) ?_;have R4:=R.keep c9;have g4:=R4.get he;rw[ee]at g4;refine⟨A5,A5,d,A5,g4,e.2.2,e.2.1,rfl,FH (R4.ro e he),λl7 vs aK az cb=>?_⟩;replace cb:=cb Fs;have k7:Keep [] H4 (QJ l7 Lh):=Keep.new aK;have cj:(QJ l7 Lh) l7=some Lh:=zab;have lf7:=lw.keep k7;have nl7:l7≠fo:=Zd (zac lw.hf aK);generalize QJ l7 Lh=H7 at k7 cj lf7;refine⟨l7,rfl,⟨_,FH cj⟩,ze5 (zs:=vs) (λj σ H'=>Aj3 (Ex3 λse x4 x5=>Aj2 (σ=[LO,Fy fo,Fy se,He (.str ws[i]),x4,x5]) (Ex4 λfa sa zss Ls=>Aj3 (Mp ((Ej i).filter λx=>(r x).isEmpty) Ls) (∀x∈ws.take i,∀y∈r x,(x,y)∈Ls.flatten) (∀y∈vs.take j,(ws[i],y)∈Ls.flatten))) (Keep [fo] H7 H') (Keep [] H H'))
   ⟨⟨se,_,_,rfl,fa,sa,zss,Ls,lf7,aq,λy hy=>(by cases hy)⟩,Keep.refl,AF k7⟩ (λj σ H' _ hh=>SqL.of (TU cj (Fv nl7))) ?_ ?_⟩
  ·rintro j hj σ H8 ⟨⟨se,x4,x5,rfl,fa,sa,zss,Ls,lf,aq,dW⟩,k8,mw⟩;have hvj:vs[j]∈r ws[i]:=by rw[ag];exact az.mem_iff.mp AH
   have pE:vs.take (j+1)=vs.take j++[vs[j]]:=Qj hj;refine⟨A5,A5,Sq,λt9 nv=>?_⟩;have k9:Keep [] H8 (UX t9 (.tup [.str ws[i],.str vs[j]])):=Keep.new nv;have h9:(UX t9 (.tup [.str ws[i],.str vs[j]])) t9=some (.tup [.str ws[i],.str vs[j]]):=zab;have lv:=lf.keep k9;generalize UX t9 (.tup [.str ws[i],.str vs[j]])=H9 at k9 h9 lv;have pN:=mw.trans k9;refine⟨A5,t9,se,(ws[i],vs[j]),sa,Ls.flatten,rfl,rfl,h9,SqL.of lv.hs,lv.ps,A5,?_⟩;by_cases iz:(ws[i],vs[j])∈Ls.flatten
   ·refine zal (by rw[Gh iz];rfl) ⟨⟨se,_,_,rfl,fa,sa,zss,Ls,lv,aq,λy hy=>?_⟩,k8.trans (k9.sub Fr),pN⟩;rw[pE]at hy;rcases Qg.mp hy with z|z
    ·exact dW y z
    rw[Qd.mp z];exact iz
   refine zay (by rw[Gx iz];rfl) ?_;have ki:=lv.len C ba;refine⟨A5,A5,A5,d,es,cs,lab,(ws[i],vs[j]),rfl,R.keep pN,by rw[gS];exact K6 hvj,FA gS C,ba,λtA pa L HA ftA htA paA RL hLl _ kA=>?_⟩;rw[gS]at RL;have lfA:=lv.keep kA;have bo:=Zl paA;refine⟨A5,A5,se,tA,_,A5,rfl,lfA.hs,htA,by rw[Qa,Qa];lia,λq hq=>?_⟩;have kq:Keep [] HA (Ij HA q (FJ (sa.map V.ref++pa.map V.ref))):=Keep.new hq;have hqB:(Ij HA q (FJ (sa.map V.ref++pa.map V.ref))) q=some (FJ ((sa++pa).map V.ref)):=by rw[zab,Qr]
   have lfB:=lfA.keep kq;have rY:=kq _ _ htA Fr;have paB:zbi _ pa L:=zbi.keep paA λb x y eb=>kq _ _ eb Fr;have nqf:q≠fo:=Zd (zac lfA.hf hq);generalize upd HA q (FJ (sa.map V.ref++pa.map V.ref))=HB at kq hqB lfB rY paB;refine⟨A5,.inl ⟨rfl,_,SqL.of lfB.hf⟩,A5,tA,rfl,⟨_,FH rY⟩,lc_at (xs:=pa.map V.ref) (λ τ=>∃x0,τ=[x0]) ((nmL L).map V.str) (by rw[Qa,Qa,Qa,bo]) (FH rY) Rx ⟨none,rfl⟩ ?_ λD hD=>?_⟩
   ·rintro n hn jX τ ⟨x0,rfl⟩ kc sY;rw[Qa]at hn;obtain⟨bz,hp⟩:=za0 paB hn;rw[Zm];refine⟨A5,pa[n],_,_,A5,rfl,HV hp,(zav rfl:atI [V.str L[n].1,V.str L[n].2] ((0:Nat):Int)=some (.str L[n].1)),?_⟩;have:=sY [He (.ref pa[n])] ⟨_,rfl⟩;rw[Zm,Zm]at this;exact this
   have kD:Keep [] HB (Ij HB D (FJ ((nmL L).map V.str))):=Keep.new hD;have hDC:(Ij HB D (FJ ((nmL L).map V.str))) D=some (FJ ((nmL L).map V.str)):=zab;have lfC:=lfB.keep kD;have hqC:=kD _ _ hqB Fr;have paC:zbi _ pa L:=zbi.keep paB λb x y eb=>kD _ _ eb Fr;have nDf:D≠fo:=Zd (zac lfB.hf hD);generalize upd HB D (FJ ((nmL L).map V.str))=HC at kD hDC lfC hqC paC;have kkC:Keep [] H HC:=((pN.trans kA).trans kq).trans kD;have fD:H D=none:=zap ((pN.trans kA).trans kq) hD Fr;refine⟨fo,_,A5,rfl,lfC.hf,Rx,?_⟩;have new:=rnd_new RL lfC.fc iz;have hFL:V8 L:=by obtain⟨t,eL,kL⟩:=RL.cy;refine⟨(ws[i],vs[j]),t,eL,kL,λu hu=>?_⟩;have rQ:=RL.al u hu;have bX:u.2∈r u.1:=K6 rQ;have cG:u.1∉ws.take i:=λz=>new u hu (aq u.1 z u.2 bX);refine leP_lex (leS_at ai hi (Ca (C.inn bX)) cG) λe1=>?_;have cZ:ws[i]=u.1:=e1;refine leS_at cb hj (az.mem_iff.mpr (by rw[←ag,cZ];exact bX)) λz=>new u hu ?_;have:=dW u.2 z;rw[cZ]at this;exact this
   have u7:(Ls++[L]).flatten=Ls.flatten++L:=by rw[Ww,Yl,Ks,Zp]
   have lfE:LF H (Fp (FJ (fa.map V.ref++[HQ]))) r fo q (fa++[D]) (sa++pa) (zss++[nmL L]) ((Ej i).filter λx=>(r x).isEmpty) (Ls++[L]):=by
    refine lfC.put2 (zs:=nmL L) hDC fD nDf ?_ hqC (by rw[u7];exact zao lfC.ps paC) (λL' cw=>?_) ?_ (λs hs=>?_) nqf
    ·rw[Qr,← Zc];exact lfC.pm.append_right _
    ·rcases Qg.mp cw with z|z
     ·exact lfC.fc L' z
     rw[Qd.mp z];exact hFL
    ·rw[u7];exact Zn.mpr ⟨lfC.nd,RL.nd,λa ha b hb e=>new b hb (e▸ha)⟩
    rw[u7]at hs;rcases Qg.mp hs with z|z
    ·exact lfC.al s z
    exact RL.al s z
   have k6:Keep [fo] HC (Fp (FJ (fa.map V.ref++[HQ]))):=Keep.wr Fr;have fF:Keep [] H (Fp (FJ (fa.map V.ref++[HQ]))):=kkC.fr gZ;refine⟨⟨q,_,A5,fa++[D],sa++pa,zss++[nmL L],Ls++[L],lfE,λx hx y hy=>?_,λy hy=>?_⟩,(((((k8.trans (k9.sub Fr)).trans (kA.sub Fr)).trans (kq.sub Fr)).trans (kD.sub Fr)).trans k6),fF⟩
   ·rw[Ww];exact Y5 (aq x hx y hy)
   rw[Ww];rw[pE]at hy;rcases Qg.mp hy with z|z
   ·exact Y5 (dW y z)
   rw[Cz];obtain⟨t,eL,_⟩:=RL.cy;refine YT ?_;rw[Yl,Ks,Zp,eL];exact Qc
  rintro σ H8 ⟨⟨se,x4,x5,rfl,fa,sa,zss,Ls,lf,aq,dW⟩,k8,mw⟩;rw[Qa,Qm Gg]at dW;refine⟨⟨se,_,_,A5,fa,sa,zss,Ls,kK▸lf,λx hx y hy=>?_⟩,(k4.trans AJ).trans k8,mw⟩;rw[tk]at hx;rcases Qg.mp hx with z|z
  ·exact aq x z y hy
  rw[Cz]at hy ⊢;exact dW y (az.mem_iff.mpr (by rw[←ag];exact hy))
 rintro σ H3 ⟨⟨se,x3,x4,x5,rfl,fa,sa,zss,Ls,lf,aq⟩,k3,ig⟩;rw[Qa,Qm Gg]at lf aq;have ki:=lf.len C ba;have hil:(ws.filter λx=>(r x).isEmpty).length≤40:=Bt eQ;have uw:∀a zs,zbz H3 a zs→lstV H3 Ht=zs.map λx:Str=>x.cps.toList:=λa zs e=>by rw[zit e,Zu];rfl
 refine⟨A5,fo,A5,SqL.of lf.hf,λv hv=>?_,λl7 qJ aK di cb=>?_⟩
 ·obtain⟨a,ha,rfl⟩:=Ql.mp hv;obtain⟨j,hj,rfl⟩:=Zg ha;obtain⟨_,e⟩:=za0 lf.pf hj;exact⟨_,A5,e⟩
 obtain⟨eJ,rfl,az⟩:=zgh di;obtain⟨lZ,lM,cB⟩:=zdf az lf.pf;rw[Uq]at cb;have cY:N2 Ls:=⟨lf.fc,lf.nd,λs=>⟨lf.al s,λh=>aq s.1 (Ca (C.inn' h)) s.2 (K6 h)⟩⟩;have tE:(ws.filter λx=>(r x).isEmpty).Perm (zcv es):=by rw[iso_eq R.nd,gS];exact ae.filter _
 exact k l7 eJ lZ Ls _ zab (by rw[az.length_eq];lia) (Paired.imp' (λa z e=>by show BG a=_;rw[zaf (BE aK)];exact e) cB) (lM.trans (lf.pm.trans ((tE.map _).append_right _))) (show lZ.Pairwise leL from zcr (S:=λa b=>(Tm.listO Tm.strO).kle a b) (f:=λa=>lstV H3 Ht) (g:=λz:List Str=>z.map λx:Str=>x.cps.toList) cB uw cb) cY (zap ig aK Fr) (ig.trans (FM aK))
abbrev zij:Stmt:=top 33
inductive IspLPiece(vs:List V)(H:Hp)(Q:VK):Prop
 |mk (d:Nc) (es:List Ent) (cs:List (List (Str×Str))) (lab:Nx) (x:Str) (h0:vs=[.ref d,.str x]) (h1:RF H d es) (h2:es.length≤40) (h3:Cert (es.map (·.1)) (row (rsOf es)) cs lab) (h4:x∈es.map (·.1)) (h5:∀(l:Nc) (zs:Nh) (H':Hp),H' l=some (.lst (zs.map V.str))→zs.Nodup→zs.Pairwise leS→(∀y,y∈zs↔y∈es.map (·.1)∧lab y=lab x)→H l=none→Keep [] H H'→Q (.ref l) H'):IspLPiece vs H Q
def spLPiece:Sp:=λvs H Q _=>IspLPiece vs H Q
def zim{X:Cx}{K:Na}(hK:X.K=K):WS Lw (rIn K true):=hK▸zc3
def sorted_same:∀{as bs:Nh},as.Nodup→bs.Nodup→as.Pairwise leS→bs.Pairwise leS→(∀y,y∈as↔y∈bs)→as=bs:=λ{as bs} na nb sa sb h=>((Jz na nb).mpr h).eq_of_pairwise (λa b _ _=>ze2 _ _) sa sb
def ndLP:([qO, "_law_piece_here"]:List Str).Nodup:=by decide+kernel
def zer:zar [qR, "_law_place", "_law_piece_here", "_law_at"] [qR, "_law_place"] (zaj zij):=fsk
def ok_lpiece(F:Z1 "_law_piece" "_law_piece" zij f fd)(ay:mg "sorted" = none)(aa:G'):ZB 1 f fd [qR, "_law_place"] spLPiece:=by
 refine F.okL zer Fx;obtain⟨d,es,cs,lab,x,rfl,R,ba,C,hx,k⟩:=h;have hu:=zcm hr;have aJ:=sizeLine_eq;refine⟨_,zae (ps_set (i:=2) zer.nd rfl Tq Oq)
  (zae (JI zer.nd zah)
  (zae (M4 (XN HF (RJ Rg) HP)
   (zae (za2 (zcd Qz PySem.F.slot_list_extend PySem.F.type_list_extend mt_extend RM (zaa (zfw (M:=[qO, "_law_piece_here"]) (ix:=[none,He 2]) (mkB zer) rfl (zaz (Y9 (Hq 2 3))) (λC a7 ex s H=>JH ndLP)
     (λC a7 ex s H=>zdo (zan (zim (K:=K) rfl) Hx RK rfl)) (λC a7 ex s H=>pv 0)) zad)))
   (zag (JI zer.nd (Es HF)))))
  (zag (AE (CB zdk Rg))))),?_⟩
 refine⟨A5,SK,λpl bo=>?_⟩;have k1:Keep [] H (ZU pl (.lst [TD])):=Keep.new bo;have cg:(ZU pl (.lst [TD])) pl=some (FJ ([x].map V.str)):=zab;generalize ZU pl (.lst [TD])=H1 at k1 cg;generalize gS:row (rsOf es)=r at *;refine⟨λm σ H'=>Ex2 λ(bM:Nat) (zs:Nh)=>Aj8 (m=es.length-bM) (σ=[LO,SO x,Fy pl,He (.int (bM:Int))]) (H' pl=some Ch) zs.Nodup (∀z∈zs,z∈es.map (·.1)∧lab z=lab x) (x∈zs) (∀z∈zs.take bM,∀y∈r z,y∈zs) (Aj2 (bM≤zs.length) (Keep [] H H')),
  ⟨_,0,[x],rfl,rfl,cg,Zh.mpr ⟨Fr,Zy⟩,λz hz=>(by rw[Qd.mp hz];exact⟨hx,rfl⟩),Qc,λz hz=>(by cases hz),Sv,k1⟩,?_⟩
 rintro m σ H2 ⟨bM,zs,rfl,rfl,aD,eM,mG,eO,ut,cX,k2⟩;have dz:zs.length≤es.length:=by have:=zcu eM λz hz=>(mG z hz).1;rwa[Qa]at this
 refine⟨A5,A5,pl,A5,HJ aD,_,A5,rfl,A5,?_⟩;rw[Qa];by_cases ad:bM<zs.length
 ·refine zay (Gh Fs) ⟨_,fun σ' H' zz=>zz,?_⟩;have mK:zs[bM]∈zs:=Qn ad;have tk:zs.take (bM+1)=zs.take bM++[zs[bM]]:=Qj ad;have R2:=R.keep k2;obtain⟨e,he,ee,g⟩:=R2.inn (mG _ mK).1;have ag:r zs[bM]=e.2.1:=by rw[←gS,←ee];exact Mf he
  have be:e.2.1.Nodup:=by have:=C.rn zs[bM];rwa[ag]at this
  have bw:e.2.1.length≤40:=by have:∀y∈e.2.1,y∈es.map (·.1):=λy hy=>C.inn' (x:=zs[bM]) (FA ag hy);have:=zcu be this;rw[Qa]at this;lia
  refine⟨A5,Hd aD,A5,A5,A5,pl,_,_,A5,rfl,FH aD,zav (by rw[Qt,Qb ad];rfl),d,A5,g,e.2.2,rfl,⟨_,FH (R2.ro e he)⟩,?_⟩;refine ziv (xs:=e.2.1.map V.str) (λ τ=>∃x0,τ=[x0,some (.ref pl)]) (λv=>match v with | .str z=>decide (z∉zs)|_=>false) (SqL.of (R2.ro e he)) (by rw[Qa];lia) ⟨none,rfl⟩ ?_ (λD hD=>?_)
  ·rintro y hy τ ⟨x0,rfl⟩ mx my oh oi;obtain⟨a,ha,rfl⟩:=Ql.mp hy;refine⟨A5,A5,pl,A5,HJ aD,rfl,zcx _,A5,?_⟩;rw[zeg];by_cases hz:a∈zs
   ·exact zal (by rw[decide_eq_true hz];rfl) (oi (decide_eq_false (λn=>n hz)) _ ⟨_,rfl⟩)
   exact zay (by rw[decide_eq_false hz];rfl) ⟨_,rfl,oh (Gh hz) _ ⟨_,rfl⟩⟩
  have ef:(e.2.1.map V.str).filter (λv=>match v with | .str z=>decide (z∉zs)|_=>false)=(e.2.1.filter λz=>decide (z∉zs)).map V.str:=by
   rw[Xc];rfl
  rw[ef];have hG:∀y,y∈e.2.1.filter (λz=>decide (z∉zs))↔y∈e.2.1∧y∉zs:=λy=>by rw[Xa,decide_eq_true_iff]
  have hGn:(e.2.1.filter λz=>decide (z∉zs)).Nodup:=be.sublist Xg;have hGl:(e.2.1.filter λz=>decide (z∉zs)).length≤40:=Bt bw;generalize(e.2.1.filter λz=>decide (z∉zs))=G at hG hGn hGl;have k3:Keep [] H (WD D LE):=k2.trans (FM hD);have gL:(WD D LE) D=some LE:=zab;have br:=(zaf (o:=.lst (G.map V.str)) (A0 aD hD)).trans aD;generalize WD D LE=H3 at k3 gL br;refine⟨pl,D,_,A5,rfl,br,gL,by rw[Qa,Qa];lia,?_⟩;rw[←Qr];refine⟨A5,_,A5,rfl,es.length-(bM+1),Fs,bM+1,zs++G,rfl,rfl,zab,?_,λz hz=>?_,Y5 eO,λz hz y hy=>?_,Gp Qk,k3.fr bo⟩
  ·exact Zn.mpr ⟨eM,hGn,λa ha b hb ab=>((hG b).mp hb).2 (ab▸ha)⟩
  ·rcases Qg.mp hz with h|h
   ·exact mG z h
   have h1:z∈r zs[bM]:=by rw[ag];exact ((hG z).mp h).1
   exact⟨C.inn' h1,(C.la _ _ h1).trans (mG _ mK).2⟩
  rw[Ku Fs,tk]at hz;rcases Qg.mp hz with h|h
  ·exact Y5 (ut z h y hy)
  rw[Qd.mp h,ag]at hy;by_cases iN:y∈zs
  ·exact Y5 iN
  exact YT ((hG y).mpr ⟨hy,iN⟩)
 refine zal (Gx Fs) ?_;rw[Qm Fs]at ut;refine⟨A5,pl,zs,rfl,FH aD,λl ws hl ae ai=>?_⟩;refine k l ws _ zab (ae.nodup_iff.mpr eM) (ai Fs) (λy=>?_) (zap k2 hl Fr) (TV (FM hl));rw[ae.mem_iff];constructor
 ·exact mG y
 rintro⟨h1,h2⟩;have hc:=N4 h1 h2.symm;clear h1 h2;induction hc with
 |refl=>exact eO
 |step _ hz ih=>exact ut _ ih _ hz
end
end K21
namespace L2
open PySem PySem.Spec PyProof.Rows
abbrev Cx.held(X:Cx)(a:Nc)(o:Obj):Cx:={X with A:=X.A.mark (Fy a),calm:=false,xe:=λ_ _=>False,pn:=(a,o)::X.pn}
def Under(X:Cx):Prop:=∃a o,X.A.handled=some Ht∧(a,o)∈X.pn∧LoneO o
section
variable{X:Cx}{a7:Nd}{σ:St}{H:Hp}{s:Ni}{E:Nb}{a:Nc}{ob:Obj}
def zhi(h:LoneO ob):Under (Mh ob):=⟨a,ob,rfl,Qc,h⟩
def Inv.held(I:ZK (a7++[(a,ob)]) σ H s):Fq s:=
 ⟨⟨I.ok.mod,I.ok.kind,I.ok.glob,I.ok.blt,I.ok.above,I.ok.inj,I.ok.has,I.ok.cab,(λh=>nomatch h),I.ok.frames,I.ok.stk,I.ok.exf,I.ok.bs,I.ok.bsz,I.ok.noex,I.ok.exfs,I.ok.funs,I.ok.frf⟩,I.os,I.bare,I.base,I.loc,I.cell,I.free,I.freeC,
  λp hp=>YS (by
   simp only[Qg,Qi]at hp ⊢;rcases hp with(z|z)|z
   ·exact .inr (Ru PD)
   ·exact .inl z
   exact .inr PD),I.hok,I.len⟩
def Inv.unheld(ok:X.Ok)(I:Fq s):ZA H s:=
 ⟨ok,I.os,I.bare,I.base,I.loc,I.cell,I.free,I.freeC,λp hp=>YS (QM hp),I.hok,I.len⟩
def SP.offH{D:Ends}{i:Nat}{x:Str}{pos:Pos}{f:Flow}{E:Nb}{M:Model}{A:Np}(ok:X.Ok)(hN:X.N.Nodup)(hi:X.N[i]?=some x)(hk:X.env.scope.names.lookup x=some .local)(h:SP (Mh ob) a7 (D.off i) f s) :
  wpAny M A (do bindName X.env x .none;unbindBehindTheSuite X.env x pos) (λ_ s'=>Bo D f s') E s:=by
 cases f with
 |next=>obtain⟨σ',H',I,q⟩:=h;exact UL hk λs' I'=>⟨_,H',I',q⟩
 |brk=>obtain⟨σ',H',I,q⟩:=h;exact UL hk λs' I'=>⟨_,H',I',q⟩
 |cont=>obtain⟨σ',H',I,q⟩:=h;exact UL hk λs' I'=>⟨_,H',I',q⟩
 |ret u=>obtain⟨v,σ',H',I,r,q⟩:=h;exact UL hk λs' I'=>⟨v,_,H',I',r,q⟩
def tTryP(K:Na)(c:Value)(i:Nat)(EX:St→XK)(tb:TS)(ts:Addr→Obj→TS):TS:=λD σ H=>Aj2 (tb D σ H) (∀(σ':St) (H':Hp) (a:Nc) (o:Obj),σ'.length=σ.length→EX σ' o.cls o.dict H'→H' a=none →
 Aj2 (JA o.cls c=some true) (ts a o (D.off i) (σ'.set i (Fy a)) H'))
def ps_tryP{body suite:List Stmt}{b₀:Stmt}{x n:Str}{np bg pos:Pos}{i:Nat}{c:Value}{EX:St→XK}{tb:TS}{ts:Addr→Obj→TS}(ax:X.stack=X.env::X.outer)(oF:X.ex=[])(hfm:X.env.frame=some X.env.locals)(hb:∀(E':Nb) (pn:Nd),PassesS (CXr X.prog X.w) (X.tried E' pn) EX→PSs (X.tried E' pn) body tb)(hs:∀a o,LoneO o→PSs (Mh o) (b₀::suite) (ts a o))(hN:X.N.Nodup)(hi:X.N[i]?=some n)(hk:X.env.scope.names.lookup n=some .local)(hg:Mr x)(hm:X.mg x=some c)(cM:Gw=false:=by decide) :
  PS X (.Try body [.ExceptHandler (He E4) (He n) (b₀::suite) bg] [] [] pos) (tTryP X.K c i EX tb ts):=by
 intro a7 s σ H D I h;obtain⟨h1,h2⟩:=h;refine wpAny_Try_except ?_;refine wpAny_mono (hb (λe s₁=>ZF (noteFrame e X.env) (λ_ s₂=>ZF (setFlight e none) (λ_ s₃=>ZF (handleBy e X.env [.ExceptHandler (He E4) (He n) (b₀::suite) bg]) (Bo D) X.xe s₃) X.xe s₂) X.xe s₁) (X.pn++a7) ?_ [] s σ H D (I.tried _) h1) (λfl s1 hq=>?_) λ_ _ z=>z
 ·intro pins' σ' H1 s1 e s' J hx;obtain⟨a,cls,a0,dd,H',B,rfl,os,bare,un,hok,hB,hT,fl,ln,q⟩:=hx;have J:ZD σ' H1 s1:=J.untried (pn:=[]) I.ok;rw[ax]at fl;have bu:X.A.frames=some (X.env::X.outer):=by rw[I.ok.frames,ax]
  refine noteR zdj bu hfm fl ln λh₄ ln₄ held₄ us₄=>?_;refine landR (s:={s' with heap:=h₄}) held₄.1 held₄.2.1 held₄.2.2.1 held₄.2.2.2 ln₄ λh₅ ln₅ fl₅ us₅=>?_;have J₅:ZD σ' H' {s' with heap:=h₅}:=Va fl₅.1 (by rw[ax];exact fl.2.2.1) (us₄.trans us₅);have na:H' a=none:=by
   cases z:H' a with
   |none=>rfl
   |some o=>obtain⟨u,hu⟩:=hT a o z;rw[fl.2.1]at hu;cases hu
  have n1:s1.heap.get? a=none:=by
   cases z:s1.heap.get? a with
   |none=>rfl
   |some o=>
    exfalso;by_cases hf:a∈frs X.stack
    ·rw[ax]at hf;obtain⟨_,o',aA,hd⟩:=fl.2.2.1.mem hf;obtain⟨oe,vs,hoe,_,sI,_⟩:=fl.first;rw[aA]at hoe;cases hoe;exact hd vs sI
    obtain⟨u,hu⟩:=hB a o z hf;rw[fl.2.1]at hu;cases hu
  obtain⟨ob,gb,jS⟩:=fl₅.there;have LT:PySem.W.Looks FE h₅ (typeOf Ht) cls:=jS▸(PySem.W.Looks.ld gb).andThen .now;have he:PySem.W.exmOne X.K cls c=some true:=by obtain⟨o5,ho5,L5⟩:=ln₅;rw[gb]at ho5;cases ho5;have q':=q;rw[←jS,←L5.2]at q';rw[←jS];exact(h2 σ' H' a ob (by rw[J.len,I.len]) q' na).1
  refine wpAny_handleBy_cons (codeAny_handlers_test (zef (J₅.suite a) hg hm ?_ cM)) FG;refine(PySem.W.exm_one J₅.kIn LT he).here ?_;refine codeAny_handlers_suite_as ?_;refine landR (s:={s' with heap:=h₅}) fl₅.1 fl₅.2.1 fl₅.2.2.1 fl₅.2.2.2.at ln₅ λh₆ ln₆ fl₆ us₆=>?_;have J₆:ZD σ' H' {s' with heap:=h₆}:=Va fl₆.1 (by rw[ax];exact fl.2.2.1) ((us₄.trans us₅).trans us₆);obtain⟨o6,ho6,L6⟩:=ln₆;have eD:o6.cls=cls:=by obtain⟨o,z,hc⟩:=fl₆.there;rw[ho6]at z;cases z;exact hc
  obtain⟨_,hsu⟩:=h2 σ' H' a o6 (by rw[J.len,I.len]) (by rw[eD,L6.2];exact q) na;have J₇:ZK (a7++[(a,o6)]) σ' H' {s' with heap:=h₆}:=by
   refine J₆.pins_of λp hp=>?_;rcases Qg.mp hp with z|z
   ·exact J₆.pin p Pr
   cases Qd.mp z;refine⟨ho6,na,?_,?_,λv z=>by obtain⟨⟨vs,hd,_⟩,_⟩:=L6;rw[hd]at z;cases z⟩
   ·rintro rfl;obtain⟨m,⟨o,_,_,ho,_⟩,_⟩:=J.loc;rw[n1]at ho;cases ho
   intro z;obtain⟨_,o,ho,_⟩:=J.funs.mem z;rw[n1]at ho;cases ho
  refine zh9 (v:=.ref a) J₇ hN hi (Gm hk) rfl (λs₈ I₈=>?_) (Ru hk);refine wpAny_mono (hs a o6 L6.1 a7 s₈ _ _ (D.off i) I₈.held hsu) (λf s₉ hq=>?_) λ_ _ z=>z.elim;exact SP.offH I.ok hN hi hk hq
 have hq:=SP.untried I.ok hq;cases fl with
 |next=>exact wpAny_pure hq
 |brk=>exact hq
 |cont=>exact hq
 |ret u=>exact hq
def zb4{K:Na}{ob:Obj}(hK:X.K=K)(hp:(a,ob)∈X.pn):YV (.builtin "isinstance") (λxs H Q=>Ex4 λ(C:Nc) (c:V) (u:Value) (b:Bool)=>Aj6 (xs=[Ht,c]) (ob.cls=.ref C) (V1 C) (∀u',RelV c u'→u'=u) (ZV Hw u=some b) (Lq b)):=by subst hK;intro a7 s σ H xs us Q I r h;obtain⟨C,c,u,b,rfl,ha,ci,hc,e,q⟩:=h;obtain⟨u1,u2,rfl,r1,r2⟩:=vals2 r;cases r1;rw[hc _ r2];exact Wr (ex_kit ci) I.kIn ⟨ob,(I.pin (a,ob) L4).1,ha⟩ e (λz=>nomatch z) λtk=>⟨C0,H,I.tok tk,rfl,q⟩
inductive RXp(K:Na)(f:Str)(a:Nc)(ob:Obj)(x:V)(H:Hp)(Q:VK):Prop
 |mk (C HE fI d:Nc) (fs:List (Str×V)) (v:V) (h0:x=.ref a) (hc:ob.cls=.ref C) (hd:ob.dict=some d) (c:ExcI K C HE fI) (k:XAt K C f) (ci:ExI K C) (h:H d=some (XdO d fs)) (l:fs.lookup f=some v) (q:Q v H):RXp K f a ob x H Q
def tXp(K:Na)(a:Nc)(ob:Obj)(ta:TE)(f:Str):TE:=λ σ H Q=>ta σ H λx H1=>RXp K f a ob x H1 Q
def pe_xgetP{K:Na}{ob:Obj}{e:Expr}{f:Str}{pos:Pos}{ta:TE}(hK:X.K=K)(hp:(a,ob)∈X.pn)(hL:LoneO ob)(he:QA e ta)(hb:attributeBase e f X.env Ir=eval e X.env):QA Aq (tXp K a ob ta f):=by subst hK;intro a7 s σ H Q I h;refine attr_of hb (thn Rv λu s1 ⟨x,H1,I1,rx,C,HE,fI,d,fs,v,ex,hc,fA,c,k,ci,hd,l,q⟩=>?_);obtain⟨vs,hv,_⟩:=hL;subst ex;obtain rfl:u=Value.ref a:=rx;have hx:=(I1.pin (a,ob) L4).1;obtain⟨⟨mA,n,r,wi,l0⟩,_⟩:=I1.hok d _ hd;obtain⟨u,hu,ru⟩:=RelO.some_of (v:=v) (o:=mA f) (by rw[←l];exact r f);exact xget I1.kIn hx hc (by unfold PySem.W.notCls;rw[hv]) fA c k ci n hu (handed_of ru) ⟨v,H1,I1.tok _,ru,q⟩
def ziz:entryFor table "proto.unchain" = some Builtin.«proto.unchain»:=entryFor_of_tree (by kernel_rfl)
end
section
variable{prog:Nk}{w:Nn}{A:Np}{E:Nb}{s:Ni}
structure Lone(h:No)(a:Nc):Prop where
 ex:∃o vs,h.get? a=some o∧o.data=.fields vs∧vs[2]?=some .none
def raise_under{α:Type}{Q:α→Shared→Prop}{e a:Nc}{oe:Obj}{ves:Array Value}(hh:A.handled=some Ht)(L:JJ a)(he:s.heap.get? e=some oe)(hde:oe.data=.fields ves)(hs:2<ves.size)(am:a≠e)(hE:E TJ {s with heap:=s.heap.update e (Obj.mapFields λvs=>vs.setIfInBounds 2 Ht)}):ZG (raiseNew TJ) Q E s:=by
 obtain⟨o,vs,ho,hd,h2⟩:=L;have hb:(Value.ref a != Value.ref e)=true:=by show(!(Value.ref a==Value.ref e))=true;rw[beq_eq_false_iff_ne.mpr λz=>am (by injection z)];rfl
 unfold raiseNew;refine wpAny_bind (wpAny_handled ?_);rw[hh];dsimp only;rw[if_pos hb];refine wpAny_bind (Ts (wpAny_runValue (codeAny_builtin ziz ?_)));unfold Builtin.«proto.unchain»;dsimp only;refine wpAny_bind (UW h2 ?_);rw[if_pos FX];refine wpAny_pure ?_;refine wpAny_bind ?_;unfold updateField;refine wpAny_bind (wpAny_load he ?_);rw[hde];dsimp only;rw[if_pos hs];exact wpAny_update he (wpAny_throw hE)
def zgy{h:No}{a:Nc}(L:Lone h a)(o:Obj):Lone (h.push o) a:=let⟨o',vs,e,x⟩:=L.ex;⟨o',vs,LY,x⟩
def ziu{h h':No}{a it:Nc}(L:Lone h a)(hn:a≠it)(k:Mi h h'):Lone h' a:=let⟨o',vs,e,x⟩:=L.ex;⟨o',vs,k a _ hn e,x⟩
def zhk{α:Type}{a:Nc}{Q:α→Shared→Prop}(hh:A.handled=some Ht)(L:JJ a)(hE:∀(x:Nc) (h':No),(∀b o,s.heap.get? b=some o→h'.get? b=some o)→(∃o,h'.get? x=some o∧o.cls=.type "StopIteration")→E RW {s with heap:=h'}) :
  wpAny Ga A (newExc (.type "StopIteration") [] >>= λx=>(raiseNew x:Sem α)) Q E s:=by
 have la:a<s.heap.objs.size:=let⟨_,_,e,_⟩:=L.ex;Qu e;refine wpAny_bind ?_;simp only[newExc,newTuple];refine wpAny_bind (wpAny_newObj_type ?_ (by size_fits));refine wpAny_bind (m:=firstArgMember _ _) (wpAny_of_eq (a:=Value.none) (by simp only[firstArgMember];rfl) ?_);refine wpAny_newObj_type ?_ (by size_fits);have hz:(s.heap.push {cls:=.type "tuple",data:=.seq #[]}).objs.size=s.heap.objs.size+1:=by simp[Heap.push]
 refine raise_under (oe:=_) (ves:=_) hh (zgy (zgy L _) _) RY rfl ?_ ?_ (hE _ _ (λb o e=>?_) ⟨_,Wy _ RY (Kb (Wz rfl _)),Obj.cls_mapFields ..⟩)
 ·simp;lia
 ·exact Zk (by rw[hz];exact Jf la)
 have lb:=Qu e;refine(VQ ?_).trans (QS LY);exact Wd (by rw[hz];exact Jf lb)
def zhv{it a x:Nc}{Q:Option Value→Shared→Prop}{h':No}(c:∃o,h'.get? x=some o∧o.cls=.type "StopIteration")(hQ:Q none {s with heap:=h'}) :
  wpAny Ga A (do if ←isInstance RW (.type "StopIteration") then pure (none:Option Value) else throw RW) Q E {s with heap:=h'}:=
 wpAny_bind (wpAny_isInstance (T:= "StopIteration") (b:=true) c isSubtype_stop (GG hQ))
def zhd{it l a:Nc}{i:Nat}{items:Array Value}{Q:Option Value→Shared→Prop}(hh:A.handled=some Ht)(L:JJ a)(aO:a≠it)(gq:s.heap.IsListIter it l i)(hl:s.heap.IsList l items)(hx:items[i]?=none)(hQ:∀h',Mi s.heap h'→Q none {s with heap:=h'}):ZG LQ Q E s:=by have fG:=gq.typeIs;obtain⟨ob,gb,bJ,kO⟩:=gq;obtain⟨ol,jQ,_,nl,hV⟩:=hl;unfold pyNext;refine wpAny_bind (SU (wpAny_callSpecial?_slot (name:=Str.ofString "__next__") fG slot_listiter_next (wpAny_call_entry slot_listiter_next fG entry_listiter_next ?_ (args_listiter_next _))));refine(wpAny_bind (Bv (x:=.ref l) rfl ?_):ZW _ (field Rr 0 >>= _) _ _ s);refine(wpAny_bind (Bv (x:=.int i 0) rfl ?_):ZW _ (field Rr 1 >>= _) _ _ s);refine(wpAny_bind (N5 ?_):ZW _ (seqItems? Sh >>= _) _ _ s);rw[Ur];dsimp only;rw[hx];refine wpAny_bind (PM (N6 Fr ?_));exact zhk hh (ziu L aO (Xr (Uk ..))) λx h' k c=>zhv (it:=it) (a:=a) c (hQ h' λb o hb e=>k b o (Xr (Uk ..) b o hb e))
def zf9{it l a:Nc}{i:Nat}{items:Array Value}{Q:Option Value→Shared→Prop}(hh:A.handled=some Ht)(L:JJ a)(aO:a≠it)(gq:IsTupIter s.heap it l i)(hl:JU l items)(hx:items[i]?=none)(hQ:∀h',Mi s.heap h'→Q none {s with heap:=h'}):ZG LQ Q E s:=by obtain⟨ob,gb,bJ,kO⟩:=gq;have fG:s.TypeIs Rr "tuple_iterator" :=⟨ob,gb,bJ⟩;obtain⟨ol,jQ,_,nl,hV⟩:=hl;unfold pyNext;refine wpAny_bind (SU (wpAny_callSpecial?_slot (name:=Str.ofString "__next__") fG Uj (XV fG Xw ?_ (Xm _))));refine(wpAny_bind (Bv (x:=.ref l) rfl ?_):ZW _ (field Rr 0 >>= _) _ _ s);refine(wpAny_bind (Bv (x:=.int i 0) rfl ?_):ZW _ (field Rr 1 >>= _) _ _ s);refine(wpAny_bind (N5 ?_):ZW _ (seqItems? Sh >>= _) _ _ s);rw[Ur];dsimp only;rw[hx];refine wpAny_bind (PM (N6 Fr ?_));exact zhk hh (ziu L aO (Xr (Uk ..))) λx h' k c=>zhv (it:=it) (a:=a) c (hQ h' λb o hb e=>k b o (Xr (Uk ..) b o hb e))
def apart_under{t a:Nc}{items:Array Value}{Q:List Value→Shared→Prop}(hh:A.handled=some Ht)(L:JJ a)(ht:JU t items)(hQ:∀h',X6 h'→Q items.toList {s with heap:=h'}):ZG (unpackItems SI items.size none) Q E s:=by
 have nt:t≠s.heap.objs.size:=by obtain⟨o,ho,_⟩:=ht;exact Zk (Qu ho)
 have na:a≠s.heap.objs.size:=by obtain⟨⟨o,_,ho,_⟩⟩:=L;exact Zk (Qu ho)
 unfold unpackItems notIterableAtAll;refine wpAny_bind (RH (wpAny_specialOf ht.typeIs slot_tuple_iter.lookup (wpAny_pure ?_)));rw[if_neg Fr];refine wpAny_bind (Ts (iter_tuple ht ?_));refine wpAny_bind (wpAny_holding (draw_tuple nt items.size 0 _ _ ⟨_,RY,rfl,rfl⟩ (ht.push _) Fs λh1 it1 k1=>?_));rw[List.drop_zero,Qm Fr,if_neg Fr];refine wpAny_bind (wpAny_holding (zf9 hh (ziu (zgy L _) na k1.extBut) na it1 ((ht.push _).extBut k1.extBut nt) Fr λh2 k2=>?_));rw[if_neg Fr];exact wpAny_pure (hQ h2 λb o hb e=>k2 b o hb (k1.extBut b o hb LY))
def assign_under{env:Env}{elts:Nq}{x1}{pos:Pos}{t a:Nc}{items:Array Value}{Q:Unit→Shared→Prop}(hh:A.handled=some Ht)(L:JJ a)(ht:JU t items)(hn:(assignEach elts env).length=items.size)(ax:(assignEach elts env).findIdx? (·.1)=none)(h:∀h',X6 h'→ZG (assignInOrder ((assignEach elts env).map (·.2)) items.toList) Q E {s with heap:=h'}) :
  wpAny Ga A (assign (.Tuple elts x1 pos) env SI) Q E s:=by
 rw[assign_Tuple];refine wpAny_bind (wpAny_standAt ?_);unfold unpack;rw[hn,ax];exact wpAny_bind (Ts (apart_under hh L ht h))
end
structure TurnU(P:Nk)(w:Nn)(K:Na)(tg:Expr)(J:It)(fp:Nl)(it:Nc)(tn:Nat→Heap→Prop):Prop where
 obj:∀i h,tn i h→∀b∈fp,∃o,h.get? b=some o∧∀v,o.data≠.cell v
 keep:∀i h h',tn i h→(∀b∈fp,∀o,h.get? b=some o→h'.get? b=some o)→tn i h'
 item:∀(X:Cx),X.prog=P→X.w=w→X.K=K→Under X→∀(i:Nat) (a7:Nd) (s:Ni) (σ:St) (H:Hp) (E:Nb),ZA H s→(∀b∈fp,QL b)→tn i s.heap→Dm H →
  wpAny Sr X.A LQ (λr s1=>∃u,r=some u ∧
   wpAny Sr X.A LJ (λ_ s2=>∃x H',ZA H' s2∧WM u∧B8 H'∧tn Gr s2.heap∧∀b∈fp,H' b=none) E s1) E s
 done:∀(X:Cx),X.prog=P→X.w=w→X.K=K→Under X→∀(i:Nat) (a7:Nd) (s:Ni) (σ:St) (H:Hp) (E:Nb),ZA H s→(∀b∈fp,QL b)→tn i s.heap→VH H →
  wpAny Sr X.A LQ (λr s1=>r=none∧ZA H s1) E s
 self:∀(A:Np) (i:Nat) (s:Ni) (Q:Nb) (E:Nb),tn i s.heap→Q Rr s→BL s
inductive PIEU(X:Cx)(a7:Nd)(σ:St)(tg:Expr)(R:It→Hp→Prop)(itv:Value)(s2:Ni):Prop
 |mk (it:Nc) (fp:Nl) (tn:Nat→Heap→Prop) (J:It) (H':Hp) (h0:itv=.ref it) (h1:Inv X a7 σ H' s2) (h2:TurnU X.prog X.w X.K tg J fp it tn) (h3:tn 0 s2.heap) (h4:(∀b∈fp,FpOk X a7 H' b)) (h5:R J H'):PIEU X a7 σ tg R itv s2
def PIU(X:Cx)(tg iter:Expr)(wi:TI):Prop:=
 ∀(a7:Nd) (s:Ni) (σ:St) (H:Hp) (R:It→Hp→Prop),ZA H s→wi σ H R →
  wpAny FE X.A LR (λv s1=>ZF (pyIter v) (PIEU X a7 σ tg R) X.xe s1) X.xe s
def lone_of{X:Cx}{a7:Nd}{σ:St}{H:Hp}{s:Ni}{a:Nc}{o:Obj}(I:Gj)(hp:(a,o)∈X.pn)(L:LoneO o):JJ a:=
 let⟨vs,hd,h2⟩:=L
 ⟨o,vs,(I.pin (a,o) L4).1,hd,h2⟩
theorem turn_listU{P:Nk}{w:Nn}{K:Na}{tg:Expr}(a it:Nc):TurnU P w K tg Pq [it] it (λi h=>h.IsListIter it a i) where
 obj:=(zek (P:=P) (w:=w) (K:=K) (tg:=tg) a it).obj
 keep:=(zek (P:=P) (w:=w) (K:=K) (tg:=tg) a it).keep
 self:=(zek (P:=P) (w:=w) (K:=K) (tg:=tg) a it).self
 item:=by intro X hP hw hK hc i a7 s σ H E I hf st hg;subst hP hw hK;obtain⟨xs,x,hq,hx⟩:=hg;obtain⟨a8,rv,p,hz⟩:=I.list hq;obtain⟨u,hu,ru⟩:=rv.get hx;obtain⟨f0,f1,f2,f3,f4,f5⟩:=hf it Fr;refine Bm p.isList (x:=u) (Fv hu) λh' a9 sb=>?_;have I1:ZA H {s with heap:=h'}:=I.turned (t':=s.toks) (λb o hb e=>(sb.2 b hb).trans e) f0 f1 f3 f4 f5;obtain⟨o,e,c,d⟩:=id a9;exact⟨u,rfl,go_of (s:={s with heap:=h'}) e c d Fw ⟨x,H,I1,ru,⟨rfl,λys hy=>by rw[I.list_inj hy hq];exact hx⟩,a9,λb hb=>(hf b hb).1⟩⟩
 done:=by intro X hP hw hK hc i a7 s σ H E I hf st hg;subst hP hw hK;obtain⟨xs,hq,hx⟩:=hg;obtain⟨a8,rv,p,hz⟩:=I.list hq;obtain⟨f0,f1,f2,f3,f4,f5⟩:=hf it Fr;have hl:=rv.length;obtain⟨e,o,hh,hp,L⟩:=hc;exact zhd hh (lone_of I hp L) (λz=>f5 (e,o) L4 z) st p.isList (by simp;lia) λh' eb=>⟨rfl,I.turned (t':=s.toks) (λb o hb e=>eb b o hb e) f0 f1 f3 f4 f5⟩
section
variable{X:Cx}{tg:Expr}{pos:Pos}
def pi_listU{K:Na}{l:Expr}{tl:TE}(hK:X.K=K)(hl:OP):PIU X tg l (iList K tl):=by
 subst hK;intro a7 s σ H R I h;refine thn SH λv s1 ⟨x,H1,I1,r1,q1⟩=>?_;obtain⟨a,e,⟨xs,hq⟩,q⟩:=q1;subst e;cases r1;obtain⟨a8,rv,p,hz⟩:=I1.list hq;refine VI ?_;refine⟨s1.heap.objs.size,[s1.heap.objs.size],_,_,H1,rfl,I1.kept (t':=s1.toks) λb o e=>QS e,turn_listU a _,⟨_,RY,rfl,rfl⟩,λb hb=>?_,q⟩;have e:b=s1.heap.objs.size:=by simpa using hb
 subst e;exact J7 SA
def pg_tupU{K:Na}{es:Nq}{k:Nat}{t:TGs}{n:Nat}(hK:X.K=K)(hc:Under X)(h:ND t)(hn:(Sc es).length=n:=by rfl)(ax:(Sc es).findIdx? (·.1)=none:=by rfl):BK (gTup K n t):=by subst hK;intro a7 s σ H v u Q I r hw;obtain⟨a,xs,e1,hq,hl,hw⟩:=hw;subst e1;cases r;obtain⟨a8,rv,ht,hz⟩:=I.tuple hq;obtain⟨e,o,hh,hp,L⟩:=hc;refine assign_under hh (lone_of I hp L) (ht:IsTup _ _ _) (by simp[hn,←hl,rv.length]) ax λh' hx=>?_;have I1:ZA H {s with heap:=h'}:=I.kept (t':=s.toks) λb o e=>hx b o Ec e;exact h a7 _ σ H xs _ Q I1 (Fv rv) hw
variable{sc:Scope}{oz:Option Str}{M:Nh}{ix:Nu}{a7:Nd}{σ:St}{H:Hp}{s:Ni}{elt iter:Expr}{ifs:Nq}{g:TG}{tc:TT}{te:TE}{wi:TI}
def under_blk{C:Nc}{ex:Nl}(hc:Under X):Under (Z6 H):=
 let⟨a,o,hh,hp,L⟩:=hc
 ⟨a,o,hh,L4,L⟩
def lc_blockU{fp:Nl}{it:Nc}{tn:Nat→Heap→Prop}{J:It}{Q:VK}{RR:Value→Addr→Result→Shared→Prop}{E:Nb}(B:J' ix)(hc:Under X)(hg:∀C ex s H,MS g)(ht:∀C ex s H,VT tc)(he:∀C ex s H,Mv te)(I:Gj)(T:TurnU X.prog X.w X.K tg J fp it tn)(h0:IW)(hf:∀b∈fp,QL b)(q:YJ H)(kY:Hh) :
  wpAny FE X.A (newList []) (λaj s₃=>ZF GV (λcenv s₄=>codeAny FE X.A (.compStart F' 0 Rr aj {cenv with scope:=relabel sc X.env}) Lg s₄) E s₃) E s:=by
 refine wpAny_newObj_type (zhq B.one B.psh ?_);dsimp only;generalize hD:s.heap.objs.size=D;generalize fB:s.heap.push {cls:=.type "list",dict:=none,data:=.seq ([]:List Value).toArray}=g2;generalize kI:VS (g2.push {cls:=.type "dict",data:=.dict #[]})=h₁;have kp:∀(q:No) (b:Nc) (o:Obj),q.get? b=some o→(VS q).get? b=some o:=λq b o e=>by
  cases oz with
  |none=>exact e
  |some _=>exact QS e
 have hns₁:h₁.Ns g2.objs.size (λ_=>none):=kI▸(Heap.Ns.new g2 (.type "dict")).keeps λb o e=>kp _ b o e;have hz₁:∀z,oz=some z→h₁.IsCell (g2.objs.size+1) none:=λz ez=>by have e:(g2.push {cls:=.type "dict",data:=.dict #[]}).objs.size=g2.objs.size+1:=Wv ..;rw[←kI,←e,ez];exact⟨_,RY,rfl⟩
 have hC:g2.objs.size=D+1:=by rw[←fB,Wv,hD]
 have k2:∀b o,s.heap.get? b=some o→g2.get? b=some o:=λb o e=>by rw[←fB];exact QS e
 have I3:ZA H {s with heap:=g2}:=I.kept (t':=s.toks) k2;have HD:H D=none:=I.hok.fresh (by rw[hD];exact Qh _);have fD:QL D:=I.fpOk (by rw[hD];exact Qh _) HD;have D2:g2.get? D=some {cls:=.type "list",dict:=none,data:=.seq ([]:List Value).toArray}:=by rw[←fB,←hD];exact UN rfl
 have k1:∀b o,g2.get? b=some o→h₁.get? b=some o:=λb o e=>kI▸kp _ b o LY;have fpx:∀b∈D::fp,QL b:=λb hb=>by
  rcases Qi.mp hb with e|e
  ·rw[e];exact fD
  exact hf b e
 have fplt:∀b∈D::fp,b<g2.objs.size:=λb hb=>by
  rcases Qi.mp hb with e|e
  ·rw[e,hC];exact Yr _
  obtain⟨o,q,_⟩:=WX h0 b e;exact Qu (k2 b o q)
 have fpD:D∉fp:=λhm=>by obtain⟨o,q,_⟩:=WX h0 D hm;have:=Qu q;rw[hD]at this;exact Yy _ this
 generalize ap:Vn (D::fp) {s with heap:=g2} H=Y;have IY:JQ [] Ik H {s with heap:=h₁,toks:=s.toks+([]:List (Str×Value)).length}:=by rw[←ap];exact BT rfl
 have Yg:=ap▸hg g2.objs.size (D::fp) {s with heap:=g2} H;have Yt:=ap▸ht g2.objs.size (D::fp) {s with heap:=g2} H;have Ye:=ap▸he g2.objs.size (D::fp) {s with heap:=g2} H;have eP:Y.prog=X.prog:=by rw[←ap];rfl
 have eW:Y.w=X.w:=by rw[←ap];rfl
 have eK:Y.K=X.K:=by rw[←ap];rfl
 have eA:Y.A=X.A:=by rw[←ap];rfl
 have eC:Under Y:=by rw[←ap];exact under_blk hc
 have eE:Y.env=compEnvC sc (JR SJ) g2.objs.size X.env:=by rw[←ap];rfl
 have eX:Y.xe=λ_ _=>False:=by rw[←ap];rfl
 have eEx:Y.ex=D::fp:=by rw[←ap];rfl
 have eFs:Y.fs=frs X.stack:=by rw[←ap];rfl
 have ePn:Y.pn=X.pn++a7:=by rw[←ap];rfl
 have eL:Y.env.locals=g2.objs.size:=by rw[eE];rfl
 have pz:Y.H₀=H:=by rw[←ap];rfl
 have jc:Y.s₀={s with heap:=g2}:=by rw[←ap];rfl
 have fY:∀{H':Hp} {pl:Nd} {b:Nc},b∈D::fp→H' b=none→(∀p∈pl,p.1≠b)→MT pl H' b:=λ{H' pl b} hb hn hp=>by
  obtain⟨f0,f1,f2,f3,f4,f5⟩:=fpx b hb;refine⟨hn,?_,?_,.inl LS,NL LS |>.2,λp cU=>?_⟩
  ·rw[eL];exact Zk Ax
  ·rw[eFs];intro z;rcases Qi.mp (NM z) with q|q
   ·exact f1 q
   exact f2 q
  rw[ePn]at cU;rcases Qg.mp cU with z|z
  ·exact f5 p z
  exact hp p z
 obtain⟨W,⟨m0,w0⟩,turn⟩:=q;have loop:∀ sN:Shared,sN={ s with heap:=h₁,toks:=s.toks+([]:List (Str×Value)).length } →
   codeAny FE X.A Tj CO sN:=by
  rintro sN rfl;refine zfv (λn s'=>Ex6 λi τ H' ys a8 k=>Aj7 (JQ [] τ H' s') CK (∀b∈D::fp,H' b=none) (s'.heap.get? D=some {cls:=.type "list",data:=.seq (a8:Nj).toArray k}) (Y2 a8) (ys.length≤sizeLine) Iv) ?_ m0
   ⟨0,Ik,H,[],[],0,IY,Q1 h0 λb _ o e=>k1 b o Cf,λb hb=>(fpx b hb).1,k1 _ _ D2,.nil,Sv,w0⟩
  rintro n s5 ⟨i,τ,H5,ys,a8,k,I5,t5,n5,d5,v5,z5,w5⟩;have oD:∀{s':Ni} {its':Nj} {k':Nat},s'.heap.get? D=some {cls:=.type "list",data:=.seq its'.toArray k'}→∀b∈[D],∃o,s'.heap.get? b=some o∧∀v,o.data≠.cell v:=λ{s' its' k'} e b hb=>by rw[Qd.mp hb];exact⟨_,e,λv z=>by cases z⟩
  have i8:JQ ([]++zca [D] s5.heap) τ H5 s5:=I5.pinned (λb hb=>fY (by rw[Qd.mp hb];exact Qc) (n5 b (by rw[Qd.mp hb];exact Qc)) Fr) (oD d5);have pD:∀p∈zca [D] s5.heap,p.1=D∧p.2={cls:=.type "list",data:=.seq a8.toArray k}:=λp hp=>by obtain⟨e1,e2⟩:=zex hp;have cZ:p.1=D:=Qd.mp e1;rw[cZ,d5]at e2;exact⟨cZ,(Qq e2).symm⟩
  have fN:∀{H':Hp},(∀b∈fp,H' b=none)→∀b∈fp,MT ([]++zca [D] s5.heap) H' b:=λhn b hb=>fY Tr Ab λp hp z=>by rw[Kg]at hp;rw[(pD p hp).1]at z;exact fpD (z▸hb)
  rcases K0 w5 with⟨stop,qn⟩|⟨go,zl,step⟩
  ·have h6:=UO (λ_ _=>False) i8 (fN λb hb=>n5 b Tr) t5 stop;rw[eA]at h6;refine thn h6 λr s6 ⟨hr,I6⟩=>?_;subst hr;have d6:s6.heap.get? D=some {cls:=.type "list",data:=.seq a8.toArray k}:=by have hp:=zbo (fp:=[D]) Ss d5;exact(I6.pin (D,_) (YT hp)).1
   have H5D:H5 D=none:=n5 D Qc;obtain⟨mL,nL,_⟩:=I6.loc;rw[eL]at nL;have CD:g2.objs.size≠D:=by rw[hC];exact Xy _
   refine kY D _ mL ys H5 s6 ?_ (qn D H5D) nL ?_ (by rw[hC,hD];exact Yr _)
   ·have u6:=I6.base;rw[eFs,eEx,pz,jc]at u6;refine I3.call' (ch:=D::fp) (I6.os.trans (by rw[jc])) ⟨u6.keep,u6.slot,λb o e n hx=>?_,u6.there,λb xs e=>?_,λb o u e=>?_,λb ps e=>?_⟩ ?_ I6.bare λb hb=>?_
    ·rw[zaf (λz=>hx C4)];exact u6.free b o e n hx
    ·rw[zaf Cg];exact u6.tups b xs e
    ·rw[zaf Cg];exact u6.frzs b o u e
    ·rw[zaf Cg];exact u6.tbls b ps e
    ·have iK:=I6.hok;rw[eP,eW]at iK;intro b u e;by_cases hb:b=D
     ·subst hb;rw[zab]at e;cases e;exact⟨z5,a8,k,v5,d6⟩
     rw[IK]at e;exact(iK b u e).stay (λc v _ q=>q) (λc q=>by rw[zaf ET];exact q) λc xs q=>by rw[zaf ET];exact q
    obtain⟨f0,f1,f2,f3,f4,f5⟩:=fpx b hb;exact⟨f3,f1,f4,f5⟩
   rw[zaf CD];have:=I6.free;rw[eL]at this;exact this
  have h6:=UP (λ_ _=>False) i8 (fN λb hb=>n5 b Tr) t5 go;rw[eA]at h6;refine thn h6 λr s6 ⟨u,hr,h7⟩=>?_;subst hr;refine thn h7 λ_ s7 ⟨x,H7,I7,r7,y7,t7,n7⟩=>?_;have pB:=K1 (WX t7);have h8:=Yg _ s7 τ H7 x u _ pB r7 (Fe y7);rw[eP,eW,eA,eX,eE]at h8;refine thn h8 λ_ s8 ⟨τ8,H8,I8,q8⟩=>?_;have h9:=Yt _ s8 τ8 H8 _ I8 q8;rw[eP,eW,eA,eX,eE]at h9;refine thn h9 λok s9 ⟨H9,I9,q9⟩=>?_;have again:∀{τ':St} {H':Hp} {s':Ni},JQ (([]++zca [D] s5.heap)++VJ s7.heap) τ' H' s'→s'.heap.get? D=some {cls:=.type "list",data:=.seq a8.toArray k}∧H' D=none∧tn Gr s'.heap∧∀b∈fp,H' b=none:=λ{τ' H' s'} I'=>by
   have pp:∀{b:Nc} {o:Obj},b∈fp→s7.heap.get? b=some o→s'.heap.get? b=some o∧H' b=none:=λ{b o} hb e=>
    let z:=I'.pin (b,o) TF
    ⟨z.1,z.2.1⟩
   have hp:=zbo (fp:=[D]) Ss d5;have z:=I'.pin (D,_) (YT L4);refine⟨z.1,z.2.1,Q1 t7 λb hb o e=>(pp hb e).1,λb hb=>?_⟩;obtain⟨o,e,_⟩:=WX t7 b hb;exact(pp hb e).2
  have drop:∀{pl:Nd} {τ':St} {H':Hp} {s':Ni},JQ pl τ' H' s'→JQ [] τ' H' s':=λI'=>I'.pins_of Fr;cases ok with
  |false=>rw[if_neg Fw]at q9 ⊢;obtain⟨m',hm,w9⟩:=q9;obtain⟨d9,H9D,t9,n9⟩:=again I9;exact⟨m',hm,i+1,τ8,H9,ys,a8,k,drop I9,t9,λb hb=>(O9 hb).elim (λe=>e▸H9D) (n9 b),d9,v5,z5,w9⟩
  | true=>
   rw[if_pos rfl]at q9 ⊢;have i5:=Ye _ s9 τ8 H9 _ I9 q9;rw[eP,eW,eA,eX,eE]at i5;refine thn i5 λy dF ⟨yv,dw,lj,lp,m',hm,qK⟩=>?_;obtain⟨lc,H10D,qV,rq⟩:=again lj;refine call_meets F.slot_list_append ⟨_,lc,rfl⟩ F.entry_list_append (BM _) (KD (by rw[Qp,←v5.length];assumption)) ⟨lc,?_⟩;have q:=Da (λa=>a.push y);have uq:AZ=(a8++[y]).toArray:=by simp
   rw[uq]at q;have kk:∀b o,b≠D→dF.heap.get? b=some o→(dF.heap.update D (Obj.mapSeq λa=>a.push y)).get? b=some o:=λb o hb e=>(Yi dF.heap (Obj.mapSeq λa=>a.push y) IQ).trans e;obtain⟨g0,g1,g2',g3,g4,g5⟩:=fY (pl:=[]) (H':=dw) (b:=D) Qc H10D Fr;have lW:=(drop lj).turned (h':=dF.heap.update D (Obj.mapSeq λa=>a.push y)) (t':=dF.toks) (it:=D) kk H10D g1 g3 g4 g5;exact⟨m',hm,i+1,τ8,dw,ys++[yv],a8++[y],_,lW,Q1 qV λb hb o e=>kk b o (λz=>fpD (z▸hb)) e,λb hb=>(O9 hb).elim (λe=>e▸H10D) (rq b),q,v5.append (HY lp),
    by rw[Qk,Wk];assumption,qK⟩
 exact codeAny_compStart_list EU (Ve (Q1 h0 λb _ o e=>k1 b o Cf) EU)
def pe_lcU(B:YX ix)(hc:Under X)(hi:PIU X tg iter wi)(hg:∀C a7 ex s H,JX g)(ht:∀C a7 ex s H,UU tc)(he:∀C a7 ex s H,J0 elt te)(hs:∀x,foldedSetIterable iter X.env x=pure x:=by intro _;rfl):QA F' (XC te):=by intro a7 s σ H Q I h;rw[eval_ListComp];refine wpAny_comprehension_free (use:=none) rfl hs (zcc (B.g.clos I)) B.g.kind B.g.names (thn Sd λv s1 h1=>thn h1 λitv s2 h2=>?_);obtain⟨it,fp,tn,J,H2,e,I2,T,aH,f2,q⟩:=h2;subst e;refine lc_blockU (oz:=none) (RR:=λaj C=>compPost FE X.A X.xe none Tl aj C) B.g hc (hg · a7) (ht · a7) (he · a7) I2 T aH f2 q ?_;intro D C m ys H' s' I' q' hn hC ad;refine⟨m,hn,λh' cQ=>⟨HQ,_,Bn cQ,rfl,q'⟩⟩
end
end L2
namespace K21
open PySem L2 Wb PySem.W
abbrev sTold:Stmt:=top 40
structure KW(K:Na)(he:Nc)(cc:Cls4)(cp c:Nc)(wd:Str):Prop where
 ex:V1 c
 em:exmOne K Oz (Fu he)=some true
 k1:kitOne K Oz CZ=some (decide (wd = "name"))
 k2:kitOne K Oz CW=some (decide (wd = "twice"))
 k3:kitOne K Oz Ld=some (decide (wd = "way"))
 k4:kitOne K Oz CY=some (decide (wd = "flat"))
 k5:kitOne K Oz (Fu cp)=some false
 kv:kitOne K Oz (.type "ValueError")=some true
 wo:wd = "name" ∨ wd = "twice" ∨ wd = "way" ∨ wd = "flat"
inductive Tells(rs:List Ro):List Str→Prop
 |nm (h:rs.all okR=false):Tells rs ["name"]
 |tw (es:List Ent) (h:rs.all okR=true) (hE:RwE rs es) (h2:twOk es=false):Tells rs ["twice"]
 |ow (es:List Ent) (p:Str×Str) (h:rs.all okR=true) (hE:RwE rs es) (h2:twOk es=true) (h3:(zb0 es).find? (zcl es)=some p):Tells rs ["way",p.1,p.2]
 |fl (es:List Ent) (h:rs.all okR=true) (hE:RwE rs es) (h2:twOk es=true) (h3:(zb0 es).find? (zcl es)=none) (cs:List (List (Str×Str))) (lab:Nx) (hC:Cert (es.map (·.1)) (row (rsOf es)) cs lab) (ts es2:List Ent) (fc zss:List (List Str)) (Ls:List (List (Str×Str))) (a1:es2.Perm es) (a2:zh0 ts es2) (a3:fc.Perm ((zcv ts).map sing++Ls.map nmL)) (a4:zbf (row (rsOf ts)) Ls) (a5:∀zs∈zss,zdt (ts.map (·.1)) lab zs) (a6:InRow (ts.map (·.1)) zss):Tells rs [if((zss.map (zbm (row (rsOf ts)) fc)).find? badT).isSome then "flat" else "made"]
inductive IspTold(vs:List V)(H:Hp)(Q:VK):Prop
 |mk (l:Nc) (as:Nl) (rs:List Ro) (h0:vs=[.ref l]) (h2:RoAt H l as rs) (h3:rs.length≤40) (h4:∀r∈rs,OddR H r) (h6:∀(t:Nc) (ws:Nh) (H':Hp),Tells rs ws→H' t=some (.tup (ws.map V.str))→Keep [] H H'→Q (.ref t) H'):IspTold vs H Q
def spTold:Sp:=λvs H Q _=>IspTold vs H Q
def ndTo:(["_law_word", "_law_truth"]:List Str).Nodup:=by decide+kernel
section
variable{P:Nk}{w:Nn}{K:Na}{mg:Ng}{base:No}{C he cp:Nc}{cc:Cls4}
def zfp:zar ["_law_rows_here", "_law_told_here", "e", "_law_some"] ["_law_rows_here"] (zaj sTold):=fsk
def ok_told(F:Z1 "_law_told" "_law_told" sTold f fd)(mE:mg "HueError" = some (Fu he))(m1:mg "NoName" = some CZ)(m2:mg "Twice" = some CW)(m3:mg "OneWay" = some Ld)(m4:mg "NotFlat" = some CY)(m5:mg "NoPlace" = some (Fu cp))(bi:mg "isinstance" = none)(hve:mg "ValueError" = none)(jz:mg "tuple" = none)(w1:By cc.c1 "name")(w2:By cc.c2 "twice")(w3:By cc.c3 "way")(w4:By cc.c4 "flat")(cN:ExcI K cc.c3 he fc0)(a1:XAt K cc.c3 "one")(a2:XAt K cc.c3 "other")(mk:Mk K C fi)(bI:Z3 fdi ["self", "rows"] [])(mW:mg "Web" = some Hw)(GI:ZC Ly 4 fi fdi ["self", "rows"] (spInit C cc)):ZB 6 f fd ["_law_rows_here"] spTold:=by
 refine F.okL zfp (λcdv A outer s0 H vs Q E hr h=>?_);obtain⟨l,as,rs,rfl,R,gR,aZ,k⟩:=h;have aJ:=sizeLine_eq;refine⟨_,zae (X1 zfp.nd (zbd Tu))
  (zae (ps_tryP (i:=2) (EX:=λ_ cls dd H'=>∃ (c:Nc) (wd:Str) (tl:Nh),cls=.ref c∧By c wd∧Tells rs (wd::tl)∧Keep [] H H'∧(wd ≠ "way" → tl=[])∧(wd = "way" → c=cc.c3∧∃ (d:Nc) (p:Str×Str),dd=some d∧H' d=some O4∧tl=[p.1,p.2])) rfl rfl rfl
   (λE' pn hp=>zag (za2 (pe_make mk GI hr rfl mW bI .nil (λa7 σ=>hp a7 σ) Re)))
   (λe o L=>zae (JI zfp.nd (za1 (zaa (SW (Ey (zea (v:=.ref cc.c1) FX m1 rfl)))
    (zaa (SW (Ey (zea (v:=.ref cc.c2) FX m2 rfl)))
    (zaa (SW (Ey (zea (v:=.ref cc.c3) FX m3 rfl))) zad)))))
    (zae (JI zfp.nd (W9 HF (za1 (zaa (SW (Ey (zea (v:=.ref cc.c4) FX m4 rfl)))
     (zaa (SW (Ey (zea (v:=.ref cp) FX m5 rfl))) zad)))))
    (zae (X1 zfp.nd (zcb (by exact ze7) FX jz PyProof.Rows.boot_tuple (zaa (pe_lcU (M:=["_law_word", "_law_truth"]) (ix:=[none,none]) (mkB zfp) (zhi L) (pi_listU (K:=K) rfl HF) (λC a7 ex s H=>pg_tupU (K:=K) (n:=2) rfl (by exact under_blk (zhi L)) (zat (JH ndTo) (LA (X0 ndTo))))
     (λC a7 ex s H=>zdo (zeu RK)) (λC a7 ex s H=>pv 0)) zad)))
    (zae (Ep (zeu (RG (ZY (Hf (zea (v:=.ref cc.c3) FX m3 rfl))))) (zag (X1 zfp.nd (zaq (by exact op_catT) RK (zbd (zaa (pe_xgetP (K:=K) rfl Qc L RM rfl) (Hf (pe_xgetP (K:=K) rfl Qc L RM rfl))))))))
    (zag (Ep (zfs (zeu (RG (ZY (Hf (pe_tyN (T:= "ValueError") rfl hve PyProof.Rows.Boot.«ValueError»)))))) (zag ps_no)))))))
   zfp.nd rfl rfl rfl mE)
  (zag (AE RK))),?_⟩
 refine⟨SK,λt0 ft0=>?_⟩;generalize qH0:ZU t0 _=H0;obtain⟨k0,fP⟩:=nwk ft0 qH0;refine⟨⟨A5,λx dx fx fdx ne=>?_⟩,?_⟩
 ·have k1:Keep [] H0 (upd (Ij H0 dx CH) x (.ins C dx [])):=λb u e _=>by rw[zaf (BE fx),zaf (BE fdx)];exact e
  refine⟨x,dx,l,as,rs,rfl,zab,(R.keep k0).keep k1,gR,λr hr=>((aZ r hr).keep k0).keep k1,λH' kk=>?_⟩;have kH:Keep [] H H':=λb u e hb=>kk b u (k1 b u (k0 b u e Fr) Fr) (by have:=k0 b u e Fr;simpa using zac this fx);refine⟨λhn=>⟨_, "name",[],rfl,w1,.nm hn,kH,λ_=>rfl,λz=>absurd z Fw⟩,λes af hE=>⟨λbY=>⟨_, "twice",[],rfl,w2,.tw es af hE bY,kH,λ_=>rfl,λz=>absurd z Fw⟩,λbY=>⟨λp hp d hd=>?_,λqj cs lab hC ts es2 fc zss Ls b1 b2 b3 b4 b5 b6=>?_⟩⟩⟩
  ·exact⟨_, "way",[p.1,p.2],rfl,w3,.ow es p af hE bY hp,kH,λz=>absurd rfl z,λ_=>⟨rfl,d,p,rfl,hd,rfl⟩⟩
  have tl:=Tells.fl es af hE bY qj cs lab hC ts es2 fc zss Ls b1 b2 b3 b4 b5 b6;refine⟨λhz=>⟨rfl,_,rfl,?_⟩,λt ht d hd=>⟨_, "flat",[],rfl,w4,?_,kH,λ_=>rfl,λz=>absurd z Fw⟩⟩
  ·rw[hz]at tl;exact k t0 ["made"] H' tl (kk _ _ (k1 _ _ fP Fr) (by simpa using zac fP fx)) kH
  rw[ht]at tl;exact tl
 rintro σ' H1 e o hl ⟨c,wd,tl,bJ,kw,tel,k1,rW,rV⟩ na;obtain⟨x0,x1,x2,x3,rfl⟩:∃x0 x1 x2 x3,σ'=[x0,x1,x2,x3]:=by
  match σ',hl with
  |[x0,x1,x2,x3],_=>exact⟨_,_,_,A5⟩
 refine⟨by rw[bJ];exact kw.em,?_⟩;have two:2≤sizeLine:=by decide
 refine⟨A5,c,CZ,CZ,A5,bJ,kw.ex,λ_ h=>h,kw.k1,two,λt1 f1=>?_⟩;generalize jh:QI t1 _=H2;obtain⟨q1,g1⟩:=nwk f1 jh;refine⟨A5,c,CW,CW,A5,bJ,kw.ex,λ_ h=>h,kw.k2,two,λt2 f2=>?_⟩;generalize mf:WD t2 _=H3;obtain⟨q2,g2⟩:=nwk f2 mf;refine⟨A5,c,Ld,Ld,A5,bJ,kw.ex,λ_ h=>h,kw.k3,two,λt3 f3=>?_⟩;generalize fE:WK t3 _=H4;obtain⟨q3,g3⟩:=nwk f3 fE;refine⟨(Ft 3),λu zu=>?_⟩;generalize ic:QJ u _=H5;obtain⟨q4,gu⟩:=nwk zu ic;refine⟨A5,?_⟩;refine⟨A5,c,CY,CY,A5,bJ,kw.ex,λ_ h=>h,kw.k4,two,λt4 f4=>?_⟩;generalize jg:QF t4 _=H6;obtain⟨q5,g4⟩:=nwk f4 jg;refine⟨A5,c,Fu cp,Fu cp,A5,bJ,kw.ex,λ_ h=>h,kw.k5,two,λt5 f5=>?_⟩;generalize me:U9 t5 _=H7;obtain⟨q6,g5⟩:=nwk f5 me;refine⟨two,λv zv=>?_⟩;generalize qH8:JP v _=H8;obtain⟨q7,gv⟩:=nwk zv qH8;have s58:Keep [] H5 H8:=(q5.trans q6).trans q7;refine⟨u,v,_,A5,rfl,s58 _ _ gu Fr,gv,(Ft 5),λy zy=>?_⟩;have q8:Keep [] H8 (UX y (FJ ([Fu t1,Fu t2,Fu t3]++[Fu t4,Fu t5]))):=Keep.new zy;have gy:(UX y (FJ ([Fu t1,Fu t2,Fu t3]++[Fu t4,Fu t5]))) y=some (.lst [Fu t1,Fu t2,Fu t3,Fu t4,Fu t5]):=zab;generalize UX y (FJ ([Fu t1,Fu t2,Fu t3]++[Fu t4,Fu t5]))=H9 at q8 gy;have s59:Keep [] H5 H9:=s58.trans q8;have pH:Keep [] H4 H9:=q4.trans s59;have s19:Keep [] H1 H9:=((q1.trans q2).trans q3).trans pH;refine⟨A5,y,rfl,⟨_,FH gy⟩,lc_words (as:=[t1,t2,t3,t4,t5]) (ps:=[("name",decide (wd = "name")),("twice",decide (wd = "twice")),("way",decide (wd = "way")),("flat",decide (wd = "flat")),("place",false)]) (λ τ=>∃x0 x1,τ=[x0,x1]) (FH gy) ?_ (Ft 5) ⟨none,none,rfl⟩ ?_ λD hD=>?_⟩
 ·exact .cons (II ((q2.trans q3).trans pH) g1) (.cons (II (q3.trans pH) g2) (.cons (pH _ _ g3 Fr) (Ez (((q6.trans q7).trans q8) _ _ g4 Fr) (HY ((q7.trans q8) _ _ g5 Fr)))))
 ·rintro b w t hb τ ⟨x0,x1,rfl⟩ mx my h1 h0;refine⟨b,A5,HV hb,rfl,_,A5,_,A5,rfl,A5,?_⟩;cases t with
  |true=>exact⟨A5,iteT ⟨A5,h1 rfl _ ⟨_,A5⟩⟩⟩
  |false=>exact⟨A5,iteF (h0 rfl _ ⟨_,A5⟩)⟩
 have ef:([("name",decide (wd = "name")),("twice",decide (wd = "twice")),("way",decide (wd = "way")),("flat",decide (wd = "flat")),("place",false)]:List (Str×Bool)).filter (·.2)=[(wd,true)]:=by rcases kw.wo with rfl|rfl|rfl|rfl<;>decide+kernel
 rw[ef];rw[show(([(wd,true)]:List (Str×Bool)).map λp=>V.str p.1)=[V.str wd] from rfl];refine⟨D,[Aj],rfl,.inl ⟨LN,λtp ftp=>?_⟩⟩;have q9:Keep [] H9 (Ij (Vj D (.lst [Aj])) tp (.tup [Aj])):=(FM hD).trans (FM ftp);have gt:(Ij (Vj D (.lst [Aj])) tp (.tup [Aj])) tp=some (.tup [Aj]):=zab;generalize upd (Vj D (.lst [Aj])) tp (.tup [Aj])=dw at q9 gt;have s1:Keep [] H1 dw:=s19.trans q9;refine⟨A5,c,Ld,Ld,A5,bJ,kw.ex,λ_ h=>h,kw.k3,A5,?_⟩;have fin:∀(t:Nc) (H':Hp),H' t=some (CF ((wd::tl).map V.str))→Keep [] H1 H'→Q SI H':=λt H' ht kk=>k t (wd::tl) H' tel ht (SL kk);by_cases hw:wd = "way"
 ·obtain⟨rfl,d,p,fA,hd,rfl⟩:=rV hw;refine zay (Gh hw) ?_;have oP:=s1 _ _ hd Fr;refine⟨A5,A5,⟨cc.c3,he,fc0,d,fldW p,A5,bJ,fA,cN,a1,kw.ex,oP,rfl,A5,⟨cc.c3,he,fc0,d,fldW p,A5,bJ,fA,cN,a2,kw.ex,oP,rfl,two,λt6 f6=>?_⟩⟩⟩;generalize qZ:upd dw t6 _=qI;obtain⟨q11,g6⟩:=nwk f6 qZ;refine⟨tp,t6,_,A5,rfl,HV (q11 _ _ gt Fr),HV g6,Fr,(Ft 3),(λz=>by cases z),λ_ t7 f7=>?_⟩;refine⟨A5,cc.c3,.ty "ValueError",.type "ValueError",true,rfl,bJ,kw.ex,λ_ h=>h,kw.kv,A5,W0 ?_⟩;exact⟨A5,fin t7 _ zab ((s1.trans q11).trans (FM f7))⟩
 refine zal (Gx hw) ?_;have jB:=rW hw;subst jB;refine⟨A5,c,.ty "ValueError",.type "ValueError",true,rfl,bJ,kw.ex,λ_ h=>h,kw.kv,A5,W0 ?_⟩;exact⟨A5,fin tp dw gt s1⟩
end
end K21
namespace K21
open PySem L2 Wb
abbrev sLName:Stmt:=top 37
abbrev lettersS:Str:= "abcdefghijklmnopqrstuvwxyz"
def sgn_in:∀c:Fin 128,(!(Builtin.Str.occurrences lettersS ⟨#[c.1]⟩ 0 lettersS.length 1).isEmpty)=sgn c.1:=by decide+kernel
def ndLN:(["_law_sign"]:List Str).Nodup:=by decide+kernel
section
variable{P:Nk}{w:Nn}{K:Na}{mg:Ng}{base:No}
def scLName:zar ["_law_thing"] ["_law_thing"] (zaj sLName):=fsk
def ok_lname(F:Z1 "_law_is_name" "_law_is_name" sLName f fd)(bi:mg "isinstance" = none)(jG:mg "str" = none)(aa:G'):ZB 1 f fd ["_law_thing"] zdu:=by
 refine F.okL scLName Fx;obtain⟨v,rfl,hv,k⟩:=h;have hu:=zcm hr;have bX:=Jg hu;have aJ  :=sizeLine_eq;refine⟨_,zae (So (L9 (Ae (pe_tyN (T:= "str") rfl jG PyProof.Rows.boot_str))) (pw_or (XN (LV Re) zah HP) (zhl (BI (LV Re) zah HP))) zfg)
  (zag (za9 (pe_cmpR (zgp bX) (zfw (M:=["_law_sign"]) (ix:=[none]) (mkB scLName) rfl (pi_str Hx) (λC a7 ex s H=>JH ndLN)
      (λC a7 ex s H=>zdo (zan op_notIn_str Hx za4 rfl)) (λC a7 ex s H=>pv 0)) RD HP))),?_⟩
 cases hv with
 |non=>exact⟨A5,_,_,_,false,rfl,.non,rfl,A5,CA⟩
 |bl b=>exact⟨A5,_,_,_,false,rfl,C0,rfl,A5,CA⟩
 |int i=>exact⟨A5,_,_,_,false,rfl,EN,rfl,A5,CA⟩
 |ls a xs h=>exact⟨A5,_,_,_,false,rfl,FJ h,rfl,A5,CA⟩
 |tp a xs h=>exact⟨A5,_,_,_,false,rfl,CF h,rfl,A5,CA⟩
 |tx z asc lE=>
 have nof:¬(1≤z.cps.size∧z.cps.size≤8)→Q RZ H:=λq=>by
  have e:nmV To=false:=by show nmS z=false;unfold nmS;rw[decide_eq_false q];rfl
  have:=k H Keep.refl;rwa[e]at this
 have cP:z.length≤sizeLine:=by show z.cps.size≤sizeLine;lia
 refine⟨A5,_,_,_,true,rfl,To,rfl,A5,W0 ?_⟩;refine⟨A5,z,rfl,cP,_,A5,rfl,A5,?_⟩;rcases Kd z.cps.size 1 with h1|h1
 ·exact zay (Gh (by show(z.cps.size:Int)<1;lia)) (iteT (nof λq=>by lia))
 refine zal (Gx (by show ¬(z.cps.size:Int)<1;lia)) ?_;refine⟨A5,z,rfl,cP,_,A5,rfl,A5,?_⟩;rcases Kd 8 z.cps.size with h2|h2
 ·exact zay (Gh (by show(8:Int)<(z.cps.size:Int);lia)) (nof λq=>by lia)
 refine zal (Gx (by show ¬(8:Int)<(z.cps.size:Int);lia)) ?_;refine⟨A5,z,rfl,asc,λi m ys τ H1=>Aj5 (H1=H) (m=z.cps.size-i) (i≤z.cps.size) (ys=((Cs i).filter λc=>!sgn c).map λc=>V.str ⟨#[c]⟩) (Ex1 λx0=>τ=[x0]),⟨_,rfl,rfl,Sv,rfl,none,rfl⟩,?_⟩;rintro i m ys τ H1 ⟨rfl,rfl,hi,rfl,x0,rfl⟩;by_cases ad:i<z.cps.size
 ·refine .inr ⟨ad,by rw[Qa];exact Yo (Wl ..) (by rw[Ze];lia),?_⟩;rintro y H' ⟨rfl,c,hc,rfl⟩;have ke:i<z.cps.toList.length:=by rw[Yb];exact ad
  have qw:z.cps.toList[i]=c:=by rw[Uh ad]at hc;rw[Kx];exact Qq hc
  have tU:c<128:=by have:=Array.all_eq_true.mp asc i ad;rw[Uh ad]at hc;rw[Qq hc]at this;exact of_decide_eq_true this
  have tk:=Qj ke;have qb:=sgn_in ⟨c,tU⟩;refine⟨A5,_,A5,rfl,A5,?_⟩;cases hs:sgn c with
  |true=>rw[show(Fin.mk c tU).1=c from rfl,hs]at qb;refine zal (by rw[qb];rfl) ⟨_,zar1 ‹_›,rfl,rfl,ad,?_,_,rfl⟩;rw[tk,qw,Wc,Wg (by rw[hs];decide),Ug,Zp]
  |false=>rw[show(Fin.mk c tU).1=c from rfl,hs]at qb;refine zay (by rw[qb];rfl) ⟨_,rfl,_,zar1 ‹_›,rfl,rfl,ad,?_,_,rfl⟩;rw[tk,qw,Wc,Wn (by rw[hs];rfl),Ug,Qr];rfl
 have e:i=z.cps.size:=by exact zar3 ‹_› ‹_›
 subst e;refine .inl ⟨Gg,λD hD=>?_⟩;rw[Qm (by rw[Yb];exact Qh _)];refine⟨Tv,λq hq=>?_⟩;have nDq:D≠q:=zac (o:=_) zab hq;refine⟨D,q,A5,rfl,FH (by rw[zaf nDq];exact zab),LN,?_⟩;have e:nmV To=(((z.cps.toList.filter λc=>!sgn c).map λc=>V.str ⟨#[c]⟩).isEmpty):=by show nmS z=_;unfold nmS;rw[decide_eq_true ⟨h1,h2⟩,Bool.true_and,List.isEmpty_map,Yw,Yc,List.isEmpty_iff,Ko];exact⟨λh c hc=>by rw[h c hc];decide,λh c hc=>by have:=h c hc;simpa using this⟩
 have:=k _ ((FM hD).trans (Keep.new (o:=.lst []) hq));rw[e]at this;exact this
abbrev sLFlat:Stmt:=top 38
def tri_perm{r r':Nt}{fc dE:List Ta}{zs bQ:Nh}(hr:∀x,(r x).length=(r' x).length)(hf:fc.Perm dE)(hz:zs.Perm bQ):BJ zs=Mj dE bQ:=by
 have e1:(zs.map λx=>(r x).length).sum=(bQ.map λx=>(r' x).length).sum:=by rw[show(λx=>(r x).length)=λx=>(r' x).length from funext hr];exact(hz.map _).sum_nat
 have e2:(fc.filter λf=>decide (f.headD "" ∈ zs)).length=(dE.filter λf=>decide (f.headD "" ∈ bQ)).length:=by rw[show(λf:List Str=>decide (f.headD "" ∈ zs))=λf=>decide (f.headD "" ∈ bQ) from funext λf=>by rw[decide_eq_decide];exact hz.mem_iff];exact(hf.filter _).length_eq
 unfold zbm;rw[hz.length_eq,e1,e2]
def pcOf(ns:Nh)(lab:Nx)(x:Str):List Str:=ns.filter λy=>decide (lab y=lab x)
def pc_perm{ns:Nh}{lab:Nx}(nd:ns.Nodup){x:Str}{zs:Nh}(h1:zs.Nodup)(h2:∀y,y∈zs↔y∈ns∧lab y=lab x):zs.Perm P4:=
 (Jz h1 (Ju Xg nd)).mpr λy=>by rw[h2,Xa,decide_eq_true_iff]
def leS_tr{a b c:Str}(h:leS a b)(g:leS b c):leS a c:=λz=>by
 by_cases pd:a=b
 ·subst pd;exact g z
 by_cases hbc:b=c
 ·subst hbc;exact h z
 have l1:a.cps.toList < b.cps.toList:=Yp λq=>pd (D0 h q);have l2:b.cps.toList<c.cps.toList:=Yp λq=>hbc (D0 g q);exact List.lt_asymm (List.lt_trans l1 l2) z
def due_same{ns gP:Nh}{r r':Nt}{lab:Nx}{fc dE ws:List Ta}{zss:List Ta}{us:Nh}(nd:ns.Nodup)(hn:gP.Perm ns)(hr:∀ x,(r x).length=(r' x).length)(hf:fc.Perm dE)(p:∀zs∈zss,zdt gP lab zs)(bV:InRow gP zss)(up:us.Perm ns)(uo:us.Pairwise leS) :
  (us.map λx=>BJ P4).find? badT=(Ah (Mj dE)).find? badT:=by
 have key:∀zs∈zss,∀x∈zs,BJ P4=Mj dE zs:=λzs hz x hx=>by obtain⟨h1,s,hs,hm⟩:=p zs hz;exact tri_perm hr hf (pc_perm nd h1 λy=>by rw[hm,hn.mem_iff,((hm x).mp hx).2]).symm
 have inz:∀x∈us,∃zs∈zss,x∈zs:=λx hx=>bV.al x (hn.mem_iff.mpr (up.mem_iff.mp hx));have same:∀zs∈zss,∀bQ∈zss,∀x,x∈zs→x∈bQ→zs=bQ:=λzs hz bQ mQ x hx bv=>by obtain⟨h1,s,hs,hm⟩:=p zs hz;obtain⟨h1',s',cQ,ql⟩:=p bQ mQ;exact sorted_same h1 h1' (bV.so _ hz) (bV.so _ mQ) λy=>by rw[hm,ql,←((hm x).mp hx).2,←((ql x).mp bv).2]
 rw[List.find?_map,List.find?_map];cases hz:zss.find? (badT∘Mj dE) with
 |none=>
  rw[Yx]at hz;rw[Yx.mpr λx hx=>?_]
  ·rfl
  obtain⟨zs,h1,h2⟩:=inz x hx;show ¬badT (BJ P4)=true;rw[key zs h1 x h2];exact hz zs h1
 | some z0=>
  obtain⟨b0,A,B,e0,hA⟩:=List.find?_eq_some_iff_append.mp hz;have lE:z0∈zss:=by rw[e0];exact YT Qc
  obtain⟨h,hh⟩:∃h,z0.head?=some h:=by
   obtain⟨_,s,hs,hm⟩:=p z0 lE;cases z0 with
   |nil=>exact absurd ((hm s).mpr ⟨hs,rfl⟩) Fr
   |cons a t=>exact⟨a,rfl⟩
  have tF:h∈z0:=List.mem_of_mem_head? hh;have pZ:h∈us:=by obtain⟨_,s,hs,hm⟩:=p z0 lE;exact up.mem_iff.mpr (hn.mem_iff.mp ((hm h).mp tF).1)
  have bh:badT (BJ (UM h))=true:=by rw[key z0 lE h tF];exact b0
  cases hu:us.find? (badT∘λx=>BJ P4) with
  |none=>exact absurd bh (Yx.mp hu h pZ)
  | some x0=>
   obtain⟨bx,A',B',e1,hA'⟩:=List.find?_eq_some_iff_append.mp hu;have hx0:x0∈us:=by rw[e1];exact YT Qc
   obtain⟨zx,pS,mV⟩:=inz x0 hx0;have kx:=key zx pS x0 mV;have ez:zx=z0:=by
    have bzx:badT (Mj dE zx)=true:=by rw[←kx];exact bx
    have mH:=pS;rw[e0]at mH;rcases Qg.mp mH with q|q
    ·have:=hA zx q;rw[show(badT∘Mj dE) zx=true from bzx]at this;cases this
    rcases Qi.mp q with q|q
    ·exact q
    exfalso;have hp:=bV.hd;rw[e0]at hp;obtain⟨ne,fh⟩:=(Wo.mp (Zv.mp hp).2.1).1 zx q;obtain⟨g,hg⟩:∃g,zx.head?=some g:=by
     cases zx with
     |nil=>cases mV
     |cons a t=>exact⟨a,rfl⟩
    have l1:leS h g:=fh h hh g hg;have l2:leS g x0:=by
     have so:=bV.so zx pS;cases zx with
     |nil=>cases mV
     |cons a t=>
      cases hg;rcases Qi.mp mV with y|y
      ·rw[y];exact λz=>Ua _ z
      exact(Wo.mp so).1 _ y
    have eh:h=x0:=by
     have nh:=pZ;rw[e1]at nh uo;rcases Qg.mp nh with y|y
     ·have:=hA' h y;rw[show(badT∘λx=>BJ P4) h=true from bh]at this;cases this
     rcases Qi.mp y with y|y
     ·exact y
     exact D0 (leS_tr l1 l2) ((Wo.mp (Zv.mp uo).2.1).1 h y)
    exact ne (same z0 lE zx pS h tF (eh▸mV))
   show some (BJ (UM x0))=some (Mj dE z0);rw[kx,ez]
inductive IspLFlat(vs:List V)(H:Hp)(Q:VK):Prop
 | mk (d:Nc) (es:List Ent) (cs:List (List (Str×Str))) (lab:Nx) (h0:vs=[.ref d]) (h1:RF H d es) (h2:es.length≤40) (h3:Cert (es.map (·.1)) (row (rsOf es)) cs lab)
   (h4:∀(fc:List Ta) (Ls:List Gy) (us:Nh) (H':Hp),fc.Perm ((zcv es).map sing++Ls.map nmL)→JT Ls→us.Perm Gv→us.Pairwise leS→Keep [] H H'→Q (.bl ((us.map λx=>ZS fc Le).find? badT).isNone) H'):IspLFlat vs H Q
def spLFlat:Sp:=λvs H Q _=>IspLFlat vs H Q
def ndDA:(["_law_one",qR]:List Str).Nodup:=by decide+kernel
def ndDB:(["_law_face", "_law_piece_here"]:List Str).Nodup:=by decide+kernel
def zd8:zar [qR, "_law_found", "_law_place", "_law_piece_here", "_law_ties"] [qR] (zaj sLFlat):=fsk
def ok_lflat(F:Z1 "_law_flat" "_law_flat" sLFlat f fd)(FF:Z1 "_law_faces" "_law_faces" zgf ff fdf)(bF:Z3 fdf [qR] [])(mF:mg "_law_faces" = some (Fu ff))(GF:ZB 3 ff fdf [qR] spLFaces)(FP:Z1 "_law_piece" "_law_piece" zij fp fdp)(bP:Z3 fdp [qR, "_law_place"] [])(mP:mg "_law_piece" = some (Fu fp))(GP:ZB 1 fp fdp [qR, "_law_place"] spLPiece)(aa:G')(jF:mg "sum" = none)(ay:mg "sorted" = none):ZB 4 f fd [qR] spLFlat:=by
 refine F.okL zd8 Fx;obtain⟨d,es,cs,lab,rfl,R,ba,C,k⟩:=h;have hu:=zcm hr;have aV:Vk _:=hr.mono Fw;have aJ:=sizeLine_eq;refine⟨_,zae (X1 zd8.nd A2)
  (zae (QH Cm (za6 2 zd8.nd)
   (zae (ps_set (i:=3) zd8.nd rfl Tq (M9 bP .nil zba (ZM Rg)))
   (zae (X2 zd8.nd (VD (Dz FX jF PyProof.Rows.boot_sum (zaa (zfw (M:=["_law_one",qR]) (ix:=[none,He 0]) (mkB zd8) rfl (zaz HF) (λC a7 ex s H=>JH ndDA) (λC a7 ex s H=>zcp)
      (λC a7 ex s H=>zai (ze8 (K:=K) rfl) FX (by exact aa) Zj (Hf (zfx (by exact hu) RK (pv 0))))) zad)) zah))
   (zag (zbt (MJ (QU (RJ Tt) (QW FX aa Zj (zaa (zfw (M:=["_law_face", "_law_piece_here"]) (ix:=[none,He 3]) (mkB zd8) rfl (zaz RK) (λC a7 ex s H=>JH ndDB)
      (λC a7 ex s H=>zdo (zan (zhp (K:=K) rfl) (zbb (ziw (K:=K) rfl) Hx zah FV) RK rfl)) (λC a7 ex s H=>pv 0)) zad))) (Es SY) HP) (O1 zfg) zaw)))))
  (zag (AE zfg))),?_⟩
 refine⟨A5,d,es,cs,lab,rfl,R,ba,C,λfo fas fc Ls H1 dm oE qt fq _ cY _ k1=>?_⟩;have am:∀z∈fc,∃h t,z=h::t:=λz hz=>by
  rcases Qg.mp (fq.mem_iff.mp hz) with y|y
  ·obtain⟨x,_,rfl⟩:=Ql.mp y;exact⟨x,[],rfl⟩
  obtain⟨L,hL,rfl⟩:=Ql.mp y;obtain⟨u,v,e,_⟩:=(cY.fa L hL).cy;rw[e];exact⟨_,A5⟩
 have tG:=hd_pair am qt;have R1:=R.keep k1;refine⟨A5,d,_,Gv,rfl,R1.dc,zgz es,λl ws hl ae ai=>?_⟩;replace ai:=ai Rx;generalize jh:QI l _=H2;obtain⟨k2,au⟩:=nwk hl jh;have gD:=k2 _ _ dm Fr;have kG:Dh (fc.map λz=>z.headD ""):=zdz (D:=d) (g:=d) k2 tG (λ_ _ _ _=>by simp);have bw:∀e∈es,e.2.1.length≤100:=λe he=>by have e1:=Mf he;have:=zcu (C.rn e.1) (m:=es.map (·.1)) λy hy=>C.inn' hy;rw[e1,Qa]at this;lia
 refine⟨l,rfl,⟨_,FH au⟩,ze5 (zs:=ws) (λi σ H'=>Aj3 (∀x∈ws.take i,badT (ZS fc Le)=false) (Keep [] H2 H') (Ex3 λx2 x3 x4=>σ=[LO,Fy fo,x2,x3,x4])) ⟨λx h=>(by cases h),Keep.refl,_,_,_,rfl⟩ (λi σ H' _ hh=>SqL.of (TU au Fr)) ?_ ?_⟩
 ·rintro i hi σ H3 ⟨cu,k3,x2,x3,x4,rfl⟩;have R3:=(R1.keep k2).keep k3;have av:ws[i]∈es.map (·.1):=ae.mem_iff.mp C7;refine⟨A5,A5,d,es,cs,lab,ws[i],rfl,R3,ba,C,av,λpl zs H4 bp dy pT d8 _ k4=>?_⟩;have hzp:=pc_perm R.nd dy d8;have nj:ZS fc (pcOf Gv lab ws[i])=ZS fc zs:=tri_perm (λ_=>rfl) Ad hzp.symm;have R4:=R3.keep k4;have db:∀z∈zs,∃e∈es,e.1=z:=λz hz=>Ql.mp ((d8 z).mp hz).1;have dz:zs.length≤100:=by have:=zcu dy (m:=es.map (·.1)) λz hz=>((d8 z).mp hz).1;rw[Qa]at this;lia
  refine⟨A5,pl,rfl,⟨_,FH bp⟩,lc_at (xs:=zs.map V.str) (λ τ=>∃x0,τ=[x0,LO]) ((zs.map λx=>((ZO x).length:Int)).map V.int) (by rw[Qa,Qa,Qa]) (FH bp) Rx ⟨none,rfl⟩ ?_ (λD hD=>?_)⟩
  ·rintro j hj gp τ ⟨x0,rfl⟩ kk hk;rw[Qa]at hj;rw[Zm];obtain⟨en,be,aE⟩:=db _ AH;have dg:DGet H4 d (.str zs[j]) EE:=by rw[←aE];exact R4.get be
   refine⟨A5,A5,d,A5,dg,en.2.2,A5,HJ (R4.ro en be),?_⟩;have e:((zs.map λx=>((ZO x).length:Int)).map V.int)[j]=V.int ((en.2.1.map V.str).length:Int):=by rw[Zm,Zm,←aE,Mf be,Qa]
   rw[e]at hk;exact hk _ ⟨_,rfl⟩
  generalize ic:QJ D _=H5;obtain⟨k5,iI⟩:=Dw ic;refine⟨D,A5,FH iI,Rx,λn hn=>?_,?_⟩
  ·obtain⟨z,hz,rfl⟩:=Ql.mp hn;obtain⟨en,be,aE⟩:=db z hz;have h1:=bw en be;rw[←aE,Mf be];lia
  have fQ:(zs.map λx=>((ZO x).length:Int)).sum=(((zs.map λx=>(ZO x).length).sum:Nat):Int):=by rw[←sum_cast,Zu];rfl
  rw[fQ];refine⟨_,A5,rfl,⟨Fw,Fw⟩,?_⟩;have gA:=k5 _ _ (k4 _ _ (Cj gD) Fr) Fr;have aY:=k5 _ _ bp Fr;have oj:Paired (ze9 H5) fas (fc.map λz=>z.headD ""):=zdz (D:=d) (g:=d) ((RQ k4).trans k5) kG (λ_ _ _ _=>by simp);refine⟨A5,pl,A5,HJ aY,A5,fo,rfl,⟨_,FH gA⟩,ziv (xs:=fas.map V.ref) (λ τ=>∃x0,τ=[x0,Fy pl]) P6 (FH gA) Rx ⟨none,rfl⟩ ?_ (λD2 l4=>?_)⟩
  ·rintro x hx τ ⟨x0,rfl⟩ mx my oh oi;obtain⟨a,ha,rfl⟩:=Ql.mp hx;obtain⟨j,hj,rfl⟩:=Zg ha;obtain⟨cq,cX⟩:=za0 oj hj;have av:=ziy (zs:=zs) cX;obtain⟨t,et⟩:=cX;refine⟨A5,fas[j],_,_,A5,rfl,FH et,zav (j:=0) rfl,A5,pl,A5,HJ aY,rfl,zcx zs,A5,?_⟩;cases hb:decide ((fc.map λz=>z.headD "")[j]∈zs) with
   |true=>exact zay (show inV _ _=true by rw[zeg];exact hb) ⟨_,rfl,oh Em _ ⟨_,rfl⟩⟩
   |false=>exact zal (show inV _ _=false by rw[zeg];exact hb) (oi Em _ ⟨_,rfl⟩)
  have k6:Keep [] H5 (QF D2 (FJ ((fas.map V.ref).filter P6))):=Keep.new l4;refine⟨D2,A5,HJ zab,?_⟩;rw[filt_len oj];have kQ:((fc.map λz=>z.headD "").filter λh=>decide (h∈zs)).length=(ZS fc zs).2.2:=by rw[Xc,Qa];rfl
  have jC:((((zs.map λx=>(ZO x).length).sum:Nat):Int)/2)=(((ZS fc zs).2.1:Nat):Int):=rfl;have iy:(zs.map V.str).length=(ZS fc zs).1:=Qa _;rw[kQ,jC];have cT:=k6 _ _ aY Fr;generalize QF D2 (FJ ((fas.map V.ref).filter P6))=H6 at k6 cT;have fF:Keep [] H H6:=((((SL k2).trans k3).trans k4).trans k5).trans k6;rw[iy];refine⟨_,A5,rfl,A5,_,A5,rfl,rfl,A5,?_⟩;cases aT:badT E8 with
  |false=>
   refine zal ?_ ⟨λz hz=>?_,((RQ k4).trans k5).trans k6,_,_,_,rfl⟩
   ·rw[Jv,decide_eq_true_iff];refine congrArg V.int ?_;have:=of_decide_eq_false aT;lia
   rw[Qj hi]at hz;rcases Qg.mp hz with y|y
   ·exact cu z y
   rw[Qd.mp y,nj];exact aT
  |true=>
   refine zay ?_ ?_
   ·rw[Ym,decide_eq_false_iff_not];intro z;have z:=V.int.inj z;have:=of_decide_eq_true aT;lia
   have:=k fc Ls ws _ fq cY ae ai fF;rw[take_bad (f:=λx=>ZS fc Le) (q:=badT) hi cu (FA nj aT)]at this;exact this
 rintro σ H3 ⟨cu,k3,x2,x3,x4,rfl⟩;rw[Qa,Qm Gg]at cu;have:=k fc Ls ws _ fq cY ae ai ((SL k2).trans k3);rw[Yx.mpr λy hy=>?_]at this
 ·exact this
 obtain⟨z,hz,rfl⟩:=Ql.mp hy;rw[cu z hz];decide
end
end K21
namespace L2
open PySem PySem.Spec PyProof.Rows K21
def lc_filtK{K:Na}{g:TG}{tc:TT}{te:TE}{Q:VK}{a:Nc}{τ:St}{H:Hp}{xs:List V}(T:St→Prop)(q:V→Bool)(ha:H a=some Sk)(h0:T τ)(hs:∀x∈xs,∀τ H1,T τ→Keep [] H H1→∀(k1:V→St→Hp→Prop) (k0:St→Hp→Prop),(q x=true→∀τ2 H2,T τ2→Keep [] H H2→k1 x τ2 H2)→(q x=false→∀τ2 H2,T τ2→Keep [] H H2→MY H2)→g x τ H1 λ τ2 H2=>tc τ2 H2 λb H3=>if b=true then te τ2 H3 λy H4=>k1 y τ2 H4 else MY H3)(hn:xs.length≤sizeLine)(hq:∀D H1,Keep [] H H1→H1 D=none→Q HQ (QI D (FJ (xs.filter q)))):Y7 Pq τ H:=by
 refine⟨λi m ys τ H1=>Aj5 (Keep [] H H1) (T τ) (m=xs.length-i) (i≤xs.length) (ys=(Lp i).filter q),⟨_,Keep.refl,h0,rfl,Sv,rfl⟩,?_⟩;rintro i m ys τ H1 ⟨k1,ht,rfl,hi,rfl⟩;have u4:=k1 _ _ ha Fr;by_cases ad:i<xs.length
 ·have tJ:((Lp i).filter q).length≤i:=Bt (by rw[Ze];lia);refine .inr ⟨⟨xs,xs[i],FH u4,Qb ad⟩,Fs,?_⟩;rintro x H' ⟨rfl,hx⟩;have bv:=hx xs (FH u4);rw[Qb ad]at bv;have eN:xs[i]=x:=Qq bv;have bf:xs.take Gr=xs.take i++[x]:=by rw[Qj ad,eN]
  refine hs x (eN▸Qn ad) τ H' ht k1 _ _ (λjK τ2 H2 h2 k2=>?_) λjK τ2 H2 h2 k2=>?_
  ·exact⟨_,Gk,k2,h2,rfl,ad,by rw[bf,Wc,Wn jK,Ug]⟩
  exact⟨_,Gk,k2,h2,rfl,ad,by rw[bf,Wc,Wg (by rw[jK];decide),Ug,Zp]⟩
 have e:i=xs.length:=by exact zar3 ‹_› ‹_›
 subst e;refine .inl ⟨⟨xs,FH u4,Gg⟩,λD hD=>?_⟩;rw[Qm Gg];exact hq D _ k1 hD
inductive RrCount(x:V)(vs:List V)(H:Hp)(Q:VK):Prop
 |mk (l:Nc) (zs:Nh) (z:Str) (h0:x=.ref l) (h1:vs=[.str z]) (h2:H l=some (.lst (zs.map V.str))) (h4:Q (.int (zs.count z:Nat)) H):RrCount x vs H Q
def rCount:V→List V→Hp→VK→Prop:=λx vs H Q=>RrCount x vs H Q
def mt_count{X:Cx}:NK "list.count" rCount:=by
 intro a7 s σ H x vs v us Q I rx rv h;obtain⟨l,zs,z,rfl,rfl,hH,q⟩:=h;cases rx;obtain⟨u,rfl,⟨t,rfl⟩⟩:=rv.one;obtain⟨zz,a8,n,r,hl,e⟩:=I.lstM hH;obtain⟨ps,rfl,lN⟩:=zdm r;refine call_meets F.slot_list_count ⟨_,e,rfl⟩ F.entry_list_count (F.args_list_count_2 _ _)
  (MeetsSeq.list_count l (strValues ps).toArray n (.str z t) (λv=>match v with | .str a _=>a==z|_=>false) (λy hy=>?_)) ⟨e,?_⟩
 ·obtain⟨pr,_,rfl⟩:=Ql.mp (by simpa[strValues] using hy:y∈ps.map λp=>MA p.2);exact eqGives_str _ _ _ _
 refine⟨Rq (zs.count z:Nat),H,HI,⟨s.toks,?_⟩,q⟩;rw[←lN];show Value.int ((List.countP _ (ps.map λp=>MA p.2):Nat):Int) _=_;rw[List.countP_map,List.count,List.countP_map];rfl
end L2
namespace K21
open PySem L2 Wb
abbrev sDue:Stmt:=top 39
def ndUA:(["_law_thing"]:List Str).Nodup:=by decide+kernel
def ndUB:(["_law_place", "_law_around"]:List Str).Nodup:=by decide+kernel
def ndUC:(["_law_name", "_law_around"]:List Str).Nodup:=by decide+kernel
inductive Dues(rs:List Ro):List Str→Prop
 |nm (h:rs.all okR=false):Dues rs ["name"]
 |tw (es:List Ent) (h:rs.all okR=true) (hE:RwE rs es) (h2:twOk es=false):Dues rs ["twice"]
 |ow (es:List Ent) (p:Str×Str) (h:rs.all okR=true) (hE:RwE rs es) (h2:twOk es=true) (h3:(zb0 es).find? (zcl es)=some p):Dues rs ["way",p.1,p.2]
 |fl (es:List Ent) (h:rs.all okR=true) (hE:RwE rs es) (h2:twOk es=true) (h3:(zb0 es).find? (zcl es)=none) (cs:List (List (Str×Str))) (lab:Nx) (hC:Cert (es.map (·.1)) (row (rsOf es)) cs lab) (fc:List (List Str)) (Ls:List (List (Str×Str))) (us:Nh) (a1:fc.Perm ((zcv es).map sing++Ls.map nmL)) (a2:zbf (row (rsOf es)) Ls) (a3:us.Perm (es.map (·.1))) (a4:us.Pairwise leS):Dues rs [if((us.map λx=>ZS fc Le).find? badT).isSome then "flat" else "made"]
inductive IspDue(vs:List V)(H:Hp)(Q:VK):Prop
 |mk (l:Nc) (as:Nl) (rs:List Ro) (h0:vs=[.ref l]) (h2:RoAt H l as rs) (h3:rs.length≤40) (h4:∀r∈rs,OddR H r) (h6:∀(t:Nc) (ws:Nh) (H':Hp),Dues rs ws→H' t=some (.tup (ws.map V.str))→Keep [] H H'→Q (.ref t) H'):IspDue vs H Q
def spDue:Sp:=λvs H Q _=>IspDue vs H Q
section
variable{P:Nk}{w:Nn}{K:Na}{mg:Ng}{base:No}
def zes:zar ["_law_rows_here", "_law_place", "_law_around", "_law_places",qR,qO] ["_law_rows_here"] (zaj sDue):=fsk
def ok_due(F:Z1 "_law_due" "_law_due" sDue f fd)(FN:Z1 "_law_is_name" "_law_is_name" sLName fn fdn)(bN:Z3 fdn ["_law_thing"] [])(mN:mg "_law_is_name" = some (Fu fn))(GN:ZB 1 fn fdn ["_law_thing"] zdu)(FF:Z1 "_law_flat" "_law_flat" sLFlat ff fdf)(bF:Z3 fdf [qR] [])(mF:mg "_law_flat" = some (Fu ff))(GF:ZB 4 ff fdf [qR] spLFlat)(gG:mg "dict" = none):ZB 5 f fd ["_law_rows_here"] spDue:=by
 refine F.okL zes Fx;obtain⟨l,as,rs,rfl,R,gR,aZ,k⟩:=h;have hu:=zcm hr;have bX:=Jg hu;have aV:Vk _:=hr.mono Fw;have aJ:=sizeLine_eq;refine⟨_,zae (QH Lz (XM (Vx (zat (zgk (i:=2) zes.nd rfl Tq) zb3)))
   (zag (zbt (M' (zfw (M:=["_law_thing"]) (ix:=[none]) Pl rfl (zaz (W9 Oq RM)) (λC a7 ex s H=>JH ndUA)
      (λC a7 ex s H=>zdo (PV (by exact aV) (by exact mN) Re)) (λC a7 ex s H=>pv 0)) RD HP) (zag Ex) zaw)))
  (zae (ps_lc (i:=3) (M:=["_law_place", "_law_around"]) (ix:=[none,none]) zes.nd rfl rfl Pl rfl Lz
   (λC a7 ex s H=>zff (K:=K) (n:=2) rfl rfl IB)
   (λC a7 ex s H=>zcp) (λC a7 ex s H=>pv 0) rfl)
  (zae (QH Lz (XM (Vx (zat (zgk (i:=2) zes.nd rfl Tq) zb3)))
   (zag (zbt (PW.pt (pw_or (Eh (zcd Qz PySem.F.slot_list_count PySem.F.type_list_count mt_count HF HH)) (zhl (M' (zfw (M:=["_law_name", "_law_around"]) (ix:=[none,He 2]) Pl rfl (zaz RM) (λC a7 ex s H=>JH ndUC)
      (λC a7 ex s H=>zdo (Eh (pe_bmK (K:=K) rfl Qz PySem.F.slot_list_count PySem.F.type_list_count mt_count RK Re))) (λC a7 ex s H=>pv 0)) RD HP)))) (zag Ex) zaw)))
  (zae (X2 zes.nd (zcb (zd6 rfl) FX gG PyProof.Rows.boot_dict (zaa (zfw (M:=["_law_place", "_law_around"]) (ix:=[none,none]) Pl rfl Lz
   (λC a7 ex s H=>zff (K:=K) (n:=2) rfl rfl IB)
   (λC a7 ex s H=>zcp) (λC a7 ex s H=>zbd (ZM HH))) zad)))
  (zae (QH Lz (XM (Vx (zat (zgk (i:=2) zes.nd rfl Tq) zb3)))
   (zag (QH (zaz RM) (DW zes.nd)
    (zag (Ep (PW.pt (pw_or (MZ Lc RK HP) (pw_or (pt_cmp (zew hu Lc SY)) (zhl (zan zc3 RK (zfx hu SY Lc) rfl))))) (O1 (zbd (QK (ZZ SV)))))))))
  (zae (Ep (zfs (zeu (UY bF .nil zba TW))) (O1 (zbd Tu)))
  (zag Ex)))))),?_⟩
 have t1:1≤sizeLine:=by decide
 refine⟨A5,l,rfl,⟨_,Cw⟩,zbs (xs:=as.map V.ref) (λi σ H'=>Aj3 ((rs.take i).all okR=true) (Keep [] H H') (Ex2 λx1 x2=>σ=[Cp,x1,x2,none,none,none])) ⟨rfl,Keep.refl,none,none,rfl⟩ (λi σ H' _ hh=>SqL.of (hh.2 _ _ R.ls Fr)) ?_ ?_⟩
 ·rintro i y σ H1 hx ⟨af,k1,x1,x2,rfl⟩;have hi:i<as.length:=by have:=(LP hx).1;rwa[Qa]at this
  have ik:y=.ref as[i]:=by rw[Qt,Qb hi]at hx;exact(Qq hx).symm
  subst ik;obtain⟨ao,aO⟩:=za0 R.ts hi;have cS:=Qn ao;obtain⟨fj,cG,bz⟩:=aZ _ cS;have aU:=k1 _ _ (R.ro _ cS) Fr;have tk:rs.take Gr=rs.take i++[rs[i]]:=Qj ao;have aT:okR rs[i]=false→rs.all okR=false:=λhb=>by rw[Jk];intro z;have:=Yc.mp z _ cS;rw[hb]at this;cases this
  generalize rs[i]=r at aO cS fj cG bz aU tk aT;refine⟨as[i],A5,HV (k1 _ _ aO Fr),rfl,_,A5,_,A5,rfl,?_⟩;refine⟨A5,t1,λq hq=>?_⟩;have nq:r.2.2≠q:=zac aU hq;refine⟨A5,q,r.2.2,_,A5,rfl,zab,(FQ nq aU),(by show 1+_≤sizeLine;lia),λq2 cB=>?_⟩;have k2:Keep [] H (Ij (QI q (.lst [r.1])) q2 (FJ ([r.1]++r.2.1))):=(SL TN).trans (FM cB);have df:(Ij (QI q (.lst [r.1])) q2 (FJ ([r.1]++r.2.1))) q2=some (FJ (r.1::r.2.1)):=zab;generalize upd (QI q (.lst [r.1])) q2 (FJ ([r.1]++r.2.1))=H2 at k2 df;refine⟨q2,rfl,⟨_,FH df⟩,lc_filtK (xs:=r.1::r.2.1) (λ τ=>∃x0,τ=[x0]) (λv=>!nmV v) df ⟨none,rfl⟩ ?_ (Gp Za) (λD H3 k3 hD=>?_)⟩
  ·rintro x hx τ H3 ⟨x0,rfl⟩ k3 mx my h1 h0;have nU:Odd H3 x:=by
    have:V2 x:=by
     rcases Qi.mp hx with e|e
     ·rw[e];exact cG
     exact bz x e
    exact this.keep (TV k3)
   refine⟨A5,x,rfl,nU,λH4 k4=>⟨_,rfl,?_⟩⟩;cases hb:nmV x with
   |true=>exact W0 (h0 (by rw[hb];rfl) _ _ ⟨_,rfl⟩ OL)
   |false=>exact WZ ⟨_,rfl,h1 (by rw[hb];rfl) _ _ ⟨_,rfl⟩ OL⟩
  refine⟨Tv,λq3 jM=>?_⟩;have nDq:D≠q3:=zac (o:=_) zab jM;refine⟨D,q3,A5,rfl,FH (by rw[zaf nDq];exact zab),LN,A5,?_⟩;have kk:Keep [] H (upd (WK D (.lst ((r.1::r.2.1).filter λv=>!nmV v))) q3 Ge):=((TV k3).trans (FM hD)).trans (FM jM);have eo:((r.1::r.2.1).filter λv=>!nmV v).isEmpty=okR r:=by unfold okR;rw[Yw,List.isEmpty_iff,Ko,Yc];exact⟨λh v hv=>by have:=h v hv;simpa using this,λh v hv=>by rw[h v hv];decide⟩
  generalize((r.1::r.2.1).filter λv=>!nmV v)=zs at eo kk;generalize upd (WK D (FJ zs)) q3 Ge=H4 at kk;cases hb:okR r with
  |true=>rw[hb]at eo;refine zal (by rw[List.isEmpty_iff.mp eo];rfl) ⟨?_,kk,_,_,rfl⟩;rw[tk,List.all_append,af,Ws,hb];rfl
  |false=>rw[hb]at eo;refine zay (by cases zs with|nil=>cases eo|cons _ _=>rfl) ⟨t1,λt ft=>?_⟩;exact k t ["name"] _ (.nm (aT hb)) zab EG
 rintro σ H1 ⟨af,k1,x1,x2,rfl⟩;rw[Qa,Zl R.ts,Qm Gg]at af;obtain⟨es,hE⟩:=rwe_of af;have RE:=(R.rw hE).keep k1;have bK:as.length=es.length:=Zl RE.ts;have hJ:es.length≤40:=by rw[←Zl hE];exact gR
 refine⟨A5,l,rfl,⟨_,SqL.of RE.ls⟩,lc_at (xs:=as.map V.ref) (λ τ=>∃x0 x1,τ=[x0,x1]) ((RX (·.1)).map V.str) (by rw[Qa,Qa,Qa,bK]) (SqL.of RE.ls) Rx ⟨none,none,rfl⟩ ?_ (λD hD=>?_)⟩
 ·rintro i hi cV τ ⟨x0,x1,rfl⟩ kk hk;rw[Qa]at hi;obtain⟨ao,aO⟩:=za0 RE.ts hi;rw[Zm];refine⟨as[i],A5,HV aO,rfl,_,A5,_,A5,rfl,A5,?_⟩;have e:((RX (·.1)).map V.str)[i]=V.str es[i].1:=by rw[Zm,Zm]
  rw[e]at hk;exact hk _ ⟨_,_,rfl⟩
 generalize jh:QI D _=H2;obtain⟨k2,l4⟩:=Dw jh;have mz:=k1.trans k2;have i7:=RE.keep k2;have bw:∀e∈es,e.2.1.length≤100:=λe he=>by obtain⟨r,hr,_,h2,_⟩:=hE.mem he;have:=(aZ r hr).1;rw[h2,Qa]at this;exact this
 have twr:∀e∈es,((RX (·.1)).count e.1>1∨(e.2.1.filter λx=>decide (1<e.2.1.count x))≠[])→twOk es=false:=λe he h=>by
  rw[Jk];intro z;unfold twOk at z;rw[Ws,Yn,decide_eq_true_iff,Yc]at z;rcases h with h|h
  ·have:=Kv.mp z.1 e.1;lia
  have nd:=of_decide_eq_true (z.2 e.2.1 (LL ⟨e,he,rfl⟩));refine h (Ko.mpr λx _ hx=>?_);have:=Kv.mp nd x;have:=of_decide_eq_true hx;lia
 have row_i:∀{H3:Hp} {i:Nat} {y:V},Keep [] H2 H3→(as.map V.ref)[i]?=some y→∃e,e∈es∧es[i]?=some e∧∃b,y=.ref b∧H3 b=some (.tup [Tg,Si])∧H3 e.2.2=some PU:=λ{H3 i y} k3 hx=>by
  have hi:i<as.length:=by have:=(LP hx).1;rwa[Qa]at this
  rw[Qt,Qb hi]at hx;obtain⟨ao,aO⟩:=za0 i7.ts hi;exact⟨es[i],Pe,Qb ao,as[i],(Qq hx).symm,Cj aO,Cj (i7.ro _ Pe)⟩
 have tk:∀{i:Nat} {e:Ent},es[i]?=some e→es.take Gr=es.take i++[e]:=λ{i e} h=>by obtain⟨hi,rfl⟩:=Qy.mp h;exact Qj hi
 refine⟨A5,l,rfl,⟨_,SqL.of i7.ls⟩,zbs (xs:=as.map V.ref) (λi σ H'=>Aj3 (∀e∈es.take i,(RX (·.1)).count e.1≤1∧(e.2.1.filter λx=>decide (1<e.2.1.count x))=[]) (Keep [] H2 H') (Ex2 λx1 x2=>σ=[Cp,x1,x2,Fy D,none,none])) ⟨λe h=>(by cases h),Keep.refl,_,_,rfl⟩ (λi σ H' _ hh=>SqL.of (hh.2 _ _ i7.ls Fr)) ?_ ?_⟩
 ·rintro i y σ H3 hx ⟨hg,k3,y1,y2,rfl⟩;obtain⟨e,he,c8,b,rfl,hb,aU⟩:=row_i k3 hx;have gL:=k3 _ _ l4 Fr;have tw:∀H4,Keep [] H2 H4→twOk es=false→∀t,H4 t=none→Q SI (QJ t (.tup [.str "twice"])):=λH4 k4 bY t ft=>k t ["twice"] _ (.tw es af hE bY) zab ((mz.trans k4).trans (FM ft));refine⟨b,A5,HV hb,rfl,_,A5,_,A5,rfl,?_⟩;refine⟨A5,Hd gL,A5,D,Gv,e.1,rfl,rfl,gL,_,A5,rfl,A5,?_⟩;by_cases hc:1<(RX (·.1)).count e.1
  ·exact zay (Gh (by show(1:Int)<((_:Nat):Int);lia)) (iteT ⟨t1,tw H3 k3 (twr e he (Gm hc))⟩)
  refine zal (Gx (by show ¬(1:Int)<((_:Nat):Int);lia)) ?_;refine⟨A5,e.2.2,rfl,⟨_,SqL.of aU⟩,ziv (xs:=e.2.1.map V.str) (λ τ=>∃x0,τ=[x0,some (.ref e.2.2)]) (λv=>match v with | .str x=>decide (1<e.2.1.count x)|_=>false) (SqL.of aU) (by rw[Qa];have:=bw e he;lia) ⟨none,rfl⟩ ?_ (λD2 ub=>?_)⟩
  ·rintro x hx τ ⟨x0,rfl⟩ mx my h1 h0;obtain⟨z,hz,rfl⟩:=Ql.mp hx;refine⟨A5,Hd aU,A5,e.2.2,e.2.1,z,rfl,rfl,aU,_,A5,rfl,A5,?_⟩;by_cases mK:1<e.2.1.count z
   ·exact zay (Gh (by show(1:Int)<((_:Nat):Int);lia)) ⟨_,rfl,h1 (Gh mK) _ ⟨_,rfl⟩⟩
   exact zal (Gx (by show ¬(1:Int)<((_:Nat):Int);lia)) (h0 (Gx mK) _ ⟨_,rfl⟩)
  have ef:(e.2.1.map V.str).filter (λv=>match v with | .str x=>decide (1 < e.2.1.count x)|_=>false)=(e.2.1.filter λx=>decide (1 < e.2.1.count x)).map V.str:=by rw[Xc];rfl
  rw[ef];refine⟨Tv,λq3 jM=>?_⟩;have nDq:D2≠q3:=zac (o:=_) zab jM;refine⟨D2,q3,A5,rfl,FH (by rw[zaf nDq];exact zab),LN,A5,?_⟩;have kk:Keep [] H2 (upd (WK D2 (.lst ((e.2.1.filter λx=>decide (1<e.2.1.count x)).map V.str))) q3 Ge):=(RQ (FM ub)).trans (FM jM);cases hf:(e.2.1.filter λx=>decide (1<e.2.1.count x)) with
  |nil=>
   rw[hf]at kk;refine W0 ⟨λe' cv=>?_,kk,_,_,rfl⟩;rw[tk c8]at cv;rcases Qg.mp cv with z|z
   ·exact hg e' z
   rw[Qd.mp z];exact⟨Fs,hf⟩
  |cons a u=>rw[hf]at kk;exact WZ ⟨t1,tw _ kk (twr e he (Ru (by rw[hf];simp)))⟩
 rintro σ H3 ⟨hg,k3,y1,y2,rfl⟩;rw[Qa,bK,Qm Gg]at hg;have bY:twOk es=true:=by
  unfold twOk;rw[Ws,Yn,decide_eq_true_iff,Yc];refine⟨Kv.mpr λx=>?_,λzs hz=>?_⟩
  ·by_cases hx:x∈es.map (·.1)
   ·obtain⟨e,he,rfl⟩:=Ql.mp hx;exact(hg e he).1
   rw[List.count_eq_zero.mpr hx];exact Zo _
  obtain⟨e,he,rfl⟩:=Ql.mp hz;refine decide_eq_true (Kv.mpr λx=>?_);by_cases hx:x∈e.2.1
  ·have:=Ko.mp (hg e he).2 x hx;have:=of_decide_eq_false (Jk.mpr this);lia
  rw[List.count_eq_zero.mpr hx];exact Zo _
 have aR:(RX (·.1)).Nodup:=by have:=bY;unfold twOk at this;rw[Ws,Yn,decide_eq_true_iff]at this;exact this.1
 have eF:(as.map V.ref).length=es.length:=by rw[Qa];exact bK
 refine⟨_,rfl,l,rfl,⟨_,FH (k3 _ _ i7.ls Fr)⟩,λn q ys τ H'=>Ex1 λ(bj:Nl)=>Aj6 (q=es.length-n) (n≤es.length) (ys=bj.map V.ref) (Ex2 λx0 x1=>τ=[x0,x1]) (Paired (λa (e:Ent)=>H' a=some (.tup [Tg,Si])) bj (Lv n)) (Keep [] H3 H'),
  ⟨es.length,[],rfl,Sv,rfl,⟨none,none,rfl⟩,.nil,Keep.refl⟩,?_⟩
 rintro n q ys τ H4 ⟨bj,rfl,hn,rfl,⟨x0,x1,rfl⟩,bf,k4⟩;have oW:bj.length=n:=by rw[Zl bf,Ze];lia
 have aF:=k4 _ _ (k3 _ _ i7.ls Fr) Fr;by_cases ad:n<es.length
 ·refine .inr ⟨⟨_,(as.map V.ref)[n]'(by lia),FH aF,Qb Fs⟩,by rw[Qa];lia,?_⟩;rintro v H5 ⟨rfl,hv⟩;obtain⟨e,he,c8,b,rfl,hb,aU⟩:=row_i OL (hv _ (FH aF));refine⟨b,A5,HV hb,rfl,_,A5,_,A5,rfl,A5,A5,Sq,λt7 jD=>?_⟩;have k5:Keep [] H5 (QF t7 (.tup [Tg,Si])):=Keep.new jD;refine⟨_,Gk,bj++[t7],rfl,ad,by rw[Qr];rfl,⟨_,A5⟩,?_,k4.trans k5⟩;rw[tk c8];exact zao (Paired.imp' (λa e h=>k5 _ _ h Fr) bf) (HY zab)
 have am:n=es.length:=by lia
 subst am;rw[Qm Gg]at bf;refine .inl ⟨⟨_,FH aF,Fs⟩,λD5 iI=>?_⟩;generalize ic:QJ D5 _=H5;obtain⟨k5,g5⟩:=nwk iI ic;have lN:(es.map λe:Ent=>(e.1,Sj)).map (·.1)=es.map (·.1):=by rw[Zu];rfl
 refine⟨D5,bj,es.map λe=>(e.1,Sj),rfl,g5,zho (Paired.imp' (λa e h=>k5 _ _ h Fr) bf),FA lN aR,λd hd=>?_⟩;have sw:((es.map λe:Ent=>(e.1,Sj)).map λp=>((Sum.inr p.1:Key),p.2))=eWV es:=by rw[Zu];rfl
 rw[sw];generalize jg:QF d _=H6;obtain⟨k6,g6⟩:=nwk hd jg;have lC:Keep [] H2 H6:=((RQ k4).trans k5).trans k6;refine⟨A5,l,rfl,⟨_,FH (lC _ _ i7.ls Fr)⟩,zbs (xs:=as.map V.ref) (λi σ H'=>Aj3 (∀p∈zb0 PZ,V5 p=false) (Keep [] H6 H') (Ex3 λx1 x2 x5=>σ=[Cp,x1,x2,Fy D,LO,x5])) ⟨λp h=>(by cases h),Keep.refl,_,_,_,rfl⟩ (λi σ H' _ hh=>SqL.of ((lC.trans hh.2) _ _ i7.ls Fr)) ?_ ?_⟩
 ·rintro i y σ H7 hx ⟨on,k7,y1,y2,y5,rfl⟩;obtain⟨e,he,c8,b,rfl,hb,aU⟩:=row_i (lC.trans k7) hx;obtain⟨ao,kF⟩:=Qy.mp c8;refine⟨b,A5,HV hb,rfl,_,A5,_,A5,rfl,?_⟩;refine⟨A5,e.2.2,rfl,⟨_,FH aU⟩,zbs (xs:=e.2.1.map V.str) (λj σ H'=>Aj3 (∀x∈e.2.1.take j,V5 (e.1,x)=false) (Keep [] H7 H') (Ex1 λx5=>σ=[Cp,He Tg,He Si,Fy D,LO,x5])) ⟨λx h=>(by cases h),Keep.refl,_,rfl⟩ (λj σ H' _ hh=>SqL.of (TU aU Fr)) ?_ ?_⟩
  ·rintro j y σ H8 hy ⟨gw,k8,z5,rfl⟩;obtain⟨gp,ey⟩:=Qy.mp hy;have hj:j<e.2.1.length:=by rwa[Qa]at gp
   rw[Zm]at ey;subst ey;have g8:=(Sg k8) _ _ g6 Fr;have mw:Keep [] H H8:=((mz.trans lC).trans k7).trans k8;have bad:V5 (e.1,e.2.1[j])=true→Aj2 (([.str "way",Tg,.str e.2.1[j]]:List V).length≤sizeLine) (∀t,H8 t=none→Q SI (UX t (.tup [.str "way",Tg,.str e.2.1[j]]))):=λhb=>by
    have hf:(zb0 es).find? LB=some (e.1,e.2.1[j]):=by
     subst kF;obtain⟨B,eB⟩:=ties_take ao hj;rw[eB,Xp,Yx.mpr (λp hp=>?_),Wj hb]
     ·rfl
     rcases Qg.mp hp with z|z
     ·rw[on p z];decide
     obtain⟨x,hx,rfl⟩:=Ql.mp z;rw[gw x hx];decide
    exact⟨(Ft 3),λt ft=>k t ["way",e.1,e.2.1[j]] _ (.ow es _ af hE bY hf) zab (mw.trans (FM ft))⟩
   refine⟨A5,A5,rfl,A5,?_⟩;by_cases am:e.2.1[j]=e.1
   ·obtain⟨l3,q3⟩:=bad (Gh (.inl am));exact zay (Gh (by rw[am])) (iteT ⟨_,rfl,_,rfl,l3,q3⟩)
   refine zal (decide_eq_false (λq=>am (by injection q))) ?_;have dg:=DGet.k (k:=Sum.inr e.2.1[j]) g8;by_cases av:e.2.1[j]∈es.map (·.1)
   ·obtain⟨e',cv,gF⟩:=Ql.mp av;have gF:e'.1=e.2.1[j]:=gF;have hr8:H8 e'.2.2=some Pf:=((lC.trans k7).trans k8) _ _ (i7.ro e' cv) Fr;have eU:ZO e.2.1[j]=e'.2.1:=by rw[←gF];exact zbw aR cv
    rw[←gF,zf8 aR cv,gF]at dg;refine⟨A5,A5,d,A5,dg,A5,W0 ?_⟩;refine⟨A5,A5,A5,d,A5,dg,e'.2.2,A5,HJ hr8,rfl,zcx _,A5,?_⟩;rw[if_pos rfl,zeg];by_cases hm:e.1∈e'.2.1
    ·refine zal (by rw[Gh hm];rfl) ⟨λx hx=>?_,k8,_,rfl⟩;rw[Qj hj]at hx;rcases Qg.mp hx with z|z
     ·exact gw x z
     rw[Cz];exact decide_eq_false λq=>q.elim am λq=>q (FA eU hm)
    obtain⟨l3,q3⟩:=bad (Gh (Ru (by rw[eU];exact hm)));exact zay (by rw[decide_eq_false hm];rfl) ⟨_,rfl,_,rfl,l3,q3⟩
   rw[val_out av]at dg;obtain⟨l3,q3⟩:=bad (decide_eq_true (.inr (by rw[zdn (by unfold rsOf;rw[List.map_map];exact av)];simp)));exact⟨A5,A5,d,A5,dg,A5,WZ (iteT ⟨A5,A5,l3,q3⟩)⟩
  rintro σ H8 ⟨gw,k8,z5,rfl⟩;rw[Qa,Qm Gg]at gw;refine⟨λp hp=>?_,Sg k8,_,_,A5⟩;rw[tk c8]at hp;unfold zb0 at hp;rw[List.flatMap_append]at hp;rcases Qg.mp hp with z|z
  ·exact on p z
  rw[List.flatMap_cons,List.flatMap_nil,Zp]at z;obtain⟨x,hx,rfl⟩:=Ql.mp z;exact gw x hx
 rintro σ H7 ⟨on,k7,y1,y2,y5,rfl⟩;rw[eF,ties_all]at on;have qj:(zb0 es).find? LB=none:=Yx.mpr λp hp=>by rw[on p hp];decide
 obtain⟨cs,lab,Ct⟩:=(rows_sy bY qj).cert;have k27:=lC.trans k7;refine⟨A5,d,es,cs,lab,rfl,⟨Gm (k7 _ _ g6 Fr),aR,λe he=>k27 _ _ (i7.ro e he) Fr⟩,hJ,Ct,λfc Ls us H8 fq cY rO huo k8=>⟨_,rfl,?_⟩⟩;have tl:=Dues.fl es af hE bY qj cs lab Ct fc Ls us fq cY rO huo;have kk:=(mz.trans k27).trans k8;cases hf:(us.map λx=>ZS fc Le).find? badT with
 |none=>rw[hf]at tl;exact W0 ⟨t1,λt ft=>k t ["made"] _ tl zab EG⟩
 |some tt=>rw[hf]at tl;exact WZ ⟨t1,λt ft=>k t ["flat"] _ tl zab EG⟩
abbrev sOdd:Stmt:=top 34
inductive IspOdd(vs:List V)(H:Hp)(Q:VK):Prop
 |mk (p nl:Nc) (b m:Int) (zs:Nh) (h0:vs=[.ref p,.ref nl]) (h1:Pot H p b m) (h2:H nl=some (.lst (zs.map V.str))) (h3:zs.length≤100) (h4:∀z∈zs,zb6 z) (h5:∀(v:V) (b' m':Int) (H':Hp),Odd H' v→(∀a,v=.ref a→H a=none)→Pot H' p b' m'→Keep [p] H H'→Q v H'):IspOdd vs H Q
def spOdd:Sp:=λvs H Q _=>IspOdd vs H Q
def scOdd:zar [qP,qN, "_law_some", "_law_way"] [qP,qN] (zaj sOdd):=fsk
def ok_odd(F:Z1 "_law_odd" "_law_odd" sOdd f fd)(FT:RU)(bT:Z3 fdt [qP,qM] [])(mT:mg qG=some Cn)(GT:ZB 1 ft fdt [qP,qM] zfo)(aa:G'):ZB 2 f fd [qP,qN] spOdd:=by
 refine F.okL scOdd Fx;obtain⟨p,nl,b,m,zs,rfl,hp,cD,dz,dy,k⟩:=h;have aJ:=sizeLine_eq;refine⟨_,zae (BH scOdd.nd (za1 (zaa zfg (zaa zfg (zaa pe_non (QQ (zaa (pe_un un_neg zah) (zaa RD (DE (zaa (zbd Tu)
   (QK (QK (QK (QK (QK (QK (QK (QK Tu))))))))))))))))))
  (zae (BH scOdd.nd (W9 RM (za1 (QK (QK (Hf (zaq op_mul_str za4 zah)))))))
  (zae (JI scOdd.nd (ST (RJ (ZY zad))))
  (zae (Ep (XN HF (RJ Rg) HP) (O1 (Hq 2 3)))
  (zag (AE (QE (W9 RK (za1 Tu)) (ST (RJ (ZZ zad))) FV)))))),?_⟩
 refine⟨7,rfl,Tv,λl1 h1=>⟨SK,λl2 h2=>⟨SK,λl3 h3=>⟨(Ft 17),λso nC=>?_⟩⟩⟩⟩;have q1:Keep [] H (ZU l1 Ge):=Keep.new h1;have g1:(ZU l1 Ge) l1=some Ge:=zab;generalize ZU l1 Ge=H1 at q1 g1 h2 h3 nC;have q2:Keep [] H1 (QI l2 (.lst [.str "a"])):=Keep.new h2;have g2:(QI l2 (.lst [.str "a"])) l2=some (.lst [.str "a"]):=zab;generalize QI l2 (.lst [.str "a"])=H2 at q2 g2 h3 nC;have q3:Keep [] H2 (WD l3 (.tup [.str "a"])):=Keep.new h3;have g3:(WD l3 (.tup [.str "a"])) l3=some (.tup [.str "a"]):=zab;generalize WD l3 (.tup [.str "a"])=H3 at q3 g3 nC;have f1:H l1=none:=h1;have f2:H l2=none:=zap q1 h2 Fr;have f3:H l3=none:=zap (q1.trans q2) h3 Fr;have tx:∀{H':Hp} (z:Str),z.cps.all (· < 128)=true→z.cps.size≤1000→Odd H' To:=λz a b=>.tx z a b;generalize il:[Tk,RZ,.non,Rq 0,Rq (-7),Fu l1,Fu l2,Fu l3,.str "",.str "abcdefghi",.str "A",.str "aB",.str "a1",.str "a b",.str "a-",.str " a",.str "a\n"]=xs at nC;have hlx:xs.length=17:=by rw[←il];rfl
 have hox:∀v∈xs,Odd H3 v∧∀a,v=.ref a→H a=none:=by
  rw[←il];intro v hv;simp only[Qi,Jr,or_false]at hv;rcases hv with rfl|rfl|rfl|rfl|rfl|rfl|rfl|rfl|rfl|rfl|rfl|rfl|rfl|rfl|rfl|rfl|rfl
  ·exact⟨O5,λa e=>by cases e⟩
  ·exact⟨O5,λa e=>by cases e⟩
  ·exact⟨.non,λa e=>by cases e⟩
  ·exact⟨Rq _,λa e=>by cases e⟩
  ·exact⟨Rq _,λa e=>by cases e⟩
  ·exact⟨.ls l1 _ (II (q2.trans q3) g1),λa e=>by cases e;exact f1⟩
  ·exact⟨.ls l2 _ (q3 _ _ g2 Fr),λa e=>by cases e;exact f2⟩
  ·exact⟨.tp l3 _ g3,λa e=>by cases e;exact f3⟩
  all_goals exact⟨.tx _ FK FK,λa e=>by cases e⟩
 generalize fE:WK so _=H4;obtain⟨q4,g4⟩:=nwk nC fE;refine⟨A5,_,300,rfl,rfl,Fw,Fw,(Ft 3),λs2 de=>?_⟩;have jY:(Txt.mul "a" (300:Nat)).cps.all (· < 128)=true∧(Txt.mul "a" (300:Nat)).cps.size≤1000:=by decide+kernel
 generalize Txt.mul "a" ((300:Nat):Int)=big at de jY;generalize ic:QJ s2 _=H5;obtain⟨q5,g5⟩:=nwk de ic;refine⟨so,s2,_,A5,rfl,q5 _ _ g4 Fr,g5,(by rw[hlx];show 17+3≤sizeLine;decide),λs3 qd=>?_⟩;have hoy:∀v∈xs++[V.str "zzzzzzzz",.str "zzzzzzzy",Hy big],Odd H5 v∧∀a,v=.ref a→H a=none:=λv hv=>by
  rcases Qg.mp hv with z|z
  ·exact⟨(hox v z).1.keep (q4.trans q5),(hox v z).2⟩
  simp only[Qi,Jr,or_false]at z;rcases z with rfl|rfl|rfl
  ·exact⟨.tx _ FK FK,λa e=>by cases e⟩
  ·exact⟨.tx _ FK FK,λa e=>by cases e⟩
  exact⟨.tx _ jY.1 jY.2,λa e=>by cases e⟩
 have kb:(xs++[V.str "zzzzzzzz",.str "zzzzzzzy",Hy big]).length=20:=by rw[Qk,hlx];rfl
 generalize xs++[V.str "zzzzzzzz",.str "zzzzzzzy",Hy big]=ys at qd hoy kb;generalize jg:QF s3 _=H6;obtain⟨q6,g6⟩:=nwk qd jg;have k6:Keep [] H H6:=(((((q1.trans q2).trans q3).trans q4).trans q5).trans q6);have cT:=hp.keep k6 Fr;refine⟨A5,A5,s3,A5,HJ g6,_,A5,rfl,p,b,m,A5,cT,(by rw[kb];decide),(by rw[kb];decide),λj b7 m7 H7 h0 h1 az lx=>?_⟩;have pP:Keep [p] H6 H7:=za7 lx;have nsp:s3≠p:=λz=>by have:=k6 _ _ hp.1 Fr;rw[←z,g6]at this;have:=congrArg (λo:Option HO=>match o with|some (.lst l)=>l.length|_=>0) this;simp[kb]at this
 have g7:=pP _ _ g6 (Fv nsp);have k7:Keep [p] H H7:=(k6.sub Fr).trans pP;obtain⟨jn,rfl⟩:=Zi h0;have rg:∀v∈ys,Odd H7 v∧∀a,v=.ref a→H a=none:=λv hv=>by
  obtain⟨o5,fr⟩:=hoy v hv;refine⟨?_,fr⟩;cases o5.keep q6 with
  |tx z h h2=>exact .tx z h h2
  |non=>exact .non
  |bl b=>exact .bl b
  |int i=>exact .int i
  |ls a xs h=>exact .ls a xs Im
  |tp a xs h=>exact .tp a xs Im
 refine⟨A5,A5,s3,A5,HJ g7,_,A5,rfl,A5,?_⟩;by_cases hj:jn<20
 ·refine zay (Gh (by rw[kb];show (jn:Int) < 20;lia)) ?_;have hjy:jn<ys.length:=by rw[kb];exact hj
  obtain⟨o7,fr⟩:=rg _ (Qn hjy);exact⟨A5,A5,s3,_,_,ys[jn],rfl,rfl,FH g7,zav (Qb hjy),k _ b7 m7 H7 o7 fr az k7⟩
 refine zal (Gx (by rw[kb];show ¬ (jn:Int) < 20;lia)) ?_;have nnp:nl≠p:=λz=>by
  have:=hp.1;rw[←z,cD]at this;cases zs with
  |nil=>cases this
  |cons a t=>cases this
 have gf:=k7 _ _ cD (Fv nnp);refine⟨A5,SK,λu hu=>?_⟩;refine⟨nl,u,_,A5,rfl,(Keep.new (xs:=[]) hu) _ _ gf Fr,zab,(by rw[Qa];show _+1≤sizeLine;lia),λu2 rQ=>?_⟩;have q8:Keep [] H7 (Ij (JP u (.lst [.str "zzzzzzzx"])) u2 (FJ (zs.map V.str++[.str "zzzzzzzx"]))):=(FM hu).trans (FM rQ);have g8:(Ij (JP u (.lst [.str "zzzzzzzx"])) u2 (FJ (zs.map V.str++[.str "zzzzzzzx"]))) u2=some (FJ (zs.map V.str++[.str "zzzzzzzx"])):=zab;generalize upd (JP u (.lst [.str "zzzzzzzx"])) u2 (FJ (zs.map V.str++[.str "zzzzzzzx"]))=H8 at q8 g8;have fZ:=az.keep q8 Fr;refine⟨A5,A5,nl,A5,HJ (q8 _ _ gf Fr),_,A5,rfl,p,b7,m7,A5,fZ,Rx,Rx,λj9 b9 m9 H9 h90 h91 jO ms=>?_⟩;obtain⟨j9n,rfl⟩:=Zi h90;rw[Qa]at h91;have k89:Keep [p] H8 H9:=za7 ms;have nup:u2≠p:=λz=>by have h:=fZ.1;rw[←z,g8]at h;have:=congrArg (λo:Option HO=>match o with|some (.lst l)=>l.getLast? | _=>none) h;simp at this
 have g9:=k89 _ _ g8 (Fv nup);have hjl:j9n<(zs++[("zzzzzzzx" : Str)]).length:=by rw[Qk,Wk];lia
 have cX:(zs.map V.str++[.str "zzzzzzzx"])[j9n]?=some (.str (zs++[("zzzzzzzx" : Str)])[j9n]):=by rw[show zs.map V.str++[.str "zzzzzzzx"]=(zs++[("zzzzzzzx" : Str)]).map V.str by rw[Qr];rfl,Qt,Qb hjl];rfl
 have jV:zb6 (zs++[("zzzzzzzx" : Str)])[j9n]:=by
  rcases Qg.mp (Qn hjl) with z|z
  ·exact dy _ z
  rw[Qd.mp z];exact zis.mp FK
 exact⟨u2,_,_,A5,rfl,FH g9,zav cX,k _ b9 m9 H9 (zio jV) (λa e=>by cases e) jO ((Sg (q8.sub Fr)).trans k89)⟩
abbrev zif:Stmt:=top 35
structure RowO(n:Nat)(H:Hp)(p l:Nc)(r:Ro):Prop where
 ln:r.2.1.length≤n
 ro:H r.2.2=some Ci
 np:r.2.2≠p
 nl:r.2.2≠l
 od:∀v∈r.1::r.2.1,V2 v∧∀a,v=.ref a→a≠p∧a≠l
def Odd.keepX{H H':Hp}{v:V}{xs:Nl}(h:V2 v)(k:WY H')(hn:∀a,v=.ref a→a∉xs):Odd H' v:=by
 cases h with
 |tx z h h2=>exact .tx z h h2
 |non=>exact .non
 |bl b=>exact .bl b
 |int i=>exact .int i
 |ls a xs h=>exact .ls a xs AO
 |tp a xs h=>exact .tp a xs AO
def RowO.keep{n:Nat}{H H':Hp}{p l:Nc}{r:Ro}(h:K8 r)(k:Keep [p,l] H H'):RowO n H' p l r:=
 ⟨h.ln,k _ _ h.ro (by simp[h.np,h.nl]),h.np,h.nl,λv hv=>⟨(h.od v hv).1.keepX k λa e=>by simp[(h.od v hv).2 a e],(h.od v hv).2⟩⟩
structure SpAt(n:Nat)(H:Hp)(p l:Nc)(as:Nl)(rs:List Ro):Prop where
 ls:H l=some Hs
 ts:Paired (λa (r:Ro)=>H a=some (.tup [r.1,TZ])) as rs
 ok:∀r∈rs,K8 r
def SpAt.keep{n:Nat}{H H':Hp}{p l:Nc}{as:Nl}{rs:List Ro}{b m:Int}(h:BX rs)(hp:Vg m)(k:Keep [p] H H')(am:l≠p):SpAt n H' p l as rs:=by refine⟨k _ _ h.ls (Fv am),Paired.imp' (λa r e=>k _ _ e ?_) h.ts,λr hr=>(h.ok r hr).keep (k.sub Fr)⟩;simpa using MI hp.1 FG
def SpAt.put{n:Nat}{H:Hp}{p l:Nc}{aI:Nl}{aN:List Ro}{xs:List V}(hl:H l=some Sk)(ht:Paired (λa (r:Ro)=>H a=some (.tup [r.1,TZ])) aI aN)(ok:∀r∈aN,K8 r):SpAt n (RC l OA) p l aI aN:=by have k:Keep [l] H (RC l OA):=Keep.wr Fr;refine⟨zab,Paired.imp' (λa r e=>k _ _ e ?_) ht,λr hr=>(ok r hr).keep (k.sub Fr)⟩;simpa using MI hl FG
theorem map_erase{α β:Type}(f:α→β):∀(l:List α) (i:Nat),(Om f).eraseIdx i=(l.eraseIdx i).map f
 |[],_=>rfl
 |_::_,0=>rfl
 |a::l,i+1=>congrArg (f a::·) (map_erase f l i)
theorem zhm{α β:Type}{R:α→β→Prop}:∀{as:List α} {bs:List β},QV as bs→∀(i:Nat) {a:α} {b:β},R a b→QV (as.set i a) (bs.set i b)
 |_,_,.nil,_,_,_,_=>.nil
 |_,_,.cons _ t,0,_,_,h=>.cons h t
 |_,_,.cons r t,i+1,_,_,h=>.cons r (zhm t i h)
theorem zfu{α β:Type}{R:α→β→Prop}:∀{as:List α} {bs:List β},QV as bs→∀(i:Nat),QV (as.eraseIdx i) (bs.eraseIdx i)
 |_,_,.nil,_=>.nil
 |_,_,.cons _ t,0=>t
 |_,_,.cons r t,i+1=>.cons r (zfu t i)
def cut_any(xs:List V)(k:Nat):MQ (some (k:Int)) none=xs.drop k:=by
 by_cases h:k≤xs.length
 ·exact zd1 h
 unfold cutV;have e1:QP 0 (some (k:Int))=xs.length:=by rw[HT.sIx_nat];lia
 rw[e1,List.drop_length,List.drop_eq_nil_of_le Fs];simp
inductive IspSpoilt(vs:List V)(H:Hp)(Q:VK):Prop
 | mk (n:Nat) (p l nl:Nc) (b m:Int) (as:Nl) (rs:List Ro) (zs:Nh) (h0:vs=[.ref p,.ref l,.ref nl]) (h1:Pot H p b m) (h2:SpAt n H p l as rs) (h3:0 < rs.length) (h4:rs.length≤40) (hn:n≤50) (h5:H nl=some (.lst (zs.map V.str))) (h6:zs.length≤100) (h7:∀ z∈zs,zb6 z) (h8:l≠p)
   (h9:∀(b' m':Int) (aI:List Addr) (aN:List Ro) (H':Hp),SpAt (n+1) H' p l aI aN→aN.length≤rs.length+1→Q5 m'→Keep [p,l] H H'→Q .non H'):IspSpoilt vs H Q
def spSpoilt:Sp:=λvs H Q _=>IspSpoilt vs H Q
def zdd:zar [qP, "_law_rows_here",qN, "_law_at", "_law_place", "_law_around", "_law_thing", "_law_way", "_law_spot"] [qP, "_law_rows_here",qN] (zaj zif):=fsk
def ok_spoilt(F:Z1 "_law_spoilt" "_law_spoilt" zif f fd)(FT:RU)(bT:Z3 fdt [qP,qM] [])(mT:mg qG=some Cn)(GT:ZB 1 ft fdt [qP,qM] zfo)(FO:Z1 "_law_odd" "_law_odd" sOdd fo fdo)(bO:Z3 fdo [qP,qN] [])(mO:mg "_law_odd" = some (Fu fo))(GO:ZB 2 fo fdo [qP,qN] spOdd)(aa:G')(bq:mg "list" = none):ZB 3 f fd [qP, "_law_rows_here",qN] spSpoilt:=by
 refine F.okL zdd Fx;obtain⟨n,p,l,nl,b,m,as,rs,zs,rfl,hp,S,bg,bw,hn50,cD,dz,dy,gU,k⟩:=h;have aJ:=sizeLine_eq;have aV:Vk _:=hr.mono Fw;refine⟨_,zae (JI zdd.nd (SS Et))
  (zae (zft (Hq 1 3) (XM (zat (N0 zdd.nd) (LA (DW zdd.nd)))))
  (zae (N3 zdd.nd (M8 bO .nil zba (ZM Rg)))
  (zae (zas 7 zdd.nd Sn)
  (zae (zas 8 zdd.nd (SS (Hf (Es (RJ (WL zad))))))
  (zae (QO (RS (Bj SV)) zaw)
  (zae (OD (Lf (QU OT zah)))
  (zae (QO (RS (Q4 (Lf OT))) zaw)
  (zae (QO (RS (Q4 (Hf (W9 (YH zbu (zbx OT)) (YH (zbx (Es OT)) zbu))))) zaw)
  (zae (QO (zag (za2 (zcd Qz PySem.F.slot_list_pop PySem.F.type_list_pop mt_popAt RK Tt))) zaw)
  (zae (QO (zag (Eo RK (OE (zbd (Q4 OU))))) zaw)
  (zae (QO (zag (Eo RK (OE (zbd (Bj OU))))) zaw)
  (zag (OD (zaa (W9 Lc (za1 (Hf (QE Lc OT FV)))) zad)))))))))))))),?_⟩
 have bK:as.length=rs.length:=Zl S.ts;have dB:(as.map V.ref).length=rs.length:=by rw[Qa];exact bK
 refine⟨A5,A5,l,A5,Gm (SqL.of S.ls),p,b,m,A5,hp,Fs,Fs,λj1 b1 m1 H1 kE hj1 cg mv=>?_⟩;have k1:Keep [p] H H1:=za7 mv;have S1:=S.keep hp k1 gU;obtain⟨i,rfl⟩:=Zi kE;have hi:i<rs.length:=by lia
 have cV:i<as.length:=by lia
 obtain⟨_,aO⟩:=za0 S1.ts cV;have cS:=S1.ok _ C7;refine⟨A5,A5,l,_,_,A5,rfl,SqL.of S1.ls,zav (by rw[Qt,Qb cV];rfl),as[i],A5,HV aO,rfl,_,A5,_,A5,rfl,?_⟩;have nnp:nl≠p:=λz=>by
  have:=hp.1;rw[←z,cD]at this;cases zs with
  |nil=>cases this
  |cons a t=>cases this
 refine⟨A5,A5,p,nl,b1,m1,zs,rfl,cg,k1 _ _ cD (Fv nnp),dz,dy,λth b2 m2 H2 aZ bu aD k2=>?_⟩;have S2:=S1.keep cg k2 gU;refine⟨A5,p,b2,m2,A5,aD,Fw,Fw,λj3 b3 m3 H3 hw0 hw1 br ly=>?_⟩;have k3:Keep [p] H2 H3:=za7 ly;have S3:=S2.keep aD k3 gU;obtain⟨way,rfl⟩:=Zi hw0;have qe:=S3.ok _ C7;refine⟨A5,A5,rs[i].2.2,A5,Gm (SqL.of qe.ro),_,A5,rfl,p,b3,m3,A5,br,Fs,by have:=qe.ln;lia,λj4 b4 m4 H4 sg hs41 bp jl=>?_⟩;have k4:Keep [p] H3 H4:=za7 jl;have S4:=S3.keep br k4 gU;obtain⟨sp,rfl⟩:=Zi sg;have eS:sp≤rs[i].2.1.length:=by lia
 have bZ:=S4.ok _ C7;have thO:Odd H4 th∧∀a,th=.ref a→a≠p∧a≠l:=by have lQ:∀a,th=.ref a→a≠p∧a≠l:=λa e=>⟨Zd (zac cg.1 (bu a e)),Zd (zac S1.ls (bu a e))⟩;exact⟨aZ.keepX OL λa e=>by simpa using(lQ a e).1,lQ⟩
 have k04:Keep [p] H H4:=((SL k2).trans k3).trans k4;have aF:=S4.ls;have pC:∀r,RowO n H4 p l r→RowO (n+1) H4 p l r:=λr h=>⟨Ji h.ln,h.ro,h.np,h.nl,h.od⟩;have gM:Q .non H4:=k b4 m4 as rs H4 ⟨S4.ls,S4.ts,λr hr=>pC r (D4 hr)⟩ (Um _) bp (k04.sub Fr);have fin:∀(aI:Nl) (aN:List Ro) (H5:Hp),Keep [] H4 H5→Paired (λa (r:Ro)=>H5 a=some (.tup [r.1,TZ])) aI aN→(∀r∈aN,RowO (n+1) H5 p l r)→aN.length≤rs.length+1→Q .non (QF l (FJ OA)):=λaI aN H5 k5 ht ok hl=>by have dU:=k5 _ _ aF Fr;refine k b4 m4 aI aN _ (SpAt.put dU ht ok) hl ((bp.keep k5 Fr).keep (xs:=[l]) Ho (Hb gU)) (((k04.sub Fr).trans IH).trans Ho)
 have hw8:way<8:=by lia
 have kn:∀{H5:Hp} {a:Nc} {o:HO},H5 a=none→Keep [] H5 (QF a o):=λh=>Keep.new h;have ixi:ixN (as.map V.ref).length (i:Int)=some i:=by rw[dB];unfold ixN;rw[if_pos Fs,if_pos Fs];simp
 have put:∀(t:Nc) (r':Ro) (H5:Hp),Keep [] H4 H5→H5 t=some (.tup [r'.1,.ref r'.2.2])→RowO (n+1) H5 p l r'→Q .non (QF l (FJ ((as.map V.ref).set i SI))):=λt r' H5 k5 e5 ho=>by
  rw[←List.map_set];refine fin (as.set i t) (rs.set i r') H5 k5 ?_ (λr hr=>?_) (by rw[Us];exact Um _)
  ·exact zhm (Paired.imp' (λa r e=>k5 _ _ e Fr) S4.ts) i e5
  rcases List.mem_or_eq_of_mem_set hr with z|z
  ·exact((pC r (D4 z)).keep IH)
  exact z▸ho
 have app:∀(t:Nc) (r':Ro) (H5:Hp),Keep [] H4 H5→H5 t=some (.tup [r'.1,.ref r'.2.2])→RowO (n+1) H5 p l r'→Q .non (QF l (Hn t)):=λt r' H5 k5 e5 ho=>by
  rw[show as.map V.ref++[SI]=(as++[t]).map V.ref by simp];refine fin (as++[t]) (rs++[r']) H5 k5 ?_ (λr hr=>?_) (by rw[Qk];exact Qh _)
  ·exact zao (Paired.imp' (λa r e=>k5 _ _ e Fr) S4.ts) (HY e5)
  rcases Qg.mp hr with z|z
  ·exact((pC r (D4 z)).keep IH)
  rw[Qd.mp z];exact ho
 have row:∀(v:V) (ys:List V) (a:Nc) (H5:Hp),Keep [] H4 H5→H5 a=some Pz→a≠p→a≠l→ys.length≤n+1→(∀v'∈v::ys,v'=th∨v'∈rs[i].1::rs[i].2.1)→RowO (n+1) H5 p l (v,ys,a):=λv ys a H5 k5 e5 np lq hl hm=>⟨hl,e5,np,lq,λv' hv=>by
  rcases hm v' hv with rfl|z
  ·exact⟨thO.1.keepX k5 λ_ _=>by simp,thO.2⟩
  exact⟨(bZ.od v' z).1.keepX k5 λ_ _=>by simp,(bZ.od v' z).2⟩⟩
 have kh:=bZ.ln;have c1:cutV rs[i].2.1 none (some (sp:Int))=rs[i].2.1.take sp:=zhx eS;have c3:cutV rs[i].2.1 (He ((sp:Int)+1)) none=rs[i].2.1.drop (sp+1):=cut_any _ (sp+1);have c2:cutV rs[i].2.1 (some (sp:Int)) none=rs[i].2.1.drop sp:=cut_any _ sp;have mT:∀v∈rs[i].2.1.take sp,v∈rs[i].1::rs[i].2.1:=λv h=>QM (Wh h);have mD:∀k,∀v∈rs[i].2.1.drop k,v∈rs[i].1::rs[i].2.1:=λk v h=>QM (Wp h);have lT:(rs[i].2.1.take sp).length=sp:=by rw[Ze];lia
 have lD:∀k,(rs[i].2.1.drop k).length=rs[i].2.1.length-k:=λk=>Yu;have f9:∀{H5:Hp} {a:Nc},Keep [] H4 H5→H5 a=none→a≠p∧a≠l:=λk5 e=>⟨Zd (A0 (k5 _ _ bp.1 Fr) e),Zd (A0 (k5 _ _ aF Fr) e)⟩;rcases way with _|_|_|_|_|_|_|_|way
 ·refine⟨_,rfl,rfl,_,rfl,zay Fr ?_⟩;refine⟨A5,A5,Sq,λt ht=>⟨_,rfl,_,rfl,l,_,_,i,rfl,rfl,(kn ht) _ _ aF Fr,ixi,?_⟩⟩;refine⟨A5,rfl,A5,zal Fr (iteF ?_)⟩;refine⟨A5,rfl,A5,Gb⟩;refine⟨A5,rfl,A5,Gb⟩;refine⟨A5,rfl,A5,Gb⟩;refine⟨A5,rfl,A5,Gb⟩;refine⟨A5,rfl,A5,Gb⟩;refine⟨A5,rfl,A5,zal Fr (iteF ?_)⟩;exact put t (th,rs[i].2.1,rs[i].2.2) _ (kn ht) zab (JK (kn ht) ((kn ht) _ _ bZ.ro Fr) bZ.np bZ.nl (Ji kh) (λv hv=>by
   rcases Qi.mp hv with z|z
   ·exact .inl z
   exact .inr Iz))
 ·refine⟨_,rfl,rfl,_,rfl,Gb⟩;refine⟨A5,rfl,A5,zay Fr ?_⟩;refine⟨A5,A5,rs[i].2.2,A5,Gm Sz,_,A5,rfl,A5,?_⟩;by_cases ad:sp<rs[i].2.1.length
  ·refine zay (Gh (by show (sp:Int) < (rs[i].2.1.length:Int);lia)) ?_;refine⟨A5,A5,A5,A5,rs[i].2.2,A5,Sz,λp1 h1=>?_⟩;rw[c1];have k5:Keep [] H4 (QJ p1 Hi):=kn h1;have e1:(QJ p1 Hi) p1=some Hi:=zab;generalize QJ p1 Hi=H5 at k5 e1;refine⟨A5,SK,λp2 h2=>⟨p1,p2,_,_,rfl,rfl,(kn h2) _ _ e1 Fr,zab,(by rw[lT];show sp+1≤sizeLine;lia),λp3 h3=>?_⟩⟩;have k6:Keep [] H4 (LD p2 (.lst [th]) p3 Hj):=k5.trans ((kn h2).trans (kn h3));have e2:(LD p2 (.lst [th]) p3 Hj) p3=some (FJ Hj):=zab;generalize upd (QF p2 (.lst [th])) p3 (FJ Hj)=H6 at k6 e2;refine⟨A5,A5,_,A5,rfl,A5,rs[i].2.2,A5,FH (k6 _ _ bZ.ro Fr),λp4 h4=>?_⟩;rw[c3];have k7:Keep [] H4 (U9 p4 Hk):=k6.trans (kn h4);have e3:(U9 p4 Hk) p4=some Hk:=zab;have e4:(U9 p4 Hk) p3=some (FJ (Hj)):=(kn h4) _ _ e2 Fr;generalize U9 p4 Hk=H7 at k7 e3 e4;refine⟨p3,p4,_,A5,rfl,e4,e3,(by simp only[Qk,Za,We,lT,lD];lia),λp5 h5=>⟨Sq,λt ht=>⟨_,rfl,_,rfl,l,_,_,i,rfl,rfl,(Sg (GH h5)) _ _ aF Fr,ixi,?_⟩⟩⟩;refine⟨A5,rfl,A5,Gb⟩;refine⟨A5,rfl,A5,Gb⟩;refine⟨A5,rfl,A5,Gb⟩;refine⟨A5,rfl,A5,Gb⟩;refine⟨A5,rfl,A5,Gb⟩;refine⟨A5,rfl,A5,zal Fr (iteF ?_)⟩;exact put t (rs[i].1,Hj++rs[i].2.1.drop (sp+1),p5) _ Lm zab (JK Lm OC (f9 k7 h5).1 (f9 k7 h5).2 (by simp only[Qk,Za,We,lT,lD];lia) (λv hv=>by
    simp only[Qi,Qg,Jr,or_false]at hv;rcases hv with z|(z|z)|z
    ·exact .inr (z▸Qc)
    ·exact .inr (mT v z)
    ·exact .inl z
    exact .inr (mD _ v z)))
  refine zal (Gx (by show ¬ (sp:Int) < (rs[i].2.1.length:Int);lia)) ?_;refine⟨A5,rfl,A5,Gb⟩;refine⟨A5,rfl,A5,Gb⟩;refine⟨A5,rfl,A5,Gb⟩;refine⟨A5,rfl,A5,Gb⟩;refine⟨A5,rfl,A5,Gb⟩;refine⟨A5,rfl,A5,zal Fr (iteF ?_)⟩;exact gM
 ·refine⟨_,rfl,rfl,_,rfl,Gb⟩;refine⟨A5,rfl,A5,zal Fr (iteF ?_)⟩;refine⟨A5,rfl,A5,zay Fr ?_⟩;refine⟨A5,A5,A5,A5,rs[i].2.2,A5,Sz,λp1 h1=>?_⟩;rw[c1];have k5:Keep [] H4 (QJ p1 Hi):=kn h1;have e1:(QJ p1 Hi) p1=some Hi:=zab;generalize QJ p1 Hi=H5 at k5 e1;refine⟨A5,SK,λp2 h2=>⟨p1,p2,_,_,rfl,rfl,(kn h2) _ _ e1 Fr,zab,(by rw[lT];show sp+1≤sizeLine;lia),λp3 h3=>?_⟩⟩;have k6:Keep [] H4 (LD p2 (.lst [th]) p3 Hj):=k5.trans ((kn h2).trans (kn h3));have e2:(LD p2 (.lst [th]) p3 Hj) p3=some (FJ Hj):=zab;generalize upd (QF p2 (.lst [th])) p3 (FJ Hj)=H6 at k6 e2;refine⟨A5,A5,A5,rs[i].2.2,A5,FH (k6 _ _ bZ.ro Fr),λp4 h4=>?_⟩;rw[c2];have k7:Keep [] H4 (U9 p4 (FJ (rs[i].2.1.drop sp))):=k6.trans (kn h4);have e3:(U9 p4 (FJ (rs[i].2.1.drop sp))) p4=some (FJ (rs[i].2.1.drop sp)):=zab;have e4:(U9 p4 (FJ (rs[i].2.1.drop sp))) p3=some (FJ (Hj)):=(kn h4) _ _ e2 Fr;generalize U9 p4 (FJ (rs[i].2.1.drop sp))=H7 at k7 e3 e4;refine⟨p3,p4,_,A5,rfl,e4,e3,(by simp only[Qk,Za,We,lT,lD];lia),λp5 h5=>⟨Sq,λt ht=>⟨_,rfl,_,rfl,l,_,_,i,rfl,rfl,(Sg (GH h5)) _ _ aF Fr,ixi,?_⟩⟩⟩;refine⟨A5,rfl,A5,Gb⟩;refine⟨A5,rfl,A5,Gb⟩;refine⟨A5,rfl,A5,Gb⟩;refine⟨A5,rfl,A5,Gb⟩;refine⟨A5,rfl,A5,zal Fr (iteF ?_)⟩;exact put t (rs[i].1,Hj++rs[i].2.1.drop sp,p5) _ Lm zab (JK Lm OC (f9 k7 h5).1 (f9 k7 h5).2 (by simp only[Qk,Za,We,lT,lD];lia) (λv hv=>by
   simp only[Qi,Qg,Jr,or_false]at hv;rcases hv with z|(z|z)|z
   ·exact .inr (z▸Qc)
   ·exact .inr (mT v z)
   ·exact .inl z
   exact .inr (mD _ v z)))
 ·refine⟨_,rfl,rfl,_,rfl,Gb⟩;refine⟨A5,rfl,A5,zal Fr (iteF ?_)⟩;refine⟨A5,rfl,A5,Gb⟩;refine⟨A5,rfl,A5,zay Fr ?_⟩;refine⟨A5,A5,A5,A5,rs[i].2.2,A5,Sz,λp1 h1=>?_⟩;rw[c1];have k5:Keep [] H4 (QJ p1 Hi):=kn h1;have e1:(QJ p1 Hi) p1=some Hi:=zab;generalize QJ p1 Hi=H5 at k5 e1;refine⟨A5,A5,_,A5,rfl,A5,rs[i].2.2,A5,FH (k5 _ _ bZ.ro Fr),λp4 h4=>?_⟩;rw[c3];have k7:Keep [] H4 (QF p4 Hk):=k5.trans (kn h4);have e3:(QF p4 Hk) p4=some Hk:=zab;have e4:(QF p4 Hk) p1=some Hi:=(kn h4) _ _ e1 Fr;generalize QF p4 Hk=H7 at k7 e3 e4;refine⟨p1,p4,_,A5,rfl,e4,e3,(by simp only[Qk,Za,We,lT,lD];lia),λp5 h5=>⟨Sq,λt ht=>⟨_,rfl,_,rfl,l,_,_,i,rfl,rfl,(Sg (GH h5)) _ _ aF Fr,ixi,?_⟩⟩⟩;refine⟨A5,rfl,A5,Gb⟩;refine⟨A5,rfl,A5,Gb⟩;refine⟨A5,rfl,A5,Gb⟩;refine⟨A5,rfl,A5,zal Fr (iteF ?_)⟩;exact put t (rs[i].1,rs[i].2.1.take sp++rs[i].2.1.drop (sp+1),p5) _ Lm zab (JK Lm OC (f9 k7 h5).1 (f9 k7 h5).2 (by simp only[Qk,Za,We,lT,lD];lia) (λv hv=>by
   simp only[Qi,Qg]at hv;rcases hv with z|z|z
   ·exact .inr (z▸Qc)
   ·exact .inr (mT v z)
   exact .inr (mD _ v z)))
 ·refine⟨_,rfl,rfl,_,rfl,Gb⟩;refine⟨A5,rfl,A5,zal Fr (iteF ?_)⟩;refine⟨A5,rfl,A5,Gb⟩;refine⟨A5,rfl,A5,Gb⟩;refine⟨A5,rfl,A5,zay Fr ?_⟩;refine⟨A5,Hd aF,A5,l,_,i,i,.ref as[i],rfl,rfl,aF,Fs,Fs,(ixN_seq ixi).1,(by rw[Qt,Qb cV];rfl),?_⟩;refine⟨A5,rfl,A5,Gb⟩;refine⟨A5,rfl,A5,Gb⟩;refine⟨A5,rfl,A5,zal Fr (iteF ?_)⟩;rw[map_erase];exact fin (as.eraseIdx i) (rs.eraseIdx i) H4 (λ_ _ h _=>h) (zfu S4.ts i) (λr hr=>pC r (D4 (List.mem_of_mem_eraseIdx hr))) (by have:=List.length_eraseIdx_le rs i;lia)
 ·refine⟨_,rfl,rfl,_,rfl,Gb⟩;refine⟨A5,rfl,A5,zal Fr (iteF ?_)⟩;refine⟨A5,rfl,A5,Gb⟩;refine⟨A5,rfl,A5,Gb⟩;refine⟨A5,rfl,A5,Gb⟩;refine⟨A5,rfl,A5,zay Fr ?_⟩;refine⟨A5,Hd aF,A5,A5,rs[i].2.2,A5,Gm Sz,λp1 h1=>⟨Sq,λt ht=>⟨l,_,_,rfl,rfl,(GH h1) _ _ aF Fr,(Gp dB),?_⟩⟩⟩;refine⟨A5,rfl,A5,Gb⟩;refine⟨A5,rfl,A5,zal Fr (iteF ?_)⟩;exact app t (rs[i].1,rs[i].2.1,p1) _ (GH h1) zab (JK (GH h1) OC (f9 (λ_ _ h _=>h) h1).1 (f9 (λ_ _ h _=>h) h1).2 (Ji kh) (λv hv=>by
   rcases Qi.mp hv with z|z
   ·exact .inr (z▸Qc)
   exact .inr Iz))
 ·refine⟨_,rfl,rfl,_,rfl,Gb⟩;refine⟨A5,rfl,A5,zal Fr (iteF ?_)⟩;refine⟨A5,rfl,A5,Gb⟩;refine⟨A5,rfl,A5,Gb⟩;refine⟨A5,rfl,A5,Gb⟩;refine⟨A5,rfl,A5,Gb⟩;refine⟨A5,rfl,A5,zay Fr ?_⟩;refine⟨A5,Hd aF,A5,A5,rs[i].2.2,A5,Gm Sz,λp1 h1=>⟨Sq,λt ht=>⟨l,_,_,rfl,rfl,(GH h1) _ _ aF Fr,(Gp dB),?_⟩⟩⟩;refine⟨A5,rfl,A5,zal Fr (iteF ?_)⟩;exact app t (th,rs[i].2.1,p1) _ (GH h1) zab (JK (GH h1) OC (f9 (λ_ _ h _=>h) h1).1 (f9 (λ_ _ h _=>h) h1).2 (Ji kh) (λv hv=>by
   rcases Qi.mp hv with z|z
   ·exact .inl z
   exact .inr Iz))
 ·refine⟨_,rfl,rfl,_,rfl,Gb⟩;refine⟨A5,rfl,A5,zal Fr (iteF ?_)⟩;refine⟨A5,rfl,A5,Gb⟩;refine⟨A5,rfl,A5,Gb⟩;refine⟨A5,rfl,A5,Gb⟩;refine⟨A5,rfl,A5,Gb⟩;refine⟨A5,rfl,A5,Gb⟩;refine⟨A5,rfl,A5,zay Fr ?_⟩;refine⟨A5,A5,rs[i].2.2,A5,Gm Sz,_,A5,rfl,A5,?_⟩;by_cases ad:sp<rs[i].2.1.length
  ·refine zay (Gh (by show (sp:Int) < (rs[i].2.1.length:Int);lia)) ?_;refine⟨A5,A5,A5,A5,rs[i].2.2,_,_,rs[i].2.1[sp],rfl,rfl,Sz,zav (Qb ad),SK,λp1 h1=>⟨rs[i].2.2,p1,_,_,rfl,rfl,(kn h1) _ _ bZ.ro Fr,zab,(by show _+1≤sizeLine;lia),λp2 h2=>⟨Sq,λt ht=>⟨_,rfl,_,rfl,l,_,_,i,rfl,rfl,((kn h1).trans (GH h2)) _ _ aF Fr,ixi,?_⟩⟩⟩⟩;exact put t (rs[i].1,rs[i].2.1++[rs[i].2.1[sp]],p2) _ ((kn h1).trans (GH h2)) zab (JK ((kn h1).trans (GH h2)) OC (f9 (kn h1) h2).1 (f9 (kn h1) h2).2 (by rw[Qk];show _+1≤_;lia) (λv hv=>by
    simp only[Qi,Qg,Jr,or_false]at hv;rcases hv with z|z|z
    ·exact .inr (z▸Qc)
    ·exact .inr Iz
    exact .inr (z▸QM (Qn ad))))
  refine zal (Gx (by show ¬ (sp:Int) < (rs[i].2.1.length:Int);lia)) ?_;exact gM
 exact absurd hw8 Fs
inductive IspDrawnO(vs:List V)(H:Hp)(Q:VK):Prop
 |mk (p:Nc) (b m:Int) (h0:vs=[.ref p]) (h1:Pot H p b m)
  (h2:∀(l:Addr) (as:List Addr) (rs:List Ro) (b' m':Int) (H':Hp),SpAt 43 H' p l as rs→rs.length≤40→l≠p→Q5 m'→Keep [p] H H'→Q Sh H'):IspDrawnO vs H Q
def spDrawnO:Sp:=λvs H Q _=>IspDrawnO vs H Q
def RowO.up{n n':Nat}{H:Hp}{p l:Nc}{r:Ro}(h:K8 r)(hn:n≤n'):RowO n' H p l r:=⟨Zf h.ln hn,h.ro,h.np,h.nl,h.od⟩
def SpAt.up{n n':Nat}{H:Hp}{p l:Nc}{as:Nl}{rs:List Ro}(h:BX rs)(hn:n≤n'):SpAt n' H p l as rs:=⟨h.ls,h.ts,λr hr=>(h.ok r hr).up hn⟩
def roE(e:Ent):Ro:=(Tg,HW,e.2.2)
def SpAt.of{H:Hp}{p l:Nc}{as:Nl}{es:List Ent}{b m:Int}(R:NX es)(hp:Vg m)(hl:l≠p)(cD:∀e∈es,e.2.2≠p∧e.2.2≠l)(hn:∀e∈es,e.2.1.length≤40∧zb6 e.1∧∀z∈e.2.1,zb6 z):SpAt 40 H p l as (RX roE):=by
 refine⟨R.ls,?_,λr hr=>?_⟩
 ·have:∀ {as:Nl} {es:List Ent},Paired (λa (e:Ent)=>H a=some (.tup [Tg,Si])) as es→Paired (λa (r:Ro)=>H a=some (.tup [r.1,TZ])) as (RX roE):=λh=>by
   induction h with
   |nil=>exact .nil
   |cons r _ ih=>exact .cons r ih
  exact this R.ts
 obtain⟨e,he,rfl⟩:=Ql.mp hr;refine⟨by show(e.2.1.map V.str).length≤40;rw[Qa];exact(hn e he).1,R.ro e he,(cD e he).1,(cD e he).2,λv hv=>?_⟩;rcases Qi.mp hv with z|z
 ·rw[z];exact⟨zio (hn e he).2.1,λa h=>by cases h⟩
 obtain⟨y,hy,rfl⟩:=Ql.mp z;exact⟨zio ((hn e he).2.2 y hy),λa h=>by cases h⟩
def zge:zar [qP,qR,qN, "_law_rows_here", "_law_k"] [qP] (zaj sDrawn):=fsk
def ok_drawn(F:Z1 "_law_drawn" "_law_drawn" sDrawn f fd)(FT:RU)(bT:Z3 fdt [qP,qM] [])(mT:mg qG=some Cn)(GT:ZB 1 ft fdt [qP,qM] zfo)(FR:Z1 "_law_rounds" "_law_rounds" zig fr fdr)(bR:Z3 fdr [qP, "_law_most"] [])(mR:mg "_law_rounds" = some (Fu fr))(GR:ZB 4 fr fdr [qP, "_law_most"] spRoundsD)(FS:Z1 "_law_spoilt" "_law_spoilt" zif fs fds)(bS:Z3 fds [qP, "_law_rows_here",qN] [])(mS:mg "_law_spoilt" = some (Fu fs))(GS:ZB 3 fs fds [qP, "_law_rows_here",qN] spSpoilt)(FW:Z1 "_law_rows" "_law_rows" sRows fw fdw)(bW:Z3 fdw [qP,qR,qN] [])(mW:mg "_law_rows" = some (Fu fw))(GW:ZB 2 fw fdw [qP,qR,qN] spRowsD)(FN:Z1 "_law_names" "_law_names" sNames fn fdn)(bN:Z3 fdn [qP,qM] [])(mN:mg "_law_names" = some (Fu fn))(GN:ZB 2 fn fdn [qP,qM] spNames)(aa:G')(bA:mg "range" = none):ZB 5 f fd [qP] spDrawnO:=by
 refine F.okL zge Fx;obtain⟨p,b,m,rfl,hp,k⟩:=h;have aV:Vk _:=hr.mono Fw;have eV:Room 2 _:=hr.mono Fw;have qe:Room 3 _:=hr.mono Fw;have hu:=zcm hr;have bX:=Jg hu;have aJ:=sizeLine_eq;refine⟨_,zae (X1 zge.nd (zam GR hr rfl mR FR.kp bR .nil zba (ZM (Pj (za1 (QQ (QQ (QQ Ia)))) Sn))))
  (zae (BH zge.nd (M7 bN .nil zba (ZM Et)))
  (zae (JI zge.nd (zam GW eV rfl mW FW.kp bW .nil zba (ZM (ZZ Rg))))
  (zae (QH (Bk (Hf Sn)) (N0 zge.nd)
   (zag (Ep (M' HF RD HP) (zag (za2 (zam GS qe rfl mS FS.kp bS .nil zba (ZM (Q3 Rg))))))))
  (zag (AE HF))))),?_⟩
 refine⟨A5,(Ft 4),λq hq=>?_⟩;generalize mh:ZU q _=H1;obtain⟨k1,lM⟩:=nwk hq mh;have cg:=hp.keep k1 Fr;refine⟨A5,p,b,m,4,rfl,cg,Fw,Fw,λj2 b2 m2 H2 h20 h21 aD mt=>?_⟩;obtain⟨j,rfl⟩:=Zi h20;have nqp:q≠p:=Zd (Mb hq);have cB:=mt _ _ lM nqp;have k2:Keep [p] H H2:=(k1.sub Fr).trans (za7 mt);have hj:j<4:=by lia
 obtain⟨n,hn,cX⟩:∃n:Nat,n≤16∧atI [Tc 12,Rq 12,Rq 12,Rq 16] (j:Int)=some (iV n):=by
  have:∀j:Fin 4,[Tc 12,Rq 12,Rq 12,Rq 16][j.1]?=some (iV ([12,12,12,16].getD j.1 0))∧[12,12,12,16].getD j.1 0≤16:=by decide
  exact⟨_,(this ⟨j,hj⟩).2,zav (this ⟨j,hj⟩).1⟩
 refine⟨q,_,_,A5,rfl,FH cB,cX,p,b2,m2,n,rfl,aD,Zf hn Fw,λl as rr b3 m3 H3 R3 hG bw br bH hl0 ha0 k3=>?_⟩;have iR:rr.length≤40:=by lia
 have nlp:=pot_l br R3;have nap:∀a∈as,a≠p:=λa ha z=>bH (z▸ha);have dB:(as.map V.ref).length=rr.length:=by rw[Qa];exact R3.len
 refine⟨A5,A5,l,A5,Gm TY,p,b3,m3,rr.length,by rw[dB];rfl,br,iR,λnl zs b4 m4 H4 cD dz dy dM bp sM k4=>?_⟩;have R4:=R3.keep k4 Tb λa ha=>by simpa using nap a ha
 refine⟨A5,A5,A5,p,l,nl,b4,m4,as,rr,zs,rfl,bp,R4,hG,iR,cD,dz,dy,dM,bH,λt bs es cs lab b5 m5 H5 W C hl ok bu aY ny k5=>?_⟩;have hJ:es.length≤16:=by lia
 have ntp:t≠p:=λz=>by
  have h:=aY.1;rw[←z,W.ls]at h;cases bs with
  |nil=>cases h
  |cons a t=>cases h
 have sL:∀e∈es,e.2.2≠p∧e.2.2≠t:=λe he=>⟨Zd (zac bp.1 (bu e he)),λz=>by
  have h:=W.ro e he;rw[z,W.ls]at h;have hb:bs.length=es.length:=Zl W.ts;have:=Ub he;cases bs with
  |nil=>rw[←hb]at this;cases this
  |cons a u=>
   cases h1:e.2.1 with
   |nil=>rw[h1]at h;cases h
   |cons c d=>rw[h1]at h;cases h⟩
 have sG:∀e∈es,e.2.1.length≤40∧zb6 e.1∧∀z∈e.2.1,zb6 z:=λe he=>by
  have ag:=zbw (es:=es) C.nd he;have av:∀y∈e.2.1,y∈es.map (·.1):=λy hy=>C.inn' (x:=e.1) (FA ag hy);refine⟨?_,(ok e he).1,λz hz=>?_⟩
  ·have h1:=C.rn e.1;rw[ag]at h1;have:=zcu h1 av;rw[Qa]at this;lia
  obtain⟨e',cv,rfl⟩:=Ql.mp (av z hz);exact(ok e' cv).1
 have hk5:Keep [p] H H5:=((TV k3).trans k4).trans k5;have fP:H t=none:=zap ((TV k3).trans k4) ny (Fv ntp);have S5:=SpAt.of W aY ntp sL sG;have nnl:nl≠p:=Zd (zac br.1 sM);have nZ:=k5 _ _ cD (Fv nnl);dsimp only[gName];refine⟨A5,p,b5,m5,A5,aY,Fw,Fw,λj6 b6 m6 H6 kE hj1 cT iL=>?_⟩;obtain⟨jn,rfl⟩:=Zi kE;have S6:=S5.keep aY Oy ntp;have k6:Keep [p] H H6:=hk5.trans Oy;have sK:=iL _ _ nZ nnl;refine⟨A5,Fs,Fs,?_⟩;refine zcw (lo:=0) (λi σ H'=>Aj4 (Ex1 λx4=>σ=[Fy p,Cp,Fy nl,Fy t,x4]) (Keep [p] H H') (H' nl=some Ch) (Ex4 λ(aI:Nl) (aN:List Ro) (b' m':Int)=>Aj3 (SpAt (40+i) H' p t aI aN) (aN.length≤16+i) P2)) ⟨⟨_,rfl⟩,k6,sK,bs,_,b6,m6,S6,AY hJ,cT⟩ ?_ ?_
 ·rintro i σ H7 hi ⟨⟨y4,rfl⟩,k7,gf,eJ,lm,b7,m7,S7,aK,az⟩;refine⟨A5,Tv,λq0 hq0=>?_⟩;have k8:Keep [] H7 (JP q0 Ge):=Keep.new hq0;have fZ:=az.keep k8 Fr;have S8:=S7.keep az AQ ntp;have gc:=k8 _ _ gf Fr;refine⟨t,q0,A5,rfl,SqL.of S8.ls,LN,A5,?_⟩;generalize JP q0 Ge=H8 at k8 fZ S8 gc;have bK:eJ.length=lm.length:=Zl S8.ts;by_cases he:eJ=[]
  ·refine zal (by rw[he];rfl) ?_;exact⟨⟨A5⟩,Sg AQ,gc,eJ,lm,b7,m7,S8.up Fs,Fs,fZ⟩
  refine zay (by cases z:eJ with|nil=>exact absurd z he|cons _ _=>rfl) ?_;have bg:0<lm.length:=by rw[←bK];exact Uf.mpr he
  have nlt:nl≠t:=λz=>by
   have h:=S8.ls;rw[←z,gc]at h;cases zs with
   |nil=>
    cases eJ with
    |nil=>exact he rfl
    |cons _ _=>cases h
   |cons _ _=>
    cases eJ with
    |nil=>exact he rfl
    |cons _ _=>cases h
  refine⟨A5,A5,A5,40+i,p,t,nl,b7,m7,eJ,lm,zs,rfl,fZ,S8,bg,Fs,Fs,gc,Fs,λz hz=>(dM z hz).1,ntp,λb9 m9 as9 rs9 H9 S9 hl9 jO k9=>?_⟩;have k9':Keep [p] H H9:=λc u ec hc=>k9 c u ((Sg AQ) c u ec hc) λz=>by
   rcases Qi.mp z with y|y
   ·exact hc (by rw[y];exact Qd.mpr rfl)
   rw[Qd.mp y,fP]at ec;cases ec
  exact⟨⟨A5⟩,k9',k9 _ _ gc (by simp[nnl,nlt]),as9,rs9,b9,m9,S9,Fs,jO⟩
 rintro σ H7 ⟨⟨y4,rfl⟩,k7,gf,eJ,lm,b7,m7,S7,aK,az⟩;exact⟨A5,k t eJ lm b7 m7 H7 (S7.up Fs) Fs ntp az k7⟩
abbrev SameR:List Ent→List Ent→Prop:=Paired λe' e=>e'.1=e.1∧e'.2.1=e.2.1
def sameR_rs(h:SameR aG es):rsOf aG=rsOf es:=by
 unfold rsOf;induction h with
 |nil=>rfl
 |cons h _ ih=>rw[Qo,Qo,ih,h.1,h.2]
def sameR_names(h:SameR aG es):aG.map (·.1)=es.map (·.1):=by
 induction h with
 |nil=>rfl
 |cons h _ ih=>rw[Qo,Qo,ih,h.1]
def fc_same{es ts:List Ent}{fc dE:List Ta}{Ls dv:List Gy}(S:Sy Gv Hv)(hn:(ts.map (·.1)).Perm Gv)(hr:∀x,∃k,X4 x=(ZO x).drop k++(ZO x).take k)(h1:fc.Perm ((zcv es).map sing++Ls.map nmL))(i1:JT Ls)(h2:dE.Perm ((zcv ts).map sing++dv.map nmL))(i2:XX dv):fc.Perm dE:=by
 have hp:∀x,(X4 x).Perm (ZO x):=λx=>by obtain⟨k,e⟩:=hr x;rw[e];exact zf3 _ k
 have f1:XX Ls:=i1.turn (λs=>(hp s.2).mem_iff.symm) λs hs=>by obtain⟨k,e⟩:=hr s.2;unfold st;rw[e,nxt_rot (S.rn _) k hs]
 have e1:(zcv es).Perm (zcv ts):=by
  rw[iso_eq S.nd,iso_eq (hn.nodup_iff.mpr S.nd)];have:(λx=>(X4 x).isEmpty)=λx=>(ZO x).isEmpty:=funext λx=>by have:=(hp x).length_eq;rw[Yw,List.isEmpty_iff_length_eq_zero,List.isEmpty_iff_length_eq_zero,this]
  rw[this];exact(hn.filter _).symm
 exact(h1.trans ((e1.map _).append ((f1.one i2).map _))).trans h2.symm
def lab_conn{ns:Nh}{r:Nt}{cs:List Gy}{lab:Nx}(C:W1 lab){x y:Str}(h:XF x y):lab y=lab x:=by
 induction h with
 |refl=>rfl
 |step _ hz ih=>rw[C.la _ _ hz,ih]
def lab_iff{ns:Nh}{r:Nt}{cs lg:List Gy}{lab dL:Nx}(C:W1 lab)(C':Cert ns r lg dL){x y:Str}(hx:x∈ns)(hy:y∈ns):lab y=lab x↔dL y=dL x:=
 ⟨λh=>lab_conn C' (N4 hy h.symm),λh=>lab_conn C (C'.co x hx y hy h.symm)⟩
def piece_lab{ns gP:Nh}{r:Nt}{cs lg:List Gy}{lab dL:Nx}{zs:Nh}(hn:gP.Perm ns)(C:W1 lab)(C':Cert ns r lg dL)(h:zdt gP lab zs):zdt gP dL zs:=by obtain⟨h1,s,hs,hm⟩:=h;refine⟨h1,s,hs,λy=>(hm y).trans ⟨λz=>⟨z.1,(Vb A3).mp z.2⟩,λz=>⟨z.1,(Vb A3).mpr z.2⟩⟩⟩
abbrev SmO:List Ro→List Ro→Prop:=Paired λr' r=>r'.1=r.1∧r'.2.1=r.2.1
def smo_ok{aN rs:List Ro}(h:Ak):aN.all okR=rs.all okR:=by
 induction h with
 |nil=>rfl
 |cons h _ ih=>rw[Ws,Ws,ih];unfold okR;rw[h.1,h.2]
theorem zgw:∀{xs ys:Nh},xs.map V.str=ys.map V.str→xs=ys
 |[],[],_=>rfl
 |[],_::_,h=>by cases h
 |_::_,[],h=>by cases h
 |x::xs,y::ys,h=>by rw[Qo,Qo]at h;injection h with h1 h2;injection h1 with h1;rw[h1,zgw h2]
def smo_es{aN rs:List Ro}(h:Ak):∀ {aG es:List Ent},RwE aN aG→Ma es→SameR aG es:=by
 induction h with
 |nil=>intro aG es h1 h2;cases h1;cases h2;exact .nil
 | cons h _ ih=>
  intro aG es h1 h2;cases h1 with
  | cons a1 b1=>
   cases h2 with
   |cons a2 b2=>
    refine .cons ⟨?_,zgw ?_⟩ (ih b1 b2)
    ·have:=a1.1.symm.trans (h.1.trans a2.1);injection this
    exact a1.2.1.symm.trans (h.2.trans a2.2.1)
def tw_rs(es:List Ent):twOk es=(((rsOf es).map (·.1))::(rsOf es).map (·.2)).all λzs=>decide zs.Nodup:=by unfold twOk rsOf;rw[List.map_map,List.map_map];rfl
def ties_rs(es:List Ent):zb0 es=(rsOf es).flatMap λp=>p.2.map λx=>(p.1,x):=by unfold zb0 rsOf;rw[List.flatMap_map]
def bad_rs{es aG:List Ent}(h:rsOf aG=rsOf es):zcl aG=zcl es:=by unfold zcl;rw[h]
def tells_due{aN rs:List Ro}{ws' ws:Nh}(s:Ak)(t:Tells aN ws')(d:Dues rs ws):ws'=ws:=by
 have ho:=smo_ok s;have key:∀{aG es:List Ent},RwE aN aG→Ma es→twOk aG=twOk es∧(zb0 aG).find? (zcl aG)=(zb0 es).find? LB:=λh1 h2=>by have e:=sameR_rs (smo_es s h1 h2);exact⟨by rw[tw_rs,tw_rs,e],by rw[ties_rs,ties_rs,bad_rs e,e]⟩
 cases t with
 |nm h=>
  cases d with
  |nm=>rfl
  |tw es h'=>rw[ho,h']at h;cases h
  |ow es p h'=>rw[ho,h']at h;cases h
  |fl es h'=>rw[ho,h']at h;cases h
 |tw es h hE h2=>
  cases d with
  |nm h'=>rw[ho,h']at h;cases h
  |tw=>rfl
  |ow aG p h' hE' fC=>rw[(Ml hE').1,fC]at h2;cases h2
  |fl aG h' hE' fC=>rw[(Ml hE').1,fC]at h2;cases h2
 |ow es p h hE h2 h3=>
  cases d with
  |nm h'=>rw[ho,h']at h;cases h
  |tw aG h' hE' fC=>rw[(Ml hE').1,fC]at h2;cases h2
  |ow aG p' h' hE' fC h3'=>rw[(Ml hE').2,h3']at h3;injection h3 with h3;rw[h3]
  |fl aG h' hE' fC h3'=>rw[(Ml hE').2,h3']at h3;cases h3
 | fl es h hE h2 h3 cs lab hC ts es2 fc zss Ls a1 a2 a3 a4 a5 a6=>
  cases d with
  |nm h'=>rw[ho,h']at h;cases h
  |tw aG h' hE' fC=>rw[(Ml hE').1,fC]at h2;cases h2
  |ow aG p' h' hE' fC h3'=>rw[(Ml hE').2,h3']at h3;cases h3
  | fl fs h' hE' fC h3' cs2 lab2 hC2 fc2 Ls2 us b1 b2 b3 b4=>
   have eT:=smo_es s hE hE';have gR:=sameR_rs eT;have jV:=sameR_names eT;have aR:=hC.nd;rw[←gR,←jV]at hC2;have jU:(ts.map (·.1)).Perm Gv:=by rw[zch a2];exact a1.map _
   have ag:=zfa a2 a1 aR;have hfc:fc2.Perm fc:=by
    have e1:(zcv fs).Perm (zcv es):=by rw[iso_eq (by rw[←jV];exact aR),iso_eq aR,jV,gR]
    refine fc_same hC.s jU ag ?_ (FA gR b2) a3 a4;exact b1.trans ((e1.map _).append Ad)
   have tO:=due_same (ns:=es.map (·.1)) (r:=row (rsOf es)) (r':=row (rsOf ts)) (lab:=lab2) (us:=us) (ws:=[]) aR jU (λx=>by obtain⟨k,e⟩:=ag x;rw[e,(zf3 _ k).length_eq]) hfc (λzs hz=>piece_lab jU hC hC2 (a5 zs hz)) a6 (FA jV b3) b4;rw[←jV,←gR,tO]
end
end K21
namespace L2
open PySem PySem.Spec PyProof.Rows
def okE:V→Bool
 |.ref _=>true
 |x=>zd3 x
def SameM(H:Hp):Nat→V→V→Prop
 |0,x,y=>okE x=true∧x=y
 |n+1,x,y=>(okE x=true∧x=y)∨∃a b xs ys,x=.ref a∧y=.ref b∧a≠b∧((H a=some Sk∧H b=some Pz)∨(H a=some Rl∧H b=some IO))∧Paired (D6 n) xs ys
section
variable{X:Cx}{a7:Nd}{σ:St}{H:Hp}{s:Ni}
def same_atM(I:Gj):∀ (n:Nat) (A:Np) (x y:V) (u v:Value),D6 n x y→WM u→YE v→A.units+n < cLine→UF true:=by
 have fl:∀(A:Np) (x y:V) (u v:Value),okE x=true∧x=y→WM u→YE v→UF true:=λA x y u v ⟨f,e⟩ rx ry=>by
  subst e;by_cases fx:zd3 x=true
  ·have:=eqAt_V (A:=A) (s:=s) rx ry fx fx;rw[eqV_self fx]at this;exact this
  cases x with
  |ref a=>cases rx;cases ry;exact SeqAt.EqAt.same _
  |_=>exact absurd (by simpa[okE] using f) fx
 intro n;induction n with
 |zero=>intro A x y u v h rx ry _;exact fl A x y u v h rx ry
 |succ n ih=>
  intro A x y u v h rx ry hu;rcases h with h|⟨a,b,xs,ys,rfl,rfl,ne,hc,pr⟩
  ·exact fl A x y u v h rx ry
  cases rx;cases ry;have bX:A.in1.units+n<cLine:=by have:A.in1.units=A.units+1:=rfl;lia
  have hu0:A.units<cLine:=by lia
  have hl:=Zl pr;refine SeqAt.EqAt.of_refs ne ?_;rcases hc with⟨h1,h2⟩|⟨h1,h2⟩
  ·obtain⟨a8,r,pl,_⟩:=I.list (X:=X) (FH h1);obtain⟨ak,r2,dI,_⟩:=I.list (X:=X) (FH h2);have l1:=r.length;have l2:=r2.length;have:=SeqAt.RcAt.lists (A:=A) (s:=s) (e:=λ_=>true) pl.isList dI.isList (by rw[Qp,Qp];lia) hu0 (zfk r r2 pr λx y u v q1 q2 q3=>ih A.in1 x y u v q1 q2 q3 bX);rw[show(List.range a8.toArray.size).all (λ_=>true)=true by simp]at this;exact this
  obtain⟨a8,r,pl,_⟩:=I.tuple (X:=X) (HV h1);obtain⟨ak,r2,dI,_⟩:=I.tuple (X:=X) (HV h2);have l1:=r.length;have l2:=r2.length;have:=SeqAt.RcAt.tuples (A:=A) (s:=s) (e:=λ_=>true) pl dI hu0 (zfk r r2 pr λx y u v q1 q2 q3=>ih A.in1 x y u v q1 q2 q3 bX);rw[show((Ry (min a8.toArray.size ak.toArray.size)).all (λ_=>true)&&a8.toArray.size==ak.toArray.size)=true by simp;lia]at this;exact this
def op_ne_deepM(hu:X.A.units+4<cLine):WB (λx y H Q=>Ex4 λa b xs ys=>Aj6 (x=.ref a) (y=.ref b) (H a=some Sk) (H b=some Pz) (Paired (D6 3) xs ys) (Q RZ H)):=by
 intro a7 s σ H x y v u Q I rx ry h;obtain⟨a,b,xs,ys,rfl,rfl,h1,h2,pr,q⟩:=h;cases rx;cases ry;obtain⟨a8,r,pl,_⟩:=I.list (X:=X) (FH h1);obtain⟨ak,r2,dI,_⟩:=I.list (X:=X) (FH h2);have l1:=r.length;have l2:=r2.length;have hl:=Zl pr;have bX:X.A.in1.units+3<cLine:=by have:X.A.in1.units=X.A.units+1:=rfl;lia
 refine SeqAt.RcNeAt.lists (e:=λ_=>true) pl.isList dI.isList (by rw[Qp,Qp];lia) Fs (zfk r r2 pr λx y u v q1 q2 q3=>same_atM I 3 X.A.in1 x y u v q1 q2 q3 bX) _ _ _ _ ⟨RZ,H,I,?_,q⟩;show Value.bool _=Value.bool false;simp
end
def zi5{X:Cx}{K:Na}(hK:X.K=K):YV (.type "list") (λxs H Q=>Ex2 λp ys=>Aj3 (xs=[Te]) ((W3 p ys)∨(UB p ys)) (∀l,H l=none→Q Sh (RC l ys))):=hK▸zc7
end L2
namespace K21
open PySem L2 Wb
abbrev sLaw:Stmt:=top 41
inductive IspLaw(K:Na)(vs:List V)(H:Hp)(Q:VK):Prop
 |mk (a:Nc) (ns:List Int) (h0:vs=[.ref a]) (h1:SqL K H a (ns.map V.int)) (h2:ns.length≤63) (h3:∀H',Q (.bl true) H'):IspLaw K vs H Q
def spLaw(K:Na):Sp:=λvs H Q _=>IspLaw K vs H Q
def ndLw:(["_law_place", "_law_around"]:List Str).Nodup:=by decide+kernel
def SpAt.ro{n:Nat}{H:Hp}{p l:Nc}{as:Nl}{rs:List Ro}(S:BX rs):NY rs:=⟨S.ls,S.ts,λr hr=>(S.ok r hr).ro⟩
def SpAt.odd{n:Nat}{H:Hp}{p l:Nc}{as:Nl}{rs:List Ro}(S:BX rs)(hn:n≤100):∀r∈rs,OddR H r:=λr hr=>⟨Zf (S.ok r hr).ln hn,((S.ok r hr).od _ Qc).1,λx hx=>((S.ok r hr).od x PN).1⟩
def smo_mem{aN rs:List Ro}(h:Ak):∀r'∈aN,∃r∈rs,r'.1=r.1∧r'.2.1=r.2.1:=by
 induction h with
 |nil=>intro r h;cases h
 |cons h _ ih=>
  intro r hr;rcases Qi.mp hr with z|z
  ·exact⟨_,Qc,z▸h⟩
  obtain⟨y,hy,e⟩:=ih r z;exact⟨y,Iu,e⟩
def odd_okE{H:Hp}{v:V}(h:V2 v):okE v=true:=by cases h<;>rfl
theorem vals_same{H:Hp}:∀(xs:List V),(∀x∈xs,okE x=true)→Paired (D6 1) xs xs
 |[],_=>.nil
 |x::xs,h=>.cons (Gm ⟨h x Qc,rfl⟩) (vals_same xs λy hy=>h y Iu)
def rows_same{H5 H9:Hp}(k:Keep [] H5 H9){fs rs:List Ro}(eT:SmO fs rs):∀ {bj bs:Nl},Paired (λa (r:Ro)=>H9 a=some (.tup [r.1,TZ])∧H5 a=none) bj fs→(∀ r∈fs,H9 r.2.2=some Ci∧H5 r.2.2=none)→Paired (λb (r:Ro)=>H5 b=some (.tup [r.1,TZ])) bs rs→(∀ r∈rs,H5 r.2.2=some Ci)→(∀ r∈rs,OddR H5 r)→KJ (bs.map V.ref):=by
 induction eT with
 |nil=>intro bj bs h1 _ h3 _ _;cases h1;cases h3;exact .nil
 | @cons r' r _ _ e _ ih=>
  intro bj bs h1 h2 h3 h4 h5;cases h1 with
  |cons a1 t1=>
   cases h3 with
   |cons a3 t3=>refine .cons ?_ (ih t1 (λr hr=>h2 r (QM hr)) t3 (λr hr=>h4 r (QM hr)) λr hr=>h5 r (QM hr));have q2:=h2 r' Qc;have q4:=h4 r Qc;have q5:=h5 r Qc;refine .inr ⟨_,_,_,_,rfl,rfl,Zd (zac a3 a1.2),Ru ⟨a1.1,Pc a3⟩,Ez (Gm ⟨by rw[e.1];exact odd_okE q5.2.1,e.1⟩) (HY (.inr ⟨_,_,_,_,rfl,rfl,Zd (zac q4 q2.2),Gm ⟨q2.1,Pc q4⟩,?_⟩))⟩;rw[e.2];exact vals_same _ λx hx=>odd_okE (q5.2.2 x hx)
section
variable{P:Nk}{w:Nn}{K:Na}{mg:Ng}{base:No}{C:Nc}
def zid:zar [qS, "_law_k",qP, "_law_rows_here", "_law_handed", "_law_j", "_law_thing", "_law_found"] [qS] OB:=fsk
def ok_law(F:Z1 "law" "law" sLaw f fd)(FP:Z1 "_law_pot" "_law_pot" sPot fp fdp)(bP:Z3 fdp [qS, "_law_k"] [])(mP:mg "_law_pot" = some (Fu fp))(GP:ZB 1 fp fdp [qS, "_law_k"] (spPot K))(FD:Z1 "_law_drawn" "_law_drawn" sDrawn fd' fdd)(bD:Z3 fdd [qP] [])(mD:mg "_law_drawn" = some (Fu fd'))(GD:ZB 5 fd' fdd [qP] spDrawnO)(FT:Z1 "_law_told" "_law_told" sTold ft fdt)(bT:Z3 fdt ["_law_rows_here"] [])(mT:mg "_law_told" = some Cn)(GT:ZB 6 ft fdt ["_law_rows_here"] spTold)(FU:Z1 "_law_due" "_law_due" sDue fu fdu)(bU:Z3 fdu ["_law_rows_here"] [])(mU:mg "_law_due" = some (Fu fu))(GU:ZB 5 fu fdu ["_law_rows_here"] spDue)(FO:Z1 "_law_odd" "_law_odd" sOdd fo fdo)(bO:Z3 fdo [qP,qN] [])(mO:mg "_law_odd" = some (Fu fo))(GO:ZB 2 fo fdo [qP,qN] spOdd)(FI:Z1 "is_name" "is_name" zgg fi fdi)(bI:Z3 fdi ["thing"] [])(mI:mg "is_name" = some (Fu fi))(GI:ZB 1 fi fdi ["thing"] zdu)(FL:Z1 "_law_is_name" "_law_is_name" sLName fl fdl)(bL:Z3 fdl ["_law_thing"] [])(mL:mg "_law_is_name" = some (Fu fl))(GL:ZB 1 fl fdl ["_law_thing"] zdu)(bq:mg "list" = none)(bA:mg "range" = none)(aa:G')(gi:mg "min" = none)(ka:mg "max" = none)(bi:mg "isinstance" = none)(oR:mg "bool" = none):ZB 7 f fd [qS] (spLaw K):=by
 refine F.okL zid (λcdv A outer s0 H vs Q E hr h=>?_);obtain⟨a,ns,rfl,ha,qh,kq⟩:=h;have hu:=zcm hr;have bX:=Jg hu;have aV:Vk _:=hr.mono Fw;have eV:Room 2 _:=hr.mono Fw;have hr5:Room 5 _:=hr.mono Fw;have aJ:=sizeLine_eq;have hu4:(Oe (PyProof.Rows.envOfC "law" (zaj sLaw) s0.heap.objs.size f cdv)).units+4<cLine:=Yo (Xe (by decide:4≤64) _) hr.units;refine⟨_,zae (QH (Bk (OE (OQ (Dj FX gi PyProof.Rows.boot_min (zaa (RJ (ZM zad)) Ia))))) (X0 zid.nd)
   (zae (BH zid.nd (M9 bP .nil zba (ZM HH)))
   (zae (JI zid.nd (zam GD hr5 rfl mD FD.kp bD .nil zba Rg))
   (zae (ps_lc (i:=4) (M:=["_law_place", "_law_around"]) (ix:=[none,none]) zid.nd rfl rfl (mkB zid) rfl (zaz HF)
    (λC a7 ex s H=>zff (K:=K) (n:=2) rfl rfl (zat (JH ndLw) (LA (X0 ndLw))))
    (λC a7 ex s H=>zcp) (λC a7 ex s H=>zbd (Ae (zcb (zi5 (K:=K) rfl) FX (by exact bq) Km (ZZ zad)))) rfl)
   (zae (So (zan (op_ne_same bX) (QD bT .nil zba TW) (zam GU hr5 rfl mU FU.kp bU .nil zba Tt) HP) (zhl (zan (op_ne_deepM hu4) SY HF HP)) zfg)
   (zag (QH (Bk Ia) (DW zid.nd)
    (zae (N3 zid.nd (zam GO eV rfl mO FO.kp bO .nil zba (ZY (DE zad))))
    (zae (zas 7 zid.nd (zam GI aV rfl mI FI.kp bI .nil zba (Bj zad)))
    (zag (So (L9 (zaa OG (Hf (pe_tyN (T:= "bool") rfl oR PyProof.Rows.boot_bool)))) (zhl (MJ OG (zam GL aV rfl mL FL.kp bL .nil zba (Bj zad)) HP)) zfg)))))))))))
  (zag (AE zfg)),?_⟩
 refine⟨A5,a,A5,Gm ha,_,A5,_,A5,A5,?_,?_,?_⟩
 ·split<;>split<;>omega
 ·rw[Qa];split<;>split<;>omega
 refine zcw (lo:=0) (λi σ H'=>Aj2 (Keep [] H H') (Ex4 λx1 x2 x3 x4=>Ex3 λx5 x6 x7=>σ=[Fy a,x1,x2,x3,x4,x5,x6,x7])) ⟨Keep.refl,_,_,_,_,_,_,_,rfl⟩ ?_ ?_
 ·rintro i σ H1 hi ⟨k1,x1,x2,x3,x4,x5,x6,x7,rfl⟩;have hi8:i≤1000:=by rw[Qa]at hi;split at hi<;>split at hi<;>omega
  have ei:(0:Int)+(i:Int)=(i:Int):=by lia
  rw[ei];refine⟨A5,A5,a,ns,i,rfl,sq_keep ha k1,hi8,Fs,λp b2 m2 H2 hpf aD k2=>?_⟩;refine⟨A5,p,b2,m2,rfl,aD,λt bs rs b3 m3 H5 S5 hJ ntp br k3=>?_⟩;have k15:Keep [] H1 H5:=λc u ec _=>k3 c u (Af ec) (by simpa using XH hpf);have jo:Keep [] H H5:=k1.trans k15;have R5:=S5.ro;have eF:bs.length=rs.length:=Zl R5.ts;refine⟨_,rfl,t,rfl,⟨_,SqL.of R5.ls⟩,λn q ys τ H'=>Ex2 λ(bj:Nl) (fs:List Ro)=>Aj8 (q=rs.length-n) (n≤rs.length) (ys=bj.map V.ref) (Ex2 λx0 x1=>τ=[x0,x1]) (Paired (λa (r:Ro)=>H' a=some (.tup [r.1,TZ])∧H5 a=none) bj fs) (∀r∈fs,H' r.2.2=some Ci∧H5 r.2.2=none) (SmO fs (rs.take n)) (Keep [] H5 H'),
   ⟨rs.length,[],[],rfl,Sv,rfl,⟨none,none,rfl⟩,.nil,(λe he=>by cases he),.nil,Keep.refl⟩,?_⟩
  rintro n q ys τ H6 ⟨bj,fs,rfl,hn,rfl,⟨x0,x1,rfl⟩,bf,aU,eT,k6⟩;have bK:bj.length=n:=by rw[Zl bf,Zl eT,Ze];lia
  have R6:=R5.keep k6;by_cases ad:n<rs.length
  ·have sW:n < bs.length:=by lia
   refine .inr ⟨⟨_,.ref bs[n],Ln,by rw[Qt,Qb sW];rfl⟩,Rx,?_⟩;rintro v H7 ⟨rfl,hv⟩;have jy:=hv _ Ln;rw[Qt,Qb sW]at jy;obtain rfl:V.ref bs[n]=v:=Qq jy;obtain⟨ao,aO⟩:=za0 R6.ts sW;have c8:rs[n]∈rs:=Qn ad;have tk:rs.take (n+1)=rs.take n++[rs[n]]:=Qj ad;have cS:=R6.ro _ c8;generalize rs[n]=e at c8 tk aO cS;refine⟨bs[n],A5,HV aO,rfl,_,A5,_,A5,rfl,A5,A5,e.2.2,A5,HJ cS,λl7 aK=>⟨Sq,λt7 jD=>?_⟩⟩;have k7:Keep [] H7 (JP l7 Ie):=Keep.new aK;have cj:(JP l7 Ie) l7=some Ie:=zab;have k8:Keep [] H7 (upd (JP l7 Ie) t7 (.tup [e.1,Fu l7])):=k7.trans (FM jD);refine⟨_,Gk,bj++[t7],fs++[(e.1,e.2.1,l7)],rfl,ad,by rw[Qr];rfl,⟨_,A5⟩,?_,λe' cv=>?_,?_,k6.trans k8⟩
   ·exact zao (Paired.imp' (λa e h=>⟨k8 _ _ h.1 Fr,h.2⟩) bf) (HY ⟨zab,zap (k6.trans k7) jD Fr⟩)
   ·rcases Qg.mp cv with z|z
    ·exact⟨k8 _ _ (aU e' z).1 Fr,(aU e' z).2⟩
    rw[Cz];exact⟨FQ (A0 cj jD) cj,zap k6 aK Fr⟩
   rw[tk];exact zao eT (.cons ⟨rfl,rfl⟩ .nil)
  have kF:n=rs.length:=by lia
  subst kF;rw[Qm Gg]at eT;refine .inl ⟨⟨_,Ln,by rw[Qa,eF];exact Qh _⟩,λD hD=>?_⟩;have hD0:H5 D=none:=zap k6 hD Fr;generalize me:U9 D _=H7;obtain⟨k7,lS⟩:=Dw me;have rD:Keep [] H5 H7:=k6.trans k7;have tJ:fs.length=rs.length:=Zl eT;have Rf:RoAt H7 D bj fs:=⟨lS,Paired.imp' (λa r h=>k7 _ _ h.1 Fr) bf,λr hr=>k7 _ _ (aU r hr).1 Fr⟩;have Or:∀r∈rs,OddR H7 r:=λr hr=>(S5.odd Fw r hr).keep rD;have Of:∀r∈fs,OddR H7 r:=λr hr=>by obtain⟨y,hy,e1,e2⟩:=smo_mem eT r hr;have:=Or y hy;exact⟨by rw[e2];exact this.1,by rw[e1];exact this.2.1,by rw[e2];exact this.2.2⟩
  refine⟨A5,D,bj,fs,rfl,Rf,Fs,Of,λlo wo H8 pe hlo k8=>?_⟩;have Or8:∀r∈rs,OddR H8 r:=λr hr=>(Or r hr).keep k8;refine⟨A5,t,bs,rs,rfl,R5.keep (rD.trans k8),hJ,Or8,λlu wu H9 ua hlu k9=>?_⟩;have hww:=tells_due eT pe ua;subst hww;refine⟨lo,lu,A5,rfl,HV (k9 _ _ hlo Fr),HV hlu,A5,W0 ?_⟩;have pO:Keep [] H7 H9:=k8.trans k9;have pQ:Keep [] H5 H9:=rD.trans pO;have R9:=R5.keep pQ;have oJ:KJ (bs.map V.ref):=rows_same pQ eT (Paired.imp' (λa r h=>⟨(Sg pO) _ _ h.1 Fr,h.2⟩) bf) (λr hr=>⟨(Sg pO) _ _ (aU r hr).1 Fr,(aU r hr).2⟩) R5.ts R5.ro (S5.odd Fw);refine⟨A5,A5,D,t,_,A5,rfl,pO _ _ lS Fr,R9.ls,oJ,A5,W0 ?_⟩;have jO:=br.keep pQ Fr;refine⟨A5,Fw,Fw,?_⟩;refine zcw (lo:=0) (λj σ H'=>Aj3 (Keep [p] H9 H') (Ex2 λ(b' m':Int)=>Q5 m') (Ex3 λx5 x6 x7=>σ=[Fy a,Sa i,Fy p,Fy t,Fy D,x5,x6,x7])) ⟨Keep.refl,⟨b3,m3,jO⟩,_,_,_,rfl⟩ ?_ ?_
  ·rintro j σ dw hj ⟨jq,⟨b4,m4,sC⟩,y5,y6,y7,rfl⟩;refine⟨A5,SK,λnl cD=>?_⟩;refine⟨p,nl,b4,m4,["bc"],rfl,sC.keep (xs:=[]) (FM cD) Fr,zab,Fw,λz hz=>by rw[Qd.mp hz];exact zis.mp FK,λv b5 m5 qI aZ bu sx k11=>?_⟩;refine⟨A5,v,rfl,aZ,λH12 rF=>?_⟩;refine⟨A5,_,_,_,true,rfl,O5,rfl,A5,W0 ?_⟩;refine⟨A5,A5,v,rfl,aZ.keep rF,λH13 k13=>?_⟩;refine⟨rfl,A5,zal Fr ?_⟩;exact⟨(jq.trans ((FM cD).trans k11)).trans ((rF.trans k13).sub Fr),⟨b5,m5,sx.keep (rF.trans k13) Fr⟩,_,_,A5⟩
  rintro σ dw ⟨jq,_,y5,y6,y7,rfl⟩;exact⟨λc u ec hc=>jq c u (pQ _ _ (jo c u ec hc) Fr) (by simpa using zac (k1 c u ec hc) hpf),_,_,_,_,_,_,A5⟩
 rintro σ H1 ⟨k1,x1,x2,x3,x4,x5,x6,x7,rfl⟩;exact kq _
end
end K21
namespace L2
open PySem
def Nf(K:Na)(x:Str)(st:Stmt):Prop:=∃f fd,ZJ x=some (Fy f)∧Z1 x x st f fd
def Nm(K:Na)(C:Nc)(x q:Str)(st:Stmt):Prop:=∃f fd,ZQ Hw x=some (Fy f)∧PySem.W.isFn K Ce=true∧Z1 x q st f fd
def binds5{K:Na}{x q:Str}{st:Stmt}{f:Nc}{fd:Nw}{ps:Nh}(F:Z1 x q st f fd)(b:∀(kV doc pm:Value) (an:Option Addr) (cdv ct:Value) (us:Nj),us.length=ps.length→bindArgs (PySem.W.fnOf x q (zds st) Oj CN .none kV doc pm an cdv ct) ⟨us,[]⟩=pure TR:=by(intro _ _ _ _ _ _ us hl;rcases us with _|⟨_,_|⟨_,_|⟨_,_|⟨_,_|⟨_,_|⟨_,_⟩⟩⟩⟩⟩⟩<;>first|rfl|cases hl)):Z3 fd ps []:=F.binds b
def nfo{P:Nk}{w:Nn}{K:Na}{h:No}{mg:Ng}{base:No}(X:K.In h)(G:h.Ns mainGlobals mg){CX:CXT}{x:Str}{st:Stmt}{ps:Nh}{k:Nat}{sp:Sp}(N:JB x st)(T:∀f fd,Z1 x x st f fd→ZC CX k f fd ps sp)(b:∀(kV doc pm:Value) (an:Option Addr) (cdv ct:Value) (us:Nj),us.length=ps.length→bindArgs (PySem.W.fnOf x x (zds st) Oj CN .none kV doc pm an cdv ct) ⟨us,[]⟩=pure TR:=by(intro _ _ _ _ _ _ us hl;rcases us with _|⟨_,_|⟨_,_|⟨_,_|⟨_,_|⟨_,_|⟨_,_⟩⟩⟩⟩⟩⟩<;>first|rfl|cases hl)):∃f fd,Z1 x x st f fd∧Z3 fd ps []∧mg x=some Ce∧ZC CX k f fd ps sp:=
 let⟨f,fd,a,F⟩:=N
 ⟨f,fd,F,F.binds b,XJ a,T f fd F⟩
end L2
namespace K21
open PySem L2 Wb PyProof.Rows
theorem all_mk{l:PySem.W.OpenLaw}{w:Nn}{K:Na}{h:No}{mg:Ng}{fa C cE n1 n2 n3 n4 np:Nc}(X:K.In h)(G:h.Ns mainGlobals mg)(hfa:mg "law" = some ES)(aC:ZJ "Web" = some (Fy C))(e_HueError:ZJ "HueError" = some (Fy cE))(e_NoName:ZJ "NoName" = some (Fy n1))(e_Twice:ZJ "Twice" = some (Fy n2))(e_OneWay:ZJ "OneWay" = some (Fy n3))(e_NotFlat:ZJ "NotFlat" = some (Fy n4))(e_NoPlace:ZJ "NoPlace" = some (Fy np))(h_steps_behind:JB "steps_behind" sSteps)(h_faces_of:JB "faces_of" sFaces)(h_piece_from:JB "piece_from" sPiece)(h_pieces_of:JB "pieces_of" zih)(h_is_name:JB "is_name" zgg)(h_refuse_no_names:JB "refuse_no_names" zf2)(h_refuse_twice:JB "refuse_twice" sTwice)(h_refuse_one_way:JB "refuse_one_way" zii)(h_refuse_not_flat:JB "refuse_not_flat" sFlat)(h_from_least:JB "from_least" sLeast)(h__law_pot:JB "_law_pot" sPot)(h__law_digit:JB "_law_digit" zd5)(h__law_counted:JB "_law_counted" sCount)(h__law_names:JB "_law_names" sNames)(h__law_behind:JB "_law_behind" zfe)(h__law_steps:JB "_law_steps" zfd)(h__law_tie:JB "_law_tie" sTie)(h__law_rounds:JB "_law_rounds" zig)(h__law_rows:JB "_law_rows" sRows)(h__law_faces:JB "_law_faces" zgf)(h__law_piece:JB "_law_piece" zij)(h__law_odd:JB "_law_odd" sOdd)(h__law_spoilt:JB "_law_spoilt" zif)(h__law_drawn:JB "_law_drawn" sDrawn)(h__law_is_name:JB "_law_is_name" sLName)(h__law_flat:JB "_law_flat" sLFlat)(h__law_due:JB "_law_due" sDue)(h__law_told:JB "_law_told" sTold)(gI:Nm K C "__init__" "Web.__init__" sInit)(gN:Nm K n4 "__init__" "NotFlat.__init__" sNF)(gO:Nm K n3 "__init__" "OneWay.__init__" sOW){fL:Nc}{od an:Option Addr}{sl:Array Rc}{oc kV dc pm cd ct:Value}(aL:ZJ "law" = some (Fy fL))(lL:K.lookup fL=some ⟨oc,od,.func (PySem.W.fnOf "law" "law" (zds sLaw) (zcy sLaw) OB .none kV dc pm an cd ct),sl⟩)(cL:BB cd "law" = true)(kL:Q9 (Fu fL)=true)(pg:B9 Str.empty=true)(fA:XR C=true)(po:XQ C=true)(sa:ZQ Hw "__setattr__" = some (He (.builtin "object.__setattr__")))(mk:KQ C=true)(kc:Q9 Hw=true)(nR:ZQ Hw "rounds" = some none){tkM:Tok}(aM:ZJ "MOST_LETTERS" = some (He (SQ 8 tkM))){nm_o qn_o:Str}{NN_o:Nc}{bs_o:Nj}{sn_o:Nh}{sub_o:Nj}{ab_o:Bool}{col_o:Option Bool}{dd_o:Option Addr}{k0_o k1_o k2_o k3_o k5_o:Option Value}(ob_o:K.lookup n3=some (excClassObj nm_o qn_o n3 NN_o bs_o (.ref cE::bmVE) true sn_o sub_o ab_o col_o dd_o k0_o k1_o k2_o k3_o k5_o "ValueError.__new__"))(kN_o:Q9 Lo=true)(as_o:ZQ Lo "__setattr__" = some (He (.builtin "object.__setattr__"))){nm_f qn_f:Str}{NN_f:Nc}{bs_f:Nj}{sn_f:Nh}{sub_f:Nj}{ab_f:Bool}{col_f:Option Bool}{dd_f:Option Addr}{k0_f k1_f k2_f k3_f k5_f:Option Value}(ob_f:K.lookup n4=some (excClassObj nm_f qn_f n4 NN_f bs_f (.ref cE::bmVE) true sn_f sub_f ab_f col_f dd_f k0_f k1_f k2_f k3_f k5_f "ValueError.__new__"))(kN_f:Q9 TQ=true)(as_f:ZQ TQ "__setattr__" = some (He (.builtin "object.__setattr__")))(xE:JM cE bmVE "ValueError.__new__" = true)(x1:JM n1 bmVE "ValueError.__new__" = true)(x2:JM n2 bmVE "ValueError.__new__" = true)(rd:PySem.W.readsIn K cE (.type "type")=true)(ga:XU IV "__getattribute__" = some (He (.builtin "type.__getattribute__")))(fc:PySem.W.findCls K IV (.type "type") "__init__" = some (.val (.builtin "ValueError.__init__")))(a_many_places:ZQ TQ "many_places" = some none)(a_many_ties:ZQ TQ "many_ties" = some none)(a_many_faces:ZQ TQ "many_faces" = some none)(a_one:ZQ Lo "one" = some none)(a_other:ZQ Lo "other" = some none)(p5:XU Gd "__get__" = some Ps)(p6:DH Gd=some true)(p1n1:ZQ Ig "__getattribute__" = some PP)(p2n1:ZQ Ig "__getattr__" = some none)(p3n1:WJ n1 (.type "BaseException")=some true)(p4n1:ZQ Ig "__class__" = some E5)(p7n1:WJ n1 (.type "object")=some true)(ul:JA Ig IV=some true)(qU:ZV Ig (.type "ValueError")=some true)(un1n1:ZV Ig Ig=some true)(un1n2:Gs n1 n2)(un1n3:Gs n1 n3)(un1n4:Gs n1 n4)(un1np:Gs n1 np)(p1n2:ZQ Ih "__getattribute__" = some PP)(p2n2:ZQ Ih "__getattr__" = some none)(p3n2:WJ n2 (.type "BaseException")=some true)(p4n2:ZQ Ih "__class__" = some E5)(p7n2:WJ n2 (.type "object")=some true)(uk:JA Ih IV=some true)(qT:ZV Ih (.type "ValueError")=some true)(un2n1:Gs n2 n1)(un2n2:ZV Ih Ih=some true)(un2n3:Gs n2 n3)(un2n4:Gs n2 n4)(un2np:Gs n2 np)(p1n3:ZQ Lo "__getattribute__" = some PP)(p2n3:ZQ Lo "__getattr__" = some none)(p3n3:WJ n3 (.type "BaseException")=some true)(p4n3:ZQ Lo "__class__" = some E5)(p7n3:WJ n3 (.type "object")=some true)(uj:JA Lo IV=some true)(qQ:ZV Lo (.type "ValueError")=some true)(un3n1:Gs n3 n1)(un3n2:Gs n3 n2)(un3n3:ZV Lo Lo=some true)(un3n4:Gs n3 n4)(un3np:Gs n3 np)(p1n4:ZQ TQ "__getattribute__" = some PP)(p2n4:ZQ TQ "__getattr__" = some none)(p3n4:WJ n4 (.type "BaseException")=some true)(p4n4:ZQ TQ "__class__" = some E5)(p7n4:WJ n4 (.type "object")=some true)(ui:JA TQ IV=some true)(qL:ZV TQ (.type "ValueError")=some true)(un4n1:Gs n4 n1)(un4n2:Gs n4 n2)(un4n3:Gs n4 n3)(un4n4:ZV TQ TQ=some true)(un4np:Gs n4 np)(z_len:ZJ "len" = some none)(z_sorted:ZJ "sorted" = some none)(z_range:ZJ "range" = some none)(z_min:ZJ "min" = some none)(z_max:ZJ "max" = some none)(z_tuple:ZJ "tuple" = some none)(z_list:ZJ "list" = some none)(z_dict:ZJ "dict" = some none)(z_set:ZJ "set" = some none)(z_isinstance:ZJ "isinstance" = some none)(z_str:ZJ "str" = some none)(z_all:ZJ "all" = some none)(z_sum:ZJ "sum" = some none)(z_enumerate:ZJ "enumerate" = some none)(z_ValueError:ZJ "ValueError" = some none)(z_bool:ZJ "bool" = some none) :
  ∃fd:FuncData,(∀(s:Ni) (v:Value),JW ⟨[v],[]⟩ [("_law_script",v)])∧∀base:Heap,K.In base→base.Ns mainGlobals mg→FnOk l.prog w K mg base CX0 7 fa fd ["_law_script"] (spLaw K):=by
 have e:=hfa.symm.trans (XJ aL);cases e;have FL:=fun_mk (st:=sLaw) lL cL kL;have cW:Cls K C:=⟨pg,fA,po,sa⟩;have mC:=XJ aC;have y_len:=U1 z_len;have y_sorted:=U1 z_sorted;have y_range:=U1 z_range;have y_min:=U1 z_min;have y_max:=U1 z_max;have y_tuple:=U1 z_tuple;have y_list:=U1 z_list;have y_dict:=U1 z_dict;have y_set:=U1 z_set;have y_isinstance:=U1 z_isinstance;have y_str:=U1 z_str;have y_all:=U1 z_all;have y_sum:=U1 z_sum;have y_enumerate:=U1 z_enumerate;have y_ValueError:=U1 z_ValueError;have y_bool:=U1 z_bool;have m_HueError:=XJ e_HueError;have m_NoName:=XJ e_NoName;have m_Twice:=XJ e_Twice;have m_OneWay:=XJ e_OneWay;have m_NotFlat:=XJ e_NotFlat;have m_NoPlace:=XJ e_NoPlace;have mM:=XJ aM;obtain⟨fI,fdI,agI,igI,FI⟩:=gI;obtain⟨fN,fdN,agN,igN,FN⟩:=gN;obtain⟨fO,fdO,agO,igO,FO⟩:=gO;have cx:ExcI K n4 cE fN:=.mk _ _ _ _ _ _ _ _ _ _ _ _ _ _ ob_f ⟨xE⟩ agN igN;have co:ExcI K n3 cE fO:=.mk _ _ _ _ _ _ _ _ _ _ _ _ _ _ ob_o ⟨xE⟩ agO igO;have wn1:D7 ⟨n1,n2,n3,n4⟩ np n1 "name" :=⟨⟨p1n1,p2n1,p3n1,p4n1,p5,p6,p7n1⟩,ul,un1n1.trans FK,un1n2.trans FK,un1n3.trans FK,un1n4.trans FK,un1np,qU,FK⟩;have wn2:D7 ⟨n1,n2,n3,n4⟩ np n2 "twice" :=⟨⟨p1n2,p2n2,p3n2,p4n2,p5,p6,p7n2⟩,uk,un2n1.trans FK,un2n2.trans FK,un2n3.trans FK,un2n4.trans FK,un2np,qT,FK⟩;have wn3:D7 ⟨n1,n2,n3,n4⟩ np n3 "way" :=⟨⟨p1n3,p2n3,p3n3,p4n3,p5,p6,p7n3⟩,uj,un3n1.trans FK,un3n2.trans FK,un3n3.trans FK,un3n4.trans FK,un3np,qQ,FK⟩;have wn4:D7 ⟨n1,n2,n3,n4⟩ np n4 "flat" :=⟨⟨p1n4,p2n4,p3n4,p4n4,p5,p6,p7n4⟩,ui,un4n1.trans FK,un4n2.trans FK,un4n3.trans FK,un4n4.trans FK,un4np,qL,FK⟩;refine⟨PySem.W.fnOf "law" "law" (zds sLaw) (zcy sLaw) OB .none kV dc pm an cd ct,λs v=>.of_eq rfl,λbase _ _=>?_⟩;have cm:=@nfo l.prog w K h mg base X G;obtain⟨_,_,F0,b0,m0,G0⟩:=cm h__law_digit λ_ _ F=>ok_digit F;obtain⟨_,_,F1,b1,m1,G1⟩:=cm h__law_pot λ_ _ F=>ok_pot F y_len y_min y_max y_list;obtain⟨_,_,F2,b2,m2,G2⟩:=cm h__law_counted λ_ _ F=>ok_count F y_len;obtain⟨_,_,F3,b3,m3,G3⟩:=cm h__law_names λ_ _ F=>ok_names F F0 b0 m0 G0 F2 b2 m2 G2 y_len y_range;obtain⟨_,_,F4,b4,m4,G4⟩:=cm h__law_behind λ_ _ F=>ok_behind F y_len;obtain⟨_,_,F5,b5,m5,G5⟩:=cm h__law_steps λ_ _ F=>ok_steps0 F F4 b4 m4 G4;obtain⟨_,_,F6,b6,m6,G6⟩:=cm h__law_tie λ_ _ F=>ok_tie F F0 b0 m0 G0 F5 b5 m5 G5 y_len;obtain⟨_,_,F7,b7,m7,G7⟩:=cm h__law_rounds λ_ _ F=>ok_rounds F F0 b0 m0 G0 F6 b6 m6 G6 y_len y_range;obtain⟨_,_,F8,b8,m8,G8⟩:=cm h__law_rows λ_ _ F=>ok_rows F F0 b0 m0 G0 y_len y_range;obtain⟨_,_,F9,b9,m9,G9⟩:=cm h__law_odd λ_ _ F=>ok_odd F F0 b0 m0 G0 y_len;obtain⟨_,_,F10,b10,m10,G10⟩:=cm h__law_spoilt λ_ _ F=>ok_spoilt F F0 b0 m0 G0 F9 b9 m9 G9 y_len y_list;obtain⟨_,_,F11,b11,m11,G11⟩:=cm h__law_drawn λ_ _ F=>ok_drawn F F0 b0 m0 G0 F7 b7 m7 G7 F10 b10 m10 G10 F8 b8 m8 G8 F3 b3 m3 G3 y_len y_range;obtain⟨_,_,F12,b12,m12,G12⟩:=cm h_is_name λ_ _ F=>ok_isname F mM y_isinstance y_str y_len y_all;obtain⟨_,_,F13,b13,m13,G13⟩:=cm h_refuse_no_names λ_ _ F=>ok_nonames F ⟨x1⟩ m_NoName F12 b12 m12 G12;obtain⟨_,_,F14,b14,m14,G14⟩:=cm h_refuse_twice λ_ _ F=>ok_twice F ⟨x2⟩ m_Twice y_len y_set;obtain⟨_,_,F15,b15,m15,G15⟩:=cm h_refuse_one_way λ_ _ F=>ok_oneway F m_OneWay kN_o co (binds5 FO) (ok_ow FO co ⟨rd,ga,fc⟩ m_HueError ⟨a_one,as_o⟩ ⟨a_other,as_o⟩) y_dict;obtain⟨_,_,F16,b16,m16,G16⟩:=cm h_from_least λ_ _ F=>ok_least F y_min y_tuple;obtain⟨_,_,F17,b17,m17,G17⟩:=cm h_steps_behind λ_ _ F=>ok_steps F y_enumerate;obtain⟨_,_,F18,b18,m18,G18⟩:=cm h_faces_of λ_ _ F=>ok_facesO F F17 b17 m17 G17 y_sorted;obtain⟨_,_,F19,b19,m19,G19⟩:=cm h_piece_from λ_ _ F=>ok_piece F y_sorted;obtain⟨_,_,F20,b20,m20,G20⟩:=cm h_pieces_of λ_ _ F=>ok_pieces F F19 b19 m19 G19 y_sorted;obtain⟨_,_,F21,b21,m21,G21⟩:=cm h_refuse_not_flat λ_ _ F=>ok_flat F m_NotFlat kN_f cx (binds5 FN) (ok_nf FN cx ⟨rd,ga,fc⟩ m_HueError ⟨a_many_places,as_f⟩ ⟨a_many_ties,as_f⟩ ⟨a_many_faces,as_f⟩) F18 b18 m18 G18 F20 b20 m20 G20 y_len y_sum;have GBS:=ok_behindS (P:=l.prog) (w:=w) (base:=base) F4 y_len;have GSS:=ok_stepsS (P:=l.prog) (w:=w) (base:=base) F5 F4 b4 m4 GBS;have GI:=ok_init (cc:=⟨n1,n2,n3,n4⟩) (P:=l.prog) (w:=w) (base:=base) FI cW nR F13 b13 m13 G13 F14 b14 m14 G14 F15 b15 m15 G15 F16 b16 m16 G16 F21 b21 m21 G21 y_sorted;obtain⟨_,_,F22,b22,m22,G22⟩:=cm h__law_faces λ_ _ F=>ok_lfaces F F5 b5 m5 GSS y_sorted;obtain⟨_,_,F23,b23,m23,G23⟩:=cm h__law_piece λ_ _ F=>ok_lpiece F y_sorted y_len;obtain⟨_,_,F24,b24,m24,G24⟩:=cm h__law_is_name λ_ _ F=>ok_lname F y_isinstance y_str y_len;obtain⟨_,_,F25,b25,m25,G25⟩:=cm h__law_flat λ_ _ F=>ok_lflat F F22 b22 m22 G22 F23 b23 m23 G23 y_len y_sum y_sorted;obtain⟨_,_,F26,b26,m26,G26⟩:=cm h__law_due λ_ _ F=>ok_due F F24 b24 m24 G24 F25 b25 m25 G25 y_dict;obtain⟨_,_,F27,b27,m27,G27⟩:=cm h__law_told λ_ _ F=>ok_told (cc:=⟨n1,n2,n3,n4⟩) F m_HueError m_NoName m_Twice m_OneWay m_NotFlat m_NoPlace y_isinstance y_ValueError y_tuple wn1 wn2 wn3 wn4 co ⟨a_one,as_o⟩ ⟨a_other,as_o⟩ ⟨mk,agI,igI,kc⟩ (binds5 FI) mC GI;exact ok_law FL F1 b1 m1 G1 F11 b11 m11 G11 F27 b27 m27 G27 F26 b26 m26 G26 F9 b9 m9 G9 F12 b12 m12 G12 F24 b24 m24 G24 y_list y_range y_len y_min y_max y_isinstance y_bool
def walk{l:PySem.W.OpenLaw}{q:Nk}{loose:Nh}{XP:(Str→Option Value)→Heap→Prop}{d:DefRec}{K:Params→PySem.W.Frag}(hn:l.most=some 63)(oH:d.params.defaults=[])(F:∀ (w:Nn) (mg:Ng) (fa:Nc) (h:No),(K w.params).In h→h.Ns mainGlobals mg→mg d.name=some ES →
   ∃fd:FuncData,(∀(s:Ni) (u:Value),JW ⟨[u],[]⟩ [("_law_script",u)])∧∀base:Heap,(K w.params).In base→base.Ns mainGlobals mg→KC CX0 7 fa fd ["_law_script"] (spLaw PB)) :
  PySem.W.WalkO q loose XP (λw h=>(K w.params).In h) l.row.toRowW d [] (λf vs=>MR vs):=
 L2.walk_of (n:=63) (k:=7) (x:= "_law_script") (CX:=λ_=>CX0) (sp:=λw=>spLaw PB) hn Fw oH ⟨rfl,Fw,Fw,rfl⟩ (λ_ _ z=>z) F (λ_ _ a ns hl _ hS=>⟨a,ns,rfl,hS,hl,λ_=>rfl⟩) λ_ _ _ _ _ z=>z
end K21
namespace PySem.W.Fast
def tw18352038606211795153:=0
def tw15579276282994207708:=0
def tw2521543573118769953:=0
def tw1752362268301001744:=0
def tw3542889097918640875:=0
def tw3883339809857999970:=0
def tw13254234898369189447:=0
def tw4664562098569479941:=0
def tw14195962243969086547:=0
def tw2733436433012203433:=0
def tw16130069786204284237:=0
def tw2624260042634322633:=0
def tw4875244324658749873:=0
def tw3155552515127976327:=0
def tw1452305089155351008:=0
def tw10062609427162738274:=0
def tw4460825705363525300:=0
def tw12201877487679960324:=0
def tw2675833434582973430:=0
def tw17605530611696422284:=0
def tw10295572952275826465:=0
def tw6044937031516691572:=0
def tw4848862231657288871:=0
def tw5201469710675373493:=0
def tw513254723648422220:=0
def tw4812630379518779197:=0
def tw9273526711305348312:=0
def tw7055724738824422598:=0
def tw18118954547375113247:=0
def tw323466397076073896:=0
def tw15899423634129377400:=0
def tw14140027630960891929:=0
def tw7255704926822234317:=0
def tw964182139228049965:=0
def tw17731439296315255040:=0
def tw7855172059846461704:=0
def tw9317896278175922087:=0
def tw14131321155532777049:=0
def tw2933861304798956100:=0
def tw15613712554182445596:=0
def tw3343869392834303951:=0
def tw992020075676274634:=0
def tw8652264085883274549:=0
def tw7737680582264806269:=0
def tw17804085601917455920:=0
def tw3904297370595328779:=0
def tw9571726917022347359:=0
def tw1851291727455021696:=0
def tw7077338542460296226:=0
def tw13125575026858817741:=0
def tw4011744676568490694:=0
def tw6028792568927939463:=0
def tw9068963740517985351:=0
def tw4164082584737956477:=0
def tw12302285512418536115:=0
def tw14969431397417773081:=0
def tw2377758451634206640:=0
def tw4447878700201988745:=0
def tw3817038840551044840:=0
def tw4172950530776484770:=0
def tw9635028479129951291:=0
def tw6340808036874388614:=0
def tw1640048399924993116:=0
def tw12014085599162434539:=0
def tw8973772486806363728:=0
def tw5677731440700436726:=0
def tw12223335761132866582:=0
def tw6779002371080994365:=0
def tw18187764475777230016:=0
def tw9846791897090710911:=0
def tw16080903255970342762:=0
def tw1859813082223615441:=0
def tw8260486313229358818:=0
def tw7091530384547560111:=0
def tw8349041159915817468:=0
def tw3848953495973451457:=0
def tw17744738863790458375:=0
def tw8393452898245914153:=0
def tw12845553752937962481:=0
def tw5928960789772810678:=0
def tw11866918602362393272:=0
def tw2587853247344685532:=0
def tw11224188734194385077:=0
def tw10839273959462531186:=0
def tw3830368208802487561:=0
def tw16409768454054992608:=0
def tw7470210288695260696:=0
def tw15243650938558569457:=0
def tw4740851015595636411:=0
def tw3386628103274086197:=0
def tw15484593895917718883:=0
def tw14954893498520393460:=0
def tw1504658586435847940:=0
def tw3714602582724303235:=0
def tw8525381966514699382:=0
def tw1115423366477504448:=0
def tw11696734109935180906:=0
def tw6989999225210821789:=0
def tw18226627592254907395:=0
def tw10051482624010152449:=0
def tw13251858394659818947:=0
def tw12539921807298771864:=0
def tw4357237912352826635:=0
def tw3646546111591278264:=0
def tw5847517386706470555:=0
def tw4156100232119600098:=0
def tw6669823466495069654:=0
def tw16664695046036790173:=0
def tw10797471242175849117:=0
def tw10773424964311513758:=0
def tw8489806887533722612:=0
def tw12373048406485459852:=0
def tw9317733060397555721:=0
def tw5142341630119562773:=0
def tw11826880262654309465:=0
def tw13905510550274956261:=0
def tw552931549803225208:=0
def tw13512555422118605787:=0
def tw17147845278757313127:=0
def tw5792807205819107003:=0
end PySem.W.Fast
set_option maxRecDepth 100000 in
set_option maxHeartbeats 0 in
theorem PySem.Challenge.cw_fivehues_k14_rows_refused_holds : PySem.Challenge.rw_fivehues_k14_rows_refused.Holds := by
 w_on;o_law;z_head;(case hw=>w_witness2)
 k_fill
 intro w s0 s1 mg mb G y fa o pm cd doc dV kV ho hd hcd hD hmg hg args vals as L hpre hlay hrd hwl hlo
 z_open y L KX ZH ZN ZT
 refine K21.walk (l:=PySem.Challenge.rw_fivehues_k14_rows_refused) rfl rfl ?F w s0 s1 mg mb G KX fa o pm cd doc dV kV ho hd hcd hD hmg hg args vals as hpre hlay hrd hwl hlo
 case F =>
  clear KX ZH ZN ZT L y G hmg hg hpre hlay hrd hwl hlo ho hd hcd hD
  intro w mg fa h KX G hmg
  refine' K21.all_mk KX G hmg ?aC ?_ ?_ ?_ ?_ ?_ ?_ ?_ ?_ ?_ ?_ ?_ ?_ ?_ ?_ ?_ ?_ ?_ ?_ ?_ ?_ ?_ ?_ ?_ ?_ ?_ ?_ ?_ ?_ ?_ ?_ ?_ ?_ ?_ ?_ ?_ ?_ ?_ ?_ ?_ ?_ ?_ ?_ ?_ ?_ ?_ ?_ ?_ ?_ ?_ ?_ ?_ ?_ ?_ ?_ ?_ ?_ ?_ ?_ ?_ ?_ ?_ ?_ ?_ ?_ ?_ ?_ ?_ ?_ ?_ ?_ ?_ ?_ ?_ ?_ ?_ ?_ ?_ ?_ ?_ ?_ ?_ ?_ ?_ ?_ ?_ ?_ ?_ ?_ ?_ ?_ ?_ ?_ ?_ ?_ ?_ ?_ ?_ ?_ ?_ ?_ ?_ ?_ ?_ ?_ ?_ ?_ ?_ ?_ ?_ ?_ ?_ ?_ ?_ ?_ ?_ ?_ ?_ ?_ ?_ ?_ ?_ ?_ ?_ ?_ ?_ ?_ ?_ ?_ ?_ ?_ ?_ ?_
  (case aC=>k_is)
  all_goals(try k_is)
  all_goals(try first | exact⟨_,_,by k_is,L2.fun_mk (by k_is) (by k_is) (by k_is)⟩ | exact⟨_,_,by k_is,by k_is,L2.fun_mk (by k_is) (by k_is) (by k_is)⟩ | k_is | kit_is | kts_exm | k_exc)
end
