import PyProof.Rows.All
import KE.KDictOf
import KE.KDictSum
import KE.KEqDict
import KE.KSortTup
import KE.KTryMore
import KE.RegKIsAll
import KE.RegKTryMore
import Lean
import OpenK.AllK
import PyProof.EqAt
import PyProof.EqKinds
import PyProof.ExcClass3
import PyProof.NsDelKeeps
import PyProof.Rows.FStr
import PyProof.Rows.StrMadeLen
import PyProof.SliceStr2
import PyProof.StrLaws
import PyProof.TupleCall
import Wide.All
import Wide.FinOn
import PySem.Challenge.RW_fivehues_k13_not_flat
set_option Elab.async false
set_option linter.all false
set_option maxRecDepth 100000
set_option maxHeartbeats 4000000
abbrev Qa:=@List.length_map
abbrev Qb:=@List.getElem?_eq_getElem
abbrev Qc:=@List.mem_singleton
abbrev Qd:=@Nat.le_refl
abbrev Qe:=@List.mem_cons_self
abbrev Qf:=@PySem.Heap.get?_push_of_some
abbrev Qg:=@List.mem_append
abbrev Qh:=@List.mem_cons_of_mem
abbrev Qi:=@List.mem_cons
abbrev Qj:=@List.mem_map
abbrev Qk:=@List.length_append
abbrev Ql:=@List.map_cons
abbrev Qm:=@List.getElem_mem
abbrev Qn:=@List.getD_eq_getElem?_getD
abbrev Qo:=@List.take_succ_eq_append_getElem
abbrev Qp:=@List.size_toArray
abbrev Qq:=@List.append_assoc
abbrev Qr:=@List.getElem?_map
abbrev Qs:=@List.map_append
abbrev Qt:=@List.take_of_length_le
abbrev Qu:=@PySem.F.plainAttrs_list
abbrev Qv:=@List.mem_append_right
abbrev Qw:=@Option.some.inj
abbrev Qx:=@PySem.Heap.lt_size
abbrev Qy:=@PySem.Heap.get?_push_size
abbrev Qz:=@List.mem_append_left
abbrev Za:=@Bool.false_ne_true
abbrev Zb:=@List.getElem_of_mem
abbrev Zc:=@List.length_cons
abbrev Zd:=@Nat.le_trans
abbrev Ze:=@List.nodup_cons
abbrev Zf:=@Array.toList_append
abbrev Zg:=@Int.eq_ofNat_of_zero_le
abbrev Zh:=@List.take_append_drop
abbrev Zi:=@List.length_take
abbrev Zj:=@Ne.symm
abbrev Zk:=@List.getElem?_eq_some_iff
abbrev Zl:=@PySem.boot_len
abbrev Zm:=@Nat.ne_of_lt
abbrev Zn:=@Nat.zero_le
abbrev Zo:=@List.nodup_append
abbrev Zp:=@List.drop_eq_getElem_cons
abbrev Zq:=@List.map_map
abbrev Zr:=@List.getElem_map
abbrev Zs:=@PySem.PassesOwn.never
abbrev Zt:=@Nat.le_of_lt
abbrev Zu:=@List.append_nil
abbrev Zv:=@List.pairwise_append
abbrev Zw:=@Nat.lt_of_lt_of_le
abbrev Zx:=@Array.perm_iff_toList_perm
abbrev Zy:=@Nat.le_add_right
abbrev Zz:=@PySem.F.type_list_append
abbrev Ya:=@PySem.F.slot_list_append
abbrev Yb:=@List.Perm.append_left
abbrev Yc:=@PySem.Paired.length
abbrev Yd:=@List.length_set
abbrev Yf:=@PyProof.Rows.KeyOrd.kle_of_klt
abbrev Yh:=@List.nodup_nil
abbrev Yi:=@List.mem_range
abbrev Yj:=@Array.length_toList
abbrev Yl:=@PyProof.Rows.KeyOrd.kle_trans
abbrev Ym:=@PySem.W.mg_none_of
abbrev Yn:=@List.mem_flatten
abbrev Yo:=@List.flatten_cons
abbrev Yp:=@PyProof.Rows.boot_sorted
abbrev Yq:=@List.cons_append
abbrev Yr:=@Bool.not_eq_true'
abbrev Yu:=@List.perm_append_comm
abbrev Yv:=@Nat.lt_irrefl
abbrev Yw:=@List.length_drop
abbrev Yx:=@PyProof.Rows.KeyOrd.kle_refl
abbrev Yy:=@List.mem_of_getElem?
abbrev Yz:=@PySem.Heap.get?_update_other
abbrev Wa:=@Nat.lt_succ_self
abbrev Wc:=@List.mem_of_mem_take
abbrev Wd:=@Decidable.byContradiction
abbrev We:=@Nat.ne_of_gt
abbrev Wf:=@Nat.lt_of_le_of_lt
abbrev Wg:=@PyProof.Rows.boot_isinstance
abbrev Wh:=@List.getElem_inj
abbrev Wi:=@List.length_range
abbrev Wj:=@Nat.mod_lt
abbrev Wk:=@List.pairwise_cons
abbrev Wl:=@List.mem_of_mem_drop
abbrev Wm:=@List.lt_irrefl
abbrev Wn:=@Bool.false_eq_true
abbrev Wo:=@Array.toList_reverse
abbrev Wp:=@Bool.eq_iff_iff
abbrev Wq:=@Nat.lt_trans
abbrev Wr:=@List.flatten_append
abbrev Ws:=@Array.toList_push
abbrev Wt:=@List.getElem?_eq_none
abbrev Wu:=@List.map_take
abbrev Wv:=@List.pairwise_map
abbrev Ww:=@List.find?_cons_of_pos
abbrev Wx:=@PySem.Around.under_plainId
abbrev Wy:=@PySem.mem_of_lookup
abbrev Wz:=@List.length_pos_iff
abbrev Ua:=@List.pairwise_iff_getElem
abbrev Ub:=@PySem.Heap.size_push
abbrev Uc:=@Array.getElem?_toList
abbrev Ud:=@PySem.F.called_set
abbrev Ue:=@PySem.F.type_list_insert
abbrev Uf:=@PySem.F.slot_list_insert
abbrev Ug:=@PySem.Heap.get?_update_self
abbrev Uh:=@PySem.Obj.data_mapFields
abbrev Ui:=@List.reverse_perm
abbrev Uj:=@List.getElem_take
abbrev Uk:=@List.filter_cons_of_neg
abbrev Ul:=@List.length_pos_of_mem
abbrev Um:=@List.find?_cons_of_neg
abbrev Uo:=@Array.getD_eq_getD_getElem?
abbrev Uq:=@PySem.W.mg_of
abbrev Ur:=@List.map_drop
abbrev Us:=@List.lookup_cons
abbrev Ut:=@PySem.F.slot_dict_keyiterator_next
abbrev Uu:=@Bool.and_eq_true
abbrev Uv:=@List.getElem_idxOf
abbrev Uw:=@List.getElem?_append_right
abbrev Ux:=@List.find?_eq_none
abbrev Uy:=@List.append_of_mem
abbrev Uz:=@List.length_filter_le
abbrev Ja:=@List.length_nil
abbrev Jb:=@PySem.SeqAt.EqAt.str_str
abbrev Jc:=@Nat.le_succ
abbrev Jd:=@List.getElem_toArray
abbrev Je:=@List.idxOf_lt_length_iff
abbrev Jf:=@List.map_congr_left
abbrev Jg:=@List.getElem_set_ne
abbrev Ji:=@PySem.F.type_list_index
abbrev Jj:=@PySem.F.slot_list_index
abbrev Jk:=@List.length_eq_zero_iff
abbrev Jl:=@List.filter_cons_of_pos
abbrev Jm:=@List.filter_append
abbrev Jo:=@List.drop_of_length_le
abbrev Jp:=@List.Nodup.sublist
abbrev Jq:=@Bool.not_eq_false'
abbrev Jr:=@Nat.le_antisymm
abbrev Js:=@Bool.or_eq_true
abbrev Jt:=@List.take_sublist
abbrev Ju:=@Int.toNat_natCast
abbrev Jv:=@PySem.F.excAttr_ValueError
abbrev Jw:=@List.perm_ext_iff_of_nodup
abbrev Jx:=@Array.toList_setIfInBounds
abbrev Jy:=@Nat.zero_add
abbrev Jz:=@List.all_eq_true
abbrev Ka:=@PySem.F.slot_tuple_iterator_next
abbrev Kb:=@List.foldl_cons
abbrev Kc:=@List.find?_cons
abbrev Kd:=@List.filter_nil
abbrev Ke:=@List.getElem_range
abbrev Kf:=@Int.emod_lt_of_pos
abbrev Kg:=@Sum.inr.inj
abbrev Kh:=@Nat.lt_succ_of_lt
abbrev Ki:=@Nat.lt_of_succ_lt
abbrev Kj:=@List.Perm.flatten
abbrev Kk:=@List.Perm.append_right
abbrev Kl:=@List.eraseIdxIfInBounds_toArray
abbrev Km:=@List.set_append_right
abbrev Kn:=@List.length_singleton
abbrev Ko:=@List.flatten_nil
abbrev Kp:=@Nat.add_assoc
abbrev Kq:=@List.any_cons
abbrev Kr:=@Prod.mk.inj
abbrev Ks:=@List.take_append_of_le_length
abbrev Kt:=@PyProof.Rows.KeyOrd.klt_of_klt_of_kle
abbrev Ku:=@PyProof.Rows.KeyOrd.klt_of_kle_of_klt
abbrev Kv:=@List.nil_append
abbrev Kw:=@List.mem_filter
abbrev Kx:=@Int.emod_nonneg
abbrev Ky:=@PySem.Obj.isFreed_of_fields
abbrev Kz:=@List.filter_sublist
abbrev Xa:=@PyProof.Rows.callWith_type1
abbrev Xb:=@List.idxOf_lt_length_of_mem
abbrev Xc:=@List.nodup_iff_pairwise_ne
abbrev Xd:=@Array.getElem?_eq_some_iff
abbrev Xe:=@List.getElem?_append_left
abbrev Xf:=@List.extract_eq_take_drop
abbrev Xg:=@Array.getElem?_eq_getElem
abbrev Xh:=@List.reverse_cons
abbrev Xi:=@List.ext_getElem?
abbrev Xj:=@List.drop_sublist
abbrev Xk:=@PySem.Heap.SameBut.update
abbrev Xl:=@PySem.W.KasT.kasWp_bind
abbrev Xm:=@PySem.SeqAt.EqAt.int_int
abbrev Xn:=@Option.bind_some
abbrev Xo:=@List.pairwise_singleton
abbrev Xp:=@List.nodup_range
abbrev Xq:=@List.mem_reverse
abbrev Xr:=@List.any_eq_true
abbrev Xt:=@PySem.Code.quiet_builtin
abbrev Xu:=@Array.toList_map
abbrev Xv:=@Array.toList_inj
abbrev Xw:=@Nat.sub_self
abbrev Xx:=@Int.zero_add
abbrev Xy:=@List.range_succ
abbrev Xz:=@List.filter_map
abbrev Ba:=@PySem.F.slot_dict_get
abbrev Bb:=@PyProof.Rows.boot_min
abbrev Bc:=@List.pairwise_reverse
abbrev Na:=PySem.Value→PySem.Shared→Prop
abbrev Nb:=PySem.W.Frag
abbrev Nc:=PySem.Addr
abbrev Nd:=List (PySem.Addr×PySem.Obj)
abbrev Ng:=PySem.Str→Option PySem.Value
abbrev Nh:=PySem.Shared
abbrev Ni:=List PySem.Value
abbrev Nj:=List PySem.Str
abbrev Nk:=PySem.Program
abbrev Nl:=PySem.World
abbrev Nn:=List PySem.Addr
abbrev No:=PySem.Around
abbrev Np:=PySem.Heap
abbrev Nq:=List PySem.Expr
abbrev Nr:=List (PySem.Str×PySem.Str)
abbrev Nt:=PySem.Str→List PySem.Str
abbrev Nu:=PySem.FuncData
abbrev Nv:=PySem.Result→PySem.Shared→Prop
abbrev Nw:=List (Option Nat)
abbrev Nx:=PySem.Str→PySem.Str
def zS(c:String):String:=
if c="Z" then"A Inv X a6 σ
B FnOk P w K mg base CX0
C FnOk P w K mg base
D Inv X a6
E wpS (model prog w) A E s
F wpAny (model X.prog X.w) X.A
G wpAny (model prog w) A
I wpAny (model prog w)
J PySem.W.nsIn K mainGlobals
K SortSt.mk' (kindOf ae) (arrOf ae) (pendingOf ae)
L row (rsOf es)
M cxOf (CXr P w) P w K mg base N qual scope f cd A outer s H
O gk O key
P zaa (pv 0)
Q upd H
R Bs kd a₀ p
S zbj (row (rsOf es))
U zan GT aV rfl mT FT.kp
V zdf X sc M C a6 ex s
W Cmp prog w A E s kd
X Bs kd a₀
Y wpAny _
Z zaa (pv 1)
0 Rn kd O key a₀
1 zaa (pv 2)
2 Fun K
3 PySem.W.findIn K
4 zay zao (pv 1) (pv 2)
5 itr (rsN rr) st
6 zay zao
7 le O key
8 Binds K
9 PE X
' zb1 Qu Ya Zz zbb" else
if c="Q" then"A Aj2 (SG st a7)
B EP X a6 σ
C zbn X.prog X.w
D kk kf p
E zbs Zs rfl
F za7 I q
G upd H1
H row (rsN rr)
I zan GT hr rfl mT FT.kp
J Jn O key
K cxOf CX P w K mg base N qual scope f
L StateT SortSt Sem
M Rn kd a₀ am
N upd H3
O zaa zai
P PySem.strKind prog
Q FnOk X.prog X.w X.K X.mg X.base CX k f fd ps
R HT.sIx xs.length
S zex X sc oz M C a6 ex s
T PySem.W.hideAll s1.heap
U zaq zbl
V zat X.prog
W upd H2
X zaa (pv 3)
Y zaj zak
Z upd H4
2 upd H5
3 PySem.W.kitOne K (.ref cN)
4 SqL X.K H
5 Qf _
6 wpS M A E s
7 Vals xs
8 za0 O key left ky arr
9 Mg O key" else
if c="W" then"A Jh O key
B HOk P w H
C wpAny_typeNameOfWhole_keyiter st.typeIs
D Qh _
E Value.str x
F FpOk X a6 H
G ExcI K C HE
H PySem.W.instObj C
I PySem.W.fnOf x qual (zdr st) (zce st)
J HOk P w
K Jn (opp O) key all o.toList
L zbn P w H h
M Pot H' p b'
N za0 O key
O wpAny_passesOwn hp
P wpAny_typeNameOf_keyiter st.typeIs
Q Paired R
R XdO s2.heap.objs.size
S SortSt.mk' (kindOf st) (arrOf st)
T clOf sc
U OpR X (compareOp .NotEq)
V D.nx σ
W cutV (zs.map V.str)
X zaq zb6
Y nmF way many f b tl
Z I.base.there b o
0 SqL K H a
1 PySem.W.keepIn K
3 Keep xs H
8 OpR X
9 NAt H' l as" else
if c="Y" then"A LF H0 H r fo se fa sa zss iso
B RelV x
C RelO (fs.lookup f)
D zbn P w
E SqL K H
F T.keep _ _ _
G Of a₀
H Pa a b o i
I zay zet (pv 4) zai
J PySem.Within mA
K wpAny M A
L zcc X
M HOk X.prog X.w
N RelV y
O putK kvs
Q upd H'
R Pa a b
S Ph a b
T zbv prog w A E
U itr rs
V Up O key
W xrec C none
X zb1 Qu Uf Ue zc3
Y PyProof.Rows.mirror _ _ _
Z upd (ZQ p1 (.lst (ns.map V.int))) p2
0 zge hu (pv 0)
1 zed (I.unsuite ok) hN hi
2 I.pin p
3 Loc X.env.scope
4 KV kvs
5 Aj2 (ZD σ' H' s')
6 Qv _
7 Blk X sc M
8 zaa (pv 4)
9 xrec C
' NAt H l as" else
if c="U" then"A zgd (zav op_eq (pv 4) zai (zbp _))
B Zw (Qx e)
C I.freeC x c
D T.obj _ _
E pcOf ns lab
F Vals ys
G RelV v
H I.base.keep b o e n hb
I I.base.slot b o e n hb
J I.hok b
K putF f v
L inner ix
M Cert ns r cs
N Heap.FlyingW B
O zan GB hr rfl mB FB.kp
P PySem.W.fnOf name qual params body scope dV kV doc pm an cdv
Q zb1 Qu PySem.F.slot_list_remove PySem.F.type_list_remove zhf
R wpAny_call_entry Ut st.typeIs F.entry_dict_keyiterator_next
S I.cell x c
T Qz _
U SqT K H a
V Room k
W Turn X.prog X.w X.K tg J fp it
X zb1 Qu
Y zaa (pv 5)
Z zbt zs
0 Ym X G
1 I.base.free b
2 wpAny_call_entry Ka st.typeIs F.entry_tuple_iterator_next
3 za4 rfl
4 cxOf CX0 P w K mg base N qual (zag st) f cdv A outer s H
5 Value.str y
7 wpAny_setField ho hd
8 Env0 P w K mg base A outer s
9 Lk f s
' ExAt x (.ref D)" else
if c="J" then"A Vals (zs.map V.str)
B zba (row (rsOf es))
C zba (row (rsOf ts))
D zbj (row (rsOf ts))
E PI X tg
F BindsTo s fd
G run (rsN rr)
H Nf K
I zeb h v x
J I.hok a _
K zat P
L PySem.W.methodObj (.ref f)
M Qy _
N ld_blt I hg hm
O hidT s₁.heap
P PTs (ZV H) ifs
Q pairO strO
R row rs
S zcq (zs.map V.str)
T st (row (rsOf es))
U Dn O key
V ExO a (.ref c)
W upd (QW D (.lst (fa.map V.ref))) d
X SP X a6
Y wpAny_field ho hd
Z zar 3
0 XcO e C
4 TurnZ rr zs
5 PySem.Within.cons name v
6 StateT σ Sem
7 t_ask h0 hc P
8 upd H8
9 Zy _
' PySem.W.codeIn K" else
if c="B" then"d valV kvs
e zdv rx fx r fs w
f rLC g tc te Q J (UL σ)
g PE (ZV H)
h lexB strO
i upd _ _ _
j zbj r fc
k PG (ZV H) tg
l Jn _ _ _ _ _
m zan GS hr rfl mS FS.kp
n zan GF hr rfl mF FF.kp
o stp (rsN rr)
p zc1 rfl bE
q upd H7
r Binds X.K fd ps
t zd9 left ky arr
u setO X.prog X.w
v InstAt s.heap x
w Heap.SameBut a s.heap
x Ar n
y le O
z zfh I hg hm
A PassesOwn (model X.prog X.w) X.A X.env
B I1.fpOk (Qd _)
C dk_rd I.hok
D dt_rd I.hok
E BlkG X sc oz M
F zab e
G zal (eb k3 c2)
H zal (ea n' f0)
I zal (ea n' f1)
J wpS _ _ _ _
K kk kf p'
L zbe 0
M pidx zs.length
N zab ec
O mirror (arrOf a7) lo
P upd H6
Q zar 2
R wpAny_loadPart_at hC
S Zd (Uz _ _)
T PySem.Builtin.Str.strSliceIndices none
U Uq X G
V I.hok p _
W Up kf p
X zaq zfs
Y zb8 zdj
Z zav op_gt
4 PySem.W.plainOver K
7 PySem.W.hasDictIn K
8 wpAny_lookBehind lI
9 List.Pairwise.map _" else
if c="X" then"A Wj _
B Turn P w K tg
C Itl K
D Inv Y
E SG st
F zal (eb k b2)
G zal (ea i b1)
H zar 4
I zaj (zbu rfl)
J XAt K
L row (rsOf ts)
M nmF wy n f bb
N Un fs ex H
O I.stkSub b
Q wpAny_getItem_list_slice ht.isList
R IntsAre vs
S FnOk l.prog w (K w.params) mg base
T ocl oz
U atI zdo.cps.toList
V nxt zs
W Conn r
X atI (as.map V.ref)
Y cntF ls.cps.toList
Z T.done Y eP eW eK eC i _ s5 τ H5
0 T.item Y eP eW eK eC i _ s5 τ H5
1 Aj3 (BAt H' b bs (row (rsOf es)))
2 zay ix_str (pv 2) (WX (pv 9) zai)
3 PS X
4 wpAny_loadPart hx
5 PySem.W.makesIn K
6 start N
7 KT H kvs
8 DGet H a
9 key_of I.hok" else
if c="K" then"A Value.str x'
B Nat.le_add_left _
C IsSt rs
D aOf 0
G zar 1
H C.sy _ _
I zaq zgi
J Un (frs X.stack) ch H H' s.heap
K J.fly os bare un hok hB hT fl.1
L Rd H a
M SqT X.K H
O HT.sIx a8.length
P zbg (zbe 1 ndPA)
Q PyProof.Rows.bubble (arrOf av)
R upd H9 fl
S Looks M h
U Value.int i
W I.ok.bs b o
Y J.yld i H x
Z zcz C
0 Looks.at L0
1 X.s₀.heap.FunFrames X.base
2 Vis X.env.scope
3 I.ok.cab x c rE
4 PT X
5 wpAny_mono h₁
6 wpAny_mono h₂
7 Paired (zbr H')
8 PySem.W.excIn K
9 PySem.F.args_dict_get_3 _ _
' zaq zhe" else
if c="V" then"a O.klt _
b putK (marks ks) (Sum.inr x)
c Looks (model prog w) s.heap
d zaq zfe
e Aj6 (W9 rr) (Good (rsN rr))
f Aj4 (W9 aZ) (Good (rsN aZ))
g zab q
h TP X a6 σ
i PSs X
j PA X
k zaw N ps
l Inv (QK cdv A outer s H E)
m Calls.callWith_builtin rfl
n tLC ix wi g tc
o Yb _
p kvP s.heap
q I'.thaw e1
r Wx F.plain_set_update_loop
s rDC g tc tk tv Q J (UL σ)
t At s.heap d es
u run rs s
v pg_tup rfl
w zab T.dc
x zfw r
y Paired (ze1 H)
z Paired (zbr H)
A zh7 hu (pv 2) (pv 5) pe_bl
B HasR R
C ExI K
D excH h C
E Room 1
F Tm.strO.blt b.1.cps.toList
G Tm.strO.blt a.1.cps.toList
H Tm.strO.blt b.2.cps.toList
I zb5 R.nd
J zbj r'
L wpAny_pyNext_list_item st
M SeqAt.EqAt.same z _ _ _ _
N List.replicate z.cps.size
O rLC g tAll te Q (XC a) τ
P LF H H' r fo se fa sa zss
Q I.ok.noex b o
R Gl X
S F.len _ _ _ _
T ixN xs.length
U wpAny_mono (turn n s hI)
W zbg (BL ndPA)
X ps_xst (pv 0)
Y IsSt (rsN rr)
Z wpAny_dictEntries lH gD
0 zav op_eq
1 T.keep k1
2 zdd p
3 HasR (LoneD dd) s'.heap
4 CXr P
5 X.tried E
6 Inv (X.suite a) a6 σ H
7 zav op_ne
8 zaa (zdn (ZZ (Z1 zae)))
9 List.mem_cons_of_mem _
' wpAny_mono h" else
if c="M" then"a Inv (X.wish E) a6 σ H
b Vals vs
c PG X (.Tuple es k pos)
d zcu fp
e Yz _ _
f F.args_list_append_2 _
h PySem.call f
i zf8 I' hN dD (.inl hy)
j zgx left ky arr base n
l O.kle (QD i)
m Dn kf p
n O.kle (kv x)
o zaj zcb
p RwAt H'
q C.cy c
r O.blt x
s zdt Zs
t Conn (row (rsOf es)) x
u zan GP hr rfl mP FP.kp
v zhm ts
w zan GN fT rfl mN FN.kp
x zan GP aV rfl mP FP.kp
y mirror (arrOf st) i j
z bubble (arrOf st) src
A SortSt.mk' (kindOf z)
B Heap.SameBut j s.heap
C wpAny_dictEpoch lH gD
D RelV p.2
E Zd I.ok.bsz
F J.stop i
G PySem.W.plainGet K C
H putF f y
I CE outer P w H s Q u
J Vals dvs
K zhn CX X
L MtM X
M zci C R4
N O.total _ _
O wpAny_seqItems hp hk
P Heap.ExtBut j s.heap
Q wpAny_pyIter_enum he
R wpAny_fieldsOf ho hd
S zba r
T zar 5
U wpAny_field g1 d1 d4
V wpAny_setField t3 t4
W Looks.at L2
X NAt H3 l as
Y PySem.W.lookIn name
Z PySem.W.takerIn K C
0 Vals (ns.map V.int)
3 Wq (I2.cl_lt _ _ z)
4 zbv prog w A' E' s'
5 Vals (as.map V.ref)
6 O.kle (ZO (YY _) _)
7 Paired (ze1 H2) fas
8 zaj (call_min2 rfl)
9 zaj (call_max2 rfl)
' PySem.W.specialIn K" else
if c="N" then"y PG X (.Name x pos)
z Itr lo
A call (.builtin id)
B SeqAt.EqAt A s u v
C kV doc
D och oz
E zd0 C R.kind oX oY
F zd1 C R.kind oX oY
G KatLex _ _ _ _ _ _
H keep h' tk
I zeb s.heap
J rowV H
K Cyc (st r)
L List.cons_ne_nil _
M zaj (call_sum rfl)
O zav (op_eq_nil eG)
P atI (zs.map V.str)
Q Keep as H5
R PySem.W.mroIn K cN
S wpAny (model P w)
T Itt K
U zdp f y
V cutV xs
W IxR X
X turn i n ys τ H5
Y I7.pinned (fN n7)
Z kind_tups k hv h2
0 Itd d o
2 RrInP neg K x y H
3 zbd H
4 ins p.2
5 zbe 2
6 zbe 3
7 row (zb0 rs x rr)
8 O.kle _
9 za5 C R.kind R.of
' O.blt y" else
if c="D" then"a zar 6
b zbf e
c SqB b K
d ItB b K
e zes _ _
f pg_sub (pv 0) zai
g zaa zel
h W2.ro e
i Zw (Qx q)
j I.base.tups b xs
k I.base.tbls b ps
l zid hN e1
m SqT K H p
o PPs X pos
p wpAny_mono h₁'
q T.self _ 0 _ _ _
r O.blt b.1
s O.trans _ _ _ h1
t RowAt knd s.heap
u Pot H p b
v idx_at nd
w mirror xs
x Wx plain_eq_loop
y PySem.W.exmOne K
z ExO a cls
B zb5 T3.nd
C za1 R3.ts
D R5.set ao
E nxt e.2.1
F upd HC fo
G bAt (sAt sDue 1)
K .ref $a
Q some (DK $a)
T model X.prog X.w
W SqL.of $a
X .lst $a
Z pendingOf $a
0 Keep.new $a
1 beq_iff_eq.mpr z
6 .ref s.heap.objs.size
7 model prog w
9 Qd _" else
if c="F" then"c arrOf $a
g ZA H s
i QJ $a o.toList (a.toList.drop $b) (b.toList.drop $c)
l envOfC qual scope s.heap.objs.size f $a
q .inl rfl
z List (List $a)
A wpAny_pure $a
J eval $a X.env
M ForInStep.yield $a
Q Keep.wr DI
V .dK (eWV es)
X some $a
Y zaa $a zae" else
if c="G" then"a DX (ws.map V.str)
b .inl $a
c e.2.1.map V.str
d row (rsOf es)
e .bl false
f decide_eq_false $a
g ha a6 s σ H _ I h
h if_pos $a
i DK C
j zs.map V.str
k DX (as.map V.ref)
m if_neg $a
n a.toList.drop $a
o pv 3
p ZK $a (failedOf ae)
q DK a
r I.tok _
s pv 1
u pv 0
v decide_eq_true $a
w a.toList.take $a
x starEach es X.env
y pv 2
z .dK kvs
A List Keyed
E zs.getD $a Str.empty
G .int $a
H .str $a
J DK D
K List $a
M Option Value
Q DX (bH.map V.ref)
V b.toList.drop $a
X beq_iff_eq.mp $a
Y List.range $a
Z By key
' .inr $a" else
if c="H" then"a .fresh 0 0 led
b QI bT .nil za3 (ZP (QO zae))
c FA (wpAny_bind $a)
d ha pos a6 s σ H _ I h
e he a6 s σ H _ I h
f A.deeper (envOfC qual (zag st) s.heap.objs.size f cdv)
g QF DI
h ZQ $a (DX $b)
i Z1 zae
j DJ nlp
k I.ok.hd hc
l zbp _
m .tup xs
n ZU bT .nil za3 (ZP $a)
o ZZ zae
q assign (.Name y py) X.env
r zs.idxOf z
s BX (BY $a $b zcd) (BY $a zcd $b)
t Gb (DW $a)
u ZP zae
v I.hok.fresh $a
w DK l
x za6 zae
y .cons $a .nil
z Fc a7
F GK Nat
G FX (iV $a)
H .Name x $a
I .builtin id
J a.extract $a $b
K DK x
L ZW O key a₀
M .bool true
N .dK (marks $a)
P Z2 qG qG zej ft fdt
Q SqT.of $a
R WT X.env
S V.ref e.2.2
U DK p
V rsN rr
W k _ _ Fq e
X sgk (sgm _)
Y Zn _
Z WI (zag st) .none kV doc pm an cdv ct" else
if c="R" then"a upd (QZ q1 $a) q2 (DX $b)
b ho a6 s σ H _ I h
c hi a6 s σ H _ I h
e JM rfl
f k3.trans $a
g DX (ini.map V.str)
h strValues $a
i FX (.str $a)
j .int $a $b
k .dT kvs
l Option Nat
m pairsOf vs
o .Slice none none (FX (.UnaryOp .USub (.Constant (.int 1) k p4) p3)) p2
p SqL.of R6.ls
q pv 4
r pv 5
t hb a6 s1 σ H1 _ I1 q1
u QV X.w
v QX zae
w some s2.heap.objs.size
x V.int $a
y DX (r.map iV)
z assignEach $a X.env
C .bl true
D V.bl true
E ZR lo pre $a
G .Subscript $a $b pos
H tupleKind_room_in1 hu
I I1.hok.fresh D9
J .tup (k.map kV)
K eqU x
M Qc.mpr rfl
N Fc st
O wpAny_attempt $a
P List.range rr.length
Q zbt zs
S QY D4 a9 Zl $a
T zax (Z' $a $b)
U QU $a zai" else
""
def zK(s:String):List String:=(s.toList.foldr (λc l=>if "() ".contains c then ""::(if c=' ' then l else String.singleton c::l) else match l with|x::t=>(String.singleton c++x)::t|[]=>[]) [""]).filter (·≠"")
open Lean in
def zI(g:Array Syntax)(t:String):Syntax:=
 if t="_" then .node .none ``Parser.Term.hole #[.atom .none "_"] else if t.toNat?.isSome then Syntax.mkNumLit t else
 if t.startsWith "." then .node .none ``Parser.Term.dotIdent #[.atom .none ".",mkIdent (t.drop 1).toString.toName] else
 ((t.splitOn ".").foldl (λo p=>some (match o with
  |none=>if p.startsWith "$" then g.getD ((p.toList.getD 1 'a').toNat-97) .missing else mkIdent (.mkSimple p)
  |some x=>if p.toNat?.isSome then .node .none ``Parser.Term.proj #[x,.atom .none ".",Syntax.mkLit `fieldIdx p] else if x.isIdent then mkIdent (x.getId.str p) else .node .none ``Parser.Term.proj #[x,.atom .none ".",mkIdent (.mkSimple p)])) none).getD .missing
open Lean in
def zC(a:Array Syntax):Syntax:=if a.size≤1 then a.getD 0 .missing else let x:=a.getD 0 .missing; if x.isOfKind ``Parser.Term.app then .node .none ``Parser.Term.app #[x[0],mkNullNode (x[1].getArgs++a.extract 1 a.size)] else .node .none ``Parser.Term.app #[x,mkNullNode (a.extract 1 a.size)]
open Lean in
def zR(g:Array Syntax):Nat→List String→Array Syntax→Syntax×List String
 |n+1,"("::t,a=>let(x,r):=zR g n t #[];zR g n r (a.push x)
 |_,")"::t,a=>(zC a,t)
 |n+1,x::t,a=>zR g n t (a.push (zI g x))
 |_,t,a=>(zC a,t)
open Lean in
def zW(f:Name)(a:Array Syntax):MacroM Term:=do
 let .str .anonymous s:=f|Macro.throwUnsupported
 if s.length<2∨s.length>3 then Macro.throwUnsupported
 let some r:=((zS (s.take 1).toString).splitOn "\n").find? (·.startsWith ((s.drop 1).toString++" "))|Macro.throwUnsupported
 let t:=(zK r).tail
 let n:=t.foldl (λm x=>if x.startsWith "$" then max m ((x.toList.getD 1 'a').toNat-96) else m) 0
 if a.size<n then Macro.throwUnsupported
 return ⟨zC (#[(zR a 999 t #[]).1]++a.extract n a.size)⟩
set_option hygiene false
local macro_rules
|`(DH)=>`(by lia)
|`(DI)=>`(by simp)
|`(DJ $a)=>`(by simpa using $a)
|`(DL)=>`(by decide)
|`(DM)=>`(a.toList++b.toList)
|`(DO $a)=>`(by show $a≤sizeLine;decide)
|`(DP)=>`(λcdv A outer s H vs Q E hr h=>?_)
|`(DR $a $b)=>`(by rw[$a:term];exact $b)
|`(DS)=>`(by intro z;cases z)
|`(DU)=>`(λ_ _=>rfl)
|`(DV $a)=>`(.inl ⟨rfl,_,SqL.of $a⟩)
|`(DY $a $b)=>`(by rw[zaf $a:term];exact $b)
|`(D4)=>`(by rfl)
|`(D8 $a)=>`(aA _ _ ⟨sgm _,.inl $a⟩)
|`(Fa)=>`(wpS_lift (wpAny_rule ⟨rfl,?_⟩))
|`(Fb)=>`(.lst [])
|`(Fd)=>`(by exact Zt ‹_›)
|`(Fe)=>`((∀b o,s.heap.get? b=some o→g.get? b=some o))
|`(Ff)=>`((∀σ' H',N σ' H'→∃m',m'<m∧W (i+1) m' σ' H'))
|`(Fh)=>`(s.heap.objs.size+1)
|`(Fj)=>`(i+1)
|`(Fk $a)=>`((gs++L.take $a).map λs=>(kP s,V.bl true))
|`(Fm)=>`((zs.map λx=>((ZL x).length:Int)).map V.int)
|`(Fn)=>`(.ListComp elt [⟨tg,iter,ifs,0⟩] sc pos)
|`(Fo)=>`(by rw[Qa];lia)
|`(Fp)=>`((∀b∈ch,(b∈X.ex∨X.s₀.heap.objs.size≤b)∧b≠X.env.locals∧(∀x c,X.env.cells.lookup x=some c→c≠b)∧∀p∈X.pn++a6,p.1≠b))
|`(Fr)=>`(Ex2 λres r=>Aj2 (c=(some res,r)) (res.toList.Perm DM))
|`(Fs)=>`(.lst [.int 1,.int (((as.map V.ref).length:Int)+1),.int (3*((as.map V.ref).length:Int)+1)])
|`(Ft)=>`(.builtin "object.__class__")
|`(Fu)=>`(x==("__debug__" : Str))
|`(Fv)=>`(.lst [.int 1,.int 3,.int 5,.int 7,.int 9,.int 25,.int 27,.int 675])
|`(Fw)=>`((λcs y=>if(y.2==NameKind.free)=true then(y.1,(env.cells.lookup y.1).getD 0)::cs else cs))
|`(Fx)=>`(by exact zar2 ‹_› ‹_›)
|`(Fy)=>`(Ex2 λres r=>Aj2 (c=(some res,r)) (Q9 DM res.toList))
|`(FE)=>`(by exact zar1 ‹_›)
|`(FG)=>`(es.map (·.1))
|`(FH $a)=>`(pidx es[i].2.1.length $a)
|`(FK)=>`(.builtin "getset_descriptor.__get__")
|`(FZ)=>`(DX ((t0::as).map V.ref++[V.ref t]))
|`(F' $a)=>`(DX (((L.take $a).map (·.1)).map V.str))
|`(⟨$xs,*⟩)=>do
 let mut o:Array Lean.Term:=#[]
 for x in xs.getElems do
  if x.raw.getId==`RV then o:=(o.push (← `(_))).push (← `(rfl)) else o:=o.push x
 if o.size==xs.getElems.size then Lean.Macro.throwUnsupported else `(⟨$o,*⟩)
|`($f:ident $a*)=>zW f.getId a.raw
|`($f:ident)=>zW f.getId #[]
section
set_option Elab.async false
set_option linter.all false
set_option maxRecDepth 100000
inductive Ex1{T0:Sort _}(P:T0→Prop):Prop
 |mk(x0:T0)(h:P x0)
inductive Ex2{T0:Sort _}{T1:Sort _}(P:T0→T1→Prop):Prop
 |mk(x0:T0)(x1:T1)(h:P x0 x1)
inductive Ex3{T0:Sort _}{T1:Sort _}{T2:Sort _}(P:T0→T1→T2→Prop):Prop
 |mk(x0:T0)(x1:T1)(x2:T2)(h:P x0 x1 x2)
inductive Ex4{T0:Sort _}{T1:Sort _}{T2:Sort _}{T3:Sort _}(P:T0→T1→T2→T3→Prop):Prop
 |mk(x0:T0)(x1:T1)(x2:T2)(x3:T3)(h:P x0 x1 x2 x3)
inductive Ex5{T0:Sort _}{T1:Sort _}{T2:Sort _}{T3:Sort _}{T4:Sort _}(P:T0→T1→T2→T3→T4→Prop):Prop
 |mk(x0:T0)(x1:T1)(x2:T2)(x3:T3)(x4:T4)(h:P x0 x1 x2 x3 x4)
inductive Ex6{T0:Sort _}{T1:Sort _}{T2:Sort _}{T3:Sort _}{T4:Sort _}{T5:Sort _}(P:T0→T1→T2→T3→T4→T5→Prop):Prop
 |mk(x0:T0)(x1:T1)(x2:T2)(x3:T3)(x4:T4)(x5:T5)(h:P x0 x1 x2 x3 x4 x5)
structure Aj2(p0 p1:Prop):Prop where
 h0:p0
 h1:p1
structure Aj3(p0 p1 p2:Prop):Prop where
 h0:p0
 h1:p1
 h2:p2
structure Aj4(p0 p1 p2 p3:Prop):Prop where
 h0:p0
 h1:p1
 h2:p2
 h3:p3
structure Aj5(p0 p1 p2 p3 p4:Prop):Prop where
 h0:p0
 h1:p1
 h2:p2
 h3:p3
 h4:p4
structure Aj6(p0 p1 p2 p3 p4 p5:Prop):Prop where
 h0:p0
 h1:p1
 h2:p2
 h3:p3
 h4:p4
 h5:p5
structure Aj7(p0 p1 p2 p3 p4 p5 p6:Prop):Prop where
 h0:p0
 h1:p1
 h2:p2
 h3:p3
 h4:p4
 h5:p5
 h6:p6
structure Aj8(p0 p1 p2 p3 p4 p5 p6 p7:Prop):Prop where
 h0:p0
 h1:p1
 h2:p2
 h3:p3
 h4:p4
 h5:p5
 h6:p6
 h7:p7
structure Aj9(p0 p1 p2 p3 p4 p5 p6 p7 p8:Prop):Prop where
 h0:p0
 h1:p1
 h2:p2
 h3:p3
 h4:p4
 h5:p5
 h6:p6
 h7:p7
 h8:p8
def zar1{a b:Nat}(h:a<b):b-(a+1)<b-a:=Nat.sub_lt_sub_left h (Wa a)
def zar2{a b c d:Nat}(h:a+b≤c)(k:d<b):a+d<c:=Zw (Nat.add_lt_add_left k a) h
def zar3{a b:Nat}(h:a≤b)(k:¬a<b):a=b:=Jr h (Nat.le_of_not_lt k)
def zar4{a b:Nat}(h:a≤b):a+1≤b+1:=Nat.succ_le_succ h
def zar5{a b:Nat}(h:a<b)(k:¬a+1=b):a+1<b:=Nat.lt_of_le_of_ne h k
def zar6{a b c:Nat}(e:a=b)(h:c<b):c<a:=e▸h
def zar7{a b c:Nat}(e:a=b)(h:c<a):c<b:=e▸h
def zar8{a b:Nat}(h:(a:Int)<(b:Int)):a<b:=Int.ofNat_lt.mp h
def zar9{a b:Nat}(h:a<b):(a:Int)<(b:Int):=Int.ofNat_lt.mpr h
def zar10{a b:Nat}(h:a<b)(k:b≤a):False:=Yv _ (Zw h k)
def zdx{a b c:Nat}(h:a≤b)(e:a=c):c≤b:=e▸h
def zar14{a:Nat}(h:¬a=0):a=a-1+1:=(Nat.succ_pred h).symm
def zhr{a b:Nat}(h:a≤b):a≤b+1:=Nat.le_succ_of_le h
namespace L2
open PySem PySem.Spec PyProof.Rows
abbrev Key:=Sum Int Str
def keyIs:Key→Value→Bool
 |.inl k,v=>Value.isInt k v
 |.inr x,v=>Value.isStrOf x v
def keyH(w:Nl):Key→Int
 |.inl k=>hashInt k
 |.inr x=>hashStr w x
theorem zbc:∀{k:Key} {v:Value},keyIs k v=true→(∃i t,k=Sum.inl i∧v=KU t)∨(∃x t,k=Sum.inr x∧v=WE t)
 |.inl i,v,h=>by obtain⟨t,e⟩:=Value.isInt_shape (k:=i) (v:=v) h;exact .inl ⟨i,t,rfl,e⟩
 |.inr x,v,h=>by obtain⟨t,e⟩:=Value.isStrOf_shape (x:=x) (v:=v) h;exact .inr ⟨x,t,rfl,e⟩
def keyIs_int(i:Int)(t:Tok):keyIs (Gb i) (Rj i t)=true:=by simp[keyIs,Value.isInt]
def keyIs_str(x:Str)(t:Tok):keyIs (G' x) (.str x t)=true:=by simp[keyIs,Value.isStrOf]
def key_ll(a b:Int):decide ((Sum.inl a:Key)=Sum.inl b)=(a==b):=by
 by_cases e:a=b
 ·subst e;simp
 have h:¬ (Sum.inl a:Key)=Sum.inl b:=λq=>e (Sum.inl.inj q);rw[decide_eq_false h];exact(beq_eq_false_iff_ne.mpr e).symm
def key_rr(a b:Str):decide ((Sum.inr a:Key)=Sum.inr b)=decide (a=b):=by
 by_cases e:a=b
 ·subst e;simp
 have h:¬ (Sum.inr a:Key)=Sum.inr b:=λq=>e (Kg q);rw[decide_eq_false h,decide_eq_false e]
def key_lr(a:Int)(b:Str):decide ((Sum.inl a:Key)=Sum.inr b)=false:=decide_eq_false (λq=>nomatch q)
def key_rl(a:Str)(b:Int):decide ((Sum.inr a:Key)=Sum.inl b)=false:=decide_eq_false (λq=>nomatch q)
def zat(prog:Nk)(w:Nl):PySem.KeyKind prog w Key where
 is:=keyIs
 hash:=keyH w
 inj:=λv a b ha hb=>by
  rcases zbc ha with⟨i,t,rfl,rfl⟩|⟨x,t,rfl,rfl⟩
  ·rcases zbc hb with⟨j,u,rfl,e⟩|⟨y,u,rfl,e⟩
   ·injection e with e1 _;rw[e1]
   exact nomatch e
  rcases zbc hb with⟨j,u,rfl,e⟩|⟨y,u,rfl,e⟩
  ·exact nomatch e
  injection e with e1 _;rw[e1]
 byValue:=λk v h=>by rcases zbc h with⟨i,t,rfl,rfl⟩|⟨x,t,rfl,rfl⟩<;>rfl
 pyHash:=λhv h=>by
  rcases zbc hv with⟨i,t,rfl,rfl⟩|⟨x,t,rfl,rfl⟩
  ·exact wpAny_pyHash_int h
  exact wpAny_pyHash_str h
 eqBool:=λhu hv h=>by
  rcases zbc hu with⟨i,t,rfl,rfl⟩|⟨x,t,rfl,rfl⟩
  ·rcases zbc hv with⟨j,u,rfl,rfl⟩|⟨y,u,rfl,rfl⟩
   ·rw[key_ll]at h;exact wpAny_eqBool_int h
   rw[key_lr]at h;exact SeqAt.EqAt.int_str i t y u _ _ _ _ h
  rcases zbc hv with⟨j,u,rfl,rfl⟩|⟨y,u,rfl,rfl⟩
  ·rw[key_rl]at h;exact SeqAt.EqAt.str_int x t j u _ _ _ _ h
  rw[key_rr]at h;exact wpAny_eqBool_str h
 «strs»:=λk x t v h=>by
  rcases zbc h with⟨i,u,rfl,e⟩|⟨y,u,rfl,e⟩
  ·exact nomatch e
  injection e with e1 _;subst e1;cases v<;>rfl
def mixKind_int(prog:Nk)(w:Nl)(i:Int)(t:Tok):(zat prog w).is (Gb i) (Rj i t)=true:=keyIs_int i t
def zgn(prog:Nk)(w:Nl)(x:Str)(t:Tok):(zat prog w).is (G' x) (.str x t)=true:=keyIs_str x t
inductive V where
 |non|bl (b:Bool)|int (i:Int)|str (x:Str)|byt (b:Array UInt8)|flt (b:UInt64)|ref (a:Nc)|ty (n:String)
 deriving DecidableEq
def RelV:V→Value→Prop
 |.non,u=>u=Value.none
 |.bl b,u=>u=Value.bool b
 |.int i,u=>∃t,u=KU t
 |.str x,u=>∃t,u=WE t
 |.byt b,u=>∃t,u=Value.bytes b t
 |.flt b,u=>∃t,u=Value.float b t
 |.ref a,u=>u=Value.ref a
 |.ty n,u=>u=Value.type n
abbrev Vals:List V→List Value→Prop:=Paired RelV
def Vals.length{xs:List V}{us:Ni}(r:Q7 us):xs.length=us.length:=Yc r
theorem Vals.get:∀{xs:List V} {us:Ni} {i:Nat} {x:V},Q7 us→xs[i]?=some x→∃u,us[i]?=some u∧YB u
 |_,_,_,_,.nil,e=>by simp at e
 |_,_,0,_,.cons r _,e=>by simp at e;subst e;exact⟨RV,r⟩
 |_,_,i+1,x,.cons _ t,e=>by obtain⟨u,h1,h2⟩:=Vals.get (i:=i) (x:=x) t (DJ e);exact⟨u,DJ h1,h2⟩
theorem Vals.set{x:V}{u:Value}(r:YB u):∀{xs:List V} {us:Ni} (i:Nat),Q7 us→Vals (xs.set i x) (us.set i u)
 |_,_,_,.nil=>.nil
 |_,_,0,.cons _ t=>.cons r t
 |_,_,i+1,.cons q t=>.cons q (Vals.set r i t)
theorem Vals.append:∀{xs ys:List V} {us ws:Ni},Q7 us→UF ws→Vals (xs++ys) (us++ws)
 |_,_,_,_,.nil,s=>s
 |_,_,_,_,.cons r t,s=>.cons r (Vals.append t s)
theorem Vals.take:∀{xs:List V} {us:Ni} (n:Nat),Q7 us→Vals (xs.take n) (us.take n)
 |_,_,0,_=>.nil
 |_,_,_+1,.nil=>.nil
 |_,_,n+1,.cons r t=>.cons r (Vals.take n t)
theorem Vals.drop:∀{xs:List V} {us:Ni} (n:Nat),Q7 us→Vals (xs.drop n) (us.drop n)
 |_,_,0,r=>r
 |_,_,_+1,.nil=>.nil
 |_,_,n+1,.cons _ t=>Vals.drop n t
def RelO:Option V→Option Value→Prop
 |some v,some u=>UG u
 |none,none=>True
 |_,_=>False
def KV{κ:Type}:List (κ×V)→List (κ×Value)→Prop:=Paired λ(p:κ×V) (q:κ×Value)=>p.1=q.1∧MD q.2
def kV:Key→V
 |.inl i=>.int i
 |.inr x=>.str x
inductive HO where
 /-- a list -/
 |lst (xs:List V)
 /-- a tuple (never changes) -/
 |tup (xs:List V)
 /-- a dict whose keys are ints and texts;one whose keys are tuples of ints and texts (the empty one is both) -/
 |dK (kvs:List (Key×V))|dT (kvs:List (List Key×V))
 /-- a set of ints: a8 members,a8 size -/
 |set (S:Int→Bool) (n:Nat)
 /-- an instance of the class at C,a8 dict at dx,a8 attributes -/
 |ins (C dx:Nc) (fs:List (Str×V))
 /-- the dict of the instance at x -/
 |own (x:Nc)
 /-- the dict of an exception -/
 |xd (fs:List (Str×V))
 /-- a bound method,f of x -/
 |met (f x:Nc)
 /-- a range object lo,lo+1,.. below hi -/
 |rng (lo hi:Int)
 /-- a thing that is known to the object (the script;a dict while a loop walks it): read,never written while it is so -/
 |frz (o:Obj) (u:HO)
 /-- a code object's table -/
 |tbl (ps:Array Value)
 /-- any other thing,by what is true of a8 one object (a def of one's own: SetO a S n:=HO.ext λh=>..) -/
 |ext (φ:Heap→Prop)
abbrev Hp:=Addr→Option HO
def upd(H:Hp)(a:Nc)(o:HO):Hp:=λb=>if b=a then some o else H b
def zac{H:Hp}{a:Nc}{o:HO}:ZQ a o a=some o:=by unfold upd;rw[if_pos rfl]
def zaf{H:Hp}{a b:Nc}{o:HO}(h:b≠a):ZQ a o b=H b:=by unfold upd;rw[if_neg h]
def upd_upd{H:Hp}{a:Nc}{o u:HO}:upd (ZQ a o) a u=ZQ a u:=by funext b;unfold upd;split<;>rfl
def zbf{H:Hp}{a b:Nc}{o u:HO}(h:H a=some o)(h':H b=some u)(d:o≠u):a≠b:=by intro e;subst e;rw[h]at h';exact d (Qw h')
def zab{H:Hp}{a b:Nc}{o:HO}(h:H a=some o)(h':H b=none):a≠b:=by intro e;subst e;rw[h]at h';cases h'
section
variable(P:Nk)(w:Nl)
def zbn(H:Hp)(h:Np)(a:Nc):HO→Prop
 |.lst xs=>xs.length≤sizeLine∧∃(a8:Ni) (n:Nat),Q7 a8∧h.get? a=some {cls:=.type "list",data:=.seq a8.toArray n}
 |.tup xs=>xs.length≤sizeLine∧∃a8:List Value,Q7 a8∧IsTup h a a8.toArray
 |.dK kvs=>kvs.length≤sizeLine∧(a==sysModules)=false∧∃vs,Y4 vs∧h.DictOf (JK w) a vs
 | .dT kvs=>kvs.length≤sizeLine∧(a == sysModules)=false∧∃ xs:List (List Key×Addr×Value),
   Paired (λ(p:List Key×V) (q:List Key×Addr×Value)=>p.1=q.1∧H q.2.1=some (.tup (p.1.map kV))∧MD q.2.2) kvs xs ∧
   ∃o es ep,h.get? a=some o∧o.ExactDict∧o.data=.dict es ep∧es.toList=xs.map (entryOfKey (tupleKind (JK w)))∧(xs.map (·.1)).Nodup
 |.set S n=>h.SetOf (intKind P w) a S n
 | .ins C dx fs=>H dx=some (.own a)∧fs.length≤1000∧dx≠a∧h.get? a=some (WH dx) ∧
   ∃mA,h.Ns1 dx mA∧(∀f,YC (mA f))∧YJ (fs.map (·.1))
 |.own _=>∃o,h.get? a=some o
 |.xd fs=>∃mA,h.Ns1 a mA∧∀f,YC (mA f)
 |.rng lo hi=>∃t u v,h.get? a=some {cls:=.type "range",data:=.fields #[Rj lo t,Rj hi u,Rj 1 v]}
 |.frz o u=>h.get? a=some o∧zbn H h a u
 |.tbl ps=>h.get? a=some {cls:=.none,data:=.fields ps}
 |.met f x=>h.get? a=some (JL HK)
 |.ext φ=>φ h∧(∃o,h.get? a=some o)∧∀h1 h2:Heap,φ h1→(∀o,h1.get? a=some o→h2.get? a=some o)→φ h2
def HOk(H:Hp)(h:Np):Prop:=∀a o,H a=some o→WL a o
end
section
variable{P:Nk}{w:Nl}{H H':Hp}{h h':Np}{a:Nc}{o:HO}
def zbn.lt(x:WL a o):a<h.objs.size:=by
 cases o with
 |lst xs=>obtain⟨_,_,_,_,e⟩:=x;exact Qx e
 |tup xs=>obtain⟨_,_,_,p⟩:=x;exact p.lt
 |dK kvs=>obtain⟨_,_,_,_,o,_,_,e,_⟩:=x;exact Qx e
 |dT kvs=>obtain⟨_,_,_,_,o,_,_,e,_⟩:=x;exact Qx e
 |set S n=>obtain⟨o,_,_,_,e,_⟩:=x;exact Qx e
 |ins C dx fs=>obtain⟨_,_,_,e,_⟩:=x;exact Qx e
 |own y=>obtain⟨_,e⟩:=x;exact Qx e
 |xd fs=>obtain⟨_,⟨_,_,_,e,_⟩,_⟩:=x;exact Qx e
 |rng lo hi=>obtain⟨_,_,_,e⟩:=x;exact Qx e
 |frz ob u=>obtain⟨e,_⟩:=x;exact Qx e
 |tbl ps=>exact Qx (show h.get? a=some _ from x)
 |met f y=>exact Qx (show h.get? a=some _ from x)
 |ext φ=>obtain⟨_,⟨_,e⟩,_⟩:=x;exact Qx e
theorem Paired.mapP{α β:Type}{F G:α→β→Prop}:∀{l₁:List α} {l₂:List β},Paired F l₁ l₂→(∀a b,F a b→G a b)→Paired G l₁ l₂
 |_,_,.nil,_=>.nil
 |_,_,.cons r t,f=>.cons (f _ _ r) (Paired.mapP t f)
def Paired.imp'{α β:Type}{F G:α→β→Prop}(f:∀a b,F a b→G a b){l₁:List α}{l₂:List β}(r:Paired F l₁ l₂):Paired G l₁ l₂:=Paired.mapP r f
def zbn.stay(x:WL a o)(k:∀b u,(b=a∨H b=some (.own a))→h.get? b=some u→h'.get? b=some u)(ho:∀b,H b=some (.own a)→H' b=some (.own a))(ht:∀b xs,H b=some Hm→H' b=some Hm):YD H' h' a o:=by
 induction o with
 |lst xs=>obtain⟨z,a8,n,r,e⟩:=x;exact⟨z,a8,n,r,HW⟩
 |tup xs=>obtain⟨z,a8,r,ob,e,c⟩:=x;exact⟨z,a8,r,ob,HW,c⟩
 |dK kvs=>obtain⟨z,y,vs,r,ob,es,ep,e,c⟩:=x;exact⟨z,y,vs,r,ob,es,ep,HW,c⟩
 |dT kvs=>obtain⟨z,y,xs,r,ob,es,ep,e,c⟩:=x;exact⟨z,y,xs,Paired.mapP r λp q z=>⟨z.1,ht _ _ z.2.1,z.2.2⟩,ob,es,ep,HW,c⟩
 |set S n=>obtain⟨ob,es,ep,t,e,c⟩:=x;exact⟨ob,es,ep,t,HW,c⟩
 |ins C dx fs=>obtain⟨d,z,ne,e,mA,⟨od,es,ep,e2,c⟩,r⟩:=x;exact⟨ho _ d,z,ne,HW,mA,⟨od,es,ep,k _ _ (G' d) e2,c⟩,r⟩
 |own y=>obtain⟨ob,e⟩:=x;exact⟨ob,HW⟩
 |xd fs=>obtain⟨mA,⟨od,es,ep,e,c⟩,r⟩:=x;exact⟨mA,⟨od,es,ep,HW,c⟩,r⟩
 |rng lo hi=>obtain⟨t,u,v,e⟩:=x;exact⟨t,u,v,HW⟩
 |frz ob u ih=>obtain⟨e,q⟩:=x;exact⟨HW,ih q⟩
 |tbl ps=>have e:h.get? a=some {cls:=.none,data:=.fields ps}:=x;show h'.get? a=some {cls:=.none,data:=.fields ps};exact k a _ Fq e
 |met f y=>have e:h.get? a=some (JL (DK y)):=x;show h'.get? a=some (JL (DK y));exact k a _ Fq e
 |ext φ=>obtain⟨p,⟨o,e⟩,st⟩:=x;exact⟨st _ _ p λo q=>k _ _ Fq q,⟨o,HW⟩,st⟩
def HOk.lt(x:WB h)(e:H a=some o):a<h.objs.size:=(x a o e).lt
def HOk.fresh(x:WB h)(e:h.objs.size≤a):H a=none:=by
 cases q:H a with
 |none=>rfl
 |some u=>exact absurd (Zw (x.lt q) e) (Yv _)
def HOk.kept(x:WB h)(k:∀b u,h.get? b=some u→h'.get? b=some u):WB h':=λa o e=>(x a o e).stay (λb u _ q=>k b u q) (λ_ q=>q) λ_ _ q=>q
def HOk.laid(x:WB h)(k:∀b u,h.get? b=some u→h'.get? b=some u)(hp:h.objs.size≤a)(new:YD (ZQ a o) h' a o):WJ (ZQ a o) h':=λb u e=>by
 have hn:=x.fresh hp;by_cases hb:b=a
 ·subst hb;rw[zac]at e;cases e;exact new
 rw[zaf hb]at e;exact(x b u e).stay (λc v _ q=>k c v q) (λc q=>by rw[zaf (Vg hn)];exact q) λc xs q=>by rw[zaf (Vg hn)];exact q
def Rd(H:Hp)(a:Nc)(u:HO):Prop:=H a=some u∨∃o,H a=some (.frz o u)
def Rd.ok{P:Nk}{w:Nl}{H:Hp}{h:Np}{a:Nc}{u:HO}(r:KL u)(x:WB h):WL a u:=by
 rcases r with r|⟨o,r⟩
 ·exact x a u r
 obtain⟨_,q⟩:=x a _ r;exact q
def Mut:Option HO→Prop
 |some (.lst _)=>True
 |some (.dK _)=>True
 |some (.dT _)=>True
 |some (.set _ _)=>True
 |some (.ins _ _ _)=>True
 |some (.ext _)=>True
 |_=>False
variable{x e:Nc}{o':HO}
def HOk.write(ok:WB h)(mu:Mut (H x))(he:e=x∨H e=some (.own x))(k:∀ b u,b≠e→h.get? b=some u→h'.get? b=some u)(kl:∃ u,h'.get? e=some u)(new:YD (ZQ x o') h' x o'):WJ (ZQ x o') h':=λb u q=>by
 have nown:∀c y,H c=some (.own y)→c≠x:=λc y r z=>by subst z;rw[r]at mu;exact mu
 have ntup:∀c xs,H c=some Hm→c≠x:=λc xs r z=>by subst z;rw[r]at mu;exact mu
 by_cases hb:b=x
 ·subst hb;rw[zac]at q;cases q;exact new
 rw[zaf hb]at q;by_cases ju:b=e
 ·have q':H b=some (.own x):=by
   rcases he with z|z
   ·exact absurd (ju.trans z) hb
   rw[ju];exact z
  rw[q]at q';cases q';obtain⟨v,hv⟩:=kl;exact⟨v,DR ju hv⟩
 refine (ok b u q).stay (λc v hc r=>k c v ?_ r) (λc r=>by rw[zaf (nown c b r)];exact r) λc xs r=>by rw[zaf (ntup c xs r)];exact r
 rcases hc with rfl|hc
 ·exact ju
 rintro rfl;rcases he with z|z
 ·exact nown c b hc z
 rw[hc]at z;cases z;exact hb rfl
end
structure Un(fs ex:Nn)(H H':Hp)(h h':Np):Prop where
 keep:∀b o,h.get? b=some o→H b=none→b∉fs→b∉ex→h'.get? b=some o
 slot:∀b o,h.get? b=some o→H b=none→b∈fs→b∉ex→∃sl,h'.get? b=some {o with slots:=sl}
 free:∀b o,h.get? b=some o→H b=none→b∉ex→H' b=none
 there:∀b o,h.get? b=some o→b∉ex→∃o',h'.get? b=some o'
 tups:∀b xs,H b=some Hm→H' b=some Hm
 frzs:∀b o u,H b=some (.frz o u)→H' b=some (.frz o u)
 tbls:∀b ps,H b=some (.tbl ps)→∃more,H' b=some (.tbl (ps++more))
section
variable{fs fs' ex ex':Nn}{H H1 H2:Hp}{h h1 h2 h':Np}{a x e:Nc}{o:HO}
def Un.any(u:XN H1 h h1){b:Nc}{ob:Obj}(q:h.get? b=some ob)(n:H b=none)(hx:b∉ex):∃sl,h1.get? b=some {ob with slots:=sl}:=by
 by_cases hb:b∈fs
 ·exact u.slot b ob q n hb hx
 exact⟨ob.slots,u.keep b ob q n hb hx⟩
def Un.kept(k:∀b u,h.get? b=some u→h'.get? b=some u):XN H h h':=
 ⟨λb ob q _ _ _=>k b ob q,λb ob q _ _ _=>⟨ob.slots,k b ob q⟩,λ_ _ _ n _=>n,λb ob q _=>⟨ob,k b ob q⟩,λ_ _ q=>q,λ_ _ _ q=>q,λ_ ps q=>⟨#[],by rw[q];simp⟩⟩
def Un.refl:XN H h h:=Un.kept λ_ _ q=>q
theorem Un.laid(k:∀b u,h.get? b=some u→h'.get? b=some u)(hp:h.objs.size≤a)(hn:H a=none):XN (ZQ a o) h h' where
 keep:=λb u q _ _ _=>k b u q
 slot:=λb u q _ _ _=>⟨u.slots,k b u q⟩
 free:=λb u q n _=>by rw[zaf (Zm (Di hp))];exact n
 there:=λb u q _=>⟨u,k b u q⟩
 tups:=λb xs q=>by rw[zaf (Vg hn)];exact q
 frzs:=λb u xs q=>by rw[zaf (Vg hn)];exact q
 tbls:=λb ps q=>⟨#[],by rw[zaf (Vg hn),q];simp⟩
def Un.write(mu:Mut (H x))(he:e=x∨H e=some (.own x))(k:∀b u,b≠e→h.get? b=some u→h'.get? b=some u)(kl:∃u,h'.get? e=some u):XN (ZQ x o) h h':=by
 have hx:∀b,H b=none→b≠x:=λb n z=>by subst z;rw[n]at mu;exact mu
 have hb:∀b,H b=none→b≠e:=λb n z=>by
  subst z;rcases he with r|r
  ·exact hx b n r
  rw[n]at r;cases r
 have hm:∀b u,H b=some u→¬Mut (FX u)→b≠x:=λb u q nm z=>by subst z;rw[q]at mu;exact nm mu
 refine⟨λb u q n _ _=>k b u (hb b n) q,λb u q n _ _=>⟨u.slots,k b u (hb b n) q⟩,λb u q n _=>by rw[zaf (hx b n)];exact n,λb u q _=>?_,
  λb xs q=>by rw[zaf (hm b _ q λz=>z)];exact q,λb u xs q=>by rw[zaf (hm b _ q λz=>z)];exact q,λb ps q=>⟨#[],by rw[zaf (hm b _ q λz=>z),q];simp⟩⟩
 by_cases ju:b=e
 ·subst ju;exact kl
 exact⟨u,k b u ju q⟩
def trk(h:Np)(H:Hp):List Addr:=(List.range h.objs.size).filter λa=>(H a).isSome
def hidT(h:Np)(H:Hp):Heap:=PySem.W.hideAll h (trk h H)
def hidT_size(h:Np)(H:Hp):(hidT h H).objs.size=h.objs.size:=PySem.W.hideAll_size _ _
def hidT_get{h:Np}{H:Hp}{b:Nc}{o:Obj}(e:h.get? b=some o)(n:H b=none):(hidT h H).get? b=some o:=
 PySem.W.hideAll_get _ e λhm=>by have q:(H b).isSome=true:=(Kw.mp hm).2;rw[n]at q;simp at q
def of_hidT{h:Np}{H:Hp}{b:Nc}{o:Obj}(e:(hidT h H).get? b=some o):h.get? b=some o∧H b=none:=by
 have e':h.get? b=some o:=PySem.W.of_hideAll (trk h H) e;refine⟨e',?_⟩;cases q:H b with
 |none=>rfl
 |some x=>have hm:b∈trk h H:=Kw.mpr ⟨Yi.mpr (Qx e'),by simp[q]⟩;have z:(hidT h H).get? b=none:=PySem.W.hideAll_none (trk h H) hm;rw[z]at e;cases e
end
structure Mod(K:Nb)(mg:Ng)(base:Np):Prop where
 kin:K.In base
 glob:base.Ns mainGlobals mg
 blt:∃mb,base.Ns builtinsNs mb∧∀x:Str,x ≠ "__name__" → mb x=bootBuiltins x
 nolimit:base.NoLimit
structure Cx where
 prog:Program
 w:World
 K:PySem.W.Frag
 mg:Str→Option Value
 base:Heap
 A:Around
 N:List Str
 s₀:Shared
 H₀:Hp
 env:Env
 outer:List Env
 stack:List Env
 ex:List Addr
 fn:Str→Bool
 calm:Bool
 pn:List (Addr×Obj)
 xe:Value→Shared→Prop
def frs(l:List Env):List Addr:=l.filterMap (·.frame)
abbrev Cx.fs(X:Cx):List Addr:=frs X.outer
def Vis(sc:Scope)(x:Str):Prop:=sc.names.lookup x=some .local∨sc.names.lookup x=some .cell∨sc.names.lookup x=some .free
def Loc(sc:Scope)(x:Str):Prop:=sc.names.lookup x=some .local∨sc.names.lookup x=some .cell
def Look(env:Env)(h:Np)(m:Ng)(x:Str)(u:Value):Prop:=
 (env.kindOf x=some .local∧m x=some u)∨((env.kindOf x=some .cell∨env.kindOf x=some .free)∧∃c,env.cells.lookup x=some c∧h.IsCell c (FX u))
structure Cx.Ok(X:Cx):Prop where
 mod:Mod X.K X.mg X.base
 kind:X.env.scope.kind=.function
 glob:X.env.globals=mainGlobals
 blt:X.env.builtins=builtinsNs
 above:X.s₀.heap.objs.size≤X.env.locals
 inj:∀x y c,X.env.cells.lookup x=some c→X.env.cells.lookup y=some c→x=y
 has:∀x,(X.env.kindOf x=some .cell∨X.env.kindOf x=some .free)→∃c,X.env.cells.lookup x=some c
 cab:∀x c,X.fn x=true→X.env.cells.lookup x=some c→X.s₀.heap.objs.size≤c
 hd:X.calm=true→X.A.handled=none
 frames:X.A.frames=some X.stack
 stk:X.stack=X.outer∨(X.stack=X.env::X.outer∧X.env.frame=some X.env.locals)
 exf:∀b∈X.ex,b≠X.env.locals∧∀x c,X.env.cells.lookup x=some c→c≠b
 bs:∀b o,X.base.get? b=some o→X.s₀.heap.get? b=some o∧X.H₀ b=none
 bsz:X.base.objs.size≤X.s₀.heap.objs.size
 noex:∀b o,X.base.get? b=some o→b∉X.ex
 exfs:∀b∈X.ex,b∉X.fs
 funs:K1 X.outer
 frf:∀b∈X.fs,X.H₀ b=none
structure Inv(X:Cx)(a6:Nd)(σ:List (Option V))(H:Hp)(s:Nh):Prop where
 ok:X.Ok
 os:s.os=X.s₀.os
 bare:AllBare s.gens
 base:Un X.fs X.ex X.H₀ H X.s₀.heap s.heap
 loc:∃m,s.heap.Ns X.env.locals m∧∀(i:Nat) (x:Str) (v:V),X.N[i]?=some x→σ[i]?=some (FX v)→K2 x→∃u,UG u∧Look X.env s.heap m x u
 cell:∀x c,X.env.cells.lookup x=some c→∃v,s.heap.IsCell c v
 free:H X.env.locals=none
 freeC:∀x c,X.env.cells.lookup x=some c→H c=none
 pin:∀p∈X.pn++a6,s.heap.get? p.1=some p.2∧H p.1=none∧p.1≠X.env.locals∧p.1∉X.fs∧∀v,p.2.data≠.cell v
 hok:YM H s.heap
 len:σ.length=X.N.length
section
variable{X:Cx}{a6:Nd}{σ:List (Option V)}{H H':Hp}{s:Nh}{h':Np}
def Cx.Ok.nofr(ok:X.Ok){b:Nc}{o:Obj}(e:X.base.get? b=some o):b∉X.fs:=λhb=>by have:=(ok.funs.mem hb).1;rw[e]at this;cases this
def Inv.bs(I:Fg):∀b o,X.base.get? b=some o→s.heap.get? b=some o∧H b=none:=λb o e=>⟨I.base.keep b o (KW e).1 (KW e).2 (I.ok.nofr e) (VQ e),U1 o (KW e).1 (KW e).2 (VQ e)⟩
def Inv.bk(I:Fg):∀b o,X.base.get? b=some o→s.heap.get? b=some o:=λb o e=>(I.bs b o e).1
def Inv.mod(I:Fg):Mod X.K X.mg X.base:=I.ok.mod
def Inv.kIn(I:Fg):X.K.In s.heap:=I.ok.mod.kin.keeps I.bk
def Inv.lt(I:Fg):X.env.locals<s.heap.objs.size:=let⟨_,hn,_⟩:=I.loc;hn.lt
def Inv.sz(I:Fg):X.s₀.heap.objs.size≤s.heap.objs.size:=Zd I.ok.above (Zt I.lt)
def Inv.nofs(I:Fg){a:Nc}(h:s.heap.objs.size≤a):a∉X.fs:=λhb=>by obtain⟨_,o,ho,_⟩:=I.ok.funs.mem hb;exact absurd (Zw (Qx ho) (Zd I.sz h)) (Yv _)
def Inv.cne(I:Fg):∀x c,X.env.cells.lookup x=some c→c≠X.env.locals:=λx c e z=>by obtain⟨v,o,ho,hd⟩:=US e;obtain⟨m,⟨o',es,ep,ao,gE,_⟩,_⟩:=I.loc;rw[z,ao]at ho;cases ho;rw[gE]at hd;cases hd
def Inv.funs(I:Fg):s.heap.FunFrames X.base X.outer:=by
 have all:∀(l:List Env),(∀b∈frs l,b∈X.fs)→K1 l→s.heap.FunFrames X.base l:=by
  intro l;induction l with
  |nil=>intro _ _;trivial
  |cons env r ih=>intro hs hl;obtain⟨hk,⟨L,o,hf,hn,ho,hd⟩,hr⟩:=hl;have hL:L∈X.fs:=hs L (by unfold frs;rw[List.filterMap_cons,hf];exact List.mem_cons_self);obtain⟨sl,e⟩:=I.base.slot L o ho (I.ok.frf L hL) hL λz=>I.ok.exfs L z hL;exact⟨hk,⟨L,_,hf,hn,e,hd⟩,ih (λb hb=>hs b (by unfold frs;rw[List.filterMap_cons,hf];exact V9 hb)) hr⟩
 exact all X.outer (λ_ hb=>hb) I.ok.funs
def Inv.stack(I:Fg):s.heap.FunFrames X.base X.stack:=by
 rcases I.ok.stk with e|⟨e,hf⟩
 ·rw[e];exact I.funs
 rw[e];obtain⟨m,hn,_⟩:=I.loc;refine .cons (by rw[I.ok.kind];decide) hf hn ?_ I.funs;exact Heap.get?_none_of_le (ME I.ok.above)
def Inv.stkSub(I:Fg):∀b∈frs X.stack,b∈X.env.locals::X.fs:=λb hb=>by
 rcases I.ok.stk with e|⟨e,hf⟩
 ·rw[e]at hb;exact WD hb
 rw[e]at hb;unfold frs at hb;rw[List.filterMap_cons,hf]at hb;exact hb
def Inv.stkFree(I:Fg):∀b∈frs X.stack,H b=none:=λb hb=>by
 rcases Qi.mp (XO hb) with e|hb
 ·rw[e];exact I.free
 obtain⟨_,o,ho,_⟩:=I.ok.funs.mem hb;exact U1 o ho (I.ok.frf b hb) λz=>I.ok.exfs b z hb
def Inv.step{g':Array GenState}{t':Nat}{d':Drawn}{ch:Nn}(I:Fg)(g9:Fp)(keep:∀b o,b≠X.env.locals→b∉X.fs→b∉ch→s.heap.get? b=some o→H b=none→h'.get? b=some o)(slot:∀b o,b≠X.env.locals→b∈X.fs→b∉ch→s.heap.get? b=some o→H b=none→∃sl,h'.get? b=some {o with slots:=sl})(free:∀b o,b∉ch→s.heap.get? b=some o→H b=none→H' b=none)(there:∀b o,b∉ch→s.heap.get? b=some o→∃o',h'.get? b=some o')(tups:∀b xs,H b=some Hm→H' b=some Hm)(frzs:∀b o u,H b=some (.frz o u)→H' b=some (.frz o u))(tbls:∀b ps,H b=some (.tbl ps)→∃more,H' b=some (.tbl (ps++more)))(ns:∀m,s.heap.Ns X.env.locals m→h'.Ns X.env.locals m)(hok:YM H' h')(hg:AllBare g') :
  Inv X a6 σ H' {s with heap:=h',gens:=g',drawn:=d',toks:=t'}:=by
 have neL:∀b o,X.s₀.heap.get? b=some o→b≠X.env.locals:=λb o e=>Zm (UB I.ok.above);have neC:∀b o,X.s₀.heap.get? b=some o→b∉X.ex→b∉ch:=λb o e hx hb=>by
  rcases(g9 b hb).1 with z|z
  ·exact hx z
  exact absurd (UB z) (Yv _)
 have cellK:∀x c,X.env.cells.lookup x=some c→∀v,s.heap.IsCell c v→h'.IsCell c v:=λx c e v ⟨o,ho,hd⟩=>by
  have nch:c∉ch:=λz=>(g9 c z).2.2.1 x c e rfl;by_cases hc:c∈X.fs
  ·obtain⟨sl,q⟩:=slot c o (I.cne x c e) hc nch ho (UC e);exact⟨_,q,hd⟩
  exact⟨o,keep c o (I.cne x c e) hc nch ho (UC e),hd⟩
 refine⟨I.ok,I.os,hg,⟨λb o e n hb hx=>?_,λb o e n hb hx=>?_,λb o e n hx=>?_,λb o e hx=>?_,λb xs e=>tups b xs (Dj e),λb o xs e=>frzs b o xs (I.base.frzs b o xs e),λb ps e=>?_⟩,?_,λx c e=>?_,?_,λx c e=>?_,λp hp=>?_,hok,I.len⟩
 ·exact keep b o (neL b o e) hb (neC b o e hx) (UH hx) (U1 o e n hx)
 ·obtain⟨sl,e1⟩:=UI hx;obtain⟨jI,e2⟩:=slot b _ (neL b o e) hb (neC b o e hx) e1 (U1 o e n hx);exact⟨jI,e2⟩
 ·obtain⟨o',e1⟩:=WZ e hx;exact free b o' (neC b o e hx) e1 (U1 o e n hx)
 ·obtain⟨o',e1⟩:=WZ e hx;exact there b o' (neC b o e hx) e1
 ·obtain⟨m1,e1⟩:=Dk e;obtain⟨m2,e2⟩:=tbls b _ e1;exact⟨m1++m2,by rw[e2,Array.append_assoc]⟩
 ·obtain⟨m,hn,hl⟩:=I.loc;refine⟨m,ns m hn,λi x v e1 e2 e3=>?_⟩;obtain⟨u,r,l⟩:=hl i x v e1 e2 e3;refine⟨u,r,?_⟩;rcases l with l|⟨k,c,e,z⟩
  ·exact .inl l
  exact .inr ⟨k,c,e,cellK x c e _ z⟩
 ·obtain⟨v,z⟩:=US e;exact⟨v,cellK x c e v z⟩
 ·obtain⟨m,⟨o,_,_,ho,_⟩,_⟩:=I.loc;exact free _ o (λz=>(g9 _ z).2.1 rfl) ho I.free
 ·obtain⟨v,o,ho,hd⟩:=US e;exact free c o (λz=>(g9 c z).2.2.1 x c e rfl) ho (UC e)
 obtain⟨e,n,ne,nf,d⟩:=Y2 hp;have nch:p.1∉ch:=λz=>(g9 p.1 z).2.2.2 p hp rfl;exact⟨keep p.1 p.2 ne nf nch e n,free p.1 p.2 nch e n,ne,nf,d⟩
def Inv.un{t':Nat}(I:Fg)(u:Un X.fs [] H H' s.heap h')(hok:YM H' h'):ZA H' {s with heap:=h',toks:=t'}:=by obtain⟨m,⟨o,es,ep,ho,r⟩,_⟩:=id I.loc;obtain⟨sl,hL⟩:=u.any ho I.free DI;exact I.step (g':=s.gens) (d':=s.drawn) (ch:=[]) (λ_ z=>nomatch z) (λb o _ hb _ e n=>u.keep b o e n hb DI) (λb o _ hb _ e n=>u.slot b o e n hb DI) (λb o _ e n=>u.free b o e n DI) (λb o _ e=>u.there b o e DI) u.tups u.frzs u.tbls (λm' hm=>by obtain⟨o',d8,ep',ao,r'⟩:=hm;rw[ho]at ao;cases ao;exact⟨_,d8,ep',hL,r'⟩) hok I.bare
def Inv.call{g':Array GenState}{t':Nat}{d':Drawn}{ch:Nn}(I:Fg)(u:KJ h')(hok:YM H' h')(hg:AllBare g')(g9:Fp) :
  Inv X a6 σ H' {s with heap:=h',gens:=g',drawn:=d',toks:=t'}:=by
 obtain⟨m,⟨o,es,ep,ho,r⟩,_⟩:=id I.loc;obtain⟨sl,hL⟩:=u.any ho I.free λz=>(g9 _ z).2.1 rfl;exact I.step (ch:=ch) g9 (λb o hL hb hc e n=>u.keep b o e n (λz=>(Qi.mp (XO z)).elim hL hb) hc) (λb o _ _ hc e n=>u.any e n hc) (λb o hc e n=>u.free b o e n hc) (λb o hc e=>u.there b o e hc) u.tups u.frzs u.tbls (λm' hm=>by obtain⟨o',d8,ep',ao,r'⟩:=hm;rw[ho]at ao;cases ao;exact⟨_,d8,ep',hL,r'⟩) hok hg
def Inv.turned{t':Nat}{it:Nc}(I:Fg)(k:∀b o,b≠it→s.heap.get? b=some o→h'.get? b=some o)(hn:H it=none)(hL:it≠X.env.locals)(h1:it∈X.ex∨X.s₀.heap.objs.size≤it)(h2:∀x c,X.env.cells.lookup x=some c→c≠it)(h3:∀p∈X.pn++a6,p.1≠it):ZA H {s with heap:=h',toks:=t'}:=by
 have nit:∀b u,H b=some u→b≠it:=λb u e z=>by rw[z,hn]at e;cases e
 refine I.step (g':=s.gens) (d':=s.drawn) (ch:=[it]) (λb hb=>?_) (λb o _ _ hc e _=>k b o (λz=>hc (by simp[z])) e) (λb o _ _ hc e _=>⟨o.slots,k b o (λz=>hc (by simp[z])) e⟩) (λ_ _ _ _ n=>n)
  (λb o hc e=>⟨o,k b o (λz=>hc (by simp[z])) e⟩) (λ_ _ e=>e) (λ_ _ _ e=>e) (λb ps e=>⟨#[],by rw[e];simp⟩) (λm hm=>?_) (λb u e=>?_) I.bare
 ·have e:b=it:=by simpa using hb
  subst e;exact⟨h1,hL,h2,h3⟩
 ·obtain⟨o,es,ep,ho,r⟩:=hm;exact⟨o,es,ep,k _ o (Zj hL) ho,r⟩
 refine (UJ u e).stay (λc v hc q=>k c v ?_ q) (λ_ q=>q) λ_ _ q=>q;rcases hc with z|z
 ·rw[z];exact nit b u e
 exact nit c _ z
def Inv.tok(I:Fg)(t:Nat):ZA H {s with toks:=t}:=I.un (h':=s.heap) (t':=t) Un.refl I.hok
def Inv.kept{t':Nat}(I:Fg)(k:∀b u,s.heap.get? b=some u→h'.get? b=some u):ZA H {s with heap:=h',toks:=t'}:=I.un (Un.kept k) (I.hok.kept k)
def Inv.laid{a:Nc}{o:HO}{t':Nat}(I:Fg)(k:∀b u,s.heap.get? b=some u→h'.get? b=some u)(hp:s.heap.objs.size≤a)(new:QC (ZQ a o) h' a o) :
  Inv X a6 σ (ZQ a o) {s with heap:=h',toks:=t'}:=I.un (Un.laid k hp (Hv hp)) (I.hok.laid k hp new)
def Inv.write{x e:Nc}{o:HO}{t':Nat}(I:Fg)(mu:Mut (H x))(he:e=x∨H e=some (.own x))(k:∀b u,b≠e→s.heap.get? b=some u→h'.get? b=some u)(kl:∃u,h'.get? e=some u)(new:QC (ZQ x o) h' x o):ZA (ZQ x o) {s with heap:=h',toks:=t'}:=I.un (Un.write mu he k kl) (I.hok.write mu he k kl new)
def Inv.pins_of{pins':Nd}(I:Fg)(h:∀p∈pins',s.heap.get? p.1=some p.2∧H p.1=none∧p.1≠X.env.locals∧p.1∉X.fs∧∀v,p.2.data≠.cell v):Inv X pins' σ H s:=
 ⟨I.ok,I.os,I.bare,I.base,I.loc,I.cell,I.free,I.freeC,λp hp=>(Qg.mp hp).elim (λz=>Y2 (UT z)) (h p),I.hok,I.len⟩
def zid{N:Nj}(hN:N.Nodup){i j:Nat}{x:Str}(a:N[i]?=some x)(b:N[j]?=some x):i=j:=by obtain⟨h1,e1⟩:=Zk.mp a;obtain⟨h2,e2⟩:=Zk.mp b;exact(Wh hN).mp (e1.trans e2.symm)
def zf8{M:Model}{A:No}{E:Na}{i:Nat}{x:Str}{v:V}{u:Value}{Q:Unit→Shared→Prop}(I:Fg)(hN:X.N.Nodup)(hi:X.N[i]?=some x)(hx:Y3 x)(r:UG u)(h:∀s',ZD (σ.set i (FX v)) H s'→(∃a,Bw s'.heap∧(a=X.env.locals∨X.env.cells.lookup x=some a))→Q () s')(hf:X.fn x=true∨X.env.scope.names.lookup x=some .local:=by first|exact .inl rfl|exact .inr rfl|assumption):YK (storeName X.env x u) Q E s:=by
 obtain⟨m,hn,hl⟩:=id I.loc;have jq:(X.env.scope.kind==.class||(X.env.scope.kind==.module&&X.env.locals != X.env.globals))=false:=by rw[I.ok.kind];rfl
 have hiσ:i<σ.length:=by rw[I.len];exact(Zk.mp hi).1
 have cne:=I.cne;have tracked:∀{a:Nc} {h':Np},(∃o,s.heap.get? a=some o∧H a=none)→Bw h'→YM H h':=λ{a h'} ha hs b ob e=>by
  obtain⟨_,_,bu⟩:=ha;refine(UJ ob e).stay (λc w' hc q=>(hs.2 c ?_).trans q) (λ_ q=>q) λ_ _ q=>q;rintro rfl;rcases hc with rfl|hc
  ·rw[bu]at e;cases e
  rw[bu]at hc;cases hc
 rcases hx with hk|hk
 ·refine wpAny_storeName_local hk hn (λh' iY hs=>?_) jq;obtain⟨oL,_,_,hoL,_⟩:=id hn;refine h _ ⟨I.ok,I.os,I.bare,⟨λb o e n hb hx=>?_,λb o e n hb hx=>?_,I.base.free,λb o e hx=>?_,I.base.tups,I.base.frzs,I.base.tbls⟩,⟨_,iY,λj y v' e1 e2 e3=>?_⟩,λy c e=>?_,I.free,I.freeC,λp hp=>?_,tracked ⟨oL,hoL,I.free⟩ hs,by simpa using I.len⟩ ⟨_,hs,Fq⟩
  ·exact(hs.2 b (Zm (UB I.ok.above))).trans (UH hx)
  ·obtain⟨sl,e1⟩:=UI hx;exact⟨sl,(hs.2 b (Zm (UB I.ok.above))).trans e1⟩
  ·obtain⟨o',e1⟩:=WZ e hx;exact⟨o',(hs.2 b (Zm (UB I.ok.above))).trans e1⟩
  ·by_cases hj:j=i
   ·subst hj;rw[hi]at e1;cases e1;rw[List.getElem?_set_self hiσ]at e2;cases e2;exact⟨u,r,Gb ⟨hk,DI⟩⟩
   rw[List.getElem?_set_ne (Zj hj)]at e2;obtain⟨u',r',q⟩:=hl j y v' e1 e2 e3;refine⟨u',r',?_⟩;rcases q with⟨k,e⟩|⟨k,c,e,z⟩
   ·refine .inl ⟨k,?_⟩;have:y≠x:=λe=>hj (Dl (e▸hi));simp[this,e]
   exact .inr ⟨k,c,e,z.sameBut hs (cne y c e)⟩
  ·obtain⟨w',z⟩:=I.cell y c e;exact⟨w',z.sameBut hs (cne y c e)⟩
  obtain⟨e,n,ne,nf,d⟩:=Y2 hp;exact⟨(hs.2 p.1 ne).trans e,n,ne,nf,d⟩
 have rE:X.fn x=true:=by
  rcases hf with z|z
  ·exact z
  rw[z]at hk;cases hk
 obtain⟨c,hc⟩:=I.ok.has x (Gb hk);obtain⟨w',z⟩:=US hc;refine wpAny_storeName_cell I.ok.kind hk hc z (λh' cY hs=>?_);obtain⟨oc,hoc,qC⟩:=id z;refine h {s with heap:=h'} ⟨I.ok,I.os,I.bare,⟨λb o e n hb hx=>?_,λb o e n hb hx=>?_,I.base.free,λb o e hx=>?_,I.base.tups,I.base.frzs,I.base.tbls⟩,⟨m,hn.sameBut hs (Zj (cne x c hc)),λj y v' e1 e2 e3=>?_⟩,λy c' e=>?_,I.free,I.freeC,λp hp=>?_,tracked ⟨oc,hoc,UC hc⟩ hs,by simpa using I.len⟩ ⟨c,hs,G' hc⟩
 ·exact(hs.2 b (Zm (UB (K3 hc)))).trans (UH hx)
 ·obtain⟨sl,e1⟩:=UI hx;exact⟨sl,(hs.2 b (Zm (UB (K3 hc)))).trans e1⟩
 ·obtain⟨o',e1⟩:=WZ e hx;exact⟨o',(hs.2 b (Zm (UB (K3 hc)))).trans e1⟩
 ·by_cases hj:j=i
  ·subst hj;rw[hi]at e1;cases e1;rw[List.getElem?_set_self hiσ]at e2;cases e2;exact⟨u,r,.inr ⟨Gb hk,c,hc,cY⟩⟩
  rw[List.getElem?_set_ne (Zj hj)]at e2;obtain⟨u',r',q⟩:=hl j y v' e1 e2 e3;refine⟨u',r',?_⟩;rcases q with q|⟨k,c',e,z'⟩
  ·exact .inl q
  refine .inr ⟨k,c',e,z'.sameBut hs ?_⟩;rintro rfl;exact hj (Dl (I.ok.inj _ _ _ e hc▸hi))
 ·by_cases fH:c'=c
  ·subst fH;exact⟨_,cY⟩
  obtain⟨w2,z2⟩:=I.cell y c' e;exact⟨w2,z2.sameBut hs fH⟩
 obtain⟨e,n,ne,nf,d⟩:=Y2 hp;refine⟨(hs.2 p.1 ?_).trans e,n,ne,nf,d⟩;intro q;rw[q,hoc]at e;have q':oc=p.2:=Qw e;exact d w' (by rw[←q'];exact qC)
def zhw{M:Model}{A:No}{E:Na}{i:Nat}{x:Str}{v:V}{u:Value}{Q:Unit→Shared→Prop}(I:Fg)(hN:X.N.Nodup)(hi:X.N[i]?=some x)(hx:Y3 x)(r:UG u)(h:∀s',ZD (σ.set i (FX v)) H s'→Q () s')(hf:X.fn x=true∨X.env.scope.names.lookup x=some .local:=by first|exact .inl rfl|exact .inr rfl|assumption):YK (storeName X.env x u) Q E s:=
 zf8 I hN hi hx r (λs' I' _=>h s' I') hf
def Inv.call'{s':Nh}{ch:Nn}(I:Fg)(ho:s'.os=s.os)(u:KJ s'.heap)(hok:YM H' s'.heap)(hg:AllBare s'.gens)(g9:Fp):ZA H' s':=by obtain⟨h',g',d',t',o'⟩:=s';have e:o'=s.os:=ho;subst e;exact I.call (g':=g') (t':=t') (d':=d') u hok hg g9
abbrev XK:=Value→Option Addr→Hp→Prop
abbrev St:=List (Option V)
abbrev VK:=V→Hp→Prop
abbrev TE:=St→Hp→VK→Prop
abbrev TT:=St→Hp→(Bool→Hp→Prop)→Prop
abbrev TA:=St→Hp→(List V→Hp→Prop)→Prop
structure Ends where
 nx:St→Hp→Prop
 rt:VK
 bk:St→Hp→Prop:=λ_ _=>False
 ct:St→Hp→Prop:=λ_ _=>False
abbrev TS:=Ends→St→Hp→Prop
end
inductive EP(X:Cx)(a6:Nd)(σ:St)(Q:VK)(u:Value)(s':Nh):Prop
 |mk(v:V)(H':Hp)(i:Inv X a6 σ H' s')(r:RelV v u)(q:Q v H')
inductive TP(X:Cx)(a6:Nd)(σ:St)(Q:Bool→Hp→Prop)(b:Bool)(s':Nh):Prop
 |mk(H':Hp)(i:Inv X a6 σ H' s')(q:Q b H')
inductive AP(X:Cx)(a6:Nd)(σ:St)(Q:List V→Hp→Prop)(us:Ni)(s':Nh):Prop
 |mk(vs:List V)(H':Hp)(i:Inv X a6 σ H' s')(r:Vals vs us)(q:Q vs H')
def SP(X:Cx)(a6:Nd)(D:Ends)(f:Flow)(s':Nh):Prop:=
 match f with
 |.next=>Ex2 λ σ' H'=>Y5 (D.nx σ' H')
 |.brk=>Ex2 λ σ' H'=>Y5 (D.bk σ' H')
 |.cont=>Ex2 λ σ' H'=>Y5 (D.ct σ' H')
 |.ret u=>Ex3 λv σ' H'=>Aj3 (ZD σ' H' s') (UG u) (D.rt v H')
def PE(X:Cx)(e:Expr)(t:TE):Prop:=
 ∀(a6:Nd) (s:Nh) (σ:St) (H:Hp) (Q:VK),ZA H s→t σ H Q→ZF (FJ e) (QB Q) X.xe s
def PT(X:Cx)(e:Expr)(t:TT):Prop:=
 ∀(a6:Nd) (s:Nh) (σ:St) (H:Hp) (Q:Bool→Hp→Prop),ZA H s→t σ H Q→ZF (isTrue e X.env (FJ e)) (Vh Q) X.xe s
def PW(X:Cx)(e:Expr)(t:TT):Prop:=
 ∀(whole:Sem Value) (a6:Nd) (s:Nh) (σ:St) (H:Hp) (Q:Bool→Hp→Prop),ZA H s→t σ H Q→ZF (isTrue e X.env whole) (Vh Q) X.xe s
def PW.pt{X:Cx}{e:Expr}{t:TT}(h:PW X e t):K4 e t:=h _
def PA(X:Cx)(es:Nq)(t:TA):Prop:=
 ∀(pos:Pos) (a6:Nd) (s:Nh) (σ:St) (H:Hp) (Q:List V→Hp→Prop),ZA H s→t σ H Q→ZF (spliced (backTo pos Gx)) (AP X a6 σ Q) X.xe s
def PS(X:Cx)(st:Stmt)(t:TS):Prop:=
 ∀(a6:Nd) (s:Nh) (σ:St) (H:Hp) (D:Ends),ZA H s→t D σ H→ZF (exec st X.env) (JX D) X.xe s
def PSs(X:Cx)(st:List Stmt)(t:TS):Prop:=
 ∀(a6:Nd) (s:Nh) (σ:St) (H:Hp) (D:Ends),ZA H s→t D σ H→ZF (execs st X.env) (JX D) X.xe s
def thn{α:Type}{t:Sem α}{Q Q':α→Shared→Prop}{M:Model}{A:No}{E:Na}{s:Nh}(h:YK t Q E s)(hQ:∀a s,Q a s→Q' a s):YK t Q' E s:=V' hQ λ_ _ x=>x
section
variable{X:Cx}
def bin{a b:Expr}{ta tb:TE}(ha:Z9 a ta)(hb:Z9 b tb){a6:Nd}{s:Nh}{σ:St}{H:Hp}{R:V→V→Hp→Prop}(I:Fg)(h:ta σ H λx H1=>tb σ H1 λy H2=>R x y H2){α:Type}{Q:α→Shared→Prop}{f:Value→Value→Sem α}(hf:∀v u s2 x y H2,ZA H2 s2→YB v→YN u→R x y H2→ZF (f v u) Q X.xe s2) :
  wpAny DT X.A (FJ a) (λv s₁=>ZF (FJ b) (λu s₂=>ZF (f v u) Q X.xe s₂) X.xe s₁) X.xe s:=by
 exact thn Gg λv s1 ⟨x,H1,I1,r1,q1⟩=>thn Rt λu s2 ⟨y,H2,I2,r2,q2⟩=>hf v u s2 x y H2 I2 r1 r2 q2
inductive RVar(o:Option (Option V))(H:Hp)(Q:VK):Prop
 |mk(v:V)(e:o=some (some v))(q:Q v H)
def tVar(i:Nat):TE:=λ σ H Q=>RVar σ[i]? H Q
def tC(v:V):TE:=λ_ H Q=>Q v H
def pe_var{i:Nat}{x:Str}{pos:Pos}(hN:X.N[i]?=some x)(hv:K2 x)(hd:Fu=false:=by decide)(aQ:(x==("__classdict__" : Str))=false:=by decide):Z9 (HH pos) (tVar i):=by
 intro a6 s σ H Q I h;obtain⟨v,e,h⟩:=h;obtain⟨m,hn,hl⟩:=I.loc;obtain⟨u,r,l⟩:=hl i x v hN e hv;have fin:QB Q u s:=⟨v,H,I,r,h⟩;rcases l with⟨hk,hm⟩|⟨hk,c,hc,hU⟩
 ·exact wpAny_Name (wpAny_loadName_local I.ok.kind hk hn hm fin) hd
 rcases hk with hk|hk
 ·exact wpAny_Name (wpAny_loadName_cell I.ok.kind hk hc hU fin) hd
 exact wpAny_Name (wpAny_loadName_free I.ok.kind hk hc hU fin aQ) hd
def zai{i j pos}:Z9 (.Constant (GG i) j pos) (tC (GG i)):=λ_ _ _ H _ I h=>wpAny_Constant_int ⟨GG i,H,Gr,⟨_,rfl⟩,h⟩
def pe_bl{b j pos}:Z9 (.Constant (.bool b) j pos) (tC (.bl b)):=λ_ _ _ H _ I h=>Constant_bool ⟨.bl b,H,I,rfl,h⟩
def zel{x j pos}:Z9 (.Constant (GH x) j pos) (tC (GH x)):=λ_ _ _ H _ I h=>Calls.Constant_str ⟨GH x,H,Gr,⟨_,rfl⟩,h⟩
def Gl(X:Cx)(x:Str):Prop:=X.env.kindOf x=some .globalImplicit
def zfh{E:Na}{a6:Nd}{s:Nh}{σ:St}{H:Hp}{x:Str}{u:Value}{pos:Pos}{Q:Na}(I:Fg)(hg:VR x)(hm:X.mg x=some u)(h:Q u s)(hd:Fu=false:=by decide):ZF (FJ (HH pos)) Q E s:=
 Calls.Name_function_global I.ok.kind hg (Calls.loadGlobal_global (by rw[I.ok.glob];exact I.mod.glob.keeps I.bk) hm h) hd
def ld_blt{E:Na}{a6:Nd}{s:Nh}{σ:St}{H:Hp}{x:Str}{u:Value}{pos:Pos}{Q:Na}(I:Fg)(hg:VR x)(hm:X.mg x=none)(hv:bootBuiltins x=some u)(h:Q u s)(hn:x ≠ "__name__" :=by decide)(hd:Fu=false:=by decide):ZF (FJ (HH pos)) Q E s:=by obtain⟨mb,h1,h2⟩:=I.mod.blt;exact Calls.Name_function_global I.ok.kind hg (Calls.loadGlobal_builtin (by rw[I.ok.glob];exact I.mod.glob.keeps I.bk) hm (by rw[I.ok.blt];exact h1.keeps I.bk) ((h2 x hn).trans hv) h) hd
def zfc{x:Str}{v:V}{u:Value}{pos:Pos}(hg:VR x)(hm:X.mg x=some u)(r:UG u)(hd:Fu=false:=by decide):Z9 (HH pos) (tC v):=
 λ_ _ _ H _ I h=>Bz ⟨v,H,I,r,h⟩ hd
variable{a b:Expr}{ta tb:TE}{pos:Pos}
def PC(X:Cx)(op:CmpOp)(a b:Expr)(t:TE):Prop:=
 ∀(a6:Nd) (s:Nh) (σ:St) (H:Hp) (Q:VK),ZA H s→t σ H Q →
  wpAny DT X.A (FJ a) (λv s₁=>ZF (FJ b) (λu s₂=>ZF (compareOp op v u) (QB Q) X.xe s₂) X.xe s₁) X.xe s
inductive RB(x:V)(H:Hp)(Q:Bool→Hp→Prop):Prop
 |mk(c:Bool)(e:x=.bl c)(q:Q c H)
def tB(t:TE):TT:=λ σ H Q=>t σ H λx H1=>RB x H1 Q
def pt_cmp{op:CmpOp}{t:TE}(h:PC X op a b t)(h1:behindInMarks op b=false:=by first|exact nobehind _ DL DL|rfl):K4 (.Compare a [op] [b] pos) (tB t):=by intro a6 s σ H Q I hw;refine wpAny_isTrue_Compare1 (thn (h a6 s σ H _ I hw) λv s1 h1=>thn h1 λu s2 h2=>thn h2 λc s3 ⟨x,H1,I1,r1,q1⟩=>?_) h1;obtain⟨d,rfl,q⟩:=q1;cases r1;exact wpAny_truthy_bool ⟨H1,I1,q⟩
def pt_val{e:Expr}{t:TE}(h:Z9 e t)(he:∀whole,isTrue e X.env whole=(do let v ←whole;standAt e.pos;holding [v] (truthy v)):=by intro _;rfl):K4 e (tB t):=by
 intro a6 s σ H Q I hw;refine isTrue_plain (thn (h a6 s σ H _ I hw) λv s1 ⟨x,H1,I1,r1,q1⟩=>?_) (he _);obtain⟨d,rfl,q⟩:=q1;cases r1;exact wpAny_truthy_bool ⟨H1,I1,q⟩
variable{tA ny:TT}{rest:Nq}
def tAnd(t u:TT):TT:=λ σ H Q=>t σ H λc H1=>if c=true then u σ H1 Q else Q false H1
def tOr(t u:TT):TT:=λ σ H Q=>t σ H λc H1=>if c=true then Q true H1 else u σ H1 Q
def tNot(t:TT):TT:=λ σ H Q=>t σ H λc H1=>Q (!c) H1
def zfb(ha:K4 a tA):PW X (.BoolOp .And [a] pos) tA:=by
 intro wh a6 s σ H Q I h;refine isTrue_and (thn (ha a6 s σ H Q I h) λc s1 e=>?_);cases c with
 |true=>exact isTrue_and_nil e
 |false=>exact e
def pw_or1(ha:K4 a tA):PW X (.BoolOp .Or [a] pos) tA:=by
 intro wh a6 s σ H Q I h;refine isTrue_or (thn (ha a6 s σ H Q I h) λc s1 e=>?_);cases c with
 |false=>exact isTrue_or_nil e
 |true=>exact e
def zgd(ha:K4 a tA)(hb:PW X (.BoolOp .And (b::rest) pos) ny):PW X (.BoolOp .And (a::b::rest) pos) (tAnd tA ny):=by
 intro wh a6 s σ H Q I h;refine isTrue_and (thn Gg λc s1 ⟨H1,I1,q1⟩=>?_);cases c with
 |true=>exact hb wh a6 s1 σ H1 Q I1 q1
 |false=>exact⟨H1,I1,q1⟩
def pw_or(ha:K4 a tA)(hb:PW X (.BoolOp .Or (b::rest) pos) ny):PW X (.BoolOp .Or (a::b::rest) pos) (tOr tA ny):=by
 intro wh a6 s σ H Q I h;refine isTrue_or (thn Gg λc s1 ⟨H1,I1,q1⟩=>?_);cases c with
 |true=>exact⟨H1,I1,q1⟩
 |false=>exact hb wh a6 s1 σ H1 Q I1 q1
def pt_not(ha:K4 a tA):K4 (.UnaryOp .Not a pos) (tNot tA):=by intro a6 s σ H Q I h;exact isTrue_not (wpAny_mono (ha a6 s σ H (λc H1=>Q (!c) H1) I h) (λc s2 z=>by obtain⟨a,b,d⟩:=z;exact⟨a,b,d⟩) λ_ _ e=>e)
def tAndV(ta tb:TE):TE:=λ σ H Q=>ta σ H λx H1=>RB x H1 λc H1=>if c=true then tb σ H1 Q else Q Ge H1
def pe_one{op}{t:TE}(h:Z9 a t):Z9 (.BoolOp op [a] pos) t:=λa6 s σ H Q I hw=>BoolOp_one (h a6 s σ H Q I hw)
def pe_and(ha:Z9 a ta)(hb:Z9 (.BoolOp .And (b::rest) pos) tb):Z9 (.BoolOp .And (a::b::rest) pos) (tAndV ta tb):=by
 intro a6 s σ H Q I h;refine BoolOp_and (thn Gg λv s1 ⟨x,H1,I1,r1,q1⟩=>?_);obtain⟨c,rfl,q1⟩:=q1;cases r1;refine wpAny_truthy_bool ?_;cases c with
 |true=>exact hb a6 s1 σ H1 Q I1 q1
 |false=>exact⟨Ge,H1,I1,rfl,q1⟩
def tIf(t:TT)(ta tb:TE):TE:=λ σ H Q=>t σ H λc H1=>if c=true then ta σ H1 Q else tb σ H1 Q
def pe_ifExp{c:Expr}(hc:K4 c tA)(ha:Z9 a ta)(hb:Z9 b tb):Z9 (.IfExp c a b pos) (tIf tA ta tb):=by
 intro a6 s σ H Q I h;refine wpAny_IfExp (thn (hc a6 s σ H _ I h) λd s1 ⟨H1,I1,q1⟩=>?_);cases d with
 |true=>exact ha a6 s1 σ H1 Q I1 q1
 |false=>exact hb a6 s1 σ H1 Q I1 q1
def SqL(K:Nb)(H:Hp)(a:Nc)(xs:List V):Prop:=
 Rd H a (DX xs) ∨
  ∃(o:Obj) (a8:Array Value) (n:Nat),K.lookup a=some o∧o.cls=.type "list" ∧ o.dict=none∧o.data=.seq a8 n∧a8.size≤sizeLine∧Q7 a8.toList
def SqT(K:Nb)(H:Hp)(a:Nc)(xs:List V):Prop:=
 Rd H a Hm ∨
  ∃(o:Obj) (a8:Array Value) (n:Nat),K.lookup a=some o∧o.cls=.type "tuple" ∧ o.data=.seq a8 n∧a8.size≤sizeLine∧Q7 a8.toList
end
def absV:Value→Option V
 |.none=>some .non
 |.bool b=>some (.bl b)
 |.int i _=>some (GG i)
 |.str x _=>some (GH x)
 |.bytes b _=>some (.byt b)
 |.float b _=>some (.flt b)
 |.ref a=>some Gq
 |.type n=>some (.ty n)
 |_=>none
def RelV.abs{x:V}{u:Value}(r:YB u):absV u=some x:=by
 cases x with
 |non=>cases r;rfl
 |bl _=>cases r;rfl
 |int _=>obtain⟨t,rfl⟩:=r;rfl
 |str _=>obtain⟨t,rfl⟩:=r;rfl
 |byt _=>obtain⟨t,rfl⟩:=r;rfl
 |flt _=>obtain⟨t,rfl⟩:=r;rfl
 |ref _=>cases r;rfl
 |ty _=>cases r;rfl
def RelV.inj{x y:V}{u:Value}(r:YB u)(q:YN u):x=y:=Qw (r.abs.symm.trans q.abs)
theorem Vals.inj:∀{xs ys:List V} {us:Ni},Q7 us→UF us→xs=ys
 |_,_,_,.nil,.nil=>rfl
 |_,_,_,.cons r t,.cons r' t'=>by rw[r.inj r',Vals.inj t t']
section
variable{X:Cx}{a6:Nd}{σ:St}{H:Hp}{s:Nh}{a:Nc}{xs ys:List V}
def SqL.of{K:Nb}(h:H a=some (DX xs)):W0 xs:=.inl (Gb h)
def SqT.of{K:Nb}(h:H a=some Hm):UU xs:=.inl (Gb h)
def Inv.list(I:Fg)(h:Q4 a xs):∃a8:List Value,Q7 a8∧PlainL s.heap a a8.toArray∧xs.length≤sizeLine:=by
 rcases h with h|⟨o,a8,n,hk,hc,hd,hs,hz,r⟩
 ·obtain⟨z,a8,n,r,e⟩:=h.ok I.hok;exact⟨a8,r,⟨_,n,e,rfl,rfl,rfl⟩,z⟩
 refine⟨a8.toList,r,⟨o,n,I.kIn a o hk,hc,hd,DJ hs⟩,?_⟩;have e:=r.length;simp only[Yj]at e;lia
def Inv.tuple(I:Fg)(h:KM a xs):∃a8:List Value,Q7 a8∧IsTup s.heap a a8.toArray∧xs.length≤sizeLine:=by
 rcases h with h|⟨o,a8,n,hk,hc,hs,hz,r⟩
 ·obtain⟨z,a8,r,p⟩:=h.ok I.hok;exact⟨a8,r,p,z⟩
 refine⟨a8.toList,r,⟨o,I.kIn a o hk,hc,n,DJ hs⟩,?_⟩;have e:=r.length;simp only[Yj]at e;lia
def Inv.list_inj(I:Fg)(h:Q4 a xs)(h':Q4 a ys):xs=ys:=by
 obtain⟨a8,r,⟨o,n,e,_,_,d⟩,_⟩:=I.list h;obtain⟨its',r',⟨o',n',e',_,_,d'⟩,_⟩:=I.list h';rw[e]at e';cases e';rw[d]at d';injection d' with d1 _;have:a8=its':=by simpa using congrArg Array.toList d1
 subst this;exact r.inj r'
def Inv.tuple_inj(I:Fg)(h:KM a xs)(h':KM a ys):xs=ys:=by
 obtain⟨a8,r,⟨o,e,_,n,d⟩,_⟩:=I.tuple h;obtain⟨its',r',⟨o',e',_,n',d'⟩,_⟩:=I.tuple h';rw[e]at e';cases e';rw[d]at d';injection d' with d1 _;have:a8=its':=by simpa using congrArg Array.toList d1
 subst this;exact r.inj r'
end
abbrev Cx.wish(X:Cx)(E:Na):Cx:={X with xe:=E}
abbrev Cx.nox(X:Cx):Cx:=X.wish λ_ _=>False
def Cx.Ok.wish{X:Cx}(ok:X.Ok)(E:Na):(X.wish E).Ok:=
 ⟨ok.mod,ok.kind,ok.glob,ok.blt,ok.above,ok.inj,ok.has,ok.cab,ok.hd,ok.frames,ok.stk,ok.exf,ok.bs,ok.bsz,ok.noex,ok.exfs,ok.funs,ok.frf⟩
def Cx.Ok.unwish{X:Cx}{E:Na}(ok:(X.wish E).Ok):X.Ok:=
 ⟨ok.mod,ok.kind,ok.glob,ok.blt,ok.above,ok.inj,ok.has,ok.cab,ok.hd,ok.frames,ok.stk,ok.exf,ok.bs,ok.bsz,ok.noex,ok.exfs,ok.funs,ok.frf⟩
section
variable{X:Cx}{a6:Nd}{σ:St}{H:Hp}{s:Nh}{E:Na}
def Inv.wish(I:Fg)(E:Na):Ma s:=⟨I.ok.wish E,I.os,I.bare,I.base,I.loc,I.cell,I.free,I.freeC,I.pin,I.hok,I.len⟩
def Inv.unwish(I:Ma s):ZA H s:=⟨I.ok.unwish,I.os,I.bare,I.base,I.loc,I.cell,I.free,I.freeC,I.pin,I.hok,I.len⟩
def SP.unwish{D:Ends}{f:Flow}{s':Nh}(h:SP (X.wish E) a6 D f s'):JX D f s':=by
 cases f with
 |next=>obtain⟨σ',H',I,q⟩:=h;exact⟨σ',H',I.unwish,q⟩
 |brk=>obtain⟨σ',H',I,q⟩:=h;exact⟨σ',H',I.unwish,q⟩
 |cont=>obtain⟨σ',H',I,q⟩:=h;exact⟨σ',H',I.unwish,q⟩
 |ret u=>obtain⟨v,σ',H',I,r,q⟩:=h;exact⟨v,σ',H',I.unwish,r,q⟩
def PSs.nox{st:List Stmt}{t:TS}(h:PSs X.nox st t):Vi st t:=λa6 s σ H D I hw=>wpAny_mono (h a6 s σ H D (I.wish _) hw) (λ_ _ q=>q.unwish) λ_ _ z=>False.elim z
variable{st:Stmt}{rest:List Stmt}{t u:TS}{e:Expr}{te:TE}{pos:Pos}
def tNext:TS:=λD σ H=>WV H
def tSeq(t u:TS):TS:=λD σ H=>t {D with nx:=u D} σ H
def za9:Vi [] tNext:=λ_ _ σ H _ I h=>wpAny_execs_nil ⟨σ,H,I,h⟩
def zad(h1:X3 st t)(h2:Vi rest u):Vi (st::rest) (tSeq t u):=by
 intro a6 s σ H D I h;refine wpAny_execs_cons (thn (h1 a6 s σ H {D with nx:=u D} I h) λf s1 q=>?_);cases f with
 |next=>obtain⟨σ',H',I',q⟩:=q;exact h2 a6 s1 σ' H' D I' q
 |ret v=>exact q
 |brk=>exact q
 |cont=>exact q
def zah(h1:X3 st t):Vi [st] t:=by
 intro a6 s σ H D I h;refine wpAny_execs_cons (thn (h1 a6 s σ H D I h) λf s1 q=>?_);cases f with
 |next=>exact wpAny_execs_nil q
 |ret v=>exact q
 |brk=>exact q
 |cont=>exact q
def Inv.quiet{a6:Nd}{σ:St}{H:Hp}{s:Nh}(I:Fg):interactive X.env=false:=by simp[interactive,I.ok.kind]
def tDrop(te:TE):TS:=λD σ H=>te σ H λ_ H1=>WV H1
def zax(he:Z9 e te)(hs:swapsWith e none pos.line X.env=pure false:=by rfl):X3 (.Expr e pos) (tDrop te):=by intro a6 s σ H D I h;exact wpAny_Expr_any (thn He λv s1 ⟨x,H1,I1,r1,q1⟩=>⟨σ,H1,I1,q1⟩) I.quiet hs
def tRet(te:TE):TS:=λD σ H=>te σ H D.rt
def zbo(he:Z9 e te):X3 (.Return (FX e) pos) (tRet te):=by intro a6 s σ H D I h;exact wpAny_Return_some (thn He λv s1 ⟨x,H1,I1,r1,q1⟩=>⟨x,σ,H1,I1,r1,q1⟩)
def tRetN:TS:=λD _ H=>D.rt .non H
def ps_retN:X3 (.Return none pos) tRetN:=λ_ _ σ H _ I h=>wpAny_Return_none ⟨.non,σ,H,I,rfl,h⟩
def tIfS(c:TT)(t u:TS):TS:=λD σ H=>c σ H λb H1=>if b=true then t D σ H1 else u D σ H1
def zcg{c:Expr}{a b:List Stmt}{tc:TT}(hc:K4 c tc)(ha:Vi a t)(hb:Vi b u):X3 (.If c a b pos) (tIfS tc t u):=by
 intro a6 s σ H D I h;refine wpAny_If (thn (hc a6 s σ H _ I h) λd s1 ⟨H1,I1,q1⟩=>?_);cases d with
 |true=>exact ha a6 s1 σ H1 D I1 q1
 |false=>exact hb a6 s1 σ H1 D I1 q1
abbrev TG:=V→St→Hp→(St→Hp→Prop)→Prop
abbrev TGs:=List V→St→Hp→(St→Hp→Prop)→Prop
def PG(X:Cx)(target:Expr)(t:TG):Prop:=
 ∀(a6:Nd) (s:Nh) (σ:St) (H:Hp) (v:V) (u:Value) (Q:St→Hp→Prop),ZA H s→UG u→t v σ H Q →
  wpAny DT X.A (assign target X.env u) (λ_ s'=>Ex2 λ σ' H'=>Y5 (Q σ' H')) X.xe s
def PGs(X:Cx)(ts:Nq)(t:TGs):Prop:=
 ∀(a6:Nd) (s:Nh) (σ:St) (H:Hp) (vs:List V) (us:Ni) (Q:St→Hp→Prop),ZA H s→Mb us→t vs σ H Q →
  wpAny DT X.A (assignInOrder ((Rz ts).map (·.2)) us) (λ_ s'=>Ex2 λ σ' H'=>Y5 (Q σ' H')) X.xe s
abbrev TSet:=V→V→V→Hp→(Hp→Prop)→Prop
def PSet(X:Cx)(t:TSet):Prop:=
 ∀(a6:Nd) (s:Nh) (σ:St) (H:Hp) (o i v:V) (ov iv u:Value) (Q:Hp→Prop),ZA H s→RelV o ov→RelV i iv→UG u→t o i v H Q →
  wpAny DT X.A (setItem ov iv u) (λ_ s'=>∃H',ZA H' s'∧Q H') X.xe s
def gName(i:Nat):TG:=λv σ H Q=>Q (σ.set i (FX v)) H
def pg_name{i:Nat}{x:Str}(hN:X.N.Nodup)(hi:X.N[i]?=some x)(hx:Y3 x)(hf:X.fn x=true∨X.env.scope.names.lookup x=some .local:=by first|exact .inl rfl|exact .inr rfl|assumption):Ny (gName i):=by intro a6 s σ H v u Q I r h;exact wpAny_assign_Name (zhw I hN hi hx r (λs' I'=>⟨_,H,I',h⟩) hf)
def gNil:TGs:=λvs σ H Q=>vs=[]∧Q σ H
end
section
variable{X:Cx}{pos:Pos}
inductive RGC(vs:List V)(R:V→List V→Prop):Prop
 |mk(v:V)(r:List V)(e:vs=v::r)(q:R v r)
def gCons(t:TG)(u:TGs):TGs:=λvs σ H Q=>RGC vs λv r=>t v σ H λ σ' H'=>u r σ' H' Q
def zdm:PGs X [] gNil:=by intro a6 s σ H vs us Q I r h;obtain⟨e,h⟩:=h;subst e;cases r;exact assignInOrder_nil ⟨σ,H,I,h⟩
def zbg{e:Expr}{es:Nq}{t:TG}{u:TGs}(h1:PG X e t)(h2:PGs X es u)(hs:(assignEach (e::es) X.env).map (·.2)=assign e X.env::(Rz es).map (·.2):=by rfl):PGs X (e::es) (gCons t u):=by
 intro a6 s σ H vs us Q I r h;obtain⟨v,vr,e1,h⟩:=h;subst e1;cases r with
 |cons r rr=>rw[hs];exact assignInOrder_cons (thn (h1 a6 s σ H _ _ _ I r h) λ_ s1 ⟨σ1,H1,I1,q1⟩=>h2 a6 s1 σ1 H1 _ _ Q I1 rr q1)
inductive RGT(K:Nb)(n:Nat)(v:V)(H:Hp)(R:List V→Prop):Prop
 |mk(a:Nc)(xs:List V)(e:v=.ref a)(s:SqT K H a xs)(l:xs.length=n)(q:R xs)
def gTup(K:Nb)(n:Nat)(t:TGs):TG:=λv σ H Q=>RGT K n v H λxs=>t xs σ H Q
def pg_tup{es:Nq}{k:Nat}{t:TGs}{n:Nat}(hc:X.calm=true)(h:PGs X es t)(hn:(Rz es).length=n:=by rfl)(aI:(Rz es).findIdx? (·.1)=none:=by rfl):Mc (gTup X.K n t):=by intro a6 s σ H v u Q I r hw;obtain⟨a,xs,e1,hq,hl,hw⟩:=hw;subst e1;cases r;obtain⟨a8,rv,ht,hz⟩:=I.tuple hq;refine assign_Tuple_tuple Hk ht (by simp[hn,←hl,rv.length]) aI λh' hx=>?_;have I1:ZA H {s with heap:=h'}:=I.kept (t':=s.toks) λb o e=>hx b o (Zm (Qx e)) e;exact h a6 _ σ H xs _ Q I1 (DJ rv) hw
def gSub(to ti:TE)(t:TSet):TG:=λv σ H Q=>to σ H λo H1=>ti σ H1 λi H2=>t o i v H2 λH3=>Q σ H3
def pg_sub{o i:Expr}{to ti:TE}{t:TSet}(ho:Z9 o to)(hi:Z9 i ti)(hs:PSet X t)(ha:∀ v,assign (RG o i) X.env v=(do
   let ov ←holding [v] (FJ o);let iv ←holding [v,ov] (FJ i)
   standAt pos
   holding [v,ov,iv] (setItem ov iv v)
   release [v,ov,iv] []):=by intro _;rfl):PG X (RG o i) (gSub to ti t):=by
 intro a6 s σ H v u Q I r h;rw[ha];exact wpAny_bind (wpAny_holding (thn Rb λov s1 ⟨x,H1,I1,r1,q1⟩=>wpAny_bind (wpAny_holding (thn (hi a6 s1 σ H1 _ I1 q1) λiv s2 ⟨y,H2,I2,r2,q2⟩=>wpAny_bind (wpAny_standAt (wpAny_bind (wpAny_holding (thn (hs a6 s2 σ H2 x y v ov iv u _ I2 r1 r2 r q2) λ_ s3 ⟨H3,I3,q3⟩=>wpAny_release ⟨σ,H3,I3,q3⟩))))))))
def tAsg(te:TE)(g:TG):TS:=λD σ H=>te σ H λx H1=>g x σ H1 D.nx
def ps_asg{tg e:Expr}{te:TE}{g:TG}(he:Z9 e te)(hg:PG X tg g)(hs:swapsWithSole [tg] e pos.line X.env=pure false:=by rfl)(hw:swappedStores [tg] e X.env=pure none:=by rfl)(h1:(assignEach [tg] X.env).map (·.2)=[assign tg X.env]:=by rfl):X3 (.Assign [tg] e pos) (tAsg te g):=by intro a6 s σ H D I h;refine wpAny_Assign_stores (thn He λv s1 ⟨x,H1,I1,r1,q1⟩=>?_) hs hw;rw[h1];exact thn (hg a6 s1 σ H1 x v _ I1 r1 q1) λ_ s2 q=>q
def ps_set{i:Nat}{x:Str}{e:Expr}{te:TE}{aT:Pos}(hN:X.N.Nodup)(hi:X.N[i]?=some x)(hx:Y3 x)(he:Z9 e te)(hs:swapsWith e (FX (HH aT)) pos.line X.env=pure false:=by rfl)(hf:X.fn x=true∨X.env.scope.names.lookup x=some .local:=by first|exact .inl rfl|exact .inr rfl|assumption) :
  PS X (.Assign [HH aT] e pos) (tAsg te (gName i)):=by
 intro a6 s σ H D I h;refine wpAny_Assign_Name (thn He λv s1 ⟨y,H1,I1,r1,q1⟩=>?_) hs;exact zhw I1 hN hi hx r1 (λs2 I2=>⟨_,H1,I2,q1⟩) hf
def tWhile(c:TT)(tb:TS):TS:=λD σ H=>∃W:Nat→St→Hp→Prop,(∃m,W m σ H)∧∀m σ H,W m σ H →
 c σ H λb H1=>if b=true then ∃N:St→Hp→Prop,(∀σ' H',N σ' H'→∃m',m'<m∧W m' σ' H')∧tb {D with nx:=N,ct:=N,bk:=D.nx} σ H1 else WV H1
def zdt{c:Expr}{body:List Stmt}{tc:TT}{tb:TS}(hp:BA X.xe)(hc:K4 c tc)(hb:Vi body tb):X3 (.While c body [] pos) (tWhile tc tb):=by
 intro a6 s σ H D I h;obtain⟨W,⟨m0,w0⟩,turn⟩:=h;refine wpAny_While (codeAny_whileLoop (λn s'=>∃σ' H',ZD σ' H' s'∧W n σ' H') ?_ m0 ⟨σ,H,I,w0⟩);rintro n s1 ⟨σ1,H1,I1,w1⟩;refine WO (thn (hc a6 s1 σ1 H1 _ I1 (turn n σ1 H1 w1)) λb s2 ⟨H2,I2,q2⟩=>?_);cases b with
 |true=>
  obtain⟨N,hN,q2⟩:=q2;rw[if_pos rfl];refine WO (thn (hb a6 s2 σ1 H2 _ I2 q2) λf s3 q3=>?_);cases f with
  |next=>obtain⟨σ3,H3,I3,n3⟩:=q3;obtain⟨m',hm,w3⟩:=hN σ3 H3 n3;exact⟨m',hm,σ3,H3,I3,w3⟩
  |cont=>obtain⟨σ3,H3,I3,n3⟩:=q3;obtain⟨m',hm,w3⟩:=hN σ3 H3 n3;exact⟨m',hm,σ3,H3,I3,w3⟩
  |brk=>exact q3
  |ret v=>exact q3
 |false=>rw[if_neg Za];exact wpAny_execs_nil ⟨σ1,H2,I2,q2⟩
structure It where
 go:Nat→Hp→Prop
 yld:Nat→Hp→V→Hp→Prop
 stop:Nat→Hp→Prop
def FpOk(X:Cx)(a6:Nd)(H:Hp)(b:Nc):Prop:=
 H b=none∧b≠X.env.locals∧b∉X.fs∧(b∈X.ex∨X.s₀.heap.objs.size≤b)∧(∀x c,X.env.cells.lookup x=some c→c≠b)∧∀p∈X.pn++a6,p.1≠b
def Inv.fpOk{X:Cx}{a6:Nd}{σ:St}{H H':Hp}{s:Nh}{b:Nc}(I:Fg)(hb:s.heap.objs.size≤b)(hn:H' b=none):FpOk X a6 H' b:=by
 refine⟨hn,We (Zw I.lt hb),I.nofs hb,G' (Zd I.sz hb),λx c e z=>?_,λp hp z=>?_⟩
 ·obtain⟨v,q⟩:=US e;exact absurd (Zw q.lt (DR z hb)) (Yv _)
 exact absurd (Zw (Qx (Y2 hp).1) (DR z hb)) (Yv _)
end
structure Turn(P:Nk)(w:Nl)(K:Nb)(tg:Expr)(J:It)(fp:Nn)(it:Nc)(tn:Nat→Heap→Prop):Prop where
 mem:it∈fp
 obj:∀i h,tn i h→∀b∈fp,∃o,h.get? b=some o∧∀v,o.data≠.cell v
 keep:∀i h h',tn i h→(∀b∈fp,∀o,h.get? b=some o→h'.get? b=some o)→tn i h'
 item:∀(X:Cx),X.prog=P→X.w=w→X.K=K→X.calm=true→∀(i:Nat) (a6:Nd) (s:Nh) (σ:St) (H:Hp) (E:Na),ZA H s→(∀b∈fp,WF b)→tn i s.heap→J.go i H →
  wpAny (model P w) X.A (pyNext (DK it)) (λr s1=>∃u,r=some u ∧
   wpAny (model P w) X.A (letOwnedTupleGo tg (DK it) u) (λ_ s2=>∃x H',ZA H' s2∧YB u∧KY H'∧tn Fj s2.heap∧∀b∈fp,H' b=none) E s1) E s
 done:∀(X:Cx),X.prog=P→X.w=w→X.K=K→X.calm=true→∀(i:Nat) (a6:Nd) (s:Nh) (σ:St) (H:Hp) (E:Na),ZA H s→(∀b∈fp,WF b)→tn i s.heap→MF H →
  wpAny (model P w) X.A (pyNext (DK it)) (λr s1=>r=none∧ZA H s1) E s
 self:∀(A:No) (i:Nat) (s:Nh) (Q:Na) (E:Na),tn i s.heap→Q (DK it) s→NS A (pyIter (DK it)) Q E s
abbrev TI:=St→Hp→(It→Hp→Prop)→Prop
inductive PIE(X:Cx)(a6:Nd)(σ:St)(tg:Expr)(R:It→Hp→Prop)(itv:Value)(s2:Nh):Prop
 |mk(it:Nc)(fp:Nn)(tn:Nat→Heap→Prop)(J:It)(H':Hp)(h0:itv=.ref it)(h1:Inv X a6 σ H' s2)(h2:Turn X.prog X.w X.K tg J fp it tn)(h3:tn 0 s2.heap)(h4:(∀b∈fp,FpOk X a6 H' b))(h5:R J H')
def PI(X:Cx)(tg iter:Expr)(wi:TI):Prop:=
 ∀(a6:Nd) (s:Nh) (σ:St) (H:Hp) (R:It→Hp→Prop),ZA H s→wi σ H R →
  wpAny DT X.A (eval iter X.env) (λv s1=>ZF (pyIter v) (PIE X a6 σ tg R) X.xe s1) X.xe s
def go_of{M:Model}{A:No}{E:Na}{s:Nh}{tg:Expr}{it:Nc}{u:Value}{o:Obj}{n:String}{vs:Array Value}{Q:Unit→Shared→Prop}(ho:s.heap.get? it=some o)(hc:o.cls=.type n)(hd:o.data=.fields vs)(hn:["enumerate", "zip", "dict_itemiterator", "dict_reverseitemiterator", "odict_iterator", "itertools.zip_longest", "itertools.pairwise"].contains n=false)(hQ:Q () s):YK (letOwnedTupleGo tg (DK it) u) Q E s:=by
 unfold letOwnedTupleGo;cases tg <;> first
  |exact wpAny_pure hQ
  | (cases u <;> first
    |exact wpAny_pure hQ
    | (refine wpAny_bind (wpAny_load ho ?_)
       rw[hc,hd];show YK (if(["enumerate", "zip", "dict_itemiterator", "dict_reverseitemiterator", "odict_iterator", "itertools.zip_longest", "itertools.pairwise"].contains n&&vs[0]?==some (rawInt _))=true then _ else _) Q E s;rw[if_neg (by intro h;rw[hn,Bool.false_and]at h;cases h)];exact wpAny_pure hQ))
def Itl(K:Nb)(a:Nc):It:=
 ⟨λi H=>∃xs x,W0 xs∧xs[i]?=some x,λi H x H'=>H'=H∧∀xs,W0 xs→xs[i]?=some x,λi H=>∃xs,W0 xs∧xs.length≤i⟩
def Itt(K:Nb)(a:Nc):It:=
 ⟨λi H=>∃xs x,UU xs∧xs[i]?=some x,λi H x H'=>H'=H∧∀xs,UU xs→xs[i]?=some x,λi H=>∃xs,UU xs∧xs.length≤i⟩
def Itr(lo:Int)(n:Nat):It:=⟨λi _=>i<n,λi H x H'=>H'=H∧x=.int (lo+i),λi _=>n≤i⟩
theorem turn_list{P:Nk}{w:Nl}{K:Nb}{tg:Expr}(a it:Nc):XB (XC a) [it] it (λi h=>h.IsListIter it a i) where
 mem:=by simp
 obj:=λi h st b hb=>by
  have e:b=it:=by simpa using hb
  subst e;obtain⟨o,e,c,d⟩:=st;exact⟨o,e,λv z=>by rw[d]at z;cases z⟩
 keep:=λi h h' st k=>st.at λo e=>k it DI o e
 item:=by intro X hP hw hK hc i a6 s σ H E I hf st hg;subst hP hw hK;obtain⟨xs,x,hq,hx⟩:=hg;obtain⟨a8,rv,p,hz⟩:=I.list hq;obtain⟨u,hu,ru⟩:=rv.get hx;obtain⟨f0,f1,f2,f3,f4,f5⟩:=hf it DI;refine VL p.isList (x:=u) (DJ hu) λh' a7 sb=>?_;have I1:ZA H {s with heap:=h'}:=I.turned (t':=s.toks) (λb o hb e=>(sb.2 b hb).trans e) f0 f1 f3 f4 f5;obtain⟨o,e,c,d⟩:=id a7;exact⟨u,rfl,go_of (s:={s with heap:=h'}) e c d DL ⟨x,H,I1,ru,⟨rfl,λys hy=>by rw[I.list_inj hy hq];exact hx⟩,a7,λb hb=>(hf b hb).1⟩⟩
 done:=by intro X hP hw hK hc i a6 s σ H E I hf st hg;subst hP hw hK;obtain⟨xs,hq,hx⟩:=hg;obtain⟨a8,rv,p,hz⟩:=I.list hq;obtain⟨f0,f1,f2,f3,f4,f5⟩:=hf it DI;have hl:=rv.length;exact wpAny_pyNext_list_end Hk st p.isList (by simp;exact zdx ‹_› ‹_›) λh' eb=>⟨rfl,I.turned (t':=s.toks) (λb o hb e=>eb b o hb e) f0 f1 f3 f4 f5⟩
 self:=λ_ _ _ _ _ st h=>wpAny_pyIter_listiter st h
theorem turn_tuple{P:Nk}{w:Nl}{K:Nb}{tg:Expr}(a it:Nc):XB (NT a) [it] it (λi h=>h.IsTupleIter it a i) where
 mem:=by simp
 obj:=λi h st b hb=>by
  have e:b=it:=by simpa using hb
  subst e;obtain⟨o,e,c,d⟩:=st;exact⟨o,e,λv z=>by rw[d]at z;cases z⟩
 keep:=λi h h' st k=>st.at λo e=>k it DI o e
 item:=by intro X hP hw hK hc i a6 s σ H E I hf st hg;subst hP hw hK;obtain⟨xs,x,hq,hx⟩:=hg;obtain⟨a8,rv,p,hz⟩:=I.tuple hq;obtain⟨u,hu,ru⟩:=rv.get hx;obtain⟨f0,f1,f2,f3,f4,f5⟩:=hf it DI;refine wpAny_pyNext_tuple_item st (show s.heap.IsTuple a a8.toArray from p) (x:=u) (DJ hu) λh' a7 sb=>?_;have I1:ZA H {s with heap:=h'}:=I.turned (t':=s.toks) (λb o hb e=>(sb.2 b hb).trans e) f0 f1 f3 f4 f5;obtain⟨o,e,c,d⟩:=id a7;exact⟨u,rfl,go_of (s:={s with heap:=h'}) e c d DL ⟨x,H,I1,ru,⟨rfl,λys hy=>by rw[I.tuple_inj hy hq];exact hx⟩,a7,λb hb=>(hf b hb).1⟩⟩
 done:=by intro X hP hw hK hc i a6 s σ H E I hf st hg;subst hP hw hK;obtain⟨xs,hq,hx⟩:=hg;obtain⟨a8,rv,p,hz⟩:=I.tuple hq;obtain⟨f0,f1,f2,f3,f4,f5⟩:=hf it DI;have hl:=rv.length;exact wpAny_pyNext_tuple_end Hk st (show s.heap.IsTuple a a8.toArray from p) (by simp;exact zdx ‹_› ‹_›) λh' eb=>⟨rfl,I.turned (t':=s.toks) (λb o hb e=>eb b o hb e) f0 f1 f3 f4 f5⟩
 self:=λ_ _ _ _ _ st h=>wpAny_pyIter_tupleiter st h
theorem turn_range{P:Nk}{w:Nl}{K:Nb}{tg:Expr}(it:Nc)(lo:Int)(n:Nat):XB (Nz n) [it] it (λi h=>IsRangeIter h it (lo+(i:Nat)*1) ((n:Int)-(i:Nat)) 1) where
 mem:=by simp
 obj:=λi h st b hb=>by
  have e:b=it:=by simpa using hb
  subst e;exact⟨_,st,λv z=>by have z':Data.fields _=Data.cell v:=z;cases z'⟩
 keep:=λi h h' st k=>k it DI _ st
 item:=by intro X hP hw hK hc i a6 s σ H E I hf st hg;subst hP hw hK;obtain⟨f0,f1,f2,f3,f4,f5⟩:=hf it DI;have W:=Walks.range (prog:=X.prog) (w:=X.w) Hk it lo 1 n;refine W.item i s _ _ hg st λv h' tk hv a7 kk=>?_;obtain⟨t,rfl⟩:=hv;have I1:ZA H {s with heap:=h',toks:=tk}:=I.turned (λb o hb e=>kk b o (DJ hb) e) f0 f1 f3 f4 f5;refine⟨RV,go_of (s:={s with heap:=h',toks:=tk}) (n:= "range_iterator") a7 rfl rfl DL ⟨GG (lo+i),H,I1,⟨t,?_⟩,⟨rfl,rfl⟩,a7,λb hb=>(hf b hb).1⟩⟩;rw[Int.mul_one]
 done:=by intro X hP hw hK hc i a6 s σ H E I hf st hg;subst hP hw hK;obtain⟨f0,f1,f2,f3,f4,f5⟩:=hf it DI;exact wpAny_pyNext_range_end Hk st (by have:n≤i:=hg;lia) λh' eb=>⟨rfl,I.turned (t':=s.toks) (λb o hb e=>eb b o hb e) f0 f1 f3 f4 f5⟩
 self:=λ_ _ _ _ _ st h=>wpAny_pyIter_rangeiter st h
section
variable{X:Cx}{tg:Expr}
inductive RI1(x:V)(S R:Addr→Prop):Prop
 |mk(a:Nc)(e:x=.ref a)(s:S a)(q:R a)
def iList(K:Nb)(tl:TE):TI:=λ σ H R=>tl σ H λx H1=>RI1 x (λa=>∃xs,SqL K H1 a xs) λa=>R (XC a) H1
def iTup(K:Nb)(tl:TE):TI:=λ σ H R=>tl σ H λx H1=>RI1 x (λa=>∃xs,SqT K H1 a xs) λa=>R (NT a) H1
def za2{l:Expr}{tl:TE}(hl:Z9 l tl):JE l (iList X.K tl):=by
 intro a6 s σ H R I h;refine thn (hl a6 s σ H _ I h) λv s1 ⟨x,H1,I1,r1,q1⟩=>?_;obtain⟨a,e,⟨xs,hq⟩,q⟩:=q1;subst e;cases r1;obtain⟨a8,rv,p,hz⟩:=I1.list hq;refine wpAny_pyIter_list p.isList ⟨s1.heap.objs.size,[s1.heap.objs.size],_,_,H1,rfl,I1.kept (t':=s1.toks) λb o e=>Q5 e,turn_list a _,⟨_,Re,rfl,rfl⟩,λb hb=>?_,q⟩;have e:b=s1.heap.objs.size:=by simpa using hb
 subst e;exact BB RI
def pi_tup{l:Expr}{tl:TE}(hl:Z9 l tl):JE l (iTup X.K tl):=by
 intro a6 s σ H R I h;refine thn (hl a6 s σ H _ I h) λv s1 ⟨x,H1,I1,r1,q1⟩=>?_;obtain⟨a,e,⟨xs,hq⟩,q⟩:=q1;subst e;cases r1;obtain⟨a8,rv,p,hz⟩:=I1.tuple hq;refine wpAny_pyIter_tuple (show s1.heap.IsTuple a a8.toArray from p) ⟨s1.heap.objs.size,[s1.heap.objs.size],_,_,H1,rfl,I1.kept (t':=s1.toks) λb o e=>Q5 e,turn_tuple a _,⟨_,Re,rfl,rfl⟩,λb hb=>?_,q⟩;have e:b=s1.heap.objs.size:=by simpa using hb
 subst e;exact BB RI
def range_it{a6:Nd}{σ:St}{H:Hp}{s:Nh}{R:It→Hp→Prop}{E:Na}{lo hi:Int}{t u v:Tok}{tk:Nat}(I:Fg)(h1:-(2 ^ 62)≤lo)(h2:lo<2 ^ 62)(h3:-(2 ^ 62)≤hi)(h4:hi<2 ^ 62)(q:R (Nz (hi-lo).toNat) H):ZF (pyIter D6) (PIE X a6 σ tg R) E {s with heap:=s.heap.push {cls:=.type "range",data:=.fields #[Rj lo t,Rj hi u,Rj 1 v]},toks:=tk}:=by
 refine wpAny_pyIter_range (IsRange.new ..) (small_one h1 h2 h3 h4) ?_;have I1:ZA H {s with heap:=s.heap.push {cls:=.type "range",data:=.fields #[Rj lo t,Rj hi u,Rj 1 v]},toks:=tk}:=I.kept λb o e=>Q5 e;refine⟨(s.heap.push {cls:=.type "range",data:=.fields #[Rj lo t,Rj hi u,Rj 1 v]}).objs.size,[(s.heap.push {cls:=.type "range",data:=.fields #[Rj lo t,Rj hi u,Rj 1 v]}).objs.size],_,_,H,rfl,
  I1.kept (t':=tk) λb o e=>Q5 e,turn_range _ lo (hi-lo).toNat,?_,λb hb=>?_,q⟩
 ·have e1:lo+((0:Nat):Int)*1=lo:=by simp
  have e2:(((hi-lo).toNat:Nat):Int)-((0:Nat):Int)=Builtin.Range.rangeSize lo hi 1:=by rw[rangeSize_one];split<;>lia
  show IsRangeIter _ _ (lo+((0:Nat):Int)*1) ((((hi-lo).toNat:Nat):Int)-((0:Nat):Int)) 1;rw[e1,e2];exact JM rfl
 have e:b=(s.heap.push { cls:=.type "range",data:=.fields #[Rj lo t,Rj hi u,Rj 1 v] }).objs.size:=by simpa using hb
 subst e;exact BB RI
inductive RR1(vs:List V)(R:Int→Prop):Prop
 |mk(j:Int)(e:vs=[.int j])(l:-(2 ^ 62)≤j)(u:j<2 ^ 62)(q:R j)
def iRng1(ta:TA):TI:=λ σ H R=>ta σ H λvs H1=>RR1 vs λj=>R (Itr 0 j.toNat) H1
def zc1{a:Expr}{ta:TA}{p pos:Pos}(hg:VR "range")(hm:X.mg "range" = none)(ha:Vj [a] ta)(hs:starEach [a] X.env=[(false,FJ a)]:=by rfl):JE (.Call (.Name "range" p) [a] [] pos) (iRng1 ta):=by
 intro a6 s σ H R I h;refine Call_ (JN boot_range (Xa (thn Hd λus s1 ⟨vs,H1,I1,r1,q1⟩=>?_) hs rfl));obtain⟨j,e,q1,q2,q⟩:=q1;subst e;cases r1 with
 |cons r rr=>cases rr;obtain⟨t,rfl⟩:=r;exact call_range_1 (range_it I1 DH DH q1 q2 (DJ q))
def tFor(wi:TI)(g:TG)(tb:TS):TS:=λD σ H=>wi σ H λJ H1=>∃W:Nat→Nat→St→Hp→Prop,(∃m,W 0 m σ H1)∧∀i m σ H,W i m σ H →
 (MF H∧WV H)∨(J.go i H∧∃N:St→Hp→Prop,Ff∧∀x H',KY H'→g x σ H' λ σ2 H2=>tb {D with nx:=N,ct:=N,bk:=D.nx} σ2 H2)
def zcu(fp:Nn)(h:Np):List (Addr×Obj):=fp.filterMap λb=>(h.get? b).map λo=>(b,o)
def zbx{fp:Nn}{h:Np}{b:Nc}{o:Obj}(hb:b∈fp)(e:h.get? b=some o):(b,o)∈Md h:=List.mem_filterMap.mpr ⟨b,hb,by rw[e];rfl⟩
def zgj{fp:Nn}{h:Np}{p:Addr×Obj}(hp:p∈Md h):p.1∈fp∧h.get? p.1=some p.2:=by
 obtain⟨b,hb,e⟩:=List.mem_filterMap.mp hp;cases q:h.get? b with
 |none=>rw[q]at e;cases e
 |some o=>rw[q]at e;have e':(b,o)=p:=Qw e;subst e';exact⟨hb,q⟩
def Inv.pinned{a6:Nd}{σ:St}{H:Hp}{s:Nh}{fp:Nn}(I:Fg)(hf:∀b∈fp,WF b)(ho:∀b∈fp,∃o,s.heap.get? b=some o∧∀v,o.data≠.cell v):Inv X (a6++Md s.heap) σ H s:=
 I.pins_of λp hp=>(Qg.mp hp).elim (λz=>Y2 (Y6 z)) λz=>by obtain⟨hb,e⟩:=zgj z;obtain⟨f0,f1,f2,_⟩:=hf p.1 hb;obtain⟨o,e',d⟩:=ho p.1 hb;rw[e]at e';cases e';exact⟨e,f0,f1,f2,d⟩
def Inv.unpinned{a6 pl:Nd}{σ:St}{H:Hp}{s:Nh}(I:Inv X (a6++pl) σ H s):ZA H s:=I.pins_of λp hp=>Y2 (Y6 (UT hp))
def zbs{iter:Expr}{body:List Stmt}{wi:TI}{g:TG}{tb:TS}{pos:Pos}(hp:BA X.xe)(hc:X.calm=true)(hi:JE iter wi)(hg:PG X tg g)(hb:Vi body tb)(hs:∀x,foldedSetIterable iter X.env x=pure x:=by intro _;rfl):X3 (.For tg iter body [] pos) (tFor wi g tb):=by
 intro a6 s σ H D I h;refine wpAny_For (thn Rc λv s1 h1=>thn h1 λitv s2 h2=>?_) hs;obtain⟨it,fp,tn,J,H2,e,I2,T,au,f2,W,⟨m0,w0⟩,turn⟩:=h2;subst e;have stat:∀{H':Hp},(∀b∈fp,H' b=none)→∀b∈fp,FpOk X a6 H' b:=λhn b hb=>⟨hn b hb,(f2 b hb).2⟩;refine codeAny_forLoop_any (λn s'=>Ex3 λi σ' H'=>Aj4 (ZD σ' H' s') (tn i s'.heap) (∀b∈fp,H' b=none) (W i n σ' H')) ?_ m0 ⟨0,σ,H2,I2,au,λb hb=>(f2 b hb).1,w0⟩;rintro n s3 ⟨i,σ3,H3,I3,ae,fr3,w3⟩;rcases turn i n σ3 H3 w3 with⟨stop,qn⟩|⟨go,N,hN,step⟩
 ·refine WO (thn (T.done X rfl rfl rfl hc i a6 s3 σ3 H3 X.xe I3 (stat fr3) ae stop) λr s4 ⟨hr,I4⟩=>?_);subst hr;exact wpAny_execs_nil ⟨σ3,H3,I4,qn⟩
 refine WO (thn (T.item X rfl rfl rfl hc i a6 s3 σ3 H3 X.xe I3 (stat fr3) ae go) λr s4 ⟨u,hr,h4⟩=>?_);subst hr;refine WO (thn h4 λ_ s5 ⟨x,H5,I5,r5,y5,i6,fr5⟩=>?_);have jG:=I5.pinned (stat fr5) (UD i6);refine WO (thn (hg _ s5 σ3 H5 x u _ jG r5 (step x H5 y5)) λ_ s6 ⟨σ6,H6,I6,q6⟩=>WO (thn (hb _ s6 σ6 H6 _ I6 q6) λf s7 q7=>?_));have again:∀{σ7:St} {H7:Hp},Inv X (a6++Md s5.heap) σ7 H7 s7→N σ7 H7→∃m,m<n∧Ex3 λi σ' H'=>Aj4 (ZD σ' H' s7) (tn i s7.heap) (∀b∈fp,H' b=none) (W i m σ' H'):=λ{σ7 H7} I7 n7=>by obtain⟨m',hm,w7⟩:=hN σ7 H7 n7;refine⟨m',hm,i+1,σ7,H7,I7.unpinned,YF i6 λb hb o e=>(I7.pin (b,o) (Y6 (Y6 (zbx hb e)))).1,λb hb=>?_,w7⟩;obtain⟨o,e,d⟩:=UD i6 b hb;exact(I7.pin (b,o) (Y6 (Y6 (zbx hb e)))).2.1
 cases f with
 |next=>obtain⟨σ7,H7,I7,n7⟩:=q7;exact again I7 n7
 |cont=>obtain⟨σ7,H7,I7,n7⟩:=q7;exact again I7 n7
 |brk=>obtain⟨σ7,H7,I7,q7⟩:=q7;exact⟨σ7,H7,I7.unpinned,q7⟩
 |ret v=>obtain⟨x7,σ7,H7,I7,r7,q7⟩:=q7;exact⟨x7,σ7,H7,I7.unpinned,r7,q7⟩
def zb3{K:Nb}{a:Nc}{xs:List V}{g:TG}{tb:TS}{D:Ends}{σ:St}{H:Hp}(Pv:Nat→St→Hp→Prop)(h0:Pv 0 σ H)(hl:∀i σ H,i≤xs.length→Pv i σ H→W0 xs)(hs:∀i x σ H,xs[i]?=some x→Pv i σ H→g x σ H λ σ2 H2=>tb {D with nx:=Pv Fj,ct:=Pv Fj,bk:=D.nx} σ2 H2)(hd:∀σ H,Pv xs.length σ H→WV H) :
  ∃W:Nat→Nat→St→Hp→Prop,(∃m,W 0 m σ H)∧∀i m σ H,W i m σ H →
   ((XC a).stop i H∧WV H)∨((XC a).go i H∧∃N:St→Hp→Prop,Ff∧∀x H',(XC a).yld i H x H'→g x σ H' λ σ2 H2=>tb {D with nx:=N,ct:=N,bk:=D.nx} σ2 H2):=by
 refine⟨λi m σ H=>m=xs.length-i∧i≤xs.length∧Pv i σ H,⟨xs.length,DI,HY,h0⟩,?_⟩;rintro i m σ H ⟨rfl,hi,p⟩;have q:=hl i σ H hi p;by_cases aa:i<xs.length
 ·refine .inr ⟨⟨xs,xs[i],q,by simp[aa]⟩,Pv Fj,fun σ' H' p'=>⟨xs.length - Fj,FE,rfl,aa,p'⟩,λx H' y=>?_⟩;obtain⟨e,y⟩:=y;subst e;exact hs i x σ _ (y xs q) p
 have e:i=xs.length:=by exact zar3 ‹_› ‹_›
 subst e;exact .inl ⟨⟨xs,q,D9⟩,hd σ H p⟩
def for_tup{K:Nb}{a:Nc}{xs:List V}{g:TG}{tb:TS}{D:Ends}{σ:St}{H:Hp}(Pv:Nat→St→Hp→Prop)(h0:Pv 0 σ H)(hl:∀i σ H,i≤xs.length→Pv i σ H→UU xs)(hs:∀i x σ H,xs[i]?=some x→Pv i σ H→g x σ H λ σ2 H2=>tb {D with nx:=Pv Fj,ct:=Pv Fj,bk:=D.nx} σ2 H2)(hd:∀σ H,Pv xs.length σ H→WV H) :
  ∃W:Nat→Nat→St→Hp→Prop,(∃m,W 0 m σ H)∧∀i m σ H,W i m σ H →
   ((NT a).stop i H∧WV H)∨((NT a).go i H∧∃N:St→Hp→Prop,Ff∧∀x H',(NT a).yld i H x H'→g x σ H' λ σ2 H2=>tb {D with nx:=N,ct:=N,bk:=D.nx} σ2 H2):=by
 refine⟨λi m σ H=>m=xs.length-i∧i≤xs.length∧Pv i σ H,⟨xs.length,DI,HY,h0⟩,?_⟩;rintro i m σ H ⟨rfl,hi,p⟩;have q:=hl i σ H hi p;by_cases aa:i<xs.length
 ·refine .inr ⟨⟨xs,xs[i],q,by simp[aa]⟩,Pv Fj,fun σ' H' p'=>⟨xs.length - Fj,FE,rfl,aa,p'⟩,λx H' y=>?_⟩;obtain⟨e,y⟩:=y;subst e;exact hs i x σ _ (y xs q) p
 have e:i=xs.length:=by exact zar3 ‹_› ‹_›
 subst e;exact .inl ⟨⟨xs,q,D9⟩,hd σ H p⟩
def zc4{lo:Int}{n:Nat}{g:TG}{tb:TS}{D:Ends}{σ:St}{H:Hp}(Pv:Nat→St→Hp→Prop)(h0:Pv 0 σ H)(hs:∀i σ H,i<n→Pv i σ H→g (GG (lo+i)) σ H λ σ2 H2=>tb {D with nx:=Pv Fj,ct:=Pv Fj,bk:=D.nx} σ2 H2)(hd:∀σ H,Pv n σ H→WV H) :
  ∃W:Nat→Nat→St→Hp→Prop,(∃m,W 0 m σ H)∧∀i m σ H,W i m σ H →
   ((Nz n).stop i H∧WV H)∨((Nz n).go i H∧∃N:St→Hp→Prop,Ff∧∀x H',(Nz n).yld i H x H'→g x σ H' λ σ2 H2=>tb {D with nx:=N,ct:=N,bk:=D.nx} σ2 H2):=by
 refine⟨λi m σ H=>m=n-i∧i≤n∧Pv i σ H,⟨n,DI,HY,h0⟩,?_⟩;rintro i m σ H ⟨rfl,hi,p⟩;by_cases aa:i<n
 ·refine .inr ⟨aa,Pv Fj,fun σ' H' p'=>⟨n - Fj,FE,rfl,aa,p'⟩,λx H' y=>?_⟩;obtain⟨e,y⟩:=y;subst e y;exact hs i σ _ aa p
 have e:i=n:=by exact zar3 ‹_› ‹_›
 subst e;exact .inl ⟨D9,hd σ H p⟩
abbrev R2:=V→V→Hp→VK→Prop
def OpR(X:Cx)(f:Value→Value→Sem Value)(r:R2):Prop:=
 ∀(a6:Nd) (s:Nh) (σ:St) (H:Hp) (x y:V) (v u:Value) (Q:VK),ZA H s→YB v→YN u→r x y H Q →
  wpAny DT X.A (f v u) (QB Q) X.xe s
def UnR(X:Cx)(f:Value→Sem Value)(r:V→Hp→VK→Prop):Prop:=
 ∀(a6:Nd) (s:Nh) (σ:St) (H:Hp) (x:V) (v:Value) (Q:VK),ZA H s→YB v→r x H Q →
  wpAny DT X.A (f v) (QB Q) X.xe s
def zcc(X:Cx)(f:Value)(r:List V→Hp→VK→Prop):Prop:=
 ∀(a6:Nd) (s:Nh) (σ:St) (H:Hp) (xs:List V) (us:Ni) (Q:VK),ZA H s→Q7 us→r xs H Q →
  wpAny DT X.A (call f us) (QB Q) X.xe s
def TruR(X:Cx)(r:V→Hp→(Bool→Hp→Prop)→Prop):Prop:=
 ∀(a6:Nd) (s:Nh) (σ:St) (H:Hp) (x:V) (v:Value) (Q:Bool→Hp→Prop),ZA H s→YB v→r x H Q →
  wpAny DT X.A (truthy v) (Vh Q) X.xe s
def tOp(r:R2)(ta tb:TE):TE:=λ σ H Q=>ta σ H λx H1=>tb σ H1 λy H2=>r x y H2 Q
def tUn(r:V→Hp→VK→Prop)(ta:TE):TE:=λ σ H Q=>ta σ H λx H1=>r x H1 Q
inductive RrI(C:Int→Int→Prop)(g:Int→Int→V)(x:V)(y:V)(H:Hp)(Q:VK):Prop
 |mk(i:_)(j:_)(h0:x=.int i)(h1:y=.int j)(h2:C i j)(h3:Q (g i j) H)
def rI(C:Int→Int→Prop)(g:Int→Int→V):R2:=λx y H Q=>RrI C g x y H Q
inductive RrI0(g:Int→Int→V)(x:V)(y:V)(H:Hp)(Q:VK):Prop
 |mk(i:_)(j:_)(h0:x=.int i)(h1:y=.int j)(h2:Q (g i j) H)
def rI0(g:Int→Int→V):R2:=λx y H Q=>RrI0 g x y H Q
def rU(g:Int→V):V→Hp→VK→Prop:=λx H Q=>∃i,x=.int i∧Q (g i) H
variable{a b c:Expr}{ta tb tc:TE}{pos:Pos}
def binT(ha:Z9 a ta)(hb:Z9 b tb){a6:Nd}{s:Nh}{σ:St}{H:Hp}{R:V→V→Hp→Prop}(I:Fg)(h:ta σ H λx H1=>tb σ H1 λy H2=>R x y H2){Q:Na}{f:Value→Value→Sem Value}(hf:∀v u s2 x y H2,ZA H2 s2→YB v→YN u→R x y H2→ZF (f v u) Q X.xe s2) :
  wpAny DT X.A (FJ a) (λv s₁=>ZF (FJ b) (λu s₂=>ZF (f v u) Q X.xe s₂) X.xe s₁) X.xe s:=by
 exact thn Gg λv s1 ⟨x,H1,I1,r1,q1⟩=>thn Rt λu s2 ⟨y,H2,I2,r2,q2⟩=>hf v u s2 x y H2 I2 r1 r2 q2
def zaq{op:Operator}{r:R2}(ho:W8 (binaryOp op) r)(ha:Z9 a ta)(hb:Z9 b tb):Z9 (.BinOp a op b pos) (tOp r ta tb):=by intro a6 s σ H Q I h;exact wpAny_BinOp (binT ha hb I h λv u s2 x y H2 I2 rx ry q=>ho a6 s2 σ H2 x y v u Q I2 rx ry q)
def pe_un{op:UnaryOp}{r:V→Hp→VK→Prop}(ho:UnR X (unaryOp op) r)(ha:Z9 a ta):Z9 (.UnaryOp op a pos) (tUn r ta):=by intro a6 s σ H Q I h;exact UnaryOp_ (thn Gg λv s1 ⟨x,H1,I1,r1,q1⟩=>ho a6 s1 σ H1 x v Q I1 r1 q1)
def opI{f:Value→Value→Sem Value}{C:Int→Int→Prop}{g:Int→Int→Int}(rule:∀(i j:Int) (t u:Tok) (s:Nh) (Q:Na) (E:Na),C i j→Q (.int (g i j) s.toks) {s with toks:=s.toks+1}→ZF (f (Rj i t) (Rj j u)) Q E s) :
  OpR X f (rI C λi j=>.int (g i j)):=by
 intro a6 s σ H x y v u Q I rx ry h;obtain⟨i,j,rfl,rfl,hc,q⟩:=h;obtain⟨t,rfl⟩:=rx;obtain⟨t',rfl⟩:=ry;exact rule i j t t' s _ _ hc ⟨GG (g i j),H,Gr,⟨_,rfl⟩,q⟩
def opI0{f:Value→Value→Sem Value}{g:Int→Int→Int}(rule:∀(i j:Int) (t u:Tok) (s:Nh) (Q:Na) (E:Na),Q (.int (g i j) s.toks) {s with toks:=s.toks+1}→ZF (f (Rj i t) (Rj j u)) Q E s) :
  OpR X f (rI0 λi j=>.int (g i j)):=by
 intro a6 s σ H x y v u Q I rx ry h;obtain⟨i,j,rfl,rfl,q⟩:=h;obtain⟨t,rfl⟩:=rx;obtain⟨t',rfl⟩:=ry;exact rule i j t t' s _ _ ⟨GG (g i j),H,Gr,⟨_,rfl⟩,q⟩
def opB0{f:Value→Value→Sem Value}{g:Int→Int→Bool}(rule:∀(i j:Int) (t u:Tok) (s:Nh) (Q:Na) (E:Na),Q (.bool (g i j)) s→ZF (f (Rj i t) (Rj j u)) Q E s) :
  OpR X f (rI0 λi j=>.bl (g i j)):=by
 intro a6 s σ H x y v u Q I rx ry h;obtain⟨i,j,rfl,rfl,q⟩:=h;obtain⟨t,rfl⟩:=rx;obtain⟨t',rfl⟩:=ry;exact rule i j t t' s _ _ ⟨.bl (g i j),H,I,rfl,q⟩
def CDiv(i j:Int):Prop:=0<j∧j<1073741824
def CPow(i j:Int):Prop:=0≤j∧j≤1000000∧i.natAbs<2 ^ 64
def CMul(i j:Int):Prop:=(-(2 ^ 64)<i∧i<2 ^ 64)∨(-(2 ^ 64)<j∧j<2 ^ 64)
def CMul.ok{i j:Int}(h:CMul i j):IntMulOk i j:=by
 rcases h with⟨h1,h2⟩|⟨h1,h2⟩
 ·exact .of_left (intBits_le_64 h1 h2)
 exact .of_right (intBits_le_64 h1 h2)
def zbl:W8 (binaryOp .Add) (rI0 λi j=>.int (i+j)):=opI0 λ_ _ _ _ _ _ _ q=>add_int q
def zhe:W8 (binaryOp .Sub) (rI0 λi j=>.int (i-j)):=opI0 λ_ _ _ _ _ _ _ q=>sub_int q
def zgi:W8 (binaryOp .Mult) (rI CMul λi j=>.int (i*j)):=opI λ_ _ _ _ _ _ _ hc q=>mul_int q hc.ok
def zfe:W8 (binaryOp .FloorDiv) (rI CDiv λi j=>.int (i/j)):=opI λi j _ _ _ _ _ hc q=>by have h1:(0:Int)<j:=hc.1;have h2:j<1073741824:=hc.2;exact floordiv_int DH (by rw[Int.fdiv_eq_ediv_of_nonneg i DH];exact q) (Gb (PyProof.noPylong_small DH))
def zb6:W8 (binaryOp .Mod) (rI (λ_ j=>0<j) λi j=>.int (i%j)):=opI λi j _ _ _ _ _ hc q=>by have h1:(0:Int)<j:=hc;exact mod_int' DH (by rw[Int.fmod_eq_emod_of_nonneg i DH];exact q)
def op_pow:W8 (binaryOp .Pow) (rI CPow λi j=>.int (i ^ j.toNat)):=opI λ_ _ _ _ _ _ _ hc q=>pow_int_small hc.1 hc.2.1 hc.2.2 q
def unI{f:Value→Sem Value}{g:Int→Int}(rule:∀(i:Int) (t:Tok) (s:Nh) (Q:Na) (E:Na),Q (.int (g i) s.toks) {s with toks:=s.toks+1}→ZF (f (Rj i t)) Q E s) :
  UnR X f (rU λi=>.int (g i)):=by
 intro a6 s σ H x v Q I rx h;obtain⟨i,rfl,q⟩:=h;obtain⟨t,rfl⟩:=rx;exact rule i t s _ _ ⟨GG (g i),H,Gr,⟨_,rfl⟩,q⟩
def un_neg:UnR X (unaryOp .USub) (rU λi=>.int (-i)):=unI λ_ _ _ _ _ q=>neg_int q
def scal:V→V→Bool
 |.non,.non=>true | .non,.int _=>true | .int _,.non=>true | .non,.bl _=>true | .bl _,.non=>true | .non,.str _=>true | .str _,.non=>true
 |.int _,.int _=>true | .bl _,.bl _=>true | .str _,.str _=>true | .byt _,.byt _=>true
 |.int _,.str _=>true | .str _,.int _=>true | .bl _,.str _=>true | .str _,.bl _=>true
 |_,_=>false
def rEq:R2:=λx y H Q=>scal x y=true∧Q (.bl (decide (x=y))) H
def rNe:R2:=λx y H Q=>scal x y=true∧Q (.bl (!decide (x=y))) H
def dec_int{i j:Int}:decide (V.int i=V.int j)=(i==j):=by rw[Wp];simp
def dec_bl{i j:Bool}:decide (V.bl i=V.bl j)=(i==j):=by rw[Wp];simp
def dec_str{i j:Str}:decide (V.str i=V.str j)=(i==j):=by rw[Wp];simp
def dec_byt{i j:Array UInt8}:decide (V.byt i=V.byt j)=(i.toList==j.toList):=by rw[Wp];cases i;cases j;simp
def za7{a6:Nd}{σ:St}{H:Hp}{s:Nh}{Q:VK}{k k':Bool}(I:Fg)(q:Q (.bl k) H)(e:k=k'):QB Q (.bool k') s:=by subst e;exact⟨.bl k,H,I,rfl,q⟩
def op_eq:W8 (compareOp .Eq) rEq:=by
 intro a6 s σ H x y v u Q I rx ry h;obtain⟨hs,q⟩:=h;cases x with
 |non=>
  cases rx;cases y with
  |non=>cases ry;exact PySem.EqNone.eq_none_none Hg
  |bl j=>cases ry;exact PySem.EqNone.eq_none_bool Hg
  |int j=>obtain⟨t',rfl⟩:=ry;exact PySem.EqNone.eq_none_int Hg
  |str j=>obtain⟨t',rfl⟩:=ry;exact PySem.EqNone.eq_none_str Hg
  |_=>exact absurd (show false=true from hs) Za
 |bl i=>
  cases rx;cases y with
  |non=>cases ry;exact PySem.EqNone.eq_bool_none Hg
  |bl j=>cases ry;exact eq_bool (QF dec_bl)
  |str j=>obtain⟨t',rfl⟩:=ry;exact PySem.EqMixed.eq_bool_str Hg
  |_=>exact absurd (show false=true from hs) Za
 |int i=>
  obtain⟨t,rfl⟩:=rx;cases y with
  |non=>cases ry;exact PySem.EqNone.eq_int_none Hg
  |int j=>obtain⟨t',rfl⟩:=ry;exact eq_int (QF dec_int)
  |str j=>obtain⟨t',rfl⟩:=ry;exact PySem.EqMixed.eq_int_str Hg
  |_=>exact absurd (show false=true from hs) Za
 |str i=>
  obtain⟨t,rfl⟩:=rx;cases y with
  |non=>cases ry;exact PySem.EqNone.eq_str_none Hg
  |bl j=>cases ry;exact PySem.EqMixed.eq_str_bool Hg
  |int j=>obtain⟨t',rfl⟩:=ry;exact PySem.EqMixed.eq_str_int Hg
  |str j=>obtain⟨t',rfl⟩:=ry;exact eq_str (QF dec_str)
  |_=>exact absurd (show false=true from hs) Za
 |byt i=>
  obtain⟨t,rfl⟩:=rx;cases y with
  |byt j=>obtain⟨t',rfl⟩:=ry;exact PySem.W.eq_bytes (QF dec_byt)
  |_=>exact absurd (show false=true from hs) Za
 |_=>cases y<;>exact absurd (show false=true from hs) Za
def op_ne:WU rNe:=by
 intro a6 s σ H x y v u Q I rx ry h;obtain⟨hs,q⟩:=h;cases x with
 |non=>
  cases rx;cases y with
  |non=>cases ry;exact PySem.EqNone.ne_none_none Hg
  |bl j=>cases ry;exact PySem.EqNone.ne_none_bool Hg
  |int j=>obtain⟨t',rfl⟩:=ry;exact PySem.EqNone.ne_none_int Hg
  |str j=>obtain⟨t',rfl⟩:=ry;exact PySem.EqNone.ne_none_str Hg
  |_=>exact absurd (show false=true from hs) Za
 |bl i=>
  cases rx;cases y with
  |non=>cases ry;exact PySem.EqNone.ne_bool_none Hg
  |bl j=>cases ry;exact ne_bool (QF (congrArg not dec_bl))
  |str j=>obtain⟨t',rfl⟩:=ry;exact PySem.EqMixed.ne_bool_str Hg
  |_=>exact absurd (show false=true from hs) Za
 |int i=>
  obtain⟨t,rfl⟩:=rx;cases y with
  |non=>cases ry;exact PySem.EqNone.ne_int_none Hg
  |int j=>obtain⟨t',rfl⟩:=ry;exact ne_int (QF (congrArg not dec_int))
  |str j=>obtain⟨t',rfl⟩:=ry;exact PySem.EqMixed.ne_int_str Hg
  |_=>exact absurd (show false=true from hs) Za
 |str i=>
  obtain⟨t,rfl⟩:=rx;cases y with
  |non=>cases ry;exact PySem.EqNone.ne_str_none Hg
  |bl j=>cases ry;exact PySem.EqMixed.ne_str_bool Hg
  |int j=>obtain⟨t',rfl⟩:=ry;exact PySem.EqMixed.ne_str_int Hg
  |str j=>obtain⟨t',rfl⟩:=ry;exact ne_str (QF (congrArg not dec_str))
  |_=>exact absurd (show false=true from hs) Za
 |byt i=>
  obtain⟨t,rfl⟩:=rx;cases y with
  |byt j=>obtain⟨t',rfl⟩:=ry;exact PySem.W.ne_bytes (QF (congrArg not dec_byt))
  |_=>exact absurd (show false=true from hs) Za
 |_=>cases y<;>exact absurd (show false=true from hs) Za
def op_lt:W8 (compareOp .Lt) (rI0 λi j=>.bl (decide (i<j))):=opB0 λ_ _ _ _ _ _ _ q=>lt_int q
def op_le:W8 (compareOp .LtE) (rI0 λi j=>.bl (decide (i≤j))):=opB0 λ_ _ _ _ _ _ _ q=>le_int q
def op_gt:W8 (compareOp .Gt) (rI0 λi j=>.bl (decide (j<i))):=opB0 λ_ _ _ _ _ _ _ q=>gt_int q
def zbp(b:Expr){op:CmpOp}(h:op≠.In:=by decide)(h2:op≠.NotIn:=by decide):behindInMarks op b=false:=by
 have e1:(op==CmpOp.In)=false:=by cases op<;>first|rfl|exact absurd rfl h
 have e2:(op==CmpOp.NotIn)=false:=by cases op<;>first|rfl|exact absurd rfl h2
 cases b<;>simp[behindInMarks,e1,e2]
def tTest(t:TE):TT:=λ σ H Q=>t σ H λx H'=>RB x H' Q
def zav{op:CmpOp}{r:R2}(ho:W8 (compareOp op) r)(ha:Z9 a ta)(hb:Z9 b tb)(hm:behindInMarks op b=false):K4 (.Compare a [op] [b] pos) (tTest (tOp r ta tb)):=by intro a6 s σ H Q I h;refine wpAny_isTrue_Compare1 (thn Gg λv s1 ⟨x,H1,I1,r1,q1⟩=>thn Rt λu s2 ⟨y,H2,I2,r2,q2⟩=>thn (ho a6 s2 σ H2 x y v u _ I2 r1 r2 q2) λc s3 ⟨z,H3,I3,r3,k,e,q3⟩=>?_) hm;subst e;cases r3;exact wpAny_truthy_bool ⟨H3,I3,q3⟩
def tChain(r r':R2)(ta tb tc:TE):TE:=λ σ H Q=>ta σ H λx H1=>tb σ H1 λy H2=>r x y H2 λz H3=>RB z H3 λk H3=>(if k=true then tc σ H3 λw' H4=>r' y w' H4 Q else Q Ge H3)
def pe_chain{op pz:CmpOp}{r r':R2}(ho:W8 (compareOp op) r)(ao:W8 (compareOp pz) r')(ha:Z9 a ta)(hb:Z9 b tb)(hc:Z9 c tc)(hm:lastMarks [op,pz] [b,c]=false:=by with_unfolding_all rfl):Z9 (.Compare a [op,pz] [b,c] pos) (tChain r r' ta tb tc):=by
 intro a6 s σ H Q I h;refine Compare_chain (thn Gg λv s1 ⟨x,H1,I1,r1,q1⟩=>chain_link (thn Rt λu s2 ⟨y,H2,I2,r2,q2⟩=>thn (ho a6 s2 σ H2 x y v u _ I2 r1 r2 q2) λd s3 ⟨z,H3,I3,r3,k,e,q3⟩=>?_)) hm;subst e;cases r3;refine wpAny_truthy_bool ?_;cases k with
 |false=>exact ite_ff ⟨Ge,H3,I3,rfl,q3⟩
 |true=>exact ite_tt (chain_last (thn (hc a6 s3 σ H3 _ I3 q3) λw' s4 ⟨z',H4,I4,r4,q4⟩=>ao a6 s4 σ H4 y z' u w' Q I4 r2 r4 q4))
def TruV(K:Nb)(x:V)(H:Hp)(k:Bool):Prop:=
 match x with
 |.non=>k=false
 |.bl b=>k=b
 |.int i=>k=(i != 0)
 |.str y=>y.length≤sizeLine∧k=((y.length:Int) != 0)
 |.byt y=>y.size≤sizeLine∧k=((y.size:Int) != 0)
 |.ref p=>(∃xs,YE p xs∧k=!xs.isEmpty)∨(∃xs,Dm xs∧k=!xs.isEmpty)∨∃kvs,H p=some Gz∧k=!kvs.isEmpty
 |_=>False
def isEmpty_kv{κ:Type}{kvs:List (κ×V)}{vs:List (κ×Value)}(r:Y4 vs):(!vs.isEmpty)=!kvs.isEmpty:=by cases r<;>rfl
def zhh{xs:List V}{a8:Ni}(r:Q7 a8):(!a8.toArray.isEmpty)=!xs.isEmpty:=by cases r<;>simp
def zep:(sizeLine:Nat)<2 ^ 63:=by rw[sizeLine_eq];decide
inductive RTr(K:Nb)(x:V)(H:Hp)(Q:Bool→Hp→Prop):Prop
 |mk(k:Bool)(t:TruV K x H k)(q:Q k H)
def tru_ok:TruR X (λx H Q=>RTr X.K x H Q):=by
 intro a6 s σ H x v Q I rx h;obtain⟨k,e,q⟩:=h;have hl:=zep;have hs:sizeLine=16777216:=sizeLine_eq;cases x with
 |non=>cases rx;have e':k=false:=e;subst e';exact truthy_none ⟨H,I,q⟩
 |bl b=>cases rx;have e':k=b:=e;subst e';exact wpAny_truthy_bool ⟨H,I,q⟩
 |int i=>obtain⟨t,rfl⟩:=rx;have e':k=(i != 0):=e;subst e';exact PySem.P.truthy_int ⟨H,I,q⟩
 |str y=>obtain⟨t,rfl⟩:=rx;obtain⟨hy,e'⟩:y.length≤sizeLine∧k=((y.length:Int) != 0):=e;subst e';exact PySem.P.truthy_str DH ⟨H,Gr,q⟩
 |byt y=>obtain⟨t,rfl⟩:=rx;obtain⟨hy,e'⟩:y.size≤sizeLine∧k=((y.size:Int) != 0):=e;subst e';exact PySem.W.truthy_bytes DH ⟨H,Gr,q⟩
 |ref p=>
  cases rx;have e':(∃xs,Q4 p xs∧k=!xs.isEmpty)∨(∃xs,KM p xs∧k=!xs.isEmpty)∨∃kvs,H p=some Gz∧k=!kvs.isEmpty:=e;rcases e' with⟨xs,hx,e'⟩|⟨xs,hx,e'⟩|⟨kvs,hx,e'⟩
  ·subst e';obtain⟨a8,r,pl,hz⟩:=I.list hx;have a9:=r.length;exact wpAny_truthy_list pl.isList (by simp only[Qp];lia) ⟨H,Gr,by rw[zhh r];exact q⟩
  ·subst e';obtain⟨a8,r,pl,hz⟩:=I.tuple hx;have a9:=r.length;exact truthy_tuple pl (by simp only[Qp];lia) ⟨H,Gr,by rw[zhh r];exact q⟩
  subst e';obtain⟨hz,hS,vs,r,m⟩:kvs.length≤sizeLine∧(p==sysModules)=false∧∃vs,Y4 vs∧s.heap.DictOf Ru p vs:=BV hx;have a9:kvs.length=vs.length:=Yc r;exact wpAny_truthy_dict hS m DH ⟨H,Gr,by rw[isEmpty_kv r];exact q⟩
 |_=>exact(show False from e).elim
def zf5(ha:Z9 a ta)(he:∀whole,isTrue a X.env whole=(do let v ←whole;standAt a.pos;holding [v] (truthy v))) :
  PT X a (λ σ H Q=>ta σ H λx H'=>RTr X.K x H' Q):=by
 intro a6 s σ H Q I h;exact isTrue_plain (thn Gg λv s1 ⟨x,H1,I1,r1,q1⟩=>tru_ok a6 s1 σ H1 x v Q I1 r1 q1) (he _)
def zff:W8 (binaryOp .Add) (λx y H Q=>Ex2 λi j=>Aj4 (x=.str i) (y=.str j) (i.length+j.length≤sizeLine) (Q (GH (i++j)) H)):=by intro a6 s σ H x y v u Q I rx ry h;obtain⟨i,j,rfl,rfl,hz,q⟩:=h;obtain⟨t,rfl⟩:=rx;obtain⟨t',rfl⟩:=ry;exact add_str (λt' tk=>⟨GH (i++j),H,Gr,⟨_,rfl⟩,q⟩) hz
def vals1{x:V}{us:Ni}(r:Vals [x] us):∃u,us=[u]∧YB u:=by
 cases r with
 |cons r1 r2=>cases r2;exact⟨RV,r1⟩
def vals2{x y:V}{us:Ni}(r:Vals [x,y] us):∃u w',us=[u,w']∧YB u∧YN w':=by
 cases r with
 |cons r1 r2=>
  cases r2 with
  |cons r3 r4=>cases r4;exact⟨_,RV,r1,r3⟩
def call_max2(hc:X.calm=true):YL (.builtin "max") (λxs H Q=>Ex2 λi j=>Aj2 (xs=[GG i,GG j]) (Q (GG (if j>i then j else i)) H)):=by
 intro a6 s σ H xs us Q I r h;obtain⟨i,j,rfl,q⟩:=h;obtain⟨u,w',rfl,⟨t,rfl⟩,⟨t',rfl⟩⟩:=vals2 r;refine max_two_ints Hk λh' tk k=>⟨_,H,I.kept k,?_,q⟩;by_cases hj:j>i
 ·rw[if_pos hj,if_pos hj];exact⟨RV⟩
 rw[if_neg hj,if_neg hj];exact⟨RV⟩
def call_min2(hc:X.calm=true):YL (.builtin "min") (λxs H Q=>Ex2 λi j=>Aj2 (xs=[GG i,GG j]) (Q (GG (if j<i then j else i)) H)):=by
 intro a6 s σ H xs us Q I r h;obtain⟨i,j,rfl,q⟩:=h;obtain⟨u,w',rfl,⟨t,rfl⟩,⟨t',rfl⟩⟩:=vals2 r;refine min_two_ints Hk λh' tk k=>⟨_,H,I.kept k,?_,q⟩;by_cases hj:j<i
 ·rw[if_pos hj,if_pos hj];exact⟨RV⟩
 rw[if_neg hj,if_neg hj];exact⟨RV⟩
structure ObjM(h:Np)(x dx C:Nc)(mA:Ng):Prop where
 obj:h.get? x=some (WH dx)
 ns:h.Ns1 dx mA
 ne:dx≠x
def zgp{h:Np}{dx:Nc}{mA:Ng}(n:h.Ns1 dx mA):∃od,h.get? dx=some od∧∀name,MY od=some (mA name):=by
 obtain⟨o,es,ep,ho,hd,hk,_,hm⟩:=n;refine⟨o,ho,λname=>?_⟩;have e:=hm name;unfold nsFind findBy at e;rw[←Array.find?_toList]at e;unfold PySem.W.lookIn;rw[hd];dsimp only;split
 ·rename_i y q;rw[q]at e;exact congrArg some e
 rename_i q;rw[q]at e;have a:es.toList.any (·.refKey)=false:=by rw[List.any_eq_false];intro y hy;obtain⟨z,t,jd⟩:=hk y (Array.mem_toList_iff.mp hy);simp[DictEntry.refKey,jd]
 have a':¬es.toList.any (·.refKey)=true:=by rw[a];exact Za
 rw[if_neg a'];exact congrArg some e
def ObjM.look{h:Np}{x dx C:Nc}{mA:Ng}(I:ObjM h x dx C mA):∃od,PySem.W.InstAt h x (WH dx) C (FX od)∧∀name,MY od=some (mA name):=
 let⟨od,ho,hl⟩:=zgp I.ns
 ⟨od,⟨I.obj,rfl,rfl,ho⟩,hl⟩
variable{prog:Nk}{w:Nl}{A:No}{E:Na}{s:Nh}{K:Nb}{x dx C f:Nc}{mA:Ng}{name:Str}{v:Value}
def set_map{ns:Nj}{Q:Unit→Shared→Prop}(X:K.In s.heap)(I:ObjM s.heap x dx C mA)(hs:Z3 Gi "__setattr__" = some (FX (.builtin "object.__setattr__")))(hp:B4 C=true)(ht:MZ name=some none)(hh:B7 C=true)(hw:YJ ns)(hsz:ns.length≤sizeLine)(h:∀h',ObjM h' x dx C (λy=>if y=name then some v else mA y)→Heap.SameBut dx s.heap h'→Q () {s with heap:=h',toks:=s.toks+2}) :
  wpAny D7 A (setAttr HK name v) Q E s:=by
 obtain⟨od,J,hl⟩:=I.look;refine PySem.W.set_plain X J hs (PySem.W.osa_open (s:={s with toks:=s.toks+1}) (r:=none) X J hp ht λb=>?_);obtain⟨cd,hc,gE⟩:=PySem.W.any_some hh;have hx:s.heap.get? x=some ⟨Gi,FX dx,.plain,#[]⟩:=I.obj;refine wpAny_bind (wpAny_pure (wpAny_bind (wpAny_bind (X4 (wpAny_bind (PySem.W.Looks.here (s:={s with toks:=s.toks+1}) (PySem.W.looks_clsIn X hc) ?_))))));rw[gE];refine wpAny_pure (a:=some dx) (wpAny_bind (FA (wpAny_bind (wpAny_nsSet1 (s:={s with toks:=s.toks+1}) I.ns λh' bi dW=>?_))));obtain⟨oD,esD,epD,lI,mv,dI⟩:=bi.count (J5 hw);exact wpAny_bind (B8 (by rw[mv];exact pastItsLine_dict (Zd dI (by rw[Zc];exact zar4 ‹_›))) (wpAny_pure (h _ ⟨(dW.2 _ (Zj I.ne)).trans I.obj,bi,I.ne⟩ dW)))
def make_map{R:Nv}{vs:Ni}{kw:List (Str×Value)}(X:K.In s.heap)(hm:X5 C=true)(hi:Z3 Gi "__init__" = some (DQ f))(hf:PySem.W.typeIn K (DK f)=some (.type "function"))(h:codeAny D7 (A.under (.builtin "type.__call__" ⟨.ref C::vs,kw⟩)) (.call (DK f) ⟨.ref Fh::vs,kw⟩) (PySem.W.InitBack Fh R)
   {s with heap:=(s.heap.push PySem.W.emptyDict).push (WH s.heap.objs.size)}) :
  codeAny D7 A (.call Gi ⟨vs,kw⟩) R s:=by
 obtain⟨hh,g,d,t,os⟩:=s;exact PySem.W.make_core (PySem.W.makes_of X hm) (PySem.W.looks_findIn X hi) (λself=>PySem.W.bind_fn X self hf) Fq h
end
def putF(f:Str)(v:V):List (Str×V)→List (Str×V)
 |[]=>[(f,v)]
 |(g,x)::r=>if g=f then(g,v)::r else(g,x)::UK r
theorem zd5(f g:Str)(v:V):∀fs:List (Str×V),(UK fs).lookup g=if g=f then some v else fs.lookup g
 |[]=>by
  show List.lookup g [(f,v)]=_;by_cases h:g=f
  ·have hb:(g == f)=true:=beq_iff_eq.mpr h;simp only[List.lookup,hb,if_pos h]
  have hb:(g == f)=false:=beq_eq_false_iff_ne.mpr h;simp only[List.lookup,hb,if_neg h]
 | (k,x)::r=>by
  have ih:=zd5 f g v r;rw[show UK ((k,x)::r)=(if k=f then(k,v)::r else(k,x)::UK r) from rfl];by_cases hk:k=f
  ·rw[Gh hk];by_cases h:g=k
   ·have hb:(g == k)=true:=beq_iff_eq.mpr h;simp only[List.lookup,hb,if_pos (h.trans hk)]
   have hb:(g == k)=false:=beq_eq_false_iff_ne.mpr h;simp only[List.lookup,hb,if_neg (λe:g=f=>h (e.trans hk.symm))]
  rw[Gm hk];by_cases h:g=k
  ·have hb:(g == k)=true:=beq_iff_eq.mpr h;simp only[List.lookup,hb,if_neg (λe:g=f=>hk (h.symm.trans e))]
  have hb:(g == k)=false:=beq_eq_false_iff_ne.mpr h;simp only[List.lookup,hb];exact ih
theorem zdp(f:Str)(v:V):∀fs:List (Str×V),f∈(UK fs).map (·.1)∧∀g,g∈fs.map (·.1)→g∈(UK fs).map (·.1)
 |[]=>⟨by simp[putF],λg h=>by simp at h⟩
 |(k,x)::r=>by
  obtain⟨i1,i2⟩:=zdp f v r;rw[show UK ((k,x)::r)=(if k=f then(k,v)::r else(k,x)::UK r) from rfl];by_cases hk:k=f
  ·rw[Gh hk];subst hk;exact⟨DI,λg h=>by simpa using h⟩
  rw[Gm hk];refine⟨?_,λg h=>?_⟩
  ·rw[Ql];exact WD i1
  rw[Ql]at h ⊢;rcases Qi.mp h with e|e
  ·exact Qi.mpr (Gb e)
  exact WD (i2 g e)
theorem zd8(f:Str)(v:V):∀fs:List (Str×V),(UK fs).length≤fs.length+1
 |[]=>by simp[putF]
 |(k,x)::r=>by
  have ih:=zd8 f v r;rw[show UK ((k,x)::r)=(if k=f then(k,v)::r else(k,x)::UK r) from rfl];by_cases hk:k=f
  ·rw[if_pos hk,Zc,Zc];exact J9 _
  rw[if_neg hk,Zc,Zc];exact zar4 ‹_›
def RelO.some_of{v:V}{o:Option Value}(r:RelO (FX v) o):∃u,o=some u∧UG u:=by
 cases o with
 |none=>exact(show False from r).elim
 |some u=>exact⟨u,rfl,r⟩
def handed_of{v:V}{u:Value}(r:UG u):PySem.W.handedIn u=true:=by
 cases v with
 |non=>cases(show u=Value.none from r);rfl
 |bl b=>cases(show u=Value.bool b from r);rfl
 |int i=>obtain⟨t,e⟩:=(show ∃t,u=KU t from r);cases e;rfl
 |str x=>obtain⟨t,e⟩:=(show ∃t,u=WE t from r);cases e;rfl
 |byt b=>obtain⟨t,e⟩:=(show ∃t,u=Value.bytes b t from r);cases e;rfl
 |flt b=>obtain⟨t,e⟩:=(show ∃t,u=Value.float b t from r);cases e;rfl
 |ref a=>cases(show u=Value.ref a from r);rfl
 |ty n=>cases(show u=Value.type n from r);rfl
section
variable{P:Nk}{w:Nl}{H H':Hp}{h h':Np}{a C dx:Nc}{fs fs':List (Str×V)}
def ins_get(hok:WB h)(e:H a=some (.ins C dx fs)):∃mA,ObjM h a dx C mA∧(∀f,YC (mA f))∧YJ (fs.map (·.1))∧fs.length≤1000∧H dx=some (.own a):=by obtain⟨d,z,ne,ob,mA,n,r,q⟩:=(show WL a (.ins C dx fs) from hok a _ e);exact⟨mA,⟨ob,n,ne⟩,r,q,z,d⟩
end
structure Cls(K:Nb)(C:Nc):Prop where
 pg:MG Str.empty=true
 hd:B7 C=true
 po:B4 C=true
 sa:Z3 Gi "__setattr__" = some (FX (.builtin "object.__setattr__"))
def NoAttr(K:Nb)(C:Nc)(f:Str):Prop:=Z3 Gi f=some none
def NoAttr.taker{K:Nb}{C:Nc}{f:Str}(n:NoAttr K C f):MZ f=some none:=by unfold PySem.W.takerIn;rw[show Z3 Gi f=some none from n];rfl
section
variable{X:Cx}{a6:Nd}{σ:St}{H:Hp}{s:Nh}{a C dx:Nc}{fs:List (Str×V)}{f:Str}{v:V}{A:No}{E:Na}
def setattr_ok{y:V}{u:Value}{Q:Unit→Shared→Prop}(I:Fg)(e:H a=some (.ins C dx fs))(c:Cls X.K C)(n:NoAttr X.K C f)(hl:fs.length<1000)(ry:YN u)(h:∀s',ZA (ZQ a (.ins C dx (MH fs))) s'→Q () s'):wpAny DT A (setAttr Gq f u) Q E s:=by
 obtain⟨mA,O,r,wi,_,ho⟩:=ins_get I.hok e;have hz:(fs.map (·.1)).length≤sizeLine:=by rw[Qa,sizeLine_eq];lia
 refine set_map I.kIn O c.sa c.po n.taker c.hd wi hz λh' O' sb=>h _ ?_;have hd:∃o,h'.get? dx=some o:=let⟨o,_,_,e',_⟩:=O'.ns;⟨o,e'⟩;refine I.write (x:=a) (e:=dx) (by rw[e];exact True.intro) (G' ho) (λb q hb z=>(sb.2 b hb).trans z) hd ⟨by rw[zaf O.ne];exact ho,?_,O.ne,O'.obj,_,O'.ns,λg=>?_,λg hg=>?_⟩
 ·have:=zd8 f y fs;exact Zd ‹_› ‹_›
 ·show RelO ((MH fs).lookup g) (if g=f then some u else mA g);rw[zd5];by_cases q:g=f
  ·rw[if_pos q,if_pos q];exact ry
  rw[if_neg q,if_neg q];exact r g
 by_cases q:g=f
 ·rw[q];exact(NU fs).1
 refine (NU fs).2 g (wi g λz=>hg ?_);show(if g=f then some u else mA g)=none;rw[if_neg q];exact z
def Inv.made(I:Fg):ZA (upd (ZQ s.heap.objs.size (.own Fh)) Fh (.ins C s.heap.objs.size []))
  {s with heap:=(s.heap.push PySem.W.emptyDict).push (WH s.heap.objs.size)}:=by
 have e1:(s.heap.push PySem.W.emptyDict).get? s.heap.objs.size=some PySem.W.emptyDict:=Qy s.heap rfl;have e2:((s.heap.push PySem.W.emptyDict).push (WH s.heap.objs.size)).get? Fh=some (WH s.heap.objs.size):=by have:=Qy (s.heap.push PySem.W.emptyDict) (o:=WH s.heap.objs.size) rfl;rwa[Ub]at this
 have e3:(s.heap.push PySem.W.emptyDict).Ns s.heap.objs.size (λ_=>none):=⟨PySem.W.emptyDict,#[],_,e1,rfl,(λe he=>absurd he DI),λ_=>rfl⟩;have I1:=I.laid (a:=s.heap.objs.size) (o:=.own Fh) (h':=s.heap.push PySem.W.emptyDict) (t':=s.toks) (λb u q=>Q5 q) D9 ⟨_,e1⟩;refine I1.laid (a:=s.heap.objs.size+1) (o:=.ins C s.heap.objs.size []) (t':=s.toks) (λb u q=>Q5 q) (Nat.le_of_eq (Ub _ _)) ?_;have ne:s.heap.objs.size≠s.heap.objs.size+1:=Zm (Wa _);refine⟨by rw[zaf ne,zac],HY,ne,e2,λ_=>none,(Heap.Ns1.of_empty e3).at λo q=>Q5 q,λ_=>True.intro,λy hy=>absurd rfl hy⟩
def attr_of{prog:Nk}{w:Nl}{env:Env}{e:Expr}{f:Str}{pos:Pos}{s:Nh}{Q:Na}(hb:attributeBase e f env (eval e env)=eval e env)(h:ZG (eval e env) (λo s₁=>ZG (getAttr o f true) Q E s₁) E s):ZG (eval (.Attribute e f pos) env) Q E s:=
 Attribute_any_ h (by rw[arm_eval_Attribute,hb])
end
inductive RFs(K:Nb)(f:Str)(x y:V)(H:Hp)(N:Hp→Prop):Prop
 |mk(a C dx:Nc)(fs:List (Str×V))(e:x=.ref a)(h:H a=some (.ins C dx fs))(c:Cls K C)(n:NoAttr K C f)(l:fs.length<1000)(q:N (upd H a (.ins C dx (putF f y fs))))
def sFld(K:Nb)(ta tv:TE)(f:Str):TS:=λD σ H=>tv σ H λy H1=>ta σ H1 λx H2=>RFs K f x y H2 (D.nx σ)
section
variable{X:Cx}{o e value:Expr}{f:Str}{pos aT tpos:Pos}{ta tv:TE}
def ps_fld(ha:Z9 o ta)(hv:Z9 value tv)(hs:swapsWith value (FX (.Attribute o f aT)) pos.line X.env=pure false):X3 (.Assign [.Attribute o f aT] value pos) (sFld X.K ta tv f):=by intro a6 s σ H D I h;refine plainObj_wpAny_Assign_Attribute (thn (hv a6 s σ H _ I h) λu s1 ⟨y,H1,I1,ry,q⟩=>thn (ha a6 s1 σ H1 _ I1 q) λov s2 ⟨x,H2,I2,rx,a,C,dx,fs,ex,ea,c,n,l,q2⟩=>?_) hs;subst ex;obtain rfl:ov=Value.ref a:=rx;exact setattr_ok I2 ea c n l ry λs3 I3=>⟨σ,_,I3,q2⟩
structure Room(k:Nat)(A:No):Prop where
 hd:A.handled=none
 dp:A.depth+3*k+5<recursionLimit
 un:A.units+16*k+200<cLine
 gd:A.guards=some []
def Room.mono{j k:Nat}{A:No}(r:UV A)(h:j≤k):Room j A:=⟨r.hd,by have:=r.dp;lia,by have:=r.un;lia,r.gd⟩
def Room.deeper{k:Nat}{A:No}(r:Room (k+1) A)(env:Env):UV (A.deeper env):=
 ⟨r.hd,by have:=r.dp;show A.depth+1+3*k+5<_;lia,by have:=r.un;show A.units+3+16*k+200<_;lia,r.gd⟩
def make_depth{A:No}{C:Nc}{us:Ni}{kw:List (Str×Value)}:(A.under (.builtin "type.__call__" ⟨.ref C::us,kw⟩)).depth=A.depth+1:=by
 first|rfl|simp[Around.under,Code.weight,Code.isCreation,Code.isGuard,Code.isCaller,Code.frames,Code.isFrame,guardIds]
def make_units{A:No}{C:Nc}{us:Ni}{kw:List (Str×Value)}:(A.under (.builtin "type.__call__" ⟨.ref C::us,kw⟩)).units=A.units+1:=by
 first|rfl|simp[Around.under,Code.cUnits,Code.frames,Code.isFrame]
def make_guards{A:No}{C:Nc}{us:Ni}{kw:List (Str×Value)}:(A.under (.builtin "type.__call__" ⟨.ref C::us,kw⟩)).guards=A.guards:=by obtain⟨hd,d,fr,gs,u⟩:=A;cases gs<;>first|rfl|simp[Around.under,Code.guards,Code.isGuard,pushGuards,guardIds]
def Room.make{k:Nat}{A:No}(r:Room (k+1) A)(C:Nc)(us:Ni)(kw:GK (Str×Value)):UV (A.under (.builtin "type.__call__" ⟨.ref C::us,kw⟩)):=
 ⟨r.hd,by have:=r.dp;rw[make_depth];lia,by have:=r.un;rw[make_units];lia,by rw[make_guards];exact r.gd⟩
def Room.depth{k:Nat}{A:No}(r:UV A):A.depth<recursionLimit:=by have:=r.dp;lia
def Room.units{k:Nat}{A:No}(r:UV A):A.units+64<cLine:=by have:=r.un;lia
def tNil:TA:=λ_ H Q=>Q [] H
def tCons(ta:TE)(tr:TA):TA:=λ σ H Q=>ta σ H λx H1=>tr σ H1 λxs H2=>Q (x::xs) H2
variable{es:Nq}{te:TE}{t:TA}
def zae:Vj [] tNil:=λ_ _ _ _ H Q I h=>Calls.spliced_nil ⟨[],H,I,.nil,h⟩
def zaa(ha:Z9 e te)(hr:Vj es t)(hs:starEach (e::es) X.env=(false,FJ e)::starEach es X.env:=by rfl):Vj (e::es) (tCons te t):=by intro pos a6 s σ H Q I h;rw[hs];show ZY _ (spliced ((false,FJ e)::backTo pos Gx)) _ _ s;exact Calls.spliced_cons (thn Gg λu s1 ⟨x,H1,I1,r1,q1⟩=>thn (hr pos a6 s1 σ H1 _ I1 q1) λus s2 ⟨xs,H2,I2,r2,q2⟩=>⟨x::xs,H2,I2,.cons r1 r2,q2⟩)
def tTup(t:TA):TE:=λ σ H Q=>t σ H λxs H1=>xs.length≤sizeLine∧∀p,H1 p=none→Q HU (QG p Hm)
def tLst(t:TA):TE:=λ σ H Q=>t σ H λxs H1=>xs.length≤sizeLine∧∀p,H1 p=none→Q HU (QG p (DX xs))
def zdn{x1}(h:Vj es t):Z9 (.Tuple es x1 pos) (tTup t):=by intro a6 s σ H Q I hq;refine wpAny_Tuple_spliced (thn (h pos a6 s σ H _ I hq) λus s1 ⟨xs,H1,I1,r,z,q⟩=>⟨by rw[←r.length];exact z,?_⟩);have hf:H1 s1.heap.objs.size=none:=I1.hok.fresh D9;refine⟨.ref s1.heap.objs.size,QG s1.heap.objs.size Hm,I1.laid (t':=s1.toks) (λb u e=>Q5 e) D9 ?_,rfl,q _ hf⟩;exact⟨z,us,r,⟨_,Re,rfl,RV⟩⟩
def za6(h:Vj es t):Z9 (.List es pos) (tLst t):=by intro a6 s σ H Q I hq;refine wpAny_List_spliced (thn (h pos a6 s σ H _ I hq) λus s1 ⟨xs,H1,I1,r,z,q⟩=>⟨by rw[←r.length];exact z,?_⟩);have hf:H1 s1.heap.objs.size=none:=I1.hok.fresh D9;refine⟨.ref s1.heap.objs.size,QG s1.heap.objs.size (DX xs),I1.laid (t':=s1.toks) (λb u e=>Q5 e) D9 ?_,rfl,q _ hf⟩;exact⟨z,us,0,r,Re⟩
abbrev Sp:=List V→Hp→VK→XK→Prop
abbrev CXT:=List Env→Hp→Shared→XK→Value→Shared→Prop
end
structure Env0(P:Nk)(w:Nl)(K:Nb)(mg:Ng)(base:Np)(A:No)(outer:List Env)(s:Nh)(H:Hp):Prop where
 frames:A.frames=some outer
 mod:Mod K mg base
 bs:∀b o,base.get? b=some o→s.heap.get? b=some o∧H b=none
 bsz:base.objs.size≤s.heap.objs.size
 funs:s.heap.FunFrames base outer
 frf:∀b∈frs outer,H b=none
 hok:WB s.heap
 bare:AllBare s.gens
inductive CE(outer:List Env)(P:Nk)(w:Nl)(H:Hp)(s:Nh)(Q:VK)(u:Value)(s':Nh):Prop
 |mk(v:_)(H':_)(h0:s'.os=s.os)(h1:AllBare s'.gens)(h2:Un (frs outer) [] H H' s.heap s'.heap)(h3:HOk P w H' s'.heap)(h4:RelV v u)(h5:Q v H')
def CR(CX:CXT)(outer:List Env)(P:Nk)(w:Nl)(H:Hp)(s:Nh)(Q:VK)(E:XK)(r:Result)(s':Nh):Prop:=
 match r with
 |.ok (.ret u)=>MI s'
 |.ok _=>False
 |.error e=>CX outer H s E e s'
structure FnOk(P:Nk)(w:Nl)(K:Nb)(mg:Ng)(base:Np)(CX:CXT)(k:Nat)(f:Nc)(fd:Nu)(ps:Nj)(sp:Sp):Prop where
 len:∀vs H Q E,sp vs H Q E→vs.length=ps.length
 run:∀(A:No) (outer:List Env) (s:Nh) (H:Hp) (args:Args) (us:Ni) (vs:List V) (Q:VK) (E:XK),UV A→U8 H→JF args (ps.zip us)→Mb us→sp vs H Q E →
  codeAny (model P w) A (.call (DK f) args) (CR CX outer P w H s Q E) s
def FnOk.imp{P:Nk}{w:Nl}{K:Nb}{mg:Ng}{base:Np}{CX:CXT}{k:Nat}{f:Nc}{fd:Nu}{ps:Nj}{sp sp':Sp}(F:ZC CX k f fd ps sp)(h:∀vs H Q E,sp' vs H Q E→sp vs H Q E):ZC CX k f fd ps sp':=
 ⟨λvs H Q E q=>F.len vs H Q E (h _ _ _ _ q),λA outer s H args us vs Q E hr he hb hv hs=>F.run A outer s H args us vs Q E hr he hb hv (h _ _ _ _ hs)⟩
def Env0.make{P:Nk}{w:Nl}{K:Nb}{mg:Ng}{base:Np}{A:No}{outer:List Env}{s:Nh}{H:Hp}(e:U8 H)(C:Nc)(us:Ni)(kw:GK (Str×Value)) :
  Env0 P w K mg base (A.under (.builtin "type.__call__" ⟨.ref C::us,kw⟩)) outer s H:=⟨by first|exact e.frames|(simpa[Around.under,Code.envs,Code.isFrame,pushEnvs] using e.frames),e.mod,e.bs,e.bsz,e.funs,e.frf,e.hok,e.bare⟩
section
variable{X:Cx}{a6:Nd}{σ:St}{H:Hp}{s s':Nh}
def Inv.env0(I:Fg):Env0 X.prog X.w X.K X.mg X.base X.A X.stack s H:=
 ⟨I.ok.frames,I.ok.mod,I.bs,ME I.sz,I.stack,I.stkFree,I.hok,I.bare⟩
def Inv.after{Q:VK}{u:Value}(I:Fg)(h:CE X.stack X.prog X.w H s Q u s'):QB Q u s':=by obtain⟨v,H',os,bare,un,hok,r,q⟩:=h;obtain⟨hh,g,d,t,px⟩:=s';obtain rfl:px=s.os:=os;exact⟨v,H',I.call (h':=hh) (g':=g) (d':=d) (t':=t) (ch:=[]) un hok bare (λb z=>absurd z DI),r,q⟩
def tCall(sp:Sp)(dvs:List V)(E:XK)(t:TA):TE:=λ σ H Q=>t σ H λvs H1=>sp (vs++dvs) H1 Q E
def tMake(C:Nc)(sp:Sp)(dvs:List V)(E:XK)(t:TA):TE:=λ σ H Q=>t σ H λvs H1=>∀x dx,H1 x=none→H1 dx=none→dx≠x →
 sp (.ref x::(vs++dvs)) (upd (QG dx (.own x)) x (.ins C dx [])) (λv H2=>v=.non∧Q HK H2) E
def Binds(K:Nb)(fd:Nu)(ps:Nj)(ds:Ni):Prop:=
 ∀(s:Nh) (us:Ni),K.In s.heap→(us++ds).length=ps.length→JF ⟨us,[]⟩ (ps.zip (us++ds))
def Binds.all{K:Nb}{fd:Nu}{ps:Nj}(h:∀us:List Value,us.length=ps.length→bindArgs fd ⟨us,[]⟩=pure (ps.zip us)):Z8 fd ps []:=λs us _ hl=>by rw[Zu]at hl ⊢;exact .of_eq (h us hl)
def zhn(CX:CXT)(X:Cx)(E:XK):Prop:=∀(a6:Nd) (σ:St) (H:Hp) (s:Nh) (e:Value) (s':Nh),ZA H s→CX X.stack H s E e s'→X.xe e s'
variable{CX:CXT}{k:Nat}{f C:Nc}{fd:Nu}{ps:Nj}{sp:Sp}{dvs:List V}{ds:Ni}{E:XK}{x m:Str}{p pos apos:Pos}{e o:Expr}{es:Nq}{ta:TE}{t:TA}
def run_fn{a6:Nd}{σ:St}{H:Hp}{s:Nh}{Q:VK}{us:Ni}{vs:List V}(F:QQ sp)(hr:UV X.A)(hb:Br ds)(hd:MJ ds)(hx:MK E)(I:Fg)(r:Mb us)(h:sp (vs++dvs) H Q E):ZF (call (DK f) us) (QB Q) X.xe s:=by
 have r2:Vals (vs++dvs) (us++ds):=r.append hd;have hl:(us++ds).length=ps.length:=by rw[←r2.length];exact VS h
 refine wpAny_call (codeAny_mono (F.run X.A X.stack s H ⟨us,[]⟩ (us++ds) (vs++dvs) Q E hr I.env0 (hb s us I.kIn hl) r2 h) λr s' hq=>?_);cases r with
 |error e=>exact hx a6 σ H s e s' I hq
 |ok fl=>
  cases fl with
  |ret u=>exact I.after hq
  |next=>exact False.elim hq
  |brk=>exact False.elim hq
  |cont=>exact False.elim hq
def zan(F:QQ sp)(hr:UV X.A)(hg:VR x)(hm:X.mg x=some (DK f))(hk:PySem.W.keepIn X.K (DK f)=true)(hb:Br ds)(hd:MJ ds)(hx:MK E)(ha:Vj (e::es) t)(cX:Fu=false:=by decide)(he:starEach (e::es) X.env=(false,FJ e)::starEach es X.env:=by rfl)(bo:(backTo pos Gx).any (·.1)=false:=by rfl) :
  PE X (.Call (HH p) (e::es) [] pos) (tCall sp dvs E t):=by
 intro a6 s σ H Q I h;refine wpAny_Call_Name_kw (Bz ?_ cX);refine PySem.W.callWith_K (h₀:=X.base) I.ok.mod.kin hk (thn Hd λus s1 ⟨vs,H1,I1,r,q⟩=>⟨I1.kIn,?_⟩) he bo;exact run_fn F hr hb hd hx I1 r q
structure Mk(K:Nb)(C f:Nc):Prop where
 makes:X5 C=true
 init:Z3 Gi "__init__" = some (DQ f)
 fn:PySem.W.isFn K (DK f)=true
 kp:W1 Gi=true
def run_make{a6:Nd}{σ:St}{H:Hp}{s:Nh}{Q:VK}{us:Ni}{vs:List V}(M:Mk X.K C f)(F:QQ sp)(hr:Room (k+1) X.A)(hb:Br ds)(hd:MJ ds)(hx:MK E)(I:Fg)(r:Mb us)(h:∀x dx,H x=none→H dx=none→dx≠x→sp (.ref x::(vs++dvs)) (upd (ZQ dx (.own x)) x (.ins C dx [])) (λv H2=>v=.non∧Q HK H2) E) :
  wpAny DT X.A (call Gi us) (QB Q) X.xe s:=by
 have hq:=h Fh s.heap.objs.size (Hv (Jc _)) (Hv D9) (Zm (Wa _));have I2:=Inv.made (C:=C) I;have r2:Vals (V.ref Fh::(vs++dvs)) (Value.ref Fh::(us++ds)):=.cons rfl (r.append hd);have hl:(Value.ref Fh::us++ds).length=ps.length:=by have e:=r2.length;rw[VS hq]at e;exact e.symm
 refine wpAny_call (make_map (f:=f) I.kIn M.makes M.init (beq_iff_eq.mp M.fn) (codeAny_mono (F.run _ X.stack _ _ ⟨Value.ref Fh::us,[]⟩ (Value.ref Fh::(us++ds)) _ _ E (hr.make C us [])
  (I2.env0.make C us []) (hb _ (Value.ref Fh::us) I2.kIn hl) r2 hq) λr s' cM=>?_))
 cases r with
 |error e=>exact hx a6 σ _ _ e s' I2 cM
 |ok fl=>
  cases fl with
  |ret u=>obtain⟨v,H',I3,rv,ev,q3⟩:=I2.after cM;subst ev;exact⟨rv,⟨V.ref Fh,H',I3,rfl,q3⟩⟩
  |next=>exact False.elim cM
  |brk=>exact False.elim cM
  |cont=>exact False.elim cM
def pe_make(M:Mk X.K C f)(F:QQ sp)(hr:Room (k+1) X.A)(hg:VR x)(hm:X.mg x=some Gi)(hb:Br ds)(hd:MJ ds)(hx:MK E)(ha:Vj (e::es) t)(cX:Fu=false:=by decide)(he:starEach (e::es) X.env=(false,FJ e)::starEach es X.env:=by rfl)(bo:(backTo pos Gx).any (·.1)=false:=by rfl) :
  PE X (.Call (HH p) (e::es) [] pos) (tMake C sp dvs E t):=by
 intro a6 s σ H Q I h;refine wpAny_Call_Name_kw (Bz ?_ cX);refine PySem.W.callWith_K (h₀:=X.base) I.ok.mod.kin M.kp (thn Hd λus s1 ⟨vs,H1,I1,r,q⟩=>⟨I1.kIn,?_⟩) he bo;exact run_make M F hr hb hd hx I1 r q
end
structure zaw(N P:Nj)(sc:Scope):Prop where
 kind:sc.kind=.function
 co:sc.isCoroutine=false
 gen:sc.isGenerator=false
 nd:N.Nodup
 pre:N.take P.length=P
 par:∀x∈P,sc.names.lookup x=some .local∨sc.names.lookup x=some .cell
 nofree:∀y∈sc.names,y.2≠.free
theorem bindL_out{kindOf:Str→Option NameKind}{x:Str}:∀{binds:List (Str×Value)} {m:Ng},(∀v,(x,v)∉binds)→bindL kindOf binds m x=m x
 |[],_,_=>rfl
 | (n,v)::r,m,h=>by
  unfold bindL;rw[bindL_out λw hw=>h w (WD hw)];split
  ·have:x≠n:=by rintro rfl;exact h v Qe
   simp[this]
  rfl
theorem bindC_out{kindOf:Str→Option NameKind}{x:Str}:∀{binds:List (Str×Value)} {m:Ng},(∀v,(x,v)∉binds)→bindC kindOf binds m x=m x
 |[],_,_=>rfl
 |(n,v)::r,m,h=>by
  unfold bindC;rw[bindC_out λw hw=>h w (WD hw)];split
  ·rfl
  have:x≠n:=by rintro rfl;exact h v Qe
  simp[this]
theorem bindL_get{kindOf:Str→Option NameKind}{x:Str}{v:Value}:∀{P:Nj} {vs:Ni} {i:Nat} {m:Ng},P.Nodup→P[i]?=some x→vs[i]?=some v→kindOf x=some .local →
  bindL kindOf (P.zip vs) m x=some v
 |[],_,_,_,_,h,_,_=>by simp at h
 |_::_,[],_,_,_,_,h,_=>by simp at h
 |p::P,w::vs,0,m,nd,h1,h2,hk=>by simp at h1 h2;subst h1;subst h2;show bindL kindOf ((p,w)::P.zip vs) m p=_;unfold bindL;rw[bindL_out λv hv=>(Ze.mp nd).1 (List.of_mem_zip hv).1,if_pos hk];simp
 |p::P,w::vs,i+1,m,nd,h1,h2,hk=>by show bindL kindOf ((p,w)::P.zip vs) m x=_;unfold bindL;exact bindL_get (i:=i) (Ze.mp nd).2 (DJ h1) (DJ h2) hk
theorem bindC_get{kindOf:Str→Option NameKind}{x:Str}{v:Value}:∀{P:Nj} {vs:Ni} {i:Nat} {m:Ng},P.Nodup→P[i]?=some x→vs[i]?=some v→kindOf x≠some .local →
  bindC kindOf (P.zip vs) m x=some v
 |[],_,_,_,_,h,_,_=>by simp at h
 |_::_,[],_,_,_,_,h,_=>by simp at h
 |p::P,w::vs,0,m,nd,h1,h2,hk=>by simp at h1 h2;subst h1;subst h2;show bindC kindOf ((p,w)::P.zip vs) m p=_;unfold bindC;rw[bindC_out λv hv=>(Ze.mp nd).1 (List.of_mem_zip hv).1,if_neg hk];simp
 |p::P,w::vs,i+1,m,nd,h1,h2,hk=>by show bindC kindOf ((p,w)::P.zip vs) m x=_;unfold bindC;exact bindC_get (i:=i) (Ze.mp nd).2 (DJ h1) (DJ h2) hk
def start(N:Nj)(vs:List V):St:=vs.map some++List.replicate (N.length-vs.length) none
def cxOf(CX:CXT)(P:Nk)(w:Nl)(K:Nb)(mg:Ng)(base:Np)(N:Nj)(qual:Str)(scope:Scope)(f:Nc)(cd:Value)(A:No)(outer:List Env)(s:Nh)(H:Hp)(E:XK):Cx where
 prog:=P
 w:=w
 K:=K
 mg:=mg
 base:=base
 A:=A.deeper (Fl cd)
 N:=N
 s₀:=s
 H₀:=H
 env:=envOfC qual scope s.heap.objs.size f cd
 outer:=outer
 stack:=envOfC qual scope s.heap.objs.size f cd::outer
 ex:=[]
 calm:=true
 fn:=λ_=>true
 pn:=[]
 xe:=λe s'=>NS (A.deeper (Fl cd)) (leaving (Fl cd) e) (λ_ kK=>CX outer H s E e kK) (λe' kK=>CX outer H s E e' kK) s'
def cell_has{sc:Scope}{n:Nat}{x:Str}(h:sc.names.lookup x=some .cell):∃c,(cellsFrom n sc.names []).lookup x=some c:=by have q:=PySem.W.cellsFrom_some sc.names n [] (Gb h);exact Option.isSome_iff_exists.mp q
def inv_start{CX:CXT}{P:Nk}{w:Nl}{K:Nb}{mg:Ng}{base:Np}{N ps:Nj}{qual:Str}{scope:Scope}{f:Nc}{cd:Value}{A:No}{outer:List Env}{s s1:Nh}{H:Hp}{E:XK}{us:Ni}{vs:List V}(S:Vk scope)(hd:A.handled=none)(e0:U8 H)(hl:vs.length=ps.length)(r:Mb us)(x:InCallC s s.heap.objs.size (bindL (Fl cd).kindOf (ps.zip us) λ_=>none) (cellsFrom Fh scope.names []) (bindC (Fl cd).kindOf (ps.zip us) λ_=>none) s1) :
  Inv (QK cd A outer s H E) [] (X6 vs) H s1:=by
 have bo:ps.length≤N.length:=by have:=congrArg List.length S.pre;rw[Zi]at this;lia
 obtain⟨h1,tk,rfl,hk⟩:=x.done;have noA:∀b:Addr,b∉(QK cd A outer s H E).ex:=λb z=>absurd (show b∈([]:List Addr) from z) DI;refine⟨⟨e0.mod,S.kind,rfl,rfl,D9,λy z c h1 h2=>?_,λy hy=>?_,λy c _ h=>?_,λ_=>hd,Around.frames_deeper e0.frames,.inr ⟨rfl,rfl⟩,λb z=>absurd z (noA b),e0.bs,e0.bsz,λb _ _=>noA b,λb z=>absurd z (noA b),e0.funs,e0.frf⟩,
  rfl,e0.bare,Un.kept hk,⟨_,x.toInCall.ns,λi y v h1 h2 h3=>?_⟩,λy c h=>⟨_,x.cell y c h⟩,e0.hok.fresh D9,λy c h=>?_,λp hp=>absurd (show p∈([]:List (Addr×Obj)) from hp) DI,e0.hok.kept hk,?_⟩
 ·exact name_of_addr x.apart (Wy h1) (Wy h2)
 ·have hy:scope.names.lookup y=some .cell∨scope.names.lookup y=some .free:=hy;rcases hy with hy|hy
  ·exact cell_has hy
  exact absurd rfl (S.nofree _ (Wy hy))
 ·exact Zt (x.above y c (Wy h))
 ·have hi:i < vs.length:=by
   unfold start at h2;by_cases hi:i<vs.length
   ·exact hi
   rw[Uw (DJ hi)]at h2;rw[List.getElem?_replicate]at h2;split at h2<;>cases h2
  have ha:vs[i]?=some v:=by
   unfold start at h2;rw[Xe (DJ hi),Qr]at h2;cases e:vs[i]? with
   |none=>rw[e]at h2;cases h2
   |some a=>rw[e]at h2;cases h2;rfl
  obtain⟨u,hu,rv⟩:=r.get ha;have hp:ps[i]?=some y:=by rw[←S.pre,List.getElem?_take_of_lt (by exact zar7 ‹_› ‹_›)];exact h1
  have ndP:ps.Nodup:=by rw[←S.pre];exact S.nd.sublist (Jt _ _)
  refine⟨u,rv,?_⟩;rcases S.par y (Yy hp) with k|k
  ·exact .inl ⟨k,bindL_get ndP hp hu k⟩
  obtain⟨c,e⟩:=cell_has (n:=s.heap.objs.size+1) k;refine .inr ⟨Gb k,c,e,?_⟩;have q:=x.cell y c e;rw[bindC_get ndP hp hu (by show scope.names.lookup y≠_;rw[k];decide)]at q;exact q
 ·exact e0.hok.fresh (Zt (x.above y c (Wy h)))
 unfold start;show _=N.length;rw[Qk,Qa,List.length_replicate];lia
def fn_of{CX:CXT}{P:Nk}{w:Nl}{K:Nb}{mg:Ng}{base:Np}{k:Nat}{f:Nc}{name qual:Str}{params:Arguments}{body:List Stmt}{scope:Scope}{dV kV doc pm cdv ct oc:Value}{an od:Option Addr}{osl:Array GM}{N ps:Nj}{sp:Sp}(lk:K.lookup f=some ⟨oc,od,.func (UP ct),osl⟩)(aQ:J' cdv qual=true)(S:Vk scope)(len:∀vs H Q E,sp vs H Q E→vs.length=ps.length)(bv:∀ (A:No) (outer:List Env) (s:Nh) (H:Hp) (vs:List V) (Q:VK) (E:XK),UV (A.deeper (Fl cdv))→sp vs H Q E →
   ∃t,PSs (QK cdv A outer s H E) body t∧t {nx:=λ_ H'=>Q .non H',rt:=Q} (X6 vs) H) :
  FnOk P w K mg base CX (k+1) f (UP ct) ps sp:=by
 refine⟨len,λA outer s H args us vs Q E hr e0 hb r fS=>?_⟩;have hl:=len _ _ _ _ fS;have KX:K.In s.heap:=e0.mod.kin.keeps λb o e=>(e0.bs b o e).1;have lim:s.heap.NoLimit:=e0.mod.nolimit.keeps λb o e=>(e0.bs b o e).1;have dk:∀y∈ps.zip us,scope.names.lookup y.1=some .local∨(scope.names.lookup y.1=some .cell∧((cellsFrom Fh scope.names []).lookup y.1).isSome=true):=λ⟨n,v⟩ hy=>by
  rcases S.par n (List.of_mem_zip hy).1 with q|q
  ·exact .inl q
  exact .inr ⟨q,PySem.W.cellsFrom_some _ _ _ (Gb q)⟩
 refine codeAny_call_function hr.depth (KX _ _ lk) rfl S.co S.gen rfl (PySem.W.codeRec_of KX aQ) (hb _ _ _ _ (wpAny_newFunctionEnv_cells S.kind dk λenv he s1 x=>?_));subst he;refine⟨lim.keeps x.toInCall.keep,codeAny_func ?_⟩;obtain⟨t,ht,hq⟩:=bv A outer s H vs Q E (hr.deeper _) fS;have I:Vl [] (X6 vs) H s1:=inv_start S hr.hd e0 hl r x;refine wpAny_mono (ht [] s1 (X6 vs) H _ I hq) (λfl s' hs=>?_) λe s' hs=>hs;have fin:∀{σ':St} {H':Hp} {v:V} {u:Value},Vl [] σ' H' s'→UG u→Q v H'→MI s':=
  λ{σ' H' v u} J rv q=>⟨v,H',J.os,J.bare,J.base,J.hok,rv,q⟩
 cases fl with
 |ret u=>obtain⟨v,σ',H',J,rv,q⟩:=hs;exact fin J rv q
 |next=>obtain⟨σ',H',J,q⟩:=hs;exact fin (v:=V.non) (u:=Value.none) J rfl q
 |brk=>obtain⟨_,_,_,q⟩:=hs;exact False.elim q
 |cont=>obtain⟨_,_,_,q⟩:=hs;exact False.elim q
section
variable{X:Cx}{x:Str}{p pos:Pos}{e:Expr}{es:Nq}{t:TA}{id T:String}{r:List V→Hp→VK→Prop}
def tCB(r:List V→Hp→VK→Prop)(t:TA):TE:=λ σ H Q=>t σ H λvs H1=>r vs H1 Q
def zaj(hc:YL HI r)(hg:VR x)(hm:X.mg x=none)(hv:bootBuiltins x=some HI)(ha:Vj (e::es) t)(hn:x ≠ "__name__" :=by decide)(cX:Fu=false:=by decide)(he:starEach (e::es) X.env=(false,FJ e)::starEach es X.env:=by rfl)(bo:(backTo pos Gx).any (·.1)=false:=by rfl):Z9 (.Call (HH p) (e::es) [] pos) (tCB r t):=by intro a6 s σ H Q I h;refine wpAny_Call_Name_kw (JN hv ?_ hn cX);exact PyProof.Rows.callWith_builtin1 (thn Hd λus s1 ⟨vs,H1,I1,r1,q1⟩=>hc a6 s1 σ H1 vs us Q I1 r1 q1) he bo
def zc2(hc:YL (.type T) r)(hg:VR x)(hm:X.mg x=none)(hv:bootBuiltins x=some (.type T))(ha:Vj (e::es) t)(hn:x ≠ "__name__" :=by decide)(cX:Fu=false:=by decide)(he:starEach (e::es) X.env=(false,FJ e)::starEach es X.env:=by rfl)(bo:(backTo pos Gx).any (·.1)=false:=by rfl):Z9 (.Call (HH p) (e::es) [] pos) (tCB r t):=by intro a6 s σ H Q I h;refine wpAny_Call_Name_kw (JN hv ?_ hn cX);exact Xa (thn Hd λus s1 ⟨vs,H1,I1,r1,q1⟩=>hc a6 s1 σ H1 vs us Q I1 r1 q1) he bo
end
section
variable{κ:Type}[DecidableEq κ]
def valV(kvs:GK (κ×V))(k:κ):Option V:=(kvs.find? λkv=>decide (kv.1=k)).map (·.2)
def putK(kvs:GK (κ×V))(k:κ)(v:V):List (κ×V):=
 if(kvs.any λkv=>decide (kv.1=k))=true then kvs.map (λkv=>if kv.1=k then(kv.1,v) else kv) else kvs++[(k,v)]
def zc8{p:κ×V}{r:List (κ×V)}{k:κ}(e:p.1=k):valV (p::r) k=some p.2:=by simp[valV,Kc,e]
def zbz{p:κ×V}{r:List (κ×V)}{k:κ}(e:¬p.1=k):valV (p::r) k=valV r k:=by simp[valV,Kc,e]
theorem zht(k:κ):∀kvs:List (κ×V),(kvs.any λkv=>decide (kv.1=k))=(Bd k).isSome
 |[]=>rfl
 |p::r=>by
  rw[Kq];by_cases e:p.1=k
  ·simp only[zc8 e,decide_eq_true e,Bool.true_or,Option.isSome_some]
  rw[zbz e,decide_eq_false e,Bool.false_or];exact zht k r
def zd7(kvs:GK (κ×V))(k:κ)(v:V):(YO k v).length≤kvs.length+1:=by
 unfold putK;split
 ·rw[Qa];exact J9 _
 rw[Qk,Zc,Ja];exact Qd _
def zf4{kvs:List (κ×V)}{k:κ}(v:V)(h:Bd k=none):YO k v=kvs++[(k,v)]:=by unfold putK;rw[zht,h];exact if_neg DL
def RelO.isSome_eq{o:Option V}{u:Option Value}(r:RelO o u):o.isSome=u.isSome:=by
 cases o with
 |none=>cases u with
  |none=>rfl
  |some _=>exact(show False from r).elim
 |some _=>cases u with
  |none=>exact(show False from r).elim
  |some _=>rfl
def RelO.getD{o:Option V}{u:Option Value}{d:V}{d':Value}(r:RelO o u)(rd:RelV d d'):RelV (o.getD d) (u.getD d'):=by
 cases o with
 |none=>cases u with
  |none=>exact rd
  |some _=>exact(show False from r).elim
 |some _=>cases u with
  |none=>exact(show False from r).elim
  |some _=>exact r
def KV.val{kvs:List (κ×V)}{vs:List (κ×Value)}(r:Y4 vs)(k:κ):RelO (Bd k) (valueAt vs k):=by
 unfold KV at r;induction r with
 |nil=>exact True.intro
 | @cons p q ps qs h t ih=>
  obtain⟨h1,h2⟩:=h;by_cases e:p.1=k
  ·have e':q.1=k:=h1.symm.trans e;have b:valueAt (q::qs) k=some q.2:=by simp[valueAt,Kc,e']
   rw[zc8 e,b];exact h2
  have e':¬ q.1=k:=λz=>e (h1.trans z);have b:valueAt (q::qs) k=valueAt qs k:=by simp[valueAt,Kc,e']
  rw[zbz e,b];exact ih
def KV.any{kvs:List (κ×V)}{vs:List (κ×Value)}(r:Y4 vs)(k:κ):(kvs.any λkv=>decide (kv.1=k))=vs.any λkv=>decide (kv.1=k):=by
 unfold KV at r;induction r with
 |nil=>rfl
 |cons h t ih=>rw[Kq,Kq,ih,h.1]
def KV.repl{kvs:List (κ×V)}{vs:List (κ×Value)}(r:Y4 vs)(k:κ){y:V}{u:Value}(ry:YN u) :
  KV (kvs.map λkv=>if kv.1=k then(kv.1,y) else kv) (vs.map λkv=>if kv.1=k then(kv.1,u) else kv):=by
 unfold KV at r ⊢;induction r with
 |nil=>exact .nil
 |@cons p q ps qs h t ih=>
  rw[Ql,Ql];refine .cons ?_ ih;obtain⟨h1,h2⟩:=h;by_cases e:p.1=k
  ·rw[if_pos e,if_pos (h1.symm.trans e)];exact⟨h1,ry⟩
  rw[if_neg e,if_neg (λz=>e (h1.trans z))];exact⟨h1,h2⟩
def KV.put{kvs:List (κ×V)}{vs:List (κ×Value)}(r:Y4 vs)(k:κ){y:V}{u:Value}(ry:YN u):KV (YO k y) (stored vs k u):=by
 unfold putK stored;rw[r.any k];by_cases e:(vs.any λkv=>decide (kv.1=k))=true
 ·rw[if_pos e,if_pos e];exact r.repl k ry
 rw[if_neg e,if_neg e];exact Paired.snoc r ⟨rfl,ry⟩
def KV.length{kvs:List (κ×V)}{vs:List (κ×Value)}(r:Y4 vs):kvs.length=vs.length:=Yc r
end
def kV_is{P:Nk}{w:Nl}{k:Key}{u:Value}(r:RelV (kV k) u):(JK w).is k u=true:=by
 cases k with
 |inl i=>obtain⟨t,e⟩:=(show ∃t,u=KU t from r);subst e;exact mixKind_int P w i t
 |inr x=>obtain⟨t,e⟩:=(show ∃t,u=WE t from r);subst e;exact zgn P w x t
theorem items_are{P:Nk}{w:Nl}:∀{ks:List Key} {us:Ni},Vals (ks.map kV) us→ItemsAre (JK w) ks us
 |[],_,r=>by rw[List.map_nil]at r;cases r;exact .nil
 |k::ks,_,r=>by
  rw[Ql]at r;cases r with
  |cons h t=>exact .cons (kV_is h) (items_are t)
abbrev KT(H:Hp):List (List Key×V)→List (List Key×Addr×Value)→Prop:=Paired λp q=>p.1=q.1∧H q.2.1=some (.tup (p.1.map kV))∧MD q.2.2
def KT.val{H:Hp}{kvs:List (List Key×V)}{xs:List (List Key×Addr×Value)}(r:X7 xs)(k:List Key):RelO (Bd k) ((atKey xs k).map (·.2)):=by
 induction r with
 |nil=>exact True.intro
 | @cons p q ps qs h t ih=>
  obtain⟨h1,_,h2⟩:=h;by_cases e:p.1=k
  ·have e':q.1=k:=h1.symm.trans e;have b:atKey (q::qs) k=some q.2:=by simp[atKey,Kc,e']
   rw[zc8 e,b];exact h2
  have e':¬ q.1=k:=λz=>e (h1.trans z);have b:atKey (q::qs) k=atKey qs k:=by simp[atKey,Kc,e']
  rw[zbz e,b];exact ih
def KT.repl{H:Hp}{kvs:List (List Key×V)}{xs:List (List Key×Addr×Value)}(r:X7 xs)(k:List Key){y:V}{u:Value}(ry:YN u) :
  KT H (kvs.map λkv=>if kv.1=k then(kv.1,y) else kv) (xs.map (putAt k u)):=by
 induction r with
 |nil=>exact .nil
 |@cons p q ps qs h t ih=>
  rw[Ql,Ql];refine .cons ?_ ih;obtain⟨h1,h2,h3⟩:=h;unfold putAt;by_cases e:p.1=k
  ·rw[if_pos e,if_pos (h1.symm.trans e)];exact⟨h1,h2,ry⟩
  rw[if_neg e,if_neg (λz=>e (h1.trans z))];exact⟨h1,h2,h3⟩
def KT.put{H:Hp}{kvs:List (List Key×V)}{xs:List (List Key×Addr×Value)}(r:X7 xs)(k:List Key){b:Nc}{y:V}{u:Value}(hb:H b=some RJ)(ry:YN u) :
  KT H (YO k y) (storedH xs k b u):=by
 have e:(kvs.any λkv=>decide (kv.1=k))=(atKey xs k).isSome:=by rw[zht,(r.val k).isSome_eq,Option.isSome_map]
 unfold putK storedH;rw[e];by_cases q:(atKey xs k).isSome=true
 ·rw[if_pos q,if_pos q];exact r.repl k ry
 rw[if_neg q,if_neg q];exact Paired.snoc r ⟨rfl,hb,ry⟩
def KT.keeps{H H':Hp}{kvs:List (List Key×V)}{xs:List (List Key×Addr×Value)}(r:X7 xs)(ht:∀b ys,H b=some (.tup ys)→H' b=some (.tup ys)):KT H' kvs xs:=
 Paired.mapP r λ_ _ z=>⟨z.1,ht _ _ z.2.1,z.2.2⟩
section
variable{P:Nk}{w:Nl}{H:Hp}{h:Np}{a:Nc}
def rd_of{u:HO}(ok:WB h)(e:KL u):WL a u:=e.ok ok
def dk_rd{kvs:List (Key×V)}(ok:WB h)(e:KL Gz):kvs.length≤sizeLine∧(a==sysModules)=false∧∃vs,Y4 vs∧h.DictOf (JK w) a vs:=
 show WL a Gz from rd_of ok e
def dk_of{kvs:List (Key×V)}(ok:WB h)(e:H a=some Gz):kvs.length≤sizeLine∧(a==sysModules)=false∧∃vs,Y4 vs∧h.DictOf (JK w) a vs:=dk_rd ok (Gb e)
def key_of{ks:List Key}(ok:WB h)(e:H a=some (.tup (ks.map kV))):(tupleKind (JK w)).is h ks a:=by obtain⟨_,a8,r,o,h1,h2,n,h3⟩:=(show WL a (.tup (ks.map kV)) from ok a _ e);exact⟨o,a8.toArray,n,h1,h2,h3,by simpa using items_are r⟩
def dt_rd{kvs:List (List Key×V)}(ok:WB h)(e:KL Rk):kvs.length≤sizeLine∧(a == sysModules)=false ∧
  ∃xs,X7 xs∧h.DictOfH (tupleKind (JK w)) a xs:=by
 obtain⟨z,y,xs,r,o,es,ep,h1,h2,h3,h4,h5⟩:=(show WL a Rk from rd_of ok e);refine⟨z,y,xs,r,o,es,ep,h1,h2,h3,h4,λx hx=>?_,h5⟩;have all:∀{l:List (List Key×V)} {m:List (List Key×Addr×Value)},KT H l m→∀x∈m,(tupleKind (JK w)).is h x.1 x.2.1:=by
  intro l m q;induction q with
  |nil=>intro x hx;exact nomatch hx
  |@cons p q ps qs hq t ih=>
   intro x hx;rcases Qi.mp hx with e|hx
   ·subst e;exact key_of ok (by rw[←hq.1];exact hq.2.1)
   exact ih x hx
 exact all r x hx
def dt_of{kvs:List (List Key×V)}(ok:WB h)(e:H a=some Rk):kvs.length≤sizeLine∧(a==sysModules)=false ∧
  ∃xs,X7 xs∧h.DictOfH (tupleKind (JK w)) a xs:=dt_rd ok (Gb e)
def DGet(H:Hp)(a:Nc)(y:V)(r:Option V):Prop:=
 (∃kvs k,KL Gz∧y=kV k∧r=Bd k)∨∃kvs k b,KL Rk∧y=.ref b∧H b=some RJ∧r=Bd k
def DPut(H:Hp)(a:Nc)(y v:V)(H':Hp):Prop:=
 (∃kvs k,H a=some Gz∧y=kV k∧kvs.length<sizeLine∧H'=ZQ a (.dK (YO k v))) ∨
 ∃kvs k b,H a=some Rk∧y=.ref b∧H b=some RJ∧kvs.length<sizeLine∧H'=ZQ a (.dT (YO k v))
def DGet.k{H:Hp}{a:Nc}{kvs:List (Key×V)}{k:Key}(e:H a=some Gz):X8 (kV k) (Bd k):=.inl ⟨kvs,k,Gb e,rfl,rfl⟩
def DGet.t{H:Hp}{a b:Nc}{kvs:List (List Key×V)}{k:List Key}(e:H a=some Rk)(eb:H b=some RJ):X8 (DK b) (Bd k):=.inr ⟨kvs,k,b,Gb e,rfl,eb,rfl⟩
def DPut.k{H:Hp}{a:Nc}{kvs:List (Key×V)}{k:Key}{v:V}(e:H a=some Gz)(hl:kvs.length<sizeLine):DPut H a (kV k) v (ZQ a (.dK (YO k v))):=.inl ⟨kvs,k,e,rfl,hl,rfl⟩
def DPut.t{H:Hp}{a b:Nc}{kvs:List (List Key×V)}{k:List Key}{v:V}(e:H a=some Rk)(eb:H b=some RJ)(hl:kvs.length<sizeLine) :
  DPut H a (DK b) v (ZQ a (.dT (YO k v))):=.inr ⟨kvs,k,b,e,rfl,eb,hl,rfl⟩
variable{X:Cx}{a6:Nd}{σ:St}{s:Nh}{y v:V}{u r:Value}{o:Option V}{A:No}{E:Na}
def Inv.big(I:Fg):sysModules<s.heap.objs.size:=by have h:mainGlobals<s.heap.objs.size:=(I.mod.glob.keeps I.bk).lt;exact Wq DL h
def d_getItem{Q:Na}(hu:A.units+1<cLine)(I:Fg)(g:X8 y (FX v))(ry:YN u)(h:∀w' s',ZA H s'→UG w'→Q w' s') :
  wpAny DT A (getItem Gq u) Q E s:=by
 rcases g with⟨kvs,k,e,ey,l⟩|⟨kvs,k,b,e,ey,eb,l⟩
 ·subst ey;obtain⟨z,hd,vs,rel,dd⟩:=BC e;obtain⟨w',hw,bA⟩:=RelO.some_of (v:=v) (o:=valueAt vs k) (by rw[l];exact rel.val k);exact wpAny_getItem_of (kV_is ry) dd.mapOf hw (h w' _ Gr bA)
 subst ey;cases(show u=Value.ref b from ry);obtain⟨z,hd,xs,rel,dd⟩:=BD e;obtain⟨w',hw,bA⟩:=RelO.some_of (v:=v) (o:=(atKey xs k).map (·.2)) (by rw[l];exact rel.val k);obtain⟨p,hp,aF⟩:=Option.map_eq_some_iff.mp hw;refine wpAny_getItem_heap RH (X9 eb) dd hp ?_;rw[aF];exact h w' _ Gr bA
def d_notIn{Q:Na}(hu:A.units+1<cLine)(I:Fg)(g:X8 y o)(ry:YN u)(h:∀s',ZA H s'→Q (.bool (!o.isSome)) s') :
  wpAny DT A (compareOp .NotIn u Gq) Q E s:=by
 rcases g with⟨kvs,k,e,ey,l⟩|⟨kvs,k,b,e,ey,eb,l⟩
 ·subst ey;obtain⟨z,hd,vs,rel,dd⟩:=BC e;refine wpAny_notIn_of (kV_is ry) hd dd.mapOf ?_;rw[←(rel.val k).isSome_eq,←l];exact h _ Gr
 subst ey;cases(show u=Value.ref b from ry);obtain⟨z,hd,xs,rel,dd⟩:=BD e;refine wpAny_notIn_heap RH (X9 eb) hd dd ?_;have q:=(rel.val k).isSome_eq;rw[Option.isSome_map]at q;rw[←q,←l];exact h _ Gr
def d_write{h':Np}{t':Nat}{ob:HO}(I:Fg)(mu:Mut (H a))(hs:Bw h')(he:∃q,h'.get? a=some q)(new:QC (ZQ a ob) h' a ob) :
  Inv X a6 σ (ZQ a ob) {s with heap:=h',toks:=t'}:=
 I.write (x:=a) (e:=a) mu Fq (λb q hb z=>(hs.2 b hb).trans z) he new
def dk_new{P:Nk}{w:Nl}{H':Hp}{h':Np}{kvs:List (Key×V)}{vs:List (Key×Value)}(z:kvs.length≤sizeLine)(hd:(a==sysModules)=false)(rel:Y4 vs)(dd:h'.DictOf (JK w) a vs) :
  zbn P w H' h' a Gz:=⟨z,hd,vs,rel,dd⟩
def d_setItem{H':Hp}{Q:Unit→Shared→Prop}(hu:A.units+1<cLine)(I:Fg)(g:DPut H a y v H')(ry:YN u)(rv:UG r)(h:∀s',ZA H' s'→Q () s') :
  wpAny DT A (setItem Gq u r) Q E s:=by
 rcases g with⟨kvs,k,e,ey,l,eH⟩|⟨kvs,k,b,e,ey,eb,l,eH⟩
 ·subst ey eH;obtain⟨z,hd,vs,rel,dd⟩:=dk_of I.hok e;have hz:vs.length≤sizeLine:=by rw[←rel.length];exact z
  have hl:(YO k v).length≤sizeLine:=by have:=zd7 kvs k v;exact Zd ‹_› ‹_›
  refine wpAny_setItem_pairs (hsz:=hz) (kV_is ry) dd λh' jC hs=>h _ ?_;have he:∃q,h'.get? a=some q:=let⟨q,_,_,hq,_⟩:=jC;⟨q,hq⟩;exact d_write I (by rw[e];exact True.intro) hs he (dk_new hl hd (rel.put k rv) jC)
 subst ey eH;cases(show u=Value.ref b from ry);obtain⟨z,hd,xs,rel,dd⟩:=dt_of I.hok e;have hz:xs.length≤sizeLine:=by rw[←Yc rel];exact z
 have hl:(YO k v).length≤sizeLine:=by have:=zd7 kvs k v;exact Zd ‹_› ‹_›
 refine wpAny_setItem_heap (hsz:=hz) RH (X9 eb) dd λh' jC hs=>h _ ?_;obtain⟨q,es,ep,hq,h2,h3,h4,_,h5⟩:=jC;refine d_write I (by rw[e];exact True.intro) hs ⟨q,hq⟩ ⟨hl,hd,_,(rel.put k eb rv).keeps λc ys ec=>?_,q,es,ep,hq,h2,h3,h4,h5⟩;rw[zaf (zbf ec e (λz=>nomatch z))];exact ec
def NoSl(i:Expr):Prop:=∀ov iv,subscripted i false ov iv=operate [ov,iv] (getItem ov iv)
end
def subD_of{prog:Nk}{w:Nl}{A:No}{E:Na}{s:Nh}{env:Env}{value slice:Expr}{pos:Pos}{T id:String}{Q:Na}(hl:typeLookup (.type T) "__getitem__" = pure (FX HI))(hs:NoSl slice)(h:ZG (eval value env) (λo s₁=>ZG (eval slice env) (λi s₂=>s₂.TypeIs o T∧ZG (getItem o i) Q E s₂) E s₁) E s) :
  wpAny D7 A (eval (.Subscript value slice pos) env) Q E s:=by
 refine Subscript_ (V' (λo s₁ h₁=>K5 (λi s₂ h₂=>?_) λ_ _ x=>x) λ_ _ x=>x);obtain⟨hT,h₂⟩:=h₂;unfold subscriptTail;refine wpAny_bind ?_;rw[getitemInPython_of_ne hT.not_modules];refine wpAny_bind (wpAny_specialOf hT hl ?_);have fin:ZG (subscripted slice false o i) (λr s₃=>ZG (letTemporaryGo value o r >>= λ_=>pure r) Q E s₃) E s₂:=by rw[hs o i];exact wpAny_operating (K6 (λr s₃ h₃=>wpAny_bind (wpAny_letTemporaryGo (FA h₃))) λ_ _ x=>x)
 first
  |exact wpAny_pure (wpAny_bind fin)
  |exact wpAny_bind (wpAny_pure (wpAny_bind fin))
  |exact wpAny_bind fin
def dict_typeIs{X:Cx}{a6:Nd}{σ:St}{H:Hp}{s:Nh}{a:Nc}{y:V}{o:Option V}(I:Fg)(g:X8 y o):s.TypeIs Gq "dict" :=by
 rcases g with⟨kvs,k,e,_,_⟩|⟨kvs,k,b,e,_,_,_⟩
 ·obtain⟨_,_,vs,_,dd⟩:=BC e;exact dd.typeIs
 obtain⟨_,_,xs,_,dd⟩:=BD e;exact dd.typeIs
inductive RDG(x y:V)(H:Hp)(Q:VK):Prop
 |mk(a:Nc)(v:V)(e:x=.ref a)(g:DGet H a y (some v))(q:Q v H)
inductive RDI(x y:V)(H:Hp)(R:Option V→Prop):Prop
 |mk(a:Nc)(o:Option V)(e:x=.ref a)(g:DGet H a y o)(q:R o)
inductive RDP(x y v:V)(H:Hp)(N:Hp→Prop):Prop
 |mk(a:Nc)(H4:Hp)(e:x=.ref a)(p:DPut H a y v H4)(q:N H4)
def tDGet(td ty:TE):TE:=λ σ H Q=>td σ H λx H1=>ty σ H1 λy H2=>RDG x y H2 Q
def tDNotIn(ty td:TE):TE:=λ σ H Q=>ty σ H λy H1=>td σ H1 λx H2=>RDI x y H2 λo=>Q (.bl (!o.isSome)) H2
def sDPut(td ty tv:TE):TS:=λD σ H=>tv σ H λv H1=>td σ H1 λx H2=>ty σ H2 λy H3=>RDP x y v H3 (D.nx σ)
section
variable{X:Cx}{o i e value:Expr}{pos aT tpos:Pos}{td ty tv:TE}
def pe_dget(hu:X.A.units+1<cLine)(ho:Z9 o td)(hi:Z9 i ty)(hs:NoSl i):Z9 (RG o i) (tDGet td ty):=by intro a6 s σ H Q I h;refine subD_of PySem.F.slot_dict_getitem.lookup hs (thn Rb λu s1 ⟨x,H1,I1,rx,q1⟩=>thn (hi a6 s1 σ H1 _ I1 q1) λiv s2 ⟨y,H2,I2,ry,a,v,ex,g,q2⟩=>?_);subst ex;obtain rfl:u=Value.ref a:=rx;exact⟨dict_typeIs I2 g,d_getItem hu I2 g ry λw' s3 I3 bA=>⟨v,H2,I3,bA,q2⟩⟩
def zgf(hu:X.A.units+1<cLine)(hi:Z9 i ty)(ho:Z9 o td):PC X .NotIn i o (tDNotIn ty td):=by intro a6 s σ H Q I h;refine thn Rc λiv s1 ⟨y,H1,I1,ry,q1⟩=>thn (ho a6 s1 σ H1 _ I1 q1) λu s2 ⟨x,H2,I2,rx,a,ov,ex,g,q2⟩=>?_;subst ex;obtain rfl:u=Value.ref a:=rx;exact d_notIn hu I2 g ry λs3 I3=>⟨.bl (!ov.isSome),H2,I3,rfl,q2⟩
def zh7(hu:X.A.units+1<cLine)(ho:Z9 o td)(hi:Z9 i ty)(hv:Z9 value tv)(hs:swapsWith value (FX (.Subscript o i aT)) pos.line X.env=pure false) :
  PS X (.Assign [.Subscript o i aT] value pos) (sDPut td ty tv):=by
 intro a6 s σ H D I h;refine wpAny_Assign_Subscript (thn (hv a6 s σ H _ I h) λr s1 ⟨v,H1,I1,rv,q1⟩=>thn (ho a6 s1 σ H1 _ I1 q1) λu s2 ⟨x,H2,I2,rx,q2⟩=>thn (hi a6 s2 σ H2 _ I2 q2) λiv s3 ⟨y,H3,I3,ry,a,H4,ex,g,q3⟩=>?_) hs;subst ex;obtain rfl:u=Value.ref a:=rx;exact d_setItem hu I3 g ry rv λs4 I4=>⟨σ,H4,I4,q3⟩
def dk_empty{P:Nk}{w:Nl}{H:Hp}(h:Np)(hb:sysModules<h.objs.size):YD H (h.push {cls:=.type "dict",data:=.dict #[]}) h.objs.size (.dK []):=
 ⟨HY,beq_eq_false_iff_ne.mpr (Zj (Zm hb)),[],.nil,Heap.DictOf.new h⟩
def dt_empty{P:Nk}{w:Nl}{H:Hp}(h:Np)(hb:sysModules<h.objs.size):YD H (h.push {cls:=.type "dict",data:=.dict #[]}) h.objs.size (.dT []):=
 ⟨HY,beq_eq_false_iff_ne.mpr (Zj (Zm hb)),[],.nil,_,#[],0,Re,⟨rfl,rfl,rfl⟩,rfl,rfl,Yh⟩
def tDNewK:TE:=λ_ H Q=>∀p,H p=none→Q HU (ZQ p (.dK []))
def tDNewT:TE:=λ_ H Q=>∀p,H p=none→Q HU (ZQ p (.dT []))
def pe_dnewK:Z9 (.Dict [] [] pos) tDNewK:=λa6 s σ H Q I h=>wpAny_Dict_empty ⟨D6,_,I.laid (a:=s.heap.objs.size) (o:=.dK []) (t':=s.toks) (λ_ _ q=>Q5 q) D9 (dk_empty s.heap I.big),rfl,h _ (Hv D9)⟩
def pe_dnewT:Z9 (.Dict [] [] pos) tDNewT:=λa6 s σ H Q I h=>wpAny_Dict_empty ⟨D6,_,I.laid (a:=s.heap.objs.size) (o:=.dT []) (t':=s.toks) (λ_ _ q=>Q5 q) D9 (dt_empty s.heap I.big),rfl,h _ (Hv D9)⟩
end
def tPairs:List (TE×TE)→St→Hp→(List (V×V)→Hp→Prop)→Prop
 |[],_,H,Q=>Q [] H
 |(tk,tv)::r,σ,H,Q=>tk σ H λx H1=>tv σ H1 λy H2=>tPairs r σ H2 λps H3=>Q ((x,y)::ps) H3
abbrev VV:List (V×V)→List (Value×Value)→Prop:=Paired λp q=>RelV p.1 q.1∧MD q.2
def PPs(X:Cx)(pos:Pos)(keys:GK (Option Expr))(values:Nq)(trs:GK (TE×TE)):Prop:=
 ∀(a6:Nd) (s:Nh) (σ:St) (H:Hp) (Q:List (V×V)→Hp→Prop),ZA H s→tPairs trs σ H Q →
  wpAny DT X.A (evalPairs (pairTrees keys values X.env pos)) (λvs s'=>∃ps H',ZA H' s'∧VV ps vs∧Q ps H') X.xe s
def pps_nil{X:Cx}{pos:Pos}:Do [] [] []:=λa6 s σ H Q I h=>pairTrees_nil_walk ⟨[],H,I,.nil,h⟩
def pps_cons{X:Cx}{pos:Pos}{k v:Expr}{ks:List (Option Expr)}{vs:Nq}{tk tv:TE}{trs:List (TE×TE)}(hk:Z9 k tk)(hv:Z9 v tv)(hr:Do ks vs trs) :
  PPs X pos (some k::ks) (v::vs) ((tk,tv)::trs):=λa6 s σ H Q I h=>
 pairTrees_cons_walk (thn (hk a6 s σ H _ I h) λu s1 ⟨x,H1,I1,rx,q1⟩=>thn (hv a6 s1 σ H1 _ I1 q1) λw2 s2 ⟨y,H2,I2,ry,q2⟩=>thn (hr a6 s2 σ H2 _ I2 q2) λws s3 ⟨ps,H3,I3,rel,q3⟩=>⟨(x,y)::ps,H3,I3,.cons ⟨rx,ry⟩ rel,q3⟩)
def zhg(kvs more:GK (Key×V)):List (Key×V):=more.foldl (λai kv=>putK ai kv.1 kv.2) kvs
def KV.merge:∀{more:List (Key×V)} {rs:List (Key×Value)} {kvs:List (Key×V)} {vs:List (Key×Value)},KV more rs→Y4 vs→KV (zhg kvs more) (merged vs rs):=by
 intro more rs kvs vs r;unfold KV at r;induction r generalizing kvs vs with
 |nil=>intro q;exact q
 |@cons p q ps qs h t ih=>
  intro r0;have e:KV (YO p.1 p.2) (stored vs q.1 q.2):=by have:=r0.put p.1 h.2;rw[←h.1];exact this
  exact ih e
theorem zer:∀(more kvs:GK (Key×V)),(zhg kvs more).length≤kvs.length+more.length
 |[],kvs=>by show kvs.length≤kvs.length+0;exact Qd _
 |p::r,kvs=>by have h1:=zer r (YO p.1 p.2);have h2:=zd7 kvs p.1 p.2;show(zhg (YO p.1 p.2) r).length≤_;rw[Zc];lia
theorem zhl{P:Nk}{w:Nl}:∀{kvs:List (Key×V)} {ws:List (Value×Value)},VV (kvs.map λkv=>(kV kv.1,kv.2)) ws→∃rs,Carries (JK w) ws rs∧Y4 rs
 |[],_,r=>by rw[List.map_nil]at r;cases r;exact⟨[],True.intro,.nil⟩
 |p::kvs,_,r=>by
  rw[Ql]at r;cases r with
  |@cons a b as bs h t=>obtain⟨rs,c,q⟩:=zhl (P:=P) (w:=w) t;obtain⟨b1,b2⟩:=b;exact⟨(p.1,b2)::rs,⟨kV_is h.1,rfl,c⟩,.cons ⟨rfl,h.2⟩ q⟩
def tDisp(trs:GK (TE×TE)):TE:=λ σ H Q=>∀p,H p=none→tPairs trs σ (ZQ p (.dK [])) λps H2=>H2 p=some (.dK [])∧∃kvs:List (Key×V),ps=kvs.map (λkv=>(kV kv.1,kv.2))∧kvs.length≤15∧Q HU (QW p (.dK (zhg [] kvs)))
def pe_disp{X:Cx}{pos:Pos}{keys:List (Option Expr)}{values:Nq}{trs:List (TE×TE)}(h:Do keys values trs)(cC:keys.all (·.isSome)=true)(hl:keys.length=values.length)(h0:keys≠[])(h15:keys.length≤15):Z9 (.Dict keys values pos) (tDisp trs):=by
 intro a6 s σ H Q I q;have hn:=I.hok.fresh (Qd s.heap.objs.size);have I1:=I.laid (a:=s.heap.objs.size) (o:=.dK []) (h':=s.heap.push {cls:=.type "dict",data:=.dict #[]}) (t':=s.toks) (λ_ _ q=>Q5 q) D9 (dk_empty s.heap I.big);refine wpAny_Dict_walk (knd:=QV X.w) cC hl h0 h15 (thn (h a6 _ σ _ _ I1 (q _ hn)) λws s2 ⟨ps,H2,I2,rel,e,kvs,ep,lk,q2⟩=>?_);subst ep;obtain⟨rs,c,rk⟩:=zhl (P:=X.prog) (w:=X.w) rel;obtain⟨z,hd,vs0,r0,dd⟩:=dk_of I2.hok e;cases r0;refine⟨rs,c,dd,λh' jC hs=>⟨D6,_,?_,rfl,q2⟩⟩;have hz:(zhg [] kvs).length≤sizeLine:=by have h1:=zer kvs [];rw[Ja]at h1;rw[sizeLine_eq];lia
 have he:∃q,h'.get? s.heap.objs.size=some q:=let⟨q,_,_,hq,_⟩:=jC;⟨q,hq⟩;exact d_write I2 (by rw[e];exact True.intro) hs he (dk_new hz hd (rk.merge .nil) jC)
structure M2(X:Cx)(o:Expr)(m:Str)(apos:Pos)(e f:Expr)(cpos:Pos):Prop where
 base:attributeBase o m X.env (FJ o)=eval o X.env
 few:((backTo cpos (starEach [e,f] X.env)).all (λx=>!x.1)&&(backToKw cpos (keywordEach [] X.env)).all (λx=>x.1.isSome)
  && decide (([e,f]:List Expr).length+([]:List Keyword).length+(if([]:List Keyword).isEmpty then 0 else 1)<30))=true
 line:(apos.endLine==cpos.line)=true
 trees:backTo cpos (starEach [e,f] X.env)=[(false,FJ e),(false,FJ f)]
def IsD(H:Hp)(a:Nc):Prop:=(∃kvs,KL Gz)∨∃kvs,KL Rk
def isD_at{X:Cx}{a6:Nd}{σ:St}{H:Hp}{s:Nh}{a:Nc}(I:Fg)(d:IsD H a) :
  s.TypeIs Gq "dict" ∧ (∀b,Value.ref a=.ref b→∃ob,s.heap.get? b=some ob∧ob.dict=none)∧(a==sysModules)=false:=by
 rcases d with⟨kvs,e⟩|⟨kvs,e⟩
 ·obtain⟨_,hd,vs,_,dd⟩:=BC e;refine⟨dd.typeIs,λb q=>?_,hd⟩;cases q;obtain⟨ob,_,_,h1,h2,_⟩:=dd;exact⟨ob,h1,h2.2.1⟩
 obtain⟨_,hd,xs,_,dd⟩:=BD e;refine⟨dd.typeIs,λb q=>?_,hd⟩;cases q;obtain⟨ob,_,_,h1,h2,_⟩:=dd;exact⟨ob,h1,h2.2.1⟩
section
variable{X:Cx}{a6:Nd}{σ:St}{H:Hp}{s:Nh}{a:Nc}{y d:V}{u r:Value}{o:Option V}{A:No}{E:Na}
def d_get2{Q:Na}(hu:A.units+1<cLine)(I:Fg)(g:X8 y o)(ry:YN u)(rd:RelV d r)(h:∀w' s',ZA H s'→RelV (o.getD d) w'→Q w' s') :
  wpAny DT A (call (.builtin "dict.get") [Gq,u,r]) Q E s:=by
 rcases g with⟨kvs,k,e,ey,l⟩|⟨kvs,k,b,e,ey,eb,l⟩
 ·subst ey;obtain⟨z,hd,vs,rel,dd⟩:=BC e;refine call_meetsIn Ba dd.typeIs PySem.F.entry_dict_get (K9 _) (meets_dict_get_default Ru a (kV_is ry) hd r) ⟨_,dd.mapOf,h _ _ Gr ?_⟩;rw[l];exact(rel.val k).getD rd
 subst ey;cases(show u=Value.ref b from ry);obtain⟨z,hd,xs,rel,dd⟩:=BD e;refine call_meetsIn Ba dd.typeIs PySem.F.entry_dict_get (K9 _) (meetsH_dict_get_default (tupleKind Ru) a b hd r) ⟨RH,k,xs,X9 eb,dd,h _ _ Gr ?_⟩;rw[l];exact(rel.val k).getD rd
def tDGet2(td ty tx:TE):TE:=λ σ H Q=>td σ H λx H1=>∃a,x=.ref a∧IsD H1 a∧ty σ H1 λy H2=>tx σ H2 λz H3=>∃o,DGet H3 a y o∧Q (o.getD z) H3
end
section
variable{X:Cx}{o e f:Expr}{apos cpos:Pos}{td ty tx:TE}
def pe_dget2(hu:X.A.units+1<cLine)(ho:Z9 o td)(he:Z9 e ty)(hf:Z9 f tx)(m:M2 X o "get" apos e f cpos):Z9 (.Call (.Attribute o "get" apos) [e,f] [] cpos) (tDGet2 td ty tx):=by intro a6 s σ H Q I h;refine wpAny_Call_method m.base m.few m.line PySem.F.plainAttrs_dict Ba PySem.F.type_dict_get (thn Rb λu s1 ⟨x,H1,I1,rx,a,ex,d,q1⟩=>?_);subst ex;obtain rfl:u=Value.ref a:=rx;obtain⟨t1,t2,_⟩:=isD_at I1 d;refine⟨t1,t2,?_⟩;rw[m.trees];exact Vm (Calls.evalArgs_plain (Calls.spliced_cons (thn (he a6 s1 σ H1 _ I1 q1) λiv s2 ⟨y,H2,I2,ry,q2⟩=>Calls.spliced_cons (thn (hf a6 s2 σ H2 _ I2 q2) λfv s3 ⟨z,H3,I3,rz,ov,g,q3⟩=>Calls.spliced_nil (d_get2 hu I3 g ry rz λw' s4 I4 bA=>⟨_,H3,I4,bA,q3⟩)))))
end
end L2
namespace HT
open PySem PyProof.Rows
section
variable{prog:Nk}{w:Nl}{A:No}{E:Na}{s:Nh}
def sIx(n d:Nat):Option Int→Nat
 |none=>d
 |some v=>if v<0 then(v+(n:Int)).toNat else min v.toNat n
def sIx_nat(n d k:Nat):sIx n d (some (k:Int))=min k n:=by show(if(k:Int)<0 then((k:Int)+(n:Int)).toNat else min (k:Int).toNat n)=min k n;rw[if_neg DH,Ju]
end
end HT
namespace L2
open PySem PySem.Spec PyProof.Rows
abbrev TO:=St→Hp→(Option Int→Hp→Prop)→Prop
def PO(X:Cx)(e:Option Expr)(t:TO):Prop:=
 ∀(a6:Nd) (s:Nh) (σ:St) (H:Hp) (Q:Option Int→Hp→Prop),ZA H s→t σ H Q →
  wpAny DT X.A (evalPart e X.env) (λu s'=>∃o H',ZA H' s'∧IsPart u o∧Q o H') X.xe s
def tNoPart:TO:=λ_ H Q=>Q none H
inductive RPt(x:V)(R:Int→Prop):Prop
 |mk(i:Int)(e:x=.int i)(q:R i)
def tPart(t:TE):TO:=λ σ H Q=>t σ H λx H1=>RPt x λi=>Q (FX i) H1
section
variable{X:Cx}{e:Expr}{te:TE}{lo hi:Option Expr}{tl th:TO}{pos p2:Pos}
def zcd:PO X none tNoPart:=by intro a6 s σ H Q I h;rw[evalPart_none];exact wpAny_pure ⟨none,H,I,.none,h⟩
def zck(h:Z9 e te):PO X (FX e) (tPart te):=by intro a6 s σ H Q I hw;rw[evalPart_some];refine thn (h a6 s σ H _ I hw) λu s1 ⟨x,H1,I1,r1,q1⟩=>?_;obtain⟨i,rfl,q⟩:=q1;obtain⟨t,rfl⟩:=r1;exact⟨FX i,H1,I1,Rj i t,q⟩
def SlR(X:Cx)(r:V→Option Int→Option Int→Hp→VK→Prop):Prop:=
 ∀(a6:Nd) (s:Nh) (σ:St) (H:Hp) (x:V) (v vl vu:Value) (lo hi:Option Int) (sl:Nc) (Q:VK),ZA H s→YB v→s.heap.IsSliceOf sl vl vu .none→IsPart vl lo→IsPart vu hi→r x lo hi H Q →
  ∃T id,typeLookup (.type T) "__getitem__" = pure (FX HI)∧s.TypeIs v T∧ZF (getItem v (DK sl)) (QB Q) X.xe s
def tSl(r:V→Option Int→Option Int→Hp→VK→Prop)(te:TE)(tl th:TO):TE:=λ σ H Q=>te σ H λx H1=>tl σ H1 λl H2=>th σ H2 λu H3=>r x l u H3 Q
def zb8{r:V→Option Int→Option Int→Hp→VK→Prop}(hr:SlR X r)(he:Z9 e te)(hl:PO X lo tl)(hu:PO X hi th):Z9 (RG e (.Slice lo hi none p2)) (tSl r te tl th):=by intro a6 s σ H Q I h;refine Subscript_ (thn He λv s1 ⟨x,H1,I1,r1,q1⟩=>wpAny_Slice (thn (hl a6 s1 σ H1 _ I1 q1) λvl s2 ⟨l,H2,I2,pl,q2⟩=>thn (hu a6 s2 σ H2 _ I2 q2) λvu s3 ⟨u,H3,I3,pu,q3⟩=>?_));rw[evalPart_none];refine wpAny_pure ?_;have I4:ZA H3 {s3 with heap:=s3.heap.push {cls:=.type "slice",data:=.fields #[vl,vu,.none]}}:=I3.kept (t':=s3.toks) λb ob q=>Q5 q;obtain⟨T,id,hT,ht,hg⟩:=hr a6 {s3 with heap:=s3.heap.push {cls:=.type "slice",data:=.fields #[vl,vu,.none]}} σ H3 x v vl vu l u s3.heap.objs.size Q I4 r1 (Heap.IsSliceOf.new ..) pl pu q3;show ZF (subscriptTail e (.Slice lo hi none p2) v (.ref s3.heap.objs.size)) (QB Q) X.xe {s3 with heap:=s3.heap.push {cls:=.type "slice",data:=.fields #[vl,vu,.none]}};exact tail_any (ops:=[.ref s3.heap.objs.size,v]) ht hT hg (by with_unfolding_all rfl)
def cutV(xs:List V)(lo hi:Option Int):List V:=(xs.drop (QR 0 lo)).take (QR xs.length hi-QR 0 lo)
def zcq(xs:List V)(lo hi:Option Int):(NV lo hi).length≤xs.length:=by unfold cutV;rw[Zi,Yw];lia
def ixN(n:Nat)(i:Int):Option Nat:=if 0≤i then(if i<n then some i.toNat else none) else if -(n:Int)≤i then some (i+n).toNat else none
def atI{α:Type}(xs:List α)(i:Int):Option α:=(VT i).bind λj=>xs[j]?
def ixN_seq{n:Nat}{i:Int}{j:Nat}(h:ixN n i=some j):seqIndex? i n=some j∧j<n∧-(n:Int)≤i∧i<n:=by
 unfold ixN at h;by_cases h0:0≤i
 ·rw[Gh h0]at h;by_cases h1:i<n
  ·rw[Gh h1]at h;have e:i.toNat=j:=Qw h;exact⟨by rw[seqIndex_of h0 h1,e],DH,DH,h1⟩
  rw[if_neg h1]at h;cases h
 rw[Gm h0]at h;by_cases h1:-(n:Int)≤i
 ·rw[Gh h1]at h;have e:(i+n).toNat=j:=Qw h;exact⟨by rw[seqIndex_neg DH h1,e],DH,h1,DH⟩
 rw[if_neg h1]at h;cases h
def atI_get{α:Type}{xs:List α}{i:Int}{v:α}(h:atI xs i=some v):∃j,seqIndex? i xs.length=some j∧xs[j]?=some v∧j<xs.length∧-(xs.length:Int)≤i∧i<xs.length:=by
 unfold atI at h;cases e:VT i with
 |none=>rw[e]at h;cases h
 |some j=>rw[e]at h;obtain⟨h1,h2,h3,h4⟩:=ixN_seq e;exact⟨j,h1,h,h2,h3,h4⟩
def zau{α:Type}{xs:List α}{j:Nat}{v:α}(h:xs[j]?=some v):atI xs (j:Int)=some v:=by
 have hj:j<xs.length:=(Zk.mp h).1;have e:VT (j:Int)=some j:=by unfold ixN;rw[if_pos DH,if_pos (by exact zar9 ‹_›)];simp
 unfold atI;rw[e];exact h
def PlainIx(b:Expr):Prop:=∀o i,subscripted b false o i=operate [o,i] (getItem o i)
def IxR(X:Cx)(r:R2):Prop:=
 ∀(value slice:Expr) (a6:Nd) (s:Nh) (σ:St) (H:Hp) (x y:V) (v u:Value) (Q:VK),ZA H s→YB v→YN u→r x y H Q →
  subscripted slice false v u=operate [v,u] (getItem v u)→ZF (subscriptTail value slice v u) (QB Q) X.xe s
def MtR(X:Cx)(id:String)(r:V→List V→Hp→VK→Prop):Prop:=
 ∀(a6:Nd) (s:Nh) (σ:St) (H:Hp) (x:V) (xs:List V) (v:Value) (us:Ni) (Q:VK),ZA H s→YB v→Q7 us→r x xs H Q →
  wpAny DT X.A (NA (v::us)) (QB Q) X.xe s
variable{a b:Expr}{ta tb:TE}
def zay{r:R2}(hr:NW r)(ha:Z9 a ta)(hb:Z9 b tb)(hs:PlainIx b):Z9 (RG a b) (tOp r ta tb):=by intro a6 s σ H Q I h;exact Subscript_ (binT ha hb I h λv u s2 x y H2 I2 rx ry q=>hr a b a6 s2 σ H2 x y v u Q I2 rx ry q (hs _ _))
inductive RrIxL(K:Nb)(x:V)(y:V)(H:Hp)(Q:VK):Prop
 |mk(p:_)(xs:_)(i:_)(v:_)(h0:x=.ref p)(h1:y=.int i)(h2:SqL K H p xs)(h3:atI xs i=some v)(h4:Q v H)
def rIxL(K:Nb):R2:=λx y H Q=>RrIxL K x y H Q
inductive RrIxT(K:Nb)(x:V)(y:V)(H:Hp)(Q:VK):Prop
 |mk(p:_)(xs:_)(i:_)(v:_)(h0:x=.ref p)(h1:y=.int i)(h2:SqT K H p xs)(h3:atI xs i=some v)(h4:Q v H)
def rIxT(K:Nb):R2:=λx y H Q=>RrIxT K x y H Q
inductive RrIxS(x:V)(y:V)(H:Hp)(Q:VK):Prop
 |mk(z:_)(i:_)(c:_)(h0:x=.str z)(h1:y=.int i)(h2:z.length≤sizeLine)(h3:atI z.cps.toList i=some c)(h4:Q (.str ⟨#[c]⟩) H)
def rIxS:R2:=λx y H Q=>RrIxS  x y H Q
def zao:NW (rIxL X.K):=by
 intro value slice a6 s σ H x y v u Q I rx ry h hs;obtain⟨p,xs,i,z,rfl,rfl,hq,he,q⟩:=h;cases rx;obtain⟨t,rfl⟩:=ry;obtain⟨a8,r,pl,hz⟩:=I.list hq;obtain⟨j,h1,h2,h3,h4,h5⟩:=atI_get he;obtain⟨w,ew,bA⟩:=r.get h2;have hl:=r.length;have hn:=zep;have fin:QB Q w s:=⟨z,H,I,bA,q⟩;by_cases h0:0≤i
 ·have hj:i.toNat=j:=by rw[seqIndex_of h0 h5]at h1;exact Qw h1
  exact item_listR pl.isList h0 DH (by rw[hj];simpa using ew) fin hs
 have hj:(i+(a8.toArray.size:Int)).toNat=j:=by rw[seqIndex_neg DH h4]at h1;rw[Qp,←hl];exact Qw h1
 exact subscriptTail_builtinR (x:=w) pl.isList.typeIs slot_list_getitem.lookup
  (wpAny_getItem_list_neg (Q:=λr s'=>r=w∧QB Q r s') pl.isList DH (by rw[Qp]<;>lia) DH (by rw[hj];simpa using ew) ⟨rfl,fin⟩) hs
def zet:NW (rIxT X.K):=by
 intro value slice a6 s σ H x y v u Q I rx ry h hs;obtain⟨p,xs,i,z,rfl,rfl,hq,he,q⟩:=h;cases rx;obtain⟨t,rfl⟩:=ry;obtain⟨a8,r,pl,hz⟩:=I.tuple hq;obtain⟨j,h1,h2,h3,h4,h5⟩:=atI_get he;obtain⟨w,ew,bA⟩:=r.get h2;have hl:=r.length;have hn:=zep;have fin:QB Q w s:=⟨z,H,I,bA,q⟩;exact subscriptTail_builtinR (x:=w) pl.typeIs slot_tuple_getitem.lookup
  (getItem_tuple (j:=j) (Q:=λr s'=>r=w∧QB Q r s') pl DH DH (by rw[Qp,←hl];exact h1) (DJ ew) ⟨rfl,fin⟩) hs
def ix_str:NW rIxS:=by
 intro value slice a6 s σ H x y v u Q I rx ry h hs;obtain⟨z,i,c,rfl,rfl,hz,he,q⟩:=h;obtain⟨t,rfl⟩:=rx;obtain⟨t',rfl⟩:=ry;obtain⟨j,h1,h2,h3,h4,h5⟩:=atI_get he;have hl:z.cps.toList.length=z.length:=by simp[Str.length]
 rw[hl]at h1 h4 h5;have hn:=zep;exact tail_any (typeIs_str s z t) slot_str_getitem.lookup (getItem_str (c:=c) (by have e1:decide (i < -(2 ^ 63:Int))=false:=decide_eq_false DH;have e2:decide (i≥2 ^ 63)=false:=decide_eq_false DH;rw[e1,e2,Bool.or_false]) (by rw[h1];simpa using h2) ⟨GH ⟨#[c]⟩,H,Gr,⟨_,rfl⟩,q⟩) hs
def mapSeq_set(a8:Ni)(n j:Nat)(u:Value):Obj.mapSeq (·.setIfInBounds j u) {cls:=.type "list",data:=.seq a8.toArray n}={cls:=.type "list",data:=.seq (a8.set j u).toArray n}:=by simp[Obj.mapSeq]
def Inv.lst{a6:Nd}{σ:St}{H:Hp}{s:Nh}{p:Nc}{xs:List V}(I:Fg)(h:H p=some (DX xs)) :
  ∃(a8:Ni) (n:Nat),Q7 a8∧s.heap.get? p=some {cls:=.type "list",data:=.seq a8.toArray n}∧xs.length≤sizeLine:=by
 obtain⟨z,a8,n,r,e⟩:=BV h;exact⟨a8,n,r,e,z⟩
def Inv.lstUpd{a6:Nd}{σ:St}{H:Hp}{s:Nh}{p:Nc}{xs ys:List V}{a8 its':Ni}{n n':Nat}{f:Obj→Obj}(I:Fg)(h:H p=some (DX xs))(ho:s.heap.get? p=some {cls:=.type "list",data:=.seq a8.toArray n})(hf:f {cls:=.type "list",data:=.seq a8.toArray n}={cls:=.type "list",data:=.seq its'.toArray n'})(r:UF its')(hz:ys.length≤sizeLine)(t:Nat) :
  Inv X a6 σ (Hh p ys) {s with heap:=s.heap.update p f,toks:=t}:=by
 have e:(s.heap.update p f).get? p=some {cls:=.type "list",data:=.seq its'.toArray n'}:=by rw[Ug f ho (by rw[hf]<;>rfl),hf]
 exact I.write (x:=p) (e:=p) (by rw[h];trivial) Fq (λb u hb q=>(Me (Zj hb)).trans q) ⟨_,e⟩ ⟨hz,its',n',r,e⟩
inductive RrSetL(o:V)(i:V)(v:V)(H:Hp)(Q:Hp→Prop):Prop
 |mk(p:_)(xs:_)(k:_)(j:_)(h0:o=.ref p)(h1:i=.int k)(h2:H p=some (.lst xs))(h3:ixN xs.length k=some j)(h4:Q (upd H p (.lst (xs.set j v))))
def rSetL:V→V→V→Hp→(Hp→Prop)→Prop:=λo i v H Q=>RrSetL  o i v H Q
def set_list:PSet X rSetL:=by
 intro a6 s σ H o i v ov iv u Q I ro ri rv h;obtain⟨p,xs,k,j,rfl,rfl,hp,hj,q⟩:=h;cases ro;obtain⟨t,rfl⟩:=ri;obtain⟨a8,n,r,ho,hz⟩:=I.lst hp;obtain⟨h1,h2,h3,h4⟩:=ixN_seq hj;have hl:=r.length;have hn:=zep;have I':ZA (Hh p (xs.set j v)) {s with heap:=s.heap.update p (Obj.mapSeq (·.setIfInBounds j u))}:=
  I.lstUpd hp ho (mapSeq_set a8 n j u) (r.set rv j) (DR Yd hz) s.toks
 by_cases h0:0≤k
 ·have hk:k.toNat=j:=by rw[seqIndex_of h0 h4]at h1;exact Qw h1
  exact PySem.W.ki_setAt ho h0 DH (by rw[Qp,←hl];exact h4) (by rw[hk];exact⟨_,I',q⟩)
 have hk:(k+(a8.toArray.size:Int)).toNat=j:=by rw[seqIndex_neg DH h3]at h1;rw[Qp,←hl];exact Qw h1
 exact PySem.W.ki_setBack ho DH (by rw[Qp,←hl];exact h3) DH (by rw[hk];exact⟨_,I',q⟩)
def slice_bounds(lo hi:Option Int)(n:Nat):(sliceBounds lo hi none n).1=((HT.sIx n 0 lo:Nat):Int)∧(sliceBounds lo hi none n).2.1=((HT.sIx n n hi:Nat):Int)∧(sliceBounds lo hi none n).2.2=1:=by
 refine⟨?_,?_,rfl⟩
 ·cases lo with
  |none=>simp[sliceBounds,HT.sIx]
  |some i=>
   simp only[sliceBounds,HT.sIx,Option.getD_none,show(1:Int)>0 by decide,if_true];by_cases h:i<0
   ·simp only[h,if_true]<;>lia
   simp only[h,if_false]<;>lia
 cases hi with
 |none=>simp[sliceBounds,HT.sIx]
 |some i=>
  simp only[sliceBounds,HT.sIx,Option.getD_none,show(1:Int)>0 by decide,if_true];by_cases h:i<0
  ·simp only[h,if_true]<;>lia
  simp only[h,if_false]<;>lia
def zhz(a8:Ni)(lo hi:Option Int):slicePick a8.toArray lo hi none=((a8.drop (KO 0 lo)).take (KO a8.length hi-KO 0 lo)).toArray:=by obtain⟨h1,h2,h3⟩:=slice_bounds lo hi a8.toArray.size;unfold slicePick;rw[h1,h2,h3];simp only[sliceRange_one,pick_run,Qp]<;>rfl
end
section
variable{X:Cx}{a b:Expr}{ta tb:TE}{pos:Pos}
inductive RrSlL(K:Nb)(x:V)(lo:Option Int)(hi:Option Int)(H:Hp)(Q:VK):Prop
 |mk(a:_)(xs:_)(h0:x=.ref a)(h1:SqL K H a xs)(h2:∀p,H p=none→Q (.ref p) (upd H p (.lst (cutV xs lo hi))))
def rSlL(K:Nb):V→Option Int→Option Int→Hp→VK→Prop:=λx lo hi H Q=>RrSlL K x lo hi H Q
def zdj:SlR X (rSlL X.K):=by intro a6 s σ H x v vl vu lo hi sl Q I rx hs pl pu h;obtain⟨a,xs,rfl,hx,q⟩:=h;cases rx;obtain⟨a8,r,ht,hz⟩:=I.list hx;have a9:=r.length;refine⟨"list",_,slot_list_getitem.lookup,ht.isList.typeIs,XQ hs pl pu .none DI ?_ (by rw[Qp]<;>exact zdx ‹_› ‹_›)⟩;rw[zhz,←a9];refine⟨D6,_,I.laid (t':=s.toks) (o:=.lst (NV lo hi)) (λb ob q=>Q5 q) D9 ?_,rfl,q _ (Hv D9)⟩;exact⟨Zd (zcq xs lo hi) hz,_,0,(r.drop (QR 0 lo)).take (QR xs.length hi-QR 0 lo),Re⟩
def zfk:V→Bool
 |.non=>true
 |.bl _=>true
 |.int _=>true
 |.str _=>true
 |_=>false
def eqV:V→V→Bool
 |.non,.non=>true
 |.bl a,.bl b=>a==b
 |.bl a,.int b=>(if a then 1 else 0)==b
 |.int a,.bl b=>a==(if b then 1 else 0)
 |.int a,.int b=>a==b
 |.str a,.str b=>a==b
 |_,_=>false
def eqAt_V{A:No}{s:Nh}{y x:V}{u v:Value}(ry:YN u)(rx:YB v)(fy:zfk y=true)(fx:zfk x=true):NB (eqV y x):=by
 cases y with
 |non=>
  cases ry;cases x with
  |non=>cases rx;exact SeqAt.EqAt.same _
  |bl b=>cases rx;exact SeqAt.EqAt.none_bool b
  |int b=>obtain⟨t,rfl⟩:=rx;exact SeqAt.EqAt.none_int b t
  |str b=>obtain⟨t,rfl⟩:=rx;exact SeqAt.EqAt.none_str b t
  |_=>exact absurd (show false=true from fx) Za
 |bl a=>
  cases ry;cases x with
  |non=>cases rx;exact SeqAt.EqAt.bool_none a
  |bl b=>cases rx;exact SeqAt.EqAt.bool_bool a b
  |int b=>obtain⟨t,rfl⟩:=rx;exact SeqAt.EqAt.bool_int a b t
  |str b=>obtain⟨t,rfl⟩:=rx;exact SeqAt.EqAt.bool_str a b t
  |_=>exact absurd (show false=true from fx) Za
 |int a=>
  obtain⟨t',rfl⟩:=ry;cases x with
  |non=>cases rx;exact SeqAt.EqAt.int_none a t'
  |bl b=>cases rx;exact SeqAt.EqAt.int_bool a t' b
  |int b=>obtain⟨t,rfl⟩:=rx;exact Xm a t' b t
  |str b=>obtain⟨t,rfl⟩:=rx;exact SeqAt.EqAt.int_str a t' b t
  |_=>exact absurd (show false=true from fx) Za
 |str a=>
  obtain⟨t',rfl⟩:=ry;cases x with
  |non=>cases rx;exact SeqAt.EqAt.str_none a t'
  |bl b=>cases rx;exact SeqAt.EqAt.str_bool a t' b
  |int b=>obtain⟨t,rfl⟩:=rx;exact SeqAt.EqAt.str_int a t' b t
  |str b=>obtain⟨t,rfl⟩:=rx;exact Jb a t' b t
  |_=>exact absurd (show false=true from fx) Za
 |_=>exact absurd (show false=true from fy) Za
def eqU(x:V)(u:Value):Bool:=match u with
 |.none=>eqV .non x
 |.bool b=>eqV (.bl b) x
 |.int i _=>eqV (GG i) x
 |.str z _=>eqV (GH z) x
 |_=>false
def eqU_of{x y:V}{u:Value}(r:YN u)(f:zfk y=true):eqU x u=eqV y x:=by
 cases y with
 |non=>cases r;rfl
 |bl b=>cases r;rfl
 |int i=>obtain⟨t,rfl⟩:=r;rfl
 |str z=>obtain⟨t,rfl⟩:=r;rfl
 |_=>exact absurd (show false=true from f) Za
theorem zg1{x:V}:∀{xs:List V} {us:Ni},Q7 us→xs.all zfk=true→us.any RK=xs.any λy=>eqV y x
 |_,_,.nil,_=>rfl
 |y::xs,u::us,.cons r t,f=>by rw[List.all_cons,Uu]at f;rw[Kq,Kq,eqU_of r f.1,zg1 t f.2]
theorem zdv{A:No}{s:Nh}{x:V}{v:Value}(rx:YB v)(fx:zfk x=true):∀{xs:List V} {us:Ni},Q7 us→xs.all zfk=true→∀u∈us,NB (eqU x u)
 |_,_,.nil,_=>λu hu=>by cases hu
 |y::xs,u::us,.cons r t,f=>λu' hu=>by
  rw[List.all_cons,Uu]at f;rcases Qi.mp hu with rfl|hu
  ·rw[eqU_of r f.1];exact eqAt_V r rx f.1 fx
  exact zdv rx fx t f.2 u' hu
def inV(x:V)(xs:List V):Bool:=xs.any λy=>eqV y x
inductive RrIn(K:Nb)(neg:Bool)(x:V)(y:V)(H:Hp)(Q:VK):Prop
 |mk(p:_)(xs:_)(h0:y=.ref p)(h1:(SqL K H p xs∨SqT K H p xs))(h2:zfk x=true)(h3:xs.all zfk=true)(h4:Q (.bl (if neg then !inV x xs else inV x xs)) H)
def rIn(K:Nb)(neg:Bool):R2:=λx y H Q=>RrIn K neg x y H Q
def op_in_seq:W8 (compareOp .In) (rIn X.K false):=by
 intro a6 s σ H x y v u Q I rx ry h;obtain⟨p,xs,rfl,hq,fx,fs,q⟩:=h;cases ry;rcases hq with hq|hq
 ·obtain⟨a8,r,pl,hz⟩:=I.list hq;refine SeqAt.in_listAt RK pl.isList (λw hw=>Be (DJ hw)) ⟨.bl _,H,I,rfl,?_⟩;rw[show a8.toArray.any RK=a8.any RK by simp,zg1 r fs];exact q
 obtain⟨a8,r,pl,hz⟩:=I.tuple hq;refine SeqAt.in_tupleAt RK pl (λw hw=>Be (DJ hw)) ⟨.bl _,H,I,rfl,?_⟩;rw[show a8.toArray.any RK=a8.any RK by simp,zg1 r fs];exact q
def zcv:W8 (compareOp .NotIn) (rIn X.K true):=by
 intro a6 s σ H x y v u Q I rx ry h;obtain⟨p,xs,rfl,hq,fx,fs,q⟩:=h;cases ry;rcases hq with hq|hq
 ·obtain⟨a8,r,pl,hz⟩:=I.list hq;refine SeqAt.notIn_listAt RK pl.isList (λw hw=>Be (DJ hw)) ⟨.bl _,H,I,rfl,?_⟩;rw[show a8.toArray.any RK=a8.any RK by simp,zg1 r fs];exact q
 obtain⟨a8,r,pl,hz⟩:=I.tuple hq;refine SeqAt.notIn_tupleAt RK pl (λw hw=>Be (DJ hw)) ⟨.bl _,H,I,rfl,?_⟩;rw[show a8.toArray.any RK=a8.any RK by simp,zg1 r fs];exact q
def zak:YL (.builtin "len") (λxs H Q=>Ex2 λp ys=>Aj3 (xs=[HU]) ((Q4 p ys)∨( SqT X.K H p ys)) (Q (.int ys.length) H)):=by
 intro a6 s σ H xs us Q I r h;obtain⟨p,ys,rfl,hq,q⟩:=h;obtain⟨u,rfl,rx⟩:=vals1 r;cases rx;have hn:=zep;rcases hq with hq|hq
 ·obtain⟨a8,r',pl,hz⟩:=I.list hq;have a9:=r'.length;exact Calls.call_len_list pl.isList (by simp only[Qp]<;>lia) ⟨.int ys.length,H,Gr,⟨s.toks+1,by rw[Qp,a9]⟩,q⟩
 obtain⟨a8,r',pl,hz⟩:=I.tuple hq;have a9:=r'.length;exact len_tuple pl (by simp only[Qp]<;>lia) ⟨.int ys.length,H,Gr,⟨s.toks+1,by rw[Qp,a9]⟩,q⟩
def zcb:YL (.builtin "len") (λxs H Q=>Ex1 λz=>Aj3 (xs=[GH z]) (z.length≤sizeLine) (Q (.int z.length) H)):=by intro a6 s σ H xs us Q I r h;obtain⟨z,rfl,hz,q⟩:=h;obtain⟨u,rfl,t,rfl⟩:=vals1 r;have hn:=zep;exact len_str DH ⟨.int z.length,H,Gr,⟨_,rfl⟩,q⟩
def zft:YL (.type "list") (λxs H Q=>Ex2 λp ys=>Aj3 (xs=[HU]) ((Q4 p ys)∨( SqT X.K H p ys)) (∀l,H l=none→Q Hw (Hh l ys))):=by
 intro a6 s σ H xs us Q I r h;obtain⟨p,ys,rfl,hq,q⟩:=h;obtain⟨u,rfl,rx⟩:=vals1 r;cases rx;have fin:∀(a8:Ni),UF a8→ys.length≤sizeLine→∀(h':Np) (c':Nat),(∀b o',s.heap.get? b=some o'→h'.get? b=some o') →
   h'.get? s.heap.objs.size=some {cls:=.type "list",dict:=none,data:=.seq a8.toArray c',slots:=#[]}→QB Q D6 {s with heap:=h'}:=λa8 r' hz h' c' kp e=>
  ⟨D6,_,I.laid (t':=s.toks) kp D9 (show QC _ h' _ (DX ys) from⟨hz,a8,c',r',e⟩),rfl,q _ (Hv D9)⟩
 rcases hq with hq|hq
 ·obtain⟨a8,r',pl,hz⟩:=I.list hq;have a9:=r'.length;obtain⟨o,ho,hc,n,hd⟩:=pl.isList;exact call_list_seq p Fq ho hc hd (λh' c' kp e=>fin a8 r' hz h' c' kp e) (by simp only[Qp]<;>exact zdx ‹_› ‹_›)
 obtain⟨a8,r',pl,hz⟩:=I.tuple hq;have a9:=r'.length;obtain⟨o,ho,hc,n,hd⟩:=pl;exact call_list_seq p (G' rfl) ho hc hd (λh' c' kp e=>fin a8 r' hz h' c' kp e) (by simp only[Qp]<;>exact zdx ‹_› ‹_›)
def zil:YL (.type "tuple") (λxs H Q=>Ex2 λp ys=>Aj2 (xs=[HU]) ((Aj2 (Q4 p ys) (∀l,H l=none→Q Hw (ZQ l (.tup ys))))∨(Aj2 (KM p ys) (Q HU H)))):=by
 intro a6 s σ H xs us Q I r h;obtain⟨p,ys,rfl,h⟩:=h;obtain⟨u,rfl,rx⟩:=vals1 r;cases rx;rcases h with⟨hq,q⟩|⟨hq,q⟩
 ·obtain⟨a8,r',pl,hz⟩:=I.list hq;have a9:=r'.length;refine call_tuple_list pl.isList (λh' kp=>?_) (by simp only[Qp]<;>exact zdx ‹_› ‹_›);have I1:ZA H {s with heap:=h'}:=I.kept (t':=s.toks) kp;have I2:ZA (ZQ h'.objs.size (.tup ys)) {s with heap:=h'.push {cls:=.type "tuple",data:=.seq a8.toArray}}:=
   I1.laid (t':=s.toks) (λb o e=>Q5 e) D9 (show QC _ _ _ (.tup ys) from⟨hz,a8,r',IsTup.new _ _⟩)
  exact⟨.ref h'.objs.size,_,I2,rfl,q _ RI⟩
 obtain⟨a8,r',pl,hz⟩:=I.tuple hq;exact call_tuple_same pl ⟨HU,H,I,rfl,q⟩
def tyV(K:Nb)(T:String)(x:V)(H:Hp):Prop:=match x with
 |.str _=>T = "str"
 |.int _=>T = "int"
 | .ref p=>(T = "list" ∧ ∃ xs,YE p xs)∨(T = "tuple" ∧ ∃ o,K.lookup p=some o∧o.cls=.type "tuple" ∧ o.dict=none) ∨
   (T = "dict" ∧ ((∃kvs,H p=some Gz)∨∃kvs,H p=some Rk))∨(T = "set" ∧ ∃S n,H p=some (.set S n))
 |_=>False
def tyV_is{a6:Nd}{σ:St}{H:Hp}{s:Nh}{T:String}{x:V}{v:Value}(I:Fg)(r:YB v)(ty:tyV X.K T x H) :
  s.TypeIs v T∧∀a,v=.ref a→∃ob,s.heap.get? a=some ob∧ob.dict=none:=by
 cases x with
 |str z=>obtain⟨t,rfl⟩:=r;cases(show T = "str" from ty);exact⟨typeIs_str s z t,λ_ e=>nomatch e⟩
 |int i=>obtain⟨t,rfl⟩:=r;cases(show T = "int" from ty);exact⟨typeIs_int s i t,λ_ e=>nomatch e⟩
 | ref p=>
  cases r;rcases ty with⟨rfl,xs,hq⟩|⟨rfl,o,hk,hc,hd⟩|⟨rfl,hk⟩|⟨rfl,S,n,hk⟩
  ·obtain⟨a8,_,pl,_⟩:=I.list hq;refine⟨pl.isList.typeIs,λa e=>?_⟩;cases e;obtain⟨o,n,e,c,hd,_⟩:=pl;exact⟨o,e,hd⟩
  ·refine⟨⟨o,I.kIn p o hk,hc⟩,λa e=>?_⟩;cases e;exact⟨o,I.kIn _ o hk,hd⟩
  ·have z:∃ o,s.heap.get? p=some o∧o.ExactDict:=by
    rcases hk with⟨kvs,hk⟩|⟨kvs,hk⟩
    ·obtain⟨_,_,_,_,o,_,_,e,ex,_⟩:=BV hk;exact⟨o,e,ex⟩
    obtain⟨_,_,_,_,o,_,_,e,ex,_⟩:=BV hk;exact⟨o,e,ex⟩
   obtain⟨o,e,ex⟩:=z;refine⟨⟨o,e,ex.1⟩,λa e2=>?_⟩;cases e2;exact⟨o,e,ex.2.1⟩
  obtain⟨o,_,_,_,e,ex,_⟩:=BV hk;refine⟨⟨o,e,ex.1⟩,λa e2=>?_⟩;cases e2;exact⟨o,e,ex.2.1⟩
 |_=>exact False.elim ty
def tBM0(K:Nb)(T:String)(r:V→List V→Hp→VK→Prop)(to:TE):TE:=λ σ H Q=>to σ H λx H1=>tyV K T x H1∧r x [] H1 Q
def tBM(K:Nb)(T:String)(r:V→List V→Hp→VK→Prop)(to:TE)(t:TA):TE:=λ σ H Q=>to σ H λx H1=>tyV K T x H1∧t σ H1 λxs H2=>r x xs H2 Q
variable{o e:Expr}{es:Nq}{to:TE}{t:TA}{name:Str}{apos cpos:Pos}{T id:String}{r:V→List V→Hp→VK→Prop}
def pe_bm0(pa:PlainAttrs T)(slot:Slot T name id)(pV:typeOf HI=pure (.type "method_descriptor"))(hm:MtR X id r)(ho:Z9 o to)(fO:attributeBase o name X.env (FJ o)=eval o X.env:=by rfl)(f9:(apos.endLine==cpos.line)=true:=by rfl):Z9 (.Call (.Attribute o name apos) [] [] cpos) (tBM0 X.K T r to):=by intro a6 s σ H Q I h;refine wpAny_Call_method0_late fO f9 (thn Rb λv s1 ⟨x,H1,I1,r1,ty,q1⟩=>?_);obtain⟨h1,h2⟩:=tyV_is I1 r1 ty;exact⟨T,id,pa,slot,pV,h1,h2,Vm (PySem.evalArgs_none (hm a6 s1 σ H1 x [] v [] Q I1 r1 .nil q1))⟩
def zb1(pa:PlainAttrs T)(slot:Slot T name id)(pV:typeOf HI=pure (.type "method_descriptor"))(hm:MtR X id r)(ho:Z9 o to)(ha:Vj (e::es) t)(fO:attributeBase o name X.env (FJ o)=eval o X.env:=by rfl)(rG:((backTo cpos (starEach (e::es) X.env)).all (λx=>!x.1) && (backToKw cpos (keywordEach [] X.env)).all (λx=>x.1.isSome)
   && decide ((e::es).length+([]:List Keyword).length+(if([]:List Keyword).isEmpty then 0 else 1)<30))=true:=by rfl)(f9:(apos.endLine==cpos.line)=true:=by rfl)(hs:starEach (e::es) X.env=(false,FJ e)::starEach es X.env:=by rfl)(iS:(backTo cpos Gx).any (·.1)=false:=by rfl) :
  PE X (.Call (.Attribute o name apos) (e::es) [] cpos) (tBM X.K T r to t):=by
 intro a6 s σ H Q I h;refine wpAny_Call_method_late fO rG f9 rfl (thn Rb λv s1 ⟨x,H1,I1,r1,ty,q1⟩=>?_);obtain⟨h1,h2⟩:=tyV_is I1 r1 ty;refine⟨T,id,pa,slot,pV,h1,h2,?_⟩;have hA:=ha cpos a6 s1 σ H1 _ I1 q1;rw[hs]at hA ⊢;exact Calls.callWith_builtin (by show(false||(backTo cpos Gx).any (·.1))=false;rw[iS]<;>rfl) (Calls.evalArgs_plain (thn hA λus s2 ⟨vs,H2,I2,r2,q2⟩=>hm a6 s2 σ H2 x vs v us Q I2 r1 r2 q2))
def MtM(X:Cx)(id:String)(r:V→List V→Hp→VK→Prop):Prop:=
 ∀(a6:Nd) (s:Nh) (σ:St) (H:Hp) (x:V) (xs:List V) (v:Value) (us:Ni) (Q:VK),ZA H s→YB v→Q7 us→r x xs H Q →
  wpAny DT X.A (NA (v::us)) (QB Q) X.xe s
end
theorem Vals.one:∀{x:V} {us:Ni},Vals [x] us→∃u,us=[u]∧YB u
 |_,_,.cons r .nil=>⟨_,rfl,r⟩
theorem Vals.two:∀{x y:V} {us:Ni},Vals [x,y] us→∃u v,us=[u,v]∧YB u∧YN v
 |_,_,_,.cons r (.cons q .nil)=>⟨_,_,rfl,r,q⟩
theorem Vals.zero:∀{us:Ni},Vals [] us→us=[]
 |_,.nil=>rfl
def Vals.dropLast{xs:List V}{us:Ni}(h:Q7 us):Vals xs.dropLast us.dropLast:=by
 induction h with
 |nil=>exact .nil
 |cons r t ih=>
  cases t with
  |nil=>exact .nil
  |cons q t'=>exact .cons r ih
theorem Vals.eraseIdx:∀{xs:List V} {us:Ni} (i:Nat),Q7 us→Vals (xs.eraseIdx i) (us.eraseIdx i)
 |_,_,_,.nil=>.nil
 |_,_,0,.cons _ t=>t
 |_,_,i+1,.cons r t=>.cons r (Vals.eraseIdx i t)
def Vals.reverse{xs:List V}{us:Ni}(h:Q7 us):Vals xs.reverse us.reverse:=by
 induction h with
 |nil=>exact .nil
 |cons r t ih=>rw[Xh,Xh];exact Vals.append ih (Hy r)
def erase_last{α:Type}(l:List α):l.eraseIdx (l.length - 1)=l.dropLast:=by
 induction l with
 |nil=>rfl
 | cons a r ih=>
  cases r with
  |nil=>rfl
  |cons b r=>
   have e:(a::b::r).length-1=((b::r).length-1)+1:=by have h1:(a::b::r).length=r.length+2:=rfl;have h2:(b::r).length=r.length+1:=rfl;assumption
   rw[e,List.eraseIdx_cons_succ,ih]
   all_goals rfl
theorem len_erase{α:Type}:∀(l:List α) (i:Nat),(l.eraseIdx i).length≤l.length
 |[],_=>Qd _
 |_::_,0=>Jc _
 |_::r,i+1=>Nat.succ_le_succ (len_erase r i)
section
variable{X:Cx}{a6:Nd}{σ:St}{H:Hp}{s:Nh}{l b:Nc}{xs ys zs:List V}
def Inv.lset{a8 its':Ni}{n:Nat}{f:Array Value→Array Value}{t':Nat}(I:Fg)(hH:H l=some (DX xs))(e:s.heap.get? l=some {cls:=.type "list",data:=.seq a8.toArray n})(hf:f a8.toArray=its'.toArray)(hv:UF its')(hz:ys.length≤sizeLine) :
  Inv X a6 σ (Hh l ys) {s with heap:=s.heap.update l (Obj.mapSeq f),toks:=t'}:=by
 have q:=PySem.IsL.update e f;rw[hf]at q;exact I.write (x:=l) (e:=l) (by rw[hH];exact trivial) Fq (λb' u hb hu=>(Yz s.heap (Obj.mapSeq f) (Zj hb)).trans hu) ⟨_,q⟩ ⟨hz,its',_,hv,q⟩
def Inv.lnew{a8:Ni}{t':Nat}(I:Fg)(hv:UF a8)(hz:ys.length≤sizeLine) :
  Inv X a6 σ (ZQ s.heap.objs.size (DX ys)) {s with heap:=s.heap.push {cls:=.type "list",data:=.seq a8.toArray},toks:=t'}:=
 I.laid (λ_ _ q=>Q5 q) D9 ⟨hz,a8,0,hv,Re⟩
def Inv.fresh(I:Fg):H s.heap.objs.size=none:=I.hok.fresh D9
def Inv.lstM(I:Fg)(hH:H l=some (DX xs)):xs.length≤sizeLine∧∃(a8:Ni) (n:Nat),Q7 a8∧xs.length=a8.length∧s.heap.get? l=some {cls:=.type "list",data:=.seq a8.toArray n}:=by obtain⟨z,a8,n,r,e⟩:=I.hok l _ hH;exact⟨z,a8,n,r,r.length,e⟩
def notLongL{n:Nat}(h:n≤sizeLine):Builtin.List.listTooLong n=false:=by unfold Builtin.List.listTooLong;exact decide_eq_false DH
end
section
variable{X:Cx}
inductive RrAppend(x:V)(vs:List V)(H:Hp)(Q:VK):Prop
 |mk(l:_)(xs:_)(y:_)(h0:x=.ref l)(h1:vs=[y])(h2:H l=some (.lst xs))(h3:xs.length<sizeLine)(h4:Q .non (upd H l (.lst (xs++[y]))))
def rAppend:V→List V→Hp→VK→Prop:=λx vs H Q=>RrAppend  x vs H Q
def zbb:ML "list.append" rAppend:=by intro a6 s σ H x vs v us Q I rx rv h;obtain⟨l,xs,y,rfl,rfl,hH,hz,q⟩:=h;cases rx;obtain⟨u,rfl,ru⟩:=rv.one;obtain⟨z,a8,n,r,hl,e⟩:=I.lstM hH;refine call_meets F.slot_list_append ⟨_,e,rfl⟩ F.entry_list_append (Mf _) (PySem.list_append l a8.toArray n u (by rw[Qp];exact zdx ‹_› ‹_›)) ⟨e,.non,_,I.lset (its':=a8++[u]) hH e DI (r.append (Hy ru)) ?_,rfl,q⟩;rw[Qk,Kn];assumption
def rExtend:V→List V→Hp→VK→Prop:=λx vs H Q=>∃l b xs zs,x=.ref l∧vs=[DK b]∧H l=some (DX xs)∧H b=some (DX zs)∧xs.length+zs.length≤sizeLine∧Q .non (Hh l (xs++zs))
def mt_extend:ML "list.extend" rExtend:=by
 intro a6 s σ H x vs v us Q I rx rv h;obtain⟨l,b,xs,zs,rfl,rfl,hH,hB,hz,q⟩:=h;cases rx;obtain⟨u,rfl,ru⟩:=rv.one;cases ru;obtain⟨z,a8,n,r,hl,e⟩:=I.lstM hH;obtain⟨z2,aO,n2,r2,aq,e2⟩:=I.lstM hB;have hsz:a8.toArray.size+aO.toArray.size≤sizeLine:=by rw[Qp,Qp];lia
 have lO:¬(!a8.toArray.isEmpty&&Builtin.List.listTooLong (a8.toArray.size+aO.toArray.size))=true:=by rw[notLongL hsz,Bool.and_false];exact Za
 refine call_meets F.slot_list_extend ⟨_,e,rfl⟩ F.entry_list_extend (F.args_list_extend_2 _ _)
  (AutoSeq1.list_extend_list_list_0 l a8.toArray n b aO.toArray n2 lO (by rw[Qp];lia) (by exact zhr ‹_›)) ⟨e,e2,?_⟩
 refine⟨.non,_,I.lset (its':=a8++aO) hH e DI (r.append r2) ?_,rfl,q⟩;rw[Qk];assumption
inductive RrPop(x:V)(vs:List V)(H:Hp)(Q:VK):Prop
 |mk(l:_)(xs:_)(y:_)(h0:x=.ref l)(h1:vs=[])(h2:H l=some (.lst xs))(h3:xs[xs.length-1]?=some y)(h4:Q y (upd H l (.lst xs.dropLast)))
def rPop:V→List V→Hp→VK→Prop:=λx vs H Q=>RrPop  x vs H Q
def mt_pop:ML "list.pop" rPop:=by
 intro a6 s σ H x vs v us Q I rx rv h;obtain⟨l,xs,y,rfl,rfl,hH,hy,q⟩:=h;cases rx;have o9:=rv.zero;subst o9;obtain⟨z,a8,n,r,hl,e⟩:=I.lstM hH;obtain⟨u,hu,ru⟩:=r.get hy;have dR:a8.toArray[a8.toArray.size-1]?=some u:=by show a8.toArray[a8.length-1]?=some u;rw[←Uc,←hl];exact hu
 refine call_meets F.slot_list_pop ⟨_,e,rfl⟩ F.entry_list_pop (F.args_list_pop_1 _) (MeetsSeq.list_pop_last l a8.toArray n u dR (by rw[Qp];exact zdx ‹_› ‹_›)) ⟨e,y,_,I.lset (its':=a8.dropLast) hH e ?_ r.dropLast ?_,ru,q⟩
 ·show a8.toArray.eraseIdxIfInBounds (a8.toArray.size - 1)=a8.dropLast.toArray;rw[Qp,Kl,erase_last]
 rw[List.length_dropLast];lia
def rPopAt:V→List V→Hp→VK→Prop:=λx vs H Q=>∃l xs i k y,x=.ref l∧vs=[GG i]∧H l=some (DX xs)∧-(2 ^ 63)≤i∧i<2 ^ 63∧seqIndex? i xs.length=some k∧xs[k]?=some y∧Q y (Hh l (xs.eraseIdx k))
def mt_popAt:ML "list.pop" rPopAt:=by
 intro a6 s σ H x vs v us Q I rx rv h;obtain⟨l,xs,i,k,y,rfl,rfl,hH,h1,h2,hk,hy,q⟩:=h;cases rx;obtain⟨u,rfl,ru⟩:=rv.one;obtain⟨t,rfl⟩:=ru;obtain⟨z,a8,n,r,hl,e⟩:=I.lstM hH;obtain⟨w,hw,bA⟩:=r.get hy;refine call_meets F.slot_list_pop ⟨_,e,rfl⟩ F.entry_list_pop (F.args_list_pop_2 _ _)
  (MeetsSeq.list_pop_at l a8.toArray n i t k w (fitsIndex_both h1 h2) (by rw[Qp,←hl];exact hk) (by rw[←Uc];exact hw) (by rw[Qp];exact zdx ‹_› ‹_›)) ⟨e,?_⟩
 refine⟨y,_,I.lset (its':=a8.eraseIdx k) hH e ?_ (r.eraseIdx k) ?_,bA,q⟩
 ·show a8.toArray.eraseIdxIfInBounds k=(a8.eraseIdx k).toArray;rw[Kl]
 have:=len_erase xs k;exact Zd ‹_› ‹_›
inductive RrCat(x:V)(y:V)(H:Hp)(Q:VK):Prop
 |mk(l:_)(b:_)(xs:_)(zs:_)(h0:x=.ref l)(h1:y=.ref b)(h2:H l=some (.lst xs))(h3:H b=some (.lst zs))(h4:xs.length+zs.length≤sizeLine)(h5:∀p,H p=none→Q (.ref p) (upd H p (.lst (xs++zs))))
def rCat:R2:=λx y H Q=>RrCat  x y H Q
def zfs:W8 (binaryOp .Add) rCat:=by
 intro a6 s σ H x y v u Q I rx ry h;obtain⟨l,b,xs,zs,rfl,rfl,hH,hB,hz,q⟩:=h;cases rx;cases ry;obtain⟨z,a8,n,r,hl,e⟩:=I.lstM hH;obtain⟨z2,aO,n2,r2,aq,e2⟩:=I.lstM hB;refine PySem.P.add_list e e2 ?_ (by rw[Qp,Qp];lia);have ea:a8.toArray++aO.toArray=(a8++aO).toArray:=by simp
 rw[ea];exact⟨DK _,_,I.lnew (t':=s.toks) (r.append r2) (by rw[Qk];assumption),rfl,q _ I.fresh⟩
end
end L2
namespace Att
open PySem PySem.W PySem.Calls PyProof.Rows
def zgu{P:Params}{h:Np}:∀(ns:List Int) (vs:Ni),WellAll P h vs (ns.map WData.int)→XR ns:=by
 intro ns;induction ns with
 |nil=>intro vs w;rw[List.map_nil]at w;cases w;exact .nil
 |cons n ns ih=>
  intro vs w;rw[Ql]at w;cases w with
  |cons a b=>cases a;exact .cons _ _ (ih _ b)
def script_of{l:OpenLaw}{n:Nat}(hn:l.most=some n){P:Params}{h:Np}{args:List WData}{i5:Ni}(dy:l.row.toRowW.claim.pre args=true)(dS:WellAll P h i5 args) :
  ∃a vs ns,i5=[Value.ref a]∧args=[WData.list (ns.map WData.int)]∧h.get? a=some {cls:=.type "list",data:=.seq vs.toArray}∧XR ns∧ns.length≤n:=by
 have hsh:WShape.hasAll [] args [.list .int]=true:=(pre_splitW dy).1;have hc:l.pre.holds [] {args:=args}=true:=(pre_splitW dy).2;obtain⟨d,r,rfl,h1,h2⟩:=hasAllW_cons hsh;obtain rfl:=hasAllW_nil h2;obtain⟨xs,rfl,h3⟩:=hasW_list h1;obtain⟨ns,rfl⟩:=items_int h3;have a9:ns.length≤n:=by
  unfold OpenLaw.pre at hc;have h4:(WTm.not (.lt (.lit (.int (n:Int))) (.len (.arg 0)))).holds [] {args:=[.list (ns.map .int)]}=true:=by have h4:=(holds_andW hc).1;rw[hn]at h4;exact h4
  have h5:=condW_of h4 (w_not (w_lt w_lit (w_len_list (w_arg rfl))));rw[Qa]at h5;refine Nat.le_of_not_lt λq=>?_;have q':(n:Int)<((ns.length:Nat):Int):=by exact zar9 ‹_›
  first
   |(rw[decide_eq_true q']at h5;exact absurd h5 (by decide))
   |(simp at h5;lia)
 cases dS with
 |cons w1 w2=>
  cases w2;cases w1 with
  |list ho cC=>exact⟨_,_,ns,rfl,rfl,ho,zgu ns _ cC,a9⟩
def post_true(l:OpenLaw)(args:List WData):l.row.toRowW.claim.post args HM args=true:=
 postW_of (r:=l.row.toRowW) (X:=(true==true))
  (show WShape.has [] HM .bool=true by first|rfl|decide|simp[WShape.has,WShape.arms,WShape.armsAll])
  (show(WTm.eq .res (.lit HM)).value [] {args:=args,res:=some HM,after:=args}=some (.bool (true==true)) from w_eq_bool (w_res rfl) w_lit) rfl
def attach_call{l:OpenLaw}{n:Nat}{q:Nk}{loose:Nj}{XP:(Str→Option Value)→Heap→Prop}{YP:World→Heap→Prop}{d:DefRec}(hn:l.most=some n)(mq:d.params.defaults=[])(call:∀ (w:Nl) (s₀ s₁:Nh) (mg mb:Ng) (fa:Nc) (o:Obj) (pm cd doc:Value) (a:Nc) (vs:Ni) (ns:List Int),
   Ground q loose [] XP w s₀ mg mb s₁.heap→YP w s₁.heap →
   s₁.heap.get? fa=some o→o.data=.func (docDef d.name d.params d.body d.scope pm cd doc)→s₁.heap.CodeRec cd d.name→mg d.name=some (DK fa) →
   s₁.heap.get? a=some {cls:=.type "list",data:=.seq vs.toArray}→XR ns→ns.length≤n→s₁.gens=#[] →
   codeAny (model l.prog w) callerA (.call (DK fa) ⟨[Gq],[]⟩) (λr s'=>r=.ok (.ret HM)∧OldK s₁.heap s'.heap∧s'.os=s₁.os∧AllBare s'.gens) s₁) :
  WalkO q loose XP YP l.row.toRowW d [] (λf vs=>Mh vs):=by
 intro w s₀ s₁ mg mb G Y fa o pm cd doc dV kV ho hd aQ hD qJ hg args i5 as dy hlay hrd dS dj;obtain rfl:dV=.none:=Dflts.none hD mq;obtain rfl:kV=.none:=Dflts.noKw hD;obtain⟨a,vs,ns,rfl,rfl,iU,fk,a9⟩:=script_of hn dy dS;refine enter_call (codeAny_mono (call w s₀ s₁ mg mb fa o pm cd doc a vs ns G Y ho (fd_plain hd) aQ qJ iU fk a9 hg) λr s' hq=>?_);obtain⟨rfl,h2,h3,h4⟩:=hq;exact⟨.inl ⟨HM,HM,[],rfl,λ_=>rfl,HM,post_true l _,λ_=>⟨List.Pairwise.nil,λ_ hm=>(nomatch hm)⟩⟩,h2,h3,h4⟩
end Att
namespace L2
open PySem PySem.Spec PyProof.Rows
theorem vals_ints:∀{vs:Ni} {ns:List Int},XR ns→M0 vs
 |_,_,.nil=>.nil
 |_,_,.cons n t h=>.cons ⟨t,rfl⟩ (vals_ints h)
def Only(H:Hp):Prop:=∀b,H b=none∨∃o xs,H b=some (.frz o (DX xs))
def law_call{P:Nk}{w:Nl}{K:Nb}{mg mb:Ng}{CX:CXT}{k:Nat}{fa a:Nc}{fd:Nu}{x:Str}{sp:Sp}{s₁:Nh}{vs:Ni}{ns:List Int}(KX:K.In s₁.heap)(oo:s₁.heap.Ns mainGlobals mg)(hb:s₁.heap.Ns builtinsNs mb)(oJ:∀x:Str,x ≠ "__name__" → mb x=bootBuiltins x)(qV:s₁.heap.NoLimit)(hg:s₁.gens=#[])(ha:s₁.heap.get? a=some {cls:=.type "list",data:=.seq vs.toArray})(hi:XR ns)(hl:ns.length≤sizeLine)(hr:UV callerA)(F:∀base:Heap,K.In base→base.Ns mainGlobals mg→ZC CX k fa fd [x] sp)(mz:∀(s:Shared) (u:Value),JF ⟨[u],[]⟩ [(x,u)])(fS:∀H:Hp,Only H→W0 (ns.map V.int)→sp [Gq] H (λv _=>v=.bl true) λ_ _ _=>False)(sf:∀H e s',CX [] H s₁ (λ_ _ _=>False) e s'→False) :
  codeAny (model P w) callerA (.call (DK fa) ⟨[Gq],[]⟩) (λr s'=>r=.ok (.ret HM)∧OldK s₁.heap s'.heap∧s'.os=s₁.os∧AllBare s'.gens) s₁:=by
 have rv:=vals_ints hi;have lenV:=hi.length;have core:∀ H:Hp,Only H→W0 (ns.map V.int)→WB s₁.heap→(∀ b,H b≠none→b=a)→(H a≠none→K.lookup a=none) →
   codeAny (model P w) callerA (.call (DK fa) ⟨[Gq],[]⟩) (λr s'=>r=.ok (.ret HM)∧OldK s₁.heap s'.heap∧s'.os=s₁.os∧AllBare s'.gens) s₁:=by
  intro H hO hS hok hA hK;have base_of:∀{b:Nc} {o:Obj},s₁.heap.get? b=some o→H b=none→(JO H).get? b=some o:=λe n=>hidT_get e n;have noA:∀{b:Nc} {o:Obj} {es:Array DictEntry} {ep:Nat},s₁.heap.get? b=some o→o.data=.dict es ep→H b=none:=λ{b o es ep} e d=>by
   cases q:H b with
   |none=>rfl
   |some u=>have e':b=a:=hA b (by rw[q];simp);subst e';rw[ha]at e;cases e;have d':Data.seq vs.toArray _=Data.dict es ep:=d;cases d'
  have nsK:∀{b:Nc} {m:Ng},s₁.heap.Ns b m→(JO H).Ns b m:=λ{b m} ⟨o,es,ep,e,d,r⟩=>⟨o,es,ep,base_of e (noA e d),d,r⟩;have hKb:K.In (JO H):=λb o e=>base_of (KX b o e) (by
   cases q:H b with
   |none=>rfl
   |some u=>have e':b=a:=hA b (by rw[q];simp);subst e';rw[hK (by rw[q];simp)]at e;cases e)
  have hM:Mod K mg (JO H):=⟨hKb,nsK oo,⟨mb,nsK hb,oJ⟩,let⟨mc,h1,h2⟩:=qV;⟨mc,nsK h1,h2⟩⟩;have e0:Env0 P w K mg (JO H) callerA [] s₁ H:=⟨rfl,hM,λb o e=>of_hidT e,Nat.le_of_eq (hidT_size _ _),trivial,λb hb=>absurd (show b∈([]:List Addr) from hb) DI,hok,.of_eq hg⟩;refine codeAny_mono ((F _ hKb (nsK oo)).run callerA [] s₁ H ⟨[Gq],[]⟩ [Gq] [Gq] _ _ hr e0 (mz s₁ Gq) (Hy rfl) (fS H hO hS)) λr s' h=>?_;cases r with
  |error e=>exact(sf H e s' h).elim
  | ok fl=>
   cases fl with
   |next=>exact False.elim h
   |brk=>exact False.elim h
   |cont=>exact False.elim h
   | ret u=>
    obtain⟨v,H',os,bare,un,qA,r',q⟩:=h;have q':v=.bl true:=q;subst q';obtain rfl:u=Value.bool true:=r';refine⟨rfl,OldK.of_keep λb o e=>?_,os,bare⟩;cases q:H b with
    |none=>exact un.keep b o e q (by intro z;exact absurd (show b∈([]:List Addr) from z) DI) DI
    |some u=>
     rcases hO b with z|⟨ob,xs,z⟩
     ·rw[q]at z;cases z
     have z2:=un.frzs b ob _ z;obtain⟨e1,_⟩:=hok b _ z;obtain⟨e2,_⟩:=qA b _ z2;rw[e]at e1;cases e1;exact e2
 cases hk:K.lookup a with
 |some o=>have e:=KX a o hk;rw[ha]at e;cases e;refine core (λ_=>none) (λ_=>.inl rfl) (G' ⟨_,vs.toArray,_,hk,rfl,rfl,rfl,by rw[Qp,lenV];exact hl,DJ rv⟩) (λb u z=>by have z':(none:Option HO)=some u:=z;cases z') (λb z=>absurd rfl z) λz=>absurd rfl z
 | none=>
  refine core (λb=>if b=a then some (.frz {cls:=.type "list",data:=.seq vs.toArray} (DX (ns.map V.int))) else none) (λb=>?_) (Gb (.inr ⟨{cls:=.type "list",data:=.seq vs.toArray},if_pos rfl⟩)) (λb u z=>?_) (λb z=>?_) λ_=>hk
  ·by_cases hb:b=a
   ·exact .inr ⟨_,_,Gh hb⟩
   exact .inl (Gm hb)
  ·by_cases hb:b=a
   ·have z':=(Gh hb).symm.trans z;cases z';subst hb;exact⟨ha,DR Qa hl,vs,_,rv,ha⟩
   have z':=(Gm hb).symm.trans z;cases z'
  by_cases hb:b=a
  ·exact hb
  exact absurd (Gm hb) z
def walk_of{l:PySem.W.OpenLaw}{n k:Nat}{q:Nk}{loose:Nj}{XP:(Str→Option Value)→Heap→Prop}{YP:World→Heap→Prop}{d:DefRec}{K:Params→PySem.W.Frag}{CX:World→CXT}{sp:World→Sp}{x:Str}(hn:l.most=some n)(bi:n≤sizeLine)(mq:d.params.defaults=[])(hr:UV callerA)(hY:∀(w:World) (h:Heap),YP w h→(K w.params).In h)(F:∀ (w:Nl) (mg:Ng) (fa:Nc) (h:Np),(K w.params).In h→h.Ns mainGlobals mg→mg d.name=some (DK fa) →
   ∃fd:FuncData,(∀(s:Nh) (u:Value),JF ⟨[u],[]⟩ [(x,u)]) ∧
    ∀base:Heap,(K w.params).In base→base.Ns mainGlobals mg→XS (CX w) k fa fd [x] (sp w))(fS:∀(w:Nl) (H:Hp) (a:Nc) (ns:List Int),ns.length≤n→Only H→SqL (K w.params) H a (ns.map V.int)→sp w [Gq] H (λv _=>v=.bl true) λ_ _ _=>False)(sf:∀(w:World) (H:Hp) (s:Shared) (e:Value) (s':Shared),CX w [] H s (λ_ _ _=>False) e s'→False) :
  PySem.W.WalkO q loose XP YP l.row.toRowW d [] (λf vs=>Mh vs):=by
 refine Att.attach_call hn mq λw s₀ s₁ mg mb fa o pm cd doc a vs ns G Y ho hd aQ qJ iU fk a9 hg=>?_;have KX:=hY w _ Y;obtain⟨fd,hb,hF⟩:=F w mg fa _ KX G.T.g qJ;exact law_call KX G.T.g G.T.b G.T.builtins G.T.nolimit hg iU fk (Zd a9 bi) hr hF hb (λH hO hS=>fS w H a ns a9 hO hS) λH e s'=>sf w H s₁ e s'
def inClass(s:Stmt)(j:Nat):Stmt:=match s with
 |.ClassDef _ _ _ body _ _ _ _ _ _ _=>body.getD j (.Pass ⟨0,0,0,0⟩)
 |_=>.Pass ⟨0,0,0,0⟩
def zdr(s:Stmt):Arguments:=match s with
 |.FunctionDef _ a _ _ _ _ _ _ _ _=>a
 |_=>{posonlyargs:=[],args:=[],vararg:=none,kwonlyargs:=[],kw_defaults:=[],kwarg:=none,defaults:=[]}
def zce(s:Stmt):List Stmt:=match s with
 |.FunctionDef _ _ b _ _ _ _ _ _ _=>b
 |_=>[]
def zag(s:Stmt):Scope:=match s with
 |.FunctionDef _ _ _ _ _ _ sc _ _ _=>sc
 |_=>{kind:=.function,names:=[],isGenerator:=false,isCoroutine:=false}
abbrev CX0:CXT:=λ_ _ _ _ _ _=>False
abbrev E0:XK:=λ_ _ _=>False
def za3{X:Cx}:zhn CX0 X E0:=λ_ _ _ _ _ _ _ h=>h.elim
structure Fun(K:Nb)(x qual:Str)(st:Stmt)(f:Nc)(fd:Nu):Prop where
 ex:∃(oc:Value) (od:Option Addr) (kV doc pm:Value) (an:Option Addr) (cdv ct:Value) (osl:Array GM),
  fd=WI (zag st) .none kV doc pm an cdv ct∧K.lookup f=some ⟨oc,od,.func fd,osl⟩∧J' cdv qual=true
 kp:W1 (DK f)=true
section
variable{P:Nk}{w:Nl}{K:Nb}{mg:Ng}{base:Np}
def Fun.ok{x qual:Str}{st:Stmt}{f:Nc}{fd:Nu}{N ps:Nj}{k:Nat}{sp:Sp}(F:Z2 x qual st f fd)(S:Vk (zag st))(len:∀vs H Q E,sp vs H Q E→vs.length=ps.length)(bv:∀ (cdv:Value) (A:No) (outer:List Env) (s:Nh) (H:Hp) (vs:List V) (Q:VK) (E:XK),UV Hf→sp vs H Q E →
   ∃t,PSs (U4 E).nox (zce st) t∧t {nx:=λ_ H'=>Q .non H',rt:=Q} (X6 vs) H):ZB (k+1) f fd ps sp:=by
 obtain⟨oc,od,kV,doc,pm,an,cdv,ct,osl,rfl,lk,aQ⟩:=F.ex;refine fn_of lk aQ S len λA outer s H vs Q E hr fS=>?_;obtain⟨t,h,q⟩:=bv cdv A outer s H vs Q E hr fS;exact⟨t,h.nox,q⟩
def Fun.binds{x qual:Str}{st:Stmt}{f:Nc}{fd:Nu}{ps:Nj}(F:Z2 x qual st f fd)(h:∀(kV doc pm:Value) (an:Option Addr) (cdv ct:Value) (us:Ni),us.length=ps.length→bindArgs HZ ⟨us,[]⟩=pure (ps.zip us)):Z8 fd ps []:=by obtain⟨oc,od,kV,doc,pm,an,cdv,ct,osl,rfl,lk,aQ⟩:=F.ex;exact .all (h kV doc pm an cdv ct)
def fun_mk{x qual:Str}{st:Stmt}{f:Nc}{oc:Value}{od an:Option Addr}{osl:Array GM}{kV doc pm cdv ct:Value}(l:K.lookup f=some ⟨oc,od,.func HZ,osl⟩)(c:J' cdv qual=true)(k:W1 (DK f)=true):Z2 x qual st f HZ:=⟨⟨oc,od,kV,doc,pm,an,cdv,ct,osl,rfl,l,c⟩,k⟩
def zco{A:No}{k:Nat}(hr:UV A):A.units+1<cLine:=Wf (Nat.add_le_add_left (by decide:1≤64) _) hr.units
variable{X:Cx}
def pv(i:Nat){x:Str}{pos:Pos}(hN:X.N[i]?=some x:=by rfl)(hv:K2 x:=by first|exact Or.inl rfl|exact Or.inr (Or.inl rfl)|exact Or.inr (Or.inr rfl))(hd:Fu=false:=by decide)(aQ:(x==("__classdict__" : Str))=false:=by decide):Z9 (HH pos) (tVar i):=pe_var hN hv hd aQ
def iteF{A B:Prop}(h:B):if false=true then A else B:=by rw[if_neg Za];exact h
def iteT{A B:Prop}(h:A):if true=true then A else B:=by rw[if_pos rfl];exact h
def ite2{c A B:Prop}[Decidable c](h1:c→A)(h2:¬c→B):if c then A else B:=by
 by_cases h:c
 ·rw[Gh h];exact h1 h
 rw[Gm h];exact h2 h
def clOf(sc:Scope)(env:Env):List (Str×Addr):=sc.names.foldl Fw []
theorem cl_fold:∀(l:GK (Str×NameKind)) (cs:GK (Str×Addr)),(∀y∈l,y.2=.free→∃c,env.cells.lookup y.1=some c) →
  (forIn l cs (λ(y:Str×NameKind) (r:GK (Str×Addr))=>(do
   let(name,kind):=y
   if(kind==.free)=true then do
    let a ←cellOf env name
    pure (FM ((name,a)::r))
   else pure (FM r):Sem (ForInStep (GK (Str×Addr))))))=(pure (l.foldl Fw cs):Sem (GK (Str×Addr)))
 |[],cs,_=>rfl
 | (n,k)::r,cs,h=>by
  rw[List.forIn_cons];have ih:=λcs=>cl_fold (env:=env) r cs λy hy=>h y (WD hy);by_cases hk:(k==NameKind.free)=true
  ·obtain⟨c,hc⟩:=h (n,k) Qe (DJ hk);have cY:env.cells.lookup n=some c:=hc;have e:cellOf env n=pure c:=by unfold cellOf;rw[cY]
   rw[Kb];dsimp only;rw[if_pos hk,if_pos hk,e,cY];exact ih _
  rw[Kb];dsimp only;rw[if_neg hk,if_neg hk];exact ih _
def zcr(h:∀y∈sc.names,y.2=.free→∃c,env.cells.lookup y.1=some c):closureFor sc env=pure (WT env):=by unfold closureFor;have e:=cl_fold (env:=env) sc.names [] h;exact(congrArg (λt:Sem (GK (Str×Addr))=>t >>= λcs=>pure cs) e).trans rfl
theorem clOf_in{env:Env}{x:Str}{c:Nc}:∀(l:GK (Str×NameKind)) (cs:GK (Str×Addr)),(∀y∈l,y.2=.free→∃c,env.cells.lookup y.1=some c)→(∀x c,cs.lookup x=some c→env.cells.lookup x=some c) →
  (l.foldl Fw cs).lookup x=some c→env.cells.lookup x=some c
 |[],cs,_,hc,e=>hc _ _ e
 | (n,k)::r,cs,h,hc,e=>by
  rw[Kb]at e;refine clOf_in r _ (λy hy=>h y (WD hy)) ?_ e;by_cases hk:(k==NameKind.free)=true
  ·obtain⟨a,ha⟩:=h (n,k) Qe (DJ hk);have ha':env.cells.lookup n=some a:=ha;dsimp only;rw[if_pos hk,ha'];intro x c q;rw[Us]at q;cases hx:x==n with
   |true=>
    rw[hx]at q;have q':a=c:=Qw q;have:x=n:=by simpa using hx
    rw[this,←q'];exact ha'
   |false=>rw[hx]at q;exact hc x c q
  dsimp only;rw[if_neg hk];exact hc
theorem zij{env:Env}{x:Str}:∀(l:GK (Str×NameKind)) (cs:GK (Str×Addr)),((x,NameKind.free)∈l∨∃c,cs.lookup x=some c) →
  ∃c,(l.foldl Fw cs).lookup x=some c
 |[],cs,h=>by
  rcases h with h|h
  ·exact absurd h DI
  exact h
 | (n,k)::r,cs,h=>by
  rw[Kb];refine zij r _ ?_;rcases h with h|⟨c,h⟩
  ·rcases Qi.mp h with e|e
   ·obtain⟨rfl,rfl⟩:=Kr e;exact .inr ⟨(env.cells.lookup x).getD 0,by dsimp only;rw[if_pos D4,List.lookup_cons];simp⟩
   exact .inl e
  refine .inr ?_;dsimp only;by_cases hk:(k==NameKind.free)=true
  ·rw[Gh hk,Us];cases hx:x==n with
   |true=>exact⟨RV⟩
   |false=>exact⟨c,h⟩
  rw[if_neg hk];exact⟨c,h⟩
end
structure Blk(X:Cx)(sc:Scope)(M:Nj)(ix:Nw):Prop where
 kind:sc.kind=.function
 nocell:∀y∈sc.names,y.2≠.cell
 names:∀y∈sc.names,y.2=.local→sc.names.lookup y.1=some .local
 frees:∀y∈sc.names,y.2=.free→X.env.scope.names.lookup y.1=some .cell∨X.env.scope.names.lookup y.1=some .free
 len:ix.length=M.length
 nd:M.Nodup
 caps:∀(j i:Nat) (x:Str),M[j]?=some x→ix[j]?=some (FX i)→X.N[i]?=some x∧sc.names.lookup x=some .free
def inner(ix:Nw)(σ:St):St:=ix.map λo=>match o with|none=>none|some i=>(σ[i]?).join
def zh5{sc:Scope}{env:Env}{x:Str}{oz:Option Str}(hn:∀ y∈sc.names,y.2=.cell→oz=some y.1)(h:(relabel sc env).names.lookup x=some .cell∨(relabel sc env).names.lookup x=some .free):(x,NameKind.free)∈sc.names∨oz=some x:=by
 have key:∀k',k'=.cell∨k'=.free→(x,k')∈(relabel sc env).names→(x,NameKind.free)∈sc.names∨oz=some x:=λk' r6 hm=>by
  obtain⟨⟨n,k⟩,hy,e⟩:=Qj.mp hm;dsimp only at e;by_cases hb:(k==NameKind.free&&env.scope.kind==.function&&env.kindOf n==some .cell)=true
  ·rw[Gh hb]at e;obtain⟨rfl,_⟩:=Kr e;have hk:k=.free:=by have:=(Bool.and_eq_true_iff.mp (Bool.and_eq_true_iff.mp hb).1).1;simpa using this
   rw[hk]at hy;exact .inl hy
  rw[Gm hb]at e;obtain⟨rfl,rfl⟩:=Kr e;rcases r6 with q|q
  ·exact .inr (hn _ hy q)
  rw[q]at hy;exact .inl hy
 rcases h with h|h
 ·exact key _ Fq (Wy h)
 exact key _ (G' rfl) (Wy h)
def ocl(oz:Option Str)(C:Nc)(cl:List (Str×Addr)):List (Str×Addr):=match oz with
 |none=>cl
 |some z=>(z,C+1)::cl
def och(oz:Option Str)(h:Np):Heap:=match oz with
 |none=>h
 |some _=>h.push {cls:=.type "cell",data:=.cell none}
structure BlkG(X:Cx)(sc:Scope)(oz:Option Str)(M:Nj)(ix:Nw):Prop where
 kind:sc.kind=.function
 own:∀y∈sc.names,y.2=.cell→oz=some y.1
 one:∀n cl,cellsFrom (n+1) sc.names cl=XT n cl
 psh:∀h,pushCells h sc.names=ND h
 zc:∀z,oz=some z→sc.names.lookup z=some .cell
 names:∀y∈sc.names,y.2=.local→sc.names.lookup y.1=some .local
 frees:∀y∈sc.names,y.2=.free→X.env.scope.names.lookup y.1=some .cell∨X.env.scope.names.lookup y.1=some .free
 len:ix.length=M.length
 nd:M.Nodup
 caps:∀(j i:Nat) (x:Str),M[j]?=some x→ix[j]?=some (FX i)→X.N[i]?=some x∧sc.names.lookup x=some .free
theorem zik:∀{l:List (Str×NameKind)} (_:∀y∈l,y.2≠.cell),(∀n cl,cellsFrom n l cl=cl)∧∀h,pushCells h l=h
 |[],_=>⟨DU,λ_=>rfl⟩
 |(a,k)::t,h=>by obtain⟨h1,h2⟩:=zik λy hy=>h y (WD hy);have hk:(k==NameKind.cell)=false:=beq_eq_false_iff_ne.mpr (h (a,k) Qe);exact⟨λn cl=>by unfold cellsFrom;rw[hk];exact h1 n cl,λg=>by unfold pushCells;rw[hk];exact h2 g⟩
def Blk.g{X:Cx}{sc:Scope}{M:Nj}{ix:Nw}(B:Y7 ix):BlkG X sc none M ix:=
 ⟨B.kind,λy hy h=>absurd h (B.nocell y hy),λn cl=>(zik B.nocell).1 _ cl,(zik B.nocell).2,λ_ h=>(by cases h),B.names,B.frees,B.len,B.nd,B.caps⟩
def zex(X:Cx)(sc:Scope)(oz:Option Str)(M:Nj)(C:Nc)(a6:Nd)(ex:Nn)(s:Nh)(H:Hp):Cx:=
 {X with N:=M,s₀:=s,H₀:=H,env:=compEnvC sc (XT C HR) C X.env,outer:=X.stack,ex:=ex,fn:=λx=>oz==some x,pn:=X.pn++a6,xe:=λ_ _=>False}
abbrev zdf(X:Cx)(sc:Scope)(M:Nj)(C:Nc)(a6:Nd)(ex:Nn)(s:Nh)(H:Hp):Cx:=zex X sc none M C a6 ex s H
section
variable{M:Model}{A:No}{E:Na}{s:Nh}
def newEnv_own{sc:Scope}{g:Nc}{cl:List (Str×Addr)}{q:Str}{env:Env}{oz:Option Str}{Q:Env→Shared→Prop}(one:∀n cl,cellsFrom (n+1) sc.names cl=XT n cl)(psh:∀h,pushCells h sc.names=ND h)(hQ:Q (newEnv sc s.heap.objs.size g (XT s.heap.objs.size cl) q none .none (FX env) builtinsNs) {s with heap:=ND (s.heap.push {cls:=.type "dict",data:=.dict #[]})}) :
  wpAny M A (newFunctionEnv sc g cl [] q none .none (FX env)) Q E s:=by
 simp only[newFunctionEnv,Option.isSome_some,if_true];refine wpAny_bind (wpAny_alloc (wpAny_bind (wpAny_layCells _ (λname kind cells=>by cases qZ:kind==NameKind.cell<;>simp[qZ]) _ _ _ _ ?_)));rw[psh,show({s with heap:=s.heap.push {cls:=.type "dict",data:=.dict #[]}}:Shared).heap.objs.size=s.heap.objs.size+1 from Ub ..,one];exact wpAny_pure hQ
end
section
variable{X:Cx}{sc:Scope}{oz:Option Str}{M:Nj}{ix:Nw}{a6:Nd}{σ:St}{H:Hp}{s:Nh}
def BlkG.clos(B:BE ix)(I:Fg):∀y∈sc.names,y.2=.free→∃c,X.env.cells.lookup y.1=some c:=λy hy hf=>I.ok.has y.1 (by rcases B.frees y hy hf with z|z;exact .inl z;exact .inr z)
def Blk.clos(B:Y7 ix)(I:Fg):∀y∈sc.names,y.2=.free→∃c,X.env.cells.lookup y.1=some c:=B.g.clos I
def inv_blkG{ex:Nn}{s':Nh}{C:Nc}(B:BE ix)(I:Fg)(hx:∀ b∈ex,WF b)(aa:∀ b∈ex,b < s.heap.objs.size)(hC:C=s.heap.objs.size)(hn:s'.heap.Ns C λ_=>none)(hz:∀z,oz=some z→s'.heap.IsCell (C+1) none)(hk:∀b o,s.heap.get? b=some o→s'.heap.get? b=some o)(hg:s'.gens=s.gens)(ho:s'.os=s.os):Inv (QS H) [] (UL σ) H s':=by
 have cls:=B.clos I;have cin:∀x c,(WT X.env).lookup x=some c→X.env.cells.lookup x=some c:=λx c e=>clOf_in sc.names [] cls (λ_ _ z=>by cases z) e;have cne:∀x c,(WT X.env).lookup x=some c→c<s.heap.objs.size:=λx c e=>by obtain⟨v,q⟩:=US (cin x c e);exact q.lt
 have zne:∀c:Addr,c<s.heap.objs.size→c≠C+1:=λc h e=>by rw[e,hC]at h;exact absurd (Ki h) (Yv _)
 have zin:∀x c,(XT C HR).lookup x=some c→(oz=some x∧c=C+1)∨oz≠some x∧(WT X.env).lookup x=some c:=λx c e=>by
  cases oz with
  |none=>exact .inr ⟨λz=>(by cases z),e⟩
  |some zn=>
   have e:((zn,C+1)::WT X.env).lookup x=some c:=e;rw[Us]at e;cases q:x==zn with
   |true=>rw[q]at e;exact .inl ⟨by rw[eq_of_beq q],(Qw e).symm⟩
   |false=>rw[q]at e;exact .inr ⟨λz=>(by rw[Qw z,beq_self_eq_true]at q;cases q),e⟩
 have zout:∀x c,oz≠some x→(WT X.env).lookup x=some c→(XT C HR).lookup x=some c:=λx c hx e=>by
  cases oz with
  |none=>exact e
  |some zn=>show((zn,C+1)::WT X.env).lookup x=_;rw[Us,beq_eq_false_iff_ne.mpr λz=>hx (by rw[z])];exact e
 refine⟨⟨I.ok.mod,?_,I.ok.glob,I.ok.blt,?_,λx y c h1 h2=>?_,λx hx=>?_,λx c h e=>?_,I.ok.hd,I.ok.frames,Fq,λb hb=>?_,I.bs,?_,λb o e hb=>?_,λb hb=>?_,I.stack,I.stkFree⟩,
  ?_,?_,Un.kept hk,⟨_,hn,λj x v e1 e2 e3=>?_⟩,λx c e=>?_,?_,λx c e=>?_,λp hp=>?_,I.hok.kept hk,?_⟩
 ·show (relabel sc X.env).kind=.function;exact B.kind
 ·show s.heap.objs.size≤C;rw[hC];exact Qd _
 ·rcases zin x c h1 with⟨a,b⟩|⟨_,a⟩ <;> rcases zin y c h2 with⟨a',b'⟩|⟨_,a'⟩
  ·exact Qw (a.symm.trans a')
  ·exact absurd b (zne c (cne y c a'))
  ·exact absurd b' (zne c (cne x c a))
  exact I.ok.inj x y c (cin x c a) (cin y c a')
 ·by_cases q:oz=some x
  ·exact⟨C+1,by show(XT C HR).lookup x=_;rw[q];show((x,C+1)::WT X.env).lookup x=_;rw[Us,beq_self_eq_true]⟩
  obtain⟨c,hc⟩:=zij (env:=X.env) sc.names [] (Gb ((zh5 B.own hx).resolve_right q));exact⟨c,zout x c q hc⟩
 ·have h':oz=some x:=by have:(oz==some x)=true:=h;exact eq_of_beq this
  rcases zin x c e with⟨_,b⟩|⟨b,_⟩
  ·show s.heap.objs.size≤c;rw[b,hC];exact Jc _
  exact absurd h' b
 ·have:=aa b hb;refine⟨λz=>?_,λx c e=>(zin x c e).elim (λq h=>zne b this (h.symm.trans q.2)) λe=>(hx b hb).2.2.2.2.1 x c (cin x c e.2)⟩;have z':b=C:=z;rw[z',hC]at this;exact Yv _ this
 ·exact ME I.sz
 ·rcases (hx b hb).2.2.2.1 with z|z
  ·exact VQ e z
  have h1:b < X.base.objs.size:=Qx e;have h2:=I.ok.bsz;have h3:X.s₀.heap.objs.size≤b:=z;exact absurd (Zw h1 (Zd h2 h3)) (Yv _)
 ·intro z;rcases Qi.mp (XO z) with q|q
  ·exact(hx b hb).2.1 q
  exact(hx b hb).2.2.1 q
 ·exact ho
 ·rw[hg];exact I.bare
 ·have hj:∃ i,ix[j]?=some (FX i)∧σ[i]?=some (FX v):=by
   unfold inner at e2;rw[Qr]at e2;cases q:ix[j]? with
   |none=>rw[q]at e2;cases e2
   | some o=>
    rw[q]at e2;cases o with
    |none=>cases e2
    |some i=>
     have oQ:(σ[i]?).join=some v:=Qw e2;cases q2:σ[i]? with
     |none=>rw[q2]at oQ;cases oQ
     |some w=>rw[q2]at oQ;exact⟨i,rfl,by rw[q2];exact congrArg some oQ⟩
  obtain⟨i,hi,hσ⟩:=hj;obtain⟨hN,bu⟩:=B.caps j i x e1 hi;have hm:=Wy bu;have dk:=B.frees (x,.free) hm rfl;obtain⟨m,_,hl⟩:=I.loc;obtain⟨u,ru,lk⟩:=hl i x v hN hσ (by rcases dk with z|z;exact .inr (Gb z);exact .inr (G' z));refine⟨u,ru,.inr ?_⟩;obtain⟨c,hc⟩:=zij (env:=X.env) sc.names [] (Gb hm);have cY:=cin x c hc;have lk2:s.heap.IsCell c (FX u):=by
   rcases lk with⟨k,_⟩|⟨_,c',e',z⟩
   ·have k':X.env.scope.names.lookup x=some .local:=k;rcases dk with q|q<;>(rw[show X.env.scope.names.lookup x=_ from q]at k';cases k')
   rw[cY]at e';cases e';exact z
  refine⟨?_,c,zout x c (λq=>by rw[B.zc x q]at bu;cases bu) hc,?_⟩
  ·have e3':Vis (relabel sc X.env) x:=e3;rcases e3' with z|z|z
   ·exfalso;have:=@lookup_relabel_local;have fX:∀(l:List (Str×NameKind)),l.lookup x=some .free→(l.map λ(y:Str×NameKind)=>match y with|(n,k)=>if(k==NameKind.free&&X.env.scope.kind==.function&&X.env.kindOf n==some .cell) then(n,NameKind.cell) else(n,k)).lookup x≠some .local:=by
     intro l;induction l with
     |nil=>intro h;cases h
     | cons y r ih=>
      obtain⟨n,k⟩:=y;intro h;rw[Us]at h;rw[Ql];dsimp only;by_cases hb:(k==NameKind.free&&X.env.scope.kind==.function&&X.env.kindOf n==some .cell)=true
      ·rw[Gh hb,Us];cases hx:x==n with
       |true=>intro q;cases q
       |false=>rw[hx]at h;exact ih h
      rw[Gm hb,Us];cases hx:x==n with
      |true=>rw[hx]at h;intro q;have h':k=NameKind.free:=Qw h;have q':k=NameKind.local:=Qw q;rw[h']at q';cases q'
      |false=>rw[hx]at h;exact ih h
    exact fX sc.names bu z
   ·exact .inl z
   exact .inr z
  obtain⟨o,ao,gE⟩:=lk2;exact⟨o,hk c o ao,gE⟩
 ·rcases zin x c e with⟨a,b⟩|⟨_,b⟩
  ·rw[b];exact⟨none,hz x a⟩
  obtain⟨v,o,ao,gE⟩:=US (cin x c b);exact⟨v,o,hk c o ao,gE⟩
 ·show H C=none;rw[hC];exact I.hok.fresh D9
 ·rcases zin x c e with⟨_,b⟩|⟨_,b⟩
  ·rw[b];exact I.hok.fresh (by rw[hC];exact Jc _)
  exact UC (cin x c b)
 ·have dz:p∈X.pn++a6:=by have:p∈(X.pn++a6)++[]:=hp;rwa[Zu]at this
  obtain⟨e,n,ne,nf,d⟩:=Y2 dz;refine⟨hk _ _ e,n,?_,λz=>?_,d⟩
  ·intro z;have z':p.1=C:=z;have:=Qx e;rw[z',hC]at this;exact Yv _ this
  rcases Qi.mp (I.stkSub _ z) with q|q
  ·exact ne q
  exact nf q
 unfold inner;rw[Qa];exact B.len
def inv_blk(B:Y7 ix)(I:Fg)(hx:∀b∈ex,WF b)(aa:∀b∈ex,b<s.heap.objs.size)(hC:C=s.heap.objs.size)(hn:s'.heap.Ns C λ_=>none)(hk:∀b o,s.heap.get? b=some o→s'.heap.get? b=some o)(hg:s'.gens=s.gens)(ho:s'.os=s.os):Inv (ZV H) [] (UL σ) H s':=inv_blkG B.g I hx aa hC hn (λ_ h=>by cases h) hk hg ho
def PTs(X:Cx)(ifs:Nq)(t:TT):Prop:=
 ∀(a6:Nd) (s:Nh) (σ:St) (H:Hp) (Q:Bool→Hp→Prop),ZA H s→t σ H Q →
  wpAny DT X.A (forIn ifs true λc r=>if r=true then do let ok ←isTrue c X.env (FJ c);pure (FM ok) else pure (FM r)) (Vh Q) X.xe s
def tAll:TT:=λ_ H Q=>Q true H
def zdb:PTs X [] tAll:=λ_ _ _ H _ I h=>wpAny_tests_nil ⟨H,I,h⟩
def zh6(h:K4 c t):PTs X [c] t:=λa6 s σ H Q I q=>wpAny_tests_one (h a6 s σ H Q I q)
def compLoop_any{prog:Nk}{w:Nl}{A:No}{s:Nh}{elt target iter:Expr}{ifs:Nq}{scope:Scope}{pos:Pos}{it ai:Value}{env:Env}{R:Nv}(I:Nat→Shared→Prop)(turn:∀ n s,I n s→wpAny (model prog w) A (pyNext it) (λr s₁=>match r with
   |none=>R (.ok .next) s₁
   | some v=>ZG (letOwnedTupleGo target it v) (λ_ s₁'=>ZG (assign target env v) (λ_ s₂=>
     wpAny D7 A (forIn ifs true λc r=>if r=true then do let ok ←isTrue c env (eval c env);pure (FM ok) else pure (FM r)) (λok s₃=>
      if ok=true then ZG (eval elt env) (λx s₄=>wpAny D7 A (call (.builtin "list.append") [ai,x]) (λ_ s₅=>∃m,m<n∧I m s₅) (λ_ _=>False) s₄) (λ_ _=>False) s₃
      else ∃m,m<n∧I m s₃) (λ_ _=>False) s₂) (λ_ _=>False) s₁') (λ_ _=>False) s₁) (λ_ _=>False) s)(n:Nat)(h:I n s):codeAny D7 A (.compLoop (.ListComp elt [⟨target,iter,ifs,0⟩] scope pos) 0 it ai env) R s:=by
 refine codeAny_loop rfl I (λn s hI=>?_) n h;show ZY A ((compTurn (.ListComp elt [⟨target,iter,ifs,0⟩] scope pos) 0 it ai env).onRaise (λx=>do noteFrame x env;theTreesLotGoes x)) _ _ s;refine wpAny_noted ?_;rw[compTurn_list];refine wpAny_bind (wpAny_standAt (wpAny_bind (VU (λr s₁ h₁=>?_) λ_ _ h'=>h'.elim)));cases r with
 |none=>exact wpAny_pure h₁
 |some v=>
  refine wpAny_bind (K5 (λ_ s₁' h₁'=>?_) λ_ _ h'=>h'.elim);refine wpAny_bind (Dp (λ_ s₂ h₂=>wpAny_bind (K6 (λok s₃ h₃=>?_) λ_ _ h'=>h'.elim)) λ_ _ h'=>h'.elim);cases ok with
  |false=>exact wpAny_pure ⟨rfl,h₃⟩
  |true=>exact wpAny_bind (wpAny_bind (wpAny_mono h₃ (λx s₄ h₄=>wpAny_bind (wpAny_mono h₄ (λ_ s₅ h₅=>wpAny_pure (wpAny_pure ⟨rfl,h₅⟩)) λ_ _ h'=>h'.elim)) λ_ _ h'=>h'.elim))
def rLC(g:TG)(tc:TT)(te:TE)(Q:VK)(J:It)(τ:St)(H1:Hp):Prop:=∃W:Nat→Nat→List V→St→Hp→Prop,(∃m,W 0 m [] τ H1)∧∀i m ys τ H,W i m ys τ H →
 (MF H∧∀D,H D=none→Q GJ (Hh D ys)) ∨
 (J.go i H∧ys.length<sizeLine∧∀x H',KY H'→g x τ H' λ τ2 H2=>tc τ2 H2 λb H3=>if b=true then te τ2 H3 λy H4=>∃m',m'<m∧W Fj m' (ys++[y]) τ2 H4 else ∃m',m'<m∧W Fj m' ys τ2 H3)
def tLC(ix:Nw)(wi:TI)(g:TG)(tc:TT)(te:TE):TE:=λ σ H Q=>wi σ H λJ H1=>Bf H1
def lc_blockG{tg elt iter:Expr}{ifs:Nq}{pos:Pos}{g:TG}{tc:TT}{te:TE}{fp:Nn}{it:Nc}{tn:Nat→Heap→Prop}{J:It}{Q:VK}{RR:Value→Addr→Result→Shared→Prop}{E:Na}(B:BE ix)(hc:X.calm=true)(hg:∀C ex s H,PG (QS H) tg g)(ht:∀C ex s H,PTs (QS H) ifs tc)(he:∀C ex s H,PE (QS H) elt te)(I:Fg)(T:UW tn)(h0:tn 0 s.heap)(hf:∀b∈fp,WF b)(q:Bf H)(mV:∀D C m ys H' s',ZA (YQ D (DX ys)) s'→Q GJ (YQ D (DX ys))→s'.heap.Ns C m→YQ D (DX ys) C=none→s.heap.objs.size<C→RR GJ C (.ok .next) s') :
  wpAny DT X.A (newList []) (λai s₃=>ZF (newFunctionEnv sc X.env.globals HR [] X.env.qual none .none (some X.env)) (λcenv s₄=>codeAny DT X.A (.compStart Fn 0 (DK it) ai {cenv with scope:=relabel sc X.env}) (RR ai cenv.locals) s₄) E s₃) E s:=by
 refine wpAny_newObj_type (newEnv_own B.one B.psh ?_);dsimp only;generalize hD:s.heap.objs.size=D;generalize hW:s.heap.push {cls:=.type "list",dict:=none,data:=.seq ([]:List Value).toArray}=g2;generalize rB:ND (g2.push {cls:=.type "dict",data:=.dict #[]})=h₁;have kp:∀(q:Np) (b:Nc) (o:Obj),q.get? b=some o→(ND q).get? b=some o:=λq b o e=>by
  cases oz with
  |none=>exact e
  |some _=>exact Q5 e
 have hns₁:h₁.Ns g2.objs.size (λ_=>none):=rB▸(Heap.Ns.new g2 (.type "dict")).keeps λb o e=>kp _ b o e;have hz₁:∀z,oz=some z→h₁.IsCell (g2.objs.size+1) none:=λz ez=>by have e:(g2.push {cls:=.type "dict",data:=.dict #[]}).objs.size=g2.objs.size+1:=Ub ..;rw[←rB,←e,ez];exact⟨_,Re,rfl⟩
 have hC:g2.objs.size=D+1:=by rw[←hW,Ub,hD]
 have k2:∀b o,s.heap.get? b=some o→g2.get? b=some o:=λb o e=>by rw[←hW];exact Q5 e
 have I3:ZA H {s with heap:=g2}:=I.kept (t':=s.toks) k2;have HD:H D=none:=I.hok.fresh (by rw[hD];exact Qd _);have fD:WF D:=I.fpOk (by rw[hD];exact Qd _) HD;have D2:g2.get? D=some {cls:=.type "list",dict:=none,data:=.seq ([]:List Value).toArray}:=by rw[←hW,←hD];exact JM rfl
 have k1:∀b o,g2.get? b=some o→h₁.get? b=some o:=λb o e=>rB▸kp _ b o (Q5 e);have fpx:∀b∈D::fp,WF b:=λb hb=>by
  rcases Qi.mp hb with e|e
  ·rw[e];exact fD
  exact hf b e
 have fplt:∀b∈D::fp,b<g2.objs.size:=λb hb=>by
  rcases Qi.mp hb with e|e
  ·rw[e,hC];exact Wa _
  obtain⟨o,q,_⟩:=UD h0 b e;exact Qx (k2 b o q)
 have fpD:D∉fp:=λhm=>by obtain⟨o,q,_⟩:=UD h0 D hm;have:=Qx q;rw[hD]at this;exact Yv _ this
 generalize aH:zex X sc oz M g2.objs.size a6 (D::fp) {s with heap:=g2} H=Y;have IY:XD [] (UL σ) H {s with heap:=h₁,toks:=s.toks+([]:List (Str×Value)).length}:=by rw[←aH];exact inv_blkG B I3 fpx fplt rfl hns₁ hz₁ k1 rfl rfl
 have Yg:=aH▸hg g2.objs.size (D::fp) {s with heap:=g2} H;have Yt:=aH▸ht g2.objs.size (D::fp) {s with heap:=g2} H;have Ye:=aH▸he g2.objs.size (D::fp) {s with heap:=g2} H;have eP:Y.prog=X.prog:=by rw[←aH];rfl
 have eW:Y.w=X.w:=by rw[←aH];rfl
 have eK:Y.K=X.K:=by rw[←aH];rfl
 have eA:Y.A=X.A:=by rw[←aH];rfl
 have eC:Y.calm=true:=by rw[←aH];exact hc
 have eE:Y.env=compEnvC sc (XT g2.objs.size HR) g2.objs.size X.env:=by rw[←aH];rfl
 have eX:Y.xe=λ_ _=>False:=by rw[←aH];rfl
 have eEx:Y.ex=D::fp:=by rw[←aH];rfl
 have eFs:Y.fs=frs X.stack:=by rw[←aH];rfl
 have ePn:Y.pn=X.pn++a6:=by rw[←aH];rfl
 have eL:Y.env.locals=g2.objs.size:=by rw[eE];rfl
 have sr:Y.H₀=H:=by rw[←aH];rfl
 have ni:Y.s₀={s with heap:=g2}:=by rw[←aH];rfl
 have fY:∀{H':Hp} {pl:Nd} {b:Nc},b∈D::fp→H' b=none→(∀p∈pl,p.1≠b)→FpOk Y pl H' b:=λ{H' pl b} hb hn hp=>by
  obtain⟨f0,f1,f2,f3,f4,f5⟩:=fpx b hb;refine⟨hn,?_,?_,Gb (DR eEx hb),IY.ok.exf b (DR eEx hb) |>.2,λp dz=>?_⟩
  ·rw[eL];exact Zm (fplt b hb)
  ·rw[eFs];intro z;rcases Qi.mp (I3.stkSub b z) with q|q
   ·exact f1 q
   exact f2 q
  rw[ePn]at dz;rcases Qg.mp dz with z|z
  ·exact f5 p z
  exact hp p z
 obtain⟨W,⟨m0,w0⟩,turn⟩:=q;have loop:∀ sN:Shared,sN={ s with heap:=h₁,toks:=s.toks+([]:List (Str×Value)).length } →
   codeAny DT X.A (.compLoop Fn 0 (DK it) GJ (compEnvC sc (XT g2.objs.size HR) g2.objs.size X.env)) (RR GJ g2.objs.size) sN:=by
  rintro sN rfl;refine compLoop_any (λn s'=>Ex6 λi τ H' ys a8 k=>Aj7 (XD [] τ H' s') (tn i s'.heap) (∀b∈D::fp,H' b=none) (s'.heap.get? D=some {cls:=.type "list",data:=.seq (a8:Ni).toArray k}) (UF a8) (ys.length≤sizeLine) (W i n ys τ H')) ?_ m0
   ⟨0,UL σ,H,[],[],0,IY,YF h0 λb _ o e=>k1 b o (k2 b o e),λb hb=>(fpx b hb).1,k1 _ _ D2,.nil,HY,w0⟩
  rintro n s5 ⟨i,τ,H5,ys,a8,k,I5,t5,n5,d5,v5,z5,w5⟩;have oD:∀{s':Nh} {its':Ni} {k':Nat},s'.heap.get? D=some {cls:=.type "list",data:=.seq its'.toArray k'}→∀b∈[D],∃o,s'.heap.get? b=some o∧∀v,o.data≠.cell v:=λ{s' its' k'} e b hb=>by rw[Qc.mp hb];exact⟨_,e,λv z=>by cases z⟩
  have jG:XD ([]++zcu [D] s5.heap) τ H5 s5:=I5.pinned (λb hb=>fY (by rw[Qc.mp hb];exact Qe) (n5 b (by rw[Qc.mp hb];exact Qe)) DI) (oD d5);have pD:∀p∈zcu [D] s5.heap,p.1=D∧p.2={cls:=.type "list",data:=.seq a8.toArray k}:=λp hp=>by obtain⟨e1,e2⟩:=zgj hp;have dN:p.1=D:=Qc.mp e1;rw[dN,d5]at e2;exact⟨dN,(Qw e2).symm⟩
  have fN:∀{H':Hp},(∀b∈fp,H' b=none)→∀b∈fp,FpOk Y ([]++zcu [D] s5.heap) H' b:=λhn b hb=>fY (WD hb) (hn b hb) λp hp z=>by rw[Kv]at hp;rw[(pD p hp).1]at z;exact fpD (z▸hb)
  rcases NX w5 with⟨stop,qn⟩|⟨go,zl,step⟩
  ·have h6:=XZ (λ_ _=>False) jG (fN λb hb=>n5 b (WD hb)) t5 stop;rw[eA]at h6;refine thn h6 λr s6 ⟨hr,I6⟩=>?_;subst hr;have d6:s6.heap.get? D=some {cls:=.type "list",data:=.seq a8.toArray k}:=by have hp:=zbx (fp:=[D]) RM d5;exact(I6.pin (D,_) (Y6 hp)).1
   have H5D:H5 D=none:=n5 D Qe;obtain⟨mL,nL,_⟩:=I6.loc;rw[eL]at nL;have CD:g2.objs.size≠D:=by rw[hC];exact Nat.succ_ne_self _
   refine mV D _ mL ys H5 s6 ?_ (qn D H5D) nL ?_ (by rw[hC,hD];exact Wa _)
   ·have u6:=I6.base;rw[eFs,eEx,sr,ni]at u6;refine I3.call' (ch:=D::fp) (I6.os.trans (by rw[ni])) ⟨u6.keep,u6.slot,λb o e n hx=>?_,u6.there,λb xs e=>?_,λb o u e=>?_,λb ps e=>?_⟩ ?_ I6.bare λb hb=>?_
    ·rw[zaf (λz=>hx (DR z Qe))];exact u6.free b o e n hx
    ·rw[zaf (BF HD)];exact u6.tups b xs e
    ·rw[zaf (BF HD)];exact u6.frzs b o u e
    ·rw[zaf (BF HD)];exact u6.tbls b ps e
    ·have kR:=I6.hok;rw[eP,eW]at kR;intro b u e;by_cases hb:b=D
     ·subst hb;rw[zac]at e;cases e;exact⟨z5,a8,k,v5,d6⟩
     rw[zaf hb]at e;exact(kR b u e).stay (λc v _ q=>q) (λc q=>by rw[zaf (Vg H5D)];exact q) λc xs q=>by rw[zaf (Vg H5D)];exact q
    obtain⟨f0,f1,f2,f3,f4,f5⟩:=fpx b hb;exact⟨f3,f1,f4,f5⟩
   rw[zaf CD];have:=I6.free;rw[eL]at this;exact this
  have h6:=X0 (λ_ _=>False) jG (fN λb hb=>n5 b (WD hb)) t5 go;rw[eA]at h6;refine thn h6 λr s6 ⟨u,hr,h7⟩=>?_;subst hr;refine thn h7 λ_ s7 ⟨x,H7,I7,r7,y7,t7,n7⟩=>?_;have sH:=NY (UD t7);have h8:=Yg _ s7 τ H7 x u _ sH r7 (step x H7 y7);rw[eP,eW,eA,eX,eE]at h8;refine thn h8 λ_ s8 ⟨τ8,H8,I8,q8⟩=>?_;have h9:=Yt _ s8 τ8 H8 _ I8 q8;rw[eP,eW,eA,eX,eE]at h9;refine thn h9 λok s9 ⟨H9,I9,q9⟩=>?_;have again:∀{τ':St} {H':Hp} {s':Nh},XD (([]++zcu [D] s5.heap)++Md s7.heap) τ' H' s'→s'.heap.get? D=some {cls:=.type "list",data:=.seq a8.toArray k}∧H' D=none∧tn Fj s'.heap∧∀b∈fp,H' b=none:=λ{τ' H' s'} I'=>by
   have pp:∀{b:Nc} {o:Obj},b∈fp→s7.heap.get? b=some o→s'.heap.get? b=some o∧H' b=none:=λ{b o} hb e=>
    let z:=I'.pin (b,o) (Y6 (Y6 (zbx hb e)))
    ⟨z.1,z.2.1⟩
   have hp:=zbx (fp:=[D]) RM d5;have z:=I'.pin (D,_) (Y6 (UT hp));refine⟨z.1,z.2.1,YF t7 λb hb o e=>(pp hb e).1,λb hb=>?_⟩;obtain⟨o,e,_⟩:=UD t7 b hb;exact(pp hb e).2
  have drop:∀{pl:Nd} {τ':St} {H':Hp} {s':Nh},XD pl τ' H' s'→XD [] τ' H' s':=λI'=>I'.pins_of DI;cases ok with
  |false=>rw[if_neg DL]at q9 ⊢;obtain⟨m',hm,w9⟩:=q9;obtain⟨d9,H9D,t9,n9⟩:=again I9;exact⟨m',hm,i+1,τ8,H9,ys,a8,k,drop I9,t9,λb hb=>(Qi.mp hb).elim (λe=>e▸H9D) (n9 b),d9,v5,z5,w9⟩
  | true=>
   rw[if_pos rfl]at q9 ⊢;have jA:=Ye _ s9 τ8 H9 _ I9 q9;rw[eP,eW,eA,eX,eE]at jA;refine thn jA λy i8 ⟨yv,jH,oZ,nz,m',hm,w10⟩=>?_;obtain⟨sv,H10D,t10,n10⟩:=again oZ;refine call_meets F.slot_list_append ⟨_,sv,rfl⟩ F.entry_list_append (Mf _) (PySem.list_append D a8.toArray k y (by rw[Qp,←v5.length];assumption)) ⟨sv,?_⟩;have q:=PySem.IsL.update sv (λa=>a.push y);have e11:(a8.toArray.push y)=(a8++[y]).toArray:=by simp
   rw[e11]at q;have kk:∀b o,b≠D→i8.heap.get? b=some o→(i8.heap.update D (Obj.mapSeq λa=>a.push y)).get? b=some o:=λb o hb e=>(Yz i8.heap (Obj.mapSeq λa=>a.push y) (Zj hb)).trans e;obtain⟨g0,g1,g2',g3,g4,g5⟩:=fY (pl:=[]) (H':=jH) (b:=D) Qe H10D DI;have oW:=(drop oZ).turned (h':=i8.heap.update D (Obj.mapSeq λa=>a.push y)) (t':=i8.toks) (it:=D) kk H10D g1 g3 g4 g5;exact⟨m',hm,i+1,τ8,jH,ys++[yv],a8++[y],_,oW,YF t10 λb hb o e=>kk b o (λz=>fpD (z▸hb)) e,λb hb=>(Qi.mp hb).elim (λe=>e▸H10D) (n10 b),q,v5.append (Hy nz),
    by rw[Qk,Kn];assumption,w10⟩
 exact codeAny_compStart_list (loop _ rfl) (Dq (YF h0 λb _ o e=>k1 b o (k2 b o e)) (loop _ rfl))
def lc_block{tg elt iter:Expr}{ifs:Nq}{pos:Pos}{g:TG}{tc:TT}{te:TE}{fp:Nn}{it:Nc}{tn:Nat→Heap→Prop}{J:It}{Q:VK}{RR:Value→Addr→Result→Shared→Prop}{E:Na}(B:Y7 ix)(hc:X.calm=true)(hg:∀C ex s H,Bk g)(ht:∀C ex s H,JP tc)(he:∀C ex s H,Bg elt te)(I:Fg)(T:UW tn)(h0:tn 0 s.heap)(hf:∀b∈fp,WF b)(q:Bf H)(mV:∀D C m ys H' s',ZA (YQ D (DX ys)) s'→Q GJ (YQ D (DX ys))→s'.heap.Ns C m→YQ D (DX ys) C=none→s.heap.objs.size<C→RR GJ C (.ok .next) s') :
  wpAny DT X.A (newList []) (λai s₃=>ZF (newFunctionEnv sc X.env.globals HR [] X.env.qual none .none (some X.env)) (λcenv s₄=>codeAny DT X.A (.compStart Fn 0 (DK it) ai {cenv with scope:=relabel sc X.env}) (RR ai cenv.locals) s₄) E s₃) E s:=lc_blockG B.g hc hg ht he I T h0 hf q mV
def Inv.letgo{C:Nc}{m:Ng}{h':Np}{s₀:Np}(I:Fg)(hn:s.heap.Ns C m)(hC:H C=none)(aa:X.env.locals<s₀.objs.size)(jt:∀x c,X.env.cells.lookup x=some c→c<s₀.objs.size)(hp:∀p∈X.pn++a6,p.1<s₀.objs.size)(aR:X.s₀.heap.objs.size≤s₀.objs.size)(hc:s₀.objs.size<C)(hs:Heap.SameBut C s.heap h'):ZA H {s with heap:=h'}:=
 I.turned (t':=s.toks) (it:=C) (λb o hb e=>(hs.2 b hb).trans e) hC (We (Wq aa hc)) (G' (Zd aR (Zt hc))) (λx c e=>Zm (Wq (jt x c e) hc)) λp q=>Zm (Wq (hp p q) hc)
def Inv.cl_lt(I:Fg):∀x c,X.env.cells.lookup x=some c→c<s.heap.objs.size:=λx c e=>by obtain⟨v,q⟩:=US e;exact q.lt
def Inv.pin_lt(I:Fg):∀p∈X.pn++a6,p.1<s.heap.objs.size:=λp hp=>Qx (Y2 hp).1
def pe_lcC(B:BE ix)(hc:X.calm=true)(hi:JE iter wi)(hg:∀C a6 ex s H,PG (QS H) tg g)(ht:∀C a6 ex s H,PTs (QS H) ifs tc)(he:∀C a6 ex s H,PE (QS H) elt te)(hs:∀x,foldedSetIterable iter X.env x=pure x:=by intro _;rfl):Z9 Fn (Vn te):=by intro a6 s σ H Q I h;rw[eval_ListComp];refine wpAny_comprehension_free (use:=none) rfl hs (zcr (B.clos I)) B.kind B.names (thn Rc λv s1 h1=>thn h1 λitv s2 h2=>?_);obtain⟨it,fp,tn,J,H2,e,I2,T,au,f2,q⟩:=h2;subst e;refine lc_blockG (RR:=λai C=>compPost DT X.A X.xe none (QB Q) ai C) B hc (hg · a6) (ht · a6) (he · a6) I2 T au f2 q ?_;intro D C m ys H' s' I' q' hn hC aa;refine⟨m,hn,λh' bX=>⟨GJ,_,I'.letgo hn hC I2.lt I2.cl_lt I2.pin_lt I2.sz aa bX,rfl,q'⟩⟩
def zia(B:Y7 ix)(hc:X.calm=true)(hi:JE iter wi)(hg:∀C a6 ex s H,Bk g)(ht:∀C a6 ex s H,JP tc)(he:∀C a6 ex s H,Bg elt te)(hs:∀x,foldedSetIterable iter X.env x=pure x:=by intro _;rfl):Z9 Fn (Vn te):=pe_lcC B.g hc hi hg ht he hs
def ps_lc(hN:X.N.Nodup)(dD:X.N[i]?=some y)(hy:X.env.scope.names.lookup y=some .local)(B:Y7 ix)(hc:X.calm=true)(hi:JE iter wi)(hg:∀C a6 ex s H,Bk g)(ht:∀C a6 ex s H,JP tc)(he:∀C a6 ex s H,Bg elt te)(qe:swapsWith Fn (FX (.Name y py)) spos.line X.env=pure true)(hs:∀x,foldedSetIterable iter X.env x=pure x:=by intro _;rfl):X3 (.Assign [.Name y py] Fn spos) (tAsg (Vn te) (gName i)):=by
 intro a6 s σ H D' I h;rw[exec_Assign_Name_used _ _ _ _ qe];refine wpAny_bind (wpAny_standAt (wpAny_bind ?_));show ZY X.A (do let _ ←comprehension Fn sc X.env _ (newList []) false (eval iter X.env) (FX Hq)) _ _ s;refine wpAny_bind (wpAny_mono (wpAny_comprehension_free (use:=some Hq) (Q:=λ_ s'=>JX D' .next s') rfl hs (zcr (B.clos I)) B.kind B.names
  (thn Rc λv s1 h1=>thn h1 λitv s2 h2=>?_)) (λ_ s' hq=>wpAny_pure (FA hq)) λ_ _ e=>e)
 obtain⟨it,fp,tn,J,H2,e,I2,T,au,f2,q⟩:=h2;subst e;refine lc_block (RR:=λai C=>compPost DT X.A X.xe (FX Hq) (λ_ s'=>JX D' .next s') ai C) B hc (hg · a6) (ht · a6) (he · a6) I2 T au f2 q ?_;intro D C m ys H' s' I' q' hn hC aa;show ZY X.A (assign (.Name y py) X.env GJ) _ _ s';refine wpAny_assign_Name (Mi (v:=.ref D) rfl (λkK sI ⟨a,sb,ha⟩=>?_) (G' hy));have aC:C≠a:=by
  rcases ha with z|z
  ·rw[z];exact We (Wq I2.lt aa)
  exact We (M3 aa)
 have bi:=hn.sameBut sb aC;exact⟨m,bi,λh' bX=>⟨_,_,sI.letgo bi hC I2.lt I2.cl_lt I2.pin_lt I2.sz aa bX,q'⟩⟩
end
end L2
namespace Tm
open PySem PyProof.Rows
def zgx:Bool→Keyed→Array Keyed→Nat→Nat→Nat→StateT SortSt Sem (Option Nat):=sortPriv% PySem.Builtin.gallop
def zen:Array Keyed→Array Keyed→StateT SortSt Sem (Array Keyed):=sortPriv% PySem.Builtin.mergeLo
def zeo:Array Keyed→Array Keyed→StateT SortSt Sem (Array Keyed):=sortPriv% PySem.Builtin.mergeHi
section
variable{σ α β:Type}{M:Model}{A:No}{E:Na}{s:Nh}{Q:α→σ→Prop}{st:σ}{c:Prop}[Decidable c]
def zb9(h:∀Q0:α→σ→Prop,(∀r a7,Q r a7→Q0 r a7)→Q6 m Q0 st):Q6 m Q st:=h Q λ_ _ z=>z
def jp_if{f:Unit→β→J6 α}(h:∀z,Q6 (f () z) Q st):Q6 (if c then f () x else f () y) Q st:=by
 split
 ·exact h _
 exact h _
def zam{x y:J6 α}(h1:c→Q6 x Q st)(h2:¬c→Q6 y Q st):Q6 (if c then x else y) Q st:=by
 split
 next z=>exact h1 z
 next z=>exact h2 z
end
section
variable{prog:Nk}{w:Nl}{A:No}{E:Na}{s:Nh}{kd:SortKind}{a₀:Array Keyed}
def Cmp(prog:Nk)(w:Nl)(A:No)(E:Na)(s:Nh)(kd:SortKind)(a₀:Array Keyed):Prop:=
 ∀(x y:Keyed) (st:SortSt) (Q:Option Bool→SortSt→Prop),x∈a₀.toList→y∈a₀.toList→kindOf st=kd→(∀b,Q (FX b) st)→ZE (lt' x y) Q st
def Of(a₀ xs:Array Keyed):Prop:=∀(i:Nat) (p:Keyed),xs[i]?=some p→p∈a₀.toList
def zal{arr:Array Keyed}{i:Nat}{p:Keyed}{Q:Keyed→SortSt→Prop}{st:SortSt}(h:arr[i]?=some p)(q:Q p st):ZE (elem' arr i) Q st:=by rw[elem'_eq,h];exact wpS_pure q
def zd9(left:Bool)(ky:Keyed)(arr:Array Keyed)(i:Nat):QL (Option Bool):=do
 let x ←elem' arr i
 if left=true then lt' x ky else do
  let r ←lt' ky x
  pure (r.map λz=>!z)
def ze3{left:Bool}{ky:Keyed}{arr:Array Keyed}{i:Nat}{Q:Option Bool→SortSt→Prop}{st:SortSt}(C:ZW a₀)(hk:kindOf st=kd)(hO:YG arr)(hy:ky∈a₀.toList)(hi:i<arr.size)(q:∀b,Q (FX b) st):ZE (Bt i) Q st:=by
 have e:=getElem?_pos arr i hi;unfold zd9;refine wpS_bind (zal e ?_);have m:=hO _ _ e;cases left with
 |true=>exact C _ _ _ _ m hy hk q
 |false=>exact wpS_bind (C _ _ _ _ hy m hk λb=>wpS_pure (q _))
def za5{left:Bool}{ky:Keyed}{arr:Array Keyed}{base n hint:Nat}{Q:Option Nat→SortSt→Prop}{st:SortSt}(C:ZW a₀)(hk:kindOf st=kd)(hO:YG arr)(hy:ky∈a₀.toList)(hb:base+n≤arr.size)(hh:hint<n)(h:∀k,k≤n→Q (FX k) st):ZE (Mj hint) Q st:=by
 have ask:∀{i:Nat} {Q':Option Bool→SortSt→Prop},i<n→(∀b,Q' (FX b) st)→ZE (Bt (base+i)) Q' st:=λ{i Q'} hi q=>ze3 C hk hO hy DH q;have last:∀(f:Nat→(Option Rl×Nat×Nat)→QL (ForInStep (Option Rl×Nat×Nat))) (lo hi:Nat),lo≤hi→hi≤n →
   (∀x l r Q',l≥r→Q' (ForInStep.done (none,l,r)) st→ZE (f x (none,l,r)) Q' st) →
   (∀x l r Q',¬l≥r→r≤n→Q' (FM (none,l+(r-l)/2+1,r)) st→Q' (FM (none,l,l+(r-l)/2)) st→ZE (f x (none,l,r)) Q' st) →
   wpS D7 A E s (forIn [:n] (none,lo,hi) f) (λc a7=>a7=st∧∃k,c=(none,k,k)∧k≤n) st:=by
  intro f lo hi h1 h2 f1 f2;refine wpS_forRange (I:=λx c a7=>Aj2 (a7=st) (Ex2 λl r=>Aj4 (c=(none,l,r)) (l≤r) (r≤n) (r-l≤n-x))) ?step ?fin ?init
  case init=>exact⟨rfl,lo,hi,rfl,h1,h2,DH⟩
  case fin=>
   rintro c a7 ⟨rfl,l,r,rfl,a1,a2,a3⟩;have:l=r:=by lia
   subst this;exact⟨rfl,l,rfl,a2⟩
  case step=>
   rintro x c a7 _ hx ⟨rfl,l,r,rfl,a1,a2,a3⟩;by_cases aJ:l≥r
   ·refine f1 x l r _ aJ ?_;have:l=r:=Jr a1 aJ;subst this;exact⟨rfl,l,rfl,a2⟩
   exact f2 x l r _ aJ a2 ⟨rfl,_,_,rfl,DH,a2,DH⟩ ⟨rfl,_,_,rfl,J9 _,DH,DH⟩
 unfold zgx;refine wpS_bind (ask (i:=hint) hh λb0=>?_);cases b0 with
 | true=>
  refine wpS_bind (wpS_mono (wpS_forRange
   (I:=λx c a7=>Aj2 (a7=st) (Ex2 λla of=>Aj4 (c=(none,la,of)) (hint+la<n) (la<of) (x<of)))
   (Q:=λc a7=>Aj2 (a7=st) (Ex2 λla of=>Aj3 (c=(none,la,of)) (hint+la<n) (la<of))) ?step ?fin ?init) ?post)
  case init=>exact⟨rfl,0,1,rfl,hh,D9,D9⟩
  case fin=>rintro c a7 ⟨rfl,la,of,rfl,a2,a3,a4⟩;exact⟨rfl,la,of,rfl,a2,a3⟩
  case step=>
   rintro x c a7 _ hx ⟨rfl,la,of,rfl,a2,a3,a4⟩;dsimp only;refine zam (λ_=>wpS_pure ⟨rfl,la,of,rfl,a2,a3⟩) λaJ=>wpS_bind (ask (i:=hint+of) DH λb=>?_);cases b with
   |true=>exact wpS_pure ⟨rfl,of,2*of+1,rfl,DH,DH,DH⟩
   |false=>exact wpS_pure ⟨rfl,la,of,rfl,a2,a3⟩
  case post=>
   rintro c a7 ⟨rfl,la,of,rfl,a2,a3⟩;refine wpS_bind (wpS_mono (last _ (hint+la+1) (hint+min of (n-hint)) DH DH ?_ ?_) ?_)
   ·intro x l r Q' aJ q;exact zam (λ_=>wpS_pure q) λz=>absurd aJ z
   ·intro x l r Q' aJ hr q1 q2;refine zam (λz=>absurd z aJ) λ_=>wpS_bind (ask (i:=l+(r-l)/2) DH λb=>?_);cases b with
    |true=>exact wpS_pure q1
    |false=>exact wpS_pure q2
   rintro c a7 ⟨rfl,k,rfl,b1⟩;exact wpS_pure (h k b1)
 | false=>
  refine wpS_bind (wpS_mono (wpS_forRange
   (I:=λx c a7=>Aj2 (a7=st) (Ex2 λla of=>Aj4 (c=(none,la,of)) (la≤hint) (la<of) (x<of)))
   (Q:=λc a7=>Aj2 (a7=st) (Ex2 λla of=>Aj3 (c=(none,la,of)) (la≤hint) (la<of))) ?step ?fin ?init) ?post)
  case init=>exact⟨rfl,0,1,rfl,HY,D9,D9⟩
  case fin=>rintro c a7 ⟨rfl,la,of,rfl,a2,a3,a4⟩;exact⟨rfl,la,of,rfl,a2,a3⟩
  case step=>
   rintro x c a7 _ hx ⟨rfl,la,of,rfl,a2,a3,a4⟩;dsimp only;refine zam (λ_=>wpS_pure ⟨rfl,la,of,rfl,a2,a3⟩) λaJ=>wpS_bind (ask (i:=hint-of) DH λb=>?_);cases b with
   |true=>exact wpS_pure ⟨rfl,la,of,rfl,a2,a3⟩
   |false=>exact wpS_pure ⟨rfl,of,2*of+1,rfl,DH,DH,DH⟩
  case post=>
   rintro c a7 ⟨rfl,la,of,rfl,a2,a3⟩;refine wpS_bind (wpS_mono (last _ (hint+1-min of (hint+1)) (hint-la) DH DH ?_ ?_) ?_)
   ·intro x l r Q' aJ q;exact zam (λ_=>wpS_pure q) λz=>absurd aJ z
   ·intro x l r Q' aJ hr q1 q2;refine zam (λz=>absurd z aJ) λ_=>wpS_bind (ask (i:=l+(r-l)/2) DH λb=>?_);cases b with
    |true=>exact wpS_pure q1
    |false=>exact wpS_pure q2
   rintro c a7 ⟨rfl,k,rfl,b1⟩;exact wpS_pure (h k b1)
variable{all out ra rb seg:List Keyed}
def Pm(all out ra rb:List Keyed):Prop:=(out++(ra++rb)).Perm all
def Pm.appA(j:Pm all out (seg++ra) rb):Pm all (out++seg) ra rb:=by unfold Pm at *;rw[Qq,←Qq seg];exact j
def Pm.appB(j:Pm all out ra (seg++rb)):Pm all (out++seg) ra rb:=by unfold Pm at *;rw[Qq];refine List.Perm.trans (Vo ?_) j;rw[←Qq,←Qq];exact Yu.append_right _
def zbq{a:Array Keyed}{i:Nat}(h:i<a.size):a.toList.drop i=a[i]::a.toList.drop Fj:=by rw[Zp (DJ h)];simp
def za8{a:Array Keyed}{i:Nat}:(a.extract i a.size).toList=a.toList.drop i:=by simp[Qt]
def zcp{a:Array Keyed}{i k:Nat}(h:i+k≤a.size):(HJ i (i+k)).toList++a.toList.drop (i+k)=a.toList.drop i:=by
 rw[Array.toList_extract,Xf];have:i+k-i=k:=by lia
 rw[this,←List.drop_drop,Zh]
abbrev Pa(a b o:Array Keyed)(i k:Nat):Prop:=Pm DM o.toList (Gn i) (GV k)
variable{a b o:Array Keyed}{i k n:Nat}
def Pa.pushA(j:YH k)(h:i<a.size):YR (o.push a[i]) Fj k:=by have:=Pm.appA (seg:=[a[i]]) (ra:=a.toList.drop Fj) (by rw[List.singleton_append,←zbq h];exact j);rwa[←Ws]at this
def Pa.pushB(j:YH k)(h:k<b.size):YR (o.push b[k]) i (k+1):=by have:=Pm.appB (seg:=[b[k]]) (rb:=b.toList.drop (k+1)) (by rw[List.singleton_append,←zbq h];exact j);rwa[←Ws]at this
def Pa.runA(j:YH k)(h:i+n≤a.size):YR (o++a.extract i (i+n)) (i+n) k:=by have:=Pm.appA (seg:=(HJ i (i+n)).toList) (ra:=a.toList.drop (i+n)) (by rw[zcp h];exact j);show Pm _ (o++a.extract i (i+n)).toList _ _;rw[Zf];exact this
def Pa.runB(j:YH k)(h:k+n≤b.size):YR (o++b.extract k (k+n)) i (k+n):=by have:=Pm.appB (seg:=(b.extract k (k+n)).toList) (rb:=b.toList.drop (k+n)) (by rw[zcp h];exact j);show Pm _ (o++b.extract k (k+n)).toList _ _;rw[Zf];exact this
def Pa.end1(j:YH k):(o++a.extract i++b.extract k).toList.Perm DM:=by rw[Zf,Zf,za8,za8,Qq];exact j
def Pa.end2(j:YH k):(o++b.extract k++a.extract i).toList.Perm DM:=by rw[Zf,Zf,za8,za8,Qq];exact(Vo Yu).trans j
def SG(st a7:SortSt):Prop:=∃g,a7=WS (DZ st) g (failedOf st)
def zd0{Q:Array Keyed→SortSt→Prop}{st:SortSt}(C:ZW a₀)(hk:kindOf st=kd)(oa:YG a)(ob:YG b)(ha:0 < a.size)(hb:0 < b.size)(h:∀(res:Array Keyed) (a7:SortSt),res.toList.Perm DM→XE a7→Q res a7):ZE (zen a b) Q st:=by
 have ia_:∀i (hi:i<a.size),a[i]∈a₀.toList:=λi hi=>oa i _ (getElem?_pos a i hi);have ib_:∀i (hi:i<b.size),b[i]∈a₀.toList:=λi hi=>ob i _ (getElem?_pos b i hi);have ea:∀i (hi:i<a.size),a[i]?=some a[i]:=λi hi=>getElem?_pos a i hi;have eb:∀i (hi:i<b.size),b[i]?=some b[i]:=λi hi=>getElem?_pos b i hi;have sgk:∀{a7},XE a7→kindOf a7=kd:=λ⟨g,e⟩=>by rw[e];exact hk
 unfold zen;refine wpS_bind Fa;refine wpS_bind (zal (eb 0 hb) ?_);have j0:YR (#[b[0]]:Array Keyed) 0 1:=by
  have j:YR (#[]:Array Keyed) 0 0:=by show List.Perm _ _;simp
  exact j.pushB hb
 refine zam (λc1=>wpS_pure (h _ _ j0.end1 ⟨_,rfl⟩)) λc1=>zam (λc2=>wpS_pure (h _ _ j0.end2 ⟨_,rfl⟩)) λc2=>?_;have sC:¬b.size=1:=λz=>c1 (by simp[z]);have c2':¬a.size=1:=λz=>c2 (by simp[z]);refine wpS_bind (wpS_get ?_);refine wpS_bind (wpS_mono (wpS_forRange
  (I:=λx c a7=>QA (Ex4 λo i k g=>Aj5 (c=(none,o,i,k,g)) (i+1<a.size) (k<b.size) (YH k) (x≤i+k)))
  (Q:=λc a7=>QA Fr) ?step ?fin ?init) ?post)
 case init=>exact⟨⟨RV⟩,_,0,1,RV,DH,DH,j0,DH⟩
 case fin=>rintro c a7 ⟨_,o,i,k,g,rfl,a1,a2,a3,a4⟩;exfalso;lia
 case post=>rintro c a7 ⟨g,res,r,rfl,m⟩;exact wpS_pure (h res a7 m g)
 case step=>
  rintro x c ak _ hx ⟨g1,o1,i1,k1,mg,rfl,a1,a2,a3,a4⟩;dsimp -zeta only;refine wpS_bind (wpS_mono (wpS_forRange
   (I:=λy c a7=>Aj2 (a7=ak) (Ex5 λo i k ac bc=>Aj5 (c=(none,o,i,k,ac,bc)) (i+1<a.size) (k<b.size) (YH k) (i1+k1+y≤i+k)))
   (Q:=λc a7=>Aj2 (a7=ak) (Fr∨Ex5 λo i k ac bc=>Aj5 (c=(none,o,i,k,ac,bc)) (i+1<a.size) (k<b.size) (YH k) (i1+k1<i+k))) ?step1 ?fin1 ?init1) ?post1)
  case init1=>exact⟨rfl,o1,i1,k1,0,0,rfl,a1,a2,a3,D9⟩
  case fin1=>rintro c a7 ⟨_,o,i,k,ac,bc,rfl,b1,b2,b3,b4⟩;exfalso;lia
  case step1=>
   rintro y c au _ hy ⟨rfl,o,i,k,ac,bc,rfl,b1,b2,b3,b4⟩;have oU:i<a.size:=by lia
   dsimp -zeta only;refine wpS_bind (XF (wpS_bind (zal (ea i oU) (wpS_bind (C _ _ _ _ (ib_ k b2) (ia_ i oU) (sgk g1) λe=>?_)))));dsimp -zeta only;refine zam (λ_=>?_) (λ_=>?_)
   ·refine wpS_bind (XF ?_);have j:=b3.pushB b2;refine zam (λ_=>wpS_pure ⟨rfl,Gb ⟨_,_,rfl,j.end1⟩⟩) λd1=>?_;have nj:¬k+1=b.size:=λz=>d1 D1;exact zam (λ_=>wpS_pure ⟨rfl,G' ⟨_,i,k+1,_,_,rfl,b1,DH,j,DH⟩⟩) λ_=>wpS_pure ⟨rfl,_,i,k+1,_,_,rfl,b1,DH,j,DH⟩
   refine wpS_bind (zal (ea i oU) ?_);have j:=b3.pushA oU;refine zam (λ_=>wpS_pure ⟨rfl,Gb ⟨_,_,rfl,j.end2⟩⟩) λd1=>?_;have nj:¬i+1+1=a.size:=λz=>d1 D1;exact zam (λ_=>wpS_pure ⟨rfl,G' ⟨_,i+1,k,_,_,rfl,DH,b2,j,DH⟩⟩) λ_=>wpS_pure ⟨rfl,_,i+1,k,_,_,rfl,DH,b2,j,DH⟩
  case post1=>
   rintro c au ⟨rfl,⟨res,r,rfl,m⟩|⟨o2,i2,k2,sG,sD,rfl,b1,b2,b3,b4⟩⟩
   ·exact wpS_pure ⟨g1,res,_,rfl,m⟩
   dsimp -zeta only;refine wpS_bind Fa;refine wpS_bind (wpS_mono (wpS_forRange
    (I:=λy c a7=>QA (Ex6 λo i k g ac bc=>Aj5 (c=(none,o,i,k,g,ac,bc)) (i+1<a.size) (k<b.size) (YH k) (i2+k2≤i+k)))
    (Q:=λc a7=>QA (Fr∨Ex6 λo i k g ac bc=>Aj5 (c=(none,o,i,k,g,ac,bc)) (i+1<a.size) (k<b.size) (YH k) (i2+k2≤i+k))) ?step2 ?fin2 ?init2) ?post2)
   case init2=>exact⟨g1,o2,i2,k2,_,_,RV,b1,b2,b3,D9⟩
   case fin2=>rintro c a7 ⟨g,o,i,k,g',ac,bc,rfl,c1,c2,c3,c4⟩;exact⟨g,G' ⟨o,i,k,g',ac,bc,rfl,c1,c2,c3,c4⟩⟩
   case post2=>
    rintro c ae ⟨g3,⟨res,r,rfl,m⟩|⟨o3,i3,k3,g',jF,jD,rfl,c1,c2,c3,c4⟩⟩
    ·exact wpS_pure ⟨g3,res,_,rfl,m⟩
    dsimp -zeta only;refine wpS_bind (wpS_modify ?_);obtain⟨gg,e3⟩:=g3;exact wpS_pure ⟨⟨_,by rw[e3]⟩,o3,i3,k3,_,rfl,c1,c2,c3,DH⟩
   case step2=>
    rintro y c ae _ hy ⟨g3,o3,i3,k3,pF,jF,jD,rfl,c1,c2,c3,c4⟩;refine zb9 λQ0 aA=>?_;dsimp -zeta only;have sgm:∀g',XE (Gp g'):=λg'=>by obtain⟨g,e⟩:=g3;exact⟨g',by rw[e]⟩
    extract_lets -underBinder+onlyGivenNames s1 out s2 ia s3 ib s4 mn s5 ac bc jp;refine jp_if (f:=jp) λm'=>wpS_bind (wpS_modify (wpS_bind (BG (wpS_bind (za5 (base:=i3) (n:=a.size-i3) (hint:=0) C HX oa (ib_ k3 c2) DH DH λk q1=>?_)))));dsimp -zeta only;have jr:=c3.runA (n:=k) DH;extract_lets -underBinder+onlyGivenNames ac' jp2;have h2:∀(n':Nat) (o':Array Keyed) (f1:n'+1<a.size),i3≤n'→YR o' n' k3→ZE (jp2 () o' n') Q0 (Gp m'):=by
     intro n' o' f1 f2 fJ;have f0:n'<a.size:=by lia
     refine wpS_bind (BG ?_);have fK:=fJ.pushB c2;refine zam (λ_=>wpS_pure (D8 ⟨_,_,rfl,fK.end1⟩)) λd=>?_;have d':¬k3+1=b.size:=λz=>d D1;refine wpS_bind (BH (wpS_bind (za5 (base:=k3+1) (n:=b.size-(k3+1)) (hint:=0) C HX ob (ia_ n' f0) DH DH λk' r1=>?_)));dsimp -zeta only;have js:=fK.runB (n:=k') DH;extract_lets -underBinder+onlyGivenNames bc' jp3;have h3:∀(m2:Nat) (o2:Array Keyed) (p1:m2<b.size),k3+1≤m2→YR o2 n' m2→ZE (jp3 () o2 m2) Q0 (Gp m'):=by intro m2 o2 p1 p2 pJ;refine wpS_bind (BH ?_);have pK:=pJ.pushA f0;refine zam (λ_=>wpS_pure (D8 ⟨_,_,rfl,pK.end2⟩)) λd=>?_;have d2:¬n'+1+1=a.size:=λz=>d D1;exact zam (λ_=>wpS_pure (aA _ _ ⟨sgm _,G' ⟨_,n'+1,m2,_,_,_,rfl,DH,p1,pK,DH⟩⟩)) λ_=>wpS_pure (aA _ _ ⟨sgm _,_,n'+1,m2,_,_,_,rfl,DH,p1,pK,DH⟩)
     refine zam (λkz=>?_) (λkz=>?_)
     ·refine zam (λ_=>wpS_pure (D8 ⟨_,_,rfl,js.end1⟩)) λd4=>?_;have su:¬k3+1+k'=b.size:=λz=>d4 D1;exact h3 (k3+1+k') _ DH (J9 _) js
     exact h3 (k3+1) _ DH D9 fK
    refine zam (λkz=>?_) (λkz=>?_)
    ·refine zam (λ_=>wpS_pure (D8 ⟨_,_,rfl,jr.end2⟩)) λd=>zam (λ_=>wpS_pure (D8 ⟨_,_,rfl,jr.end1⟩)) λe=>?_;have d':¬i3+k+1=a.size:=λz=>d D1;have e':¬i3+k=a.size:=λz=>e D1;exact h2 (i3+k) _ DH (J9 _) jr
    exact h2 i3 _ c1 D9 c3
end
section
variable{prog:Nk}{w:Nl}{A:No}{E:Na}{s:Nh}{kd:SortKind}{a₀:Array Keyed} {a b o:Array Keyed}{na nb at_:Nat}
def zb4:(HJ 0 n).toList=a.toList.take n:=by simp
def zfz{a:Array Keyed}{i n:Nat}(hi:i≤n)(h:n≤a.size):a.toList.take i++(HJ i n).toList=a.toList.take n:=by
 rw[Array.toList_extract,Xf];have e:a.toList.take i=(Gw n).take i:=by rw[List.take_take];congr 1;lia
 have e2:(Gn i).take (n-i)=(Gw n).drop i:=by rw[List.drop_take]
 rw[e,e2,Zh]
def Ph(a b o:Array Keyed)(na nb:Nat):Prop:=(a.toList.take na++(b.toList.take nb++o.toList)).Perm DM
def mvA{t sg kJ u r all:List Keyed}(h:((t++sg)++(u++r)).Perm all)(hs:kJ.Perm sg):(t++(u++(r++kJ))).Perm all:=by refine List.Perm.trans ?_ h;rw[Qq,←Qq u];exact Vo ((Vo hs).trans Yu)
def mvB{t sg kJ u r all:List Keyed}(h:(t++((u++sg)++r)).Perm all)(hs:kJ.Perm sg):(t++(u++(r++kJ))).Perm all:=by refine List.Perm.trans ?_ h;rw[Qq];exact Vo (Vo ((Vo hs).trans Yu))
def Ph.runA(j:YS o na nb)(hi:at_≤na)(h:na≤a.size):YS (o++(HJ at_ na).reverse) at_ nb:=by unfold Ph at *;rw[←zfz hi h]at j;rw[Zf,Wo];exact mvA j (Ui _)
def Ph.runB(j:YS o na nb)(hi:at_≤nb)(h:nb≤b.size):YS (o++(b.extract at_ nb).reverse) na at_:=by unfold Ph at *;rw[←zfz hi h]at j;rw[Zf,Wo];exact mvB j (Ui _)
def Ph.pushA(j:YS o (na+1) nb)(h:na<a.size):YS (o.push a[na]) na nb:=by unfold Ph at *;rw[Qo (DJ h)]at j;rw[Ws];exact mvA j DI
def Ph.pushB(j:YS o na (nb+1))(h:nb<b.size):YS (o.push b[nb]) na nb:=by unfold Ph at *;rw[Qo (DJ h)]at j;rw[Ws];exact mvB j DI
def Ph.end1(j:YS o na nb):(a.extract 0 na++b.extract 0 nb++o.reverse).toList.Perm DM:=by rw[Zf,Zf,Wo,zb4,zb4,Qq];exact(Vo (Vo (Ui _))).trans j
def Ph.end2(j:YS o na nb):(b.extract 0 nb++a.extract 0 na++o.reverse).toList.Perm DM:=by rw[Zf,Zf,Wo,zb4,zb4];refine List.Perm.trans ?_ j;rw[←Qq];exact(Yu).append (Ui _)
def zd1{Q:Array Keyed→SortSt→Prop}{st:SortSt}(C:ZW a₀)(hk:kindOf st=kd)(oa:YG a)(ob:YG b)(ha:0 < a.size)(hb:0 < b.size)(h:∀(res:Array Keyed) (a7:SortSt),res.toList.Perm DM→XE a7→Q res a7):ZE (zeo a b) Q st:=by
 have ia_:∀i (hi:i<a.size),a[i]∈a₀.toList:=λi hi=>oa i _ (getElem?_pos a i hi);have ib_:∀i (hi:i<b.size),b[i]∈a₀.toList:=λi hi=>ob i _ (getElem?_pos b i hi);have ea:∀i (hi:i<a.size),a[i]?=some a[i]:=λi hi=>getElem?_pos a i hi;have eb:∀i (hi:i<b.size),b[i]?=some b[i]:=λi hi=>getElem?_pos b i hi;have sgk:∀{a7},XE a7→kindOf a7=kd:=λ⟨g,e⟩=>by rw[e];exact hk
 obtain⟨n0,hn0⟩:∃n0,a.size=n0+1:=⟨a.size-1,DH⟩;have bq:n0<a.size:=by lia
 have j0:YS (#[a[n0]]:Array Keyed) n0 b.size:=by
  have j:YS (#[]:Array Keyed) (n0+1) b.size:=by have e1:a.toList.take (n0+1)=a.toList:=Qt (by simp;lia);have e2:b.toList.take b.size=b.toList:=Qt DI;unfold Ph;rw[e1,e2];simp
  exact j.pushA bq
 unfold zeo;refine wpS_bind Fa;have e2:a.size-1=n0:=by lia
 simp -zeta only[e2];refine wpS_bind (zal (ea n0 bq) ?_);refine zam (λc1=>wpS_pure (h _ _ j0.end1 ⟨_,rfl⟩)) λc1=>zam (λc2=>wpS_pure (h _ _ j0.end2 ⟨_,rfl⟩)) λc2=>?_;have sC:¬n0=0:=λz=>c1 (by simp[z]);have c2':¬b.size=1:=λz=>c2 (by simp[z]);refine wpS_bind (wpS_get ?_);obtain⟨n1,rfl⟩:∃n1,n0=n1+1:=⟨n0-1,DH⟩;obtain⟨m1,br⟩:∃m1,b.size=m1+1+1:=⟨b.size-2,DH⟩;rw[br]at j0;refine wpS_bind (wpS_mono (wpS_forRange
  (I:=λx c a7=>QA (Ex4 λo i k g=>Aj5 (c=(none,i+1,k+1+1,o,g)) (i<a.size) (k+1<b.size) (YS o Fj (k+1+1)) (i+k+x+4≤a.size+b.size)))
  (Q:=λc a7=>QA Fr) ?step ?fin ?init) ?post)
 case init=>exact⟨⟨RV⟩,_,n1,m1,_,by rw[br],DH,DH,j0,DH⟩
 case fin=>rintro c a7 ⟨_,o,i,k,g,rfl,a1,a2,a3,a4⟩;exfalso;lia
 case post=>rintro c a7 ⟨g,res,r,rfl,m⟩;exact wpS_pure (h res a7 m g)
 case step=>
  rintro x c ak _ hx ⟨g1,o1,i1,k1,mg,rfl,a1,a2,a3,a4⟩;dsimp -zeta only;refine wpS_bind (wpS_mono (wpS_forRange
   (I:=λy c a7=>Aj2 (a7=ak) (Ex5 λo i k ac bc=>Aj5 (c=(none,i+1,k+1+1,o,ac,bc)) (i<a.size) (k+1<b.size) (YS o Fj (k+1+1)) (i+k+y≤i1+k1)))
   (Q:=λc a7=>Aj2 (a7=ak) (Fr∨Ex5 λo i k ac bc=>Aj5 (c=(none,i+1,k+1+1,o,ac,bc)) (i<a.size) (k+1<b.size) (YS o Fj (k+1+1)) (i+k<i1+k1))) ?step1 ?fin1 ?init1) ?post1)
  case init1=>exact⟨rfl,o1,i1,k1,0,0,rfl,a1,a2,a3,D9⟩
  case fin1=>rintro c a7 ⟨_,o,i,k,ac,bc,rfl,b1,b2,b3,b4⟩;exfalso;lia
  case step1=>
   rintro y c au _ hy ⟨rfl,o,i,k,ac,bc,rfl,b1,b2,b3,b4⟩;dsimp -zeta only;refine wpS_bind (zal (eb (k+1) b2) (wpS_bind (XG (wpS_bind (C _ _ _ _ (ib_ (k+1) b2) (ia_ i b1) (sgk g1) λe=>?_)))));dsimp -zeta only;refine zam (λ_=>?_) (λ_=>?_)
   ·refine wpS_bind (XG ?_);have j:=b3.pushA b1;refine zam (λ_=>wpS_pure ⟨rfl,Gb ⟨_,_,rfl,j.end1⟩⟩) λd1=>?_;have nj:¬i=0:=λz=>d1 D1;cases i with
    |zero=>exact absurd rfl nj
    |succ i'=>exact zam (λ_=>wpS_pure ⟨rfl,G' ⟨_,i',k,_,_,rfl,DH,b2,j,DH⟩⟩) λ_=>wpS_pure ⟨rfl,_,i',k,_,_,rfl,DH,b2,j,DH⟩
   refine wpS_bind (zal (eb (k+1) b2) ?_);have j:=b3.pushB b2;refine zam (λ_=>wpS_pure ⟨rfl,Gb ⟨_,_,rfl,j.end2⟩⟩) λd1=>?_;have nj:¬k+1=1:=λz=>d1 D1;cases k with
   |zero=>exact absurd rfl nj
   |succ k'=>exact zam (λ_=>wpS_pure ⟨rfl,G' ⟨_,i,k',_,_,rfl,b1,DH,j,DH⟩⟩) λ_=>wpS_pure ⟨rfl,_,i,k',_,_,rfl,b1,DH,j,DH⟩
  case post1=>
   rintro c au ⟨rfl,⟨res,r,rfl,m⟩|⟨o2,i2,k2,sG,sD,rfl,b1,b2,b3,b4⟩⟩
   ·exact wpS_pure ⟨g1,res,_,rfl,m⟩
   dsimp -zeta only;refine wpS_bind Fa;refine wpS_bind (wpS_mono (wpS_forRange
    (I:=λy c a7=>QA (Ex6 λo i k g ac bc=>Aj5 (c=(none,i+1,k+1+1,o,g,ac,bc)) (i<a.size) (k+1<b.size) (YS o Fj (k+1+1)) (i+k≤i2+k2)))
    (Q:=λc a7=>QA (Fr∨Ex6 λo i k g ac bc=>Aj5 (c=(none,i+1,k+1+1,o,g,ac,bc)) (i<a.size) (k+1<b.size) (YS o Fj (k+1+1)) (i+k≤i2+k2))) ?step2 ?fin2 ?init2) ?post2)
   case init2=>exact⟨g1,o2,i2,k2,_,_,RV,b1,b2,b3,D9⟩
   case fin2=>rintro c a7 ⟨g,o,i,k,g',ac,bc,rfl,c1,c2,c3,c4⟩;exact⟨g,G' ⟨o,i,k,g',ac,bc,rfl,c1,c2,c3,c4⟩⟩
   case post2=>
    rintro c ae ⟨g3,⟨res,r,rfl,m⟩|⟨o3,i3,k3,g',jF,jD,rfl,c1,c2,c3,c4⟩⟩
    ·exact wpS_pure ⟨g3,res,_,rfl,m⟩
    dsimp -zeta only;refine wpS_bind (wpS_modify ?_);obtain⟨gg,e3⟩:=g3;exact wpS_pure ⟨⟨_,by rw[e3]⟩,o3,i3,k3,_,rfl,c1,c2,c3,DH⟩
   case step2=>
    rintro y c ae _ hy ⟨g3,o3,i3,k3,pF,jF,jD,rfl,c1,c2,c3,c4⟩;refine zb9 λQ0 aA=>?_;dsimp -zeta only;have sgm:∀g',XE (Gp g'):=λg'=>by obtain⟨g,e⟩:=g3;exact⟨g',by rw[e]⟩
    extract_lets -underBinder+onlyGivenNames s1 na s2 nb s3 out s4 mn s5 ac bc jp;refine jp_if (f:=jp) λm'=>wpS_bind (wpS_modify (wpS_bind (zal (eb (k3+1) c2) (wpS_bind (za5 (n:=i3+1) (hint:=i3) C HX oa (ib_ (k3+1) c2) DH DH λfQ q1=>?_)))));dsimp -zeta only;have jr:=c3.runA (at_:=fQ) q1 DH;extract_lets -underBinder+onlyGivenNames kk ac' jp2;have h2:∀(n':Nat) (o':Array Keyed) (f1:n'<a.size),n'≤i3→YS o' (n'+1) (k3+1+1)→ZE (jp2 () (n'+1) o') Q0 (Gp m'):=by
     intro n' o' f1 f2 fJ;refine wpS_bind (zal (eb (k3+1) c2) ?_);have fK:=fJ.pushB c2;refine zam (λ_=>wpS_pure (D8 ⟨_,_,rfl,fK.end2⟩)) λd=>?_;have d':¬k3+1=1:=λz=>d D1;refine wpS_bind (BI (wpS_bind (za5 (n:=k3+1) (hint:=k3) C HX ob (ia_ n' f1) DH DH λdO r1=>?_)));dsimp -zeta only;have js:=fK.runB (at_:=dO) r1 DH;extract_lets -underBinder+onlyGivenNames nQ bc' jp3;have h3:∀(m2:Nat) (o2:Array Keyed) (p1:m2+1<b.size),m2≤k3→YS o2 (n'+1) (m2+1+1)→ZE (jp3 () (m2+1+1) o2) Q0 (Gp m'):=by
      intro m2 o2 p1 p2 pJ;refine wpS_bind (BI ?_);have pK:=pJ.pushA f1;refine zam (λ_=>wpS_pure (D8 ⟨_,_,rfl,pK.end1⟩)) λd=>?_;have d2:¬n'=0:=λz=>d D1;cases n' with
      |zero=>exact absurd rfl d2
      |succ t=>exact zam (λ_=>wpS_pure (aA _ _ ⟨sgm _,G' ⟨_,t,m2,_,_,_,rfl,DH,p1,pK,DH⟩⟩)) λ_=>wpS_pure (aA _ _ ⟨sgm _,_,t,m2,_,_,_,rfl,DH,p1,pK,DH⟩)
     refine zam (λkz=>?_) (λkz=>?_)
     ·refine zam (λ_=>wpS_pure (D8 ⟨_,_,rfl,js.end2⟩)) λd4=>zam (λ_=>wpS_pure (D8 ⟨_,_,rfl,js.end1⟩)) λd5=>?_;have su:¬dO=1:=λz=>d4 D1;have d5':¬dO=0:=λz=>d5 D1;obtain⟨m2,e2⟩:∃m2,dO=m2+1+1:=⟨dO-2,DH⟩;have:=h3 m2 _ DH DH (by rw[←e2];exact js);rw[←e2]at this;exact this
     obtain⟨m2,e2⟩:∃ m2,k3=m2+1:=⟨k3 - 1,DH⟩;have:=h3 m2 _ DH DH (by rw[←e2];exact fK);rw[←e2]at this;exact this
    refine zam (λkz=>?_) (λkz=>?_)
    ·refine zam (λ_=>wpS_pure (D8 ⟨_,_,rfl,jr.end1⟩)) λd=>?_;have d':¬fQ=0:=λz=>d D1;obtain⟨n',e1⟩:∃n',fQ=n'+1:=⟨fQ-1,DH⟩;have:=h2 n' _ DH DH (by rw[←e1];exact jr);rw[←e1]at this;exact this
    exact h2 i3 _ c1 D9 c3
variable{p:Array (Nat×Nat×Nat)}{lo:Nat}
structure Bs(kd:SortKind)(a₀:Array Keyed)(p:Array (Nat×Nat×Nat))(st:SortSt):Prop where
 kind:kindOf st=kd
 failed:failedOf st=none
 pend:pendingOf st=p
 perm:(Fc st).Perm a₀
def Bs.size{st:SortSt}(B:ZR st):(Fc st).size=a₀.size:=B.perm.size_eq
def Bs.mem{st:SortSt}(B:ZR st){i:Nat}(hi:i<a₀.size):∃q,(Fc st)[i]?=some q∧q∈a₀.toList:=by
 have dD:i<(Fc st).size:=by rw[B.size];exact hi
 exact⟨_,getElem?_pos _ i dD,(Zx.mp B.perm).mem_iff.mp DI⟩
end
section
variable{prog:Nk}{w:Nl}{A:No}{E:Na}{s:Nh}{kd:SortKind}{a₀:Array Keyed}{p:Array (Nat×Nat×Nat)}{lo:Nat}
def zcz{st:SortSt}{i j:Nat}{Q:Option Bool→SortSt→Prop}(C:ZW a₀)(B:ZR st)(hi:i<a₀.size)(hj:j<a₀.size)(h:∀b,Q (FX b) st):ZE (ltAt' i j) Q st:=by obtain⟨x,e1,m1⟩:=B.mem hi;obtain⟨y,e2,m2⟩:=B.mem hj;rw[ltAt'_eq];exact wpS_bind (wpS_get (wpS_bind (zal e1 (wpS_bind (zal e2 (C x y st Q m1 m2 B.kind h))))))
def Bs.mirror{st:SortSt}(B:ZR st)(i j k:Nat):ZR (setArr st (My k)):=⟨B.kind,B.failed,B.pend,(mirror_perm _ _ _ _).trans B.perm⟩
def Bs.bubble{st:SortSt}(B:ZR st)(src d:Nat):ZR (setArr st (Mz d)):=⟨B.kind,B.failed,B.pend,(bubble_perm _ _ _).trans B.perm⟩
def ze2{st:SortSt}{n ok:Nat}{Q:Bool→SortSt→Prop}(C:ZW a₀)(hn:lo+n≤a₀.size)(B:ZR st)(h:∀a7,ZR a7→Q true a7):ZE (binarySort' lo n ok) Q st:=by
 rw[binarySort'_eq];refine wpS_bind (wpS_mono (wpS_forRange (I:=λk c a7=>Aj2 (c=(none,())) (ZR a7)) (Q:=λc a7=>Aj2 (c=(none,())) (ZR a7)) ?step (λ_ _ z=>z) ⟨rfl,B⟩) ?post)
 case post=>rintro c a7 ⟨rfl,B'⟩;exact wpS_pure (h a7 B')
 case step=>
  rintro k c a7 hak fZ ⟨rfl,B'⟩;refine wpS_bind (wpS_mono (wpS_forRange
   (I:=λx c av=>Aj2 (av=a7) (Ex2 λl r=>Aj4 (c=(none,l,r)) (l≤r) (r≤k) (r-l≤k-x)))
   (Q:=λc av=>Aj2 (av=a7) (Ex1 λl=>Aj2 (c=(none,l,l)) (l≤k))) ?is ?if_ ?ii) ?ip)
  case ii=>exact⟨rfl,0,k,rfl,HY,D9,D9⟩
  case if_=>
   rintro c av ⟨rfl,l,r,rfl,b1,b2,b3⟩;have:l=r:=by lia
   subst this;exact⟨rfl,l,rfl,b2⟩
  case is=>
   rintro x c av _ hx ⟨rfl,l,r,rfl,b1,b2,b3⟩;dsimp only;refine zam (λge=>?_) λge=>wpS_bind (KZ B' DH DH λb=>?_)
   ·have:l=r:=Jr b1 ge;subst this;exact wpS_pure ⟨rfl,l,rfl,b2⟩
   cases b with
   |true=>exact wpS_pure ⟨rfl,l,(l+r)/2,rfl,DH,DH,DH⟩
   |false=>exact wpS_pure ⟨rfl,(l+r)/2+1,r,rfl,DH,b2,DH⟩
  case ip=>rintro c av ⟨rfl,l,rfl,b2⟩;show BJ (do moveDown' (lo+k) (lo+l);pure (FM (none,()))) _ _;rw[moveDown'_eq];exact wpS_bind (wpS_modify (wpS_pure ⟨rfl,B'.bubble _ _⟩))
def jp_rev{α:Type}{c:Prop}[Decidable c]{i j:Nat}{f:Unit→QL α}{Q:α→SortSt→Prop}{st:SortSt}(B:ZR st)(h:∀a7,ZR a7→ZE (f ()) Q a7):ZE (if c then reverseSlice' i j >>= f else f ()) Q st:=by
 split
 ·exact wpS_bind (wpS_reverse (h _ (B.mirror _ _ _)))
 exact h _ B
def zf6{st:SortSt}{nrem:Nat}{Q:Option Nat→SortSt→Prop}(C:ZW a₀)(hn:lo+nrem≤a₀.size)(h1:1≤nrem)(B:ZR st)(h:∀m a7,ZR a7→1≤m→m≤nrem→Q (FX m) a7):ZE (countRun' lo nrem) Q st:=by
 have asc:∀(f:Nat→(Option Rl×Nat)→QL (ForInStep (Option Rl×Nat))) (a:Nat) (ak:SortSt),1≤a→a≤nrem →
   (∀x y Q',1≤y→y<nrem→Q' (ForInStep.done (none,y)) ak→Q' (FM (none,y+1)) ak→ZE (f x (none,y)) Q' ak) →
   wpS D7 A E s (forIn [a:nrem] (none,a) f) (λc a7=>Aj2 (a7=ak) (Ex1 λn=>Aj3 (c=(none,n)) (a≤n) (n≤nrem))) ak:=by
  intro f a ak a1 a2 hf;refine wpS_forRange (I:=λx c a7=>Aj2 (a7=ak) (c=(none,x))) ?step ?fin ⟨rfl,rfl⟩
  case fin=>rintro c a7 ⟨rfl,rfl⟩;rw[show max a nrem=nrem by lia];exact⟨rfl,nrem,rfl,a2,D9⟩
  case step=>rintro x c a7 g1 g2 ⟨rfl,rfl⟩;exact hf x x _ DH g2 ⟨rfl,x,rfl,g1,Zt g2⟩ ⟨rfl,rfl⟩
 have two:∀{ak:SortSt},ZR ak→∀{y:Nat},1≤y→y<nrem→lo+y<a₀.size∧lo+y-1<a₀.size:=λ_ y y1 y2=>⟨DH,DH⟩;rw[countRun'_eq];refine wpS_bind (wpS_mono (asc _ 1 st D9 h1 ?_) ?_)
 ·intro x y Q' y1 y2 q1 q2;refine wpS_bind (KZ B (two B y1 y2).1 (two B y1 y2).2 λb=>?_);cases b with
  |true=>exact wpS_pure q1
  |false=>exact wpS_pure q2
 rintro c a7 ⟨rfl,n,rfl,n1,n2⟩;refine zb9 λQ0 aA=>zam (λd=>wpS_pure (aA _ _ (h n _ B n1 n2))) λd=>?_;have d':n<nrem:=by have:¬n=nrem:=λz=>d D1;lia
 extract_lets -underBinder+onlyGivenNames jp;have lV:∀ak,ZR ak→ZE (jp ()) Q0 ak:=by
  intro ak B1;refine wpS_bind Fa;refine wpS_bind (wpS_mono (wpS_forRange
   (I:=λx c au=>Ex1 λq=>Aj4 (c=(none,x,q)) (ZR au) (2≤x) (x≤nrem))
   (Q:=λc au=>Ex2 λx q=>Aj4 (c=(none,x,q)) (ZR au) (2≤x) (x≤nrem)) ?step ?fin ⟨0,rfl,B1,DH,d'⟩) ?post)
  case fin=>rintro c au ⟨q,rfl,b1,b2,b3⟩;exact⟨_,q,rfl,b1,b2,b3⟩
  case step=>
   rintro x c au x1 x2 ⟨q,rfl,b1,b2,b3⟩;refine zb9 λQ1 gc=>wpS_bind (zcz (i:=lo+x) (j:=lo+x-1) C b1 DH DH λe1=>?_);cases e1 with
   |true=>refine zam (λ_=>?_) (λz=>absurd rfl z);exact jp_rev b1 λae B3=>wpS_pure (gc _ _ ⟨0,rfl,B3,DH,x2⟩)
   |false=>
    refine zam (λz=>absurd z DL) λ_=>wpS_bind (zcz (i:=lo+x-1) (j:=lo+x) C b1 DH DH λe2=>?_);cases e2 with
    |true=>exact zam (λ_=>wpS_pure (gc _ _ ⟨x,q,rfl,b1,b2,b3⟩)) (λz=>absurd rfl z)
    |false=>exact zam (λz=>absurd z DL) λ_=>wpS_pure (gc _ _ ⟨q+1,rfl,b1,DH,x2⟩)
  case post=>
   rintro c au ⟨x,q,rfl,b1,b2,b3⟩;refine jp_rev b1 λae B3=>wpS_bind (wpS_reverse ?_);have B6:=B3.mirror lo (lo+x) ((lo+x-lo)/2);refine wpS_bind (wpS_mono (asc _ x _ DH b3 ?_) ?_)
   ·intro z y Q' y1 y2 q1 q2;refine wpS_bind (KZ B6 (two B6 y1 y2).1 (two B6 y1 y2).2 λb=>?_);cases b with
    |true=>exact wpS_pure q1
    |false=>exact wpS_pure q2
   rintro c st6 ⟨rfl,m,rfl,m1,m2⟩;exact wpS_pure (aA _ _ (h m _ B6 DH m2))
 refine zam (λd2=>?_) λd2=>lV _ B;refine wpS_bind (KZ B DH DH λe=>?_);cases e with
 |true=>exact zam (λ_=>wpS_pure (aA _ _ (h n _ B n1 n2))) (λz=>absurd rfl z)
 |false=>exact zam (λz=>absurd z DL) λ_=>wpS_bind (wpS_reverse (lV _ (B.mirror _ _ _)))
def PL:List (Nat×Nat×Nat)→Nat→Nat→Prop
 |[],off,am=>off=am
 |q::ps,off,am=>q.1=off∧0<q.2.1∧PL ps (off+q.2.1) am
def PL.split{bj:List (Nat×Nat×Nat)}{am:Nat}:∀{aN:List (Nat×Nat×Nat)} {off:Nat},PL (aN++bj) off am→∃mid,PL aN off mid∧PL bj mid am:=by
 intro aN;induction aN with
 |nil=>intro off h;exact⟨off,rfl,h⟩
 |cons q ps ih=>intro off h;obtain⟨mid,a,b⟩:=ih h.2.2;exact⟨mid,⟨h.1,h.2.1,a⟩,b⟩
def PL.join{bj:List (Nat×Nat×Nat)}{mid am:Nat}:∀{aN:List (Nat×Nat×Nat)} {off:Nat},PL aN off mid→PL bj mid am→PL (aN++bj) off am:=by
 intro aN;induction aN with
 |nil=>intro off a b;cases(show off=mid from a);exact b
 |cons q ps ih=>intro off a b;exact⟨a.1,a.2.1,ih a.2.2 b⟩
def PL.len{am:Nat}:∀{ps:List (Nat×Nat×Nat)} {off:Nat},PL ps off am→off+ps.length≤am:=by
 intro ps;induction ps with
 |nil=>intro off h;exact Nat.le_of_eq h
 |cons q ps ih=>intro off h;have:=ih h.2.2;have:=h.2.1;rw[Zc];lia
def zf3{sa:Nat}:∀ (l:List Keyed) (n:Nat) (arr:Array Keyed) (F M S:List Keyed),arr.toList=F++(M++S)→F.length=sa+n→M.length=l.length →
  ((l.zipIdx n).foldl (λ(a:Array Keyed) (q:Keyed×Nat)=>a.setIfInBounds (sa+q.2) q.1) arr).toList=F++(l++S):=by
 intro l;induction l with
 |nil=>intro n arr F M S e _ hl;have:M=[]:=Jk.mp (DJ hl);rw[this]at e;simpa using e
 | cons p l ih=>
  intro n arr F M S e hf hl;cases M with
  |nil=>simp at hl
  |cons m M=>
   rw[List.zipIdx_cons,Kb];have e2:(arr.setIfInBounds (sa+n) p).toList=(F++[p])++(M++S):=by rw[Jx,e,←hf,Km _ _ D9,Xw];simp
   rw[ih (n+1) _ (F++[p]) M S e2 (by rw[Qk];simp;lia) (DJ hl)];simp
structure Rn(kd:SortKind)(a₀:Array Keyed)(am:Nat)(st:SortSt):Prop where
 kind:kindOf st=kd
 failed:failedOf st=none
 perm:(Fc st).Perm a₀
 pend:PL (DZ st).toList 0 am
 le:am≤a₀.size
def of_perm{xs:Array Keyed}(h:xs.Perm a₀):YG xs:=λi p e=>by
 refine(Zx.mp h).mem_iff.mp ?_;have:xs.toList[i]?=some p:=by simpa using e
 exact Yy this
def of_ext{xs:Array Keyed}(h:xs.Perm a₀)(i j:Nat):YG (xs.extract i j):=λk p e=>by
 have e1:(xs.extract i j).toList[k]?=some p:=by rw[Uc];exact e
 have:=Yy e1;rw[Array.toList_extract,Xf]at this;exact(Zx.mp h).mem_iff.mp (Wl (Wc this))
def wpS_set{Q:PUnit→SortSt→Prop}{st a7:SortSt}(h:Q ⟨⟩ a7):ZE (set a7:QL PUnit) Q st:=by unfold wpS;rw[StateT.run_set];exact wpAny_pure ⟨rfl,h⟩
def zci{i am:Nat}{Q:Bool→SortSt→Prop}{st:SortSt}(C:ZW a₀)(R:QM st)(hi:i+1 < (DZ st).size)(h:∀a7,QM a7→(DZ a7).size+1=(DZ st).size→Q true a7):ZE (mergeAt' i) Q st:=by
 obtain⟨aN,q1,q2,bj,hp,hl⟩:∃aN q1 q2 bj,(DZ st).toList=aN++q1::q2::bj∧aN.length=i:=by
  have h1:i<(DZ st).toList.length:=by simp;lia
  have h2:i+1<(DZ st).toList.length:=by simp;lia
  refine⟨(DZ st).toList.take i,(DZ st).toList[i],(DZ st).toList[i+1],(DZ st).toList.drop (i+2),?_,by rw[Zi];lia⟩;rw[←Zp h2,←Zp h1,Zh]
 have pr:=R.pend;rw[hp]at pr;obtain⟨sa,pk,e1,hA,e2,hB,i9⟩:=pr.split;obtain⟨ay,na,pw⟩:=q1;obtain⟨sb',nb,kM⟩:=q2;dsimp only at e1 hA e2 hB i9;subst e1 e2;have x1:(DZ st)[i]?=some (ay,na,pw):=by
  have:(DZ st)[i]?=(DZ st).toList[i]?:=by simp
  rw[this,hp,←hl];simp
 have x2:(DZ st)[i+1]?=some (ay+na,nb,kM):=by
  have:(DZ st)[i+1]?=(DZ st).toList[i+1]?:=by simp
  rw[this,hp,←hl];simp
 have hsz:ay+na+nb≤(Fc st).size:=by have:=i9.len;have:=R.le;rw[R.perm.size_eq];lia
 have oA:=of_perm R.perm;have mem:∀j (hj:j<(Fc st).size),(Fc st)[j]∈a₀.toList:=λj hj=>oA j _ (getElem?_pos _ j hj);have fin:∀(a7:SortSt),kindOf a7=kd→failedOf a7=none→(Fc a7).Perm a₀→pendingOf a7=((DZ st).setIfInBounds i (ay,na+nb,pw)).eraseIdxIfInBounds Fj→Q true a7:=by
  intro a7 m3 m4 m5 m6;have e:(DZ a7).toList=aN++(ay,na+nb,pw)::bj:=by
   rw[m6];have e1:((DZ st).setIfInBounds i (ay,na+nb,pw)).toList=aN++(ay,na+nb,pw)::(ay+na,nb,kM)::bj:=by rw[Jx,hp,←hl,Km _ _ D9,Xw];rfl
   rw[Array.toList_eraseIdxIfInBounds,e1,←hl,List.eraseIdx_append_of_length_le (J9 _)];simp
  refine h a7 ⟨m3,m4,m5,?_,R.le⟩ ?_
  ·rw[e];exact pk.join ⟨rfl,Nat.add_pos_left hA _,by rw[←Kp];exact i9⟩
  rw[←Yj,←Yj,e,hp];simp;lia
 unfold mergeAt';refine wpS_bind (wpS_get ?_);rw[x1,x2];dsimp only;refine wpS_bind (wpS_set ?_);have kr:ay+na<(Fc st).size:=by lia
 refine wpS_bind (zal (getElem?_pos RN (ay+na) kr) ?_);refine wpS_bind (za5 (arr:=arrOf st) (base:=ay) (n:=na) (hint:=0) C R.kind oA (mem _ kr) DH hA λk k1=>zam (λc1=>wpS_pure (fin _ R.kind R.failed R.perm rfl)) λc1=>?_);have sC:¬na-k=0:=λz=>c1 D1;have hla:ay+k+(na-k)-1<(Fc st).size:=by lia
 refine wpS_bind (zal (getElem?_pos RN (ay+k+(na-k)-1) hla) ?_);refine wpS_bind (za5 (arr:=arrOf st) (base:=ay+na) (n:=nb) (hint:=nb-1) C R.kind oA (mem _ hla) DH DH λm n1=>zam (λc2=>wpS_pure (fin _ R.kind R.failed R.perm rfl)) λc2=>?_);have c2':¬m=0:=λz=>c2 D1;have gL:(Fc st).toList=(Fc st).toList.take (ay+k)++((((Fc st).extract (ay+k) (ay+na)).toList++((Fc st).extract (ay+na) (ay+na+m)).toList)++(Fc st).toList.drop (ay+na+m)):=by rw[←Qq,←Qq,zfz DH DH,zfz DH DH,Zh]
 have oX:=of_ext R.perm (ay+k) (ay+na);have oY:=of_ext R.perm (ay+na) (ay+na+m);have zX:0<((Fc st).extract (ay+k) (ay+na)).size:=by rw[Array.size_extract];lia
 have zY:0<((Fc st).extract (ay+na) (ay+na+m)).size:=by rw[Array.size_extract];lia
 have done:∀(res:Array Keyed) (a7:SortSt),res.toList.Perm (((Fc st).extract (ay+k) (ay+na)).toList++((Fc st).extract (ay+na) (ay+na+m)).toList)→SG (WS (((DZ st).setIfInBounds i (ay,na+nb,pw)).eraseIdxIfInBounds Fj) (gallopOf st) (failedOf st)) a7 →
   wpS D7 A E s (do
    modify λz=>MA (res.toList.zipIdx.foldl (λ(a:Array Keyed) (q:Keyed×Nat)=>a.setIfInBounds (ay+k+q.2) q.1) (Fc z)) (DZ z) (gallopOf z) (failedOf z)
    let z ←get
    pure (failedOf z).isNone) Q a7:=by
  intro res a7 mg ⟨g,est⟩;subst est;refine wpS_bind (wpS_modify (wpS_bind (wpS_get ?_)));have eZ:failedOf st=none:=R.failed;show BJ (pure (failedOf st).isNone) _ _;rw[eZ];refine wpS_pure (fin _ R.kind rfl ?_ rfl);have pb:=zf3 (sa:=ay+k) res.toList 0 RN _ _ _ gL (by rw[Zi,Yj];lia) mg.length_eq.symm;refine Zx.mpr (List.Perm.trans ?_ (Zx.mp R.perm));refine List.Perm.trans (List.Perm.of_eq pb) ?_
  conv=>rhs;rw[gL]
  exact Vo (Kk _ mg)
 exact zam (λ_=>wpS_bind (NE zX zY done)) λ_=>wpS_bind (NF zX zY done)
def PL.congr:∀{ps cH:List (Nat×Nat×Nat)} {off:Nat},(ps.map λq=>(q.1,q.2.1))=(cH.map λq=>(q.1,q.2.1))→PL ps off am→PL cH off am:=by
 intro ps;induction ps with
 |nil=>
  intro cH off e h;cases cH with
  |nil=>exact h
  |cons q r=>cases e
 |cons q ps ih=>
  intro cH off e h;cases cH with
  |nil=>cases e
  |cons q' r=>rw[Ql,Ql]at e;obtain⟨e1,e2⟩:=List.cons.inj e;obtain⟨e3,e4⟩:=Kr e1;exact⟨e3.symm.trans h.1,e4▸h.2.1,ih e2 (e4▸h.2.2)⟩
def map_mod(f:Nat×Nat×Nat→Nat×Nat×Nat)(hf:∀q,((f q).1,(f q).2.1)=(q.1,q.2.1))(l:GK (Nat×Nat×Nat))(i:Nat):((l.modify i f).map λq=>(q.1,q.2.1))=l.map λq=>(q.1,q.2.1):=by
 apply Xi;intro k;rw[Qr,Qr,List.getElem?_modify];cases l[k]? with
 |none=>simp
 |some q=>
  by_cases e:i=k
  ·simp[e];exact Kr (hf q)
  simp[e]
def Rn.mod{am:Nat}{st:SortSt}(R:QM st)(i:Nat)(f:Nat×Nat×Nat→Nat×Nat×Nat)(hf:∀q,((f q).1,(f q).2.1)=(q.1,q.2.1)):QM (setPending st ((DZ st).modify i f)):=
 ⟨R.kind,R.failed,R.perm,by show PL ((DZ st).modify i f).toList 0 am;rw[Array.toList_modify];exact R.pend.congr (map_mod f hf _ i).symm,R.le⟩
def wpS_sortAll{st:SortSt}{Q:Unit→SortSt→Prop}(C:ZW a₀)(hk:kindOf st=kd)(hf:failedOf st=none)(hp:(Fc st).Perm a₀)(dh:pendingOf st=#[])(h:∀a7,(Fc a7).Perm a₀→failedOf a7=none→Q () a7):ZE sortRuns' Q st:=by
 have R0:Rn kd a₀ 0 st:=⟨hk,hf,hp,by rw[dh];rfl,HY⟩;rw[sortRuns'_eq];refine wpS_bind (wpS_get ?_);dsimp -zeta only;have hz:(Fc st).size=a₀.size:=hp.size_eq;rw[hz];refine wpS_bind (wpS_mono (wpS_forRange
  (I:=λx c a7=>Ex1 λam=>Aj3 (c=(none,am)) (QM a7) (x≤am))
  (Q:=λc a7=>Ex1 λam=>Aj3 (c=(none,am)) (QM a7) (a₀.size≤am)) ?step ?fin ⟨0,rfl,R0,HY⟩) ?post)
 case fin=>rintro c a7 ⟨am,rfl,R,hx⟩;exact⟨am,rfl,R,DH⟩
 case step=>
  rintro x c ak _ hx ⟨am,rfl,R,du⟩;refine zb9 λQ0 aA=>zam (λc0=>wpS_pure (aA _ _ ⟨am,rfl,R,c0⟩)) λc0=>?_;have B0:ZX (DZ ak) ak:=⟨R.kind,R.failed,rfl,R.perm⟩;refine wpS_bind (zf6 (lo:=am) (nrem:=a₀.size-am) C DH DH B0 λm au B2 m1 m2=>?_);dsimp -zeta only;extract_lets -underBinder+onlyGivenNames n0 jp;have lV:∀(n':Nat) (ae:SortSt),1≤n'→am+n'≤a₀.size→ZX (DZ ak) ae→ZE (jp () n') Q0 ae:=by
   intro n' ae l1 l2 B3;have R3:QM ae:=⟨B3.kind,B3.failed,B3.perm,by rw[B3.pend];exact R.pend,R.le⟩;have push:∀aj,QM aj→Rn kd a₀ (am+n') (setPending aj ((DZ aj).push (am,n',0))):=λaj R4=>⟨R4.kind,R4.failed,R4.perm,by show PL ((DZ aj).push _).toList 0 _;rw[Ws];exact R4.pend.join ⟨rfl,l1,rfl⟩,l2⟩;refine wpS_bind (wpS_get ?_);extract_lets -underBinder+onlyGivenNames jp2;have lU:∀aj,QM aj→ZE (jp2 ()) Q0 aj:=λaj R4=>wpS_bind (wpS_modify (wpS_pure (aA _ _ ⟨am+n',rfl,push aj R4,DH⟩)));cases(DZ ae).back? with
   |none=>exact lU _ R3
   | some q=>
    obtain⟨s1,n1,o1⟩:=q;refine wpS_bind (wpS_mono (wpS_forRange (I:=λ_ c aj=>Aj2 (c=(none,())) (QM aj)) (Q:=λc aj=>Aj2 (c=(none,())) (QM aj)) ?istep (λ_ _ z=>z) ⟨rfl,R3⟩) ?ipost)
    case istep=>
     rintro y c aj _ _ ⟨rfl,R4⟩;refine zb9 λQ1 gc=>wpS_bind (wpS_get ?_);dsimp only;by_cases hs:(DZ aj).size>1
     ·rw[Gh hs,getElem?_pos (DZ aj) ((DZ aj).size - 2) DH];exact zam (λ_=>wpS_pure (gc _ _ ⟨rfl,R4⟩)) λ_=>wpS_bind (MM DH λi6 R5 _=>zam (λz=>absurd z DL) λ_=>wpS_pure (gc _ _ ⟨rfl,R5⟩))
     rw[Gm hs];exact wpS_pure (gc _ _ ⟨rfl,R4⟩)
    case ipost=>rintro c aj ⟨rfl,R4⟩;exact wpS_bind (wpS_modify (lU _ (R4.mod _ _ λq=>rfl)))
  refine zam (λc1=>?_) λc1=>lV m au m1 DH B2;have sC:m<minRun' a₀.size a₀.size 0:=c1;refine wpS_bind Fa;exact wpS_bind (ze2 (lo:=am) (n:=min (a₀.size-am) (minRun' a₀.size a₀.size 0)) C DH B2 λae B3=>zam (λz=>absurd z DL) λ_=>lV _ ae DH DH B3)
 case post=>
  rintro c ak ⟨am,rfl,R,hx⟩;refine wpS_bind (wpS_mono (wpS_forRange (I:=λ_ c aj=>Aj2 (c=(none,())) (QM aj)) (Q:=λc aj=>Aj2 (c=(none,())) (QM aj)) ?istep (λ_ _ z=>z) ⟨rfl,R⟩) ?ipost)
  case istep=>
   rintro y c aj _ _ ⟨rfl,R4⟩;refine zb9 λQ1 gc=>wpS_bind (wpS_get ?_);dsimp only;refine zam (λ_=>wpS_pure (gc _ _ ⟨rfl,R4⟩)) λhs=>wpS_bind (MM ?_ λi6 R5 _=>?_)
   ·repeat' split
    all_goals lia
   exact zam (λz=>absurd z DL) λ_=>wpS_pure (gc _ _ ⟨rfl,R5⟩)
  case ipost=>rintro c aj ⟨rfl,R4⟩;exact wpS_pure (h aj R4.perm R4.failed)
end
end Tm
namespace Tm
open PySem PyProof.Rows PySem.W
section
variable{O:KeyOrd}{kf:Nat→O.α}{n:Nat}{s:Nh}{cmp:Nat→Nat→(Bool→Shared→Prop)→Shared→Prop}
def kk(kf:Nat→O.α)(p:Array Nat)(i:Nat):O.α:=kf (p.getD i 0)
def kk_rev{p:Array Nat}{i j:Nat}(hj:j≤p.size)(k:Nat):kk kf (kas_rev p i j) k=if i≤k∧k<j then QD (i+j-1-k) else QD k:=by unfold kk kas_rev;simp only[Uo,getElem?_mirror_all hj k];split<;>rfl
def kk_bub(hs:a<p.size)(hd:d≤a)(k:Nat):kk kf (bubble p a d) k=if k=a-d then QD a else if a-d<k∧k≤a then QD (k-1) else QD k:=by
 unfold kk;simp only[Uo,getElem?_bubble hs d hd k]
 repeat' split
 all_goals rfl
def Up(kf:Nat→O.α)(p:Array Nat)(k:Nat):Prop:=∀i j,i≤j→j<k→Ml (QD j)
def Dn(kf:Nat→O.α)(p:Array Nat)(k:Nat):Prop:=∀i j,i≤j→j<k→O.kle (QD j) (QD i)
def Up.snoc{p:Array Nat}{a:Nat}(h1:1≤a)(h:BW a)(e:O.kle (QD (a-1)) (QD a)):BW (a+1):=λi j bd hj=>by
 by_cases z:j<a
 ·exact h i j bd z
 obtain rfl:j=a:=by lia
 by_cases z2:i=j
 ·subst z2;exact Yx _
 exact Yl (h i (j-1) DH DH) e
def Dn.snoc{p:Array Nat}{a:Nat}(h1:1≤a)(h:Mm a)(e:O.kle (QD a) (QD (a-1))):Mm (a+1):=λi j bd hj=>by
 by_cases z:j<a
 ·exact h i j bd z
 obtain rfl:j=a:=by lia
 by_cases z2:i=j
 ·subst z2;exact Yx _
 exact Yl e (h i (j-1) DH DH)
structure Ar(n:Nat)(p:Array Nat):Prop where
 sz:p.size=n
 lt:∀i,0<n→p.getD i 0<n
 pm:p.Perm (List.toArray (GY n))
def Ar.of(h:p.Perm (List.toArray (GY n))):Bx p:=by
 have z:p.size=n:=by rw[h.size_eq];simp
 refine⟨z,λi h0=>?_,h⟩;by_cases hi:i<p.size
 ·have:p[i]∈List.range n:=(Zx.mp h).mem_iff.mp DI;rw[Uo,getElem?_pos p i hi];exact Yi.mp this
 rw[Uo,getElem?_neg p i hi];exact h0
def Ar.rev{p:Array Nat}(h:Bx p)(i j:Nat):Bx (kas_rev p i j):=.of ((mirror_perm _ _ _ _).trans h.pm)
def Ar.bub(h:Bx p)(i j:Nat):Bx (bubble p i j):=.of ((bubble_perm _ _ _).trans h.pm)
variable(h0:0<n)(hc:∀i j C,i<n→j<n→C (O.blt (kf i) (kf j)) s→cmp i j C s)
include h0 hc
theorem t_ask{p:Array Nat}(P:Bx p){α:Type}{i j:Nat}{k:Bool→KasT α}{Q:α→Shared→Prop}(h1:O.klt (QD i) (QD j)→(k true).kasWp cmp Q s)(h2:O.kle (QD j) (QD i)→(k false).kasWp cmp Q s):(KasT.ask (p.getD i 0) (p.getD j 0) k).kasWp cmp Q s:=by
 refine hc _ _ _ (P.lt _ h0) (P.lt _ h0) ?_;cases e:O.blt (kf (p.getD i 0)) (kf (p.getD j 0)) with
 |true=>exact h1 e
 |false=>exact h2 e
theorem t_asc(P:Bx p){Q:Nat→Shared→Prop}:∀(f a:Nat),1≤a→a+f≤n→BW a→(∀m,a≤m→m≤a+f→BW m→(m=a+f∨O.klt (QD m) (QD (m-1)))→Q m s)→(kas_asc p f a).kasWp cmp Q s
 |0,a,_,_,hs,h=>h a D9 D9 hs Fq
 |f+1,a,h1,hn,hs,h=>J7 (λe=>h a D9 DH hs (G' e)) λe=>t_asc P f (a+1) DH DH (hs.snoc h1 e) λm h2 h3=>h m DH DH|>λq h4 h5=>q h4 (h5.imp DH id)
theorem t_desc{Q:Array Nat×Nat×Nat→Shared→Prop}:∀(f:Nat) (p:Array Nat) (a q:Nat),Bx p→1≤a→a+f≤n→Mm a→q<a→(∀i,a-(q+1)≤i→i<a→QD i=QD (a-1))→(∀p' m q',Bx p'→a≤m→m≤a+f→Dn kf p' m→q'<m→(∀i,m-(q'+1)≤i→i<m→BK i=BK (m-1))→Q (p',m,q') s)→(kas_desc f p a q).kasWp cmp Q s
 |0,p,a,q,P,_,_,hs,hq,he,h=>h p a q P D9 D9 hs hq he
 | f+1,p,a,q,P,h1,hn,hs,hq,he,h=>by
  have again:∀p',Bx p'→Dn kf p' (a+1)→∀q'<a+1,(∀i,a+1-(q'+1)≤i→i<a+1→BK i=BK (a+1-1))→(kas_desc f p' (a+1) q').kasWp cmp Q s:=λp' P' bX q' cM cV=>t_desc f p' (a+1) q' P' DH DH bX cM cV λp2 m q2 P2 h3 h4=>h p2 m q2 P2 DH DH;have one:∀(p':Array Nat) (i:Nat),a+1-(0+1)≤i→i<a+1→BK i=BK (a+1-1):=λp' i h2 h3=>by rw[show i=a+1-1 by lia]
  refine J7 (λe=>?_) λe=>?_
  ·rw[Gh rfl];have same:∀k,kk kf (kas_rev p (a-(q+1)) a) k=QD k:=λk=>by
    rw[kk_rev (by rw[P.sz];lia)];split
    ·rw[he _ DH DH,he k DH DH]
    rfl
   split
   ·refine again _ (P.rev _ _) (λi j bd hj=>?_) 0 DH (one _);rw[same,same];exact hs.snoc h1 (Yf e) i j bd hj
   exact again _ P (hs.snoc h1 (Yf e)) 0 DH (one _)
  rw[Gm DI];refine J7 (λe2=>?_) λe2=>?_
  ·rw[if_pos rfl];exact h p a q P D9 DH hs hq he
  rw[Gm DI];have eq:=KeyOrd.kle_antisymm e2 e;refine again _ P (hs.snoc h1 e2) (q+1) DH λi h2 h3=>?_;rw[Nat.add_sub_cancel];by_cases z:i=a
  ·rw[z]
  rw[he i DH DH,eq]
theorem t_tail(P:Bx p)(h1:1≤m)(hm:m≤n)(hs:Mm m)(h:∀p' k,Bx p'→1≤k→k≤n→Up kf p' k→Q (k,p') s):(kas_tail3 m n p).kasWp cmp Q s:=by unfold kas_tail3;rw[Xl];refine t_asc h0 hc (P.rev 0 m) _ m h1 DH (λi j bd hj=>?_) λk h2 h3 h4 _=>h _ k (P.rev 0 m) DH DH h4;rw[kk_rev (by rw[P.sz];lia),kk_rev (by rw[P.sz];lia),if_pos DH,if_pos DH];exact hs _ _ DH DH
theorem t_dpart(P:Bx p)(hm:m+1≤n)(hs:Mm (m+1))(h:∀p' k,Bx p'→1≤k→k≤n→Up kf p' k→Q (k,p') s):(kas_descPart m n p).kasWp cmp Q s:=by
 unfold kas_descPart;rw[Xl];refine t_desc h0 hc _ p (m+1) 0 P DH DH hs DH (λi h2 h3=>by rw[show i=m+1-1 by lia]) λp' k q P' h2 h3 bX hq he=>?_;dsimp only;split
 ·refine t_tail h0 hc (P'.rev _ _) DH DH (λi j bd hj=>?_) h;have same:∀i,kk kf (kas_rev p' (k-(q+1)) k) i=BK i:=λi=>by
   rw[kk_rev (by rw[P'.sz];lia)];split
   ·rw[he _ DH DH,he i DH DH]
   rfl
  rw[same,same];exact bX i j bd hj
 exact t_tail h0 hc P' DH DH bX h
theorem t_count(P:Bx p){Q:Nat×Array Nat→Shared→Prop}(h:∀p' k,Bx p'→1≤k→k≤n→Up kf p' k→Q (k,p') s):(kas_count n p).kasWp cmp Q s:=by
 unfold kas_count;rw[Xl];refine t_asc h0 hc P _ 1 D9 DH (λi j bd hj=>by rw[show i=j by lia];exact Yx _) λm h1 h2 hs hor=>?_;split
 ·exact h p m P h1 DH hs
 rename_i aD;have lN:m≠n:=by simpa using aD
 have aa:=hor.resolve_left DH;split
 ·refine J7 (λ_=>?_) λe=>?_
  ·rw[if_pos rfl];exact h p m P h1 DH hs
  rw[Gm DI];have all:∀k,k<m→QD k=QD (m-1):=λk hk=>KeyOrd.kle_antisymm (hs k (m-1) DH DH) (Yl e (hs 0 k DH hk));have same:∀k,kk kf (kas_rev p 0 m) k=QD k:=λk=>by
   rw[kk_rev (by rw[P.sz];lia)];split
   ·rw[all _ DH,all k DH]
   rfl
  refine t_dpart h0 hc (P.rev 0 m) DH (Dn.snoc h1 (λi j bd hj=>?_) (by rw[same,same];exact Yf aa)) h;rw[same,same,all i DH,all j hj];exact Yx _
 obtain rfl:m=1:=by lia
 exact t_dpart h0 hc P DH (Dn.snoc D9 (λi j bd hj=>by rw[show i=j by lia];exact Yx _) (Yf aa)) h
theorem t_place{k:Nat}(P:Bx p)(hs:BW k){Q:Nat→Shared→Prop}:∀(f l r:Nat),l≤r→r≤k→r-l≤f→(∀i,i<l→Ml (QD k))→(∀i,r≤i→i<k→O.klt (QD k) (QD i))→(∀l,l≤k→(∀i,i<l→Ml (QD k))→(∀i,l≤i→i<k→O.klt (QD k) (QD i))→Q l s)→(kas_place p k f l r).kasWp cmp Q s
 |0,l,r,h1,h2,h3,h4,h5,h=>h l DH h4 λi q=>h5 i DH
 |f+1,l,r,h1,h2,h3,h4,h5,h=>by
  unfold kas_place;split
  ·exact h l DH h4 λi q=>h5 i DH
  refine J7 (λe=>?_) λe=>?_
  ·rw[Gh rfl];exact t_place P hs f l _ DH DH DH h4 (λi q1 q2=>Kt e (hs _ _ q1 q2)) h
  rw[Gm DI];exact t_place P hs f _ r DH h2 DH (λi q=>Yl (hs i ((l+r)/2) DH DH) e) h5 h
theorem t_bin(h:∀p,Bx p→BW n→Q p s):∀(f:Nat) (p:Array Nat) (k:Nat),Bx p→BW k→k+f=n→(kas_bin f p k).kasWp cmp Q s
 |0,p,k,P,hs,e=>h p P (by rwa[←e])
 | f+1,p,k,P,hs,e=>by
  unfold kas_bin;rw[Xl];refine t_place h0 hc P hs k 0 k DH DH DH (λi q=>absurd q DH) (λi q1 q2=>absurd q2 DH) λl hl dj hhi=>t_bin h f _ (k+1) (P.bub _ _) (λi j bd hj=>?_) DH;have hk:k<p.size:=by rw[P.sz];lia
  rw[kk_bub hk DH,kk_bub hk DH,show k-(k-l)=l by lia]
  repeat' split
  all_goals first
   |(exfalso;lia)
   |exact Yx _
   |exact dj _ (by lia)
   |exact Yf (hhi _ (by lia) (by lia))
   |exact hs _ _ (by lia) (by lia)
theorem t_sort(h:∀p,Bx p→BW n→Q p s):(kas_sort n).kasWp cmp Q s:=by
 unfold kas_sort;rw[Xl];refine t_count h0 hc (.of (Array.Perm.refl _)) λp k P h1 h2 hs=>?_;dsimp only;split
 ·exact t_bin h0 hc h _ p _ P (by rwa[Nat.max_eq_left h1]) DH
 exact h p P (by rwa[show k=n by lia]at hs)
end
end Tm
namespace Tm
open PySem PyProof.Rows PySem.W MeetsSeq MeetsSeq2 MeetsSeq3 SeqRoads2
open AutoSeq1 (wpAny_loadPart')
section
variable{prog:Nk}{w:Nl}{A:No}{E:Na}{s:Nh}{R:List Value→Prop}{vs:Ni}
structure zbv(prog:Nk)(w:Nl)(A:No)(E:Na)(s:Nh)(R:List Value→Prop)(vs:Ni):Prop where
 few:vs.length<2→R vs
 go:2≤vs.length→∃kd:SortKind,(∀Q:SortKind→Shared→Prop,Q kd s→ZG (keyKind' vs.toArray) Q E s) ∧
  ∀Q:Unit→SortSt→Prop,(∀a7,(Fc a7).Perm Rm→failedOf a7=none→R ((Fc a7).toList.map (·.2))→Q () a7)→ZE sortRuns' Q (SortSt.mk' kd (vs.toArray.zip vs.toArray) #[] 7 none)
def zch(vs:Ni):(pairsOf vs).toList=vs.map λv=>(v,v):=by
 rw[pairsOf_toList];induction vs with
 |nil=>rfl
 |cons v r ih=>rw[List.zip_cons_cons,Ql,ih]
def perm_back{l:List Keyed}{vs:Ni}(h:l.Perm (vs.map λv=>(v,v))):(l.map (·.2)).Perm vs:=by have:=h.map (·.2);rwa[Zq,show((λ(p:Keyed)=>p.2)∘λv=>(v,v))=id from rfl,List.map_id]at this
def cmp_of{kd:SortKind}(h:∀x y,x∈vs→y∈vs→∀(Q:Bool→Shared→Prop) (E':Value→Shared→Prop),(∀b,Q b s)→ZG (keyLt' kd x y) Q E' s):ZW Rm:=by intro x y st Q hx hy hk q;rw[zch]at hx hy;obtain⟨v,hv,rfl⟩:=Qj.mp hx;obtain⟨u,hu,rfl⟩:=Qj.mp hy;rw[lt'_eq];refine wpS_bind (wpS_get ?_);rw[hk];exact wpS_bind (wpS_lift (wpAny_attempt (h v u hv hu _ _ λb=>⟨rfl,wpS_pure (q b)⟩)))
def zbv.ord{O:KeyOrd}{kv:Value→O.α}(h:2≤vs.length→∃ kd:SortKind,(∀ Q:SortKind→Shared→Prop,Q kd s→ZG (keyKind' vs.toArray) Q E s)∧∀ x y,x∈vs→y∈vs→∀ (Q:Bool→Shared→Prop) (E':Na),Q (O.blt (kv x) (kv y)) s→ZG (keyLt' kd x y) Q E' s):YT s (λws=>vs.length < 64→ws.Pairwise λx y=>Mn (kv y)) vs:=by
 refine⟨λh2 _=>?_,λh2=>?_⟩
 ·obtain _|⟨v,_|⟨v',r⟩⟩:=vs
  ·exact List.Pairwise.nil
  ·exact Xo _ _
  exact absurd h2 DI
 obtain⟨kd,a1,a2⟩:=h h2;refine⟨kd,a1,λQ q=>?_⟩;by_cases oO:vs.length<64
 ·have at_:∀ i,i < vs.length→vs.getD i .none∈vs:=λi hi=>by rw[Qn,Qb hi];exact Qm hi
  have st0:SortSt.mk' kd (vs.toArray.zip vs.toArray) #[] 7 none=kas_st kd Rm (List.toArray (List.range vs.length)):=by unfold kas_st;rw[←pairsOf_size vs,kas_range];rfl
  rw[st0];refine kas_runs (κ:=kd) (it:=pairsOf vs) (E:=E) (Q:=λr st s'=>s'=s∧Q r st) (G:=λp s'=>Aj3 (s'=s) (Ar vs.length p) (Up (O:=O) (λi=>kv (vs.getD i .none)) p vs.length)) h2 oO (λp a7 s' hz ha hf ⟨hs,P,U⟩=>⟨hs,q a7 ?_ hf λ_=>?_⟩) (t_sort (O:=O) (kf:=λi=>kv (vs.getD i .none)) DH (λi j C hi hj hC=>?_) λp P U=>⟨rfl,P,U⟩)
  ·have:=(Zx.mp P.pm).map (kas_item Rm);rw[←Xu,←Xu,←pairsOf_size vs,kas_range]at this;rw[ha];exact Zx.mpr this
  ·rw[ha,Xu,Zq,Wv,Ua];intro i j hi hj bd;have e:∀k (hk:k<p.toList.length),kv ((kas_item Rm p.toList[k]).2)=kk (λi=>kv (vs.getD i .none)) p k:=λk hk=>by unfold kk;rw[kas_item_eq,Uo,getElem?_pos p k (DJ hk)];rfl
   show O.kle (kv _) (kv _);dsimp only[Function.comp];rw[e i hi,e j hj];exact U i j (Zt bd) (by simpa[P.sz] using hj)
  unfold kas_cmp;rw[kas_item_eq,kas_item_eq];exact a2 _ _ (at_ i hi) (at_ j hj) _ _ hC
 exact wpS_sortAll (cmp_of λx y hx hy Q' E' q'=>a2 x y hx hy Q' E' (q' _)) rfl rfl (Array.Perm.refl _) rfl λa7 p1 p2=>q a7 p1 p2 λz=>absurd z oO
abbrev strO:KeyOrd:=strKind.toKeyOrd
def kvS(v:Value):List Nat:=(strOf v).cps.toList
def zef(hv:∀v∈vs,∃x t,v=.str x t):YT s (λws=>vs.length<64→ws.Pairwise λx y=>strO.kle (kvS x) (kvS y)) vs:=by
 refine .ord λh2=>⟨oneType',λQ q=>kas_kind (T:=.type "str") h2 (λv hm=>?_) DL DL q,λx y hx hy Q E' q=>?_⟩
 ·obtain⟨x,t,rfl⟩:=hv v hm;exact Looks.of_pure rfl
 obtain⟨a,t,rfl⟩:=hv x hx;obtain⟨b,u,rfl⟩:=hv y hy;rw[keyLt'_oneType];exact oneLt_str q
def sort_list{a:Nc}{n:Nat}{P:Fin→Shared→Prop}(ho:s.heap.get? a=some (seqObj "list" vs.toArray n))(hz:vs.length≤sizeLine)(hS:∀s':Shared,(∀b o,b≠a→s.heap.get? b=some o→s'.heap.get? b=some o)→YT s' R vs)(h:∀ws:List Value,ws.Perm vs→R ws→P (.done (.ret .none)) {s with heap:=sortedHeap s.heap a vs ws.toArray}) :
  wpAny D7 A (Builtin.«list.sort» ⟨[Gq],[]⟩) P E s:=by
 have lt:a<s.heap.objs.size:=Qx ho;rw[list_sort_plain];refine wpAny_bind (listItems_at ho rfl (wpAny_bind (listUpdate_at ho rfl ?_ (hsz:=by simpa using hz) (hsz2:=by simp))));obtain⟨e1,k1⟩:∃e,(s.heap.update a (Obj.mapSeq λ_=>#[])).get? a=some (seqObj "list" #[] e):=⟨_,get?_update_seq ho λ_=>#[]⟩;refine wpAny_bind (seqEpoch_at k1 rfl (wpAny_bind (wpAny_newTuple (wpAny_bind (wpAny_newList (wpAny_holding ?_))))));show ZG _ P E {s with heap:=((s.heap.update a (Obj.mapSeq λ_=>#[])).push (seqObj "tuple" vs.toArray 0)).push (seqObj "list" #[] 0)};generalize hg:((s.heap.update a (Obj.mapSeq λ_=>#[])).push (seqObj "tuple" vs.toArray 0)).push (seqObj "list" #[] 0)=g;have k6:g.get? a=some (seqObj "list" #[] e1):=by rw[←hg];exact Q5 (Q5 k1)
 have kk:∀b o,b≠a→s.heap.get? b=some o→g.get? b=some o:=λb o hb e=>by rw[←hg];exact Q5 (Q5 ((Yz s.heap _ (Zj hb)).trans e))
 have eh:∀out,sortedHeap s.heap a vs out=g.update a (Obj.mapSeq λ_=>out):=λout=>by rw[←hg];rfl
 have S:=hS {s with heap:=g} kk;dsimp only;have fin:∀(l:Array Keyed),l.toList.Perm (vs.map λv=>(v,v))→R (l.toList.map (·.2))→P (.done (.ret .none)) {s with heap:=g.update a (Obj.mapSeq λ_=>l.map (·.2))}:=λl p1 p2=>by have:=h _ (perm_back p1) p2;rw[eh]at this;rw[show l.map (·.2)=(l.toList.map (·.2)).toArray by rw[←Xu]];exact this
 have lz:vs.toArray.size=vs.length:=Qp;have szOk:∀l:Array Keyed,l.toList.Perm (vs.map λv=>(v,v))→(l.map (·.2)).size≤sizeLine+1:=λl p1=>by rw[Array.size_map,←Yj,p1.length_eq,Qa];exact zhr ‹_›
 by_cases few:vs.toArray.size<2
 ·rw[Gh few,Gh few];refine wpAny_bind (wpAny_pure ?_);rw[StateT.run_pure];have pr:(pairsOf vs).toList.Perm (vs.map λv=>(v,v)):=by rw[zch]
  refine wpAny_bind (Hc (seqEpoch_at k6 rfl (wpAny_bind (listUpdate_at k6 rfl ?_ (hsz:=by simp) (hsz2:=szOk Rm pr)))));simp only[bne_self_eq_false,Wn,if_false];refine wpAny_pure (fin Rm pr ?_);rw[zch,Zq,show((λ(p:Keyed)=>p.2)∘λv=>(v,v))=id from rfl,List.map_id];exact S.few (by rw[←lz];exact few)
 rw[Gm few,Gm few];obtain⟨kd,ask,C⟩:=S.go DH;refine wpAny_bind (ask _ (wpAny_bind (wpAny_mono (C (λ_ a7=>Aj3 ((Fc a7).Perm Rm) (failedOf a7=none) (R ((Fc a7).toList.map (·.2)))) λa7 p1 p2 p3=>⟨p1,p2,p3⟩) ?_ λ_ _ e=>e)));rintro⟨⟨⟩,a7⟩ s' ⟨rfl,p1,p2,p3⟩;have pr:(Fc a7).toList.Perm (vs.map λv=>(v,v)):=by rw[←zch];exact Zx.mp p1
 dsimp only;refine wpAny_bind (seqEpoch_at k6 rfl (wpAny_bind (listUpdate_at k6 rfl ?_ (hsz:=by simp) (hsz2:=szOk Hz pr))));rw[p2];simp only[bne_self_eq_false,Wn,if_false];exact wpAny_pure (fin _ pr p3)
def ze5{x:Value}{G:List Value→Prop}{R:List Value→List Value→Prop}{Q:Na}(rO:∀(E':Na) (R:List Value→Shared→Prop),(∀(g:Np) (tk:Nat) (vs:Ni),Fe→s.heap.objs.size≤g.objs.size→G vs→R vs {s with heap:=g,toks:=tk})→ZI A.in1 (collect x) R E' s)(hz:∀vs,G vs→vs.length≤sizeLine)(hS:∀vs,G vs→∀(A':Around) (E':Value→Shared→Prop) (s':Shared),A'.units≤A.units+8→(∀b o,s.heap.get? b=some o→s'.heap.get? b=some o)→M4 (R vs) vs)(h:∀(vs ws:Ni) (l:Nc) (g:Np) (tk e:Nat),G vs→ws.Perm vs→R vs ws→s.heap.objs.size≤l→Fe→g.get? l=some (seqObj "list" ws.toArray e)→Q Hw {s with heap:=g,toks:=tk}) :
  wpAny D7 A (call (.builtin "sorted") [x]) Q E s:=by
 refine Calls.call_function_entry kind_sorted plain_sorted entry_sorted (args_sorted1 _) ?_;unfold Builtin.«sorted»;refine wpAny_bind (m:=checkCount "sorted" 1 1 _) (wpAny_pure (wpAny_bind (rO _ _ λg tk vs kg le hG=>?_)));have hzv:=hz vs hG;refine wpAny_bind (wpAny_newList ?_ (hsz:=hzv));have o1:(g.push (seqObj "list" vs.toArray 0)).get? g.objs.size=some (seqObj "list" vs.toArray 0):=JM rfl;show ZY _ _ _ _ {s with heap:=g.push (seqObj "list" vs.toArray 0),toks:=tk};refine wpAny_bind (wpAny_holding (wpAny_call_entry slot_list_sort ⟨_,o1,rfl⟩ entry_list_sort (sort_list (R:=R vs) o1 hzv (λs' k=>hS vs hG _ _ s' ?_ λb o e=>k b o (λz=>?_) (Q5 (kg b o e))) λws p1 p2=>⟨_,rfl,?_⟩) (args_list_sort _)))
 ·show A.units+1+1≤A.units+8;lia
 ·have lt:b < g.objs.size:=Qx (kg b o e);rw[z]at lt;exact absurd lt (Yv _)
 obtain⟨e,he⟩:=sortedHeap_at (out:=ws.toArray) o1;refine wpAny_pure ⟨_,rfl,h vs ws _ _ _ e hG p1 p2 le (λb o q=>?_) he⟩;have lt:b<g.objs.size:=Qx (kg b o q);rw[sortedHeap_old (Zm lt) (by rw[size_push'];exact Kh lt)];exact Q5 (kg b o q)
def zgy{T:String}{r d:Nc}{n:Nat}{P:Nat→Value→Prop}{OK:Heap→Prop}{R:List Value→Shared→Prop}(K:KdlSrc prog w T r d n P OK)(hh:A.handled=none)(ok:OK s.heap)(hn:n≤sizeLine)(h:∀(g:Np) (tk:Nat) (ai:Array Value),Fe→s.heap.objs.size≤g.objs.size→ItemsOf P ai n→R ai.toList {s with heap:=g,toks:=tk}) :
  wpAny D7 A (collect (DK r)) R E s:=by
 have there:=K.there _ ok;unfold collect;refine wpAny_bind (wpAny_runValue (codeAny_builtin entry_proto_collect' ?_));rw[Wx PySem.F.plain_proto_collect _];show ZY A.in1 (newList [] >>= λl=>again (.builtin "list.__iadd__" ⟨[l,DK r],[]⟩)) _ _ s;refine wpAny_bind (wpAny_newObj_type (FA ⟨plainId_quiet PySem.F.plain_list_iadd _,codeAny_builtin entry_list_iadd' ?_⟩));rw[Wx PySem.F.plain_list_iadd _];show ZY A.in1 (Builtin.List.listExtendWith D6
  (.ref r) D6) _ _ _
 have jE:(s.heap.push {cls:=.type "list",data:=.seq ([]:List Value).toArray}).get? s.heap.objs.size=some {cls:=.type "list",data:=.seq #[]}:=JM rfl;refine wpAny_mono (kdl_extend (A:=A) (s:={s with heap:=s.heap.push {cls:=.type "list",data:=.seq ([]:List Value).toArray}})
  (R:=λ(q:Result) (s':Nh)=>∃ (g:Np) (tk:Nat) (ai:Array Value) (c:Nat),q=.ok (.ret D6)∧s'={ s with heap:=g,toks:=tk } ∧
   (∀b o,s.heap.get? b=some o→g.get? b=some o)∧g.get? s.heap.objs.size=some {cls:=.type "list",dict:=none,data:=.seq ai c,slots:=#[]}∧ItemsOf P ai n)
  K hh (K.keep _ _ ok λb _ o e=>Q5 e) s.heap.objs.size (We there.1) (We there.2) D6 0 jE
  (λg tk ai c hk hS ha=>⟨g,tk,ai,c,rfl,rfl,λb o e=>hk b o (Zm (Qx e)) (Q5 e),hS,ha⟩) hn) (λfin s' x=>?_) λe s' x=>?_
 ·cases fin with
  |done f=>obtain⟨g,tk,ai,c,e,rfl,hk,hS,ha⟩:=x;cases e;show ZY A (load s.heap.objs.size >>= _) _ _ _;exact wpAny_bind (wpAny_load hS (FA (h g tk ai hk (Zt (Qx hS)) ha)))
  |again c1=>refine⟨x.1,codeAny_mono x.2 λq s2 y=>?_⟩;obtain⟨g,tk,ai,c,rfl,rfl,hk,hS,ha⟩:=y;show ZY A (load s.heap.objs.size >>= _) _ _ _;exact wpAny_bind (wpAny_load hS (FA (h g tk ai hk (Zt (Qx hS)) ha)))
 obtain⟨_,_,_,_,e',_⟩:=x;cases e'
def sorted_any{Q:Na}(hl:s.heap.IsList l vs.toArray)(hz:vs.length≤sizeLine)(hS:∀(A':Around) (E':Value→Shared→Prop) (s':Shared),A'.units≤A.units+8→(∀b o,s.heap.get? b=some o→s'.heap.get? b=some o)→M4 R vs)(h:∀(ws:Ni) (l:Nc) (g:Np) (tk e:Nat),ws.Perm vs→R ws→s.heap.objs.size≤l→Fe→g.get? l=some (seqObj "list" ws.toArray e)→Q Hw {s with heap:=g,toks:=tk}) :
  wpAny D7 A (call (.builtin "sorted") [Hw]) Q E s:=
 ze5 (G:=λus=>us=vs) (R:=λ_=>R) (λE' R' hR=>collect_list hl (hR _ _ _ (λb o e=>(Me (Zj (Zm (Qx e)))).trans (Q5 e)) (by rw[Heap.size_update,size_push'];exact Jc _) rfl) hz) (λus e=>e▸hz) (λus e=>e▸hS) λus ws l g tk e e' p1 p2=>h ws l g tk e (e'▸p1) p2
def str_ext{a b:Str}(h:a.cps.toList=b.cps.toList):a=b:=by cases a;cases b;exact congrArg _ (Xv.mp h)
def str_ne{a b:Str}(h:¬a=b):¬a.cps.toList=b.cps.toList:=λq=>h (str_ext q)
def pairO(O P:KeyOrd):KeyOrd where
 α:=O.α×P.α
 blt a b:=O.blt a.1 b.1||(!Dr a.1&&P.blt a.2 b.2)
 irrefl a:=by rw[O.irrefl,P.irrefl];rfl
 trans a b c h1 h2:=by
  simp only[Js,Uu,Yr]at *;rcases h1 with h1|⟨n1,h1⟩
  ·rcases h2 with h2|⟨n2,h2⟩
   ·exact .inl (Ds h2)
   exact .inl (Kt h1 n2)
  rcases h2 with h2|⟨n2,h2⟩
  ·exact .inl (Ku n1 h2)
  exact .inr ⟨Yl n1 n2,P.trans _ _ _ h1 h2⟩
 negTrans a b c h:=by
  simp only[Js,Uu,Yr]at *;rcases h with h|⟨n,h⟩
  ·rcases O.negTrans _ b.1 _ h with q|q
   ·exact .inl (Gb q)
   exact .inr (Gb q)
  cases e1:O.blt a.1 b.1 with
  |true=>exact .inl Fq
  | false=>
   cases e2:Dr c.1 with
   |true=>exact .inr Fq
   |false=>
    have n1:Dr a.1=false:=Yl (O:=O) (a:=a.1) (b:=c.1) (c:=b.1) n e2;have n2:O.blt c.1 b.1=false:=Yl (O:=O) (a:=b.1) (b:=a.1) (c:=c.1) e1 n;rcases P.negTrans _ b.2 _ h with q|q
    ·exact .inl (G' ⟨n1,q⟩)
    exact .inr (G' ⟨n2,q⟩)
 total a b h1 h2:=by simp only[Bool.or_eq_false_iff,Bool.and_eq_false_iff,Jq]at *;have e1:=MN h1.1 h2.1;obtain⟨a1,a2⟩:=a;obtain⟨b1,b2⟩:=b;simp only at e1 h1 h2;subst e1;have i:=O.irrefl a1;rw[i]at h1 h2;have p1:P.blt a2 b2=false:=h1.2.elim (λz=>by cases z) id;have p2:P.blt b2 a2=false:=h2.2.elim (λz=>by cases z) id;rw[P.total _ _ p1 p2]
def zgt(h:Np):Value→List Value
 | .ref a=>match h.get? a with
  |some o=>match o.data with
   |.seq xs _=>xs.toList
   |_=>[]
  |none=>[]
 |_=>[]
def zgs(e:h.get? a=some o)(d:o.data=.seq xs n):zgt h Gq=xs.toList:=by unfold zgt;dsimp only;rw[e];dsimp only;rw[d]
def kvP(h:Np)(v:Value):List Nat×List Nat:=(kvS ((zgt h v).getD 0 .none),kvS ((zgt h v).getD 1 .none))
def zeb(h:Np)(v:Value)(x:Str)(q:Value):Prop:=∃a o t n,v=.ref a∧h.get? a=some o∧o.cls=.type "tuple" ∧ o.data=.seq #[.str x t,q] n
def zeb.key(p:JI q):kvP h v=(x.cps.toList,kvS q):=by obtain⟨a,o,t,n,rfl,e,c,d⟩:=p;unfold kvP;rw[zgs e d];rfl
end
theorem katTups(k:∀b o,h.get? b=some o→s.get? b=some o):∀(vs:Ni),(∀v∈vs,∃x q,JI q)→∃fs,KatTups s vs fs∧fs.length=vs.length∧∀f∈fs,∃x t,f=.str x t
 |[],_=>⟨[],.nil,rfl,λf hf=>by cases hf⟩
 |v::vs,hv=>by
  obtain⟨fs,h1,h2,h3⟩:=katTups k vs λu hu=>hv u (WD hu);obtain⟨x,q,a,o,t,n,rfl,e,c,d⟩:=hv v Qe;refine⟨.str x t::fs,.cons (k _ _ e) c d rfl h1,by rw[Zc,Zc,h2],λf hf=>?_⟩;rcases Qi.mp hf with z|z
  ·exact⟨x,t,z⟩
  exact h3 f z
section
variable{prog:Nk}{w:Nl}{A:No}{E:Na}{s:Nh}{vs:Ni}{h:Np}
def kind_tups(k:∀b o,h.get? b=some o→s.heap.get? b=some o)(hv:∀v∈vs,∃x q,JI q)(h2:2≤vs.length)(q:Q (tuples' true) s):ZG (keyKind' vs.toArray) Q E s:=by obtain⟨fs,h1,h3,h4⟩:=katTups k vs hv;refine kat_kind (T:=.type "str") h1 DH (λf hf=>?_) DL q;obtain⟨x,t,rfl⟩:=h4 f hf;exact Looks.of_pure rfl
def blt_p:(JQ strO).blt (x,y) (x',y')=if x=x' then decide (y<y') else decide (x<x'):=by
 show(decide (x<x')||(!decide (x'<x)&&decide (y<y')))=_;split
 ·rename_i e;subst e;rw[decide_eq_false (Wm x)];rfl
 rename_i ne;by_cases h1:x<x'
 ·rw[decide_eq_true h1];rfl
 rw[decide_eq_false h1,decide_eq_true (Wd λh2=>ne (strO.total _ _ (Gf h1) (Gf h2)))];rfl
def zhy(k:∀ b o,h.get? b=some o→s.heap.get? b=some o)(hv:∀ v∈vs,∃ x q,JI q)(hd:∀ v∈vs,∀ u∈vs,∀ x p q,JI p→zeb h u x q→v=u∨∃ y t y' t',p=.str y t∧q=.str y' t'):YT s (λws=>vs.length < 64→ws.Pairwise λx y=>(JQ strO).kle (kvP h x) (kvP h y)) vs:=by
 refine .ord λh2=>⟨tuples' true,λQ q=>NZ q,λv v' hx hy Q E' q=>?_⟩;have same:=hd v hx v' hy;obtain⟨x,z,p⟩:=hv v hx;obtain⟨x',z',p'⟩:=hv v' hy;have P:=p;have P':=p';rw[P.key,P'.key,blt_p]at q;obtain⟨a,o,t,n,rfl,e,c,d⟩:=p;obtain⟨a',o',t',n',rfl,e',c',d'⟩:=p';refine kat_lt (k _ _ e) d (k _ _ e') d' ?_;show NG [(WE t,KA t'),(z,z')] 0 s;refine kat_cons (wpAny_eqBool_str ?_);by_cases ex:x=x'
 ·subst ex;rw[if_pos rfl]at q;rw[decide_eq_true rfl];refine kat_yes (kat_cons ?_);rcases same x z z' P P' with e2|⟨y,u,y',u',rfl,rfl⟩
  ·cases e2;rw[e]at e';cases e';rw[d]at d';have d2:(#[WE t,z]:Array Value)=#[WE t',z']:=by injection d'
   have d3:z=z':=by have:=congrArg (λa:Array Value=>a[1]?) d2;simpa using this
   subst d3;rw[decide_eq_false (Wm _)]at q;exact VM (kat_yes (kat_nil q))
  refine wpAny_eqBool_str ?_;by_cases ey:y=y'
  ·subst ey;rw[show kvS (U5 u')=kvS (U5 u) from rfl,decide_eq_false (Wm _)]at q;rw[decide_eq_true rfl];exact kat_yes (kat_nil q)
  rw[Gf ey];exact kat_no (kat_one _ _ (lt_str q))
 rw[Gf ex];rw[if_neg (str_ne ex)]at q;exact kat_no (oneLt_str q)
end
end Tm
namespace L2
open PySem PySem.Spec PyProof.Rows
def zew{K:Nb}{a:Nc}{zs:Nj}{g:TG}{tb:TS}{D:Ends}{σ:St}{H:Hp}(Pv:Nat→St→Hp→Prop)(h0:Pv 0 σ H)(hl:∀i σ H,i≤(zs.map V.str).length→Pv i σ H→W0 Gj)(hs:∀i (hi:i<zs.length) σ H,Pv i σ H→g (.str zs[i]) σ H λ σ2 H2=>tb {D with nx:=Pv Fj,ct:=Pv Fj,bk:=D.nx} σ2 H2)(hd:∀σ H,Pv (zs.map V.str).length σ H→WV H) :
  ∃W:Nat→Nat→St→Hp→Prop,(∃m,W 0 m σ H)∧∀i m σ H,W i m σ H →
   ((XC a).stop i H∧WV H)∨((XC a).go i H∧∃N:St→Hp→Prop,Ff∧∀x H',(XC a).yld i H x H'→g x σ H' λ σ2 H2=>tb {D with nx:=N,ct:=N,bk:=D.nx} σ2 H2):=
 zb3 Pv h0 hl (λi x σ H e p=>by
  have hi:i<zs.length:=by have:=(Zk.mp e).1;rwa[Qa]at this
  rw[Qr,Qb hi]at e;cases e;exact hs i hi σ H p) hd
section
variable{X:Cx}
inductive RrIndex(x:V)(vs:List V)(H:Hp)(Q:VK):Prop
 |mk(l:Nc)(xs:List V)(y:V)(j:Nat)(h0:x=.ref l)(h1:vs=[y])(h2:H l=some (.lst xs))(h3:zfk y=true)(h4:xs.all zfk=true)(h5:(∃z,xs[j]?=some z∧eqV z y=true))(h6:(∀m z,m<j→xs[m]?=some z→eqV z y=false))(h7:Q (.int j) H)
def rIndex:V→List V→Hp→VK→Prop:=λx vs H Q=>RrIndex x vs H Q
def zem:ML "list.index" rIndex:=by
 intro a6 s σ H x vs v us Q I rx rv h;obtain⟨l,xs,y,j,rfl,rfl,hH,fy,fs,⟨z,hz,ez⟩,fX,q⟩:=h;cases rx;obtain⟨u,rfl,ru⟩:=rv.one;obtain⟨zz,a8,n,r,hl,e⟩:=I.lstM hH;have hn:=zep;obtain⟨wv,hw,bA⟩:=r.get hz;have hj:j<a8.length:=(Zk.mp hw).1;have fl:∀{i:Nat} {a:V},xs[i]?=some a→zfk a=true:=λ{i a} q=>Jz.mp fs a (Yy q);refine call_meets F.slot_list_index ⟨_,e,rfl⟩ F.entry_list_index (F.args_list_index_2 _ _)
  (SeqAt.list_indexAt l a8.toArray n none #[] u (eqU y) j (DJ hj) DH ?_ ?_) ⟨e,λa ha=>zdv ru fy r fs a (DJ ha),?_⟩
 ·have e1:a8[j]=wv:=by have:=Qb hj;rw[this]at hw;exact Qw hw
  show eqU y (a8.toArray[j])=true;rw[Jd,e1,eqU_of bA (fl hz)];exact ez
 ·intro m hm aa;have ou:m<a8.length:=by simpa using hm
  have br:m<xs.length:=by exact zar6 ‹_› ‹_›
  have gx:xs[m]?=some xs[m]:=Qb br;obtain⟨wm,hwm,rm⟩:=r.get gx;have e1:a8[m]=wm:=by have:=Qb ou;rw[this]at hwm;exact Qw hwm
  show eqU y (a8.toArray[m])=false;rw[Jd,e1,eqU_of rm (fl gx)];exact fX m _ aa gx
 exact⟨GG j,H,Gr,⟨RV⟩,q⟩
inductive RrInsert(x:V)(vs:List V)(H:Hp)(Q:VK):Prop
 |mk(l:Nc)(xs:List V)(y:V)(k:Nat)(h0:x=.ref l)(h1:vs=[.int k,y])(h2:H l=some (.lst xs))(h3:xs.length<sizeLine)(h4:k≤xs.length)(h5:Q .non (upd H l (.lst (xs.take k++y::xs.drop k))))
def rInsert:V→List V→Hp→VK→Prop:=λx vs H Q=>RrInsert x vs H Q
def zc3:ML "list.insert" rInsert:=by
 intro a6 s σ H x vs v us Q I rx rv h;obtain⟨l,xs,y,k,rfl,rfl,hH,hz,hk,q⟩:=h;cases rx;obtain⟨u1,u,rfl,⟨t,rfl⟩,ru⟩:=rv.two;obtain⟨zz,a8,n,r,hl,e⟩:=I.lstM hH;have hn:=zep;obtain⟨i,hi⟩:∃i:Int,i=(k:Int):=⟨_,rfl⟩;have rF:¬(!Builtin.List.listFitsIndex i)=true:=by rw[fitsIndex_both DH DH];exact Za
 have hsz:a8.toArray.size≤sizeLine:=by rw[Qp];exact zdx ‹_› ‹_›
 have M:=AutoSeq1.list_insert_list_int_val_1 l a8.toArray n i t u rF hsz;rw[←hi];refine call_meets F.slot_list_insert ⟨_,e,rfl⟩ F.entry_list_insert (F.args_list_insert_3 _ _ _) M ⟨e,.non,_,I.lset (its':=a8.take k++u::a8.drop k) hH e ?_ ((r.take k).append (.cons ru (r.drop k))) ?_,rfl,q⟩
 ·have e1:¬ (i < 0):=by lia
  have e2:min i.toNat a8.toArray.size=k:=by rw[Qp];lia
  show(a8.toArray.extract 0 (if i<0 then(i+((a8.toArray.size:Nat):Int)).toNat else min i.toNat a8.toArray.size)).push u++a8.toArray.extract (if i<0 then(i+((a8.toArray.size:Nat):Int)).toNat else min i.toNat a8.toArray.size)=_;rw[if_neg e1,e2];apply Xv.mp;simp;rw[Qt (by rw[Yw];exact Qd _)]
 simp;lia
theorem zec:∀{zs:Nj} {a8:Ni},JA a8→∃l:List (Str×Tok),a8=PySem.strValues l∧l.map (·.1)=zs
 |[],_,.nil=>⟨[],rfl,rfl⟩
 |z::zs,_,.cons r t=>by obtain⟨tk,rfl⟩:=r;obtain⟨l,rfl,e⟩:=zec t;exact⟨(z,tk)::l,rfl,by rw[Ql,e]⟩
def call_isi_str:YL (.builtin "isinstance") (λxs H Q=>Ex1 λz=>Aj2 (xs=[GH z,.ty "str"]) (Q RC H)):=by intro a6 s σ H xs us Q I r h;obtain⟨z,rfl,q⟩:=h;obtain⟨u,w',rfl,⟨t,rfl⟩,e⟩:=vals2 r;have e':w'=Value.type "str" :=e;subst e';exact IsiPair.str_str ⟨RC,H,I,rfl,q⟩
def zhs{a6:Nd}{s:Nh}{σ:St}{H:Hp}{p:Nc}{ys:List V}(hc:X.calm=true)(I:Fg)(hq:Q4 p ys){Q:Na}(h:∀ (a8:Ni) (It:Nc) (h1:Np),UF a8→Walks X.prog X.w X.A.in1 It [It,p] [It] a8.toArray.size (λi v=>a8.toArray[i]?=some v) (λi h=>h.IsListIter It p i∧h.IsList p a8.toArray)→(h1.IsListIter It p 0∧h1.IsList p a8.toArray)→(∀ b∈[It,p],b < h1.objs.size) →
   (∀(h':Np) (tk:Nat),(∀b o,b∉[It]→h1.get? b=some o→h'.get? b=some o)→ZA H {s with heap:=h',toks:=tk})→Q (DK It) {s with heap:=h1}) :
  wpAny DT X.A.in1 (pyIter HU) Q X.xe s:=by
 obtain⟨a8,rv,pl,hz⟩:=I.list hq;refine wpAny_pyIter_list pl.isList ?_;have lt:p<s.heap.objs.size:=by obtain⟨o,n,e,_⟩:=pl;exact Qx e
 refine h a8 s.heap.objs.size _ rv (Walks.list (show X.A.in1.handled=none from I.ok.hd hc) _ _ (Zm lt) _) ⟨⟨_,Re,rfl,rfl⟩,?_⟩ (λb hb=>?_) λh' tk k=>I.kept (t':=tk) λb o e=>?_
 ·obtain⟨o,e,r⟩:=pl.isList;exact⟨o,Q5 e,r⟩
 ·rcases Qi.mp hb with e|e
  ·rw[e];simp[Heap.push]
  rw[Qc.mp e];simp[Heap.push];exact Kh lt
 exact k b o (λz=>absurd (Qx e) (by rw[Qc.mp z];exact Yv _)) (Q5 e)
theorem zd4(ns:List Int):∀k,k≤ns.length→preSum (λi=>ns.getD i 0) k=(ns.take k).sum
 |0,_=>rfl
 |k+1,h=>by show preSum (λi=>ns.getD i 0) k+ns.getD k 0=_;have hk:k<ns.length:=h;rw[zd4 ns k Fd,Qo hk,List.sum_append,List.sum_singleton];congr 1;simp[List.getD,hk]
theorem zg6:∀{ns:List Int} {a8:Ni},M0 a8→∀(i:Nat) (v:Value),a8[i]?=some v→∃t,v=Value.int (ns.getD i 0) t
 |[],_,.nil,i,v,e=>by simp at e
 |n::ns,_,.cons r t,0,v,e=>by obtain⟨tk,rfl⟩:=r;simp at e;subst e;exact⟨tk,rfl⟩
 |n::ns,_,.cons r t,i+1,v,e=>by obtain⟨tk,h⟩:=zg6 t i v (DJ e);exact⟨tk,by rw[h];simp⟩
def sum_small{ns:List Int}(hb:∀n∈ns,0≤n∧n≤1000000):0≤ns.sum∧ns.sum≤1000000*(ns.length:Int):=by
 induction ns with
 |nil=>simp
 |cons a r ih=>have h1:=hb a Qe;have h2:=ih λn hn=>hb n (WD hn);rw[List.sum_cons,Zc];lia
def call_sum(hc:X.calm=true):YL (.builtin "sum") (λxs H Q=>Ex2 λ(p:Nc) (ns:List Int)=>Aj5 (xs=[HU]) (Q4 p (ns.map V.int)) (ns.length≤1000000) (∀n∈ns,0≤n∧n≤1000000) (Q (.int ns.sum) H)):=by
 intro a6 s σ H xs us Q I r h;obtain⟨p,ns,rfl,hq,hl,hb,q⟩:=h;obtain⟨u,rfl,rx⟩:=vals1 r;cases rx;refine call_sum_walk (zhs hc I hq λa8 It h1 rv W st lt keep=>⟨It,_,_,_,_,_,λi=>ns.getD i 0,rfl,W,st,lt,λi v e=>zg6 rv i v (DJ e),λj hj=>?_,λh' tk t' k=>⟨.int ns.sum,H,NH k,⟨t',?_⟩,q⟩⟩)
 ·have aq:=rv.length;rw[Qa]at aq;have ji:j<ns.length:=by rw[aq];simpa using hj
  have s1:=sum_small (ns:=ns.take (j+1)) λn hn=>hb n (Wc hn);rw[Zi]at s1;have g:ns.getD j 0=ns[j]:=by simp[List.getD,ji]
  have g2:=hb _ (Qm ji);refine⟨?_,?_⟩
  ·show InLong (ns.getD j 0);rw[g];unfold InLong;lia
  rw[zd4 ns (j+1) ji];unfold InLong;lia
 have aq:=rv.length;rw[Qa]at aq;rw[Qp,zd4 ns _ DH,←aq,Qt D9]
theorem zg7:∀{bs:List Bool} {a8:Ni},Vals (bs.map V.bl) a8→∀(i:Nat) (v:Value),a8[i]?=some v→v=Value.bool (bs.getD i true)
 |[],_,.nil,i,v,e=>by simp at e
 |n::ns,_,.cons r t,0,v,e=>by cases r;simp at e;subst e;rfl
 |n::ns,_,.cons r t,i+1,v,e=>by have h:=zg7 t i v (DJ e);rw[h];simp
def all_range(bs:List Bool):(List.range bs.length).all (λi=>bs.getD i true)=bs.all id:=by
 rw[Wp,Jz,Jz];constructor
 ·intro h x hx;obtain⟨i,hi,e⟩:=Zb hx;have:=h i (Yi.mpr hi);simp[List.getD,hi]at this;rw[←e];exact this
 intro h i hi;have dD:=Yi.mp hi;simp[List.getD,dD];exact h _ (Qm dD)
def call_all(hc:X.calm=true):YL (.builtin "all") (λxs H Q=>Ex2 λ(p:Nc) (bs:List Bool)=>Aj3 (xs=[HU]) (Q4 p (bs.map V.bl)) (Q (.bl (bs.all id)) H)):=by
 intro a6 s σ H xs us Q I r h;obtain⟨p,bs,rfl,hq,q⟩:=h;obtain⟨u,rfl,rx⟩:=vals1 r;cases rx;refine call_all_walk (zhs hc I hq λa8 It h1 rv W st lt keep=>⟨It,_,_,_,_,_,λi=>bs.getD i true,rfl,W,st,λi v s' Q' E' e q'=>?_,λh' tk k=>⟨.bl (bs.all id),H,NH k,?_,q⟩⟩)
 ·have e':=zg7 rv i v (DJ e);subst e';exact wpAny_truthy_bool q'
 have aq:=rv.length;rw[Qa]at aq;show Value.bool _=Value.bool _;rw[Qp,←aq,all_range]
end
end L2
namespace L2
open PySem PySem.Spec PyProof.Rows Tm
def Vals.perm{ws us:Ni}(p:ws.Perm us):∀{ys:List V},UF us→∃zs,zs.Perm ys∧Vals zs ws:=by
 induction p with
 |nil=>intro ys r;cases r;exact⟨[],.nil,.nil⟩
 |cons x q ih=>
  intro ys r;cases r with
  |cons r1 r2=>obtain⟨zs,h1,h2⟩:=ih r2;exact⟨_::zs,h1.cons _,.cons r1 h2⟩
 | swap x y l=>
  intro ys r;cases r with
  |cons r1 r2=>
   cases r2 with
   |cons r3 r4=>exact⟨_,List.Perm.swap ..,.cons r3 (.cons r1 r4)⟩
 |trans _ _ ih1 ih2=>intro ys r;obtain⟨zs,h1,h2⟩:=ih2 r;obtain⟨bz,h3,h4⟩:=ih1 h2;exact⟨bz,h3.trans h1,h4⟩
theorem Vals.pairwise{α:Type}{R:α→α→Prop}{kv:Value→α}{kV:V→α}:∀{zs:List V} {ws:Ni},Vals zs ws→(∀v∈zs,∀u,UG u→kv u=kV v)→ws.Pairwise (λa b=>R (kv a) (kv b))→zs.Pairwise λa b=>R (kV a) (kV b)
 |_,_,.nil,_,_=>.nil
 |v::zs,u::ws,.cons r t,hk,h=>by rw[Wk]at h ⊢;refine⟨λb hb=>?_,Vals.pairwise t (λv hv=>hk v (WD hv)) h.2⟩;obtain⟨i,hi,e⟩:=Zb hb;obtain⟨x,hx,rx⟩:=Vals.get t (i:=i) (x:=b) (by rw[Qb hi,e]);have:=h.1 x (Yy hx);rw[hk v Qe u r,hk b (WD hb) x rx]at this;exact this
section
variable{X:Cx}
def zd2{a6:Nd}{s:Nh}{σ:St}{H:Hp}{p:Nc}{ys:List V}{R:List Value→List Value→Prop}{Q:VK}(I:Fg)(hq:Q4 p ys)(hS:∀a8,UF a8→∀(A':Around) (E':Value→Shared→Prop) (s':Shared),A'.units≤X.A.units+8→(∀b o,s.heap.get? b=some o→s'.heap.get? b=some o)→zbv X.prog X.w A' E' s' (R a8) a8)(h:∀(l:Nc) (ws:List V) (a8 us:Ni),H l=none→ws.Perm ys→UF a8→Vals ws us→R a8 us→Q Hw (Hh l ws)) :
  wpAny DT X.A (call (.builtin "sorted") [HU]) (QB Q) X.xe s:=by
 obtain⟨a8,r,pl,hz⟩:=I.list hq;refine sorted_any pl.isList (by rw[←r.length];exact hz) (hS a8 r) λws l g tk e p1 p2 le k he=>?_;obtain⟨zs,q1,q2⟩:=Vals.perm p1 r;exact⟨Hw,_,I.laid (t':=tk) k le (show QC _ g _ (DX zs) from⟨by rw[q1.length_eq];exact hz,ws,e,q2,he⟩),rfl,h l zs a8 ws (Hv le) q1 r q2 p2⟩
def leS(x y:Str):Prop:=¬y.cps.toList<x.cps.toList
def txV:V→List Nat
 |.str x=>x.cps.toList
 |_=>[]
def strs_perm{ws:List V}{zs:Nj}(pm:ws.Perm Gj):∃ts:List Str,ws=ts.map V.str∧ts.Perm zs:=by
 have a1:∀v∈ws,∃x,v=V.str x:=λv hv=>by obtain⟨x,_,e⟩:=Qj.mp (pm.mem_iff.mp hv);exact⟨x,e.symm⟩
 have a2:∃ts:List Str,ws=ts.map V.str:=by
  clear pm;induction ws with
  |nil=>exact⟨[],rfl⟩
  |cons v r ih=>obtain⟨ts,e⟩:=ih λv hv=>a1 v (WD hv);obtain⟨x,e2⟩:=a1 v Qe;exact⟨x::ts,by rw[e,e2];rfl⟩
 obtain⟨ts,rfl⟩:=a2;refine⟨ts,rfl,?_⟩;have:=pm.map (λv=>match v with | .str x=>x|_=>Str.empty);rw[Zq,Zq]at this;simpa[Function.comp_def] using this
def zfo{zs:Nj}{a8:Ni}(r:JA a8):∀v∈a8,∃x t,v=.str x t:=λv hv=>by obtain⟨l,rfl,e⟩:=zec r;obtain⟨pr,_,e2⟩:=Qj.mp hv;exact⟨_,_,e2.symm⟩
def txV_str{zs:Nj}:∀v∈zs.map V.str,∀u,UG u→kvS u=txV v:=λv hv u ru=>by obtain⟨x,_,rfl⟩:=Qj.mp hv;obtain⟨t,rfl⟩:=ru;rfl
def strs_out{zs ts:Nj}{a8 us:Ni}(r:JA a8)(r2:Vals (ts.map V.str) us)(p:a8.length<64→us.Pairwise λx y=>strO.kle (kvS x) (kvS y))(h:zs.length<64):ts.Pairwise leS:=by have p2:=Vals.pairwise (R:=λa b=>strO.kle a b) (kV:=txV) r2 txV_str (p (by rw[←r.length,Qa];exact h));rw[Wv]at p2;exact p2.imp of_decide_eq_false
def zdh:YL (.builtin "sorted") (λxs H Q=>Ex2 λ(p:Nc) (zs:Nj)=>Aj3 (xs=[HU]) (Q4 p Gj) (∀(l:Nc) (ws:Nj),H l=none→ws.Perm zs→(zs.length<64→ws.Pairwise leS)→Q Hw (ZQ l Ga))):=by intro a6 s σ H xs us Q I r h;obtain⟨p,zs,rfl,hq,q⟩:=h;obtain⟨u,rfl,rx⟩:=vals1 r;cases rx;refine zd2 I hq (λa8 r A' E' s' _ _=>zef (zfo r)) λl ws a8 us hl p1 r1 r2 p2=>?_;obtain⟨ts,rfl,p3⟩:=strs_perm p1;exact q l ts hl p3 (strs_out r1 r2 p2)
def zfx(I:Fg)(e:H a=some (.tup [GH x,z])):∃q,RelV z q∧NI Gq x q:=by obtain⟨_,a8,r,o,e1,c,n,d⟩:=JJ e;obtain⟨u,w',rfl,⟨t,rfl⟩,rz⟩:=vals2 r;exact⟨w',rz,a,o,t,n,rfl,e1,c,d⟩
def zf7(r:UF a8):∀v∈a8,∃b∈ys,RelV b v:=λv hv=>by
 obtain⟨i,hi,e⟩:=Zb hv;have hl:=r.length;have az:i<ys.length:=by exact zar6 ‹_› ‹_›
 obtain⟨u,hu,ru⟩:=r.get (i:=i) (Qb az);rw[Qb hi,e]at hu;cases hu;exact⟨_,Qm az,ru⟩
def zfy(a:JI p)(b:zeb h v y q):x=y∧p=q:=by
 obtain⟨a,o,t,n,rfl,e,c,d⟩:=a;obtain⟨a',o',t',n',e0,e',c',d'⟩:=b;cases e0;rw[e]at e';cases e';rw[d]at d';have d2:(#[WE t,p]:Array Value)=#[U5 t',q]:=by injection d'
 have d3:=congrArg (λa:Array Value=>a[0]?) d2;have d4:=congrArg (λa:Array Value=>a[1]?) d2;simp at d3 d4;exact⟨d3.1,d4⟩
def rowV(H:Hp):V→List Nat
 |.ref a=>match H a with
  |some (.tup [x,_])=>txV x
  |_=>[]
 |_=>[]
def zek(e:H a=some (.tup [x,y])):NJ Gq=txV x:=by unfold rowV;dsimp only;rw[e]
def zfv:YL (.builtin "sorted") (λxs H Q=>Ex2 λ(p:Nc) (ys:List V)=>Aj5 (xs=[HU]) (Q4 p ys) (∀v∈ys,∃a x z,v=.ref a∧H a=some (.tup [GH x,z])) (∀v∈ys,∀u∈ys,NJ v=NJ u→v=u) (∀(l:Nc) (ws:List V),H l=none→ws.Perm ys→(ys.length<64→ws.Pairwise λa b=>strO.kle (NJ a) (NJ b))→Q Hw (Hh l ws))):=by
 intro a6 s σ H xs us Q I r h;obtain⟨p,ys,rfl,hq,hy,hd,q⟩:=h;obtain⟨u,rfl,rx⟩:=vals1 r;cases rx;have back:∀a8,UF a8→∀v∈a8,∃b∈ys,RelV b v∧∃a x z q,b=.ref a∧v=.ref a∧H a=some (.tup [GH x,z])∧NI v x q:=λa8 r v hv=>by obtain⟨b,hb,rb⟩:=zf7 r v hv;obtain⟨a,x,z,rfl,e2⟩:=hy b hb;have rb':=rb;cases rb;obtain⟨q',_,T⟩:=zfx I e2;exact⟨_,hb,rb',a,x,z,q',rfl,rfl,e2,T⟩
 refine zd2 I hq (λa8 r A' E' s' _ k=>zhy k (λv hv=>?_) λv hv u hu x p q T T'=>?_) λl ws a8 us hl p1 r1 r2 p2=>q l ws hl p1 λoO=>?_
 ·obtain⟨b,hb,rb,a,x,z,q,_,_,_,T⟩:=back a8 r v hv;exact⟨x,q,T⟩
 ·obtain⟨b,hb,rb,a,x1,z,q1,rfl,rfl,e1,T1⟩:=back a8 r v hv;obtain⟨c,hc,rc,a',x2,z',q2,rfl,rfl,e2,T2⟩:=back a8 r u hu;have h1:=(zfy T T1).1;have h2:=(zfy T' T2).1;subst h1;subst h2;have:=hd _ hb _ hc (by rw[zek e1,zek e2]);cases this;exact .inl rfl
 refine Vals.pairwise (R:=λa b=>strO.kle a b) (kv:=λu=>(Vp u).1) r2 (λv hv u ru=>?_) ((p2 (by rw[← r1.length];exact oO)).imp λh=>(Bool.or_eq_false_iff.mp h).1);obtain⟨a,x,z,rfl,e2⟩:=hy v (p1.mem_iff.mp hv);cases ru;obtain⟨q',_,T⟩:=zfx I e2;rw[T.key,zek e2];rfl
def dk_at{a6:Nd}{s:Nh}{σ:St}{H:Hp}{d:Nc}{kvs:List (Key×V)}(I:Fg)(rd:Rd H d Gz) :
  kvs.length≤sizeLine∧(d==sysModules)=false∧∃vs ep,Y4 vs∧s.heap.DictAt Ru d vs ep∧vs.length=kvs.length:=by
 obtain⟨z,y,vs,r,hd⟩:=rd.ok I.hok;obtain⟨ep,ha⟩:=hd.dictAt;exact⟨z,y,vs,ep,r,ha,(Yc r).symm⟩
def KV.get{kvs:List (Key×V)}{vs:List (Key×Value)}(r:Y4 vs){i:Nat}(e:vs[i]?=some (k,x)):∃v,kvs[i]?=some (k,v)∧UG x:=by
 induction r generalizing i with
 |nil=>simp at e
 |cons h t ih=>
  cases i with
  |zero=>simp at e;subst e;exact⟨_,by simp;exact Prod.ext h.1 rfl,h.2⟩
  |succ j=>obtain⟨v,h1,h2⟩:=ih (i:=j) (DJ e);exact⟨v,DJ h1,h2⟩
def key_rel(h:(JK w).is k v=true):RelV (kV k) v:=by
 rcases zbc h with⟨i,t,rfl,rfl⟩|⟨x,t,rfl,rfl⟩
 ·exact⟨t,rfl⟩
 exact⟨t,rfl⟩
def keys_vals{P:Nk}{w:Nl}{kvs:List (Key×V)}{vs:List (Key×Value)}{ai:Array Value}(r:Y4 vs)(hl:vs.length=kvs.length)(h:ItemsOf (λi v=>∃k x,vs[i]?=some (k,x)∧(JK w).is k v=true) ai vs.length):Vals (kvs.map λp=>kV p.1) ai.toList:=by
 have g:∀(i:Nat),i<kvs.length→∃v,ai.toList[i]?=some v∧RelV (kV ((kvs.map Prod.fst).getD i (Gb 0))) v:=λi hi=>by
  have az:i<ai.size:=by rw[h.1];exact zar6 ‹_› ‹_›
  have e:ai[i]?=some ai[i]:=by simp[az]
  obtain⟨k,x,e1,e2⟩:=h.2 i _ e;obtain⟨v',e3,_⟩:=KV.get r e1;refine⟨ai[i],DR Uc e,?_⟩;have e4:(kvs.map Prod.fst).getD i (Gb 0)=k:=by rw[Qn,Qr,e3];rfl
  rw[e4];exact key_rel e2
 have hsz:ai.toList.length=kvs.length:=by rw[Yj,h.1];exact hl
 clear h r hl;generalize ai.toList=l at g hsz;induction kvs generalizing l with
 |nil=>have:l=[]:=Jk.mp hsz;subst this;exact .nil
 | cons p t ih=>
  cases l with
  |nil=>cases hsz
  |cons u us=>
   refine .cons ?_ (ih us (λi hi=>?_) (DJ hsz))
   ·obtain⟨v,e1,e2⟩:=g 0 DI;simp at e1;subst e1;exact e2
   obtain⟨v,e1,e2⟩:=g Fj (DJ hi);exact⟨v,DJ e1,DJ e2⟩
def zbu(hc:X.calm=true):YL (.builtin "sorted") (λxs H Q=>Ex3 λ(d:Nc) (kvs:GK (Key×V)) (zs:Nj)=>Aj4 (xs=[DK d]) (Rd H d Gz) ((kvs.map λp=>kV p.1)=zs.map V.str) (∀(l:Nc) (ws:Nj),H l=none→ws.Perm zs→(zs.length<64→ws.Pairwise leS)→Q Hw (ZQ l Ga))):=by
 intro a6 s σ H xs us Q I r h;obtain⟨d,kvs,zs,rfl,hq,ez,q⟩:=h;obtain⟨u,rfl,rx⟩:=vals1 r;cases rx;obtain⟨z,lo,vs,ep,rk,ha,hl⟩:=dk_at I hq;refine ze5 (G:=λa8=>JA a8) (λE' R hR=>zgy (PySem.W.kdl_dict lo) (show X.A.in1.handled=none from I.ok.hd hc) ha (DR hl z) λg tk ai k le hi=>hR g tk _ k le (ez▸keys_vals rk hl hi))
  (λa8 r=>by rw[←r.length,←ez,Qa];exact z) (λa8 r A' E' s' _ _=>zef (zfo r)) λa8 ws l g tk e r p1 p2 le k he=>?_
 obtain⟨bz,q1,q2⟩:=Vals.perm p1 r;obtain⟨ts,rfl,p3⟩:=strs_perm q1;refine⟨Hw,_,I.laid (t':=tk) k le (show QC _ g _ (DX _) from⟨?_,ws,e,q2,he⟩),rfl,q l ts (Hv le) p3 (strs_out r q2 p2)⟩;rw[q1.length_eq,←ez,Qa];exact z
variable{a6:Nd}{σ:St}{H:Hp}{s:Nh}
def Inv.freeze(I:Fg)(hd:H d=some u)(ho:s.heap.get? d=some o)(mu:Mut (FX u)):ZA (ZQ d (.frz o u)) s:=by
 have ne:∀b,H b=none→b≠d:=λb e z=>by rw[z,hd]at e;cases e
 have nt:∀b xs,H b=some Hm→b≠d:=λb xs e z=>by rw[z,hd]at e;cases e;exact mu
 have nf:∀b o' u',H b=some (.frz o' u')→b≠d:=λb o' u' e z=>by rw[z,hd]at e;cases e;exact mu
 have nb:∀b ps,H b=some (.tbl ps)→b≠d:=λb ps e z=>by rw[z,hd]at e;cases e;exact mu
 have no:∀b a,H b=some (.own a)→b≠d:=λb a e z=>by rw[z,hd]at e;cases e;exact mu
 refine I.un (h':=s.heap) (t':=s.toks) ⟨λb o e _ _ _=>e,λb o e _ _ _=>⟨o.slots,e⟩,λb o e n _=>by rw[zaf (ne b n)];exact n,λb o e _=>⟨o,e⟩,λb xs e=>by rw[zaf (nt b xs e)];exact e,
  λb o' u' e=>by rw[zaf (nf b o' u' e)];exact e,λb ps e=>⟨#[],by rw[zaf (nb b ps e),e];simp⟩⟩ λb v e=>?_
 by_cases hb:b=d
 ·subst hb;rw[zac]at e;cases e;exact⟨ho,(UJ u hd).stay (λc v _ q=>q) (λc q=>by rw[zaf (no c _ q)];exact q) λc xs q=>by rw[zaf (nt c xs q)];exact q⟩
 rw[zaf hb]at e;exact(UJ v e).stay (λc v _ q=>q) (λc q=>by rw[zaf (no c _ q)];exact q) λc xs q=>by rw[zaf (nt c xs q)];exact q
def Inv.thaw(I:Fg)(hd:H d=some (.frz o u))(hx:∀o' u',X.H₀ d≠some (.frz o' u')):ZA (ZQ d u) s:=by
 have ne:∀b,H b=none→b≠d:=λb e z=>by rw[z,hd]at e;cases e
 have nt:∀b xs,H b=some Hm→b≠d:=λb xs e z=>by rw[z,hd]at e;cases e
 have nb:∀b ps,H b=some (.tbl ps)→b≠d:=λb ps e z=>by rw[z,hd]at e;cases e
 have no:∀b a,H b=some (.own a)→b≠d:=λb a e z=>by rw[z,hd]at e;cases e
 have B:=I.base;refine⟨I.ok,I.os,I.bare,⟨B.keep,B.slot,λb o e n hx=>?_,B.there,λb xs e=>?_,λb o' u' e=>?_,λb ps e=>?_⟩,I.loc,I.cell,?_,λx c e=>?_,λp hp=>?_,λb v e=>?_,I.len⟩
 ·have:=B.free b o e n hx;rw[zaf (ne b this)];exact this
 ·have:=B.tups b xs e;rw[zaf (nt b xs this)];exact this
 ·have:=B.frzs b o' u' e;have nd:b≠d:=λz=>hx o' u' (z▸e);rw[zaf nd];exact this
 ·obtain⟨m,q⟩:=B.tbls b ps e;exact⟨m,DY (nb b _ q) q⟩
 ·rw[zaf (ne _ I.free)];exact I.free
 ·rw[zaf (ne c (UC e))];exact UC e
 ·obtain⟨h1,h2,h3⟩:=Y2 hp;exact⟨h1,DY (ne _ h2) h2,h3⟩
 by_cases hb:b=d
 ·subst hb;rw[zac]at e;cases e;exact(show s.heap.get? b=some o∧QC H s.heap b u from UJ _ hd).2.stay (λc v _ q=>q) (λc q=>by rw[zaf (no c _ q)];exact q) λc xs q=>by rw[zaf (nt c xs q)];exact q
 rw[zaf hb]at e;exact(UJ v e).stay (λc v _ q=>q) (λc q=>by rw[zaf (no c _ q)];exact q) λc xs q=>by rw[zaf (nt c xs q)];exact q
inductive Thaw(X:Cx)(R:Hp→Prop)(H':Hp):Prop
 |mk(d:Nc)(o:Obj)(u:HO)(h:H' d=some (.frz o u))(n:∀o' u',X.H₀ d≠some (.frz o' u'))(q:R (upd H' d u))
def sThaw(X:Cx)(t:TS):TS:=λD σ H=>t {nx:=λ σ' H'=>Thaw X (D.nx σ') H',rt:=λv H'=>Thaw X (D.rt v) H',bk:=λ σ' H'=>Thaw X (D.bk σ') H',ct:=λ σ' H'=>Thaw X (D.ct σ') H'} σ H
def ps_thaw{st:Stmt}{t:TS}(h:X3 st t):X3 st (sThaw X t):=by
 intro a6 s σ H D I q;refine thn (h a6 s σ H _ I q) λf s' z=>?_;cases f with
 |next=>obtain⟨σ',H',I',d,o,w',e1,e2,e3⟩:=z;exact⟨σ',_,Vq e2,e3⟩
 |brk=>obtain⟨σ',H',I',d,o,w',e1,e2,e3⟩:=z;exact⟨σ',_,Vq e2,e3⟩
 |cont=>obtain⟨σ',H',I',d,o,w',e1,e2,e3⟩:=z;exact⟨σ',_,Vq e2,e3⟩
 |ret u=>obtain⟨v,σ',H',I',r,d,o,w',e1,e2,e3⟩:=z;exact⟨v,σ',_,Vq e2,r,e3⟩
def Itd(d:Nc)(o:Obj)(kvs:GK (Key×V)):It:=
 ⟨λi H=>H d=some (.frz o Gz)∧i<kvs.length,λi H x H'=>H'=H∧∃p,kvs[i]?=some p∧x=kV p.1,λi H=>H d=some (.frz o Gz)∧kvs.length≤i⟩
def frz_at(I:Fg)(e:H d=some (.frz o Gz)):s.heap.get? d=some o∧QC H s.heap d Gz:=I.hok d _ e
def zhk{h:Np}{kvs:List (Key×V)}{vs vs':List (Key×Value)}{ep ep':Nat}(ho:h.get? d=some o)(a:h.DictAt (JK w) d vs ep)(o':Obj)(h':Np)(ao:h'.get? d=some o):h'.DictAt (JK w) d vs ep:=by obtain⟨q,es,e,r⟩:=a;rw[ho]at e;cases e;exact⟨o,es,ao,r⟩
theorem turn_dict{P:Nk}{w:Nl}{K:Nb}{tg:Expr}{o:Obj}{kvs:List (Key×V)}{vs:List (Key×Value)}{ep:Nat}{h0:Np}(d it:Nc)(rk:Y4 vs)(hl:vs.length=kvs.length)(h00:h0.get? d=some o)(jE:h0.DictAt (JK w) d vs ep) :
  Turn P w K tg (N0 kvs) [it] it (λi h=>h.IsKeyIter it d i vs.length ep) where
 mem:=by simp
 obj:=λi h st b hb=>by
  have e:b=it:=by simpa using hb
  subst e;obtain⟨o,e,c,d⟩:=st;exact⟨o,e,λv z=>by rw[d]at z;cases z⟩
 keep:=λi h h' st k=>st.at λo e=>k it DI o e
 item:=by
  intro X hP hw hK hc i a6 s σ H E I hf st hg;subst hP hw hK;obtain⟨fz,hi⟩:=hg;obtain⟨ho,_⟩:=frz_at I fz;have DA:s.heap.DictAt Ru d vs ep:=zhk (kvs:=kvs) (vs':=vs) (ep':=ep) h00 jE o s.heap ho;obtain⟨f0,f1,f2,f3,f4,f5⟩:=hf it DI;have az:i<vs.length:=by exact zar6 ‹_› ‹_›
  obtain⟨v',e3,_⟩:=KV.get rk (i:=i) (k:=vs[i].1) (x:=vs[i].2) (Qb az);refine wpAny_pyNext_dict_item st DA (k:=vs[i].1) (v:=vs[i].2) (Qb az) λkey h' hk a7 sb=>?_;have I1:ZA H {s with heap:=h'}:=I.turned (t':=s.toks) (λb o hb e=>(sb.2 b hb).trans e) f0 f1 f3 f4 f5;obtain⟨o2,e,c,d2⟩:=id a7;exact⟨key,rfl,go_of (s:={s with heap:=h'}) e c d2 DL ⟨kV vs[i].1,H,I1,key_rel hk,⟨rfl,_,e3,rfl⟩,a7,λb hb=>(hf b hb).1⟩⟩
 done:=by intro X hP hw hK hc i a6 s σ H E I hf st hg;subst hP hw hK;obtain⟨fz,hi⟩:=hg;obtain⟨ho,_⟩:=frz_at I fz;have DA:s.heap.DictAt Ru d vs ep:=zhk (kvs:=kvs) (vs':=vs) (ep':=ep) h00 jE o s.heap ho;obtain⟨f0,f1,f2,f3,f4,f5⟩:=hf it DI;exact wpAny_pyNext_dict_end Hk st DA (Wt DH) λh' eb=>⟨rfl,I.turned (t':=s.toks) (λb o hb e=>eb b o hb e) f0 f1 f3 f4 f5⟩
 self:=λ_ _ _ _ _ st h=>wpAny_pyIter_keyiter st h
inductive RIDi(x:V)(H:Hp)(R:It→Hp→Prop):Prop
 |mk(d:Nc)(kvs:List (Key×V))(e:x=.ref d)(h:H d=some (.dK kvs))(q:∀o,R (Itd d o kvs) (upd H d (.frz o (.dK kvs))))
def iDict(td:TE):TI:=λ σ H R=>td σ H λx H1=>RIDi x H1 R
def pi_dict{tg l:Expr}{tl:TE}(hl:Z9 l tl):JE l (iDict tl):=by
 intro a6 s σ H R I h;refine thn (hl a6 s σ H _ I h) λv s1 ⟨x,H1,I1,r1,q1⟩=>?_;obtain⟨d,kvs,e,hd,q⟩:=q1;subst e;cases r1;obtain⟨z,lo,vs,ep,rk,ha,a9⟩:=dk_at I1 (Gb hd);obtain⟨o,es,ho,r⟩:=id ha;refine wpAny_pyIter_dict lo ha ?_;have I2:=I1.freeze hd ho trivial;have I3:ZA (QG d (.frz o Gz)) {s1 with heap:=s1.heap.push {cls:=.type "dict_keyiterator",data:=.fields #[DK d,Rj 0 0,.int vs.length 0,Rj ep 0]}}:=I2.kept (t':=s1.toks) λb o e=>Q5 e;refine⟨s1.heap.objs.size,[s1.heap.objs.size],_,_,RV,I3,turn_dict d _ rk a9 ho ha,⟨_,Re,rfl,rfl⟩,λb hb=>?_,q o⟩;have e:b=s1.heap.objs.size:=by simpa using hb
 subst e;exact I2.fpOk D9 (I2.hok.fresh D9)
def for_dict{d:Nc}{o:Obj}{kvs:List (Key×V)}{g:TG}{tb:TS}{D:Ends}{σ:St}{H:Hp}(Pv:Nat→St→Hp→Prop)(h0:Pv 0 σ H)(hl:∀i σ H,i≤kvs.length→Pv i σ H→H d=some (.frz o Gz))(hs:∀i p σ H,kvs[i]?=some p→Pv i σ H→g (kV p.1) σ H λ σ2 H2=>tb {D with nx:=Pv Fj,ct:=Pv Fj,bk:=D.nx} σ2 H2)(hd:∀σ H,Pv kvs.length σ H→WV H) :
  ∃W:Nat→Nat→St→Hp→Prop,(∃m,W 0 m σ H)∧∀i m σ H,W i m σ H →
   ((N0 kvs).stop i H∧WV H)∨((N0 kvs).go i H∧∃N:St→Hp→Prop,Ff∧∀x H',(N0 kvs).yld i H x H'→g x σ H' λ σ2 H2=>tb {D with nx:=N,ct:=N,bk:=D.nx} σ2 H2):=by
 refine⟨λi m σ H=>m=kvs.length-i∧i≤kvs.length∧Pv i σ H,⟨kvs.length,DI,HY,h0⟩,?_⟩;rintro i m σ H ⟨rfl,hi,p⟩;have q:=hl i σ H hi p;by_cases aa:i<kvs.length
 ·refine .inr ⟨⟨q,aa⟩,Pv Fj,fun σ' H' p'=>⟨kvs.length - Fj,FE,rfl,aa,p'⟩,λx H' y=>?_⟩;obtain⟨e,pr,e2,rfl⟩:=y;subst e;exact hs i pr σ _ e2 p
 have e:i=kvs.length:=by exact zar3 ‹_› ‹_›
 subst e;exact .inl ⟨⟨q,D9⟩,hd σ H p⟩
end
end L2
namespace Enu
open PySem PyProof.Rows
open AutoSeq1 (wpAny_loadPart')
section
variable{prog:Nk}{w:Nl}{A:No}{E:Na}{s:Nh}
def next_item(st:s.heap.IsTupleIter j t i)(ht:s.heap.IsTuple t xs)(hx:xs[i]?=some x)(hQ:∀g,g.IsTupleIter j t Fj→MB g→Q x {s with heap:=g}):ZG (Builtin.SmallTypes.nextOf (DK j)) Q E s:=by obtain⟨o,ho,hc,hd⟩:=id st;obtain⟨p,hp,_,k,hk⟩:=ht;unfold Builtin.SmallTypes.nextOf;refine wpAny_bind (wpAny_callSpecial?_slot (name:=Str.ofString "__next__") st.typeIs Ka (U2 ?_ (F.args_tuple_iterator_next_1 _)));show ZY _ (field (DK j) 0 >>= _) _ _ s;refine wpAny_bind (JY (x:=.ref t) rfl ?_);show ZY _ (if(Value.ref t==.none)=true then _ else _) _ _ s;rw[if_neg (show ¬((Value.ref t==.none)=true) from Za)];show ZY _ (field (DK j) 1 >>= _) _ _ s;refine wpAny_bind (JY (x:=.int i 0) rfl ?_);show ZY _ (seqItems? (DK t) >>= _) _ _ s;refine wpAny_bind (MO ?_);simp only[Ju,hx];refine wpAny_bind (U7 DI (wpAny_pure ⟨x,rfl,FA (hQ _ ⟨_,Ug _ ho (Ky (Uh hd _)),(Obj.cls_mapFields ..).trans hc,by rw[Uh hd];simp[rawInt]⟩ (Xk ..))⟩))
def next_end(hh:A.handled=none)(st:s.heap.IsTupleIter j t i)(ht:s.heap.IsTuple t xs)(hx:xs[i]?=none)(hE:∀g e,MP g→(∃o,g.get? e=some o∧o.cls=.type "StopIteration")→E (DK e) {s with heap:=g}):ZG (Builtin.SmallTypes.nextOf (DK j)) Q E s:=by
 obtain⟨o,ho,hc,hd⟩:=id st;obtain⟨p,hp,_,k,hk⟩:=ht;unfold Builtin.SmallTypes.nextOf;refine wpAny_bind (wpAny_callSpecial?_slot (name:=Str.ofString "__next__") st.typeIs Ka (U2 ?_ (F.args_tuple_iterator_next_1 _)));show ZY _ (field (DK j) 0 >>= _) _ _ s;refine wpAny_bind (JY (x:=.ref t) rfl ?_);show ZY _ (if(Value.ref t==.none)=true then _ else _) _ _ s;rw[if_neg (show ¬((Value.ref t==.none)=true) from Za)];show ZY _ (field (DK j) 1 >>= _) _ _ s;refine wpAny_bind (JY (x:=.int i 0) rfl ?_);show ZY _ (seqItems? (DK t) >>= _) _ _ s;refine wpAny_bind (MO ?_);simp only[Ju,hx];refine wpAny_bind (wpAny_rule (wpAny_bind (U7 DI ?_)));show ZY _ (newExc (.type "StopIteration") [] >>= _) _ _ _;refine wpAny_bind ?_;simp only[newExc,newTuple];refine wpAny_bind (wpAny_newObj_type (wpAny_bind (m:=firstArgMember _ _) (wpAny_of_eq (a:=Value.none) (by first|rfl|(simp only[firstArgMember];rfl)) (wpAny_newObj_type ?_ (by size_fits)))) (by size_fits));simp only[raiseNew];refine wpAny_bind (wpAny_handled ?_)
 first|rw[show A.in1.handled=none from hh] | rw[hh]
 refine wpAny_bind (FA (wpAny_throw (hE _ _ (((Xk ..).extBut.push _).push _) ⟨_,Re,rfl⟩)))
theorem drawsT(hh:A.handled=none)(j t:Nc)(aD:t≠j)(xs:Array Value) :
  Draws prog w A j [j,t] xs.size (λi v=>xs[i]?=some v) (λi h=>h.IsTupleIter j t i∧h.IsTuple t xs) where
 live:=λ_ _ st=>let⟨o,ho,_⟩:=st.1;⟨o,ho⟩
 frame:=λi h h' st k=>⟨st.1.at λo e=>k j DI o e,let⟨o,e,r⟩:=st.2;⟨o,k t DI o e,r⟩⟩
 item:=λi s Q E hi st hQ=>by refine next_item st.1 st.2 (x:=xs[i]) (by simp[hi]) λg a b=>?_;obtain⟨o,e,r⟩:=st.2;exact hQ _ g s.toks (by simp[hi]) ⟨a,o,(b.2 t aD).trans e,r⟩ b
 done:=λs Q E st hE=>next_end hh st.1 st.2 DI hE
def new_tuple(t:Nc)(xs:Array Value)(n:Nat)(dct:Option Addr)(sl:Array GM) :
  Meets (Builtin.«enumerate.__new__» ⟨[.type "enumerate",DK t],[]⟩) (λ_ R s=>s.heap.get? t=some {cls:=.type "tuple",dict:=dct,data:=.seq xs n,slots:=sl} ∧
   R (.ok (.ret (.ref (s.heap.push {cls:=.type "tuple_iterator",data:=.fields #[DK t,Rj 0 0]}).objs.size)))
    {s with heap:=(s.heap.push {cls:=.type "tuple_iterator",data:=.fields #[DK t,Rj 0 0]}).push {cls:=.type "enumerate",data:=.fields #[.none,.bool false,D6,rawInt 0,.none,.none]}}):=
 .of_wp λprog w A R s h=>by
  obtain⟨hp,g,d,tk,os⟩:=s;obtain⟨hl,h⟩:=h;have bQ:=sub_enumerate;have hL:Heap.IsTuple (Shared.heap ⟨hp,g,d,tk,os⟩) t xs:=⟨_,hl,rfl,n,rfl⟩;wp_walk using wpAny_loadPart' hl;refine wpAny_stack_any λst=>wpAny_pure ?_;split
  ·rename_i c _ _ _ _ _;cases(c==Value.type "enumerate")<;>(wp_walk using wpAny_loadPart' hl,wpAny_pyIter_tuple hL;exact⟨RV,h⟩)
  wp_walk using wpAny_loadPart' hl,wpAny_pyIter_tuple hL;exact⟨RV,h⟩
def call_enum(hL:s.heap.IsTuple t xs)(h:∀g,IsEnum g Fh s.heap.objs.size 0 .none→g.IsTupleIter s.heap.objs.size t 0→g.objs.size=s.heap.objs.size+2→Fe→Q (DK Fh) {s with heap:=g}) :
  wpAny D7 A (call (.type "enumerate") [DK t]) Q E s:=by
 obtain⟨⟨c,dct,dt,sl⟩,hl,hc,n,hd⟩:=hL;replace hc:c=.type "tuple" :=hc;replace hd:dt=.seq xs n:=hd;subst hc hd;refine callType_new F.called_enumerate DL (F.typeCall_enumerate_1 _) (F.newCall_enumerate_1 _) (λobj=>F.args_object_init_2 obj _) F.entry_enumerate_new (new_tuple t xs n dct sl) ⟨hl,?_⟩;have hz:(s.heap.push {cls:=.type "tuple_iterator",data:=.fields #[DK t,Rj 0 0]}).objs.size=s.heap.objs.size+1:=Ub ..;show _∧_;rw[hz];have he:IsEnum ((s.heap.push {cls:=.type "tuple_iterator",data:=.fields #[DK t,Rj 0 0]}).push {cls:=.type "enumerate",data:=.fields #[.none,.bool false,D6,rawInt 0,.none,.none]}) Fh s.heap.objs.size 0 .none:=by have q:=Qy (s.heap.push {cls:=.type "tuple_iterator",data:=.fields #[DK t,Rj 0 0]}) (o:={cls:=.type "enumerate",data:=.fields #[.none,.bool false,D6,rawInt 0,.none,.none]}) rfl;rw[hz]at q;exact q
 exact⟨⟨_,he,rfl⟩,h _ he ⟨_,Q5 Re,rfl,rfl⟩ (by rw[Ub,hz]) λb o x=>Q5 (Q5 x)⟩
end
end Enu
namespace L2
open PySem PySem.Spec PyProof.Rows Enu
def Ite(a:Nc)(K:Nb):It:=
 ⟨λi H=>∃xs,UU xs∧i<xs.length,λi H x H'=>∃y t,(∀xs,UU xs→xs[i]?=some y)∧H t=none∧x=.ref t∧H'=ZQ t (.tup [GG i,y]),λi H=>∃xs,UU xs∧xs.length≤i⟩
theorem turn_enum{P:Nk}{w:Nl}{K:Nb}{elts:Nq}{kk:Nat}{pos:Pos}(a e j:Nc)(rJ:e≠j)(haj:a≠j)(hae:e≠a) :
  Turn P w K (.Tuple elts kk pos) (Ite a K) [e,j] e (λi h=>(∃old,IsEnum h e j i old)∧h.IsTupleIter j a i) where
 mem:=by simp
 obj:=λi h st b hb=>by
  rcases Qi.mp hb with z|z
  ·subst z;obtain⟨old,q⟩:=st.1;exact⟨_,q,λv z=>by have z':Data.fields _=Data.cell v:=z;cases z'⟩
  rw[Qc.mp z];obtain⟨o,q,c,d⟩:=st.2;exact⟨o,q,λv z=>by rw[d]at z;cases z⟩
 keep:=λi h h' st k=>⟨let⟨old,q⟩:=st.1;⟨old,k e DI _ q⟩,st.2.at λo q=>k j DI o q⟩
 item:=by
  intro X hP hw hK hc i a6 s σ H E I hf st hg;subst hP hw hK;obtain⟨xs,hq,hi⟩:=hg;obtain⟨a8,rv,p,hz⟩:=I.tuple hq;have hl:=rv.length;obtain⟨⟨old,he⟩,ke⟩:=st;have hh:X.A.in1.handled=none:=I.ok.hd hc;refine wpAny_pyNext_enum_itemD (drawsT hh j a haj a8.toArray) he ⟨ke,p⟩ (by simp;exact zar7 ‹_› ‹_›) rJ (by simp[rJ,hae]) λx g tk hP ho hs hT hsz hk=>⟨D6,rfl,?_⟩;have fr:∀b,b∈[e,j]→WF b:=hf;obtain⟨e0,e1,e2,e3,e4,e5⟩:=hf e DI;obtain⟨j0,j1,j2,j3,j4,j5⟩:=hf j DI;have hHe:∀b u,H b=some u→b≠e∧b≠j:=λb u q=>⟨λz=>(by rw[z,e0]at q;cases q),λz=>(by rw[z,j0]at q;cases q)⟩;have I1:ZA H {s with heap:=g,toks:=tk+1}:=by
   refine I.step (g':=s.gens) (d':=s.drawn) (ch:=[e,j]) (λb hb=>?_) (λb o _ _ hc q _=>hk b o (λz=>hc (by simp[z])) (λz=>hc (by simp[z])) q) (λb o _ _ hc q _=>⟨o.slots,hk b o (λz=>hc (by simp[z])) (λz=>hc (by simp[z])) q⟩) (λ_ _ _ _ n=>n)
    (λb o hc q=>⟨o,hk b o (λz=>hc (by simp[z])) (λz=>hc (by simp[z])) q⟩) (λ_ _ q=>q) (λ_ _ _ q=>q) (λb ps q=>⟨#[],by rw[q];simp⟩) (λm hm=>?_) (λb u q=>?_) I.bare
   ·rcases Qi.mp hb with z|z
    ·subst z;exact⟨e3,e1,e4,e5⟩
    rw[Qc.mp z];exact⟨j3,j1,j4,j5⟩
   ·obtain⟨o,es,ep,q,r⟩:=hm;exact⟨o,es,ep,hk _ o (Zj e1) (Zj j1) q,r⟩
   refine (UJ u q).stay (λc v hc z=>?_) (λ_ z=>z) λ_ _ z=>z;have hcn:c≠e∧c≠j:=by
    rcases hc with rfl|hc
    ·exact hHe c u q
    exact hHe c _ hc
   exact hk c v hcn.1 hcn.2 z
  obtain⟨y,hy⟩:∃y,xs[i]?=some y:=⟨xs[i],Qb hi⟩;obtain⟨u,hu,ru⟩:=rv.get hy;have hP':a8[i]?=some x:=by simpa using hP
  rw[hu]at hP';have hux:u=x:=Qw hP';subst hux;have hN:H s.heap.objs.size=none:=I.hok.fresh D9;refine wpAny_letOwnedTupleGo_enum ho λg' cV bX=>?_;have nT:s.heap.objs.size≠e:=We (Qx he);have nJ:s.heap.objs.size≠j:=by obtain⟨o,q,_⟩:=ke;exact We (Qx q)
  have I2:ZA H {s with heap:=g',toks:=tk+1}:=Inv.turned (s:={s with heap:=g,toks:=tk+1}) (t':=tk+1) (it:=e) I1 (λb o hb q=>(bX.2 b hb).trans q) e0 e1 e3 e4 e5;have hT':g'.get? s.heap.objs.size=some {cls:=.type "tuple",data:=.seq #[Rj i tk,u]}:=(bX.2 _ nT).trans hT;have I3:ZA (ZQ s.heap.objs.size (.tup [GG i,y])) {s with heap:=g',toks:=tk+1}:=by
   refine⟨I2.ok,I2.os,I2.bare,⟨I2.base.keep,I2.base.slot,λb o q n hx=>?_,I2.base.there,λb zs q=>?_,λb o v q=>?_,λb ps q=>?_⟩,I2.loc,I2.cell,?_,λz c q=>?_,λpp hp=>?_,λb v q=>?_,I2.len⟩
   ·have lt:b < s.heap.objs.size:=Di I.sz;rw[zaf (Zm lt)];exact I2.base.free b o q n hx
   ·have:=I2.base.tups b zs q;rw[zaf (zab this hN)];exact this
   ·have:=I2.base.frzs b o v q;rw[zaf (zab this hN)];exact this
   ·obtain⟨m,z⟩:=I2.base.tbls b ps q;exact⟨m,DY (zab z hN) z⟩
   ·rw[zaf (Zm I.lt)];exact I2.free
   ·rw[zaf (Zm (I.cl_lt z c q))];exact I2.freeC z c q
   ·obtain⟨h1,h2,h3⟩:=I2.pin pp hp;exact⟨h1,DY (Zm (I.pin_lt pp hp)) h2,h3⟩
   by_cases hb:b=s.heap.objs.size
   ·subst hb;rw[zac]at q;cases q;exact⟨DO 2,[Rj i tk,u],.cons ⟨tk,rfl⟩ (Hy ru),_,hT',rfl,RV⟩
   rw[zaf hb]at q;exact(I2.hok b v q).stay (λc v _ z=>z) (λc z=>by rw[zaf (zab z hN)];exact z) λc zs z=>by rw[zaf (zab z hN)];exact z
  refine⟨D6,_,I3,rfl,⟨y,_,λys hys=>by rw[I.tuple_inj hys hq];exact hy,hN,rfl,rfl⟩,⟨⟨u,DJ cV⟩,?_⟩,λb hb=>?_⟩
  ·exact hs.1.at λo q=>(bX.2 j (Zj rJ)).trans q
  rcases Qi.mp hb with z|z
  ·rw[z,zaf (Zj nT)];exact e0
  rw[Qc.mp z,zaf (Zj nJ)];exact j0
 done:=by intro X hP hw hK hc i a6 s σ H E I hf st hg;subst hP hw hK;obtain⟨xs,hq,hi⟩:=hg;obtain⟨a8,rv,p,hz⟩:=I.tuple hq;have hl:=rv.length;obtain⟨⟨old,he⟩,ke⟩:=st;obtain⟨j0,j1,j2,j3,j4,j5⟩:=hf j DI;have hh:X.A.in1.handled=none:=I.ok.hd hc;have hT:s.TypeIs (DK e) "enumerate" :=⟨_,he,rfl⟩;unfold pyNext;refine wpAny_bind (RO (wpAny_callSpecial?_slot (name:=Str.ofString "__next__") hT F.slot_enumerate_next (wpAny_call_entry F.slot_enumerate_next hT F.entry_enumerate_next ?_ (F.args_enumerate_next_1 _))));show ZY _ (field (DK e) 2 >>= _) _ _ _;refine wpAny_bind (wpAny_field he rfl (x:=.ref j) rfl (wpAny_bind (next_end hh ke p (by simp;exact zdx ‹_› ‹_›) λg x hg hx=>?_)));obtain⟨o,ho,hc⟩:=hx;exact wpAny_bind (wpAny_isInstance (T:= "StopIteration") (b:=true) ⟨o,ho,hc⟩ isSubtype_stop (wpAny_pure ⟨rfl,I.turned (t':=s.toks) (λb o hb q=>hg b o hb q) j0 j1 j3 j4 j5⟩))
 self:=λA i s Q E st h=>by obtain⟨⟨old,he⟩,_⟩:=st;exact MQ h
section
variable{X:Cx}
def iEnum(K:Nb)(ta:TA):TI:=λ σ H R=>ta σ H λvs H1=>∃a,vs=[Gq]∧(∃xs,SqT K H1 a xs)∧R (Ite a K) H1
def pi_enum(hg:VR "enumerate")(hm:X.mg "enumerate" = none)(ha:Vj [a] ta)(hs:starEach [a] X.env=[(false,FJ a)]:=by rfl) :
  PI X (.Tuple elts kk tpos) (.Call (.Name "enumerate" p) [a] [] pos) (iEnum X.K ta):=by
 intro a6 s σ H R I h;refine Call_ (JN boot_enumerate (Xa (thn Hd λus s1 ⟨vs,H1,I1,r1,q1⟩=>?_) hs rfl));obtain⟨t,e,⟨xs,hq⟩,q⟩:=q1;subst e;obtain⟨u,rfl,ru⟩:=vals1 r1;cases ru;obtain⟨a8,rv,pl,hz⟩:=I1.tuple hq;have lt:t<s1.heap.objs.size:=by obtain⟨o,q,_⟩:=pl;exact Qx q
 refine call_enum pl λg he ke hsz k=>MQ ?_;have I2:ZA H1 {s1 with heap:=g}:=I1.kept (t':=s1.toks) k;refine⟨s1.heap.objs.size+1,[s1.heap.objs.size+1,s1.heap.objs.size],_,_,H1,rfl,I2,turn_enum t _ _ (Nat.succ_ne_self _) (Zm lt) (We (Kh lt)),⟨⟨_,he⟩,ke⟩,λb hb=>?_,q⟩;have hV:s1.heap.objs.size≤b:=by
  rcases Qi.mp hb with z|z
  ·rw[z];exact Jc _
  rw[Qc.mp z];exact Qd _
 exact I1.fpOk hV (I1.hok.fresh hV)
def for_enum{K:Nb}{a:Nc}{xs:List V}{g:TG}{tb:TS}{D:Ends}{σ:St}{H:Hp}(Pv:Nat→St→Hp→Prop)(h0:Pv 0 σ H)(hl:∀i σ H,i≤xs.length→Pv i σ H→H a=some Hm)(hs:∀i x t σ H,xs[i]?=some x→Pv i σ H→H t=none→g (DK t) σ (ZQ t (.tup [GG i,x])) λ σ2 H2=>tb {D with nx:=Pv Fj,ct:=Pv Fj,bk:=D.nx} σ2 H2)(hd:∀σ H,Pv xs.length σ H→WV H) :
  ∃W:Nat→Nat→St→Hp→Prop,(∃m,W 0 m σ H)∧∀i m σ H,W i m σ H →
   ((Ite a K).stop i H∧WV H)∨((Ite a K).go i H∧∃N:St→Hp→Prop,Ff∧∀x H',(Ite a K).yld i H x H'→g x σ H' λ σ2 H2=>tb {D with nx:=N,ct:=N,bk:=D.nx} σ2 H2):=by
 refine⟨λi m σ H=>m=xs.length-i∧i≤xs.length∧Pv i σ H,⟨xs.length,DI,HY,h0⟩,?_⟩;rintro i m σ H ⟨rfl,hi,p⟩;have q:=hl i σ H hi p;by_cases aa:i<xs.length
 ·refine .inr ⟨⟨xs,HQ q,aa⟩,Pv Fj,fun σ' H' p'=>⟨xs.length - Fj,FE,rfl,aa,p'⟩,λx H' y=>?_⟩;obtain⟨z,t,e1,e3,rfl,rfl⟩:=y;exact hs i z t σ H (e1 xs (HQ q)) p e3
 have e:i=xs.length:=by exact zar3 ‹_› ‹_›
 subst e;exact .inl ⟨⟨xs,HQ q,D9⟩,hd σ H p⟩
def Its(x:Str):It:=⟨λi _=>i<x.cps.size,λi H v H'=>H'=H∧∃c,x.cps[i]?=some c∧v=.str ⟨#[c]⟩,λi _=>x.cps.size≤i⟩
theorem turn_str{P:Nk}{w:Nl}{K:Nb}{tg:Expr}{x:Str}{t:Tok}(it:Nc):XB (Its x) [it] it (λi h=>h.IsStrIter it "str_ascii_iterator" x t i) where
 mem:=by simp
 obj:=λi h st b hb=>by rw[Qc.mp hb];obtain⟨o,e,c,d⟩:=st;exact⟨o,e,λv z=>by rw[d]at z;cases z⟩
 keep:=λi h h' st k=>let⟨o,ho,r⟩:=st;⟨o,k it DI o ho,r⟩
 item:=by intro X hP hw hK hc i a6 s σ H E I hf st hg;subst hP hw hK;obtain⟨f0,f1,f2,f3,f4,f5⟩:=hf it DI;have hi:i<x.cps.size:=hg;refine wpAny_pyNext_ascii_item st (c:=x.cps[i]) (by simp[hi]) λh' a7 sb=>?_;have I1:ZA H {s with heap:=h',toks:=s.toks+1}:=I.turned (λb o hb e=>(sb.2 b hb).trans e) f0 f1 f3 f4 f5;obtain⟨o,e,c,d⟩:=id a7;exact⟨RV,go_of (s:={s with heap:=h',toks:=s.toks+1}) e c d DL ⟨GH ⟨#[x.cps[i]]⟩,H,I1,⟨RV⟩,⟨rfl,_,by simp[hi],rfl⟩,a7,λb hb=>(hf b hb).1⟩⟩
 done:=by intro X hP hw hK hc i a6 s σ H E I hf st hg;subst hP hw hK;obtain⟨f0,f1,f2,f3,f4,f5⟩:=hf it DI;have hi:x.cps.size≤i:=hg;exact wpAny_pyNext_ascii_end Hk st (by simp[hi]) λh' eb=>⟨rfl,I.turned (t':=s.toks) (λb o hb e=>eb b o hb e) f0 f1 f3 f4 f5⟩
 self:=λ_ _ _ _ _ st h=>wpAny_pyIter_striter_ascii st h
def iStr(tl:TE):TI:=λ σ H R=>tl σ H λv H1=>∃x:Str,v=.str x∧x.cps.all (· < 128)=true∧R (Its x) H1
def pi_str{tg l:Expr}{tl:TE}(hl:Z9 l tl):JE l (iStr tl):=by intro a6 s σ H R I h;refine thn (hl a6 s σ H _ I h) λv s1 ⟨y,H1,I1,r1,q1⟩=>?_;obtain⟨x,e,ha,q⟩:=q1;subst e;obtain⟨t,rfl⟩:=r1;refine wpAny_pyIter_ascii ha ⟨s1.heap.objs.size,[s1.heap.objs.size],_,_,H1,rfl,I1.kept (t':=s1.toks) λb o e=>Q5 e,turn_str (t:=t) _,⟨_,Re,rfl,rfl⟩,λb hb=>?_,q⟩;rw[Qc.mp hb];exact BB RI
def op_le_str:W8 (compareOp .LtE) (λx y H Q=>Ex2 λi j=>Aj3 (x=.str i) (y=.str j) (Q (.bl (!decide (j.cps.toList<i.cps.toList))) H)):=by intro a6 s σ H x y v u Q I rx ry h;obtain⟨i,j,rfl,rfl,q⟩:=h;obtain⟨t,rfl⟩:=rx;obtain⟨t',rfl⟩:=ry;exact PySem.P.le_str (QF rfl)
end
end L2
namespace L2
open PySem PySem.Spec PyProof.Rows
section
variable{X:Cx}{a6:Nd}{σ:St}{H:Hp}{s:Nh}
inductive RrNil(neg:Bool)(K:Nb)(x:V)(y:V)(H:Hp)(Q:VK):Prop
 |mk(l:_)(b:_)(xs:_)(h0:x=.ref l)(h1:y=.ref b)(h2:SqL K H l xs)(h3:SqL K H b [])(h4:Q (.bl (if neg then !xs.isEmpty else xs.isEmpty)) H)
def rNil(neg:Bool)(K:Nb):R2:=λx y H Q=>RrNil neg K x y H Q
def op_eq_nil(hu:X.A.units<cLine):W8 (compareOp .Eq) (rNil false X.K):=by
 intro a6 s σ H x y v u Q I rx ry h;obtain⟨l,b,xs,rfl,rfl,h1,h2,q⟩:=h;cases rx;cases ry;obtain⟨a8,r,pl,_⟩:=I.list h1;obtain⟨aO,r2,ic,_⟩:=I.list h2;cases r2;cases r with
 |nil=>exact SeqAt.eq_listAt (e:=λ_=>true) pl.isList ic.isList rfl hu (λj h1 _=>by simp at h1) ⟨RC,H,I,rfl,q⟩
 |cons a t=>exact SeqAt.eq_list_lengthsAt pl.isList ic.isList DI hu ⟨Ge,H,I,rfl,q⟩
def op_ne_nil(hu:X.A.units<cLine):WU (rNil true X.K):=by
 intro a6 s σ H x y v u Q I rx ry h;obtain⟨l,b,xs,rfl,rfl,h1,h2,q⟩:=h;cases rx;cases ry;obtain⟨a8,r,pl,_⟩:=I.list h1;obtain⟨aO,r2,ic,_⟩:=I.list h2;cases r2;cases r with
 |nil=>exact SeqAt.RcNeAt.lists (e:=λ_=>true) pl.isList ic.isList rfl hu (λj h1 _=>by simp at h1) _ _ _ _ ⟨Ge,H,I,rfl,q⟩
 |cons a t=>exact SeqAt.RcNeAt.lists_lengths pl.isList ic.isList DI hu _ _ _ _ ⟨RC,H,I,rfl,q⟩
def eq_pairs(I:Fg)(hu:A.units < cLine)(ha:H a=some (.tup [GH x,GH y]))(hb:H b=some (.tup [GH x',GH y'])) :
  SeqAt.EqAt A s Gq (DK b) (decide ((x,y)=(x',y'))):=by
 obtain⟨_,a8,r,p⟩:=JJ ha;obtain⟨_,aO,r2,p2⟩:=UJ _ hb;obtain⟨u1,u2,rfl,⟨t1,rfl⟩,⟨t2,rfl⟩⟩:=vals2 r;obtain⟨w1,w2,rfl,⟨t3,rfl⟩,⟨t4,rfl⟩⟩:=vals2 r2;by_cases mQ:a=b
 ·subst mQ;rw[ha]at hb;cases hb;rw[decide_eq_true rfl];exact SeqAt.EqAt.same _
 have key:=SeqAt.RcAt.tuples (A:=A) (s:=s) (e:=λj=>if j=0 then x == x' else y == y') p p2 hu λj j1 j2=>by
  have iq:j<2:=by simpa using j1
  match j,iq with
  |0,_=>exact Jb x t1 x' t3
  |1,_=>exact Jb y t2 y' t4
 have e:((GY (min (#[WE t1,U5 t2]:Array Value).size (#[KA t3,Value.str y' t4]:Array Value).size)).all (λj=>if j=0 then x==x' else y==y')&&(#[WE t1,U5 t2]:Array Value).size==(#[KA t3,Value.str y' t4]:Array Value).size)=decide ((x,y)=(x',y')):=by
  show((GY 2).all (λj=>if j=0 then x==x' else y==y')&&true)=_;rw[show List.range 2=[0,1] from rfl];by_cases hx:x=x'
  ·by_cases hy:y=y'
   ·simp[hx,hy]
   simp[hx,hy]
  simp[hx]
 have pL:SeqAt.RcAt A s Gq (DK b) (decide ((x,y)=(x',y'))):=e▸key;exact SeqAt.EqAt.of_refs mQ pL
inductive RrInP(neg:Bool)(K:Nb)(x:V)(y:V)(H:Hp)(Q:VK):Prop
 |mk (a p:Nc) (q:Str×Str) (as:Nn) (qs:Nr) (h0:x=.ref a) (h1:y=.ref p) (h2:H a=some (.tup [.str q.1,.str q.2])) (h3:SqL K H p (as.map V.ref)) (h4:Paired (λb (r:Str×Str)=>H b=some (.tup [.str r.1,.str r.2])) as qs) (h5:Q (.bl (if neg then !decide (q∈qs) else decide (q∈qs))) H):N2 Q
def rInP(neg:Bool)(K:Nb):R2:=λx y H Q=>N2 Q
def in_pairs(I:Fg)(hu:X.A.units+1 < cLine)(ha:H a=some (.tup [.str q.1,.str q.2]))(rv:M5 a8)(pq:Paired (λb (r:Str×Str)=>H b=some (.tup [.str r.1,.str r.2])) as qs):∃e:Value→Bool,(∀y∈a8,SeqAt.EqAt X.A.in1 s y Gq (e y))∧a8.any e=decide (q∈qs):=by
 refine⟨λv=>match v with | .ref b=>(match H b with|some (.tup [.str x,.str y])=>decide ((x,y)=q)|_=>false)|_=>false,?_,?_⟩
 ·intro y hy;obtain⟨b,hb,rb⟩:=zf7 rv y hy;obtain⟨c,hc,rfl⟩:=Qj.mp hb;cases rb;obtain⟨i,hi,ei⟩:=Zb hc;obtain⟨r,_,hr⟩:∃r,r∈qs∧H c=some (.tup [.str r.1,.str r.2]):=by
   clear rv hy hb hi ei i;induction pq with
   |nil=>cases hc
   |cons h t ih=>
    rcases Qi.mp hc with z|z
    ·subst z;exact⟨_,Qe,h⟩
    obtain⟨r,h1,h2⟩:=ih z;exact⟨r,WD h1,h2⟩
  dsimp only;rw[hr];exact eq_pairs I (by show X.A.units+1<cLine;exact hu) hr ha
 induction pq generalizing a8 with
 |nil=>cases rv;simp
 | cons h t ih=>
  cases rv with
  | cons r1 r2=>
   cases r1;rw[Kq,ih r2];dsimp only;rw[h];rename_i r _ rs _;have:decide (q∈r::rs)=(decide ((r.1,r.2)=q)||decide (q∈rs)):=by
    rw[Wp];simp only[decide_eq_true_eq,Qi,Js];constructor
    ·rintro (z|z)
     ·exact .inl z.symm
     exact .inr z
    rintro (z|z)
    ·exact .inl z.symm
    exact .inr z
   rw[this]
def zg4(hu:X.A.units+1<cLine):W8 (compareOp .NotIn) (rInP true X.K):=by intro a6 s σ H x y v u Q I rx ry h;obtain⟨a,p,q,as,qs,rfl,rfl,ha,hq,pq,q'⟩:=h;cases rx;cases ry;obtain⟨a8,r,pl,_⟩:=I.list hq;obtain⟨e,h1,h2⟩:=in_pairs I hu ha r pq;refine SeqAt.notIn_listAt e pl.isList (λw hw=>h1 w (DJ hw)) ⟨.bl _,H,I,?_,q'⟩;show Value.bool (!(a8.toArray.any e))=_;rw[show a8.toArray.any e=a8.any e by simp,h2];rfl
theorem argBest_lt:∀k,argBest bt k≤k
 |0=>Qd _
 |k+1=>by
  show(if bt (k+1) (argBest bt k)=true then k+1 else argBest bt k)≤k+1;split
  ·exact Qd _
  exact Nat.le_succ_of_le (argBest_lt k)
theorem zdg(f:Nat→List Nat):∀k j,j≤k→¬f j<f (argBest (λi j=>decide (f i<f j)) k)
 |0,j,h=>by
  have:j=0:=by lia
  subst this;exact Wm _
 | k+1,j,h=>by
  show ¬f j<f (if decide (f (k+1)<f (argBest (λi j=>decide (f i<f j)) k))=true then k+1 else argBest (λi j=>decide (f i<f j)) k);by_cases aa:f (k+1)<f (argBest (λi j=>decide (f i<f j)) k)
  ·rw[Gh (decide_eq_true aa)];by_cases hj:j=k+1
   ·subst hj;exact Wm _
   intro z;exact zdg f k j DH (List.lt_trans z aa)
  rw[Gm (DJ aa)];by_cases hj:j=k+1
  ·subst hj;exact aa
  exact zdg f k j DH
def zio(hc:X.calm=true):YL (.builtin "min") (λxs H Q=>Ex2 λ(p:Nc) (zs:Nj)=>Aj4 (xs=[HU]) (Q4 p Gj) (zs≠[]) (∀z∈zs,(∀y∈zs,leS z y)→Q (GH z) H)):=by
 intro a6 s σ H xs us Q I r h;obtain⟨p,zs,rfl,hq,aD,q⟩:=h;obtain⟨u,rfl,rx⟩:=vals1 r;cases rx;have bg:0<zs.length:=Wz.mpr aD;refine call_min_walk (zhs hc I hq λa8 It h1 rv W st lt keep=>⟨It,_,_,_,_,_,λi j=>decide ((GE i).cps.toList<(GE j).cps.toList),rfl,W,st,lt,?_,λi j vi vj s' Q' E' hi hj cM=>?_,λv h' tk hv k=>?_⟩)
 ·have:=rv.length;rw[Qa]at this;rw[Qp];exact zar7 ‹_› ‹_›
 ·have gs:∀ (i:Nat) (v:Value),a8.toArray[i]?=some v→∃ t,v=.str (GE i) t:=λi v e=>by
   have e':a8[i]?=some v:=by simpa using e
   have hi:i<a8.length:=(Zk.mp e').1;have hl:=rv.length;rw[Qa]at hl;have az:i<zs.length:=by exact zar6 ‹_› ‹_›
   obtain⟨u,e2,t,e3⟩:=rv.get (i:=i) (x:=.str zs[i]) (by simp[az]);rw[e']at e2;cases e2;exact⟨t,by rw[e3];simp[List.getD,az]⟩
  obtain⟨t1,rfl⟩:=gs i vi hi;obtain⟨t2,rfl⟩:=gs j vj hj;exact lt_str cM
 have hl:=rv.length;rw[Qa]at hl;have hk:=argBest_lt (bt:=λi j=>decide ((GE i).cps.toList<(GE j).cps.toList)) (a8.toArray.size-1);generalize hb:argBest (λi j=>decide ((GE i).cps.toList<(GE j).cps.toList)) (a8.toArray.size-1)=b at hv hk;have dL:b<zs.length:=by rw[Qp]at hk;lia
 have iD:a8[b]?=some v:=by simpa using hv
 obtain⟨u,e2,t,e3⟩:=rv.get (i:=b) (x:=.str zs[b]) (by simp[dL]);rw[iD]at e2;cases e2;refine⟨.str zs[b],H,NH k,⟨t,e3⟩,q _ (Qm dL) λy hy=>?_⟩;obtain⟨j,hj,ej⟩:=Zb hy;have:=zdg (λi=>(GE i).cps.toList) (a8.toArray.size-1) j (by rw[Qp];lia);rw[hb]at this;have g1:zs.getD b Str.empty=zs[b]:=by simp[List.getD,dL]
 have g2:zs.getD j Str.empty=y:=by simp[List.getD,hj,ej]
 rw[g1,g2]at this;exact this
end
end L2
namespace SetT
open PySem PyProof.Rows PySem.Spec
section
variable{prog:Nk}{w:Nl}{A:No}{R:Nv}{I:Nc}{fp wr:Nn}{G:Array GenState→Array GenState→Prop}{n:Nat}{P:Nat→Value→Prop}{St:Nat→Shared→Prop}
def loop(W:WalksS prog w A.in1 I fp wr G n P St)(S:Nc)(oN:S∉fp)(zs:Nj)(hz:zs.length=n)(nd:zs.Nodup)(iC:∀i v,P i v→∃t,v=.str (GE i) t)(hb:n+1<scanBound) :
  ∀(k i:Nat) (s:Nh),n-i=k→i≤n→St i s→s.heap.SetOf (QP w) S (λx=>decide (x∈zs.take i)) i →
   (∀s',Moved (S::wr) G s s'→s'.heap.SetOf (QP w) S (λx=>decide (x∈zs.take n)) n→R (.ok (.ret .none)) s')→codeAny D7 A (.builtin "set.update.loop" ⟨[DK S,DK I],[]⟩) R s:=by
 have hSw:S∉wr:=λh=>oN (W.sub _ h);have sub:∀b∈wr,b∈S::wr:=λb q=>WD q;intro k;induction k with
 |zero=>
  intro i s hk hi aI hS hR;obtain rfl:i=n:=by lia
  refine codeAny_builtin F.entry_set_update_loop ?_;rw[Vr _];show ZY A.in1 (pyNext (DK I) >>= _) _ _ s;refine wpAny_bind (W.done s _ _ aI λs' hm=>(show ZY A.in1 (ret Value.none) _ _ s' from wpAny_pure (hR s' (hm.mono sub) ?_)));obtain⟨o,es,ep,t,ho,rest⟩:=hS;exact⟨o,es,ep,t,hm.heap S _ hSw ho,rest⟩
 |succ k ih=>
  intro i s hk hi aI hS hR;have lt:i<n:=by lia
  refine codeAny_builtin F.entry_set_update_loop ?_;rw[Vr _];show ZY A.in1 (pyNext (DK I) >>= _) _ _ s;refine wpAny_bind (W.item i s _ _ lt aI λv s' hP iK hm=>?_);obtain⟨t,rfl⟩:=iC i v hP;have az:i<zs.length:=by exact zar6 ‹_› ‹_›
  have eg:zs.getD i Str.empty=zs[i]:=by simp[List.getD,az]
  rw[eg];have kB:s'.heap.SetOf (QP w) S (λx=>decide (x∈zs.take i)) i:=by obtain⟨o,es,ep,tb,ho,rest⟩:=hS;exact⟨o,es,ep,tb,hm.heap S _ hSw ho,rest⟩
  show ZY A.in1 (holding [Value.str zs[i] t] (setAdd S (.str zs[i] t)) >>= _) _ _ s';refine wpAny_bind (wpAny_holding ?_);unfold setAdd;refine wpAny_holding (wpAny_bind ((QP w).pyHash (k:=zs[i]) (by simp[PySem.strKind,Value.isStrOf]) ?_));have nin:decide (zs[i]∈zs.take i)=false:=decide_eq_false λq=>by obtain⟨j,hj,e⟩:=Zb q;rw[Zi]at hj;rw[Uj]at e;have:=(Wh nd).mp e;lia
  refine wpAny_setAddHashed_of (knd:=QP w) (k:=zs[i]) (by simp[PySem.strKind,Value.isStrOf]) rfl kB DH λg sb hS2=>?_;have hSi:g.SetOf (QP w) S (λx=>decide (x∈zs.take Fj)) Fj:=by refine SetOf_congr hS2 (λx=>?_) (by simp only[nin];simp);rw[Wp];simp only[Js,decide_eq_true_eq];rw[Qo az,Qg,Qc]
  refine wpAny_pure ⟨plainId_quiet F.plain_set_update_loop _,ih Fj _ DH lt (W.frame _ s' _ _ iK (by first|exact Qd _|exact Jc _) λb q o e=>?_) hSi λs2 br hS3=>hR s2 (Moved.trans W.gtrans ((hm.mono sub).then_heap (by first|exact Qd _|exact Jc _) λb o q e=>?_) br) hS3⟩
  ·rw[sb.2 b (λz:b=S=>oN (by rw[←z];exact q))];exact e
  rw[sb.2 b (λz:b=S=>q (DR z Qe))];exact e
variable{E:Na}{s:Nh}
def call_set{l:Nc}{a8:Ni}{zs:Nj}{Q:Na}(hh:A.handled=none)(hl:s.heap.IsList l a8.toArray)(hz:zs.length=a8.length)(nd:zs.Nodup)(iC:∀(i:Nat) (v:Value),a8[i]?=some v→∃t,v=.str (GE i) t)(hb:a8.length+1<scanBound)(h:∀(g:Np) (tk:Nat),g.SetOf (QP w) s.heap.objs.size (λx=>decide (x∈zs)) zs.length→Fe→Q D6 {s with heap:=g,toks:=tk}) :
  wpAny D7 A (call (.type "set") [Hw]) Q E s:=by
 obtain⟨c,tl,hmro⟩:=Ud.mro;have hmade:=Ud.made;have bQ:=Ud.sub;refine wpAny_call (codeAny_of_tree (show ZY _ (callAny (.type "set") _) _ _ _ from wpAny_pure ⟨Xt _ (by decide+kernel),codeAny_builtin PySem.F.entry_type_call ?_⟩));rw[Around.under_plain (weight_type_call_type "set" [Hw] []) rfl];have h1:=Ud.notType;have h2:=Ud.canCreate;have hct:=PySem.F.typeCall_set_1 Hw
 repeat(any_goals (first|assumption|wp_step))
 refine codeAny_mono (code_set_new_1 Hw (E:=E) (Q₁:=λobj s₁=>∃led:Bool,obj=.ref s.heap.objs.size∧s₁={s with heap:=s.heap.push {cls:=.type "set",dict:=none,data:=.set #[] 0 Ha}}) λled=>⟨led,rfl,rfl⟩) λr s1 hr=>?_;cases r with
 |error e=>exact hr
 | ok fl=>
  cases fl with
  | ret obj=>
   obtain⟨led,rfl,rfl⟩:=hr;have hS:(s.heap.push {cls:=.type "set",dict:=none,data:=.set #[] 0 Ha}).get? s.heap.objs.size=some {cls:=.type "set",dict:=none,data:=.set #[] 0 Ha}:=JM rfl;have hT:Shared.TypeIs {s with heap:=s.heap.push {cls:=.type "set",dict:=none,data:=.set #[] 0 Ha}} D6 "set" :=⟨_,hS,rfl⟩;have hli:=Ud.init.lookup;have hbi:=Ud.init.bind D6
   repeat(any_goals (first|assumption|wp_step))
   refine codeAny_mono (codeAny_call_builtin (R:=wants (λr s₂=>r=.none∧∃g tk,s₂={s with heap:=g,toks:=tk}∧g.SetOf (QP w) s.heap.objs.size (λx=>decide (x∈zs)) zs.length∧Fe) E)
    Ud.init.plain PySem.F.entry_set_init (check_set_init_1 hT ?_)) λr2 s2 fT=>?_
   ·obtain⟨ol,qz,jt,nl,km⟩:=hl;obtain⟨ocls,odict,odata,oslots⟩:=ol;simp only at jt km;subst jt;subst km;have qy:(s.heap.push {cls:=.type "set",dict:=none,data:=.set #[] 0 Ha}).get? l=some {cls:=.type "list",dict:=odict,data:=.seq a8.toArray nl,slots:=oslots}:=Q5 qz;have hsls:=PySem.F.sub_list_set;have hslf:=PySem.F.sub_list_frozenset;have aD:(Value.type "list" == Value.type "dict")=false:=by decide
    have bZ:(s.heap.push {cls:=.type "set",dict:=none,data:=.set #[] 0 Ha}).IsList l a8.toArray:=⟨_,qy,rfl,nl,rfl⟩;unfold Builtin.«set.__init__» noKeywords Builtin.Frozenset.updateFrom;generalize hPI:pyIter=PI;wp_walk;subst hPI;refine wpAny_pyIter_list bZ (wpAny_bind (wpAny_runValue ?_));have hlS:l<s.heap.objs.size:=Qx qz;have hh3:A.in1.in1.in1.handled=none:=by simp[hh]
    have z1:(s.heap.push {cls:=.type "set",dict:=none,data:=.set #[] 0 Ha}).objs.size=s.heap.objs.size+1:=Ub ..;have qF:l≠(s.heap.push {cls:=.type "set",dict:=none,data:=.set #[] 0 Ha}).objs.size:=by rw[z1];exact Zm (Kh hlS)
    have oN:s.heap.objs.size∉[(s.heap.push {cls:=.type "set",dict:=none,data:=.set #[] 0 Ha}).objs.size,l]:=by rw[z1];simp only[Qi,List.not_mem_nil,or_false,not_or];exact⟨Zm (Wa _),We hlS⟩
    refine loop ((Walks.list hh3 _ l qF a8.toArray).toS) s.heap.objs.size oN zs (DR Qp hz) nd (λi v hv=>iC i v (DJ hv)) (DR Qp hb) _ 0 _ rfl HY ⟨⟨_,Re,rfl,rfl⟩,(bZ.push _)⟩ ?_ ?_
    ·exact SetOf_congr ((setObjOf_fresh (knd:=QP w) led).setOf (Q5 hS) (by unfold scanBound;exact KB _)) (λ_=>by simp) rfl
    intro s' hm kB;obtain⟨g,g',d',pc,px⟩:=s';have eg:g'=s.gens:=hm.gens;have ed:d'=s.drawn:=hm.drawn;have eo:px=s.os:=hm.os;subst eg;subst ed;subst eo;show ZY _ _ _ _ _;refine wpAny_pure (show ZY _ (ret Value.none) _ _ _ from wpAny_pure ⟨rfl,g,pc,rfl,?_,λb o e=>?_⟩)
    ·have e1:a8.toArray.size=zs.length:=by rw[Qp,hz]
     rw[e1,Qt D9]at kB;exact kB
    have kr:b < s.heap.objs.size:=Qx e;refine hm.heap b o ?_ (Q5 (Q5 e));rw[z1];simp only[Qi,List.not_mem_nil,or_false,not_or];exact⟨Zm kr,Zm (Kh kr)⟩
   cases r2 with
   |error e=>exact fT
   | ok fl2=>
    cases fl2 with
    |ret r=>
     obtain⟨rfl,g,tk,rfl,kB,r6⟩:=fT
     repeat(any_goals (first|assumption|wp_step))
     exact h _ _ kB r6
    |_=>exact fT.elim
  |_=>exact hr.elim
end
end SetT
namespace L2
open PySem PySem.Spec PyProof.Rows
def setO(P:Nk)(w:Nl)(a:Nc)(zs:Nj):HO:=.ext λh=>h.SetOf (PySem.strKind P w) a (λx=>decide (x∈zs)) zs.length
section
variable{X:Cx}
def zim(hc:X.calm=true):YL (.type "set") (λxs H Q=>Ex2 λ(p:Nc) (zs:Nj)=>Aj5 (xs=[HU]) (Q4 p Gj) zs.Nodup (zs.length≤1000) (∀l,H l=none→Q Hw (ZQ l (Bu l zs)))):=by
 intro a6 s σ H xs us Q I r h;obtain⟨p,zs,rfl,hq,nd,hz,q⟩:=h;obtain⟨u,rfl,rx⟩:=vals1 r;cases rx;obtain⟨a8,rv,pl,_⟩:=I.list hq;have hl:=rv.length;rw[Qa]at hl;refine SetT.call_set (zs:=zs) Hk pl.isList hl nd (λi v e=>?_) (by unfold scanBound;lia) λg tk hS k=>?_
 ·have hi:i < a8.length:=(Zk.mp e).1;have az:i<zs.length:=by exact zar6 ‹_› ‹_›
  obtain⟨u,e2,t,e3⟩:=rv.get (i:=i) (x:=.str zs[i]) (by simp[az]);rw[e]at e2;cases e2;exact⟨t,by rw[e3];simp[List.getD,az]⟩
 refine⟨DK _,_,I.laid (t':=tk) k D9 (show QC _ g _ (Bu s.heap.objs.size zs) from⟨hS,?_,λh1 h2 p1 k1=>?_⟩),rfl,q _ (Hv D9)⟩
 ·obtain⟨o,_,_,_,e,_⟩:=hS;exact⟨o,e⟩
 obtain⟨o,es,ep,t,e,rest⟩:=p1;exact⟨o,es,ep,t,k1 o e,rest⟩
def zir:YL (.builtin "len") (λxs H Q=>Ex2 λ(p:Nc) (zs:Nj)=>Aj4 (xs=[HU]) (H p=some (Bu p zs)) (zs.length≤1000) (Q (.int zs.length) H)):=by intro a6 s σ H xs us Q I r h;obtain⟨p,zs,rfl,hq,hz,q⟩:=h;obtain⟨u,rfl,rx⟩:=vals1 r;cases rx;obtain⟨⟨o,es,ep,t,ho,kj,hd,gC,hmem,hb,hf,hn⟩,_⟩:=(show QC H s.heap p (Bu p zs) from BV hq);exact call_len_set ho kj hd hf (by rw[hn];lia) ⟨.int zs.length,H,Gr,⟨_,by rw[hn]⟩,q⟩
end
end L2
namespace DictR
open PySem PyProof.Rows PySem.Spec
def miss_keys:typeLookup (.type "list") "keys" = pure none:=am_miss_of_fast (by decide+kernel)
section
variable{prog:Nk}{w:Nl}{A:No}{E:Na}{s:Nh}
def no_keys{a:Nc}{xs:Array Value}{k:Nat}{sl:Array GM}{Q:Option Value→Shared→Prop}(hx:s.heap.get? a=some {cls:=.type "list",dict:=none,data:=.seq xs k,slots:=sl})(hA:A.handled=none)(h:∀g tk,Fe→Q none {s with heap:=g,toks:=tk}):ZG (getAttr? Gq "keys") Q E s:=by
 obtain⟨hp,g,d,tk,os⟩:=s;have hT:∀t',(⟨hp,g,d,t',os⟩:Shared).TypeIs Gq "list" :=λ_=>⟨_,hx,rfl⟩;have f1:=sub_AttributeError;have f3:=F.slot_list_getattribute.lookup;have f4:=F.slot_list_getattribute.bind Gq;have f5:=am_list_getattr_none;unfold getAttr? getAttrBy? getAttrBy
 repeat(any_goals (first|assumption|exact hT _|((with_reducible show ZY _ (call (Value.builtin "list.__getattribute__") _ _) _ _ _);refine call_meets F.slot_list_getattribute (hT _) am_entry_list_getattribute (F.args_list_getattribute_2 _ _) (meets_getattribute_miss_list a xs k sl "keys" _ miss_keys (by decide+kernel) (by decide+kernel)) ⟨hx,hA,λh' pc e cc=>?_⟩)|wp_step))
 obtain⟨t',u',he⟩:=cc.there;show ZY _ (getattributeRaised _ _ _ _ _ _ _) _ _ _;unfold getattributeRaised
 repeat(any_goals (first|assumption|wp_step))
 exact h h' pc cc.keeps
def zhj:entryFor table "dict.update.loop" = some Builtin.«dict.update.loop»:=entryFor_of_tree (by kernel_rfl)
def zdu:plainId "dict.update.loop" = true:=by decide+kernel
structure Row(K:Type) where
 a:Addr
 o:Obj
 k:K
 key:Value
 val:Value
 n:Nat
end
section
variable{prog:Nk}{w:Nl}{A:No}{E:Na}{s:Nh} {K:Type}[DecidableEq K]{knd:KeyKind prog w K}
def RowAt(knd:KeyKind prog w K)(h:Np)(r:Row K):Prop:=h.get? r.a=some r.o∧r.o.cls=.type "tuple" ∧ r.o.data=.seq #[r.key,r.val] r.n∧knd.is r.k r.key=true
def stored_new{kvs:List (K×Value)}(h:k∉kvs.map (·.1)):stored kvs k v=kvs++[(k,v)]:=by unfold stored;rw[if_neg];intro z;obtain⟨p,hp,e⟩:=Xr.mp z;exact h (Qj.mpr ⟨p,hp,of_decide_eq_true e⟩)
def loop{R:Nv}{I l:Nc}(hh:A.handled=none)(rows:GK (Row K))(d:Nc)(rM:d≠I)(km:d≠l)(hlI:l≠I)(hr:∀ r∈rows,r.a≠d∧r.a≠I)(nd:(rows.map (·.k)).Nodup)(hz:rows.length≤sizeLine) :
  ∀(m i:Nat) (s:Nh),rows.length-i=m→i≤rows.length→s.heap.IsListIter I l i→s.heap.IsList l (rows.map λr=>Value.ref r.a).toArray→(∀r∈rows,Dt r)→s.heap.DictOf knd d ((rows.take i).map λr=>(r.k,r.val)) →
   (∀g tk,(∀b o,b≠d→b≠I→s.heap.get? b=some o→g.get? b=some o)→g.DictOf knd d (rows.map λr=>(r.k,r.val))→R (.ok (.ret .none)) {s with heap:=g,toks:=tk}) →
   codeAny D7 A (.builtin "dict.update.loop" ⟨[DK d,DK I,rawInt i,.none],[]⟩) R s:=by
 intro m;induction m with
 |zero=>
  intro i s hm hi st hl hR hd hQ;obtain rfl:i=rows.length:=by lia
  refine codeAny_builtin zhj ?_;rw[Wx zdu _];show ZY A.in1 (pyNext (DK I) >>= _) _ _ s;refine wpAny_bind (wpAny_pyNext_list_end (show A.in1.handled=none from hh) st hl DI λg eb=>?_);show ZY A.in1 (Builtin.Dict.addKeywords d [] >>= λ_=>ret Value.none) _ _ _;refine wpAny_bind (show ZY A.in1 (pure ()) _ _ _ from wpAny_pure (wpAny_pure (hQ g s.toks (λb o _ hb e=>eb b o hb e) ?_)));rw[Qt D9]at hd;exact hd.extBut eb rM
 | succ m ih=>
  intro i s hm hi st hl hR hd hQ;have lt:i<rows.length:=by lia
  obtain⟨e1,e2,e3,e4⟩:=hR rows[i] (Qm lt);obtain⟨n1,n2⟩:=hr rows[i] (Qm lt);refine codeAny_builtin zhj ?_;rw[Wx zdu _];show ZY A.in1 (pyNext (DK I) >>= _) _ _ s;refine wpAny_bind (VL hl (x:=.ref rows[i].a) (by simp[lt]) λg a7 sb=>?_);have k1:∀b o,b≠I→s.heap.get? b=some o→g.get? b=some o:=λb o hb e=>(sb.2 b hb).trans e;have jm:g.DictOf knd d ((rows.take i).map λr=>(r.k,r.val)):=hd.sameBut sb rM;refine wpAny_bind (wpAny_holding (wpAny_bind (wpAny_tryCatch ?_)));show ZY A.in1 (Builtin.Dict.pairItems (.ref rows[i].a)) _ _ _;unfold Builtin.Dict.pairItems;refine wpAny_bind (wpAny_typeOf (T:= "tuple") ⟨_,k1 _ _ n2 e1,e2⟩ ?_);rw[if_pos DL];refine wpAny_bind (wpAny_seqItems (k1 _ _ n2 e1) e3 (wpAny_pure ?_));show ZY A.in1 (holding [rows[i].key,rows[i].val] (dictSet d rows[i].key rows[i].val)) _ _ _;have nk:rows[i].k∉((rows.take i).map λr=>(r.k,r.val)).map (·.1):=by
   rw[Zq];intro q;obtain⟨r,aV,fT⟩:=Qj.mp q;obtain⟨j,hj,ej⟩:=Zb aV;rw[Zi]at hj;rw[Uj]at ej;have c7:j<rows.length:=by lia
   have:(rows.map (·.k))[j]'(DJ c7)=(rows.map (·.k))[i]'(DJ lt):=by rw[Zr,Zr,ej];exact fT
   have:=(Wh nd).mp this;lia
  refine wpAny_holding (wpAny_dictSet_pairs (knd:=knd) e4 jm (λg2 ko sb2=>?_) (by rw[Qa,Zi];lia));rw[stored_new nk]at ko;have mw:g2.DictOf knd d ((rows.take Fj).map λr=>(r.k,r.val)):=by rw[Qo lt,Qs];exact ko
  have k2:∀b o,b≠d→b≠I→s.heap.get? b=some o→g2.get? b=some o:=λb o gb dL e=>(sb2.2 b gb).trans (k1 b o dL e);have hc:((i:Int)+1)=((i+1:Nat):Int):=by push_cast;rfl
  refine wpAny_pure ⟨plainId_quiet zdu _,?_⟩;rw[hc];refine ih Fj _ DH lt ?_ ?_ (λr lx=>?_) mw λg3 tk3 k3 rN=>?_
  ·obtain⟨o,q,z⟩:=a7;exact⟨o,(sb2.2 I (Zj rM)).trans q,z⟩
  ·obtain⟨o,q,z⟩:=hl;exact⟨o,k2 l o (Zj km) hlI q,z⟩
  ·obtain⟨q1,q2⟩:=hR r lx;exact⟨k2 _ _ (hr r lx).1 (hr r lx).2 q1,q2⟩
  exact hQ g3 tk3 (λb o gb dL e=>k3 b o gb dL (k2 b o gb dL e)) rN
def call{l:Nc}{rows:List (Row K)}{Q:Na}{xk:Nat}(hh:A.handled=none)(hl:s.heap.get? l=some {cls:=.type "list",data:=.seq (rows.map λr=>Value.ref r.a).toArray xk})(hR:∀r∈rows,Dt r)(nd:(rows.map (·.k)).Nodup)(hz:rows.length≤sizeLine)(h:∀g tk,g.DictOf knd s.heap.objs.size (rows.map λr=>(r.k,r.val))→Fe→Q D6 {s with heap:=g,toks:=tk}) :
  wpAny D7 A (call (.type "dict") [Hw]) Q E s:=by
 refine callType_codes (Q₁:=λobj s₁=>obj=.ref s.heap.objs.size∧s₁={s with heap:=s.heap.push {cls:=.type "dict",data:=.dict #[]}}) PySem.F.kt_called_dict (PySem.F.kt_typeCall_dict_1 _) PySem.F.entry_dict_init (kt_code_dict_new _ ⟨rfl,rfl⟩) ?_;rintro obj s₁ ⟨rfl,rfl⟩;have cr:(s.heap.push {cls:=.type "dict",data:=.dict #[]}).DictOf knd s.heap.objs.size []:=Heap.DictOf.new s.heap;refine⟨cr.typeIs,PySem.F.args_dict_init_2 _ _,?_⟩;unfold Builtin.«dict.__init__»;refine wpAny_bind ?_;unfold Builtin.Dict.selfAndRest;refine wpAny_bind (wpAny_notOrdered_dict cr.typeIs (show ZY _ (pure (s.heap.objs.size,[Value.ref l])) _ _ _ from wpAny_pure ?_));show ZY _ (Builtin.Dict.updateFrom "dict.__init__" s.heap.objs.size Hw [] .none) _ _ _;unfold Builtin.Dict.updateFrom;have bZ:(s.heap.push {cls:=.type "dict",data:=.dict #[]}).get? l=some {cls:=.type "list",data:=.seq (rows.map λr=>Value.ref r.a).toArray xk}:=Q5 hl;refine wpAny_bind (wpAny_typeOf (T:= "list") ⟨_,bZ,rfl⟩ ?_);rw[if_pos DL];refine wpAny_bind (no_keys bZ (by first|exact hh|(show A.handled=none;exact hh)) λg tk kg=>?_);simp only[Option.isNone_none,if_true];refine wpAny_bind (wpAny_rule ?_);have ltl:l<s.heap.objs.size:=Qx hl;have dg:g.DictOf knd s.heap.objs.size []:=by obtain⟨o,es,ep,q,z⟩:=cr;exact⟨o,es,ep,kg _ _ q,z⟩
 have hlg:g.IsList l (rows.map λr=>Value.ref r.a).toArray:=⟨_,kg _ _ bZ,rfl,xk,rfl⟩;have ltd:s.heap.objs.size<g.objs.size:=by obtain⟨o,es,ep,q,z⟩:=dg;exact Qx q
 have lts:∀b o,s.heap.get? b=some o→b≠s.heap.objs.size∧b≠g.objs.size:=λb o e=>⟨Zm (Qx e),Zm (Wq (Qx e) ltd)⟩;refine wpAny_bind (wpAny_pyIter_list (s:={s with heap:=g,toks:=tk}) hlg (FA ⟨plainId_quiet zdu _,loop (knd:=knd) (I:=g.objs.size) (l:=l) (by first|exact hh|(show A.handled=none;exact hh)) rows s.heap.objs.size (Zm ltd) (We ltl) (Zm (Wq ltl ltd)) (λr hr=>lts r.a r.o (hR r hr).1) nd hz _ 0 _ rfl HY ⟨_,Re,rfl,rfl⟩ ?_ (λr hr=>?_) ?_ λg2 nv k2 hd=>?_⟩))
 ·obtain⟨o,q,z⟩:=hlg;exact⟨o,Q5 q,z⟩
 ·obtain⟨q1,q2⟩:=hR r hr;exact⟨Q5 (kg _ _ (Q5 q1)),q2⟩
 ·exact dg.push _
 exact⟨rfl,h g2 nv hd λb o e=>k2 b o (lts b o e).1 (lts b o e).2 (Q5 (kg _ _ (Q5 e)))⟩
end
end DictR
namespace L2
open PySem PySem.Spec PyProof.Rows
section
variable{X:Cx}
abbrev RowsAt(H:Hp):List Addr→List (Str×V)→Prop:=Paired λa p=>H a=some (.tup [.str p.1,p.2])
theorem rows_of(I:Fg):∀{as:Nn} {ps:List (Str×V)},RowsAt H as ps →
  ∃rows:List (DictR.Row Key),rows.map (·.a)=as∧(∀r∈rows,DictR.RowAt Ru s.heap r)∧rows.map (·.k)=ps.map (λp=>Sum.inr p.1)∧KV (ps.map λp=>((Sum.inr p.1:Key),p.2)) (rows.map λr=>(r.k,r.val))
 |_,_,.nil=>⟨[],rfl,λr hr=>(by cases hr),rfl,.nil⟩
 |a::as,p::ps,.cons h t=>by
  obtain⟨rows,e1,e2,e3,e4⟩:=rows_of I t;obtain⟨_,a8,r,o,q,c,n,d⟩:=JJ h;obtain⟨u,w',rfl,⟨tk,rfl⟩,rz⟩:=vals2 r;refine⟨⟨a,o,Sum.inr p.1,.str p.1 tk,w',n⟩::rows,by rw[Ql,e1],λx hx=>?_,by rw[Ql,Ql,e3],.cons ⟨rfl,rz⟩ e4⟩;rcases Qi.mp hx with z|z
  ·subst z;exact⟨q,c,d,zgn _ _ _ _⟩
  exact e2 x z
def zdz(hc:X.calm=true):YL (.type "dict") (λxs H Q=>Ex3 λ(p:Nc) (as:Nn) (ps:GK (Str×V))=>Aj5 (xs=[HU]) (H p=some Gk) (RowsAt H as ps) ((ps.map (·.1)).Nodup) (∀ l,H l=none→Q Hw (ZQ l (.dK (ps.map λp=>((Sum.inr p.1:Key),p.2)))))):=by
 intro a6 s σ H xs us Q I r h;obtain⟨p,as,ps,rfl,hp,hr,nd,q⟩:=h;obtain⟨u,rfl,rx⟩:=vals1 r;cases rx;obtain⟨hz,a8,n,rv,hl,e⟩:=I.lstM hp;obtain⟨rows,e1,e2,e3,e4⟩:=rows_of I hr;have eits:a8=rows.map λr=>Value.ref r.a:=by
  have dN:=e1;clear hz hl e hp e4 e3 e2 hr e1 q;induction rows generalizing as a8 with
  |nil=>subst dN;cases rv;rfl
  | cons r rs ih=>
   cases as with
   |nil=>cases dN
   |cons a as=>
    rw[Ql]at dN rv;injection dN with h1 h2;cases rv with
    |cons r1 r2=>cases r1;rw[Ql,h1,ih _ _ r2 h2]
 subst eits;have a9:rows.length≤sizeLine:=by rw[Qa]at hz hl;rw[Qa]at hl;exact zdx ‹_› ‹_›
 have ndk:(rows.map (·.k)).Nodup:=by rw[e3,show(λp:Str×V=>(Sum.inr p.1:Key))=(Sum.inr:Str→Key)∘(λp:Str×V=>p.1) from rfl,←Zq];exact B9 (λa b z q=>z (Kg q)) nd
 refine DictR.call (knd:=QV X.w) (rows:=rows) (xk:=n) Hk e e2 ndk a9 λg tk hd k=>?_;have nS:(s.heap.objs.size==sysModules)=false:=beq_eq_false_iff_ne.mpr (We I.big);refine⟨DK _,_,I.laid (t':=tk) k D9 (show QC _ g _ (.dK _) from⟨?_,nS,_,e4,hd⟩),rfl,q _ (Hv D9)⟩;have:=Yc e4;rw[Qa,Qa]at this;rw[Qa];lia
def zii{prog:Nk}{w:Nl}{A:No}{s:Nh}{kx vx target iter:Expr}{ifs:Nq}{scope:Scope}{pos:Pos}{it:Value}{D:Nc}{env:Env}{R:Nv}(I:Nat→Shared→Prop)(turn:∀ n s,I n s→wpAny (model prog w) A (pyNext it) (λr s₁=>match r with
   |none=>R (.ok .next) s₁
   | some v=>ZG (letOwnedTupleGo target it v) (λ_ s₁'=>ZG (assign target env v) (λ_ s₂=>
     wpAny D7 A (forIn ifs true λc r=>if r=true then do let ok ←isTrue c env (eval c env);pure (FM ok) else pure (FM r)) (λok s₃=>
      if ok=true then ZG (eval kx env) (λkv s₄=>ZG (eval vx env) (λvv s₅=>wpAny D7 A (dictSet D kv vv) (λ_ s₆=>∃m,m<n∧I m s₆) (λ_ _=>False) s₅) (λ_ _=>False) s₄) (λ_ _=>False) s₃
      else ∃m,m<n∧I m s₃) (λ_ _=>False) s₂) (λ_ _=>False) s₁') (λ_ _=>False) s₁) (λ_ _=>False) s)(n:Nat)(h:I n s):codeAny D7 A (.compLoop (.DictComp kx vx [⟨target,iter,ifs,0⟩] scope pos) 0 it GJ env) R s:=by
 refine codeAny_loop rfl I (λn s hI=>?_) n h;show ZY A ((compTurn (.DictComp kx vx [⟨target,iter,ifs,0⟩] scope pos) 0 it GJ env).onRaise (λx=>do noteFrame x env;theTreesLotGoes x)) _ _ s;refine wpAny_noted ?_;rw[compTurn_dict];refine wpAny_bind (wpAny_standAt (wpAny_bind (VU (λr s₁ h₁=>?_) λ_ _ h'=>h'.elim)));cases r with
 |none=>exact wpAny_pure h₁
 |some v=>
  refine wpAny_bind (K5 (λ_ s₁' h₁'=>?_) λ_ _ h'=>h'.elim);refine wpAny_bind (Dp (λ_ s₂ h₂=>wpAny_bind (K6 (λok s₃ h₃=>?_) λ_ _ h'=>h'.elim)) λ_ _ h'=>h'.elim);cases ok with
  |false=>exact wpAny_pure ⟨rfl,h₃⟩
  |true=>exact wpAny_bind (wpAny_bind (wpAny_mono h₃ (λkv s₄ h₄=>wpAny_bind (wpAny_holding (wpAny_mono h₄ (λvv s₅ h₅=>wpAny_bind (wpAny_standAt (wpAny_holding (wpAny_mono h₅ (λ_ s₆ h₆=>wpAny_pure ⟨rfl,h₆⟩) λ_ _ h'=>h'.elim)))) λ_ _ h'=>h'.elim))) λ_ _ h'=>h'.elim))
variable{sc:Scope}{M:Nj}{ix:Nw}{a6:Nd}{σ:St}{H:Hp}{s:Nh}
def rDC(g:TG)(tc:TT)(tk tv:TE)(Q:VK)(J:It)(τ:St)(H1:Hp):Prop:=∃W:Nat→Nat→List (Key×V)→St→Hp→Prop,(∃m,W 0 m [] τ H1)∧∀i m ys τ H,W i m ys τ H →
 (MF H∧∀D,H D=none→Q GJ (ZQ D (.dK ys))) ∨
 (J.go i H∧ys.length<sizeLine∧∀x H',KY H'→g x τ H' λ τ2 H2=>tc τ2 H2 λb H3=>if b=true then tk τ2 H3 λkv H4=>tv τ2 H4 λy H5=>∃k,kv=kV k∧∃m',m'<m∧W Fj m' (putK ys k y) τ2 H5 else ∃m',m'<m∧W Fj m' ys τ2 H3)
def tDC(ix:Nw)(wi:TI)(g:TG)(tc:TT)(tk tv:TE):TE:=λ σ H Q=>wi σ H λJ H1=>Vs H1
def dc_block{tg kx vx iter:Expr}{ifs:Nq}{pos:Pos}{g:TG}{tc:TT}{tk tv:TE}{fp:Nn}{it:Nc}{tn:Nat→Heap→Prop}{J:It}{Q:VK}{RR:Value→Addr→Result→Shared→Prop}{E:Na}(B:Y7 ix)(hc:X.calm=true)(hg:∀C ex s H,Bk g)(ht:∀C ex s H,JP tc)(hk:∀C ex s H,Bg kx tk)(he:∀C ex s H,Bg vx tv)(I:Fg)(T:UW tn)(h0:tn 0 s.heap)(hf:∀b∈fp,WF b)(q:Vs H)(mV:∀D C m ys H' s',ZA (YQ D (.dK ys)) s'→Q GJ (YQ D (.dK ys))→s'.heap.Ns C m→YQ D (.dK ys) C=none→s.heap.objs.size<C→RR GJ C (.ok .next) s') :
  wpAny DT X.A newDict (λai s₃=>ZF (newFunctionEnv sc X.env.globals HR [] X.env.qual none .none (some X.env)) (λcenv s₄=>codeAny DT X.A (.compStart (.DictComp kx vx [⟨tg,iter,ifs,0⟩] sc pos) 0 (DK it) ai {cenv with scope:=relabel sc X.env}) (RR ai cenv.locals) s₄) E s₃) E s:=by
 refine wpAny_newObj_type (wpAny_newFunctionEnv B.nocell (by intro y hy;simp at hy) (λh₁ hns₁ hsb₁=>?_) B.kind);dsimp only at hns₁ hsb₁ ⊢;generalize hD:s.heap.objs.size=D at hns₁ hsb₁ ⊢;generalize hW:s.heap.push {cls:=.type "dict",dict:=none,data:=.dict #[]}=g2 at hns₁ hsb₁ ⊢;have hC:g2.objs.size=D+1:=by rw[←hW,Ub,hD]
 have k2:∀b o,s.heap.get? b=some o→g2.get? b=some o:=λb o e=>by rw[←hW];exact Q5 e
 have I3:ZA H {s with heap:=g2}:=I.kept (t':=s.toks) k2;have HD:H D=none:=I.hok.fresh (by rw[hD];exact Qd _);have fD:WF D:=I.fpOk (by rw[hD];exact Qd _) HD;have D2:g2.get? D=some {cls:=.type "dict",dict:=none,data:=.dict #[]}:=by rw[←hW,←hD];exact JM rfl
 have nS:(D==sysModules)=false:=beq_eq_false_iff_ne.mpr (by rw[←hD];exact We I.big);have k1:∀b o,g2.get? b=some o→h₁.get? b=some o:=λb o e=>by have hb:b≠g2.objs.size:=Zm (Qx e);exact(hsb₁.2 b hb).trans (Q5 e)
 have DN:h₁.DictOf Ru D []:=by
  have q:g2.DictOf Ru D []:=by rw[←hW,←hD];exact Heap.DictOf.new s.heap
  obtain⟨o,es,ep,e,r⟩:=q;exact⟨o,es,ep,k1 _ _ e,r⟩
 have fpx:∀b∈D::fp,WF b:=λb hb=>by
  rcases Qi.mp hb with e|e
  ·rw[e];exact fD
  exact hf b e
 have fplt:∀b∈D::fp,b<g2.objs.size:=λb hb=>by
  rcases Qi.mp hb with e|e
  ·rw[e,hC];exact Wa _
  obtain⟨o,q,_⟩:=UD h0 b e;exact Qx (k2 b o q)
 have fpD:D∉fp:=λhm=>by obtain⟨o,q,_⟩:=UD h0 D hm;have:=Qx q;rw[hD]at this;exact Yv _ this
 generalize aH:zdf X sc M g2.objs.size a6 (D::fp) {s with heap:=g2} H=Y;have IY:XD [] (UL σ) H {s with heap:=h₁,toks:=s.toks+([]:List (Str×Value)).length}:=by rw[←aH];exact inv_blk B I3 fpx fplt rfl hns₁ k1 rfl rfl
 have Yg:=aH▸hg g2.objs.size (D::fp) {s with heap:=g2} H;have Yt:=aH▸ht g2.objs.size (D::fp) {s with heap:=g2} H;have Yk:=aH▸hk g2.objs.size (D::fp) {s with heap:=g2} H;have Ye:=aH▸he g2.objs.size (D::fp) {s with heap:=g2} H;have eP:Y.prog=X.prog:=by rw[←aH];rfl
 have eW:Y.w=X.w:=by rw[←aH];rfl
 have eK:Y.K=X.K:=by rw[←aH];rfl
 have eA:Y.A=X.A:=by rw[←aH];rfl
 have eC:Y.calm=true:=by rw[←aH];exact hc
 have eE:Y.env=compEnvC sc HR g2.objs.size X.env:=by rw[←aH];rfl
 have eX:Y.xe=λ_ _=>False:=by rw[←aH];rfl
 have eEx:Y.ex=D::fp:=by rw[←aH];rfl
 have eFs:Y.fs=frs X.stack:=by rw[←aH];rfl
 have ePn:Y.pn=X.pn++a6:=by rw[←aH];rfl
 have eL:Y.env.locals=g2.objs.size:=by rw[eE];rfl
 have sr:Y.H₀=H:=by rw[←aH];rfl
 have ni:Y.s₀={s with heap:=g2}:=by rw[←aH];rfl
 have fY:∀{H':Hp} {pl:Nd} {b:Nc},b∈D::fp→H' b=none→(∀p∈pl,p.1≠b)→FpOk Y pl H' b:=λ{H' pl b} hb hn hp=>by
  obtain⟨f0,f1,f2,f3,f4,f5⟩:=fpx b hb;refine⟨hn,?_,?_,Gb (DR eEx hb),IY.ok.exf b (DR eEx hb) |>.2,λp dz=>?_⟩
  ·rw[eL];exact Zm (fplt b hb)
  ·rw[eFs];intro z;rcases Qi.mp (I3.stkSub b z) with q|q
   ·exact f1 q
   exact f2 q
  rw[ePn]at dz;rcases Qg.mp dz with z|z
  ·exact f5 p z
  exact hp p z
 obtain⟨W,⟨m0,w0⟩,turn⟩:=q;have loop:∀ sN:Shared,sN={ s with heap:=h₁,toks:=s.toks+([]:List (Str×Value)).length } →
   codeAny DT X.A (.compLoop (.DictComp kx vx [⟨tg,iter,ifs,0⟩] sc pos) 0 (DK it) GJ (compEnvC sc HR g2.objs.size X.env)) (RR GJ g2.objs.size) sN:=by
  rintro sN rfl;refine zii (λn s'=>Ex5 λi τ H' ys vs=>Aj7 (XD [] τ H' s') (tn i s'.heap) (∀b∈D::fp,H' b=none) (s'.heap.DictOf Ru D vs) (KV ys vs) (ys.length≤sizeLine) (W i n ys τ H')) ?_ m0
   ⟨0,UL σ,H,[],[],IY,YF h0 λb _ o e=>k1 b o (k2 b o e),λb hb=>(fpx b hb).1,DN,.nil,HY,w0⟩
  rintro n s5 ⟨i,τ,H5,ys,vs,I5,t5,n5,dd5,v5,z5,w5⟩;obtain⟨o5,jB,sk,d5,oR⟩:=id dd5;have nc5:∀v,o5.data≠.cell v:=λv z=>by obtain⟨_,q,_⟩:=oR;rw[q]at z;cases z
  have oD:∀b∈[D],∃o,s5.heap.get? b=some o∧∀v,o.data≠.cell v:=λb hb=>by rw[Qc.mp hb];exact⟨_,d5,nc5⟩
  have jG:XD ([]++zcu [D] s5.heap) τ H5 s5:=I5.pinned (λb hb=>fY (by rw[Qc.mp hb];exact Qe) (n5 b (by rw[Qc.mp hb];exact Qe)) DI) oD;have pD:∀p∈zcu [D] s5.heap,p.1=D∧p.2=o5:=λp hp=>by obtain⟨e1,e2⟩:=zgj hp;have dN:p.1=D:=Qc.mp e1;rw[dN,d5]at e2;exact⟨dN,(Qw e2).symm⟩
  have fN:∀{H':Hp},(∀b∈fp,H' b=none)→∀b∈fp,FpOk Y ([]++zcu [D] s5.heap) H' b:=λhn b hb=>fY (WD hb) (hn b hb) λp hp z=>by rw[Kv]at hp;rw[(pD p hp).1]at z;exact fpD (z▸hb)
  rcases NX w5 with⟨stop,qn⟩|⟨go,zl,step⟩
  ·have h6:=XZ (λ_ _=>False) jG (fN λb hb=>n5 b (WD hb)) t5 stop;rw[eA]at h6;refine thn h6 λr s6 ⟨hr,I6⟩=>?_;subst hr;have d6:s6.heap.get? D=some o5:=by have hp:=zbx (fp:=[D]) RM d5;exact(I6.pin (D,_) (Y6 hp)).1
   have H5D:H5 D=none:=n5 D Qe;obtain⟨mL,nL,_⟩:=I6.loc;rw[eL]at nL;have CD:g2.objs.size≠D:=by rw[hC];exact Nat.succ_ne_self _
   refine mV D _ mL ys H5 s6 ?_ (qn D H5D) nL ?_ (by rw[hC,hD];exact Wa _)
   ·have u6:=I6.base;rw[eFs,eEx,sr,ni]at u6;refine I3.call' (ch:=D::fp) (I6.os.trans (by rw[ni])) ⟨u6.keep,u6.slot,λb o e n hx=>?_,u6.there,λb xs e=>?_,λb o u e=>?_,λb ps e=>?_⟩ ?_ I6.bare λb hb=>?_
    ·rw[zaf (λz=>hx (DR z Qe))];exact u6.free b o e n hx
    ·rw[zaf (BF HD)];exact u6.tups b xs e
    ·rw[zaf (BF HD)];exact u6.frzs b o u e
    ·rw[zaf (BF HD)];exact u6.tbls b ps e
    ·have kR:=I6.hok;rw[eP,eW]at kR;intro b u e;by_cases hb:b=D
     ·subst hb;rw[zac]at e;cases e;exact⟨z5,nS,vs,v5,o5,jB,sk,d6,oR⟩
     rw[zaf hb]at e;exact(kR b u e).stay (λc v _ q=>q) (λc q=>by rw[zaf (Vg H5D)];exact q) λc xs q=>by rw[zaf (Vg H5D)];exact q
    obtain⟨f0,f1,f2,f3,f4,f5⟩:=fpx b hb;exact⟨f3,f1,f4,f5⟩
   rw[zaf CD];have:=I6.free;rw[eL]at this;exact this
  have h6:=X0 (λ_ _=>False) jG (fN λb hb=>n5 b (WD hb)) t5 go;rw[eA]at h6;refine thn h6 λr s6 ⟨u,hr,h7⟩=>?_;subst hr;refine thn h7 λ_ s7 ⟨x,H7,I7,r7,y7,t7,n7⟩=>?_;have sH:=NY (UD t7);have h8:=Yg _ s7 τ H7 x u _ sH r7 (step x H7 y7);rw[eP,eW,eA,eX,eE]at h8;refine thn h8 λ_ s8 ⟨τ8,H8,I8,q8⟩=>?_;have h9:=Yt _ s8 τ8 H8 _ I8 q8;rw[eP,eW,eA,eX,eE]at h9;refine thn h9 λok s9 ⟨H9,I9,q9⟩=>?_;have again:∀{τ':St} {H':Hp} {s':Nh},XD (([]++zcu [D] s5.heap)++Md s7.heap) τ' H' s'→s'.heap.get? D=some o5∧H' D=none∧tn Fj s'.heap∧∀b∈fp,H' b=none:=λ{τ' H' s'} I'=>by
   have pp:∀{b:Nc} {o:Obj},b∈fp→s7.heap.get? b=some o→s'.heap.get? b=some o∧H' b=none:=λ{b o} hb e=>
    let z:=I'.pin (b,o) (Y6 (Y6 (zbx hb e)))
    ⟨z.1,z.2.1⟩
   have hp:=zbx (fp:=[D]) RM d5;have z:=I'.pin (D,_) (Y6 (UT hp));refine⟨z.1,z.2.1,YF t7 λb hb o e=>(pp hb e).1,λb hb=>?_⟩;obtain⟨o,e,_⟩:=UD t7 b hb;exact(pp hb e).2
  have drop:∀{pl:Nd} {τ':St} {H':Hp} {s':Nh},XD pl τ' H' s'→XD [] τ' H' s':=λI'=>I'.pins_of DI;cases ok with
  |false=>rw[if_neg DL]at q9 ⊢;obtain⟨m',hm,w9⟩:=q9;obtain⟨d9,H9D,t9,n9⟩:=again I9;exact⟨m',hm,i+1,τ8,H9,ys,vs,drop I9,t9,λb hb=>(Qi.mp hb).elim (λe=>e▸H9D) (n9 b),⟨o5,jB,sk,d9,oR⟩,v5,z5,w9⟩
  | true=>
   rw[if_pos rfl]at q9 ⊢;have jA:=Yk _ s9 τ8 H9 _ I9 q9;rw[eP,eW,eA,eX,eE]at jA;refine thn jA λkv i8 ⟨kw,jH,oZ,nz,q10⟩=>?_;have si:=Ye _ i8 τ8 jH _ oZ q10;rw[eP,eW,eA,eX,eE]at si;refine thn si λy pe ⟨yv,H11,oW,r11,kk,ek,m',hm,w11⟩=>?_;subst ek;obtain⟨d11,H11D,t11,n11⟩:=again oW;have ss:pe.heap.DictOf Ru D vs:=⟨o5,jB,sk,d11,oR⟩;have jd:(QV X.w).is kk kv=true:=by
    cases kk with
    |inl i=>obtain⟨t,rfl⟩:=nz;exact keyIs_int i t
    |inr x=>obtain⟨t,rfl⟩:=nz;exact keyIs_str x t
   refine wpAny_dictSet_pairs (knd:=QV X.w) jd ss (λh' gE sb=>?_) (by rw[←Yc v5];assumption);have kkp:∀b o,b≠D→pe.heap.get? b=some o→h'.get? b=some o:=λb o hb e=>(sb.2 b hb).trans e;obtain⟨g0,g1,g2',g3,g4,g5⟩:=fY (pl:=[]) (H':=H11) (b:=D) Qe H11D DI;have I12:=(drop oW).turned (h':=h') (t':=pe.toks+1) (it:=D) kkp H11D g1 g3 g4 g5;refine⟨m',hm,i+1,τ8,H11,putK ys kk yv,stored vs kk y,I12,YF t11 λb hb o e=>kkp b o (λz=>fpD (z▸hb)) e,λb hb=>(Qi.mp hb).elim (λe=>e▸H11D) (n11 b),gE,v5.put kk r11,?_,w11⟩;unfold putK;split
   ·rw[Qa];exact z5
   rw[Qk,Kn];assumption
 exact codeAny_compStart_dict (loop _ rfl) (Dq (YF h0 λb _ o e=>k1 b o (k2 b o e)) (loop _ rfl))
def ps_dc(hN:X.N.Nodup)(dD:X.N[i]?=some y)(hy:X.env.scope.names.lookup y=some .local)(B:Y7 ix)(hc:X.calm=true)(hi:JE iter wi)(hg:∀C a6 ex s H,Bk g)(ht:∀C a6 ex s H,JP tc)(hk:∀C a6 ex s H,Bg kx tk)(he:∀C a6 ex s H,Bg vx tv)(qe:swapsWith (.DictComp kx vx [⟨tg,iter,ifs,0⟩] sc pos) (FX (.Name y py)) spos.line X.env=pure true)(hs:∀x,foldedSetIterable iter X.env x=pure x:=by intro _;rfl):X3 (.Assign [.Name y py] (.DictComp kx vx [⟨tg,iter,ifs,0⟩] sc pos) spos) (tAsg (tDC ix wi g tc tk tv) (gName i)):=by
 intro a6 s σ H D' I h;rw[exec_Assign_Name_used _ _ _ _ qe];refine wpAny_bind (wpAny_standAt (wpAny_bind ?_));show ZY X.A (do let _ ←comprehension (.DictComp kx vx [⟨tg,iter,ifs,0⟩] sc pos) sc X.env _ newDict false (eval iter X.env) (FX Hq)) _ _ s;refine wpAny_bind (wpAny_mono (wpAny_comprehension_free (use:=some Hq) (Q:=λ_ s'=>JX D' .next s') rfl hs (zcr (B.clos I)) B.kind B.names
  (thn Rc λv s1 h1=>thn h1 λitv s2 h2=>?_)) (λ_ s' hq=>wpAny_pure (FA hq)) λ_ _ e=>e)
 obtain⟨it,fp,tn,J,H2,e,I2,T,au,f2,q⟩:=h2;subst e;refine dc_block (RR:=λai C=>compPost DT X.A X.xe (FX Hq) (λ_ s'=>JX D' .next s') ai C) B hc (hg · a6) (ht · a6) (hk · a6) (he · a6) I2 T au f2 q ?_;intro D C m ys H' s' I' q' hn hC aa;show ZY X.A (assign (.Name y py) X.env GJ) _ _ s';refine wpAny_assign_Name (Mi (v:=.ref D) rfl (λkK sI ⟨a,sb,ha⟩=>?_) (G' hy));have aC:C≠a:=by
  rcases ha with z|z
  ·rw[z];exact We (Wq I2.lt aa)
  exact We (M3 aa)
 have bi:=hn.sameBut sb aC;exact⟨m,bi,λh' bX=>⟨_,_,sI.letgo bi hC I2.lt I2.cl_lt I2.pin_lt I2.sz aa bX,q'⟩⟩
end
end L2
namespace RawD
open PySem PyProof.Rows PySem.W
def At(h:Np)(a:Nc)(es:Array DictEntry)(ep:Nat):Prop:=∃o,h.get? a=some o∧o.ExactDict∧o.data=.dict es ep
def At.typeIs{s:Nh}{a:Nc}{es:Array DictEntry}{ep:Nat}(x:At s.heap a es ep):s.TypeIs Gq "dict" :=let⟨o,e,c,_⟩:=x;⟨o,e,c.1⟩
def At.keep{h g:Np}{a:Nc}{es:Array DictEntry}{ep:Nat}(x:At h a es ep)(k:∀o,h.get? a=some o→g.get? a=some o):At g a es ep:=let⟨o,e,r⟩:=x;⟨o,k _ e,r⟩
section
variable{prog:Nk}{w:Nl}{A:No}{E:Na}{s:Nh}{d:Nc}{es:Array DictEntry}{ep:Nat}
def iter{Q:Na}(nS:(d==sysModules)=false)(m:Vt ep)(q:Q D6 {s with heap:=s.heap.push {cls:=.type "dict_keyiterator",data:=.fields #[DK d,Rj 0 0,.int es.size 0,Rj ep 0]}}):ZG (pyIter (DK d)) Q E s:=by obtain⟨o,ho,hc,hd⟩:=id m;refine wpAny_pyIter_slot m.typeIs F.slot_dict_iter (wpAny_call_entry F.slot_dict_iter m.typeIs F.entry_dict_iter ?_ (F.args_dict_iter_1 _));unfold Builtin.«dict.__iter__»;refine wpAny_bind ?_;unfold Builtin.Dict.dictSlotNone;refine wpAny_bind (wpAny_notOrdered_dict m.typeIs (show ZY _ (pure (Value.ref d)) _ _ s from wpAny_pure ?_));show ZY _ (Builtin.Dict.showsAll d >>= _) _ _ s;unfold Builtin.Dict.showsAll;rw[if_neg (DR nS Za)];refine wpAny_bind (Hc (wpAny_dictEntries ho hd (wpAny_bind (wpAny_dictEpoch ho hd (wpAny_bind (wpAny_newObj_type (FA ⟨_,rfl, "dict_keyiterator",_,⟨_,Re,rfl⟩,Ut.lookup,?_⟩)))))));simpa[rawInt] using q
def item{j:Nc}{i:Nat}{Q:Option Value→Shared→Prop}(st:s.heap.IsKeyIter j d i es.size ep)(m:Vt ep)(hi:i<es.size)(hQ:∀g,g.IsKeyIter j d Fj es.size ep→MB g→Q (some es[i].key) {s with heap:=g}):ZG (pyNext (DK j)) Q E s:=by
 obtain⟨o,ho,hc,hd⟩:=id st;obtain⟨od,lH,aQ,gD⟩:=id m;unfold pyNext;refine wpAny_bind (RO (wpAny_callSpecial?_slot (name:=Str.ofString "__next__") st.typeIs Ut (UR ?_ (F.args_dict_keyiterator_next_1 _))));refine wpAny_bind (Hc (wpAny_bind ?_))
 first|refine wpAny_bind (WC (wpAny_pure ?_))|refine wpAny_bind (WP (wpAny_pure ?_))
 refine wpAny_bind (MR ?_);have iT:Builtin.Dict_items.ownsTuple "dict_keyiterator" = false:=by decide
 simp only[iT,Wn,if_false];show ZY _ (if(Value.ref d==.none)=true then _ else _) _ _ s;rw[if_neg (show ¬((Value.ref d==.none)=true) from Za)];refine wpAny_bind (Hc (VZ ?_));rw[if_neg DI];refine wpAny_bind (Hc (MC ?_));rw[if_neg DI];refine wpAny_pure ?_;simp only[show ¬((i:Int)<0) from by lia,if_false,Ju,Xg hi];refine wpAny_bind ?_
 first|refine wpAny_bind (WC (wpAny_pure ?_))|refine wpAny_bind (WP (wpAny_pure ?_))
 refine wpAny_bind (wpAny_isOneOf_keyiter st.typeIs ?_);show ZY _ (setField (DK j) 1 (rawInt ((i:Int)+1)) >>= _) _ _ s;refine wpAny_bind (U7 DI ?_);have a7:(s.heap.update j (Obj.mapFields (·.setIfInBounds 1 (rawInt ((i:Int)+1))))).IsKeyIter j d Fj es.size ep:=
  ⟨_,Ug _ ho (Ky (Uh hd _)),(Obj.cls_mapFields ..).trans hc,by rw[Uh hd];simp[rawInt]⟩
 refine wpAny_bind (wpAny_holding (wpAny_bind (wpAny_isOneOf_keyiter (s:={s with heap:=s.heap.update j (Obj.mapFields (·.setIfInBounds 1 (rawInt ((i:Int)+1))))}) a7.typeIs ?_)));show ZY _ (pure es[i].key) _ _ _;exact wpAny_pure (wpAny_pure ⟨_,rfl,FA (hQ _ a7 (Xk ..))⟩)
def done{j:Nc}{i:Nat}{Q:Option Value→Shared→Prop}(hh:A.handled=none)(st:s.heap.IsKeyIter j d i es.size ep)(m:Vt ep)(hi:es.size≤i)(hQ:∀g,MP g→Q none {s with heap:=g}):ZG (pyNext (DK j)) Q E s:=by
 obtain⟨o,ho,hc,hd⟩:=id st;obtain⟨od,lH,aQ,gD⟩:=id m;unfold pyNext;refine wpAny_bind (RO (wpAny_callSpecial?_slot (name:=Str.ofString "__next__") st.typeIs Ut (UR ?_ (F.args_dict_keyiterator_next_1 _))));refine wpAny_bind (Hc (wpAny_bind ?_))
 first|refine wpAny_bind (WC (wpAny_pure ?_))|refine wpAny_bind (WP (wpAny_pure ?_))
 refine wpAny_bind (MR ?_);have iT:Builtin.Dict_items.ownsTuple "dict_keyiterator" = false:=by decide
 simp only[iT,Wn,if_false];show ZY _ (if(Value.ref d==.none)=true then _ else _) _ _ s;rw[if_neg (show ¬((Value.ref d==.none)=true) from Za)];refine wpAny_bind (Hc (VZ ?_));rw[if_neg DI];refine wpAny_bind (Hc (MC ?_));rw[if_neg DI];refine wpAny_pure ?_;simp only[show ¬((i:Int)<0) from by lia,if_false,Ju,Array.getElem?_eq_none hi];refine wpAny_bind ?_
 first|refine wpAny_bind (WC (wpAny_pure ?_))|refine wpAny_bind (WP (wpAny_pure ?_))
 show ZY _ (setField (DK j) 0 .none >>= _) _ _ s;refine wpAny_bind (U7 DI ?_);show ZY _ (newExc (.type "StopIteration") [] >>= _) _ _ _;refine wpAny_bind ?_;simp only[newExc,newTuple];refine wpAny_bind (wpAny_newObj_type (wpAny_bind (m:=firstArgMember _ _) (wpAny_of_eq (a:=Value.none) (by first|rfl|(simp only[firstArgMember];rfl)) (wpAny_newObj_type ?_ (by size_fits)))) (by size_fits));simp only[raiseNew];refine wpAny_bind (wpAny_handled ?_)
 first|rw[show A.in1.handled=none from hh] | rw[hh]
 refine wpAny_bind (FA (wpAny_throw ?_));refine wpAny_bind (wpAny_isInstance (T:= "StopIteration") (b:=true) ⟨_,Re,rfl⟩ isSubtype_stop ?_);exact wpAny_pure (hQ _ (((Xk ..).extBut.push _).push _))
theorem src(nS:(d==sysModules)=false):KdlSrc prog w "dict" d d es.size (λi v=>∃e,es[i]?=some e∧v=e.key) (λh=>At h d es ep) where
 type:=λ_ m=>m.typeIs
 there:=λ_ m=>let⟨_,e,_⟩:=m;⟨Qx e,Qx e⟩
 keep:=λ_ _ m k=>m.keep λo e=>k d Fq o e
 notList:=by decide
 notTuple:=by decide
 hint:=λ_ _ _ _ m q=>kdl_hint_dict m.typeIs q
 iter:=λA s hh m=>by
  have lt:d<s.heap.objs.size:=let⟨_,e,_⟩:=m;Qx e;refine⟨_,λi h=>h.IsKeyIter s.heap.objs.size d i es.size ep∧At h d es ep,λ_ _ q=>iter nS m q,?_,⟨_,Re,rfl,rfl⟩,m.keep λo e=>Q5 e⟩;exact
   {sub:=λb hb=>by simp at hb;simp[hb]
    frame:=λi h g st k=>⟨st.1.at λo e=>k _ DI o e,st.2.keep λo e=>k d DI o e⟩
    item:=λi s' Q E hi st hQ=>item st.1 st.2 hi λg a b=>hQ _ g s'.toks ⟨_,Xg hi,rfl⟩ ⟨a,st.2.keep λo e=>(b.2 d (Zm lt)).trans e⟩ λc o hc e=>(b.2 c (λz=>hc (by simp[z]))).trans e
    done:=λs' Q E st hQ=>done hh st.1 st.2 D9 λg a=>hQ g s'.toks λc o hc e=>a c o (λz=>hc (by simp[z])) e
    self:=λ_ _ _ _ st q=>wpAny_pyIter_keyiter st.1 q}
end
end RawD
namespace L2
open PySem PySem.Spec PyProof.Rows Tm
def kP(q:Str×Str):List Key:=[Sum.inr q.1,Sum.inr q.2]
abbrev zbd(H:Hp):List Addr→List (Str×Str)→Prop:=Paired λb r=>H b=some (.tup [.str r.1,.str r.2])
section
variable{X:Cx}
def zdc{α β:Type}{R:α→β→Prop}{as bM:List α}(p:bM.Perm as):∀{bs:List β},WQ as bs→∃gf,gf.Perm bs∧WQ bM gf:=by
 induction p with
 |nil=>intro bs r;cases r;exact⟨[],.nil,.nil⟩
 |cons x q ih=>
  intro bs r;cases r with
  |cons r1 r2=>obtain⟨zs,h1,h2⟩:=ih r2;exact⟨_::zs,h1.cons _,.cons r1 h2⟩
 | swap x y l=>
  intro bs r;cases r with
  |cons r1 r2=>
   cases r2 with
   |cons r3 r4=>exact⟨_,List.Perm.swap ..,.cons r3 (.cons r1 r4)⟩
 |trans _ _ ih1 ih2=>intro bs r;obtain⟨zs,h1,h2⟩:=ih2 r;obtain⟨bz,h3,h4⟩:=ih1 h2;exact⟨bz,h3.trans h1,h4⟩
def pairs_mem{H:Hp}{as:Nn}{qs:Nr}(r:N3 as qs){a:Nc}(ha:a∈as):∃r:Str×Str,H a=some (.tup [.str r.1,.str r.2]):=by
 induction r with
 |nil=>cases ha
 |cons h t ih=>
  rcases Qi.mp ha with zz|zz
  ·subst zz;exact⟨_,h⟩
  exact ih zz
end
end L2
namespace L2
open PySem PySem.Spec PyProof.Rows
def fsk{N P:Nj}{sc:Scope}(a:sc.kind=.function:=by rfl)(b:sc.isCoroutine=false:=by rfl)(c:sc.isGenerator=false:=by rfl)(d:N.Nodup:=by decide+kernel)(e:N.take P.length=P:=by rfl)(f:∀x∈P,sc.names.lookup x=some .local∨sc.names.lookup x=some .cell:=by decide+kernel)(g:∀y∈sc.names,y.2≠.free:=by decide+kernel):zaw N P sc:=⟨a,b,c,d,e,f,g⟩
section
variable{X:Cx}
def zar(i:Nat){x:Str}{e:Expr}{te:TE}{pos aT:Pos}(hN:X.N.Nodup)(he:Z9 e te)(hi:X.N[i]?=some x:=by rfl)(hx:Y3 x:=by exact Or.inl rfl)(hs:swapsWith e (FX (HH aT)) pos.line X.env=pure false:=by rfl)(hf:X.fn x=true∨X.env.scope.names.lookup x=some .local:=by first|exact .inl rfl|exact .inr rfl|assumption) :
  PS X (.Assign [HH aT] e pos) (tAsg te (gName i)):=ps_set hN hi hx he hs hf
def zbe(i:Nat){x:Str}{pos:Pos}(hN:X.N.Nodup)(hi:X.N[i]?=some x:=by rfl)(hx:Y3 x:=by exact Or.inl rfl)(hf:X.fn x=true∨X.env.scope.names.lookup x=some .local:=by first|exact .inl rfl|exact .inr rfl|assumption):Ny (gName i):=pg_name hN hi hx hf
def zge{o i:Expr}{td ty:TE}{pos:Pos}(hu:X.A.units+1<cLine)(ho:Z9 o td)(hi:Z9 i ty)(hs:NoSl i:=by exact λ_ _=>rfl):Z9 (RG o i) (tDGet td ty):=pe_dget hu ho hi hs
def Fun.okL{P:Nk}{w:Nl}{K:Nb}{mg:Ng}{base:Np}{x qual:Str}{st:Stmt}{f:Nc}{fd:Nu}{N ps:Nj}{k:Nat}{sp:Sp}(F:Z2 x qual st f fd)(S:Vk (zag st))(bv:∀ (cdv:Value) (A:No) (outer:List Env) (s:Nh) (H:Hp) (vs:List V) (Q:VK) (E:XK),UV Hf→sp vs H Q E →
   ∃t,PSs (U4 E).nox (zce st) t∧t {nx:=λ_ H'=>Q .non H',rt:=Q} (X6 vs) H)(len:∀vs H Q E,sp vs H Q E→vs.length=ps.length:=by intro _ _ _ _ h;cases h;subst_vars;rfl):ZB (k+1) f fd ps sp:=F.ok S len bv
end
end L2
namespace K21
open PySem L2
abbrev qR:Str:= "_law_rounds_here"
abbrev qP:Str:= "_law_pot_here"
abbrev qM:Str:= "_law_many"
abbrev qO:Str:= "_law_other"
abbrev qS:Str:= "_law_script"
abbrev qN:Str:= "_law_names_here"
def top(i:Nat):Stmt:=PySem.Challenge.pw_fivehues_k13_not_flat.main.body.getD i (.Pass ⟨0,0,0,0⟩)
def eOf:Stmt→Expr
 |.Assign _ e _=>e
 |.Return (some e) _=>e
 |.For _ e _ _ _=>e
 |.While e _ _ _=>e
 |_=>.Name "" ⟨0,0,0,0⟩
def bOf:Stmt→List Stmt
 |.For _ _ b _ _=>b
 |.If _ b _ _=>b
 |_=>[]
def aOf(i:Nat):Expr→Expr
 |.Call _ a _ _=>a.getD i (.Name "" ⟨0,0,0,0⟩)
 |.BinOp l _ r _=>[l,r].getD i l
 |.BoolOp _ a _=>a.getD i (.Name "" ⟨0,0,0,0⟩)
 |.Compare _ _ a _=>a.getD i (.Name "" ⟨0,0,0,0⟩)
 |e=>e
def scOf:Expr→Scope
 |.ListComp _ _ sc _=>sc
 |.DictComp _ _ _ sc _=>sc
 |_=>{kind:=.function,names:=[],isGenerator:=false,isCoroutine:=false}
abbrev sAt(s:Stmt)(i:Nat):Stmt:=(zce s).getD i (.Pass ⟨0,0,0,0⟩)
abbrev bAt(s:Stmt)(i:Nat):Stmt:=(bOf s).getD i (.Pass ⟨0,0,0,0⟩)
def Pot(H:Hp)(p:Nc)(b m:Int):Prop:=H p=some (.lst [GG b,GG m])∧0≤b∧0≤m∧m<2147483648
inductive IspTake(vs:List V)(H:Hp)(Q:VK):Prop
 |mk(p:Nc)(b m n:Int)(h0:vs=[.ref p,.int n])(h1:Pot H p b m)(h2:0<n)(h3:n<1073741824)(h4:∀(d b' m':Int) (H':Hp),0≤d→d<n→Pot H' p b' m'→(∀c o,H c=some o→c≠p→H' c=some o)→Q (.int d) H')
def zf9:Sp:=λvs H Q _=>IspTake vs H Q
end K21
namespace Wb
section
variable{α:Type}[DecidableEq α]
def nxt(zs:List α)(x:α):α:=zs.getD ((zs.idxOf x+1)%zs.length) x
def ins(zs:List α):Option α→α→List α
 |none,n=>n::zs
 |some c,n=>zs.take (zs.idxOf c+1)++n::zs.drop (zs.idxOf c+1)
abbrev Rs(α:Type):=List (α×List α)
def row(rs:Rs α)(x:α):List α:=((rs.find? λp=>decide (p.1=x)).map (·.2)).getD []
def zb0(rs:Rs α)(x:α)(r:List α):Rs α:=rs.map λp=>if p.1=x then(p.1,r) else p
def stp(rs:Rs α)(s:α×α):α×α:=(s.2,nxt (JR s.2) s.1)
end
end Wb
namespace K21
open PySem L2 Wb
def Keep(xs:Nn)(H H':Hp):Prop:=∀c o,H c=some o→c∉xs→H' c=some o
def Keep.refl:W3 H:=λ_ _ e _=>e
def Keep.trans(a:W3 H1)(b:Keep xs H1 H2):W3 H2:=λc o e n=>b c o (a c o e n) n
def Keep.sub(a:W3 H1)(h:∀x∈xs,x∈ys):Keep ys H H1:=λc o e n=>a c o e λz=>n (h c z)
def Keep.new(h:H l=none):W3 (ZQ l o):=λc u e _=>by rw[zaf (BF h)];exact e
def Keep.wr(h:l∈xs):W3 (ZQ l o):=λc u e n=>by rw[zaf (λz=>n (DR z h))];exact e
abbrev Ent:=Str×List Str×Addr
abbrev eWV(es:List Ent):List (Key×V):=es.map λe=>((Sum.inr e.1:Key),HS)
def rsOf(es:List Ent):Rs Str:=es.map λe=>(e.1,e.2.1)
def zg8{es:List Ent}(nd:(es.map (·.1)).Nodup){e:Ent}(h:e∈es):valV (es.map λe=>((Sum.inr e.1:Key),HS)) (Sum.inr e.1)=some (.ref e.2.2):=by
 induction es with
 |nil=>cases h
 |cons a t ih=>
  rw[Ql,Ze]at nd;rw[Ql];rcases Qi.mp h with z|z
  ·subst z;exact zc8 rfl
  rw[zbz]
  ·exact ih nd.2 z
  intro q;exact nd.1 (by rw[Kg q];exact Qj.mpr ⟨e,z,rfl⟩)
def val_out{es:List Ent}{x:Str}(h:x∉es.map (·.1)):valV (es.map λe=>((Sum.inr e.1:Key),HS)) (Sum.inr x)=none:=by
 induction es with
 |nil=>rfl
 |cons a t ih=>
  rw[Ql,Qi,not_or]at h;rw[Ql,zbz]
  ·exact ih h.2
  intro q;exact h.1 (Kg q).symm
def zb5(nd:(es.map (·.1)).Nodup)(h:e∈es):ZL e.1=e.2.1:=by
 unfold row rsOf;induction es with
 |nil=>cases h
 |cons a t ih=>
  rw[Ql,Ze]at nd;rw[Ql];rcases Qi.mp h with z|z
  ·subst z;rw[Ww DI];rfl
  rw[Um]
  ·exact ih nd.2 z
  intro q;exact nd.1 (by rw[of_decide_eq_true q];exact Qj.mpr ⟨e,z,rfl⟩)
def put_new{es:List Ent}{x:Str}{r:Nj}{a:Nc}(h:x∉es.map (·.1)):putK (eWV es) (Sum.inr x) Gq=(es++[(x,r,a)]).map λe=>((Sum.inr e.1:Key),HS):=by rw[zf4 _ (val_out h),Qs];rfl
def cut_to{xs:List V}{k:Nat}(h:k≤xs.length):NV none (some (k:Int))=xs.take k:=by
 unfold cutV;have e1:QR 0 none=0:=rfl;have e2:QR xs.length (some (k:Int))=k:=by rw[HT.sIx_nat];lia
 rw[e1,e2];simp
def zey{xs:List V}{k:Nat}(h:k≤xs.length):NV (some (k:Int)) none=xs.drop k:=by
 unfold cutV;have e1:QR 0 (some (k:Int))=k:=by rw[HT.sIx_nat];lia
 have e2:QR xs.length none=xs.length:=rfl;rw[e1,e2,Qt (by rw[Yw];exact Qd _)]
def idx_lt{zs:Nj}{x:Str}(h:x∈zs):zs.idxOf x<zs.length:=Je.mpr h
def index_of{zs:Nj}{x:Str}(h:x∈zs):(∃ z,(zs.map V.str)[zs.idxOf x]?=some z∧eqV z (GH x)=true)∧∀ m z,m < zs.idxOf x→(zs.map V.str)[m]?=some z→eqV z (GH x)=false:=by
 refine⟨⟨GH x,?_,beq_self_eq_true x⟩,λm z hm e=>?_⟩
 ·rw[Qr,Qb (idx_lt h),Uv];rfl
 rw [Qr]at e;have br:m<zs.length:=Wq hm (idx_lt h);rw[Qb br]at e;cases e;show(zs[m]==x)=false;refine beq_eq_false_iff_ne.mpr λq=>?_;have aD:∀(l:Nj) (j:Nat) (hj:j<l.length),l[j]=x→l.idxOf x≤j:=by
  intro l;induction l with
  |nil=>intro j hj;simp at hj
  | cons a t ih=>
   intro j hj e;rw[List.idxOf_cons];cases j with
   |zero=>have e':a=x:=e;rw[e'];simp
   |succ i=>
    have:=ih i (DJ hj) (DJ e);by_cases h:a=x
    ·rw[h];simp
    have hb:(a == x)=false:=beq_eq_false_iff_ne.mpr h;rw[hb];simp;assumption
 have:=aD zs m br q;lia
def zc5(zs:Nj):(zs.map V.str).all zfk=true:=by rw[Jz];intro v hv;obtain⟨x,_,rfl⟩:=Qj.mp hv;rfl
end K21
namespace Wb
section
variable{α:Type}[DecidableEq α]
def itr(rs:Rs α)(s:α×α):Nat→α×α
 |0=>s
 |n+1=>stp rs (YU s n)
def IsSt(rs:Rs α)(s:α×α):Prop:=∃p∈rs,p.1=s.2∧s.1∈p.2
def allSt(rs:Rs α):List (α×α):=rs.flatMap λp=>p.2.map λx=>(x,p.1)
def mem_allSt{rs:Rs α}{s:α×α}:s∈allSt rs↔KC s:=by
 unfold allSt IsSt;rw[List.mem_flatMap];constructor
 ·rintro⟨p,hp,h⟩;obtain⟨x,hx,rfl⟩:=Qj.mp h;exact⟨p,hp,rfl,hx⟩
 rintro⟨p,hp,e,hx⟩;exact⟨p,hp,Qj.mpr ⟨s.1,hx,by rw[e]⟩⟩
def Clo(rs:Rs α):Prop:=∀s,KC s→KC (stp rs s)
theorem itr_st{rs:Rs α}(c:Clo rs){s:α×α}(h:KC s):∀n,KC (YU s n)
 |0=>h
 |n+1=>c _ (itr_st c h n)
def run(rs:Rs α)(s:α×α)(n:Nat):List (α×α):=(GY n).map (YU s)
def run_succ(rs:Rs α)(s:α×α)(n:Nat):Vu (n+1)=Vu n++[YU s n]:=by unfold run;rw[List.range_succ,List.map_append];rfl
def zgm{l m:List (α×α)}(nd:l.Nodup)(h:∀x∈l,x∈m):l.length≤m.length:=by
 induction l generalizing m with
 |nil=>exact Zn _
 |cons a t ih=>rw[Ze]at nd;have ha:=h a Qe;have:=ih (m:=m.erase a) nd.2 λx hx=>(List.mem_erase_of_ne (λe=>nd.1 (by rw[←e];exact hx))).mpr (h x (WD hx));rw[List.length_erase_of_mem ha]at this;have hp:0<m.length:=Ul ha;rw[Zc];lia
end
end Wb
namespace K21
open PySem L2 Wb
section
variable{P:Nk}{w:Nl}{K:Nb}{mg:Ng}{base:Np}
def zbd.keep{H H':Hp}{as:Nn}{qs:Nr}(r:N3 as qs)(k:∀b x y,H b=some (.tup [x,y])→H' b=some (.tup [x,y])):zbd H' as qs:=by
 induction r with
 |nil=>exact .nil
 |cons h t ih=>exact .cons (k _ _ _ h) ih
end
end K21
namespace Wb
section
variable{α:Type}[DecidableEq α]
structure Gen(G:Rs α→Prop):Prop where
 clo:∀rs,G rs→Clo rs
 nd:∀rs,G rs→(rs.map (·.1)).Nodup
 sub:∀rs,G rs→∀p∈rs,p.2.Nodup∧∀x∈p.2,x∈rs.map (·.1)
 sy:∀rs,G rs→∀p∈rs,∀x∈p.2,p.1∈JR x
 nil:G []
 new:∀rs x,G rs→x∉rs.map (·.1)→G (rs++[(x,[])])
 leaf:∀rs x p c,G rs→x∉rs.map (·.1)→p∈rs→(∀y,c=some y→y∈p.2)→(c=none→p.2=[])→G (zb0 (zb0 (rs++[(x,[])]) p.1 (N4 c x)) x [p.1])
 tie:∀rs c p n,G rs→p∈rs→c∈p.2→(YU (c,p.1) n).2≠p.1→(YU (c,p.1) n).2∉p.2 →
  G (zb0 (zb0 rs p.1 (N4 (FX c) (YU (c,p.1) n).2)) (YU (c,p.1) n).2 (ins (JR (YU (c,p.1) n).2) (some (YU (c,p.1) n).1) p.1))
def zcn{l m:List α}(nd:l.Nodup)(h:∀x∈l,x∈m):l.length≤m.length:=by
 induction l generalizing m with
 |nil=>exact Zn _
 |cons a t ih=>rw[Ze]at nd;have ha:=h a Qe;have:=ih (m:=m.erase a) nd.2 λx hx=>(List.mem_erase_of_ne (λe=>nd.1 (by rw[←e];exact hx))).mpr (h x (WD hx));rw[List.length_erase_of_mem ha]at this;have hp:0<m.length:=Ul ha;rw[Zc];lia
def Gen.rows{G:Rs α→Prop}(g:Gen G){rs:Rs α}(h:G rs):∀p∈rs,p.2.length≤rs.length:=λp hp=>by obtain⟨a,b⟩:=g.sub rs h p hp;have:=zcn a b;rwa[Qa]at this
def Gen.steps{G:Rs α→Prop}(g:Gen G){rs:Rs α}(h:G rs)(hl:rs.length≤40):(allSt rs).length≤1600:=by
 have key:∀(l:Rs α) (n:Nat),(∀p∈l,p.2.length≤n)→(allSt l).length≤l.length*n:=by
  intro l n;induction l with
  |nil=>intro _;simp[allSt]
  |cons a t ih=>intro hh;have h1:=ih λp hp=>hh p (WD hp);have h2:=hh a Qe;unfold allSt at h1 ⊢;rw[List.flatMap_cons,Qk,Qa,Zc,Nat.succ_mul];lia
 have:=key rs rs.length (g.rows h);have:rs.length*rs.length≤40*40:=Nat.mul_le_mul hl hl;exact Zd ‹_› ‹_›
end
end Wb
namespace K21
open PySem L2 Wb
def pot_ne{H:Hp}{p a:Nc}{b m:Int}{zs:Nj}(h:Du m)(ha:H a=some (DX Gj)):a≠p:=zbf ha h.1 (by
 intro z;have z':zs.map V.str=[GG b,GG m]:=by injection z
 cases zs with
 |nil=>cases z'
 |cons x t=>rw[Ql]at z';injection z' with z1 _;cases z1)
def Pot.keep{H H':Hp}{p:Nc}{b m:Int}{xs:Nn}(h:Du m)(k:W3 H')(hp:p∉xs):Pot H' p b m:=⟨k _ _ h.1 hp,h.2⟩
def zaz{H H':Hp}{p:Nc}(h:∀c o,H c=some o→c≠p→H' c=some o):Keep [p] H H':=λc o e n=>h c o e λz=>n (by rw[z];exact Qc.mpr rfl)
section
variable{P:Nk}{w:Nl}{K:Nb}{mg:Ng}{base:Np}
def zfi{x:Str}{zs:Nj}:inV (GH x) Gj=decide (x∈zs):=by
 unfold inV;rw[Wp,Xr,decide_eq_true_iff];constructor
 ·rintro⟨v,hv,e⟩;obtain⟨y,hy,rfl⟩:=Qj.mp hv;have e':y=x:=eq_of_beq e;rw[←e'];exact hy
 intro h;exact⟨GH x,Qj.mpr ⟨x,h,rfl⟩,beq_self_eq_true x⟩
def za4{c:Bool}{A B:Prop}(h:c=false)(b:B):if c=true then A else B:=by rw[h];exact iteF b
def zbm{c:Bool}{A B:Prop}(h:c=true)(a:A):if c=true then A else B:=by rw[h];exact iteT a
def zgq(es:List Ent):((eWV es).map λp=>kV p.1)=(es.map (·.1)).map V.str:=by rw[Zq,Zq];rfl
def zc7(z:Str):Prop:=1≤z.length∧z.length≤8∧∀c∈z.cps.toList,97≤c∧c≤122
def nodup_of_map{α β:Type}{f:α→β}{l:List α}(h:(l.map f).Nodup):l.Nodup:=by
 induction l with
 |nil=>exact Yh
 |cons a t ih=>rw[Ql,Ze]at h;exact Ze.mpr ⟨λz=>h.1 (Qj.mpr ⟨a,z,rfl⟩),ih h.2⟩
def zic{α β:Type}{f:α→β}{l:List α}(nd:l.Nodup)(h:∀a∈l,∀b∈l,f a=f b→a=b):(l.map f).Nodup:=by
 induction l with
 |nil=>exact Yh
 |cons a t ih=>rw[Ze]at nd;rw[Ql,Ze];refine⟨λz=>?_,ih nd.2 λx hx y hy=>h x (WD hx) y (WD hy)⟩;obtain⟨b,hb,e⟩:=Qj.mp z;exact nd.1 (h b (WD hb) a Qe e▸hb)
def zgl{β:Type}{f:Nat→β}{n:Nat}(h:∀a,a<n→∀b,b<n→f a=f b→a=b):((GY n).map f).Nodup:=
 zic Xp λa ha b hb=>h a (Yi.mp ha) b (Yi.mp hb)
def zdo:Str:= "abcdefghijklmnopqrstuvwxyz"
def letters_at:∀i:Fin 26,zdo.cps.toList[i.1]?=some (97+i.1):=by decide+kernel
def zd6:zdo.length≤sizeLine:=by decide+kernel
def letter_at{j:Int}(h0:0≤j)(h1:j<26):XU j=some (97+j.toNat):=by obtain⟨n,rfl⟩:=Zg h0;exact zau (letters_at ⟨n,by exact zar8 ‹_›⟩)
def zas(k:W3 H')(h:H' l=none)(hx:l∉xs):H l=none:=by
 cases z:H l with
 |none=>rfl
 |some o=>rw[k _ _ z hx]at h;cases h
end
end K21
namespace K21
open PySem L2 Wb Tm
def zes(a b:Str)(h:leS a b)(g:leS b a):a=b:=by have e:a.cps.toList=b.cps.toList:=List.le_antisymm (List.not_lt.mp h) (List.not_lt.mp g);cases a;cases b;congr 1;exact Xv.mp e
def leP(p q:Str×Str):Prop:=(JQ strO).kle (p.1.cps.toList,p.2.cps.toList) (q.1.cps.toList,q.2.cps.toList)
end K21
namespace K21
open PySem L2 Wb
abbrev sWeb:Stmt:=top 21
structure TAt(H:Hp)(d:Nc)(es:List Ent):Prop where
 dc:H d=some FV
 ro:∀e∈es,H e.2.2=some (.tup Gc)
 nd:(es.map (·.1)).Nodup
def TAt.keep(r:TAt H d es)(k:W3 H')(hd:d∉xs)(h:∀e∈es,e.2.2∉xs):TAt H' d es:=⟨k _ _ r.dc hd,λe he=>k _ _ (r.ro e he) (h e he),r.nd⟩
def zgc(h:ws.Perm (as.map V.ref)):∃bM:List Addr,ws=bM.map V.ref∧bM.Perm as:=by
 have key:∀ws:List V,(∀v∈ws,∃a,v=V.ref a)→∃bM:List Addr,ws=bM.map V.ref:=by
  intro ws;induction ws with
  |nil=>intro _;exact⟨[],rfl⟩
  |cons v t ih=>intro hh;obtain⟨a,rfl⟩:=hh v Qe;obtain⟨bM,rfl⟩:=ih λv hv=>hh v (WD hv);exact⟨a::bM,rfl⟩
 obtain⟨bM,rfl⟩:=key ws λv hv=>by obtain⟨a,_,rfl⟩:=Qj.mp (h.mem_iff.mp hv);exact⟨a,rfl⟩
 refine⟨bM,rfl,?_⟩;have:=h.map (λv:V=>match v with | .ref a=>a|_=>0);rw[Zq,Zq]at this;have e:∀l:List Addr,l.map ((λv:V=>match v with | .ref a=>a|_=>0)∘V.ref)=l:=λl=>List.map_id l;rw[e,e]at this;exact this
def za1:∀{as:List α} {bs:List β},WQ as bs→∀{i:Nat} (hi:i<as.length),∃az:i<bs.length,R as[i] bs[i]:=by
 intro as bs r;induction r with
 |nil=>intro i hi;simp at hi
 |cons h t ih=>
  intro i hi;cases i with
  |zero=>exact⟨DI,h⟩
  |succ j=>obtain⟨a,b⟩:=ih (i:=j) (DJ hi);exact⟨DJ a,b⟩
end K21
namespace L2
open PySem
def ps_no:X3 st (λ_ _ _=>False):=λ_ _ _ _ _ _ h=>h.elim
def pe_tyN(hg:VR x)(hm:X.mg x=none)(hv:bootBuiltins x=some (.type T))(hn:x ≠ "__name__" :=by decide)(cX:Fu=false:=by decide):Z9 (HH pos) (tC (.ty T)):=by intro a6 s σ H Q I h;exact JN hv ⟨.ty T,H,I,rfl,h⟩ hn cX
end L2
namespace K21
open PySem L2 Wb
abbrev zd3:Stmt:=top 15
inductive IspIsName(vs:List V)(H:Hp)(Q:VK):Prop
 |mk(z:Str)(h0:vs=[.str z])(h1:zc7 z)(h2:∀H',Keep [] H H'→Q (.bl true) H')
def spIsName:Sp:=λvs H Q _=>IspIsName vs H Q
abbrev zez:Scope:=scOf (KD (aOf 1 (eOf (sAt zd3 1))))
def csIsName_k:zez.kind=.function:=by rfl
def csIsName_c:∀y∈zez.names,y.2≠.cell:=by decide+kernel
def csIsName_n:∀y∈zez.names,y.2=.local→zez.names.lookup y.1=some .local:=by decide+kernel
def csIsName_f:∀y∈zez.names,y.2=.free→(zag zd3).names.lookup y.1=some .cell∨(zag zd3).names.lookup y.1=some .free:=by decide+kernel
def nd1:(["sign"]:List Str).Nodup:=by decide+kernel
section
variable{P:Nk}{w:Nl}{K:Nb}{mg:Ng}{base:Np}
def scIsName:zaw ["thing"] ["thing"] (zag zd3):=fsk
def ok_isname(F:Z2 "is_name" "is_name" zd3 f fd)(hML:mg "MOST_LETTERS" = some (Rj 8 tk))(cA:mg "isinstance" = none)(qf:mg "str" = none)(a9:mg "len" = none)(cC:mg "all" = none):ZB 1 f fd ["thing"] spIsName:=by
 refine F.okL scIsName DP;obtain⟨z,rfl,hz,k⟩:=h;have hu:=zco hr;have aR  :=sizeLine_eq;refine⟨_,zad (zcg (pt_not (pt_val (zaj call_isi_str D4 cA Wg (ZP (FY (pe_tyN (T:= "str") rfl qf PyProof.Rows.boot_str)))))) (zah ps_no) za9)
  (zah (zbo (pe_and (pe_chain op_le op_le zai (Mo D4 a9 Zl Hu) (zfc (v:=.int 8) rfl hML ⟨tk,rfl⟩))
   (pe_one (zaj (call_all rfl) D4 cC PyProof.Rows.boot_all (zaa (zia (M:=["sign"]) (ix:=[none]) ⟨csIsName_k,csIsName_c,csIsName_n,csIsName_f,rfl,by decide+kernel,λj i x h1 h2=>by
      match j,h1,h2 with
      |0,_,h2=>cases h2
      |n+1,h1,_=>cases h1⟩ rfl (pi_str Gu) (λC a6 ex s H=>BL nd1)
      (λC a6 ex s H=>zdb) (λC a6 ex s H=>pe_chain op_le_str op_le_str zel Gu zel)) zae)))))),?_⟩
 obtain⟨nZ,nY,jR⟩:=hz;have hz1':1≤z.cps.size:=nZ;have hz2':z.cps.size≤8:=nY;refine⟨RV,z,rfl,RV,U3 ⟨RV,z,rfl,(by show z.cps.size≤sizeLine;lia),_,RV,rfl,RV,zbm (Gv (by show(1:Int)≤(z.cps.size:Int);exact zar9 ‹_›)) ⟨_,RV,rfl,RV,zbm (Gv (by show(z.cps.size:Int)≤8;lia)) ?_⟩⟩⟩;have asc:z.cps.all (· < 128)=true:=by rw[Array.all_eq_true];intro i hi;have:=jR z.cps[i] (by rw[Array.mem_toList_iff];exact Array.getElem_mem hi);exact decide_eq_true DH
 refine⟨RV,z,rfl,asc,λi m ys τ H1=>Aj5 (H1=H) (m=z.cps.size-i) (i≤z.cps.size) (ys=List.replicate i RD) (Ex1 λx0=>τ=[x0]),⟨_,rfl,rfl,HY,rfl,none,rfl⟩,?_⟩;rintro i m ys τ H1 ⟨rfl,rfl,hi,rfl,x0,rfl⟩;by_cases aa:i<z.cps.size
 ·refine .inr ⟨aa,by rw[List.length_replicate];lia,?_⟩;rintro y H' ⟨rfl,c,hc,rfl⟩;obtain⟨h1,h2⟩:=jR c (by rw[Array.mem_toList_iff];exact Array.mem_of_getElem? hc);have l1:(!decide ((⟨#[c]⟩:Str).cps.toList<("a" : Str).cps.toList))=true:=by
   rw[Yr,decide_eq_false_iff_not,show("a" : Str).cps.toList=[97] from by decide+kernel];show ¬[c]<[97];intro h;have:=List.cons_lt_cons_iff.mp h;rcases this with q|⟨_,q⟩
   ·exact zar10 ‹_› ‹_›
   exact Wm _ q
  have l2:(!decide (("z" : Str).cps.toList<(⟨#[c]⟩:Str).cps.toList))=true:=by
   rw[Yr,decide_eq_false_iff_not,show("z" : Str).cps.toList=[122] from by decide+kernel];show ¬[122]<[c];intro h;have:=List.cons_lt_cons_iff.mp h;rcases this with q|⟨_,q⟩
   ·exact zar10 ‹_› ‹_›
   exact Wm _ q
  refine⟨RV,_,RV,rfl,RV,zbm l1 ⟨_,RV,rfl,_,?_,rfl,rfl,aa,?_,RV⟩⟩
  ·exact zar1 ‹_›
  rw[l2,List.replicate_succ']
 have e:i=z.cps.size:=by exact zar3 ‹_› ‹_›
 subst e;refine .inl ⟨D9,λD hD=>⟨D,VN true,rfl,DW (by rw[zac,List.map_replicate]),?_⟩⟩;have:(VN true).all id=true:=by rw[Jz];intro b hb;exact(List.mem_replicate.mp hb).2
 rw[this];exact k _ (D0 hD)
end
end K21
namespace L2
open PySem
def lc_at(T:St→Prop)(ys:List V)(hl:ys.length=xs.length)(ha:W0 xs)(hn:xs.length≤sizeLine)(h0:T τ)(hs:∀(i:Nat) (hi:i<xs.length) (dD:i<ys.length),∀τ,T τ→∀k:V→St→Hp→Prop,(∀τ2,T τ2→k ys[i] τ2 H)→g xs[i] τ H λ τ2 H2=>te τ2 H2 λy H4=>k y τ2 H4)(q:∀D,H D=none→Q GJ (Hh D ys)):VO H:=by
 refine⟨λi m zs τ H1=>Aj5 (H1=H) (T τ) (m=xs.length-i) (i≤xs.length) (zs=ys.take i),⟨_,rfl,h0,rfl,HY,rfl⟩,?_⟩;rintro i m zs τ H1 ⟨rfl,ht,rfl,hi,rfl⟩;by_cases aa:i<xs.length
 ·refine .inr ⟨⟨xs,xs[i],ha,Qb aa⟩,by rw[Zi];lia,?_⟩;rintro x H' ⟨rfl,hx⟩;have cc:=hx xs ha;rw[Qb aa]at cc;have iw:xs[i]=x:=Qw cc;rw[←iw];exact hs i aa (by exact zar6 ‹_› ‹_›) τ ht (λy τ2 H4=>∃m',m'<xs.length-i∧Aj5 (H4=H') (T τ2) (m'=xs.length-Fj) (i+1≤xs.length) (ys.take i++[y]=ys.take Fj)) λ τ2 h2=>⟨_,FE,rfl,h2,rfl,aa,by rw[Qo (by exact zar6 ‹_› ‹_›:i<ys.length)]⟩
 have e:i=xs.length:=by exact zar3 ‹_› ‹_›
 refine .inl ⟨⟨xs,ha,DH⟩,λD hD=>?_⟩;rw[Qt DH];exact q D hD
end L2
namespace K21
open PySem L2 Wb
structure RwAt(H:Hp)(l:Nc)(as:Nn)(es:List Ent):Prop where
 ls:H l=some Gk
 ts:Paired (λa (e:Ent)=>H a=some (.tup [.str e.1,.ref e.2.2])) as es
 ro:∀e∈es,H e.2.2=some (DX Gc)
def RwAt.keep(r:RwAt H l as es)(k:Keep [] H H'):Mp l as es:=
 ⟨k _ _ r.ls DI,Paired.imp' (λ_ _ h=>k _ _ h DI) r.ts,λe he=>k _ _ (r.ro e he) DI⟩
abbrev zf1:Stmt:=top 16
abbrev zdy:Stmt:=top 17
abbrev zh4:Stmt:=top 18
inductive zhp(vs:List V)(H:Hp)(Q:VK):Prop
 |mk(l:Nc)(as:Nn)(es:List Ent)(h0:vs=[.ref l])(h1:RwAt H l as es)(h2:(∀e∈es,e.2.1.length≤100∧zc7 e.1∧∀x∈e.2.1,zc7 x))(h3:∀H',Keep [] H H'→Q .non H')
def spNoNames:Sp:=λvs H Q _=>zhp vs H Q
inductive IspTwice(vs:List V)(H:Hp)(Q:VK):Prop
 |mk(l:Nc)(as:Nn)(es:List Ent)(h0:vs=[.ref l])(h1:RwAt H l as es)(h2:es.length≤60)(h3:(es.map (·.1)).Nodup)(h4:(∀e∈es,e.2.1.length≤100∧e.2.1.Nodup))(h5:∀H',Keep [] H H'→Q .non H')
def spTwice:Sp:=λvs H Q _=>IspTwice vs H Q
inductive IspOneWay(vs:List V)(H:Hp)(Q:VK):Prop
 |mk(l:Nc)(as:Nn)(es:List Ent)(h0:vs=[.ref l])(h1:RwAt H l as es)(h2:(es.map (·.1)).Nodup)(h3:(∀e∈es,e.1∉e.2.1∧∀x∈e.2.1,∃e'∈es,e'.1=x∧e.1∈e'.2.1))(h4:∀H',Keep [] H H'→Q .non H')
def spOneWay:Sp:=λvs H Q _=>IspOneWay vs H Q
section
variable{P:Nk}{w:Nl}{K:Nb}{mg:Ng}{base:Np}
def zei:zaw ["rows", "place", "around", "thing"] ["rows"] (zag zf1):=fsk
def ok_nonames(F:Z2 "refuse_no_names" "refuse_no_names" zf1 f fd)(FN:Z2 "is_name" "is_name" zd3 fn fdn)(bN:Z8 fdn ["thing"] [])(mN:mg "is_name" = some (DK fn))(GN:ZB 1 fn fdn ["thing"] spIsName):ZB 2 f fd ["rows"] spNoNames:=by
 refine F.okL zei DP;obtain⟨l,as,es,rfl,R,hok,k⟩:=h;have hu:=zco hr;have aR  :=sizeLine_eq;refine⟨_,zah (QE (za2 Gu) (Vv (zbg (zbe 1 zei.nd) (zbg (N5 zei.nd) zdm)))
  (zah (QE (za2 (BX (za6 Ho) Gy)) (N6 zei.nd)
   (zah (zcg (pt_not (pt_val (zan GN hr rfl mN FN.kp bN .nil za3 Rv))) (zah ps_no) za9))))),?_⟩
 refine⟨RV,l,rfl,⟨_,SqL.of R.ls⟩,zb3 (xs:=as.map V.ref) (λi σ H'=>Aj2 (Keep [] H H') (Ex3 λx1 x2 x3=>σ=[DQ l,x1,x2,x3])) ⟨Keep.refl,none,none,none,rfl⟩ (λi σ H' _ hh=>SqL.of (hh.1 _ _ R.ls DI)) ?_ ?_⟩
 ·rintro i y σ H1 hx ⟨k1,x1,x2,x3,rfl⟩;have hi:i<as.length:=by have:=(Zk.mp hx).1;rwa[Qa]at this
  have iu:y=.ref as[i]:=by rw[Qr,Qb hi]at hx;exact(Qw hx).symm
  subst iu;obtain⟨az,cZ⟩:=za1 R.ts hi;obtain⟨gv,bq,bi⟩:=hok _ (Qm az);have bn:=k1 _ _ (R.ro _ (Qm az)) DI;refine⟨as[i],RV,HQ (k1 _ _ cZ DI),rfl,_,RV,_,RV,rfl,RV,(DO 1),λq hq=>?_⟩;have nq:es[i].2.2≠q:=zab bn hq;refine⟨RV,q,es[i].2.2,_,RV,rfl,zac,(DY nq bn),(by rw[Qa];show 1+_≤sizeLine;lia),λq2 cD=>?_⟩;have k2:Keep [] H (upd (QG q (.lst [.str es[i].1])) q2 (DX ([V.str es[i].1]++es[i].2.1.map V.str))):=(k1.trans (D0 hq)).trans (D0 cD);have iP:(upd (QG q (.lst [.str es[i].1])) q2 (DX ([V.str es[i].1]++es[i].2.1.map V.str))) q2=some (DX ((es[i].1::es[i].2.1).map V.str)):=zac;generalize upd (QG q (.lst [.str es[i].1])) q2 (DX ([V.str es[i].1]++es[i].2.1.map V.str))=H2 at k2 iP;refine⟨q2,rfl,⟨_,DW iP⟩,zb3 (xs:=(es[i].1::es[i].2.1).map V.str) (λj σ H'=>Aj2 (Keep [] H2 H') (Ex3 λx1 x2 x3=>σ=[DQ l,x1,x2,x3])) ⟨Keep.refl,_,_,_,rfl⟩ (λj σ H' _ hh=>SqL.of (hh.1 _ _ iP DI)) ?_ ?_⟩
  ·rintro j y σ H3 hy ⟨k3,y1,y2,y3,rfl⟩;obtain⟨z,hz,rfl⟩:=Qj.mp (Yy hy);have de:zc7 z:=by
    rcases Qi.mp hz with e|e
    ·rw[e];exact bq
    exact bi z e
   exact⟨RV,z,rfl,de,λH4 k4=>⟨_,rfl,U3 ⟨Rf k4,_,_,RV⟩⟩⟩
  rintro σ H3 ⟨k3,y1,y2,y3,rfl⟩;exact⟨k2.trans k3,_,_,RV⟩
 rintro σ H1 ⟨k1,x1,x2,x3,rfl⟩;exact k H1 k1
abbrev csTwA:Scope:=scOf (eOf (sAt zdy 0))
abbrev csTwB:Scope:=scOf (aOf 1 (eOf (sAt zdy 1)))
def csTwA_k:csTwA.kind=.function:=by rfl
def csTwA_c:∀y∈csTwA.names,y.2≠.cell:=by decide+kernel
def csTwA_n:∀y∈csTwA.names,y.2=.local→csTwA.names.lookup y.1=some .local:=by decide+kernel
def csTwA_f:∀y∈csTwA.names,y.2=.free→(zag zdy).names.lookup y.1=some .cell∨(zag zdy).names.lookup y.1=some .free:=by decide+kernel
def csTwB_k:csTwB.kind=.function:=by rfl
def csTwB_c:∀y∈csTwB.names,y.2≠.cell:=by decide+kernel
def csTwB_n:∀y∈csTwB.names,y.2=.local→csTwB.names.lookup y.1=some .local:=by decide+kernel
def csTwB_f:∀y∈csTwB.names,y.2=.free→(zag zdy).names.lookup y.1=some .cell∨(zag zdy).names.lookup y.1=some .free:=by decide+kernel
def ndPA:(["place", "around"]:List Str).Nodup:=by decide+kernel
def scTwice:zaw ["rows", "places", "names"] ["rows"] (zag zdy):=fsk
def noB(h1:sc.kind=.function)(h2:∀y∈sc.names,y.2≠.cell)(h3:∀y∈sc.names,y.2=.local→sc.names.lookup y.1=some .local)(h4:∀y∈sc.names,y.2=.free→X.env.scope.names.lookup y.1=some .cell∨X.env.scope.names.lookup y.1=some .free)(h5:n=M.length)(h6:M.Nodup):Y7 (List.replicate n none):=⟨h1,h2,h3,h4,by rw[List.length_replicate,h5],h6,λj i x _ h=>by have:=Yy h;have:=(List.mem_replicate.mp this).2;cases this⟩
def zh8(hK:X.K=K)(hc:X.calm=true)(h:PGs X es t)(hn:(Rz es).length=n:=by rfl)(aI:(Rz es).findIdx? (·.1)=none:=by rfl):Mc (gTup K n t):=hK▸pg_tup hc h hn aI
def ok_twice(F:Z2 "refuse_twice" "refuse_twice" zdy f fd)(a9:mg "len" = none)(qg:mg "set" = none):ZB 1 f fd ["rows"] spTwice:=by
 refine F.okL scTwice DP;obtain⟨l,as,es,rfl,R,gC,aS,hok,k⟩:=h;have hu:=zco hr;have aR  :=sizeLine_eq;refine⟨_,zad (ps_lc (i:=1) (M:=["place", "around"]) (ix:=[none,none]) scTwice.nd rfl rfl (noB (n:=2) csTwA_k csTwA_c csTwA_n csTwA_f rfl ndPA) rfl (za2 Gu)
   (λC a6 ex s H=>zh8 (K:=K) (n:=2) rfl rfl (VW (KP zdm)))
   (λC a6 ex s H=>zdb) (λC a6 ex s H=>pv 0) rfl)
  (zah (QE (za2 (BX (za6 Ho) (zia (M:=["place", "around"]) (ix:=[none,none]) (noB (n:=2) csTwB_k csTwB_c csTwB_n csTwB_f rfl ndPA) rfl (za2 Gu)
   (λC a6 ex s H=>zh8 (K:=K) (n:=2) rfl rfl (VW (KP zdm)))
   (λC a6 ex s H=>zdb) (λC a6 ex s H=>pv 1)))) (N5 scTwice.nd)
   (zah (zcg (zav op_lt (zaj zir D4 a9 Zl (FY (zc2 (zim rfl) D4 qg PyProof.Rows.boot_set (Z1 zae))))
    (QY D4 a9 Zl Hi) Hl) (zah ps_no) za9)))),?_⟩
 have cG:as.length=es.length:=Yc R.ts;refine⟨RV,l,rfl,⟨_,SqL.of R.ls⟩,lc_at (xs:=as.map V.ref) (λ τ=>∃x0 x1,τ=[x0,x1]) ((es.map (·.1)).map V.str) (by rw[Qa,Qa,Qa,cG]) (SqL.of R.ls) Fo ⟨none,none,rfl⟩ ?_ (λD hD=>?_)⟩
 ·rintro i hi dD τ ⟨x0,x1,rfl⟩ kk hk;rw[Qa]at hi;obtain⟨az,cZ⟩:=za1 R.ts hi;rw[Zr];refine⟨as[i],RV,HQ cZ,rfl,_,RV,_,RV,rfl,RV,?_⟩;have e:((es.map (·.1)).map V.str)[i]=V.str es[i].1:=by rw[Zr,Zr]
  rw[e]at hk;exact hk _ ⟨_,_,rfl⟩
 have k1:Keep [] H (Hh D ((es.map (·.1)).map V.str)):=Keep.new hD;have hD1:(Hh D ((es.map (·.1)).map V.str)) D=some (DX ((es.map (·.1)).map V.str)):=zac;generalize ZQ D (DX ((es.map (·.1)).map V.str))=H1 at k1 hD1;have R1:=R.keep k1;refine⟨RV,(DO 1),λq hq=>?_⟩;have k2:Keep [] H1 (QG q (.lst [GJ])):=Keep.new hq;have cD:(QG q (.lst [GJ])) q=some (.lst [GJ]):=zac;generalize QG q (.lst [GJ])=H2 at k2 cD;have R2:=R1.keep k2;refine⟨RV,l,rfl,⟨_,SqL.of R2.ls⟩,lc_at (xs:=as.map V.ref) (λ τ=>∃x0 x1,τ=[x0,x1]) (es.map λe=>V.ref e.2.2) (by rw[Qa,Qa,cG]) (SqL.of R2.ls) Fo ⟨none,none,rfl⟩ ?_ (λD2 n8=>?_)⟩
 ·rintro i hi dD τ ⟨x0,x1,rfl⟩ kk hk;rw[Qa]at hi;obtain⟨az,cZ⟩:=za1 R2.ts hi;rw[Zr];refine⟨as[i],RV,HQ cZ,rfl,_,RV,_,RV,rfl,RV,?_⟩;rw[Zr]at hk;exact hk _ ⟨_,_,rfl⟩
 have k3:Keep [] H2 (QW D2 (.lst (es.map λe=>V.ref e.2.2))):=Keep.new n8;have gK:(QW D2 (.lst (es.map λe=>V.ref e.2.2))) D2=some (.lst (es.map λe=>V.ref e.2.2)):=zac;generalize QW D2 (.lst (es.map λe=>V.ref e.2.2))=H3 at k3 gK;refine⟨q,D2,_,RV,rfl,k3 _ _ cD DI,gK,(by rw[Qa];show 1+_≤sizeLine;lia),λq4 om=>?_⟩;have k4:Keep [] H3 (QN q4 (.lst ([V.ref D]++es.map λe=>V.ref e.2.2))):=Keep.new om;have iO:(QN q4 (.lst ([V.ref D]++es.map λe=>V.ref e.2.2))) q4=some (.lst ([V.ref D]++es.map λe=>V.ref e.2.2)):=zac;generalize QN q4 (.lst ([V.ref D]++es.map λe=>V.ref e.2.2))=H4 at k4 iO;have cI:Keep [] H H4:=((k1.trans k2).trans k3).trans k4;refine⟨q4,rfl,⟨_,DW iO⟩,zb3 (xs:=[V.ref D]++es.map λe=>V.ref e.2.2) (λi σ H'=>Aj2 (Keep [] H4 H') (Ex2 λx1 x2=>σ=[DQ l,x1,x2])) ⟨Keep.refl,_,_,rfl⟩ (λi σ H' _ hh=>SqL.of (hh.1 _ _ iO DI)) ?_ ?_⟩
 ·rintro i y σ H5 hy ⟨k5,x1,x2,rfl⟩;obtain⟨a,zs,rfl,ha,de,eF⟩:∃(a:Nc) (zs:Nj),y=V.ref a∧H5 a=some (DX Gj)∧zs.Nodup∧zs.length≤100:=by
   rcases Qg.mp (Yy hy) with z|z
   ·refine⟨D,FG,Qc.mp z,?_,aS,by rw[Qa];exact Zd gC DL⟩;exact k5 _ _ (k4 _ _ (k3 _ _ (k2 _ _ hD1 DI) DI) DI) DI
   obtain⟨e,he,rfl⟩:=Qj.mp z;exact⟨e.2.2,e.2.1,rfl,k5 _ _ (cI _ _ (R.ro e he) DI) DI,(hok e he).2,(hok e he).1⟩
  refine⟨RV,a,zs,rfl,DW ha,de,DH,λt ht=>?_⟩;have pE:a≠t:=zab ha ht;exact⟨t,zs,rfl,zac,DH,RV,a,RV,Ht (by rw[zaf pE];exact ha),_,RV,rfl,RV,za4 (Gf Fo) ⟨k5.trans (D0 ht),_,RV⟩⟩
 rintro σ H5 ⟨k5,x1,x2,rfl⟩;exact k H5 (cI.trans k5)
abbrev sLeast:Stmt:=top 20
inductive IspLeast(vs:List V)(H:Hp)(Q:VK):Prop
 |mk(a:Nc)(zs:Nj)(h0:vs=[.ref a])(h1:H a=some (.lst (zs.map V.str)))(h2:zs.length≤100)(h3:∀(t:Nc) (j:Nat) (H':Hp),j≤zs.length→H' t=some (.tup ((zs.drop j++zs.take j).map V.str))→H t=none→Keep [] H H'→Q (.ref t) H')
def spLeast:Sp:=λvs H Q _=>IspLeast vs H Q
def zhd{α β γ:Type}{R:α→γ→Prop}{f:β→γ}:∀{as:List α} {bs:List β},Paired (λa b=>R a (f b)) as bs→WQ as (bs.map f):=by
 intro as bs r;induction r with
 |nil=>exact .nil
 |cons h t ih=>exact .cons h ih
def zeh:zaw ["rows", "rounds", "one", "around", "other"] ["rows"] (zag zh4):=fsk
def ok_oneway{f:Nc}{fd:Nu}(F:Z2 "refuse_one_way" "refuse_one_way" zh4 f fd)(fF:mg "dict" = none):ZB 1 f fd ["rows"] spOneWay:=by
 refine F.okL zeh DP;obtain⟨l,as,es,rfl,R,aS,hok,k⟩:=h;have hu:=zco hr;have aR  :=sizeLine_eq;refine⟨_,zad (KG zeh.nd (zc2 (zdz rfl) D4 fF PyProof.Rows.boot_dict Hu))
  (zah (QE (za2 Gu) (Vv (zbg (N5 zeh.nd) (zbg (N6 zeh.nd) zdm)))
   (zah (QE (za2 Go) (zbe 4 zeh.nd)
    (zah (zcg (PW.pt (pw_or (V0 Rq Gy Hl) (pw_or1 (zav zcv Gy (pe_dget2 hu Gs Rq Hx ⟨rfl,rfl,rfl,rfl⟩) rfl)))) (zah ps_no) za9)))))),?_⟩
 have on:(es.map λe:Ent=>(e.1,HS)).map (·.1)=es.map (·.1):=by rw[Zq];rfl
 refine⟨RV,l,as,es.map λe=>(e.1,HS),rfl,R.ls,zhd R.ts,DR on aS,λd hd=>?_⟩;have qv:((es.map λe:Ent=>(e.1,HS)).map λp=>((Sum.inr p.1:Key),p.2))=eWV es:=by rw[Zq];rfl
 rw[qv];have k1:Keep [] H (ZQ d FV):=Keep.new hd;have jm:(ZQ d FV) d=some FV:=zac;generalize ZQ d FV=H1 at k1 jm;have R1:=R.keep k1;refine⟨RV,l,rfl,⟨_,SqL.of R1.ls⟩,zb3 (xs:=as.map V.ref) (λi σ H'=>Aj2 (Keep [] H1 H') (Ex3 λx2 x3 x4=>σ=[DQ l,DQ d,x2,x3,x4])) ⟨Keep.refl,none,none,none,rfl⟩ (λi σ H' _ hh=>SqL.of (hh.1 _ _ R1.ls DI)) ?_ ?_⟩
 ·rintro i y σ H2 hx ⟨k2,x2,x3,x4,rfl⟩;have hi:i<as.length:=by have:=(Zk.mp hx).1;rwa[Qa]at this
  have iu:y=.ref as[i]:=by rw[Qr,Qb hi]at hx;exact(Qw hx).symm
  subst iu;obtain⟨az,cZ⟩:=za1 R1.ts hi;obtain⟨bq,bi⟩:=hok _ (Qm az);have bn:=k2 _ _ (R1.ro _ (Qm az)) DI;refine⟨as[i],RV,HQ (k2 _ _ cZ DI),rfl,_,RV,_,RV,rfl,RV,es[i].2.2,rfl,⟨_,DW bn⟩,zb3 (xs:=es[i].2.1.map V.str) (λj σ H'=>Aj2 (Keep [] H2 H') (Ex1 λx4=>σ=[DQ l,DQ d,FX (.str es[i].1),FX (.ref es[i].2.2),x4])) ⟨Keep.refl,_,rfl⟩ (λj σ H' _ hh=>SqL.of (hh.1 _ _ bn DI)) ?_ ?_⟩
  ·rintro j y σ H3 hy ⟨k3,y4,rfl⟩;obtain⟨z,hz,rfl⟩:=Qj.mp (Yy hy);obtain⟨e',cV,hez,aX⟩:=bi z hz;have aD:z≠es[i].1:=λq=>bq (q▸hz);have mw:=k3 _ _ (k2 _ _ jm DI) DI;refine⟨RV,RV,rfl,RV,za4 (decide_eq_false (λq=>aD (by injection q))) ⟨RV,RV,d,rfl,.inl ⟨_,Gb mw⟩,RV,(DO 0),λq hq=>?_⟩⟩;have ndq:d≠q:=zab mw hq;have rN:(QN q Fb) d=some FV:=by rw[zaf ndq];exact mw
   have qm:(QN q Fb) e'.2.2=some (DX (e'.2.1.map V.str)):=by have h3:=k3 _ _ (k2 _ _ (R1.ro e' cV) DI) DI;rw[zaf (zab h3 hq)];exact h3
   have dg:=DGet.k (k:=Sum.inr z) rN;rw[←hez,zg8 aS cV,hez]at dg;exact⟨_,dg,e'.2.2,RV,Ht qm,rfl,zc5 _,RV,za4 (by rw[if_pos rfl,zfi,decide_eq_true aX];rfl) ⟨Rf (D0 hq),RV⟩⟩
  rintro σ H3 ⟨k3,y4,rfl⟩;exact⟨k2.trans k3,_,_,RV⟩
 rintro σ H2 ⟨k2,x2,x3,x4,rfl⟩;exact k H2 (k1.trans k2)
def scLeast:zaw ["around", "at"] ["around"] (zag sLeast):=fsk
def ok_least(F:Z2 "from_least" "from_least" sLeast f fd)(f7:mg "min" = none)(pW:mg "tuple" = none):ZB 1 f fd ["around"] spLeast:=by
 refine F.okL scLeast DP;obtain⟨a,zs,rfl,ha,hz,k⟩:=h;have aR  :=sizeLine_eq;refine⟨_,zad (KG scLeast.nd (pe_ifExp (zf5 Gu (by intro _;rfl)) (UX Jj Ji zem Gu (FY (zaj (zio rfl) D4 f7 Bb Hu))) zai))
  (zah (zbo (zc2 zil D4 pW PyProof.Rows.boot_tuple (FY (Hs (pv 0) (zck (pv 1))))))),?_⟩
 have dX:(zs.map V.str).length=zs.length:=Qa ..;refine⟨RV,_,Gb ⟨_,DW ha,rfl⟩,?_⟩;by_cases pO:zs=[]
 ·refine za4 (by rw[pO];rfl) ?_;have h0:0≤zs.length:=Zn _;refine⟨RV,RV,RV,a,RV,DW ha,λp1 h1=>?_⟩;have n1:a≠p1:=zab ha h1;refine⟨RV,RV,RV,a,RV,DW (by rw[zaf n1];exact ha),λp2 h2=>?_⟩;have gi:p1≠p2:=zab (o:=_) zac h2;refine⟨p1,p2,_,RV,rfl,(DY gi zac),zac,?_,λp3 h3=>?_⟩
  ·have q1:=JS (FX (0:Int)) none;have q2:=JS none (FX (0:Int));rw[dX]at q1 q2;show _+_≤sizeLine;lia
  have ecut:WW (FX (0:Int)) none++WW none (FX (0:Int))=(zs.drop (0:Nat)++zs.take (0:Nat)).map V.str:=by show WW (FX (((0:Nat)):Int)) none++WW none (FX (((0:Nat)):Int))=_;rw[zey (DR dX h0),cut_to (DR dX h0),Qs,Ur,Wu]
  rw[ecut];refine⟨p3,RV,.inl ⟨DW zac,λt ht=>?_⟩⟩;have kk:Keep [] H _:=(((D0 h1).trans (D0 h2)).trans (D0 h3)).trans (Keep.new (o:=.tup ((zs.drop (0:Nat)++zs.take (0:Nat)).map V.str)) ht);exact k t (0:Nat) _ h0 zac (zas (xs:=[]) (((D0 h1).trans (D0 h2)).trans (D0 h3)) ht DI) kk
 refine zbm (by cases hh:zs with
  |nil=>exact absurd hh pO
  |cons _ _=>rfl) ?_
 refine⟨RV,DV ha,RV,a,zs,rfl,DW ha,pO,λz cJ _=>?_⟩;obtain⟨i1,i2⟩:=index_of cJ;have hj:zs.idxOf z≤zs.length:=Zt (idx_lt cJ);refine⟨a,_,_,RV,rfl,ha,rfl,zc5 _,i1,i2,RV,RV,RV,a,RV,DW ha,λp1 h1=>?_⟩;have n1:a≠p1:=zab ha h1;refine⟨RV,RV,RV,a,RV,DW (by rw[zaf n1];exact ha),λp2 h2=>?_⟩;have gi:p1≠p2:=zab (o:=_) zac h2;refine⟨p1,p2,_,RV,rfl,(DY gi zac),zac,?_,λp3 h3=>?_⟩
 ·have q1:=JS (FX (Hr:Int)) none;have q2:=JS none (FX (Hr:Int));rw[dX]at q1 q2;show _+_≤sizeLine;lia
 have ecut:WW (FX (Hr:Int)) none++WW none (FX (Hr:Int))=(zs.drop Hr++zs.take Hr).map V.str:=by rw[zey (DR dX hj),cut_to (DR dX hj),Qs,Ur,Wu]
 rw[ecut];refine⟨p3,RV,.inl ⟨DW zac,λt ht=>?_⟩⟩;have kk:Keep [] H _:=(((D0 h1).trans (D0 h2)).trans (D0 h3)).trans (Keep.new (o:=.tup ((zs.drop Hr++zs.take Hr).map V.str)) ht);exact k t Hr _ hj zac (zas (xs:=[]) (((D0 h1).trans (D0 h2)).trans (D0 h3)) ht DI) kk
end
end K21
namespace Wb
section lk
variable{β:Type}
def Lk(f:β→β):β→List β→β→Prop
 |s,[],e=>f s=e
 |s,x::t,e=>f s=x∧Lk f x t e
def lk_app:∀{A:List β} {s:β},U9 (A++x::B) e↔U9 A x∧Lk f x B e:=by
 intro A;induction A with
 |nil=>intro s;exact Iff.rfl
 |cons a t ih=>intro s;show f s=a∧Lk f a (t++x::B) e↔(f s=a∧Lk f a t x)∧Lk f x B e;rw[ih,and_assoc]
def lk_congr:∀{t:List β} {s:β},(∀y,y=s∨y∈t→g y=f y)→U9 t e→Lk g s t e:=by
 intro t;induction t with
 |nil=>intro s h k;exact(h s Fq).trans k
 |cons a t ih=>
  intro s h k;refine⟨(h s Fq).trans k.1,ih (λy hy=>h y (.inr ?_)) k.2⟩;rcases hy with z|z
  ·rw[z];exact Qe
  exact WD z
def Cyc(f:β→β)(c:List β):Prop:=∃s t,c=s::t∧U9 t s
def zfl(h:Cyc f (A++x::B)):Lk f x (B++A) x:=by
 obtain⟨s,t,e,k⟩:=h;cases A with
 |nil=>cases e;rw[Zu];exact k
 |cons a A'=>cases e;obtain⟨k1,k2⟩:=lk_app.mp k;exact lk_app.mpr ⟨k2,k1⟩
def cyc_congr(h:∀y∈c,g y=f y)(k:Cyc f c):Cyc g c:=by obtain⟨s,t,e,k⟩:=k;subst e;exact⟨s,t,rfl,lk_congr (λy hy=>h y (Qi.mpr hy)) k⟩
end lk
section nx
variable{α:Type}[DecidableEq α]
def zgk{A B:List α}{w:α}(h:w∉A):(B++A++[w]).head?=some (nxt (A++w::B) w):=by
 have hi:(A++w::B).idxOf w=A.length:=by rw[List.idxOf_append,if_neg h,List.idxOf_cons_self];lia
 unfold nxt;rw[hi,Qk,Zc];cases B with
 |nil=>
  have e:(A.length+1)%(A.length+(([]:List α).length+1))=0:=by simp
  rw[e];cases A with
  |nil=>rfl
  |cons a t=>rfl
 | cons b t=>
  have e:(A.length+1)%(A.length+((b::t).length+1))=A.length+1:=Nat.mod_eq_of_lt (by rw[Zc];lia);rw[e];have:(A++w::b::t).getD (A.length+1) w=b:=by
   rw[Qn,Uw (by exact J9 _)];have:A.length+1-A.length=1:=by lia
   rw[this];rfl
  rw[this];rfl
def zhx{zs:List α}{c:α}(h:c∈zs)(nd:zs.Nodup):∃A B,zs=A++c::B∧c∉A∧c∉B:=by
 obtain⟨A,B,e⟩:=Uy h;refine⟨A,B,e,?_,?_⟩
 ·rw[e,Zo]at nd;exact λz=>nd.2.2 _ z _ Qe rfl
 rw[e,Zo,Ze]at nd;exact nd.2.1.1
def ins_split{A B:List α}{c n:α}(h:c∉A):ins (A++c::B) (FX c) n=A++c::n::B:=by
 have hi:(A++c::B).idxOf c=A.length:=by rw[List.idxOf_append,if_neg h,List.idxOf_cons_self];lia
 show(A++c::B).take ((A++c::B).idxOf c+1)++n::(A++c::B).drop ((A++c::B).idxOf c+1)=_;rw[hi];have e1:(A++c::B).take (A.length+1)=A++[c]:=by
  rw[List.take_append,Qt (by exact J9 _)];have:A.length+1-A.length=1:=by lia
  rw[this];rfl
 have e2:(A++c::B).drop (A.length+1)=B:=by
  rw[List.drop_append,Jo (by exact J9 _)];have:A.length+1-A.length=1:=by lia
  rw[this];rfl
 rw[e1,e2,Qq];rfl
variable{zs:List α}{c n:α}
def mem_ins(hc:c∈zs)(nd:zs.Nodup){w:α}:w∈ins zs (FX c) n↔w=n∨w∈zs:=by
 obtain⟨A,B,rfl,h1,h2⟩:=zhx hc nd;rw[ins_split h1];simp only[Qg,Qi];constructor
 ·rintro (h|h|h|h)
  ·exact .inr (Gb h)
  ·exact .inr (.inr (Gb h))
  ·exact .inl h
  exact .inr (.inr (G' h))
 rintro (h|h|h|h)
 ·exact .inr (.inr (Gb h))
 ·exact .inl h
 ·exact .inr (Gb h)
 exact .inr (.inr (G' h))
def nd_ins(hc:c∈zs)(nd:zs.Nodup)(hn:n∉zs):(ins zs (FX c) n).Nodup:=by
 obtain⟨A,B,rfl,h1,h2⟩:=zhx hc nd;rw[ins_split h1];rw[Zo,Ze]at nd;rw[Qg,Qi,not_or,not_or]at hn;obtain⟨nA,⟨ncB,nB⟩,nAB⟩:=nd;rw[Zo,Ze,Ze];refine⟨nA,⟨?_,hn.2.2,nB⟩,λa ha b hb=>?_⟩
 ·rw[Qi,not_or];exact⟨λe=>hn.2.1 e.symm,ncB⟩
 rcases Qi.mp hb with z|z
 ·rw[z];exact nAB a ha c Qe
 rcases Qi.mp z with y|y
 ·rw[y];exact λe=>hn.1 (e▸ha)
 exact nAB a ha b (WD y)
def nxt_rot(nd:zs.Nodup)(k:Nat){w:α}(hw:w∈zs):nxt (zs.drop k++zs.take k) w=XV w:=by
 obtain⟨A,B,rfl,h1,h2⟩:=zhx hw nd;have k2:=zgk (B:=B) h1;by_cases hk:k≤A.length
 ·have e:(A++w::B).drop k++(A++w::B).take k=A.drop k++w::(B++A.take k):=by
   rw[List.drop_append,List.take_append];have:k-A.length=0:=by lia
   rw[this,List.drop_zero,List.take_zero,Zu,Qq];rfl
  have k1:=zgk (A:=A.drop k) (B:=B++A.take k) (λz=>h1 (Wl z));rw[e];refine Qw (k1.symm.trans (Eq.trans ?_ k2));rw[Qq B,Zh]
 have e:(A++w::B).drop k++(A++w::B).take k=(B.drop (k - A.length - 1)++A)++w::B.take (k - A.length - 1):=by
  rw[List.drop_append,List.take_append,Jo DH,Qt DH];have:k-A.length=(k-A.length-1)+1:=by lia
  conv=>lhs;rw[this]
  rw[List.drop_succ_cons,List.take_succ_cons,Kv,Qq]
 have k1:=zgk (A:=B.drop (k-A.length-1)++A) (B:=B.take (k-A.length-1)) (λz=>by
  rcases Qg.mp z with y|y
  ·exact h2 (Wl y)
  exact h1 y)
 rw[e];refine Qw (k1.symm.trans (Eq.trans ?_ k2));rw[←Qq,Zh]
end nx
section
variable{α:Type}[DecidableEq α]
def st(r:α→List α)(s:α×α):α×α:=(s.2,nxt (r s.2) s.1)
inductive Conn(r:α→List α)(x:α):α→Prop
 |refl:Conn r x x
 |step {y z:α}:Conn r x y→z∈r y→Conn r x z
def Conn.trans{r:α→List α}{x y z:α}(a:XW x y)(b:XW y z):XW x z:=by
 induction b with
 |refl=>exact a
 |step _ h ih=>exact .step ih h
def Conn.mono(h:∀x y,y∈r x→y∈r' x)(a:XW x y):Conn r' x y:=by
 induction a with
 |refl=>exact .refl
 |step _ hz ih=>exact .step ih (h _ _ hz)
structure Cert(ns:List α)(r:α→List α)(cs:List (List (α×α)))(lab:α→α):Prop where
 nd:ns.Nodup
 ro:∀x,x∉ns→r x=[]
 rn:∀x,(r x).Nodup
 ir:∀x,x∉r x
 sy:∀x y,y∈r x→x∈r y
 cf:cs.flatten.Nodup
 cm:∀s,s∈cs.flatten↔s.1∈r s.2
 cy:∀c∈cs,NK c
 ln:∀x∈ns,lab x∈ns
 la:∀x y,y∈r x→lab y=lab x
 co:∀x∈ns,∀y∈ns,lab x=lab y→XW x y
end
section
variable{α:Type}[DecidableEq α] {ns:List α}{r r':α→List α}{cs:List (List (α×α))}{lab:α→α}
def Cert.inn(C:UM lab){x y:α}(h:y∈r x):x∈ns:=Wd λz=>by rw[C.ro x z]at h;cases h
def Cert.inn'(C:UM lab){x y:α}(h:y∈r x):y∈ns:=C.inn (C.sy x y h)
def Cert.inc(C:UM lab){c:List (α×α)}(hc:c∈cs){s:α×α}(hs:s∈c):s.1∈r s.2:=(C.cm s).mp (Yn.mpr ⟨c,hc,hs⟩)
def zhi{β:Type}[DecidableEq β]{c:List β}{cs:List (List β)}(hc:c∈cs):cs.flatten.Perm (c++(cs.erase c).flatten):=by have:=Kj (List.perm_cons_erase hc);rwa[Yo]at this
def lk_pre{β:Type}{f:β→β}{e:β}:∀{t:List β} {s:β},U9 t e→(s::t).Nodup→∃l∈s::t,f l=e∧∀y∈t,∃p∈s::t,f p=y∧p≠l:=by
 intro t;induction t with
 |nil=>intro s k _;exact⟨s,Qe,k,λy h=>by cases h⟩
 |cons a t ih=>
  intro s k nd;obtain⟨l,hl,e,h⟩:=ih k.2 (Ze.mp nd).2;refine⟨l,WD hl,e,λy hy=>?_⟩;rcases Qi.mp hy with rfl|hy
  ·exact⟨s,Qe,k.1,λz=>(Ze.mp nd).1 (z▸hl)⟩
  obtain⟨p,hp,q⟩:=h y hy;exact⟨p,WD hp,q⟩
def lk_snoc{β:Type}{f:β→β}{e:β}{t:List β}{s:β}(k:U9 t e):U9 (t++[e]) (f e):=lk_app.mpr ⟨k,rfl⟩
end
section
variable{α:Type}[DecidableEq α] {ns:List α}{r r':α→List α}{cs:List (List (α×α))}{lab:α→α} {β:Type}[DecidableEq β]{f:β→β}
def orbit{S:List β}(hc:∀ x∈S,f x∈S)(hi:∀ x∈S,∀ y∈S,f x=f y→x=y){s:β}:∀ (m:Nat) (t:List β) (e:β),U9 t e→(s::t).Nodup→(∀ x∈s::t,x∈S)→S.length≤t.length+m→∃ t',U9 t' s∧(s::t').Nodup∧∀ x∈s::t',x∈S:=by
 intro m;induction m with
 |zero=>intro t e _ nd hs hm;have:=zcn nd hs;rw[Zc]at this;lia
 | succ m ih=>
  intro t e k nd hs hm;by_cases h1:e=s
  ·subst h1;exact⟨t,k,nd,hs⟩
  obtain⟨l,hl,dY,hp⟩:=lk_pre k nd;have h2:e∉t:=λz=>by obtain⟨p,hp,e2,ne⟩:=hp e z;exact ne (hi p (hs p hp) l (hs l hl) (e2.trans dY.symm))
  have heS:e∈S:=dY▸hc l (hs l hl);refine ih (t++[e]) (f e) (lk_snoc k) ?_ ?_ (by rw[Qk,Kn];lia)
  ·rw[← Yq,Zo];refine⟨nd,Ze.mpr ⟨DI,Yh⟩,λa ha b hb z=>?_⟩;rw[Qc.mp hb]at z;subst z;rcases Qi.mp ha with q|q
   ·exact h1 q
   exact h2 q
  intro x hx;rw[←Yq]at hx;rcases Qg.mp hx with q|q
  ·exact hs x q
  rw[Qc.mp q];exact heS
def cycles:∀ (n:Nat) (S:List β),S.length≤n→S.Nodup→(∀ x∈S,f x∈S)→(∀ x∈S,∀ y∈S,f x=f y→x=y)→∃ cs:List (List β),cs.flatten.Perm S∧∀ c∈cs,Cyc f c:=by
 intro n;induction n with
 |zero=>intro S hn _ _ _;rw[List.eq_nil_of_length_eq_zero (Nat.le_zero.mp hn)];exact⟨[],.nil,λc h=>by cases h⟩
 | succ n ih=>
  intro S hn nd hc hi;cases S with
  |nil=>exact⟨[],.nil,λc h=>by cases h⟩
  | cons s S=>
   obtain⟨t,k,nt,hs⟩:=orbit hc hi (s:=s) (s::S).length [] (f s) rfl DI DI DI;have dy:∀y∈s::t,∃p∈s::t,f p=y:=λy hy=>by
    obtain⟨l,hl,e,h⟩:=lk_pre k nt;rcases Qi.mp hy with rfl|hy
    ·exact⟨l,hl,e⟩
    obtain⟨p,hp,q,_⟩:=h y hy;exact⟨p,hp,q⟩
   have hR:((s::S).filter λx=>decide (x∉s::t)).length≤n:=by
    have h1:((s::S).filter λx=>decide (x∉s::t)).length≤S.length:=by rw[Uk DI];exact Uz _ _
    rw[Zc]at hn;lia
   have mR:∀x,x∈(s::S).filter (λx=>decide (x∉s::t))↔x∈s::S∧x∉s::t:=λx=>by rw[Kw,decide_eq_true_iff]
   obtain⟨cs,hp,hcy⟩:=ih _ hR (Jp Kz nd) (λx hx=>by obtain⟨h1,h2⟩:=(mR x).mp hx;refine(mR _).mpr ⟨hc x h1,λz=>?_⟩;obtain⟨p,hp,e⟩:=dy _ z;exact h2 (hi p (hs p hp) x h1 e▸hp)) λx hx y hy=>hi x ((mR x).mp hx).1 y ((mR y).mp hy).1;refine⟨(s::t)::cs,?_,λc h=>?_⟩
   ·rw[Yo];refine(Jw ?_ nd).mpr λx=>?_
    ·rw[Zo];exact⟨nt,hp.nodup_iff.mpr (Jp Kz nd),λa ha b hb e=>((mR b).mp (hp.mem_iff.mp hb)).2 (e▸ha)⟩
    rw[Qg,hp.mem_iff,mR];by_cases hx:x∈s::t
    ·exact⟨λ_=>hs x hx,λ_=>.inl hx⟩
    exact⟨λz=>z.elim (λq=>absurd q hx) λq=>q.1,λz=>.inr ⟨z,hx⟩⟩
   rcases Qi.mp h with rfl|h
   ·exact⟨s,t,rfl,k⟩
   exact hcy c h
end
section
variable{α:Type}[DecidableEq α] {ns:List α}{r r':α→List α}{cs:List (List (α×α))}{lab:α→α}
def labels(sy:∀ x y,y∈r x→x∈r y):∀ E:List (α×α),(∀ e∈E,e.1∈ns∧e.2∈r e.1)→∃ lab:α→α,(∀ x∈ns,lab x∈ns)∧(∀ e∈E,lab e.1=lab e.2)∧∀ x y,lab x=lab y→XW x y:=by
 have back:∀{x y},XW x y→XW y x:=λ{x y} h=>by
  induction h with
  |refl=>exact .refl
  |step _ hz ih=>exact(Conn.step .refl (sy _ _ hz)).trans ih
 intro E;induction E with
 |nil=>intro _;exact⟨id,λ_ h=>h,λe h=>(by cases h),λx y e=>(show x=y from e)▸.refl⟩
 | cons e E ih=>
  intro h;obtain⟨lab,h1,h2,h3⟩:=ih λe' he=>h e' (WD he);obtain⟨oH,he2⟩:=h e Qe;refine⟨λz=>if lab z=lab e.2 then lab e.1 else lab z,λx hx=>?_,λe' he=>?_,λx y q=>?_⟩
  ·show (if lab x=lab e.2 then lab e.1 else lab x)∈ns;split
   ·exact h1 _ oH
   exact h1 _ hx
  ·show (if lab e'.1=lab e.2 then lab e.1 else lab e'.1)=if lab e'.2=lab e.2 then lab e.1 else lab e'.2
   rcases Qi.mp he with rfl|he
   ·rw[if_pos rfl];split<;>rfl
   rw[h2 e' he]
  have q:(if lab x=lab e.2 then lab e.1 else lab x)=if lab y=lab e.2 then lab e.1 else lab y:=q
  have c:XW e.1 e.2:=.step .refl he2;split at q
  ·rename_i a;split at q
   ·rename_i b;exact h3 x y (a.trans b.symm)
   exact((h3 x e.2 a).trans (back c)).trans (h3 e.1 y q)
  split at q
  ·rename_i b;exact((h3 x e.1 q).trans c).trans (h3 e.2 y b.symm)
  exact h3 x y q
def nxt_mem{zs:List α}{x:α}(h:x∈zs):XV x∈zs:=by unfold nxt;have hp:(zs.idxOf x+1)%zs.length<zs.length:=XA (Ul h);rw[Qn,Qb hp];exact Qm hp
def nxt_inj{zs:List α}(nd:zs.Nodup){x y:α}(hx:x∈zs)(hy:y∈zs)(e:XV x=XV y):x=y:=by
 unfold nxt at e;have hl:=Ul hx;have h1:=Xb hx;have h2:=Xb hy;rw[Qn,Qb (XA hl),Qn,Qb (XA hl)]at e;have e2:=(Wh nd).mp e;have wrap:∀i,i<zs.length→Fj%zs.length=if i+1=zs.length then 0 else i+1:=λi hi=>by
  split
  ·rename_i q;rw[q,Nat.mod_self]
  exact Nat.mod_eq_of_lt DH
 rw[wrap _ h1,wrap _ h2]at e2;have e3:zs.idxOf x=zs.idxOf y:=by split at e2<;>split at e2<;>lia
 have:=Uv h1;rw[←this,←Uv h2];congr 1
structure Sy(ns:List α)(r:α→List α):Prop where
 nd:ns.Nodup
 ro:∀x,x∉ns→r x=[]
 rn:∀x,(r x).Nodup
 ir:∀x,x∉r x
 sy:∀x y,y∈r x→x∈r y
def Cert.s(C:UM lab):Sy ns r:=⟨C.nd,C.ro,C.rn,C.ir,C.sy⟩
def Sy.cert(S:Sy ns r):∃cs lab,UM lab:=by
 have mS:∀s:α×α,s∈(ns.flatMap λp=>(r p).map λq=>(q,p))↔s.1∈r s.2:=λs=>by
  rw[List.mem_flatMap];constructor
  ·rintro⟨p,_,h⟩;obtain⟨q,hq,rfl⟩:=Qj.mp h;exact hq
  intro h;exact⟨s.2,Wd (λz=>by rw[S.ro _ z]at h;cases h),Qj.mpr ⟨s.1,h,rfl⟩⟩
 have nS:(ns.flatMap λp=>(r p).map λq=>(q,p)).Nodup:=by
  rw[List.flatMap,Xc,List.pairwise_flatten];refine⟨λl hl=>?_,?_⟩
  ·obtain⟨p,_,rfl⟩:=Qj.mp hl;exact B9 (λa b h e=>h (congrArg Prod.fst e)) (Xc.mp (S.rn p))
  refine B9 (λa b h u hu v hv e=>?_) (Xc.mp S.nd);obtain⟨_,_,rfl⟩:=Qj.mp hu;obtain⟨_,_,rfl⟩:=Qj.mp hv;exact h (congrArg Prod.snd e)
 obtain⟨cs,hp,hc⟩:=cycles (f:=st r) _ _ D9 nS (λs hs=>(mS _).mpr (S.sy _ _ (nxt_mem ((mS s).mp hs)))) λs hs u hu e=>by have e1:s.2=u.2:=congrArg Prod.fst e;have e2:nxt (r s.2) s.1=nxt (r u.2) u.1:=congrArg Prod.snd e;have h1:=(mS s).mp hs;have h2:=(mS u).mp hu;rw[←e1]at e2 h2;exact Prod.ext (nxt_inj (S.rn _) h1 h2 e2) e1
 obtain⟨lab,l1,l2,l3⟩:=labels (ns:=ns) S.sy ((ns.flatMap λp=>(r p).map λq=>(q,p)).map λs=>(s.2,s.1)) λe he=>by obtain⟨s,hs,rfl⟩:=Qj.mp he;have h:=(mS s).mp hs;exact⟨Wd (λz=>by rw[S.ro _ z]at h;cases h),h⟩
 refine⟨cs,lab,S.nd,S.ro,S.rn,S.ir,S.sy,hp.nodup_iff.mpr nS,λs=>hp.mem_iff.trans (mS s),hc,l1,λx y h=>?_,λx _ y _ e=>l3 x y e⟩;exact(l2 (x,y) (Qj.mpr ⟨(y,x),(mS (y,x)).mpr h,rfl⟩)).symm
def Good(rs:Rs α):Prop:=∃cs lab,Cert (rs.map (·.1)) (row rs) cs lab
def cyc_next{β:Type}{f:β→β}{c:List β}(h:Cyc f c){s:β}(hs:s∈c):f s∈c:=by
 obtain⟨A,B,rfl⟩:=Uy hs;have k:=zfl h;cases e:B++A with
 |nil=>rw[e]at k;rw[show f s=s from k];exact hs
 |cons a t=>
  rw[e]at k;rw[k.1];have:a∈B++A:=by rw[e];exact Qe
  rcases Qg.mp this with z|z
  ·exact Y6 (WD z)
  exact UT z
end
section
variable{α:Type}[DecidableEq α] {ns:List α}{r r':α→List α}{cs:List (List (α×α))}{lab:α→α} {rs:Rs α}
def zfr(nd:(rs.map (·.1)).Nodup){p:α×List α}(h:p∈rs):JR p.1=p.2:=by
 unfold row;induction rs with
 |nil=>cases h
 |cons a t ih=>
  rw[Ql,Ze]at nd;rcases Qi.mp h with z|z
  ·subst z;rw[Ww DI];rfl
  rw[Um]
  ·exact ih nd.2 z
  intro q;exact nd.1 (by rw[of_decide_eq_true q];exact Qj.mpr ⟨p,z,rfl⟩)
def ze9(h:x∉rs.map (·.1)):JR x=[]:=by
 unfold row;rw[Ux.mpr]
 ·rfl
 intro p hp q;exact h (of_decide_eq_true q▸Qj.mpr ⟨p,hp,rfl⟩)
def zde(nd:(rs.map (·.1)).Nodup){s:α×α}:KC s↔s.1∈JR s.2:=by
 constructor
 ·rintro⟨p,hp,e,h⟩;rw[←e,zfr nd hp];exact h
 intro h;by_cases hx:s.2∈rs.map (·.1)
 ·obtain⟨p,hp,e⟩:=Qj.mp hx;have e':p.1=s.2:=e;rw[←e',zfr nd hp]at h;exact⟨p,hp,e',h⟩
 rw[ze9 hx]at h;cases h
def zcm(x:α)(rr:List α):(zb0 rs x rr).map (·.1)=rs.map (·.1):=by unfold zb0;rw[Zq];refine Jf λp _=>?_;show(if p.1=x then(p.1,rr) else p).1=p.1;split<;>rfl
def zbk{x:α}{rr:List α}(h:x∈rs.map (·.1)):N7 x=rr:=by
 unfold row zb0;induction rs with
 |nil=>cases h
 |cons a t ih=>
  rw[Ql];by_cases hx:a.1=x
  ·rw[if_pos hx,Ww (DJ hx)];rfl
  rw[Gm hx,Um (DJ hx)];refine ih ?_;rw[Ql]at h;rcases Qi.mp h with z|z
  ·exact absurd z.symm hx
  exact z
def zbw{x y:α}{rr:List α}(h:y≠x):N7 y=JR y:=by
 unfold row zb0;induction rs with
 |nil=>rfl
 |cons a t ih=>
  rw[Ql];by_cases hy:a.1=y
  ·have hx:a.1≠x:=λe=>h (hy ▸ e);rw[if_neg hx,Ww (DJ hy),Ww (DJ hy)]
  have h1:(if a.1=x then (a.1,rr) else a).1=a.1:=by split <;> rfl
  rw[Um (by rw[h1];simpa using hy),Um (DJ hy)];exact ih
def row_snoc{x:α}(h:x∉rs.map (·.1)):row (rs++[(x,[])])=row rs:=by
 funext y;unfold row;rw[List.find?_append];cases e:rs.find? λp=>decide (p.1=y) with
 |some p=>rfl
 |none=>
  rw[Option.none_or];by_cases hy:x=y
  ·rw[Ww (DJ hy)];rfl
  rw[Um (DJ hy)];rfl
def Sy.good(S:Sy (rs.map (·.1)) (row rs)):Good rs:=S.cert
def Sy.put{ns:List α}{r r':α→List α}(S:Sy ns r){a b:α}(ha:a∈ns)(hb:b∈ns)(ne:a≠b)(h1:∀ w,w∈r' a↔w=b∨w∈r a)(n1:(r' a).Nodup)(h2:∀ w,w∈r' b↔w=a∨w∈r b)(n2:(r' b).Nodup)(h3:∀ y,y≠a→y≠b→r' y=r y):Sy ns r':=by
 have hm:∀x y,y∈r' x↔y∈r x∨(x=a∧y=b)∨(x=b∧y=a):=λx y=>by
  by_cases xa:x=a
  ·subst xa;rw[h1];exact⟨λh=>h.elim (λq=>.inr (.inl ⟨rfl,q⟩)) .inl,λh=>h.elim .inr λq=>q.elim (λq=>.inl q.2) λq=>absurd q.1 ne⟩
  by_cases xb:x=b
  ·subst xb;rw[h2];exact⟨λh=>h.elim (λq=>.inr (.inr ⟨rfl,q⟩)) .inl,λh=>h.elim .inr λq=>q.elim (λq=>absurd q.1 xa) λq=>.inl q.2⟩
  rw[h3 x xa xb];exact⟨.inl,λh=>h.elim id λq=>q.elim (λq=>absurd q.1 xa) λq=>absurd q.1 xb⟩
 refine⟨S.nd,λx hx=>?_,λx=>?_,λx h=>?_,λx y h=>?_⟩
 ·rw[h3 x (λe=>hx (e▸ha)) λe=>hx (e▸hb)];exact S.ro x hx
 ·by_cases xa:x=a
  ·rw[xa];exact n1
  by_cases xb:x=b
  ·rw[xb];exact n2
  rw[h3 x xa xb];exact S.rn x
 ·rcases (hm x x).mp h with q|q|q
  ·exact S.ir x q
  ·exact ne (q.1.symm.trans q.2)
  exact ne (q.2.symm.trans q.1)
 refine (hm y x).mpr ?_;rcases(hm x y).mp h with q|q|q
 ·exact .inl (S.sy x y q)
 ·exact .inr (G' ⟨q.2,q.1⟩)
 exact .inr (Gb ⟨q.2,q.1⟩)
def Good.s(h:Good rs):Sy (rs.map (·.1)) (row rs):=let⟨_,_,C⟩:=h;C.s
def Good.new{x:α}(h:Good rs)(hx:x∉rs.map (·.1)):Sy (rs.map (·.1)++[x]) (row rs):=by have S:=h.s;refine⟨?_,λy hy=>S.ro y λz=>hy (UT z),S.rn,S.ir,S.sy⟩;rw[Zo];exact⟨S.nd,Ze.mpr ⟨DI,Yh⟩,λa ha b hb e=>hx (by rw[←Qc.mp hb,←e];exact ha)⟩
theorem zbh:Gen (Good (α:=α)) where
 clo:=λrs ⟨cs,lab,C⟩ s hs=>by obtain⟨c,hc,h⟩:=Yn.mp ((C.cm s).mpr ((zde C.nd).mp hs));exact(zde C.nd).mpr ((C.cm _).mp (Yn.mpr ⟨c,hc,cyc_next (Mq hc) h⟩))
 nd:=λrs ⟨cs,lab,C⟩=>C.nd
 sub:=λrs ⟨cs,lab,C⟩ p hp=>by have e:=zfr C.nd hp;exact⟨e▸C.rn p.1,λx hx=>C.inn' (x:=p.1) (DR e hx)⟩
 sy:=λrs ⟨cs,lab,C⟩ p hp x hx=>C.sy p.1 x (by rw[zfr C.nd hp];exact hx)
 nil:=Sy.good ⟨Yh,DU,λ_=>Yh,λx h=>absurd h (by simp[row]),λx y h=>absurd h (by simp[row])⟩
 new:=λrs x h hx=>by refine Sy.good ?_;rw[row_snoc hx,Qs];exact h.new hx
 leaf:=λrs x p c h hx hp hc hc0=>by
  have S:=h.s;have fW:p.1∈rs.map (·.1):=Qj.mpr ⟨p,hp,rfl⟩;have qr:p.1≠x:=λe=>hx (e▸fW);have e0:(zb0 (zb0 (rs++[(x,[])]) p.1 (N4 c x)) x [p.1]).map (·.1)=rs.map (·.1)++[x]:=by rw[zcm,zcm,Qs];rfl
  have lc:x∈(zb0 (rs++[(x,[])]) p.1 (N4 c x)).map (·.1):=by rw[zcm,Qs];exact Y6 Qe
  have lD:p.1∈(rs++[(x,([]:List α))]).map (·.1):=by rw[Qs];exact UT fW
  have er:=zfr S.nd hp;have rx:JR x=[]:=S.ro x hx;have nx:x∉p.2:=λz=>by have:=S.sy p.1 x (DR er z);rw[rx]at this;cases this
  have dP:p.2.Nodup:=er▸S.rn p.1;refine Sy.good ?_;rw[e0];refine(h.new hx).put (a:=p.1) (b:=x) (UT fW) (Y6 Qe) qr (λw=>?_) ?_ (λw=>?_) ?_ λy h1 h2=>?_
  ·rw[zbw qr,zbk lD,er];cases c with
   |none=>exact Qi
   |some y=>exact mem_ins (hc y rfl) dP
  ·rw[zbw qr,zbk lD];cases c with
   |none=>exact Ze.mpr ⟨nx,dP⟩
   |some y=>exact nd_ins (hc y rfl) dP nx
  ·rw[zbk lc,rx,Qc];exact⟨.inl,λq=>q.elim id λq=>by cases q⟩
  ·rw[zbk lc];exact Ze.mpr ⟨DI,Yh⟩
  rw[zbw h2,zbw h1,row_snoc hx]
 tie:=λrs c p n h hp hc h1 h2=>by
  obtain⟨cs,lab,C⟩:=h;have er:=zfr C.nd hp;have dW:∀n,(YU (c,p.1) n).1∈JR (YU (c,p.1) n).2:=λn=>by
   induction n with
   |zero=>show c∈JR p.1;rw[er];exact hc
   |succ n ih=>exact KH (nxt_mem ih)
  have oh:=dW n;generalize YU (c,p.1) n=q at h1 h2 oh;have fW:p.1∈rs.map (·.1):=Qj.mpr ⟨p,hp,rfl⟩;have iN:q.2∈rs.map (·.1):=C.inn oh;have dP:p.2.Nodup:=er▸C.rn p.1;have nq:p.1∉JR q.2:=λz=>h2 (by rw[←er];exact KH z);refine Sy.good ?_;rw[zcm,zcm];refine C.s.put (a:=p.1) (b:=q.2) fW iN (Zj h1) (λw=>?_) ?_ (λw=>?_) ?_ λy h3 h4=>?_
  ·rw[zbw (Zj h1),zbk fW,er];exact mem_ins hc dP
  ·rw[zbw (Zj h1),zbk fW];exact nd_ins hc dP h2
  ·rw[zbk (DR zcm iN)];exact mem_ins oh (C.rn _)
  ·rw[zbk (DR zcm iN)];exact nd_ins oh (C.rn _) nq
  rw[zbw h4,zbw h3]
end
section
variable{α:Type}[DecidableEq α]{ns jJ:List α}{r r':α→List α}{cs:List (List (α×α))}{lab:α→α}
def zf2(zs:List α)(k:Nat):(zs.drop k++zs.take k).Perm zs:=by refine Yu.trans ?_;rw[Zh]
def zgz(C:UM lab)(hn:jJ.Perm ns)(hr:∀x,∃k,r' x=(r x).drop k++(r x).take k):Cert jJ r' cs lab:=by
 have hp:∀x,(r' x).Perm (r x):=λx=>by obtain⟨k,e⟩:=hr x;rw[e];exact zf2 _ k
 have hm:∀{x y},y∈r' x↔y∈r x:=λ{x y}=>(hp x).mem_iff;have aI:∀s:α×α,s.1∈r s.2→st r' s=st r s:=λs hs=>by obtain⟨k,e⟩:=hr s.2;unfold st;rw[e,nxt_rot (C.rn _) k hs]
 refine⟨hn.nodup_iff.mpr C.nd,λx hx=>?_,λx=>(hp x).nodup_iff.mpr (C.rn x),λx h=>C.ir x (hm.mp h),λx y h=>hm.mpr (C.sy x y (hm.mp h)),C.cf,λs=>(C.cm s).trans hm.symm,λc hc=>?_,λx hx=>hn.mem_iff.mpr (C.ln x (hn.mem_iff.mp hx)),λx y h=>C.la x y (hm.mp h),λx hx y hy e=>?_⟩
 ·have:=hp x;rw[C.ro x (λz=>hx (hn.mem_iff.mpr z))]at this;exact List.Perm.eq_nil this
 ·exact cyc_congr (λy hy=>aI y (C.inc hc hy)) (Mq hc)
 exact(C.co x (hn.mem_iff.mp hx) y (hn.mem_iff.mp hy) e).mono λ_ _ h=>hm.mpr h
end
end Wb
namespace K21
open PySem L2 Wb
abbrev sSteps:Stmt:=top 9
structure BAt(H:Hp)(b:Nc)(bs:List ((Str×Str)×Addr))(r:Nt):Prop where
 dc:H b=some (.dT (bs.map λe=>(kP e.1,V.ref e.2)))
 tp:∀e∈bs,H e.2=some (.tup [.str (st r e.1).1,.str (st r e.1).2])
 nd:(bs.map (·.1)).Nodup
def BAt.keep{H H':Hp}{b:Nc}{bs:List ((Str×Str)×Addr)}{r:Nt}{xs:Nn}(h:BAt H b bs r)(k:W3 H')(hb:b∉xs)(ht:∀e∈bs,e.2∉xs):BAt H' b bs r:=
 ⟨k _ _ h.dc hb,λe he=>k _ _ (h.tp e he) (ht e he),h.nd⟩
def kP_inj{s u:Str×Str}(h:kP s=kP u):s=u:=by unfold kP at h;injection h with h1 h2;injection h2 with h2 _;exact Prod.ext (Kg h1) (Kg h2)
def valT_out{bs:List ((Str×Str)×Addr)}{s:Str×Str}(h:s∉bs.map (·.1)):valV (bs.map λe=>(kP e.1,V.ref e.2)) (kP s)=none:=by
 induction bs with
 |nil=>rfl
 |cons a t ih=>
  rw[Ql,Qi,not_or]at h;rw[Ql,zbz]
  ·exact ih h.2
  intro q;exact h.1 (kP_inj q).symm
def valT_in{bs:List ((Str×Str)×Addr)}(nd:(bs.map (·.1)).Nodup){e:(Str×Str)×Addr}(h:e∈bs):valV (bs.map λe=>(kP e.1,V.ref e.2)) (kP e.1)=some (.ref e.2):=by
 induction bs with
 |nil=>cases h
 |cons a t ih=>
  rw[Ql,Ze]at nd;rw[Ql];rcases Qi.mp h with z|z
  ·subst z;exact zc8 rfl
  rw[zbz]
  ·exact ih nd.2 z
  intro q;exact nd.1 (by rw[kP_inj q];exact Qj.mpr ⟨e,z,rfl⟩)
inductive IspSteps(vs:List V)(H:Hp)(Q:VK):Prop
 |mk(d:Nc)(es:List Ent)(h0:vs=[.ref d])(h1:TAt H d es)(h2:es.length≤60)(h3:(∀e∈es,e.2.1.Nodup∧e.2.1.length≤100))(h4:∀(b:Nc) (bs:List ((Str×Str)×Addr)) (H':Hp),BAt H' b bs (row (rsOf es))→(∀s,s∈bs.map (·.1)↔s.1∈row (rsOf es) s.2)→bs.length≤10000→H b=none→Keep [] H H'→Q (.ref b) H')
def spSteps:Sp:=λvs H Q _=>IspSteps vs H Q
def pidx(n j:Nat):Nat:=if j=0 then n-1 else j-1
def atI_prev{zs:List V}{j:Nat}(hj:j<zs.length):atI zs ((j:Int)-1)=zs[BM j]?:=by
 unfold pidx;by_cases h:j=0
 ·subst h;rw[if_pos rfl];unfold atI ixN;have e1:¬(0:Int)≤((0:Nat):Int)-1:=by lia
  have e2:-(zs.length:Int)≤((0:Nat):Int)-1:=by lia
  rw[if_neg e1,if_pos e2];show zs[(((0:Nat):Int)-1+(zs.length:Int)).toNat]?=_;congr 1;lia
 rw[Gm h];have e:(j:Int)-1=((j-1:Nat):Int):=by lia
 rw[e,zau (Qb DH),Qb DH]
def idx_at{zs:Nj}(nd:zs.Nodup){i:Nat}(hi:i<zs.length):zs.idxOf zs[i]=i:=by have h1:zs.idxOf zs[i]<zs.length:=idx_lt (Qm hi);have h2:zs[zs.idxOf zs[i]]=zs[i]:=Uv h1;exact(Wh nd).mp h2
def nxt_idx{zs:Nj}(nd:zs.Nodup){j:Nat}(hj:j<zs.length)(hp:BM j<zs.length):XV zs[BM j]=zs[j]:=by
 unfold nxt;rw[Dv hp];have e:(BM j+1)%zs.length=j:=by
  unfold pidx;by_cases h:j=0
  ·rw[Gh h,h];have:zs.length-1+1=zs.length:=by lia
   rw[this,Nat.mod_self]
  rw[Gm h];have:j-1+1=j:=by lia
  rw[this,Nat.mod_eq_of_lt hj]
 rw[e,Qn,Qb hj];rfl
section
variable{P:Nk}{w:Nl}{K:Nb}{mg:Ng}{base:Np}
def ze6:zaw ["rounds", "behind", "place", "around", "at", "to"] ["rounds"] (zag sSteps):=fsk
def ok_steps{f:Nc}{fd:Nu}(F:Z2 "steps_behind" "steps_behind" sSteps f fd)(mo:mg "enumerate" = none):ZB 1 f fd ["rounds"] spSteps:=by
 refine F.okL ze6 DP;obtain⟨d,es,rfl,T,aP,hok,k⟩:=h;have hu:=zco hr;have aR  :=sizeLine_eq;refine⟨_,zad (KG ze6.nd pe_dnewT)
  (zad (ps_thaw (QE (pi_dict Gu) (N5 ze6.nd)
   (zad (JZ ze6.nd (Y0 Gy))
   (zah (QE (pi_enum rfl mo Rv) (Vv (zbg (zbe 4 ze6.nd) (zbg (zbe 5 ze6.nd) zdm)))
    (zah (zh7 hu Gs (zdn (zaa (zay zet Go (K' Rq zai) DU) Hi)) (zdn (Z1 (UY zae))) rfl)))))))
  (zah (zbo Gs))),?_⟩
 refine λb hb=>?_;have nfz:∀o' u',H d≠some (.frz o' u'):=λo' u' z=>by rw[T.dc]at z;cases z
 have nbd:d≠b:=Vw hb;have k1:Keep [] H (ZQ b (.dT [])):=Keep.new hb;have gb:BAt (ZQ b (.dT [])) b [] Gd:=⟨zac,λe he=>(by cases he),Yh⟩;have T1:TAt (ZQ b (.dT [])) d es:=V1 DI (λ_ _=>by simp);generalize ZQ b (.dT [])=H1 at k1 gb T1;have hbm:∀{H':Hp} {bs:List ((Str×Str)×Addr)},BAt H' b bs Gd→b≠d:=λ_=>Zj nbd;refine⟨_,rfl,d,_,rfl,T1.dc,λo=>for_dict (λi σ H'=>Aj4 (Ex4 λx2 x3 x4 x5=>σ=[DQ d,DQ b,x2,x3,x4,x5]) (H' d=some (.frz o FV)) (Keep [d,b] H1 H') (Ex1 λbs=>X1 (bs.length≤100*i) (∀s,s∈bs.map (·.1)↔s.2∈(es.take i).map (·.1)∧s.1∈ZL s.2)))
  ⟨⟨_,_,_,_,rfl⟩,zac,FQ,[],gb.keep (xs:=[d]) FQ (by simpa using Zj nbd) (λe he=>by cases he),HY,λs=>⟨λh=>(by cases h),λh=>(by cases h.1)⟩⟩
  (λi σ H' _ hh=>hh.2) ?_ ?_⟩
 ·rintro i pr σ H2 qt ⟨⟨x2,x3,x4,x5,rfl⟩,hz,k2,bs,dL,fM,dZ⟩;have hi:i<es.length:=by have:=(Zk.mp qt).1;rwa[Qa]at this
  have g1:pr=((Sum.inr es[i].1:Key),V.ref es[i].2.2):=by rw[Qr,Qb hi]at qt;exact(Qw qt).symm
  subst g1;have dG:es[i]∈es:=Qm hi;obtain⟨aS,hln⟩:=hok _ dG;have eO:ZL es[i].1=es[i].2.1:=zb5 T.nd dG;have eQ:=T1.ro _ dG;have nrd:es[i].2.2≠d:=zbf eQ T1.dc DS;have nrb:es[i].2.2≠b:=zbf eQ gb.dc DS;have iM:=k2 _ _ eQ (by simp[nrd,nrb]);refine⟨RV,RV,d,.ref es[i].2.2,rfl,Gb ⟨_,Sum.inr es[i].1,.inr ⟨o,hz⟩,rfl,(zg8 T.nd dG).symm⟩,?_⟩;have cr:es[i].1∉(es.take i).map (·.1):=by
   have h1:(es.map (·.1)).take Fj=(es.map (·.1)).take i++[es[i].1]:=by rw[Qo (DR Qa hi),Zr]
   have h2:((es.map (·.1)).take Fj).Nodup:=Jp (Jt _ _) T.nd;rw[h1,Zo,←Wu]at h2;exact λz=>h2.2.2 _ z _ RM rfl
  refine⟨_,rfl,es[i].2.2,rfl,⟨_,HQ iM⟩,for_enum (xs:=es[i].2.1.map V.str) (λj σ H'=>Aj4 (Ex2 λx4 x5=>σ=[DQ d,DQ b,FX (.str es[i].1),FX (.ref es[i].2.2),x4,x5]) (H' d=some (.frz o FV)) (Keep [d,b] H1 H') (Ex1 λbs=>X1 (bs.length≤100*i+j) (∀s,s∈bs.map (·.1)↔(s.2∈(es.take i).map (·.1)∧s.1∈ZL s.2)∨∃(m:Nat) (hm:m<j) (hp:pidx es[i].2.1.length m<es[i].2.1.length),s=(es[i].2.1[FH m],es[i].1))))
   ⟨⟨_,_,rfl⟩,hz,k2,bs,dL,fM,λs=>(dZ s).trans ⟨.inl,λh=>by
    rcases h with z|⟨m,hm,_⟩
    ·exact z
    exact absurd hm (Nat.not_lt_zero m)⟩⟩ (λj σ H' _ hh=>hh.3 _ _ eQ (by simp[nrd,nrb])) ?_ ?_⟩
  ·rintro j y t σ H3 hy ⟨⟨y4,y5,rfl⟩,jR,k3,kF,c9,my,fg⟩ ht;have hj:j<es[i].2.1.length:=by have:=(Zk.mp hy).1;rwa[Qa]at this
   have gM:y=.str es[i].2.1[j]:=by rw[Qr,Qb hj]at hy;exact(Qw hy).symm
   subst gM;have qu:pidx es[i].2.1.length j<es[i].2.1.length:=by unfold pidx;split<;>lia
   have qk:=k3 _ _ eQ (by simp[nrd,nrb]);have k4:Keep [] H3 (QN t (.tup [GG j,.str es[i].2.1[j]])):=Keep.new ht;refine⟨t,RV,HQ zac,rfl,_,RV,_,RV,rfl,?_⟩;generalize QN t (.tup [GG j,.str es[i].2.1[j]])=H4 at k4;refine⟨RV,RV,(DO 2),λv hv=>?_⟩;have k5:Keep [] H4 (QZ v (.tup [.str es[i].1,.str es[i].2.1[j]])):=Keep.new hv;have hv5:(QZ v (.tup [.str es[i].1,.str es[i].2.1[j]])) v=some (.tup [.str es[i].1,.str es[i].2.1[j]]):=zac;generalize QZ v (.tup [.str es[i].1,.str es[i].2.1[j]])=H5 at k5 hv5;have jO:Keep [] H3 H5:=k4.trans k5;have qj:=jO _ _ qk DI;have bK:atI (es[i].2.1.map V.str) ((j:Int)-1)=some (.str es[i].2.1[FH j]):=by rw[atI_prev (DR Qa hj),Qa,Qr,Qb qu];rfl
   refine⟨RV,RV,RV,_,RV,rfl,es[i].2.2,_,_,RV,rfl,HQ qj,bK,RV,(DO 2),λq hq=>?_⟩;have k6:Keep [] H5 (Q2 q (.tup [.str es[i].2.1[FH j],.str es[i].1])):=Keep.new hq;have lC:(Q2 q (.tup [.str es[i].2.1[FH j],.str es[i].1])) q=some (.tup ((kP (es[i].2.1[FH j],es[i].1)).map kV)):=zac;generalize Q2 q (.tup [.str es[i].2.1[FH j],.str es[i].1])=H6 at k6 lC;have pM:Keep [] H3 H6:=jO.trans k6;have oK:BAt H6 b kF Gd:=c9.keep pM DI (λ_ _=>by simp);have hv6:=k6 _ _ hv5 DI;have hz6:=pM _ _ jR DI;refine⟨b,RV,DPut.t oK.dc lC Fo,?_⟩;have fm:(es[i].2.1[FH j],es[i].1)∉kF.map (·.1):=λz=>by
    rcases(fg _).mp z with⟨z1,_⟩|⟨m,hm,hpm,e⟩
    ·exact cr z1
    have e1:=(Kr e).1;have e2:=(Wh aS).mp e1;unfold pidx at e2;by_cases cz:j=0
    ·lia
    rw[Gm cz]at e2;by_cases dB:m=0
    ·rw[if_pos dB]at e2;lia
    rw[if_neg dB]at e2;lia
   have iR:putK (kF.map λe=>(kP e.1,V.ref e.2)) (kP (es[i].2.1[FH j],es[i].1)) (DK v)=(kF++[((es[i].2.1[FH j],es[i].1),v)]).map λe=>(kP e.1,V.ref e.2):=by rw[zf4 _ (valT_out fm),Qs];rfl
   have aI:JT (es[i].2.1[FH j],es[i].1)=(es[i].1,es[i].2.1[j]):=by show(es[i].1,nxt (ZL es[i].1) es[i].2.1[FH j])=_;rw[eO,nxt_idx aS hj qu]
   refine⟨⟨_,RV⟩,DY nbd hz6,(Rf (pM.sub DI)).trans FQ,_,⟨by rw[zac,iR],λe he=>?_,?_⟩,?_,λs=>?_⟩
   ·rcases Qg.mp he with z|z
    ·have:=oK.tp e z;rw[zaf (zbf this oK.dc DS)];exact this
    rw[Qc.mp z,aI,zaf (zbf hv6 oK.dc DS)];exact hv6
   ·rw[Qs,Zo];refine⟨c9.nd,Ze.mpr ⟨DI,Yh⟩,λx hx y hy e=>?_⟩;have dR:y=(es[i].2.1[FH j],es[i].1):=by simpa using hy
    exact fm (by rw[←dR,←e];exact hx)
   ·rw[Qk];show _+1≤_;exact zar4 ‹_›
   rw[Qs,Qg,fg];constructor
   ·rintro ((z|⟨m,hm,hp,e⟩)|z)
    ·exact .inl z
    ·exact .inr ⟨m,by exact zhr ‹_›,hp,e⟩
    exact .inr ⟨j,by exact Qd _,qu,DJ z⟩
   rintro (z|⟨m,hm,hp,e⟩)
   ·exact .inl (Gb z)
   by_cases hmj:m < j
   ·exact .inl (G' ⟨m,hmj,hp,e⟩)
   have:m=j:=by lia
   subst this;exact .inr (DR e Qe)
  rintro σ H3 ⟨⟨y4,y5,rfl⟩,jR,k3,kF,c9,my,fg⟩;rw[Qa]at fg my;refine⟨⟨_,_,_,RV⟩,jR,k3,kF,c9,DH,λs=>(fg s).trans ?_⟩;have ce:(es.take Fj).map (·.1)=(es.take i).map (·.1)++[es[i].1]:=by rw[Qo hi,Qs];rfl
  rw[ce,Qg,Qc];constructor
  ·rintro (⟨z1,z2⟩|⟨m,hm,hp,e⟩)
   ·exact⟨Gb z1,z2⟩
   rw[e];exact⟨G' rfl,by rw[eO];exact Qm hp⟩
  rintro⟨z1|z1,z2⟩
  ·exact .inl ⟨z1,z2⟩
  refine .inr ?_;rw[z1,eO]at z2;obtain⟨q,hq,e⟩:=Zb z2;by_cases cw:q+1<es[i].2.1.length
  ·have qw:pidx es[i].2.1.length (q+1) < es[i].2.1.length:=by unfold pidx;rw[Gm DH];assumption
   refine⟨q+1,cw,qw,Prod.ext ?_ z1⟩;show s.1=es[i].2.1[FH (q+1)];rw[←e];congr 1
  have qw:pidx es[i].2.1.length 0 < es[i].2.1.length:=by unfold pidx;rw[Gh rfl];lia
  refine⟨0,DH,qw,Prod.ext ?_ z1⟩;show s.1=es[i].2.1[FH 0];rw[←e];congr 1;unfold pidx;rw[if_pos rfl];lia
 rintro σ H2 ⟨⟨x2,x3,x4,x5,rfl⟩,hz,k2,bs,dL,fM,dZ⟩;rw[Qa]at dZ fM;rw[Qt D9]at dZ;refine⟨d,o,_,hz,nfz,?_⟩;have kf:Keep [] H (QW d FV):=λc u ec _=>by
  have nc:c≠b:=BN hb;by_cases aQ:c=d
  ·subst aQ;rw[zac,←T.dc];exact ec
  rw[zaf aQ];exact k2 c u (k1 c u ec DI) (by simp[aQ,nc])
 refine⟨RV,k b bs _ (dL.keep (xs:=[d]) FQ (by simpa using Zj nbd) (λe he=>by simpa using zbf (dL.tp e he) hz DS)) (λs=>?_) DH hb kf⟩;rw[dZ];constructor
 ·exact λh=>h.2
 intro h;refine⟨?_,h⟩;obtain⟨p,hp,e,_⟩:=(zde (rs:=rsOf es) (by unfold rsOf;rw[List.map_map];exact T.nd)).mpr h;obtain⟨en,aY,rfl⟩:=Qj.mp hp;exact Qj.mpr ⟨en,aY,e⟩
end
end K21
namespace Tim
open PySem PyProof.Rows
def zgx:Bool→Keyed→Array Keyed→Nat→Nat→Nat→StateT SortSt Sem (Option Nat):=sortPriv% PySem.Builtin.gallop
def zen:Array Keyed→Array Keyed→StateT SortSt Sem (Array Keyed):=sortPriv% PySem.Builtin.mergeLo
def zeo:Array Keyed→Array Keyed→StateT SortSt Sem (Array Keyed):=sortPriv% PySem.Builtin.mergeHi
section
variable{prog:Nk}{w:Nl}{A:No}{E:Na}{s:Nh}{kd:SortKind}{O:KeyOrd}{key:Keyed→O.α}{a₀:Array Keyed}
def Cmp(prog:Nk)(w:Nl)(A:No)(E:Na)(s:Nh)(kd:SortKind)(O:KeyOrd)(key:Keyed→O.α)(a₀:Array Keyed):Prop:=
 ∀(x y:Keyed) (st:SortSt) (Q:Option Bool→SortSt→Prop),x∈a₀.toList→y∈a₀.toList→kindOf st=kd→Q (FX (O.blt (key x) (key y))) st→ZE (lt' x y) Q st
def gk(O:KeyOrd)(key:Keyed→O.α)(xs:Array Keyed)(i:Nat):O.α:=match xs[i]? with
 |some p=>key p
 |none=>key (.none,.none)
def zfj{xs:Array Keyed}{i:Nat}{p:Keyed}(h:xs[i]?=some p):ZO xs i=key p:=by unfold gk;rw[h]
def zeu{xs ys:Array Keyed}{i j:Nat}(h:xs[i]?=ys[j]?):ZO xs i=ZO ys j:=by unfold gk;rw[h]
def Of(a₀ xs:Array Keyed):Prop:=∀(i:Nat) (p:Keyed),xs[i]?=some p→p∈a₀.toList
def za0(O:KeyOrd)(key:Keyed→O.α)(left:Bool)(ky:Keyed)(arr:Array Keyed)(i:Nat):Bool:=if left=true then O.blt (ZO arr i) (key ky) else !(O.blt (key ky) (ZO arr i))
def zal{arr:Array Keyed}{i:Nat}{p:Keyed}{Q:Keyed→SortSt→Prop}{st:SortSt}(h:arr[i]?=some p)(q:Q p st):ZE (elem' arr i) Q st:=by rw[elem'_eq,h];exact wpS_pure q
def zd9(left:Bool)(ky:Keyed)(arr:Array Keyed)(i:Nat):QL (Option Bool):=do
 let x ←elem' arr i
 if left=true then lt' x ky else do
  let r ←lt' ky x
  pure (r.map λz=>!z)
def ze3{left:Bool}{ky:Keyed}{arr:Array Keyed}{i:Nat}{Q:Option Bool→SortSt→Prop}{st:SortSt}(C:HL)(hk:kindOf st=kd)(hO:YG arr)(hy:ky∈a₀.toList)(hi:i<arr.size)(q:Q (FX (Q8 i)) st):ZE (Bt i) Q st:=by
 have e:=getElem?_pos arr i hi;unfold zd9;refine wpS_bind (zal e ?_);have m:=hO _ _ e;unfold za0 at q;rw[zfj e]at q;cases left with
 |true=>exact C _ _ _ _ m hy hk q
 |false=>exact wpS_bind (C _ _ _ _ hy m hk (wpS_pure q))
def za5{left:Bool}{ky:Keyed}{arr:Array Keyed}{base n hint:Nat}{Q:Option Nat→SortSt→Prop}{st:SortSt}(C:HL)(hk:kindOf st=kd)(hO:YG arr)(hy:ky∈a₀.toList)(hb:base+n≤arr.size)(hh:hint<n)(mono:∀i j,i≤j→j<n→Q8 (base+j)=true→Q8 (base+i)=true)(h:∀k,k≤n→(∀i,i<k→Q8 (base+i)=true)→(∀i,k≤i→i<n→Q8 (base+i)=false)→Q (FX k) st) :
  wpS D7 A E s (Mj hint) Q st:=by
 generalize hP:(λi=>Q8 (base+i))=P;have eP:∀i,Q8 (base+i)=P i:=λi=>by rw[←hP]
 simp only[eP]at mono h;have ask:∀{i:Nat} {Q':Option Bool→SortSt→Prop},i<n→Q' (FX (P i)) st→ZE (Bt (base+i)) Q' st:=λ{i Q'} hi q=>ze3 C hk hO hy Fx (DR eP q);have anti:∀i j,i≤j→j<n→P i=false→P j=false:=λi j bd hj hi=>by
  cases e:P j with
  |false=>rfl
  |true=>rw[mono i j bd hj e]at hi;exact hi
 have last:∀(f:Nat→(Option Rl×Nat×Nat)→QL (ForInStep (Option Rl×Nat×Nat))) (lo hi:Nat),lo≤hi→hi≤n→(∀i,i<lo→P i=true)→(∀i,hi≤i→i<n→P i=false) →
   (∀x l r Q',l≥r→Q' (ForInStep.done (none,l,r)) st→ZE (f x (none,l,r)) Q' st) →
   (∀x l r Q',¬l≥r→r≤n→(P (l+(r-l)/2)=true→Q' (FM (none,l+(r-l)/2+1,r)) st)→(P (l+(r-l)/2)=false→Q' (FM (none,l,l+(r-l)/2)) st)→ZE (f x (none,l,r)) Q' st) →
   wpS D7 A E s (forIn [:n] (none,lo,hi) f) (λc a7=>a7=st∧∃k,c=(none,k,k)∧k≤n∧(∀i,i<k→P i=true)∧(∀i,k≤i→i<n→P i=false)) st:=by
  intro f lo hi h1 h2 h3 h4 f1 f2;refine wpS_forRange
   (I:=λx c a7=>Aj2 (a7=st) (Ex2 λl r=>Aj6 (c=(none,l,r)) (l≤r) (r≤n) (r-l≤n-x) (∀i,i<l→P i=true) (∀i,r≤i→i<n→P i=false))) ?step ?fin ?init
  case init=>exact⟨rfl,lo,hi,rfl,h1,h2,DH,h3,h4⟩
  case fin=>
   rintro c a7 ⟨rfl,l,r,rfl,a1,a2,a3,a4,a5⟩;have:l=r:=by lia
   subst this;exact⟨rfl,l,rfl,a2,a4,a5⟩
  case step=>
   rintro x c a7 _ hx ⟨rfl,l,r,rfl,a1,a2,a3,a4,a5⟩;by_cases aJ:l≥r
   ·refine f1 x l r _ aJ ?_;have:l=r:=by exact Jr ‹_› ‹_›
    subst this;exact⟨rfl,l,rfl,a2,a4,a5⟩
   refine f2 x l r _ aJ a2 (λe=>?_) λe=>?_
   ·exact⟨rfl,_,RV,DH,by assumption,DH,λi hi=>mono i _ DH DH e,a5⟩
   exact⟨rfl,_,RV,by exact J9 _,DH,DH,a4,λi g1 g2=>anti _ i g1 g2 e⟩
 unfold zgx;refine wpS_bind (ask (i:=hint) hh ?_);cases e0:P hint with
 | true=>
  refine wpS_bind (wpS_mono (wpS_forRange
   (I:=λx c a7=>Aj2 (a7=st) (Ex2 λla of=>Aj5 (c=(none,la,of)) (P (hint+la)=true) (hint+la<n) (la<of) (x<of)))
   (Q:=λc a7=>Aj2 (a7=st) (Ex2 λla of=>Aj5 (c=(none,la,of)) (P (hint+la)=true) (hint+la<n) (la<of) ((n-hint≤of)∨(Aj2 (of<n-hint) (P (hint+of)=false))))) ?step ?fin ?init) ?post)
  case init=>exact⟨rfl,0,1,rfl,e0,hh,by exact Qd _,by exact Qd _⟩
  case fin=>rintro c a7 ⟨rfl,la,of,rfl,a1,a2,a3,a4⟩;exact⟨rfl,la,of,rfl,a1,a2,a3,Gb DH⟩
  case step=>
   rintro x c a7 _ hx ⟨rfl,la,of,rfl,a1,a2,a3,a4⟩;dsimp only;by_cases aJ:of≥n-hint
   ·rw[Gh aJ];exact wpS_pure ⟨rfl,la,of,rfl,a1,a2,a3,Gb aJ⟩
   rw[Gm aJ];refine wpS_bind (ask (i:=hint+of) DH ?_);cases e:P (hint+of) with
   |true=>exact wpS_pure ⟨rfl,of,2*of+1,rfl,e,DH,DH,DH⟩
   |false=>exact wpS_pure ⟨rfl,la,of,rfl,a1,a2,a3,G' ⟨DH,e⟩⟩
  case post=>
   rintro c a7 ⟨rfl,la,of,rfl,a1,a2,a3,a4⟩;refine wpS_bind (wpS_mono (last _ (hint+la+1) (hint+min of (n-hint)) DH DH (λi hi=>mono i _ DH a2 a1) ?_ ?_ ?_) ?_)
   ·intro i g1 g2;rcases a4 with a4|⟨a4,a5⟩
    ·lia
    exact anti _ i DH g2 a5
   ·intro x l r Q' aJ q;dsimp only;rw[if_pos aJ];exact wpS_pure q
   ·intro x l r Q' aJ hr q1 q2;dsimp only;rw[if_neg aJ];refine wpS_bind (ask (i:=l+(r-l)/2) DH ?_);cases e:P (l+(r-l)/2) with
    |true=>exact wpS_pure (q1 e)
    |false=>exact wpS_pure (q2 e)
   rintro c a7 ⟨rfl,k,rfl,b1,b2,b3⟩;exact wpS_pure (h k b1 b2 b3)
 | false=>
  refine wpS_bind (wpS_mono (wpS_forRange
   (I:=λx c a7=>Aj2 (a7=st) (Ex2 λla of=>Aj5 (c=(none,la,of)) (P (hint-la)=false) (la≤hint) (la<of) (x<of)))
   (Q:=λc a7=>Aj2 (a7=st) (Ex2 λla of=>Aj5 (c=(none,la,of)) (P (hint-la)=false) (la≤hint) (la<of) ((hint+1≤of)∨(Aj2 (of<hint+1) (P (hint-of)=true))))) ?step ?fin ?init) ?post)
  case init=>exact⟨rfl,0,1,rfl,e0,by exact Zn _,by exact Qd _,by exact Qd _⟩
  case fin=>rintro c a7 ⟨rfl,la,of,rfl,a1,a2,a3,a4⟩;exact⟨rfl,la,of,rfl,a1,a2,a3,Gb DH⟩
  case step=>
   rintro x c a7 _ hx ⟨rfl,la,of,rfl,a1,a2,a3,a4⟩;dsimp only;by_cases aJ:of≥hint+1
   ·rw[Gh aJ];exact wpS_pure ⟨rfl,la,of,rfl,a1,a2,a3,Gb aJ⟩
   rw[Gm aJ];refine wpS_bind (ask (i:=hint-of) DH ?_);cases e:P (hint-of) with
   |true=>exact wpS_pure ⟨rfl,la,of,rfl,a1,a2,a3,G' ⟨DH,e⟩⟩
   |false=>exact wpS_pure ⟨rfl,of,2*of+1,rfl,e,DH,DH,DH⟩
  case post=>
   rintro c a7 ⟨rfl,la,of,rfl,a1,a2,a3,a4⟩;refine wpS_bind (wpS_mono (last _ (hint+1-min of (hint+1)) (hint-la) DH DH ?_ (λi g1 g2=>anti _ i g1 g2 a1) ?_ ?_) ?_)
   ·intro i hi;rcases a4 with a4|⟨a4,a5⟩
    ·lia
    exact mono i _ DH DH a5
   ·intro x l r Q' aJ q;dsimp only;rw[if_pos aJ];exact wpS_pure q
   ·intro x l r Q' aJ hr q1 q2;dsimp only;rw[if_neg aJ];refine wpS_bind (ask (i:=l+(r-l)/2) DH ?_);cases e:P (l+(r-l)/2) with
    |true=>exact wpS_pure (q1 e)
    |false=>exact wpS_pure (q2 e)
   rintro c a7 ⟨rfl,k,rfl,b1,b2,b3⟩;exact wpS_pure (h k b1 b2 b3)
end
section
variable{σ α β:Type}{M:Model}{A:No}{E:Na}{s:Nh}{Q:α→σ→Prop}{st:σ}{c:Prop}[Decidable c]
def zb9{m:J6 α}(h:∀Q0:α→σ→Prop,(∀r a7,Q r a7→Q0 r a7)→Q6 m Q0 st):Q6 m Q st:=h Q λ_ _ z=>z
def jp_if{f:Unit→β→J6 α}{x y:β}(h:∀z,Q6 (f () z) Q st):Q6 (if c then f () x else f () y) Q st:=by
 split
 ·exact h _
 exact h _
def zam{x y:J6 α}(h1:c→Q6 x Q st)(h2:¬c→Q6 y Q st):Q6 (if c then x else y) Q st:=by
 split
 next z=>exact h1 z
 next z=>exact h2 z
end
section
variable{prog:Nk}{w:Nl}{A:No}{E:Na}{s:Nh}{kd:SortKind}{O:KeyOrd}{key:Keyed→O.α}{a₀:Array Keyed}
def le(O:KeyOrd)(key:Keyed→O.α)(x y:Keyed):Prop:=O.kle (key x) (key y)
structure Jn(O:KeyOrd)(key:Keyed→O.α)(all out ra rb:List Keyed):Prop where
 perm:(out++ra++rb).Perm all
 so:out.Pairwise GZ
 lo:∀x∈out,∀y,(y∈ra∨y∈rb)→Z7 x y
 sa:ra.Pairwise GZ
 sb:rb.Pairwise GZ
variable{all out ra rb seg:List Keyed}
def Jn.appA(j:QJ all out (seg++ra) rb)(h:∀x∈seg,∀y∈rb,Z7 x y):QJ all (out++seg) ra rb:=by
 obtain⟨s1,s2,s3⟩:=Zv.mp j.sa;refine⟨?_,Zv.mpr ⟨j.so,s1,λx hx y hy=>j.lo x hx y (Gb (UT hy))⟩,λx hx y hy=>?_,s2,j.sb⟩
 ·have:=j.perm;simpa[Qq] using this
 rcases Qg.mp hx with q|q
 ·rcases hy with z|z
  ·exact j.lo x q y (Gb (Y6 z))
  exact j.lo x q y (G' z)
 rcases hy with z|z
 ·exact s3 x q y z
 exact h x q y z
def Jn.appB(j:QJ all out ra (seg++rb))(h:∀x∈seg,∀y∈ra,Z7 x y):QJ all (out++seg) ra rb:=by
 obtain⟨s1,s2,s3⟩:=Zv.mp j.sb;refine⟨?_,Zv.mpr ⟨j.so,s1,λx hx y hy=>j.lo x hx y (G' (UT hy))⟩,λx hx y hy=>?_,j.sa,s2⟩
 ·have p1:(out++seg++ra++rb).Perm (out++ra++(seg++rb)):=by rw[Qq out seg,Qq out,Qq,Qq];refine Yb out ?_;rw[←Qq,←Qq];exact Kk rb Yu
  exact p1.trans j.perm
 rcases Qg.mp hx with q|q
 ·rcases hy with z|z
  ·exact j.lo x q y (Gb z)
  exact j.lo x q y (G' (Y6 z))
 rcases hy with z|z
 ·exact h x q y z
 exact s3 x q y z
def Mg(O:KeyOrd)(key:Keyed→O.α)(all res:List Keyed):Prop:=res.Perm all∧res.Pairwise GZ
def Jn.finA(j:QJ all out ra []):Q9 all (out++ra):=
 ⟨by have:=j.perm;rwa[Zu]at this,Zv.mpr ⟨j.so,j.sa,λx hx y hy=>j.lo x hx y (Gb hy)⟩⟩
def Jn.finB(j:QJ all out [] rb):Q9 all (out++rb):=
 ⟨by have:=j.perm;rwa[Zu]at this,Zv.mpr ⟨j.so,j.sb,λx hx y hy=>j.lo x hx y (G' hy)⟩⟩
def Jn.finL(j:QJ all out ra rb)(h:∀x∈rb,∀y∈ra,Z7 x y):Q9 all (out++rb++ra):=by
 refine⟨List.Perm.trans ?_ j.perm,Zv.mpr ⟨Zv.mpr ⟨j.so,j.sb,λx hx y hy=>j.lo x hx y (G' hy)⟩,j.sa,λx hx y hy=>?_⟩⟩
 ·rw[Qq,Qq];exact Yb out Yu
 rcases Qg.mp hx with q|q
 ·exact j.lo x q y (Gb hy)
 exact h x q y hy
def zbq{a:Array Keyed}{i:Nat}(h:i<a.size):a.toList.drop i=a[i]::a.toList.drop Fj:=by rw[Zp (DJ h)];simp
def za8{a:Array Keyed}{i:Nat}:(a.extract i a.size).toList=a.toList.drop i:=by
 have:(a.extract i a.size).toList=(Gn i).take (a.size-i):=by simp
 rw[this];exact Qt DI
def zcp{a:Array Keyed}{i k:Nat}(h:i+k≤a.size):(HJ i (i+k)).toList++a.toList.drop (i+k)=a.toList.drop i:=by
 have e:(HJ i (i+k)).toList=(Gn i).take k:=by simp[List.take_drop]
 rw[e,←List.drop_drop];exact Zh _ _
def zbi{x y z:Keyed}(h1:Z7 x y)(h2:Z7 y z):Z7 x z:=Yl h1 h2
def zdd{x y:Keyed}{l:List Keyed}(p:(x::l).Pairwise GZ)(h:y∈x::l):Z7 x y:=by
 rcases Qi.mp h with e|e
 ·rw[e];exact Yx _
 exact(Wk.mp p).1 y e
def Jn.pushB{a b:Array Keyed}{o:Array Keyed}{ia ib:Nat}(j:Fi all ia ib)(h1:ia<a.size)(h2:ib<b.size)(h:Z7 b[ib] a[ia]) :
  Jn O key all (o.push b[ib]).toList (Gn ia) (GV (ib+1)):=by
 rw[Ws];rw[zbq h2]at j;refine j.appB (seg:=[b[ib]]) λx hx y hy=>?_;rw[Qc.mp hx];have p:=j.sa;rw[zbq h1]at p hy;exact zbi h (V2 hy)
def Jn.pushA{a b:Array Keyed}{o:Array Keyed}{ia ib:Nat}(j:Fi all ia ib)(h1:ia<a.size)(h2:ib<b.size)(h:Z7 a[ia] b[ib]) :
  Jn O key all (o.push a[ia]).toList (Gn (ia+1)) (GV ib):=by
 rw[Ws];rw[zbq h1]at j;refine j.appA (seg:=[a[ia]]) λx hx y hy=>?_;rw[Qc.mp hx];have p:=j.sb;rw[zbq h2]at p hy;exact zbi h (V2 hy)
def zgo{a:Array Keyed}{i k:Nat}{x:Keyed}(h:i+k≤a.size)(hx:x∈(HJ i (i+k)).toList):∃m,∃(hm:i+m<a.size),m<k∧x=a[i+m]:=by
 obtain⟨m,hm,e⟩:=Zb hx;have hz:(HJ i (i+k)).toList.length=k:=by simp;lia
 refine⟨m,DH,by exact zar7 ‹_› ‹_›,?_⟩;rw[←e];simp
def Jn.runA{a b:Array Keyed}{o:Array Keyed}{ia ib k:Nat}(j:Fi all ia ib)(h1:ia+k≤a.size)(h2:ib<b.size)(h:∀m (hm:ia+m<a.size),m<k→Z7 a[ia+m] b[ib]) :
  Jn O key all (o++a.extract ia (ia+k)).toList (Gn (ia+k)) (GV ib):=by
 rw[Zf];rw[←zcp h1]at j;refine j.appA λx hx y hy=>?_;obtain⟨m,hm,iZ,rfl⟩:=zgo h1 hx;have p:=j.sb;rw[zbq h2]at p hy;exact zbi (h m hm iZ) (V2 hy)
def Jn.runB{a b:Array Keyed}{o:Array Keyed}{ia ib k:Nat}(j:Fi all ia ib)(h1:ib+k≤b.size)(h2:ia<a.size)(h:∀m (hm:ib+m<b.size),m<k→Z7 b[ib+m] a[ia]) :
  Jn O key all (o++b.extract ib (ib+k)).toList (Gn ia) (GV (ib+k)):=by
 rw[Zf];rw[←zcp h1]at j;refine j.appB λx hx y hy=>?_;obtain⟨m,hm,iZ,rfl⟩:=zgo h1 hx;have p:=j.sa;rw[zbq h2]at p hy;exact zbi (h m hm iZ) (V2 hy)
def gk_at{xs:Array Keyed}{i:Nat}(h:i<xs.size):ZO xs i=key xs[i]:=zfj (getElem?_pos xs i h)
def srt_get{xs:Array Keyed}(p:xs.toList.Pairwise GZ){i j:Nat}(bd:i≤j)(hj:j<xs.size):Z7 (xs[i]'(Wf bd hj)) xs[j]:=by
 rcases Nat.lt_or_ge i j with h|h
 ·have:=Ua.mp p i j (by simpa using Wf bd hj) (DJ hj) h;simpa using this
 have e:i=j:=by exact Jr ‹_› ‹_›
 subst e;exact Yx _
def zc6{ky:Keyed}{xs:Array Keyed}{base n:Nat}(p:xs.toList.Pairwise GZ)(hb:base+n≤xs.size):∀i j,i≤j→j<n→WN false ky xs (base+j)=true→WN false ky xs (base+i)=true:=by intro i j bd hj h;unfold za0 at h ⊢;rw[gk_at DH]at h ⊢;simp only[Wn,if_false,Yr]at h ⊢;exact Yl (srt_get p (show base+i≤base+j by lia) Fx) (show N8 _ from h)
def zdi{ky:Keyed}{xs:Array Keyed}{base n:Nat}(p:xs.toList.Pairwise GZ)(hb:base+n≤xs.size):∀i j,i≤j→j<n→WN true ky xs (base+j)=true→WN true ky xs (base+i)=true:=by intro i j bd hj h;unfold za0 at h ⊢;rw[gk_at DH]at h ⊢;simp only[if_true]at h ⊢;exact Ku (srt_get p (show base+i≤base+j by lia) Fx) h
def right_le{ky:Keyed}{xs:Array Keyed}{i:Nat}(h:i<xs.size)(e:WN false ky xs i=true):Z7 xs[i] ky:=by unfold za0 at e;rw[gk_at h]at e;simp only[Wn,if_false,Yr]at e;exact e
def right_lt{ky:Keyed}{xs:Array Keyed}{i:Nat}(h:i<xs.size)(e:WN false ky xs i=false):O.klt (key ky) (key xs[i]):=by unfold za0 at e;rw[gk_at h]at e;simp only[Wn,if_false,Jq]at e;exact e
def left_lt{ky:Keyed}{xs:Array Keyed}{i:Nat}(h:i<xs.size)(e:WN true ky xs i=true):O.klt (key xs[i]) (key ky):=by unfold za0 at e;rw[gk_at h]at e;simp only[if_true]at e;exact e
def left_le{ky:Keyed}{xs:Array Keyed}{i:Nat}(h:i<xs.size)(e:WN true ky xs i=false):Z7 ky xs[i]:=by unfold za0 at e;rw[gk_at h]at e;simp only[if_true]at e;exact e
def SG(st a7:SortSt):Prop:=∃g,a7=WS (DZ st) g (failedOf st)
def zd0{a b:Array Keyed}{Q:Array Keyed→SortSt→Prop}{st:SortSt}(C:HL)(hk:kindOf st=kd)(oa:YG a)(ob:YG b)(sa:a.toList.Pairwise GZ)(sb:b.toList.Pairwise GZ)(ha:0<a.size)(hb:0<b.size)(h0:O.klt (key b[0]) (key a[0]))(hl:∀y∈b.toList,Z7 y a[a.size-1])(h:∀(res:Array Keyed) (a7:SortSt),Q9 DM res.toList→XE a7→Q res a7):ZE (zen a b) Q st:=by
 have ia_:∀i (hi:i<a.size),a[i]∈a₀.toList:=λi hi=>oa i _ (getElem?_pos a i hi);have ib_:∀i (hi:i<b.size),b[i]∈a₀.toList:=λi hi=>ob i _ (getElem?_pos b i hi);have ea:∀i (hi:i<a.size),a[i]?=some a[i]:=λi hi=>getElem?_pos a i hi;have eb:∀i (hi:i<b.size),b[i]?=some b[i]:=λi hi=>getElem?_pos b i hi;have sgk:∀{a7},XE a7→kindOf a7=kd:=λ⟨g,e⟩=>by rw[e];exact hk
 have endB:∀{o:Array Keyed} {i k:Nat},QJ DM o.toList (Gn i) (GV k)→k=b.size→Q9 DM (o++a.extract i++b.extract k).toList:=λ{o i k} j e=>by
  rw[Zf,Zf,za8,za8];have z:b.toList.drop k=[]:=by rw[e];simp
  rw[z]at j ⊢;rw[Zu];exact j.finA
 have endA:∀{o:Array Keyed} {i k:Nat},QJ DM o.toList (Gn i) (GV k)→i=a.size→Q9 DM (o++a.extract i++b.extract k).toList:=λ{o i k} j e=>by
  rw[Zf,Zf,za8,za8];have z:a.toList.drop i=[]:=by rw[e];simp
  rw[z]at j ⊢;rw[Zu];exact j.finB
 have endL:∀{o:Array Keyed} {i k:Nat},QJ DM o.toList (Gn i) (GV k)→i+1=a.size→Q9 DM (o++b.extract k++a.extract i).toList:=λ{o i k} j e=>by
  rw[Zf,Zf,za8,za8];refine j.finL λx hx y hy=>?_;rw[zbq DH]at hy;have z:a.toList.drop Fj=[]:=by rw[e];simp
  rw[z]at hy;rw[Qc.mp hy];have:=hl x (Wl hx);have e2:a.size-1=i:=by lia
  simp only[e2]at this;exact this
 unfold zen;refine wpS_bind Fa;refine wpS_bind (zal (eb 0 hb) ?_);have j0:QJ DM (#[b[0]]:Array Keyed).toList (Gn 0) (GV 1):=by have j:QJ DM (#[]:Array Keyed).toList (Gn 0) (GV 0):=⟨DI,List.Pairwise.nil,λx hx=>by simp at hx,sa,sb⟩;exact j.pushB ha hb (Yf h0)
 by_cases c1:b.size=1
 ·rw[Gh (by simp[c1])];exact wpS_pure (h _ _ (endB j0 c1.symm) ⟨_,rfl⟩)
 rw[if_neg (by simp;lia)];by_cases c2:a.size=1
 ·rw[Gh (by simp[c2])];exact wpS_pure (h _ _ (endL j0 DH) ⟨_,rfl⟩)
 rw[if_neg (by simp;lia)];refine wpS_bind (wpS_get ?_);refine wpS_bind (wpS_mono (wpS_forRange
  (I:=λx c a7=>QA (Ex4 λo i k g=>Aj5 (c=(none,o,i,k,g)) (i+1<a.size) (k<b.size) (Fi DM i k) (x≤i+k)))
  (Q:=λc a7=>QA Fy) ?step ?fin ?init) ?post)
 case init=>exact⟨⟨RV⟩,_,0,1,RV,DH,DH,j0,by exact Zn _⟩
 case fin=>rintro c a7 ⟨_,o,i,k,g,rfl,a1,a2,a3,a4⟩;exfalso;lia
 case post=>rintro c a7 ⟨g,res,r,rfl,m⟩;exact wpS_pure (h res a7 m g)
 case step=>
  rintro x c ak _ hx ⟨g1,o1,i1,k1,mg,rfl,a1,a2,a3,a4⟩;dsimp -zeta only;refine wpS_bind (wpS_mono (wpS_forRange
   (I:=λy c a7=>Aj2 (a7=ak) (Ex5 λo i k ac bc=>Aj5 (c=(none,o,i,k,ac,bc)) (i+1<a.size) (k<b.size) (Fi DM i k) (i1+k1+y≤i+k)))
   (Q:=λc a7=>Aj2 (a7=ak) (Fy∨(Ex5 λo i k ac bc=>Aj5 (c=(none,o,i,k,ac,bc)) (i+1<a.size) (k<b.size) (Fi DM i k) (i1+k1<i+k)))) ?step1 ?fin1 ?init1) ?post1)
  case init1=>exact⟨rfl,o1,i1,k1,0,0,rfl,a1,a2,a3,by exact Qd _⟩
  case fin1=>rintro c a7 ⟨_,o,i,k,ac,bc,rfl,b1,b2,b3,b4⟩;exfalso;lia
  case step1=>
   rintro y c au _ hy ⟨rfl,o,i,k,ac,bc,rfl,b1,b2,b3,b4⟩;dsimp -zeta only;refine wpS_bind (XF (wpS_bind (zal (ea i Fd) (wpS_bind (C _ _ _ _ (ib_ k b2) (ia_ i Fd) (sgk g1) ?_)))));cases e:O.blt (key b[k]) (key (a[i]'(by exact Zt ‹_›))) with
   |true=>
    dsimp -zeta only;rw[if_pos rfl];refine wpS_bind (XF ?_);have j:=b3.pushB Fd b2 (Yf (show Va _ from e));by_cases d1:k+1=b.size
    ·rw[Gh (by simp[d1])];exact wpS_pure ⟨rfl,Gb ⟨_,_,rfl,endB j d1⟩⟩
    rw[Gm (by simp[d1])];by_cases d2:bc+1≥mg
    ·rw[Gh d2];exact wpS_pure ⟨rfl,G' ⟨_,i,k+1,_,_,rfl,b1,by exact zar5 ‹_› ‹_›,j,DH⟩⟩
    rw[Gm d2];exact wpS_pure ⟨rfl,_,i,k+1,_,_,rfl,b1,by exact zar5 ‹_› ‹_›,j,by exact zar4 ‹_›⟩
   |false=>
    dsimp -zeta only;rw[if_neg DI];refine wpS_bind (zal (ea i Fd) ?_);have j:=b3.pushA Fd b2 (show Z7 _ _ from e);by_cases d1:i+1+1=a.size
    ·rw[Gh (by simp[d1])];exact wpS_pure ⟨rfl,Gb ⟨_,_,rfl,endL j d1⟩⟩
    rw[Gm (by simp[d1])];by_cases d2:ac+1≥mg
    ·rw[Gh d2];exact wpS_pure ⟨rfl,G' ⟨_,i+1,k,_,_,rfl,by exact zar5 ‹_› ‹_›,b2,j,DH⟩⟩
    rw[Gm d2];exact wpS_pure ⟨rfl,_,i+1,k,_,_,rfl,by exact zar5 ‹_› ‹_›,b2,j,DH⟩
  case post1=>
   rintro c au ⟨rfl,⟨res,r,rfl,m⟩|⟨o2,i2,k2,sG,sD,rfl,b1,b2,b3,b4⟩⟩
   ·exact wpS_pure ⟨g1,res,_,rfl,m⟩
   dsimp -zeta only;refine wpS_bind Fa;refine wpS_bind (wpS_mono (wpS_forRange
    (I:=λy c a7=>QA (Ex6 λo i k g ac bc=>Aj5 (c=(none,o,i,k,g,ac,bc)) (i+1<a.size) (k<b.size) (Fi DM i k) (i2+k2≤i+k)))
    (Q:=λc a7=>QA (Fy∨(Ex6 λo i k g ac bc=>Aj5 (c=(none,o,i,k,g,ac,bc)) (i+1<a.size) (k<b.size) (Fi DM i k) (i2+k2≤i+k)))) ?step2 ?fin2 ?init2) ?post2)
   case init2=>exact⟨g1,o2,i2,k2,_,_,RV,b1,b2,b3,D9⟩
   case fin2=>rintro c a7 ⟨g,o,i,k,g',ac,bc,rfl,c1,c2,c3,c4⟩;exact⟨g,G' ⟨o,i,k,g',ac,bc,rfl,c1,c2,c3,c4⟩⟩
   case post2=>
    rintro c ae ⟨g3,⟨res,r,rfl,m⟩|⟨o3,i3,k3,g',jF,jD,rfl,c1,c2,c3,c4⟩⟩
    ·exact wpS_pure ⟨g3,res,_,rfl,m⟩
    dsimp -zeta only;refine wpS_bind (wpS_modify ?_);obtain⟨gg,e3⟩:=g3;exact wpS_pure ⟨⟨_,by rw[e3]⟩,o3,i3,k3,_,rfl,c1,c2,c3,DH⟩
   case step2=>
    rintro y c ae _ hy ⟨g3,o3,i3,k3,pF,jF,jD,rfl,c1,c2,c3,c4⟩;refine zb9 λQ0 aA=>?_;dsimp -zeta only;have sgm:∀g',XE (Gp g'):=λg'=>by obtain⟨g,e⟩:=g3;exact⟨g',by rw[e]⟩
    extract_lets -underBinder+onlyGivenNames s1 out s2 ia s3 ib s4 mn s5 ac bc jp;refine jp_if (f:=jp) λm'=>wpS_bind (wpS_modify (wpS_bind (BG (wpS_bind (za5 (base:=i3) (n:=a.size-i3) (hint:=0) C HX oa (ib_ k3 c2) DH DH (zc6 sa DH) λk q1 q2 q3=>?_)))));dsimp -zeta only;have kS:∀hi:i3+k<a.size,O.klt (key b[k3]) (key a[i3+k]):=λhi=>right_lt hi (q3 k D9 DH);have jr:=c3.runA (k:=k) DH c2 λm hm iZ=>right_le hm (q2 m iZ);extract_lets -underBinder+onlyGivenNames ac' jp2;have h2:∀(n':Nat) (o':Array Keyed) (f1:n'+1<a.size),i3≤n'→QJ DM o'.toList (Gn n') (GV k3)→O.klt (key b[k3]) (key (a[n']'(by exact Zt ‹_›)))→ZE (jp2 () o' n') Q0 (Gp m'):=by
     intro n' o' f1 f2 fJ fl;have f0:n'<a.size:=by exact Zt ‹_›
     refine wpS_bind (BG ?_);have fK:=fJ.pushB f0 c2 (Yf fl);refine zam (λd=>?_) (λd=>?_)
     ·exact wpS_pure (D8 ⟨_,_,rfl,endB fK (GX d)⟩)
     have d':¬k3+1=b.size:=λz=>d D1;refine wpS_bind (BH (wpS_bind (za5 (base:=k3+1) (n:=b.size-(k3+1)) (hint:=0) C HX ob (ia_ n' f0) DH DH (zdi sb DH) λk' r1 r2 r3=>?_)));dsimp -zeta only;have js:=fK.runB (k:=k') DH f0 λm hm iZ=>Yf (left_lt hm (r2 m iZ));have kT:=λhi:k3+1+k'<b.size=>left_le hi (r3 k' D9 DH);extract_lets -underBinder+onlyGivenNames bc' jp3;have h3:∀(m2:Nat) (o2:Array Keyed) (p1:m2<b.size),k3+1≤m2→QJ DM o2.toList (Gn n') (GV m2)→Z7 a[n'] b[m2]→ZE (jp3 () o2 m2) Q0 (Gp m'):=by
      intro m2 o2 p1 p2 pJ pl;refine wpS_bind (BH ?_);have pK:=pJ.pushA f0 p1 pl;refine zam (λd=>?_) (λd=>?_)
      ·exact wpS_pure (D8 ⟨_,_,rfl,endL pK (GX d)⟩)
      have d2:¬n'+1+1=a.size:=λz=>d D1;refine zam (λ_=>?_) (λ_=>?_)
      ·exact wpS_pure (aA _ _ ⟨sgm _,G' ⟨_,n'+1,m2,_,_,_,rfl,by exact zar5 ‹_› ‹_›,p1,pK,DH⟩⟩)
      exact wpS_pure (aA _ _ ⟨sgm _,_,n'+1,m2,_,_,_,rfl,by exact zar5 ‹_› ‹_›,p1,pK,DH⟩)
     refine zam (λkz=>?_) (λkz=>?_)
     ·refine zam (λd4=>?_) (λd4=>?_)
      ·exact wpS_pure (D8 ⟨_,_,rfl,endB js (GX d4)⟩)
      have su:¬k3+1+k'=b.size:=λz=>d4 D1;have p1:k3+1+k'<b.size:=by lia
      exact h3 (k3+1+k') _ p1 (J9 _) js (kT p1)
     have kU:k'=0:=Nat.eq_zero_of_not_pos kz;have p1:k3+1<b.size:=by exact zar5 ‹_› ‹_›
     subst kU;exact h3 (k3+1) _ p1 D9 fK (kT p1)
    refine zam (λkz=>?_) (λkz=>?_)
    ·refine zam (λd=>?_) (λd=>?_)
     ·exact wpS_pure (D8 ⟨_,_,rfl,endL jr (GX d)⟩)
     refine zam (λe=>?_) (λe=>?_)
     ·exact wpS_pure (D8 ⟨_,_,rfl,endA jr (GX e)⟩)
     have d':¬i3+k+1=a.size:=λz=>d D1;have e':¬i3+k=a.size:=λz=>e D1;have f1:i3+k+1<a.size:=by lia
     exact h2 (i3+k) _ f1 (J9 _) jr (kS Fd)
    have kU:k=0:=Nat.eq_zero_of_not_pos kz;subst kU;exact h2 i3 _ c1 D9 c3 (kS Fd)
def opp(O:KeyOrd):KeyOrd where
 α:=O.α
 blt:=λa b=>O.blt b a
 irrefl:=O.irrefl
 trans:=λa b c h1 h2=>O.trans c b a h2 h1
 negTrans:=λa b c h=>(O.negTrans c b a h).symm
 total:=λa b h1 h2=>O.total a b h2 h1
def Jn.finM(j:QJ all out ra rb)(h:∀x∈ra,∀y∈rb,Z7 x y):Q9 all (out++ra++rb):=
 ⟨j.perm,Zv.mpr ⟨Zv.mpr ⟨j.so,j.sa,λx hx y hy=>j.lo x hx y (Gb hy)⟩,j.sb,λx hx y hy=>by
  rcases Qg.mp hx with q|q
  ·exact j.lo x q y (G' hy)
  exact h x q y hy⟩⟩
abbrev Jh(O:KeyOrd)(key:Keyed→O.α)(all:List Keyed)(o a b:Array Keyed)(na nb:Nat):Prop:=WK (Gw na).reverse (b.toList.take nb).reverse
def Mg.flip{res:List Keyed}(m:Mg (opp O) key all res):Q9 all res.reverse:=
 ⟨(Ui res).trans m.1,Bc.mpr (m.2.imp λh=>h)⟩
def zc9{a:Array Keyed}{n:Nat}(h:n<a.size):(Gw (n+1)).reverse=a[n]::(Gw n).reverse:=by
 rw[List.take_add_one];have e:a.toList[n]?=some a[n]:=by simp[h]
 rw[e];simp
def rev_seg{a:Array Keyed}{i n:Nat}(hi:i≤n)(h:n≤a.size):(HJ i n).toList.reverse++(Gw i).reverse=(Gw n).reverse:=by
 rw[←List.reverse_append];congr 1;have e:(HJ i n).toList=(Gw n).drop i:=by simp[List.drop_take]
 rw[e];have e2:a.toList.take i=(Gw n).take i:=by rw[List.take_take];congr 1;lia
 rw[e2];exact Zh _ _
def zb4{a:Array Keyed}{n:Nat}:(HJ 0 n).toList=a.toList.take n:=by simp
variable{a b o:Array Keyed}{na nb:Nat}
def Jh.pushA(j:WA all o a b (na+1) (nb+1))(h1:na<a.size)(h2:nb<b.size)(h:Z7 b[nb] a[na]):WA all (o.push a[na]) a b na (nb+1):=by show Bl _;rw[Ws];have j':WK (Gw (na+1)).reverse (b.toList.take (nb+1)).reverse:=j;rw[zc9 h1]at j';refine Jn.appA (seg:=[a[na]]) j' λx hx y hy=>?_;rw[Qc.mp hx];have p:=j'.sb;rw[zc9 h2]at p hy;exact zbi (O:=opp O) h (V2 hy)
def Jh.pushB(j:WA all o a b (na+1) (nb+1))(h1:na<a.size)(h2:nb<b.size)(h:Z7 a[na] b[nb]):WA all (o.push b[nb]) a b (na+1) nb:=by show Bl _;rw[Ws];have j':WK (Gw (na+1)).reverse (b.toList.take (nb+1)).reverse:=j;rw[zc9 h2]at j';refine Jn.appB (seg:=[b[nb]]) j' λx hx y hy=>?_;rw[Qc.mp hx];have p:=j'.sa;rw[zc9 h1]at p hy;exact zbi (O:=opp O) h (V2 hy)
def mem_ext{a:Array Keyed}{i n:Nat}{x:Keyed}(h:n≤a.size)(hx:x∈(HJ i n).toList.reverse):∃m,∃(hm:m<a.size),i≤m∧m<n∧x=a[m]:=by
 obtain⟨m,hm,e⟩:=Zb (Xq.mp hx);have hz:(HJ i n).toList.length=n-i:=by simp;lia
 refine⟨i+m,DH,by exact J9 _,DH,?_⟩;rw[←e];simp
def Jh.runA{at_:Nat}(j:WA all o a b na (nb+1))(hi:at_≤na)(h1:na≤a.size)(h2:nb<b.size)(h:∀m (hm:m<a.size),at_≤m→m<na→Z7 b[nb] a[m]):WA all (o++(HJ at_ na).reverse) a b at_ (nb+1):=by show Bl _;rw[Zf,Wo];have j':WK (Gw na).reverse (b.toList.take (nb+1)).reverse:=j;rw[←rev_seg hi h1]at j';refine Jn.appA j' λx hx y hy=>?_;obtain⟨m,hm,m1,m2,rfl⟩:=mem_ext h1 hx;have p:=j'.sb;rw[zc9 h2]at p hy;exact zbi (O:=opp O) (h m hm m1 m2) (V2 hy)
def Jh.runB{at_:Nat}(j:WA all o a b (na+1) nb)(hi:at_≤nb)(h1:nb≤b.size)(h2:na<a.size)(h:∀m (hm:m<b.size),at_≤m→m<nb→Z7 a[na] b[m]):WA all (o++(b.extract at_ nb).reverse) a b (na+1) at_:=by show Bl _;rw[Zf,Wo];have j':WK (Gw (na+1)).reverse (b.toList.take nb).reverse:=j;rw[←rev_seg hi h1]at j';refine Jn.appB j' λx hx y hy=>?_;obtain⟨m,hm,m1,m2,rfl⟩:=mem_ext h1 hx;have p:=j'.sa;rw[zc9 h2]at p hy;exact zbi (O:=opp O) (h m hm m1 m2) (V2 hy)
def zd1{Q:Array Keyed→SortSt→Prop}{st:SortSt}(C:HL)(hk:kindOf st=kd)(oa:YG a)(ob:YG b)(sa:a.toList.Pairwise GZ)(sb:b.toList.Pairwise GZ)(ha:0<a.size)(hb:0<b.size)(h0:O.klt (key b[0]) (key a[0]))(hl:∀y∈b.toList,Z7 y a[a.size-1])(h:∀(res:Array Keyed) (a7:SortSt),Q9 DM res.toList→XE a7→Q res a7):ZE (zeo a b) Q st:=by
 have ia_:∀i (hi:i<a.size),a[i]∈a₀.toList:=λi hi=>oa i _ (getElem?_pos a i hi);have ib_:∀i (hi:i<b.size),b[i]∈a₀.toList:=λi hi=>ob i _ (getElem?_pos b i hi);have ea:∀i (hi:i<a.size),a[i]?=some a[i]:=λi hi=>getElem?_pos a i hi;have eb:∀i (hi:i<b.size),b[i]?=some b[i]:=λi hi=>getElem?_pos b i hi;have sgk:∀{a7},XE a7→kindOf a7=kd:=λ⟨g,e⟩=>by rw[e];exact hk
 have endA:∀{o:Array Keyed} {i k:Nat},WA DM o a b i k→i=0→Q9 DM (a.extract 0 i++b.extract 0 k++o.reverse).toList:=λ{o i k} j e=>by subst e;have j':Jn (opp O) key DM o.toList [] (b.toList.take k).reverse:=j;have m:=j'.finB.flip;rw[Zf,Zf,Wo,zb4,zb4];simpa using m
 have endB:∀{o:Array Keyed} {i k:Nat},WA DM o a b i k→k=0→Q9 DM (a.extract 0 i++b.extract 0 k++o.reverse).toList:=λ{o i k} j e=>by subst e;have j':Jn (opp O) key DM o.toList (Gw i).reverse []:=j;have m:=j'.finA.flip;rw[Zf,Zf,Wo,zb4,zb4];simpa using m
 have endL:∀{o:Array Keyed} {i k:Nat},WA DM o a b i k→k=1→Q9 DM (b.extract 0 k++a.extract 0 i++o.reverse).toList:=λ{o i k} j e=>by
  subst e;have m:=(Jn.finM j λx hx y hy=>?_).flip
  ·rw[Zf,Zf,Wo,zb4,zb4];simpa using m
  rw[zc9 hb]at hy;simp only[List.take_zero,List.reverse_nil,Qc]at hy;rw[hy];have cc:x∈a.toList:=Wc (Xq.mp hx);have e0:a.toList=a[0]::a.toList.drop 1:=by have:=zbq (a:=a) ha;simpa using this
  rw[e0]at cc sa;exact Yl (O:=O) (Yf h0) (zdd sa cc)
 obtain⟨n0,hn0⟩:∃n0,a.size=n0+1:=⟨a.size-1,DH⟩;obtain⟨m0,dB⟩:∃m0,b.size=m0+1:=⟨b.size-1,DH⟩;have bq:n0<a.size:=by lia
 have hm1:m0<b.size:=by lia
 have j0:WA DM (#[a[n0]]:Array Keyed) a b n0 b.size:=by
  have j:WA DM (#[]:Array Keyed) a b (n0+1) (m0+1):=by have e1:a.toList.take (n0+1)=a.toList:=Qt (by simp;lia);have e2:b.toList.take (m0+1)=b.toList:=Qt (by simp;lia);show Bl _;rw[e1,e2];exact⟨by simpa using List.Perm.append (Ui _) (Ui _),List.Pairwise.nil,λx hx=>by simp at hx,Bc.mpr (sa.imp λh=>h),Bc.mpr (sb.imp λh=>h)⟩
  rw[dB];refine j.pushA bq hm1 ?_;have:=hl b[m0] DI;have e2:a.size-1=n0:=by lia
  simp only[e2]at this;exact this
 unfold zeo;refine wpS_bind Fa;have e2:a.size-1=n0:=by lia
 simp -zeta only[e2];refine wpS_bind (zal (ea n0 bq) ?_);by_cases c1:n0=0
 ·rw[Gh (by simp[c1])];exact wpS_pure (h _ _ (endA j0 c1) ⟨_,rfl⟩)
 rw[if_neg (by simp[c1])];by_cases c2:b.size=1
 ·rw[Gh (by simp[c2])];exact wpS_pure (h _ _ (endL j0 c2) ⟨_,rfl⟩)
 rw[if_neg (by simp[c2])];refine wpS_bind (wpS_get ?_);obtain⟨n1,rfl⟩:∃n1,n0=n1+1:=⟨n0-1,by exact zar14 ‹_›⟩;obtain⟨m1,br⟩:∃m1,b.size=m1+1+1:=⟨b.size-2,DH⟩;rw[show b.size=m1+1+1 from br]at j0;refine wpS_bind (wpS_mono (wpS_forRange
  (I:=λx c a7=>QA (Ex4 λo i k g=>Aj5 (c=(none,i+1,k+1+1,o,g)) (i<a.size) (k+1<b.size) (WA DM o a b Fj (k+1+1)) (i+k+x+4≤a.size+b.size)))
  (Q:=λc a7=>QA Fy) ?step ?fin ?init) ?post)
 case init=>exact⟨⟨RV⟩,_,n1,m1,_,by rw[br],Fd,DH,j0,DH⟩
 case fin=>rintro c a7 ⟨_,o,i,k,g,rfl,a1,a2,a3,a4⟩;exfalso;lia
 case post=>rintro c a7 ⟨g,res,r,rfl,m⟩;exact wpS_pure (h res a7 m g)
 case step=>
  rintro x c ak _ hx ⟨g1,o1,i1,k1,mg,rfl,a1,a2,a3,a4⟩;dsimp -zeta only;refine wpS_bind (wpS_mono (wpS_forRange
   (I:=λy c a7=>Aj2 (a7=ak) (Ex5 λo i k ac bc=>Aj5 (c=(none,i+1,k+1+1,o,ac,bc)) (i<a.size) (k+1<b.size) (WA DM o a b Fj (k+1+1)) (i+k+y≤i1+k1)))
   (Q:=λc a7=>Aj2 (a7=ak) (Fy∨(Ex5 λo i k ac bc=>Aj5 (c=(none,i+1,k+1+1,o,ac,bc)) (i<a.size) (k+1<b.size) (WA DM o a b Fj (k+1+1)) (i+k<i1+k1)))) ?step1 ?fin1 ?init1) ?post1)
  case init1=>exact⟨rfl,o1,i1,k1,0,0,rfl,a1,a2,a3,by exact Qd _⟩
  case fin1=>rintro c a7 ⟨_,o,i,k,ac,bc,rfl,b1,b2,b3,b4⟩;exfalso;lia
  case step1=>
   rintro y c au _ hy ⟨rfl,o,i,k,ac,bc,rfl,b1,b2,b3,b4⟩;dsimp -zeta only;simp only[Nat.add_sub_cancel];refine wpS_bind (zal (eb (k+1) b2) (wpS_bind (XG (wpS_bind (C _ _ _ _ (ib_ (k+1) b2) (ia_ i b1) (sgk g1) ?_)))));cases e:O.blt (key b[k+1]) (key a[i]) with
   |true=>
    dsimp -zeta only;rw[if_pos rfl];refine wpS_bind (XG ?_);have j:=b3.pushA b1 b2 (Yf (show Va _ from e));by_cases d1:i=0
    ·rw[Gh (by simp[d1])];exact wpS_pure ⟨rfl,Gb ⟨_,_,rfl,endA j d1⟩⟩
    rw[Gm (by simp[d1])];obtain⟨i',rfl⟩:∃i',i=i'+1:=⟨i-1,by exact zar14 ‹_›⟩;by_cases d2:ac+1≥mg
    ·rw[Gh d2];exact wpS_pure ⟨rfl,G' ⟨_,i',k,_,_,rfl,Fd,b2,j,DH⟩⟩
    rw[Gm d2];exact wpS_pure ⟨rfl,_,i',k,_,_,rfl,Fd,b2,j,DH⟩
   |false=>
    dsimp -zeta only;rw[if_neg DI];refine wpS_bind (zal (eb (k+1) b2) ?_);have j:=b3.pushB b1 b2 (show Z7 _ _ from e);by_cases d1:k+1=1
    ·rw[Gh (DJ d1)];exact wpS_pure ⟨rfl,Gb ⟨_,_,rfl,endL j d1⟩⟩
    rw[Gm (DJ d1)];obtain⟨k',rfl⟩:∃k',k=k'+1:=⟨k-1,DH⟩;by_cases d2:bc+1≥mg
    ·rw[Gh d2];exact wpS_pure ⟨rfl,G' ⟨_,i,k',_,_,rfl,b1,Fd,j,DH⟩⟩
    rw[Gm d2];exact wpS_pure ⟨rfl,_,i,k',_,_,rfl,b1,Fd,j,DH⟩
  case post1=>
   rintro c au ⟨rfl,⟨res,r,rfl,m⟩|⟨o2,i2,k2,sG,sD,rfl,b1,b2,b3,b4⟩⟩
   ·exact wpS_pure ⟨g1,res,_,rfl,m⟩
   dsimp -zeta only;refine wpS_bind Fa;refine wpS_bind (wpS_mono (wpS_forRange
    (I:=λy c a7=>QA (Ex6 λo i k g ac bc=>Aj5 (c=(none,i+1,k+1+1,o,g,ac,bc)) (i<a.size) (k+1<b.size) (WA DM o a b Fj (k+1+1)) (i+k≤i2+k2)))
    (Q:=λc a7=>QA (Fy∨(Ex6 λo i k g ac bc=>Aj5 (c=(none,i+1,k+1+1,o,g,ac,bc)) (i<a.size) (k+1<b.size) (WA DM o a b Fj (k+1+1)) (i+k≤i2+k2)))) ?step2 ?fin2 ?init2) ?post2)
   case init2=>exact⟨g1,o2,i2,k2,_,_,RV,b1,b2,b3,D9⟩
   case fin2=>rintro c a7 ⟨g,o,i,k,g',ac,bc,rfl,c1,c2,c3,c4⟩;exact⟨g,G' ⟨o,i,k,g',ac,bc,rfl,c1,c2,c3,c4⟩⟩
   case post2=>
    rintro c ae ⟨g3,⟨res,r,rfl,m⟩|⟨o3,i3,k3,g',jF,jD,rfl,c1,c2,c3,c4⟩⟩
    ·exact wpS_pure ⟨g3,res,_,rfl,m⟩
    dsimp -zeta only;refine wpS_bind (wpS_modify ?_);obtain⟨gg,e3⟩:=g3;exact wpS_pure ⟨⟨_,by rw[e3]⟩,o3,i3,k3,_,rfl,c1,c2,c3,DH⟩
   case step2=>
    rintro y c ae _ hy ⟨g3,o3,i3,k3,pF,jF,jD,rfl,c1,c2,c3,c4⟩;refine zb9 λQ0 aA=>?_;dsimp -zeta only;have sgm:∀g',XE (Gp g'):=λg'=>by obtain⟨g,e⟩:=g3;exact⟨g',by rw[e]⟩
    extract_lets -underBinder+onlyGivenNames s1 na s2 nb s3 out s4 mn s5 ac bc jp;refine jp_if (f:=jp) λm'=>wpS_bind (wpS_modify (wpS_bind (zal (eb (k3+1) c2) (wpS_bind (za5 (n:=i3+1) (hint:=i3) C HX oa (ib_ (k3+1) c2) DH (by exact Qd _) (zc6 sa DH) λfQ q1 q2 q3=>?_)))));dsimp -zeta only;have jr:=c3.runA (at_:=fQ) q1 (by assumption) c2 λm hm m1 m2=>Yf (right_lt hm (by have:=q3 m m1 m2;rwa[Jy]at this));have kS:=λ(t:Nat) (ht:t<fQ) (hi:t<a.size)=>right_le (O:=O) (key:=key) (ky:=b[k3+1]) hi (by have:=q2 t ht;rwa[Jy]at this);extract_lets -underBinder+onlyGivenNames kk ac' jp2;have h2:∀(n':Nat) (o':Array Keyed) (f1:n'<a.size),n'≤i3→WA DM o' a b (n'+1) (k3+1+1)→Z7 a[n'] b[k3+1]→ZE (jp2 () (n'+1) o') Q0 (Gp m'):=by
     intro n' o' f1 f2 fJ fl;refine wpS_bind (zal (eb (k3+1) c2) ?_);have fK:=fJ.pushB f1 c2 fl;refine zam (λd=>?_) (λd=>?_)
     ·exact wpS_pure (D8 ⟨_,_,rfl,endL fK (GX d)⟩)
     have d':¬k3+1=1:=λz=>d D1;refine wpS_bind (BI (wpS_bind (za5 (n:=k3+1) (hint:=k3) C HX ob (ia_ n' f1) DH (by exact Qd _) (zdi sb DH) λdO r1 r2 r3=>?_)));dsimp -zeta only;have js:=fK.runB (at_:=dO) r1 Fd f1 λm hm m1 m2=>left_le hm (by have:=r3 m m1 m2;rwa[Jy]at this);have kT:=λ(t:Nat) (ht:t<dO) (hi:t<b.size)=>Yf (left_lt (O:=O) (key:=key) (ky:=a[n']) hi (by have:=r2 t ht;rwa[Jy]at this));extract_lets -underBinder+onlyGivenNames nQ bc' jp3;have h3:∀(m2:Nat) (o2:Array Keyed) (p1:m2+1<b.size),m2≤k3→WA DM o2 a b (n'+1) (m2+1+1)→Z7 b[m2+1] a[n']→ZE (jp3 () (m2+1+1) o2) Q0 (Gp m'):=by
      intro m2 o2 p1 p2 pJ pl;refine wpS_bind (BI ?_);have pK:=pJ.pushA f1 p1 pl;refine zam (λd=>?_) (λd=>?_)
      ·exact wpS_pure (D8 ⟨_,_,rfl,endA pK (GX d)⟩)
      have d2:¬n'=0:=λz=>d D1;cases n' with
      |zero=>exact absurd rfl d2
      |succ t=>
       refine zam (λ_=>?_) (λ_=>?_)
       ·exact wpS_pure (aA _ _ ⟨sgm _,G' ⟨_,t,m2,_,_,_,rfl,Fd,p1,pK,DH⟩⟩)
       exact wpS_pure (aA _ _ ⟨sgm _,_,t,m2,_,_,_,rfl,Fd,p1,pK,DH⟩)
     refine zam (λkz=>?_) (λkz=>?_)
     ·refine zam (λd4=>?_) (λd4=>?_)
      ·exact wpS_pure (D8 ⟨_,_,rfl,endL js (GX d4)⟩)
      refine zam (λd5=>?_) (λd5=>?_)
      ·exact wpS_pure (D8 ⟨_,_,rfl,endB js (GX d5)⟩)
      have su:¬dO=1:=λz=>d4 D1;have d5':¬dO=0:=λz=>d5 D1;obtain⟨m2,e2⟩:∃m2,dO=m2+1+1:=⟨dO-2,DH⟩;have:=h3 m2 _ DH DH (by rw[←e2];exact js) (kT (m2+1) DH DH);rw[←e2]at this;exact this
     have kU:¬ k3+1 - dO > 0:=kz;obtain⟨m2,e2⟩:∃m2,k3=m2+1:=⟨k3-1,DH⟩;have:=h3 m2 _ DH DH (by rw[←e2];exact fK) (kT (m2+1) DH DH);rw[←e2]at this;exact this
    refine zam (λkz=>?_) (λkz=>?_)
    ·refine zam (λd=>?_) (λd=>?_)
     ·exact wpS_pure (D8 ⟨_,_,rfl,endA jr (GX d)⟩)
     have d':¬fQ=0:=λz=>d D1;obtain⟨n',e1⟩:∃n',fQ=n'+1:=⟨fQ-1,by exact zar14 ‹_›⟩;have:=h2 n' _ DH DH (by rw[←e1];exact jr) (kS n' DH DH);rw[←e1]at this;exact this
    have kU:¬ i3+1 - fQ > 0:=kz;exact h2 i3 _ c1 D9 c3 (kS i3 DH c1)
variable{pre:Array Keyed}{p:Array (Nat×Nat×Nat)}{lo:Nat}
structure Bs(kd:SortKind)(a₀:Array Keyed)(p:Array (Nat×Nat×Nat))(lo:Nat)(pre:Array Keyed)(st:SortSt):Prop where
 kind:kindOf st=kd
 failed:failedOf st=none
 pend:pendingOf st=p
 perm:(Fc st).Perm a₀
 head:∀k,k<lo→(Fc st)[k]?=pre[k]?
def Bs.size{st:SortSt}(B:RE st):(Fc st).size=a₀.size:=B.perm.size_eq
def Bs.mem{st:SortSt}(B:RE st){i:Nat}(hi:i<a₀.size):∃q,(Fc st)[i]?=some q∧q∈a₀.toList:=by
 have dD:i<(Fc st).size:=by rw[B.size];exact hi
 exact⟨_,getElem?_pos _ i dD,(Zx.mp B.perm).mem_iff.mp DI⟩
def zcz{st:SortSt}{i j:Nat}{Q:Option Bool→SortSt→Prop}(C:HL)(B:RE st)(hi:i<a₀.size)(hj:j<a₀.size)(h:Q (FX (O.blt (ZO RN i) (ZO RN j))) st):ZE (ltAt' i j) Q st:=by obtain⟨x,e1,m1⟩:=B.mem hi;obtain⟨y,e2,m2⟩:=B.mem hj;rw[zfj e1,zfj e2]at h;rw[ltAt'_eq];exact wpS_bind (wpS_get (wpS_bind (zal e1 (wpS_bind (zal e2 (C x y st Q m1 m2 B.kind h))))))
def zgw{xs:Array Keyed}{i j:Nat}(hj:j≤xs.size)(k:Nat):ZO (Dw i j ((j-i)/2)) k=if i≤k∧k<j then ZO xs (i+j-1-k) else ZO xs k:=by
 have e:=getElem?_mirror_all (i:=i) hj k;split
 next h=>rw[if_pos h]at e;exact zeu e
 next h=>rw[if_neg h]at e;exact zeu e
def gk_bubble{xs:Array Keyed}{src d:Nat}(hs:src<xs.size)(hd:d≤src)(k:Nat):ZO (bubble xs src d) k=if k=src-d then ZO xs src else if src-d<k∧k≤src then ZO xs (k-1) else ZO xs k:=by
 have e:=getElem?_bubble hs d hd k;split
 next h=>rw[if_pos h]at e;exact zeu e
 next h=>
  rw[if_neg h]at e;split
  next h'=>rw[if_pos h']at e;exact zeu e
  next h'=>rw[if_neg h']at e;exact zeu e
def Bs.mirror{st:SortSt}{i j:Nat}(B:RE st)(hi:lo≤i)(hj:j≤a₀.size):ZR lo pre (setArr st (My ((j-i)/2))):=
 ⟨B.kind,B.failed,B.pend,(mirror_perm _ _ _ _).trans B.perm,λk hk=>by have e:=getElem?_mirror_all (xs:=arrOf st) (i:=i) (j:=j) (by rw[B.size];exact hj) k;rw[if_neg DH]at e;exact e.trans (B.head k hk)⟩
def Bs.bubble{st:SortSt}{src d:Nat}(B:RE st)(hs:src<a₀.size)(hd:lo+d≤src):ZR lo pre (setArr st (Mz d)):=
 ⟨B.kind,B.failed,B.pend,(bubble_perm _ _ _).trans B.perm,λk hk=>by have e:=getElem?_bubble (xs:=arrOf st) (src:=src) (by rw[B.size];exact hs) d DH k;rw[if_neg DH,if_neg DH]at e;exact e.trans (B.head k hk)⟩
def Up(O:KeyOrd)(key:Keyed→O.α)(xs:Array Keyed)(lo hi:Nat):Prop:=∀i j,lo≤i→i≤j→j<hi→O.kle (ZO xs i) (ZO xs j)
def Dn(O:KeyOrd)(key:Keyed→O.α)(xs:Array Keyed)(lo hi:Nat):Prop:=∀i j,lo≤i→i≤j→j<hi→O.kle (ZO xs j) (ZO xs i)
def Up.one{xs:Array Keyed}:YV xs lo (lo+1):=λi j h1 h2 h3=>by
 have:i=j:=by lia
 subst this;exact Yx _
def Dn.one{xs:Array Keyed}:JU xs lo (lo+1):=λi j h1 h2 h3=>by
 have:i=j:=by lia
 subst this;exact Yx _
def Up.snoc{xs:Array Keyed}{n:Nat}(u:YV xs lo (lo+n))(hn:1≤n)(h:O.kle (ZO xs (lo+n-1)) (ZO xs (lo+n))):YV xs lo (lo+(n+1)):=λi j h1 h2 h3=>by
 by_cases hj:j<lo+n
 ·exact u i j h1 h2 hj
 have ej:j=lo+n:=by lia
 subst ej;by_cases hi:i=lo+n
 ·subst hi;exact Yx _
 exact Yl (u i (lo+n-1) h1 DH DH) h
def Dn.snoc{xs:Array Keyed}{n:Nat}(u:JU xs lo (lo+n))(hn:1≤n)(h:O.kle (ZO xs (lo+n)) (ZO xs (lo+n-1))):JU xs lo (lo+(n+1)):=λi j h1 h2 h3=>by
 by_cases hj:j<lo+n
 ·exact u i j h1 h2 hj
 have ej:j=lo+n:=by lia
 subst ej;by_cases hi:i=lo+n
 ·subst hi;exact Yx _
 exact Yl h (u i (lo+n-1) h1 DH DH)
def Dn.turn{xs:Array Keyed}{hi:Nat}(d:JU xs lo hi)(h:hi≤xs.size):YV (Dw lo hi ((hi-lo)/2)) lo hi:=λi j h1 h2 h3=>by rw[zgw h,zgw h,if_pos DH,if_pos DH];exact d _ _ DH DH DH
def gk_same{xs:Array Keyed}{i j:Nat}(hj:j≤xs.size)(h:∀k,i≤k→k<j→ZO xs k=ZO xs (j-1))(k:Nat):ZO (Dw i j ((j-i)/2)) k=ZO xs k:=by
 rw[zgw hj];split
 next q=>rw[h _ DH DH,h k DH DH]
 next=>rfl
def wpS_ite{α:Type}{b:Bool}{x y:QL α}{Q:α→SortSt→Prop}{st:SortSt}(h1:b=true→ZE x Q st)(h2:b=false→ZE y Q st):ZE (if b=true then x else y) Q st:=by
 cases b with
 |true=>rw[if_pos rfl];exact h1 rfl
 |false=>rw[if_neg DI];exact h2 rfl
def ze2{st:SortSt}{n ok:Nat}{Q:Bool→SortSt→Prop}(C:HL)(hn:lo+n≤a₀.size)(hok:ok≤n)(B:RE st)(u:YV RN lo (lo+ok))(h:∀a7,ZR lo pre a7→YV Hz lo (lo+n)→Q true a7):ZE (binarySort' lo n ok) Q st:=by
 rw[binarySort'_eq];refine wpS_bind (wpS_mono (wpS_forRange (I:=λk c a7=>Aj3 (c=(none,())) (RE a7) (YV Hz lo (lo+min k n))) (Q:=λc a7=>Aj3 (c=(none,())) (RE a7) (YV Hz lo (lo+n))) ?step ?fin ?init) ?post)
 case post=>rintro c a7 ⟨rfl,B',u'⟩;exact wpS_pure (h a7 B' u')
 case init=>
  refine⟨rfl,B,λi j h1 h2 h3=>?_⟩;by_cases z:ok=0
  ·exact Up.one (lo:=lo) i j h1 h2 DH
  exact u i j h1 h2 DH
 case fin=>rintro c a7 ⟨e,B',u'⟩;exact⟨e,B',λi j h1 h2 h3=>u' i j h1 h2 DH⟩
 case step=>
  rintro k c a7 hak fZ ⟨rfl,B',u'⟩;rw[show min k n=k by lia]at u';refine wpS_bind (wpS_mono (wpS_forRange
   (I:=λx c av=>Aj2 (av=a7) (Ex2 λl r=>Aj6 (c=(none,l,r)) (l≤r) (r≤k) (r-l≤k-x) (∀i,i<l→O.kle (ZO Hz (lo+i)) (ZO Hz (lo+k))) (∀i,r≤i→i<k→O.klt (ZO Hz (lo+k)) (ZO Hz (lo+i)))))
   (Q:=λc av=>Aj2 (av=a7) (Ex1 λl=>Aj4 (c=(none,l,l)) (l≤k) (∀i,i<l→O.kle (ZO Hz (lo+i)) (ZO Hz (lo+k))) (∀i,l≤i→i<k→O.klt (ZO Hz (lo+k)) (ZO Hz (lo+i))))) ?is ?if_ ?ii) ?ip)
  case ii=>exact⟨rfl,0,k,rfl,by exact Zn _,by exact Qd _,by exact Qd _,λi hi=>by lia,λi g1 g2=>by lia⟩
  case if_=>
   rintro c av ⟨rfl,l,r,rfl,b1,b2,b3,b4,b5⟩;have:l=r:=by lia
   subst this;exact⟨rfl,l,rfl,b2,b4,b5⟩
  case is=>
   rintro x c av _ hx ⟨rfl,l,r,rfl,b1,b2,b3,b4,b5⟩;dsimp only;by_cases ge:l≥r
   ·rw[Gh ge];have:l=r:=by exact Jr ‹_› ‹_›
    subst this;exact wpS_pure ⟨rfl,l,rfl,b2,b4,b5⟩
   rw[Gm ge];refine wpS_bind (KZ B' Fx DH ?_);cases e:O.blt (ZO (Fc av) (lo+k)) (ZO (Fc av) (lo+(l+r)/2)) with
   |true=>exact wpS_pure ⟨rfl,l,(l+r)/2,rfl,DH,DH,DH,b4,λi g1 g2=>Kt (show Va _ from e) (u' _ _ (by exact J9 _) DH DH)⟩
   |false=>exact wpS_pure ⟨rfl,(l+r)/2+1,r,rfl,DH,by assumption,DH,λi g1=>Yl (u' (lo+i) (lo+(l+r)/2) (by exact J9 _) DH DH) (show N8 _ from e),b5⟩
  case ip=>
   rintro c av ⟨rfl,l,rfl,b2,b4,b5⟩;show BJ (do moveDown' (lo+k) (lo+l);pure (FM (none,()))) _ _;rw[moveDown'_eq];have hb:=B'.bubble (src:=lo+k) (d:=lo+k-(lo+l)) Fx DH;refine wpS_bind (wpS_modify (wpS_pure ⟨rfl,hb,?_⟩));rw[show min (k+1) n=k+1 by lia];have hk:lo+k<(Fc av).size:=by rw[B'.size];exact zar2 ‹_› ‹_›
   intro i j h1 h2 h3;show O.kle (ZO (KQ (lo+k) (lo+k-(lo+l))) i) (ZO (KQ (lo+k) (lo+k-(lo+l))) j);rw[gk_bubble hk DH,gk_bubble hk DH,show lo+k-(lo+k-(lo+l))=lo+l by lia];have lo_:∀t,lo≤t→t<lo+l→O.kle (ZO (Fc av) t) (ZO (Fc av) (lo+k)):=λt t1 t2=>by have:=b4 (t-lo) DH;rwa[show lo+(t-lo)=t by lia]at this
   have hi_:∀t,lo+l≤t→t<lo+k→O.kle (ZO (Fc av) (lo+k)) (ZO (Fc av) t):=λt t1 t2=>by have:=b5 (t-lo) DH DH;rw[show lo+(t-lo)=t by lia]at this;exact Yf this
   repeat' split
   all_goals first
    |(exfalso;lia)
    |exact Yx _
    |exact lo_ _ (by assumption) (by lia)
    |exact hi_ _ (by lia) (by lia)
    |exact u' _ _ (by lia) (by lia) (by lia)
def zf6{st:SortSt}{nrem:Nat}{Q:Option Nat→SortSt→Prop}(C:HL)(hn:lo+nrem≤a₀.size)(h1:1≤nrem)(B:RE st)(h:∀m a7,ZR lo pre a7→1≤m→m≤nrem→YV Hz lo (lo+m)→Q (FX m) a7):ZE (countRun' lo nrem) Q st:=by
 have asc:∀(f:Nat→(Option Rl×Nat)→QL (ForInStep (Option Rl×Nat))) (a:Nat) (ak:SortSt),ZR lo pre ak→1≤a→a≤nrem→YV (Fc ak) lo (lo+a) →
   (∀x y Q',1≤y→y<nrem→(O.klt (ZO (Fc ak) (lo+y)) (ZO (Fc ak) (lo+y-1))→Q' (ForInStep.done (none,y)) ak)→(O.kle (ZO (Fc ak) (lo+y-1)) (ZO (Fc ak) (lo+y))→Q' (FM (none,y+1)) ak)→ZE (f x (none,y)) Q' ak) →
   wpS D7 A E s (forIn [a:nrem] (none,a) f) (λc a7=>a7=ak∧∃n,c=(none,n)∧a≤n∧n≤nrem∧YV (Fc ak) lo (lo+n)∧(n=nrem∨O.klt (ZO (Fc ak) (lo+n)) (ZO (Fc ak) (lo+n-1)))) ak:=by
  intro f a ak B1 a1 a2 u1 hf;refine wpS_forRange (I:=λx c a7=>Aj3 (a7=ak) (c=(none,x)) (YV (Fc ak) lo (lo+x))) ?step ?fin ⟨rfl,rfl,u1⟩
  case fin=>rintro c a7 ⟨rfl,rfl,u'⟩;rw[show max a nrem=nrem by lia]at u' ⊢;exact⟨rfl,nrem,rfl,a2,D9,u',Fq⟩
  case step=>rintro x c a7 g1 g2 ⟨rfl,rfl,u'⟩;exact hf x x _ (by exact Zd ‹_› ‹_›) g2 (λe=>⟨rfl,x,rfl,g1,Fd,u',G' e⟩) λe=>⟨rfl,rfl,u'.snoc (by exact Zd ‹_› ‹_›) e⟩
 rw[countRun'_eq];refine wpS_bind (wpS_mono (asc _ 1 st B D9 h1 Up.one ?_) ?_)
 ·intro x y Q' y1 y2 q1 q2;dsimp only;refine wpS_bind (KZ B Fx DH ?_);cases e:O.blt (ZO RN (lo+y)) (ZO RN (lo+y-1)) with
  |true=>exact wpS_pure (q1 e)
  |false=>exact wpS_pure (q2 e)
 rintro c a7 ⟨rfl,n,rfl,n1,n2,u,bi⟩;dsimp only;by_cases d1:n=nrem
 ·rw[Gh (by simp[d1])];exact wpS_pure (h n _ B n1 n2 u)
 rw[if_neg (by simp[d1])];have aa:=bi.resolve_left d1;by_cases d2:n>1
 focus
  rw[if_pos d2];refine wpS_bind (KZ B Fx DH ?_);cases e:O.blt (ZO Hz lo) (ZO Hz (lo+n-1)) with
  |true=>dsimp only;rw[if_pos rfl];exact wpS_pure (h n _ B n1 n2 u)
  |false=>?_
  dsimp only;rw[if_neg DI];have eq_:∀k,lo≤k→k<lo+n→ZO Hz k=ZO Hz (lo+n-1):=λk k1 k2=>KeyOrd.kle_antisymm (u k _ k1 DH DH) (Yl (show N8 _ from e) (u lo k D9 k1 k2));have B2:=B.mirror (i:=lo) (j:=lo+n) D9 DH;have same:=gk_same (O:=O) (key:=key) (xs:=arrOf a7) (i:=lo) (j:=lo+n) (by rw[B.size];lia) eq_;refine wpS_bind (wpS_reverse ?_);have D2:JU (BO (lo+n) ((lo+n-lo)/2)) lo (lo+n):=λi j i1 i2 i3=>by rw[same,same,eq_ j (by exact Zd ‹_› ‹_›) i3,eq_ i i1 (by exact Wf ‹_› ‹_›)];exact Yx _
  have L2:O.klt (ZO (BO (lo+n) ((lo+n-lo)/2)) (lo+n)) (ZO (BO (lo+n) ((lo+n-lo)/2)) (lo+n-1)):=by rw[same,same];exact aa
 rotate_left
 focus
  rw[if_neg d2];have en:n=1:=by lia
  subst en;have B2:=B;have D2:JU Hz lo (lo+1):=Dn.one;have L2:=aa
 all_goals
  refine wpS_bind Fa;have D3:=D2.snoc (by assumption) (Yf L2);refine wpS_bind (wpS_mono (wpS_forRange
   (I:=λx c au=>Ex1 λq=>Aj7 (c=(none,x,q)) (RE au) (JU (Fc au) lo (lo+x)) (2≤x) (x≤nrem) (q+1≤x) (∀i,lo+x-(q+1)≤i→i<lo+x→ZO (Fc au) i=ZO (Fc au) (lo+x-1)))
   (Q:=λc au=>Ex2 λx q=>Aj7 (c=(none,x,q)) (RE au) (JU (Fc au) lo (lo+x)) (2≤x) (x≤nrem) (q+1≤x) (∀i,lo+x-(q+1)≤i→i<lo+x→ZO (Fc au) i=ZO (Fc au) (lo+x-1)))
   ?step ?fin ⟨0,rfl,B2,D3,DH,DH,DH,λi i1 i2=>by congr 1;lia⟩) ?post)
  case fin=>rintro c au ⟨q,rfl,b1,b2,b3,b4,b5,b6⟩;exact⟨_,q,rfl,b1,b2,b3,b4,b5,b6⟩
  case step=>
   rintro x c au x1 x2 ⟨q,rfl,b1,b2,b3,b4,b5,b6⟩;dsimp only;refine wpS_bind (KZ b1 Fx DH ?_);cases e1:O.blt (ZO (Fc au) (lo+x)) (ZO (Fc au) (lo+x-1)) with
   | true=>
    dsimp only;rw[if_pos rfl];by_cases q0:q>0
    ·rw[Gh q0];refine wpS_bind (wpS_reverse (wpS_pure ?_));have sm:=gk_same (O:=O) (key:=key) (xs:=arrOf au) (i:=lo+x-(q+1)) (j:=lo+x) (by rw[b1.size];lia) b6;refine⟨0,rfl,b1.mirror DH DH,?_,by exact zhr ‹_›,by assumption,by exact KB _,λi i1 i2=>by congr 1;lia⟩;refine Dn.snoc (λi j i1 i2 i3=>?_) Fd ?_
     ·show M6 (ZO (YY _) _);rw[sm,sm];exact b2 i j i1 i2 i3
     show M6 (ZO (YY _) _);rw[sm,sm];exact Yf (show Va _ from e1)
    rw[Gm q0];exact wpS_pure ⟨0,rfl,b1,b2.snoc Fd (Yf (show Va _ from e1)),by exact zhr ‹_›,by assumption,by exact KB _,λi i1 i2=>by congr 1;lia⟩
   | false=>
    dsimp only;rw[if_neg DI];refine wpS_bind (KZ b1 DH Fx ?_);cases e2:O.blt (ZO (Fc au) (lo+x-1)) (ZO (Fc au) (lo+x)) with
    |true=>dsimp only;rw[if_pos rfl];exact wpS_pure ⟨x,q,rfl,b1,b2,b3,b4,b5,b6⟩
    |false=>
     dsimp only;rw[if_neg DI];have eqx:=MN e1 e2;refine wpS_pure ⟨q+1,rfl,b1,b2.snoc Fd (by rw[eqx];exact Yx _),by exact zhr ‹_›,by assumption,by exact zar4 ‹_›,λi i1 i2=>?_⟩;rw[show lo+(x+1)-1=lo+x by lia];by_cases ix:i=lo+x
     ·rw[ix]
     rw[eqx];exact b6 i DH DH
  case post=>
   rintro c au ⟨x,q,rfl,b1,b2,b3,b4,b5,b6⟩;dsimp only;have sm:=gk_same (O:=O) (key:=key) (xs:=arrOf au) (i:=lo+x-(q+1)) (j:=lo+x) (by rw[b1.size];lia) b6;by_cases q0:q>0
   focus
    rw[if_pos q0];refine wpS_bind (wpS_reverse ?_);have B5:=b1.mirror (i:=lo+x-(q+1)) (j:=lo+x) DH DH;have D5:JU (PyProof.Rows.mirror (Fc au) (lo+x-(q+1)) (lo+x) ((lo+x-(lo+x-(q+1)))/2)) lo (lo+x):=λi j i1 i2 i3=>by rw[sm,sm];exact b2 i j i1 i2 i3
   rotate_left
   focus
    rw[if_neg q0];have B5:=b1;have D5:=b2
   all_goals
    refine wpS_bind (wpS_reverse ?_);have B6:=B5.mirror (i:=lo) (j:=lo+x) D9 DH;have U6:=D5.turn (Zd (show lo+x≤a₀.size by lia) (Nat.le_of_eq B5.size.symm));refine wpS_bind (wpS_mono (asc _ x _ B6 Fd b4 U6 ?_) ?_)
    ·intro z y Q' y1 y2 q1 q2;dsimp only;refine wpS_bind (KZ B6 Fx DH ?_);show BJ (if _=true then _ else _) _ _;exact wpS_ite (λe=>wpS_pure (q1 e)) λe=>wpS_pure (q2 e)
    rintro c st6 ⟨rfl,m,rfl,m1,m2,um,_⟩;exact wpS_pure (h m _ B6 DH m2 um)
def PR:List (Nat×Nat×Nat)→Nat→List GA→Prop
 |[],_,[]=>True
 |q::ps,off,g::gs=>q.1=off∧q.2.1=g.length∧PR ps (off+g.length) gs
 |_,_,_=>False
theorem PR.split:∀{aN bj:List (Nat×Nat×Nat)} {off:Nat} {gs:List GA},PR (aN++bj) off gs→∃g1 g2,gs=g1++g2∧g1.length=aN.length∧PR aN off g1∧PR bj (off+g1.flatten.length) g2
 |[],_,off,gs,h=>⟨[],gs,rfl,rfl,trivial,DJ h⟩
 |q::aN,bj,off,[],h=>False.elim h
 |q::aN,bj,off,g::gs,⟨h1,h2,h3⟩=>by obtain⟨g1,g2,e,l,p1,p2⟩:=PR.split h3;refine⟨g::g1,g2,by rw[e];rfl,by simp[l],⟨h1,h2,p1⟩,?_⟩;rw[Yo,Qk,←Kp];exact p2
theorem PR.join:∀{aN bj:List (Nat×Nat×Nat)} {off:Nat} {g1 g2:List GA},PR aN off g1→PR bj (off+g1.flatten.length) g2→PR (aN++bj) off (g1++g2)
 |[],_,_,[],_,_,h=>by simpa using h
 |[],_,_,_::_,_,h,_=>False.elim h
 |_::_,_,_,[],_,h,_=>False.elim h
 |q::aN,bj,off,g::g1,g2,⟨h1,h2,h3⟩,h=>⟨h1,h2,PR.join h3 (by rw[Yo,Qk,←Kp]at h;exact h)⟩
theorem PR.len:∀{ps:List (Nat×Nat×Nat)} {off:Nat} {gs:List GA},PR ps off gs→ps.length=gs.length
 |[],_,[],_=>rfl
 |[],_,_::_,h=>False.elim h
 |_::_,_,[],h=>False.elim h
 |_::ps,_,_::gs,⟨_,_,h⟩=>by simp[PR.len h]
def mid_at{arr:Array Keyed}{F M S:List Keyed}(e:arr.toList=F++(M++S)){j:Nat}(hj:j<M.length):arr[F.length+j]?=some M[j]:=by
 have:arr[F.length+j]?=arr.toList[F.length+j]?:=by simp
 rw[this,e,Uw (by exact J9 _),show F.length+j-F.length=j by lia,Xe hj];simp
def mid_ext{arr:Array Keyed}{F M S:List Keyed}(e:arr.toList=F++(M++S)){i j:Nat}(hi:i≤j)(hj:j≤M.length):(arr.extract (F.length+i) (F.length+j)).toList=(M.drop i).take (j-i):=by
 have e1:(arr.extract (F.length+i) (F.length+j)).toList=(arr.toList.drop (F.length+i)).take (F.length+j-(F.length+i)):=by simp
 rw[e1,e,←List.drop_drop,List.drop_left,List.drop_append_of_le_length (by exact Zd ‹_› ‹_›),show F.length+j-(F.length+i)=j-i by lia];rw[Ks (by rw[Yw];lia)]
theorem zf3{sa:Nat}:∀(l:List Keyed) (n:Nat) (arr:Array Keyed) (F M S:List Keyed),arr.toList=F++(M++S)→F.length=sa+n→M.length=l.length →
  ((l.zipIdx n).foldl (λ(a:Array Keyed) (q:Keyed×Nat)=>a.setIfInBounds (sa+q.2) q.1) arr).toList=F++(l++S)
 |[],n,arr,F,M,S,e,_,hl=>by have:M=[]:=Jk.mp (DJ hl);rw[this]at e;simpa using e
 |p::l,n,arr,F,[],S,e,_,hl=>by simp at hl
 |p::l,n,arr,F,m::M,S,e,hf,hl=>by
  rw[List.zipIdx_cons,Kb];have e2:(arr.setIfInBounds (sa+n) p).toList=(F++[p])++(M++S):=by rw[Jx,e,←hf,Km _ _ D9,Xw];simp
  have:=zf3 (sa:=sa) l (n+1) _ (F++[p]) M S e2 (by rw[Qk];simp;lia) (DJ hl);rw[this];simp
structure Rn(kd:SortKind)(O:KeyOrd)(key:Keyed→O.α)(a₀:Array Keyed)(gs:List (List Keyed))(rest:List Keyed)(st:SortSt):Prop where
 kind:kindOf st=kd
 failed:failedOf st=none
 perm:(Fc st).Perm a₀
 arr:(Fc st).toList=gs.flatten++rest
 pend:PR (DZ st).toList 0 gs
 srt:∀g∈gs,g.Pairwise GZ∧g≠[]
def Rn.of{gs:List GA}{rest:List Keyed}{st:SortSt}(R:Z0 gs rest st):YG RN:=λi p e=>by
 refine(Zx.mp R.perm).mem_iff.mp ?_;have:(Fc st).toList[i]?=some p:=by simpa using e
 exact Yy this
def pw_get{M:List Keyed}(p:M.Pairwise GZ){i j:Nat}(bd:i≤j)(hj:j<M.length):Z7 (M[i]'(Wf bd hj)) M[j]:=by
 rcases Nat.lt_or_ge i j with h|h
 ·exact Ua.mp p i j (Wf bd hj) hj h
 have e:i=j:=by exact Jr ‹_› ‹_›
 subst e;exact Yx _
def wpS_set{Q:PUnit→SortSt→Prop}{st a7:SortSt}(h:Q ⟨⟩ a7):ZE (set a7:QL PUnit) Q st:=by unfold wpS;rw[StateT.run_set];exact wpAny_pure ⟨rfl,h⟩
def zci{i:Nat}{gs:List GA}{rest:List Keyed}{Q:Bool→SortSt→Prop}{st:SortSt}(C:HL)(R:Z0 gs rest st)(hi:i+1 < (DZ st).size)(h:∀ax a7,Z0 ax rest a7→ax.length+1=gs.length→ax.flatten.length=gs.flatten.length→Q true a7):ZE (mergeAt' i) Q st:=by
 obtain⟨aN,q1,q2,bj,hp,hl⟩:∃aN q1 q2 bj,(DZ st).toList=aN++q1::q2::bj∧aN.length=i:=by
  have h1:i<(DZ st).toList.length:=by simp;exact Zt ‹_›
  have h2:i+1<(DZ st).toList.length:=by simp;assumption
  refine⟨(DZ st).toList.take i,(DZ st).toList[i],(DZ st).toList[i+1],(DZ st).toList.drop (i+2),?_,by rw[Zi];lia⟩;rw[←Zp h2,←Zp h1,Zh]
 have pr:=R.pend;rw[hp]at pr;obtain⟨g1,gt,rfl,hg1,pk,pj⟩:=pr.split;obtain _|⟨RA,_|⟨RB,g2⟩⟩:=gt
 ·exact False.elim pj
 ·exact False.elim pj.2.2
 obtain⟨sa,na,pw⟩:=q1;obtain⟨sb,nb,kM⟩:=q2;obtain⟨e1,e2,e3,e4,i9⟩:=pj;simp only[Jy]at e1 e2 e3 e4 i9;subst e1 e2 e3 e4;have x1:(DZ st)[i]?=some (g1.flatten.length,RA.length,pw):=by
  have:(DZ st)[i]?=(DZ st).toList[i]?:=by simp
  rw[this,hp,←hl];simp
 have x2:(DZ st)[i+1]?=some (g1.flatten.length+RA.length,RB.length,kM):=by
  have:(DZ st)[i+1]?=(DZ st).toList[i+1]?:=by simp
  rw[this,hp,←hl];simp
 have sA:=R.srt RA DI;have sB:=R.srt RB DI;have hA:0<RA.length:=Wz.mpr sA.2;have hB:0<RB.length:=Wz.mpr sB.2;have arr:(Fc st).toList=g1.flatten++((RA++RB)++(g2.flatten++rest)):=by rw[R.arr];simp
 generalize hF:g1.flatten=F at x1 x2 arr i9 hp;have hsz:F.length+(RA.length+RB.length)≤(Fc st).size:=by have:=congrArg List.length arr;simp only[Qk,Yj]at this;lia
 have at_:∀j (hj:j<(RA++RB).length),(Fc st)[F.length+j]?=some (RA++RB)[j]:=λj hj=>mid_at arr hj;have atA:∀j (hj:j<RA.length),(Fc st)[F.length+j]?=some RA[j]:=λj hj=>by rw[at_ j (by rw[Qk];lia),List.getElem_append_left hj]
 have atB:∀j (hj:j<RB.length),(Fc st)[F.length+RA.length+j]?=some RB[j]:=λj hj=>by rw[Kp,at_ (RA.length+j) (by rw[Qk];lia),List.getElem_append_right (by exact J9 _)];simp
 have memA:∀j (hj:j<RA.length),RA[j]∈a₀.toList:=λj hj=>R.of _ _ (atA j hj);have memB:∀j (hj:j<RB.length),RB[j]∈a₀.toList:=λj hj=>R.of _ _ (atB j hj);have fin:∀(M:List Keyed) (a7:SortSt),M.Perm (RA++RB)→M.Pairwise GZ→kindOf a7=kd→failedOf a7=none→(Fc a7).toList=F++(M++(g2.flatten++rest)) →
   pendingOf a7=((DZ st).setIfInBounds i (F.length,RA.length+RB.length,pw)).eraseIdxIfInBounds Fj→Q true a7:=by
  intro M a7 m1 m2 m3 m4 m5 m6;have ml:=m1.length_eq;rw[Qk]at ml;refine h (g1++M::g2) a7 ⟨m3,m4,?_,?_,?_,λg hg=>?_⟩ (by simp;lia) ?_
  ·refine Zx.mpr (List.Perm.trans ?_ (Zx.mp R.perm));rw[m5,arr];exact Yb F (Kk _ m1)
  ·rw[m5,←hF];simp
  ·have e:(DZ a7).toList=aN++(F.length,RA.length+RB.length,pw)::bj:=by
    rw[m6];have e1:((DZ st).setIfInBounds i (F.length,RA.length+RB.length,pw)).toList=aN++(F.length,RA.length+RB.length,pw)::(F.length+RA.length,RB.length,kM)::bj:=by rw[Jx,hp,←hl,Km _ _ D9,Xw];rfl
    rw[Array.toList_eraseIdxIfInBounds,e1,←hl,List.eraseIdx_append_of_length_le (by exact J9 _)];simp
   rw[e];refine pk.join ⟨by rw[Jy,hF],by rw[←ml],?_⟩;rw[Jy,hF,ml,←Kp];exact i9
  ·rcases Qg.mp hg with z|z
   ·exact R.srt g (UT z)
   rcases Qi.mp z with z|z
   ·rw[z];exact⟨m2,λq=>by rw[q]at ml;simp at ml;lia⟩
   exact R.srt g (by simp[z])
  simp only[Wr,Yo,Qk];lia
 have gkA:∀j (hj:j<RA.length),ZO RN (F.length+j)=key RA[j]:=λj hj=>zfj (atA j hj);have gkB:∀j (hj:j<RB.length),ZO RN (F.length+RA.length+j)=key RB[j]:=λj hj=>zfj (atB j hj);unfold mergeAt';refine wpS_bind (wpS_get ?_);rw[x1,x2];dsimp only;refine wpS_bind (wpS_set (wpS_bind (zal (by have:=atB 0 hB;rwa[Nat.add_zero]at this) (wpS_bind (N9 (memB 0 hB) (Zd (show F.length+RA.length≤F.length+(RA.length+RB.length) by lia) hsz) hA ?_ λk k1 k2 k3=>?_)))))
 ·intro x y xy hy;unfold za0;rw[gkA x (by exact Wf ‹_› ‹_›),gkA y hy];simp only[Wn,if_false,Yr];exact λe=>Yl (pw_get sA.1 xy hy) (show N8 _ from e)
 have k2':∀j (hj:j<k) (c7:j<RA.length),Z7 RA[j] RB[0]:=λj hj c7=>by have:=k2 j hj;unfold za0 at this;rw[gkA j c7]at this;simp only[Wn,if_false,Yr]at this;exact this
 have k3':∀j (hj:k≤j) (c7:j<RA.length),O.klt (key RB[0]) (key RA[j]):=λj hj c7=>by have:=k3 j hj c7;unfold za0 at this;rw[gkA j c7]at this;simp only[Wn,if_false,Jq]at this;exact this
 dsimp only;have B0:∀y∈RB,Z7 RB[0] y:=λy hy=>by obtain⟨j,hj,e⟩:=Zb hy;rw[←e];exact pw_get sB.1 HY hj
 by_cases c1:RA.length-k=0
 ·rw[Gh (by simp[c1])];refine wpS_pure (fin (RA++RB) _ (List.Perm.refl _) (Zv.mpr ⟨sA.1,sB.1,λx hx y hy=>?_⟩) R.kind R.failed arr rfl);obtain⟨j,hj,e⟩:=Zb hx;rw[←e];exact zbi (k2' j DH hj) (B0 y hy)
 rw[if_neg (by simp[c1])];have cw:F.length+k+(RA.length-k)-1=F.length+(RA.length-1):=by lia
 have lA:RA.length-1<RA.length:=by exact zar1 ‹_›
 refine wpS_bind (zal (by rw[cw];exact atA _ lA) (wpS_bind (N9 (memA _ lA) (Zd (show F.length+RA.length+RB.length≤F.length+(RA.length+RB.length) by lia) hsz) FE ?_ λm n1 n2 n3=>?_)))
 ·intro x y xy hy;unfold za0;rw[gkB x (by exact Wf ‹_› ‹_›),gkB y hy];simp only[if_true];exact λe=>Ku (pw_get sB.1 xy hy) (show Va _ from e)
 have n2':∀j (hj:j<m) (c7:j<RB.length),O.klt (key RB[j]) (key RA[RA.length-1]):=λj hj c7=>by have:=n2 j hj;unfold za0 at this;rw[gkB j c7]at this;simp only[if_true]at this;exact this
 have n3':∀j (hj:m≤j) (c7:j<RB.length),Z7 RA[RA.length-1] RB[j]:=λj hj c7=>by have:=n3 j hj c7;unfold za0 at this;rw[gkB j c7]at this;simp only[if_true]at this;exact this
 have AL:∀x∈RA,Z7 x RA[RA.length-1]:=λx hx=>by obtain⟨j,hj,e⟩:=Zb hx;rw[←e];exact pw_get sA.1 DH lA
 dsimp only;by_cases c2:m=0
 ·rw[Gh (by simp[c2])];refine wpS_pure (fin (RA++RB) _ (List.Perm.refl _) (Zv.mpr ⟨sA.1,sB.1,λx hx y hy=>?_⟩) R.kind R.failed arr rfl);obtain⟨j,hj,e⟩:=Zb hy;rw[←e];exact zbi (AL x hx) (n3' j DH hj)
 rw[if_neg (by simp[c2])];have eX:((Fc st).extract (F.length+k) (F.length+RA.length)).toList=RA.drop k:=by rw[mid_ext arr (by assumption) (by rw[Qk];exact J9 _),List.drop_append_of_le_length (by assumption),Ks (by rw[Yw];exact Qd _)];exact Qt (by rw[Yw];exact Qd _)
 have eY:((Fc st).extract (F.length+RA.length) (F.length+RA.length+m)).toList=RB.take m:=by rw[Kp,mid_ext arr (by exact J9 _) (by rw[Qk];lia),List.drop_left,show RA.length+m-RA.length=m by lia]
 generalize hX:(Fc st).extract (F.length+k) (F.length+RA.length)=Xs at eX;generalize hY:(Fc st).extract (F.length+RA.length) (F.length+RA.length+m)=Ys at eY;have lX:Xs.size=RA.length-k:=by rw[←Yj,eX,Yw]
 have lY:Ys.size=m:=by rw[←Yj,eY,Zi];lia
 have gX:∀j (hj:j<Xs.size),Xs[j]=RA[k+j]'(by lia):=λj hj=>by
  have:Xs.toList[j]?=some (RA[k+j]'(by lia)):=by rw[eX,List.getElem?_drop];exact Qb DH
  have e2:Xs.toList[j]?=some Xs[j]:=by simp[hj]
  rw[e2]at this;exact Qw this
 have gY:∀j (hj:j<Ys.size),Ys[j]=RB[j]'(by lia):=λj hj=>by
  have:Ys.toList[j]?=some (RB[j]'(by lia)):=by rw[eY,List.getElem?_take_of_lt (by exact zar7 ‹_› ‹_›)];exact Qb DH
  have e2:Ys.toList[j]?=some Ys[j]:=by simp[hj]
  rw[e2]at this;exact Qw this
 have oX:YG Xs:=λj q e=>by
  have hj:j<Xs.size:=by
   rcases Nat.lt_or_ge j Xs.size with z|z
   ·exact z
   rw[getElem?_neg Xs j DH]at e;cases e
  rw[getElem?_pos Xs j hj]at e;rw[←Qw e,gX j hj];exact memA _ _
 have oY:YG Ys:=λj q e=>by
  have hj:j<Ys.size:=by
   rcases Nat.lt_or_ge j Ys.size with z|z
   ·exact z
   rw[getElem?_neg Ys j DH]at e;cases e
  rw[getElem?_pos Ys j hj]at e;rw[←Qw e,gY j hj];exact memB _ _
 have pX:Xs.toList.Pairwise GZ:=by rw[eX];exact sA.1.sublist (Xj _ _)
 have pY:Ys.toList.Pairwise GZ:=by rw[eY];exact sB.1.sublist (Jt _ _)
 have zX:0<Xs.size:=by lia
 have zY:0<Ys.size:=by lia
 have first:O.klt (key Ys[0]) (key Xs[0]):=by rw[gY 0 zY,gX 0 zX];exact k3' _ (by exact Qd _) _
 have lastX:Xs[Xs.size-1]=RA[RA.length-1]:=by rw[gX (Xs.size-1) FE];congr 1;lia
 have lst:∀y∈Ys.toList,Z7 y Xs[Xs.size-1]:=λy hy=>by rw[lastX];rw[eY]at hy;obtain⟨j,hj,e⟩:=Zb hy;rw[Zi]at hj;rw[←e,Uj];exact Yf (n2' j DH DH)
 have done:∀ (res:Array Keyed) (a7:SortSt),Q9 (Xs.toList++Ys.toList) res.toList→SG (WS (((DZ st).setIfInBounds i (F.length,RA.length+RB.length,pw)).eraseIdxIfInBounds Fj) (gallopOf st) (failedOf st)) a7 →
   wpS D7 A E s (do
    modify λz=>MA (res.toList.zipIdx.foldl (λ(a:Array Keyed) (q:Keyed×Nat)=>a.setIfInBounds (F.length+k+q.2) q.1) (Fc z)) (DZ z) (gallopOf z) (failedOf z)
    let z ←get
    pure (failedOf z).isNone) Q a7:=by
  intro res a7 mg ⟨g,est⟩;subst est;refine wpS_bind (wpS_modify (wpS_bind (wpS_get ?_)));have eZ:failedOf st=none:=R.failed;show BJ (pure (failedOf st).isNone) _ _;rw[eZ];rw[eX,eY]at mg;have perm2:(RA.take k++(res.toList++RB.drop m)).Perm (RA++RB):=by
   have e1:RA++RB=RA.take k++((RA.drop k++RB.take m)++RB.drop m):=by rw[Qq (RA.drop k),Zh,←Qq,Zh]
   rw[e1];exact Vo (Kk _ mg.1)
  have memR:∀x∈res.toList,x∈RA.drop k∨x∈RB.take m:=λx hx=>Qg.mp (mg.1.mem_iff.mp hx);have sorted2:(RA.take k++(res.toList++RB.drop m)).Pairwise GZ:=by
   refine Zv.mpr ⟨sA.1.sublist (Jt _ _),Zv.mpr ⟨mg.2,sB.1.sublist (Xj _ _),λx hx y hy=>?_⟩,λx hx y hy=>?_⟩
   ·rcases memR x hx with z|z
    ·obtain⟨j,hj,e⟩:=Zb hy;rw[Yw]at hj;rw[←e,List.getElem_drop];exact zbi (AL x (Wl z)) (n3' _ (by exact J9 _) DH)
    have:=sB.1;rw[←Zh m RB]at this;exact(Zv.mp this).2.2 x z y hy
   have xle:Z7 x RB[0]:=by obtain⟨j,hj,e⟩:=Zb hx;rw[Zi]at hj;rw[←e,Uj];exact k2' j DH DH
   rcases Qg.mp hy with z|z
   ·rcases memR y z with z|z
    ·have:=sA.1;rw[←Zh k RA]at this;exact(Zv.mp this).2.2 x hx y z
    exact zbi xle (B0 y (Wc z))
   exact zbi xle (B0 y (Wl z))
  refine wpS_pure (fin _ _ perm2 sorted2 R.kind rfl ?_ rfl);have gL:(Fc st).toList=(F++RA.take k)++((RA.drop k++RB.take m)++(RB.drop m++(g2.flatten++rest))):=by
   rw[arr];have e1:RA++RB=RA.take k++((RA.drop k++RB.take m)++RB.drop m):=by rw[Qq (RA.drop k),Zh,←Qq,Zh]
   rw[e1];simp only[Qq]
  have lr:=mg.1.length_eq;have pb:=zf3 (sa:=F.length+k) res.toList 0 RN _ _ _ gL (by rw[Qk,Zi];lia) lr.symm;refine Eq.trans pb ?_;simp only[Qq]
 by_cases c3:RA.length-k≤m
 ·rw[Gh c3];exact wpS_bind (NE pX pY zX zY first lst done)
 rw[Gm c3];exact wpS_bind (NF pX pY zX zY first lst done)
theorem PR.congr:∀{ps cH:List (Nat×Nat×Nat)} {off:Nat} {gs:List GA},(ps.map λq=>(q.1,q.2.1))=(cH.map λq=>(q.1,q.2.1))→PR ps off gs→PR cH off gs
 |[],[],_,_,_,h=>h
 |[],_::_,_,_,e,_=>by simp at e
 |_::_,[],_,_,e,_=>by simp at e
 |q::ps,q'::cH,off,[],e,h=>False.elim h
 |q::ps,q'::cH,off,g::gs,e,⟨h1,h2,h3⟩=>by rw[Ql,Ql]at e;obtain⟨e1,e2⟩:=List.cons.inj e;have e3:=congrArg Prod.fst e1;have e4:=congrArg Prod.snd e1;exact⟨e3.symm.trans h1,e4.symm.trans h2,PR.congr e2 h3⟩
def flat_ge{gs:List GA}(h:∀g∈gs,g≠[]):gs.length≤gs.flatten.length:=by
 induction gs with
 |nil=>simp
 |cons g gs ih=>have h1:0<g.length:=Wz.mpr (h g Qe);have h2:=ih λg hg=>h g (WD hg);rw[Yo,Qk,Zc];lia
def Rn.size{gs:List GA}{rest:List Keyed}{st:SortSt}(R:Z0 gs rest st):gs.flatten.length+rest.length=a₀.size:=by have e:=congrArg List.length R.arr;rw[Qk,Yj,R.perm.size_eq]at e;exact e.symm
def Rn.psize{gs:List GA}{rest:List Keyed}{st:SortSt}(R:Z0 gs rest st):(DZ st).size=gs.length:=by have e:=R.pend.len;rwa[Yj]at e
def Rn.found{gs:List GA}{rest:List Keyed}{st a7:SortSt}{n:Nat}(R:Z0 gs rest st)(B:ZX (DZ st) gs.flatten.length RN a7)(u:YV Hz gs.flatten.length (gs.flatten.length+n))(hn:n≤rest.length) :
  ∃G r,G.length=n∧G.Pairwise GZ∧Z0 gs (G++r) a7:=by
 have sz:(Fc a7).size=(Fc st).size:=by rw[B.size,R.perm.size_eq]
 have hz:=R.size;have e1:(Fc a7).toList.take gs.flatten.length=gs.flatten:=by
  have:(Fc a7).toList.take gs.flatten.length=(Fc st).toList.take gs.flatten.length:=by
   apply Xi;intro k;rw[List.getElem?_take,List.getElem?_take];split
   next hk=>have:=B.head k hk;simpa using this
   next=>rfl
  rw[this,R.arr,List.take_left]
 refine⟨((Fc a7).toList.drop gs.flatten.length).take n,((Fc a7).toList.drop gs.flatten.length).drop n,?_,?_,⟨B.kind,B.failed,B.perm,?_,by rw[B.pend];exact R.pend,R.srt⟩⟩
 ·rw[Zi,Yw,Yj,B.size];lia
 ·refine Ua.mpr λi j hi hj bd=>?_;rw[Zi,Yw,Yj,B.size]at hi hj;rw[Uj,Uj,List.getElem_drop,List.getElem_drop];have:=u (gs.flatten.length+i) (gs.flatten.length+j) (by exact J9 _) DH DH;rw[gk_at (by rw[B.size];lia),gk_at (by rw[B.size];lia)]at this;rw[Array.getElem_toList,Array.getElem_toList];exact this
 rw[Zh]
 conv=>lhs;rw[←Zh gs.flatten.length (Fc a7).toList,e1]
def map_mod(f:Nat×Nat×Nat→Nat×Nat×Nat)(hf:∀q,((f q).1,(f q).2.1)=(q.1,q.2.1))(l:GK (Nat×Nat×Nat))(i:Nat):((l.modify i f).map λq=>(q.1,q.2.1))=l.map λq=>(q.1,q.2.1):=by
 apply Xi;intro k;rw[Qr,Qr,List.getElem?_modify];cases l[k]? with
 |none=>simp
 |some q=>
  by_cases e:i=k
  ·simp[e];exact Kr (hf q)
  simp[e]
def Rn.mod{gs:List GA}{rest:List Keyed}{st:SortSt}(R:Z0 gs rest st)(i:Nat)(f:Nat×Nat×Nat→Nat×Nat×Nat)(hf:∀q,((f q).1,(f q).2.1)=(q.1,q.2.1)):Z0 gs rest (setPending st ((DZ st).modify i f)):=
 ⟨R.kind,R.failed,R.perm,R.arr,by show PR ((DZ st).modify i f).toList 0 gs;rw[Array.toList_modify];exact R.pend.congr (map_mod f hf _ i).symm,R.srt⟩
def wpS_sortAll{st:SortSt}{Q:Unit→SortSt→Prop}(C:HL)(hk:kindOf st=kd)(hf:failedOf st=none)(hp:(Fc st).Perm a₀)(dh:pendingOf st=#[])(h:∀a7,(Fc a7).Perm a₀→failedOf a7=none→(Fc a7).toList.Pairwise GZ→Q () a7):ZE sortRuns' Q st:=by
 have R0:Z0 [] (Fc st).toList st:=⟨hk,hf,hp,DI,by rw[dh];trivial,λg hg=>by simp at hg⟩;rw[sortRuns'_eq];refine wpS_bind (wpS_get ?_);dsimp only;have hz:(Fc st).size=a₀.size:=hp.size_eq;rw[hz];generalize minRun' a₀.size a₀.size 0=mr;refine wpS_bind (wpS_mono (wpS_forRange
  (I:=λx c a7=>Ex2 λgs rest=>Aj3 (c=(none,gs.flatten.length)) (Z0 gs rest a7) (x≤gs.flatten.length))
  (Q:=λc a7=>Ex2 λgs rest=>Aj3 (c=(none,gs.flatten.length)) (Z0 gs rest a7) (a₀.size≤gs.flatten.length)) ?step ?fin ⟨[],_,rfl,R0,HY⟩) ?post)
 case fin=>rintro c a7 ⟨gs,rest,rfl,R,hx⟩;exact⟨gs,rest,rfl,R,by assumption⟩
 case step=>
  rintro x c ak _ hx ⟨gs,rest,rfl,R,du⟩;dsimp only;have nY:=R.size;by_cases c0:gs.flatten.length≥a₀.size
  ·rw[Gh c0];exact wpS_pure ⟨gs,rest,rfl,R,c0⟩
  rw[if_neg c0];have B0:ZX (DZ ak) gs.flatten.length (Fc ak) ak:=⟨R.kind,R.failed,rfl,R.perm,DU⟩;refine wpS_bind (zf6 C DH DH B0 λm au B2 m1 m2 u2=>?_);dsimp only;by_cases c1:m<mr
  focus
   rw[if_pos c1];refine wpS_bind Fa;refine wpS_bind (ze2 C DH DH B2 u2 λae B3 u3=>?_);rw[if_neg DI];obtain⟨G,r,g1,g2,R3⟩:=R.found B3 u3 DH;have G0:1≤G.length:=by lia
  rotate_left
  focus
   rw[if_neg c1];obtain⟨G,r,g1,g2,R3⟩:=R.found B2 u2 DH;have G0:1≤G.length:=by exact zar6 ‹_› ‹_›
  all_goals
   refine wpS_bind (wpS_get ?_);have push:∀{ax:List GA} {aj:SortSt},Z0 ax (G++r) aj→ax.flatten.length=gs.flatten.length→Z0 (ax++[G]) r (SortSt.mk' (kindOf aj) (Fc aj) ((DZ aj).push (gs.flatten.length,G.length,0)) (gallopOf aj) (failedOf aj)):=by
    intro ax aj R4 e4;refine⟨R4.kind,R4.failed,R4.perm,?_,?_,λg hg=>?_⟩
    ·have:=R4.arr;simp only[Wr,Yo,Ko,Zu,Qq];exact this
    ·show PR ((DZ aj).push _).toList 0 _;rw[Ws];exact R4.pend.join ⟨by rw[Jy,e4],rfl,trivial⟩
    rcases Qg.mp hg with z|z
    ·exact R4.srt g z
    rw[Qc.mp z];exact⟨g2,λq=>by rw[q]at G0;simp at G0⟩
   have nx:∀{ax:List GA},ax.flatten.length=gs.flatten.length→x+1≤(ax++[G]).flatten.length∧(ax++[G]).flatten.length=gs.flatten.length+G.length:=λ{ax} e=>by simp only[Wr,Yo,Ko,Zu,Qk];lia
   rw[←g1];split
   next=>
    refine wpS_bind (wpS_mono (wpS_forRange (I:=λ_ c aj=>Aj2 (c=(none,())) (Ex1 λax=>Aj2 (Z0 ax (G++r) aj) (ax.flatten.length=gs.flatten.length))) (Q:=λc aj=>Aj2 (c=(none,())) (Ex1 λax=>Aj2 (Z0 ax (G++r) aj) (ax.flatten.length=gs.flatten.length))) ?istep (λ_ _ z=>z) ⟨rfl,gs,R3,rfl⟩) ?ipost)
    case istep=>
     rintro y c aj _ _ ⟨rfl,ax,R4,e4⟩;refine wpS_bind (wpS_get ?_);by_cases hs:(DZ aj).size>1
     ·rw[Gh hs,getElem?_pos (DZ aj) ((DZ aj).size - 2) DH];dsimp only;split
      ·exact wpS_pure ⟨rfl,ax,R4,e4⟩
      refine wpS_bind (MM DH λsj i6 R5 l5 f5=>?_);rw[if_neg DI];exact wpS_pure ⟨rfl,sj,R5,f5.trans e4⟩
     rw[Gm hs];exact wpS_pure ⟨rfl,ax,R4,e4⟩
    case ipost=>rintro c aj ⟨rfl,ax,R4,e4⟩;dsimp only;exact wpS_bind (wpS_modify (wpS_bind (wpS_modify (wpS_pure ⟨ax++[G],r,by rw[(nx e4).2],push (R4.mod _ _ λq=>rfl) e4,(nx e4).1⟩))))
   next=>refine wpS_bind (wpS_modify (wpS_pure ?_));exact⟨gs++[G],r,by rw[(nx rfl).2],push R3 rfl,(nx rfl).1⟩
 case post=>
  rintro c ak ⟨gs,rest,rfl,R,hx⟩;dsimp only;have nY:=R.size;have er:rest=[]:=Jk.mp DH;subst er;have aJ:=flat_ge λg hg=>(R.srt g hg).2;refine wpS_bind (wpS_mono (wpS_forRange (I:=λx c aj=>Aj2 (c=(none,())) (Ex1 λax=>Aj2 (Z0 ax [] aj) (ax.length+x≤a₀.size+1))) (Q:=λc aj=>Aj2 (c=(none,())) (Ex1 λax=>Aj2 (Z0 ax [] aj) (ax.length≤1))) ?istep ?ifin ⟨rfl,gs,R,by rw[Ja]at nY;lia⟩) ?ipost)
  case ifin=>rintro c aj ⟨rfl,ax,R4,e4⟩;exact⟨rfl,ax,R4,DH⟩
  case istep=>
   rintro y c aj _ _ ⟨rfl,ax,R4,e4⟩;refine wpS_bind (wpS_get ?_);have on:=R4.psize;by_cases hs:(DZ aj).size≤1
   ·rw[Gh hs];exact wpS_pure ⟨rfl,ax,R4,by exact zdx ‹_› ‹_›⟩
   rw[Gm hs];refine wpS_bind (MM ?_ λsj i6 R5 l5 f5=>?_)
   ·repeat' split
    all_goals lia
   rw[Gm DI];exact wpS_pure ⟨rfl,sj,R5,DH⟩
  case ipost=>
   rintro c aj ⟨rfl,ax,R4,e4⟩;refine wpS_pure (h aj R4.perm R4.failed ?_);have ea:=R4.arr;rw[Zu]at ea;obtain _|⟨g,_|⟨g',gs''⟩⟩:=ax
   ·rw[ea];exact List.Pairwise.nil
   ·rw[ea];simpa using(R4.srt g Qe).1
   simp at e4
end
section
variable{prog:Nk}{w:Nl}{A:No}{E:Na}{s:Nh}{kd:SortKind}{O:KeyOrd}{kv:Value→O.α}
def perm_back{l:List Keyed}{vs:Ni}(h:l.Perm (vs.map λv=>(v,v))):(l.map (·.2)).Perm vs∧∀p∈l,p.1=p.2:=by
 refine⟨?_,λp hp=>?_⟩
 ·have:=h.map (·.2);rwa[Zq,show((λ(p:Keyed)=>p.2)∘λv=>(v,v))=id from rfl,List.map_id]at this
 obtain⟨v,_,e⟩:=Qj.mp (h.mem_iff.mp hp);rw[←e]
def out_of{l:List Keyed}{vs:Ni}(h:l.Perm (vs.map λv=>(v,v)))(p:l.Pairwise (le O λp=>kv p.1)):(l.map (·.2)).Perm vs∧(l.map (·.2)).Pairwise λx y=>Mn (kv y):=by obtain⟨h1,h2⟩:=perm_back h;refine⟨h1,Wv.mpr (p.imp_of_mem λ{x y} hx hy q=>?_)⟩;rw[←h2 x hx,←h2 y hy];exact q
end
end Tim
namespace Tm
open PySem PyProof.Rows PySem.W MeetsSeq MeetsSeq2 MeetsSeq3 SeqRoads2
open AutoSeq1 (wpAny_loadPart')
section
variable{prog:Nk}{w:Nl}{A:No}{E:Na}{s:Nh}{vs:Ni}{h:Np}
def zbv.ordT{O:KeyOrd}{kv:Value→O.α}(h:2≤vs.length→∃kd:SortKind,(∀Q:SortKind→Shared→Prop,Q kd s→ZG (keyKind' vs.toArray) Q E s)∧∀x y,x∈vs→y∈vs→∀(Q:Bool→Shared→Prop) (E':Na),Q (O.blt (kv x) (kv y)) s→ZG (keyLt' kd x y) Q E' s):YT s (λws=>ws.Pairwise λx y=>Mn (kv y)) vs:=by
 refine⟨λh2=>?_,λh2=>?_⟩
 ·obtain _|⟨v,_|⟨v',r⟩⟩:=vs
  ·exact List.Pairwise.nil
  ·exact Xo _ _
  exact absurd h2 DI
 obtain⟨kd,a1,a2⟩:=h h2;refine⟨kd,a1,λQ q=>Tim.wpS_sortAll (kd:=kd) (O:=O) (key:=λp=>kv p.1) (a₀:=pairsOf vs) (λx y st Q' hx hy hk hq=>?_) rfl rfl (.refl _) rfl λa7 hp hf hs=>?_⟩
 ·rw[zch]at hx hy;obtain⟨v,hv,rfl⟩:=Qj.mp hx;obtain⟨u,hu,rfl⟩:=Qj.mp hy;rw[lt'_eq];refine wpS_bind (wpS_get ?_);rw[hk];exact wpS_bind (wpS_lift (RO (a2 v u hv hu _ _ ⟨rfl,wpS_pure hq⟩)))
 exact q a7 hp hf (Tim.out_of (by rw[←zch];exact Zx.mp hp) hs).2
def zg2(k:∀ b o,h.get? b=some o→s.heap.get? b=some o)(hv:∀ v∈vs,∃ x q,JI q)(hd:∀ v∈vs,∀ u∈vs,∀ x p q,JI p→zeb h u x q→v=u∨∃ y t y' t',p=.str y t∧q=.str y' t'):YT s (λws=>ws.Pairwise λx y=>(JQ strO).kle (kvP h x) (kvP h y)) vs:=by
 refine .ordT λh2=>⟨tuples' true,λQ q=>NZ q,λv v' hx hy Q E' q=>?_⟩;have same:=hd v hx v' hy;obtain⟨x,z,p⟩:=hv v hx;obtain⟨x',z',p'⟩:=hv v' hy;have P:=p;have P':=p';rw[P.key,P'.key,blt_p]at q;obtain⟨a,o,t,n,rfl,e,c,d⟩:=p;obtain⟨a',o',t',n',rfl,e',c',d'⟩:=p';refine kat_lt (k _ _ e) d (k _ _ e') d' ?_;show NG [(WE t,KA t'),(z,z')] 0 s;refine kat_cons (wpAny_eqBool_str ?_);by_cases ex:x=x'
 ·subst ex;rw[if_pos rfl]at q;rw[decide_eq_true rfl];refine kat_yes (kat_cons ?_);rcases same x z z' P P' with e2|⟨y,u,y',u',rfl,rfl⟩
  ·cases e2;rw[e]at e';cases e';rw[d]at d';have d2:(#[WE t,z]:Array Value)=#[WE t',z']:=by injection d'
   have d3:z=z':=by have:=congrArg (λa:Array Value=>a[1]?) d2;simpa using this
   subst d3;rw[decide_eq_false (Wm _)]at q;exact VM (kat_yes (kat_nil q))
  refine wpAny_eqBool_str ?_;by_cases ey:y=y'
  ·subst ey;rw[show kvS (U5 u')=kvS (U5 u) from rfl,decide_eq_false (Wm _)]at q;rw[decide_eq_true rfl];exact kat_yes (kat_nil q)
  rw[Gf ey];exact kat_no (kat_one _ _ (lt_str q))
 rw[Gf ex];rw[if_neg (str_ne ex)]at q;exact kat_no (oneLt_str q)
def lexB(O:KeyOrd):List O.α→List O.α→Bool
 |[],[]=>false
 |[],_::_=>true
 |_::_,[]=>false
 |x::xs,y::ys=>Mr y||(!N' x&&lexB O xs ys)
def zeq{O:KeyOrd}{x y:O.α}{xs ys:List O.α}:lexB O (x::xs) (y::ys)=(Mr y||(!N' x&&lexB O xs ys)):=rfl
def listO(O:KeyOrd):KeyOrd where
 α:=List O.α
 blt:=lexB O
 irrefl a:=by
  induction a with
  |nil=>rfl
  |cons x t ih=>show(Mr x||(!Mr x&&lexB O t t))=false;rw[O.irrefl,ih];rfl
 trans a b c h1 h2:=by
  induction a generalizing b c with
  | nil=>
   cases c with
   |cons z u=>rfl
   |nil=>cases b with
    |nil=>exact h1
    |cons y v=>cases h2
  | cons x t ih=>
   cases b with
   |nil=>cases h1
   | cons y v=>
    cases c with
    |nil=>cases h2
    | cons z u=>
     rw[zeq,Js,Uu,Yr]at *;rcases h1 with h1|⟨n1,h1⟩
     ·rcases h2 with h2|⟨n2,h2⟩
      ·exact .inl (Ds h2)
      exact .inl (Kt h1 n2)
     rcases h2 with h2|⟨n2,h2⟩
     ·exact .inl (Ku n1 h2)
     exact .inr ⟨Yl n1 n2,ih _ _ h1 h2⟩
 negTrans a b c h:=by
  induction a generalizing b c with
  |nil=>
   cases b with
   |nil=>exact .inr h
   |cons y v=>exact .inl rfl
  | cons x t ih=>
   cases c with
   |nil=>cases h
   | cons z u=>
    cases b with
    |nil=>exact .inr rfl
    | cons y v=>
     rw[zeq,Js,Uu,Yr]at *;rw[zeq,Js,Uu,Yr];rcases h with h|⟨n,h⟩
     ·rcases O.negTrans _ y _ h with q|q
      ·exact .inl (Gb q)
      exact .inr (Gb q)
     cases e1:Mr y with
     |true=>exact .inl Fq
     | false=>
      cases e2:N' z with
      |true=>exact .inr Fq
      |false=>
       have n1:N' x=false:=Yl (O:=O) (a:=x) (b:=z) (c:=y) n e2;have n2:O.blt z y=false:=Yl (O:=O) (a:=y) (b:=x) (c:=z) e1 n;rcases ih v u h with q|q
       ·exact .inl (G' ⟨n1,q⟩)
       exact .inr (G' ⟨n2,q⟩)
 total a b h1 h2:=by
  induction a generalizing b with
  |nil=>cases b with
   |nil=>rfl
   |cons y v=>cases h1
  |cons x t ih=>cases b with
   |nil=>cases h2
   |cons y v=>rw[zeq,Bool.or_eq_false_iff,Bool.and_eq_false_iff,Jq]at h1 h2;have e1:=MN h1.1 h2.1;subst e1;have i:=O.irrefl x;rw[i]at h1 h2;rw[ih v (h1.2.elim (λz=>by cases z) id) (h2.2.elim (λz=>by cases z) id)]
abbrev kyL(zs:GK (Str×Tok)):List HF:=zs.map λp=>p.1.cps.toList
end
def lt_loopT(l b:Nc)(xs ys:GK (Str×Tok))(n n2:Nat)(k:Nat) :
  ∀ i:Nat,min xs.length ys.length - i=k→i≤min xs.length ys.length→Meets (Builtin.«list.__eq__.loop» ⟨[Hw,DK b,rawInt i,rawInt 0],[]⟩)
   (λA R s=>s.heap.get? l=some { cls:=.type "list",data:=.seq (Rh xs).toArray n }∧s.heap.get? b=some { cls:=.type "list",data:=.seq (Rh ys).toArray n2 } ∧
    R (.ok (.ret (.bool (Bh (kyL (xs.drop i)) (kyL (ys.drop i)))))) s):=by
 have get:∀(zs:GK (Str×Tok)) (i:Nat),(Rh zs).toArray[((i:Nat):Int).toNat]?=zs[i]?.map λp=>Value.str p.1 p.2:=λzs i=>by simp[strValues]
 have sz:∀zs:List (Str×Tok),(Rh zs).toArray.size=zs.length:=λzs=>by simp[strValues]
 induction k with
 | zero=>
  intro i hk dY prog w A R s h;obtain⟨hp,g,d,tk,os⟩:=s;obtain⟨hl,hb,h⟩:=h;wp_walk using wpAny_loadPart' hl,wpAny_loadPart' hb;rw[get,get];by_cases hx:i<xs.length
  ·have hy:ys[i]?=none:=by simp;lia
   rw[hy,Qb hx];dsimp only[Option.map_some,Option.map_none];wp_walk using wpAny_loadPart' hl,wpAny_loadPart' hb;rw[Zp hx,Jo (l:=ys) DH]at h;show R (.ok (.ret (.bool (decide ((Rh xs).toArray.size<(Rh ys).toArray.size))))) _;rw[sz,sz,decide_eq_false DH];exact h
  have cc:xs[i]?=none:=by simp;lia
  rw[cc];dsimp only[Option.map_some,Option.map_none];wp_walk using wpAny_loadPart' hl,wpAny_loadPart' hb;rw[Jo (l:=xs) DH]at h;show R (.ok (.ret (.bool (decide ((Rh xs).toArray.size<(Rh ys).toArray.size))))) _;rw[sz,sz];by_cases hy:i<ys.length
  ·rw[Zp hy]at h;rw[decide_eq_true DH];exact h
  rw[Jo DH]at h;rw[decide_eq_false DH];exact h
 | succ k ih=>
  intro i hk dY prog w A R s h;obtain⟨hp,g,d,tk,os⟩:=s;obtain⟨hl,hb,h⟩:=h;wp_walk using wpAny_loadPart' hl,wpAny_loadPart' hb;have hx:i<xs.length:=by lia
  have hy:i<ys.length:=by lia
  rw[get,get,Qb hx,Qb hy];dsimp only[Option.map_some];have hc:((i:Int)+1)=((i+1:Nat):Int):=by push_cast;rfl
  have ex:xs.drop i=xs[i]::xs.drop Fj:=Zp hx;have ey:ys.drop i=ys[i]::ys.drop Fj:=Zp hy;rw[ex,ey]at h;refine wpAny_bind (wpAny_eqBool_str ?_);by_cases he:xs[i].1=ys[i].1
  ·rw[Gv he];wp_walk;rw[hc];have e2:Bh (kyL (xs[i]::xs.drop Fj)) (kyL (ys[i]::ys.drop Fj))=Bh (kyL (xs.drop Fj)) (kyL (ys.drop Fj)):=by show(strO.blt _ _||(!strO.blt _ _&&Bh _ _))=_;rw[show(λp:Str×Tok=>p.1.cps.toList) ys[i]=(λp:Str×Tok=>p.1.cps.toList) xs[i] from by show ys[i].1.cps.toList=xs[i].1.cps.toList;rw[he],strO.irrefl];rfl
   rw[e2]at h;exact⟨plainId_quiet plain_eq_loop _,codeAny_builtin entry_eq_loop (by rw[Dx _];exact ih Fj DH DH prog w A R _ ⟨hl,hb,h⟩)⟩
  rw[Gf he];wp_walk using wpAny_loadPart' hl,wpAny_loadPart' hb;rw[get,get,Qb hx,Qb hy];dsimp only[Option.map_some];refine wpAny_bind (show ZY _ (compareOp .Lt (Value.str xs[i].1 xs[i].2) (Value.str ys[i].1 ys[i].2)) _ _ _ from lt_str ?_);wp_walk;have e2:Bh (kyL (xs[i]::xs.drop Fj)) (kyL (ys[i]::ys.drop Fj))=strO.blt xs[i].1.cps.toList ys[i].1.cps.toList:=by
   show(strO.blt _ _||(!strO.blt _ _&&Bh _ _))=_;cases h1:strO.blt xs[i].1.cps.toList ys[i].1.cps.toList with
   |true=>rfl
   |false=>
    cases h2:strO.blt ys[i].1.cps.toList xs[i].1.cps.toList with
    |true=>rfl
    |false=>exact absurd (str_ext (strO.total _ _ h1 h2)) he
  rw[e2]at h;exact h
def list_ltT(l b:Nc)(xs ys:GK (Str×Tok))(n n2:Nat):Meets (Builtin.«list.__lt__» ⟨[Hw,DK b],[]⟩)
   (λA R s=>s.heap.get? l=some { cls:=.type "list",data:=.seq (Rh xs).toArray n }∧s.heap.get? b=some { cls:=.type "list",data:=.seq (Rh ys).toArray n2 } ∧
    R (.ok (.ret (.bool (Bh (kyL xs) (kyL ys))))) s):=by
 intro prog w A R s h;obtain⟨hp,g,d,tk,os⟩:=s;obtain⟨hl,hb,h⟩:=h;have f3:=AutoSeq1.sub_list_list;wp_walk using wpAny_loadPart' hl,wpAny_loadPart' hb;exact⟨plainId_quiet plain_eq_loop _,codeAny_builtin entry_eq_loop (by rw[Dx _];exact lt_loopT l b xs ys n n2 _ 0 rfl HY prog w A R _ ⟨hl,hb,h⟩)⟩
def kvL(h:Np)(v:Value):List HF:=(zgt h v).map kvS
section
variable{prog:Nk}{w:Nl}{A:No}{E:Na}{s:Nh}
def kvL_ref{h:Np}{a:Nc}{xs:List (Str×Tok)}{n:Nat}(e:h.get? a=some {cls:=.type "list",data:=.seq (Rh xs).toArray n}):kvL h Gq=kyL xs:=by unfold kvL;rw[zgs e rfl];simp only[strValues,Zq];rfl
def zga{vs:Ni}{h:Np}(hu:A.units<cLine)(k:∀b o,h.get? b=some o→s.heap.get? b=some o)(hv:∀v∈vs,∃a xs n,v=.ref a∧h.get? a=some {cls:=.type "list",data:=.seq (Rh xs).toArray n}):YT s (λws=>ws.Pairwise λx y=>(listO strO).kle (kvL h x) (kvL h y)) vs:=by
 refine .ordT λh2=>⟨oneType',λQ q=>kas_kind (T:=.type "list") h2 (λv hm=>?_) DL DL q,λx y hx hy Q E' q=>?_⟩
 ·obtain⟨a,xs,n,rfl,e⟩:=hv v hm;exact(Looks.ld (k _ _ e)).andThen .now
 obtain⟨a,xs,n,rfl,e⟩:=hv x hx;obtain⟨b,ys,m,rfl,e'⟩:=hv y hy;rw[kvL_ref e,kvL_ref e']at q;rw[keyLt'_oneType,oneLt'_eq];simp only[if_true];refine wpAny_bind (wpAny_cRoomFor hu (wpAny_bind (wpAny_callSpecialIfBound?_slot ⟨_,k _ _ e,rfl⟩ F.slot_list_lt (call_meets F.slot_list_lt ⟨_,k _ _ e,rfl⟩ F.entry_list_lt (F.args_list_lt_2 _ _) (list_ltT a b xs ys n m) ⟨k _ _ e,k _ _ e',?_⟩))));exact wpAny_truthy_bool q
end
end Tm
namespace L2
open PySem PySem.Spec PyProof.Rows Tm
def lstV(H:Hp):V→List HF
 |.ref a=>match H a with
  |some (.lst xs)=>xs.map txV
  |_=>[]
 |_=>[]
def zie(e:H a=some (DX xs)):lstV H Gq=xs.map txV:=by unfold lstV;dsimp only;rw[e]
section
variable{X:Cx}
def zcx(hu:X.A.units+8<cLine):YL (.builtin "sorted") (λxs H Q=>Ex2 λ(p:Nc) (ys:List V)=>Aj4 (xs=[HU]) (Q4 p ys) (∀v∈ys,∃a zs,v=.ref a∧H a=some (DX (List.map V.str zs))) (∀(l:Nc) (ws:List V),H l=none→ws.Perm ys→(ws.Pairwise λa b=>(listO strO).kle (lstV H a) (lstV H b))→Q Hw (Hh l ws))):=by
 intro a6 s σ H xs us Q I r h;obtain⟨p,ys,rfl,hq,hy,q⟩:=h;obtain⟨u,rfl,rx⟩:=vals1 r;cases rx;refine zd2 I hq (λa8 r A' E' s' hA k=>zga (by exact Wf ‹_› ‹_›) k λv hv=>?_) λl ws a8 us hl p1 r1 r2 p2=>q l ws hl p1 ?_
 ·obtain⟨b,hb,ru⟩:=zf7 r v hv;obtain⟨a,zs,rfl,e2⟩:=hy b hb;cases ru;obtain⟨_,aO,n,r2,e3⟩:=JJ e2;obtain⟨l2,rfl,_⟩:=zec r2;exact⟨a,l2,n,rfl,e3⟩
 refine Vals.pairwise (R:=λa b=>(listO strO).kle a b) r2 (λv hv u ru=>?_) p2;obtain⟨a,zs,rfl,e2⟩:=hy v (p1.mem_iff.mp hv);cases ru;obtain⟨_,aO,n,r3,e3⟩:=JJ e2;obtain⟨l2,rfl,z⟩:=zec r3;rw[kvL_ref e3,zie e2];rw[←z,Zq,Zq];rfl
def keyP(p:Str×Str):List Nat×List Nat:=(p.1.cps.toList,p.2.cps.toList)
def leP(a b:Str×Str):Prop:=(JQ strO).kle (keyP a) (keyP b)
def zcl{α β γ:Type}{R:α→β→Prop}{S:γ→γ→Prop}{f:α→γ}{g:β→γ}{as:List α}{bs:List β}(h:WQ as bs)(e:∀ a b,R a b→f a=g b)(p:as.Pairwise λx y=>S (f x) (f y)):bs.Pairwise λx y=>S (g x) (g y):=by
 have mem:∀{as:List α} {bs:List β},WQ as bs→∀b∈bs,∃a∈as,R a b:=λ{as bs} h=>by
  induction h with
  |nil=>intro b hb;cases hb
  |cons h t ih=>
   intro b hb;rcases Qi.mp hb with z|z
   ·exact⟨_,Qe,z▸h⟩
   obtain⟨a,ha,r⟩:=ih b z;exact⟨a,WD ha,r⟩
 induction h with
 |nil=>exact .nil
 |cons h t ih=>rw[Wk]at p;refine Wk.mpr ⟨λb hb=>?_,ih p.2⟩;obtain⟨a,ha,r⟩:=mem t b hb;rw[←e _ _ h,←e _ _ r];exact p.1 a ha
def zg0(hc:X.calm=true):YL (.builtin "sorted") (λxs H Q=>Ex3 λ(d:Nc) (kvs:GK (List Key×V)) (qs:Nr)=>Aj4 (xs=[DK d]) (H d=some Rk) (kvs.map (·.1)=qs.map kP) (∀ (l:Nc) (as:Nn) (ws:Nr),H l=none→ws.Perm qs→N3 as ws→ws.Pairwise leP→Q Hw (ZQ l Gk))):=by
 intro a6 s σ H xs us Q I r h;obtain⟨d,kvs,qs,rfl,hq,ek,q⟩:=h;obtain⟨u,rfl,rx⟩:=vals1 r;cases rx;obtain⟨z,lo,ts,rk,o,es,ep,e1,e2,e3,e4,e5⟩:=(show QC H s.heap d Rk from I.hok d _ hq);have jE:RawD.At s.heap d es ep:=⟨o,e1,e2,e3⟩;have a9:kvs.length=ts.length:=Yc rk;have aP:es.size=ts.length:=by rw[←Yj,e4,Qa]
 have gT:N3 (ts.map λt=>t.2.1) qs:=by
  clear e4 e5 aP a9 jE z q hq;induction rk generalizing qs with
  |nil=>
   cases qs with
   |nil=>exact .nil
   |cons a b=>cases ek
  |@cons p t ps ts' h1 t1 ih=>
   cases qs with
   |nil=>cases ek
   |cons a b=>rw[Ql,Ql]at ek;injection ek with k1 k2;refine .cons ?_ (ih _ k2);have:=h1.2.1;rw[k1]at this;exact this
 have lj:∀ai:Array Value,ItemsOf (λi v=>∃e,es[i]?=some e∧v=e.key) ai es.size→ai.toList=(ts.map λt=>t.2.1).map Value.ref:=λai hi=>by
  apply Xi;intro i;rw[Qr,Qr];by_cases aa:i<es.size
  ·have qT:i < ai.size:=by rw[hi.1];exact aa
   have a1:ai[i]?=some ai[i]:=Xg qT;obtain⟨e,h1,h2⟩:=hi.2 i _ a1;rw[Uc,a1,h2];have h3:es.toList[i]?=some e:=by rw[Uc];exact h1
   rw[e4,Qr]at h3;cases ht:ts[i]? with
   |none=>rw[ht]at h3;cases h3
   |some t=>rw[ht]at h3;have h4:entryOfKey (tupleKind Ru) t=e:=Qw h3;rw[←h4];rfl
  have a1:ai.toList[i]?=none:=by rw[Uc];exact Array.getElem?_eq_none (by rw[hi.1];lia)
  have a2:ts[i]?=none:=Wt DH;rw[a1,a2];rfl
 have hvr:∀as:List Addr,M5 (as.map Value.ref):=λas=>by
  induction as with
  |nil=>exact .nil
  |cons a r ih=>exact .cons rfl ih
 refine ze5 (R:=λa8 ws=>ws.Pairwise λx y=>(JQ strO).kle (Vp x) (Vp y)) (G:=λa8=>a8=(ts.map λt=>t.2.1).map Value.ref) (λE' R hR=>zgy (RawD.src lo) (show X.A.in1.handled=none from I.ok.hd hc) jE DH λg tk ai k le hi=>hR g tk _ k le (lj ai hi))
  (λa8 e=>by rw[e,Qa,Qa];exact zdx ‹_› ‹_›) (λa8 e A' E' s' _ k=>?_) λa8 ws l g tk e r p1 p2 le k he=>?_
 ·have all:∀ v∈a8,∃ x y t,NI v x (.str y t):=λv hv=>by rw[e]at hv;obtain⟨a,ha,rfl⟩:=Qj.mp hv;obtain⟨rr,lx⟩:∃r:Str×Str,H a=some (.tup [.str r.1,.str r.2]):=pairs_mem gT ha;obtain⟨q',⟨t,rfl⟩,T⟩:=zfx I lx;exact⟨_,_,t,T⟩
  refine zg2 k (λv hv=>let⟨x,y,t,T⟩:=all v hv;⟨x,_,T⟩) λv hv u hu x p q T T'=>.inr ?_;obtain⟨_,y,t,T1⟩:=all v hv;obtain⟨_,y',t',T2⟩:=all u hu;exact⟨y,t,y',t',(zfy T T1).2,(zfy T' T2).2⟩
 subst r;obtain⟨as,rfl,p3⟩:∃as:List Addr,ws=as.map Value.ref∧as.Perm (ts.map λt=>t.2.1):=by
  have key:∀{ws:Ni} {bs:Nn},ws.Perm (bs.map Value.ref)→∃as:List Addr,ws=as.map Value.ref∧as.Perm bs:=λ{ws bs} pm=>by
   have a2:∃as:List Addr,ws=as.map Value.ref:=by
    have a1:∀v∈ws,∃a,v=Value.ref a:=λv hv=>by obtain⟨a,_,e⟩:=Qj.mp (pm.mem_iff.mp hv);exact⟨a,e.symm⟩
    clear pm;induction ws with
    |nil=>exact⟨[],rfl⟩
    |cons v r ih=>obtain⟨as,e⟩:=ih λv hv=>a1 v (WD hv);obtain⟨x,e2⟩:=a1 v Qe;exact⟨x::as,by rw[e,e2];rfl⟩
   obtain⟨as,rfl⟩:=a2;refine⟨as,rfl,?_⟩;have:=pm.map (λv=>match v with | .ref a=>a|_=>0);rw[Zq,Zq]at this;simpa[Function.comp_def] using this
  exact key p1
 obtain⟨qs',q1,q2⟩:=zdc p3 gT;refine⟨Hw,_,I.laid (t':=tk) k le (show QC _ g _ (DX _) from⟨?_,as.map Value.ref,e,hvr as,he⟩),rfl,q l as qs' (Hv le) q1 q2 ?_⟩
 ·rw[Qa,p3.length_eq,Qa];exact zdx ‹_› ‹_›
 rw[Wv]at p2;refine zcl (f:=λa=>Vp Gq) (g:=keyP) q2 (λa b e=>?_) p2;obtain⟨q',⟨t,rfl⟩,T⟩:=zfx I e;rw[T.key];rfl
end
end L2
namespace K21
open PySem L2 Wb Tm PySem.W PyProof.Rows
def leP_antisymm{a b:Str×Str}(h1:leP a b)(h2:leP b a):a=b:=by have e:=KeyOrd.kle_antisymm h1 h2;unfold keyP at e;injection e with e1 e2;exact Prod.ext (str_ext e1) (str_ext e2)
def leP_total(a b:Str×Str):leP a b∨leP b a:=by
 cases h:(JQ strO).blt (keyP b) (keyP a) with
 |false=>exact .inl h
 |true=>exact .inr (Yf h)
structure zfw(r:Nt)(L:Nr):Prop where
 cy:∃s t,L=s::t∧Lk (st r) s t s∧∀u∈L,leP s u
structure zba(r:Nt)(Ls:List (List (Str×Str))):Prop where
 fa:∀L∈Ls,Vx L
 nd:Ls.flatten.Nodup
 al:∀s,s∈Ls.flatten↔s.1∈r s.2
def lk_clo{β:Type}{f:β→β}{e:β}:∀{t:List β} {s:β},U9 t e→∀u,u=s∨u∈t→f u=e∨f u∈t:=by
 intro t;induction t with
 |nil=>
  intro s h u hu;rcases hu with rfl|hu
  ·exact .inl h
  cases hu
 |cons a t ih=>
  intro s h u hu;rcases hu with rfl|hu
  ·exact .inr (by rw[h.1];exact Qe)
  rcases ih h.2 u (Qi.mp hu) with z|z
  ·exact .inl z
  exact .inr (WD z)
def lk_all{β:Type}{f:β→β}{e:β}{P:β→Prop}(hP:∀u,P u→P (f u)):∀{t:List β} {s:β},U9 t e→P s→∀u∈t,P u:=by
 intro t;induction t with
 |nil=>intro s h hs u hu;cases hu
 |cons a t ih=>
  intro s h hs u hu;have ha:P a:=h.1▸hP s hs;rcases Qi.mp hu with z|z
  ·rw[z];exact ha
  exact ih h.2 ha u z
def lk_eq{β:Type}{f:β→β}{e:β}:∀{t t':List β} {s:β},U9 t e→U9 t' e→e∉t→e∉t'→t=t':=by
 intro t;induction t with
 |nil=>
  intro t' s h h' n n';cases t' with
  |nil=>rfl
  |cons x u=>exact absurd (by rw[show x=e from h'.1.symm.trans h];exact Qe) n'
 |cons a t ih=>
  intro t' s h h' n n';cases t' with
  |nil=>exact absurd (by rw[show a=e from h.1.symm.trans h'];exact Qe) n
  |cons x u=>have e1:a=x:=h.1.symm.trans h'.1;subst e1;rw[ih h.2 h'.2 (λz=>n (WD z)) λz=>n' (WD z)]
def zfw.sub{r:Nt}{L L':Nr}(a:Vx L)(b:Vx L'){s:Str×Str}(h:s∈L)(h':s∈L'):∀u∈L,u∈L':=by
 obtain⟨s0,t,rfl,k,_⟩:=a;obtain⟨gh,t',rfl,k',_⟩:=b;obtain⟨A,B,e⟩:=Uy h;have c:NK (A++s::B):=⟨s0,t,e.symm,k⟩;have hl:=zfl c;have clo:∀u,u∈gh::t'→st r u∈gh::t':=λu hu=>by
  rcases lk_clo k' u (Qi.mp hu) with z|z
  ·rw[z];exact Qe
  exact WD z
 have al:=lk_all (P:=λu=>u∈gh::t') clo hl h';intro u hu;rw[e]at hu;rcases Qg.mp hu with z|z
 ·exact al u (Y6 z)
 rcases Qi.mp z with y|y
 ·rw[y];exact h'
 exact al u (UT y)
def zfw.one{r:Nt}{L L':Nr}(a:Vx L)(b:Vx L')(n:L.Nodup)(n':L'.Nodup){s:Str×Str}(h:s∈L)(h':s∈L'):L=L':=by have s1:=a.sub b h h';have s2:=b.sub a h' h;obtain⟨s0,t,rfl,k,m⟩:=a;obtain⟨gh,t',rfl,k',m'⟩:=b;have e:=leP_antisymm (m gh (s2 _ Qe)) (m' s0 (s1 _ Qe));subst e;rw[lk_eq k k' (Ze.mp n).1 (Ze.mp n').1]
def flat_nd{β:Type}:∀{Ls:List (List β)},Ls.flatten.Nodup→(∀L∈Ls,L≠[])→Ls.Nodup∧∀L∈Ls,L.Nodup:=by
 intro Ls;induction Ls with
 |nil=>intro _ _;exact⟨Yh,λL h=>by cases h⟩
 |cons L t ih=>
  intro h n;rw[Yo,Zo]at h;obtain⟨h1,h2⟩:=ih h.2.1 λL' cg=>n L' (WD cg);refine⟨Ze.mpr ⟨λz=>?_,h1⟩,λL' cg=>?_⟩
  ·obtain⟨x,hx⟩:=List.exists_mem_of_ne_nil L (n L Qe);exact h.2.2 x hx x (Yn.mpr ⟨L,z,hx⟩) rfl
  rcases Qi.mp cg with z|z
  ·rw[z];exact h.1
  exact h2 L' z
def zba.row{r:Nt}{Ls:List (GK (Str×Str))}(a:MS Ls):Ls.Nodup∧∀L∈Ls,L.Nodup:=
 flat_nd a.nd λL hL=>by obtain⟨s,t,e,_⟩:=(a.fa L hL).cy;rw[e];exact NL _
def zba.sub{r:Nt}{Ls db:List (GK (Str×Str))}(a:MS Ls)(b:MS db):∀L∈Ls,L∈db:=λL hL=>by
 obtain⟨s,t,e,_⟩:=(a.fa L hL).cy;have hs:s∈L:=by rw[e];exact Qe
 obtain⟨L',cg,bX⟩:=Yn.mp ((b.al s).mpr ((a.al s).mp (Yn.mpr ⟨L,hL,hs⟩)));rw[(a.fa L hL).one (b.fa L' cg) (a.row.2 L hL) (b.row.2 L' cg) hs bX];exact cg
def zba.one{r:Nt}{Ls db:List (GK (Str×Str))}(a:MS Ls)(b:MS db):Ls.Perm db:=
 (Jw a.row.1 b.row.1).mpr λL=>⟨a.sub b L,b.sub a L⟩
def zba.turn{r r':Nt}{Ls:List (GK (Str×Str))}(a:MS Ls)(hm:∀s:Str×Str,s.1∈r s.2↔s.1∈r' s.2)(hs:∀s:Str×Str,s.1∈r s.2→st r' s=st r s):zba r' Ls:=by refine⟨λL hL=>?_,a.nd,λs=>(a.al s).trans (hm s)⟩;obtain⟨s,t,e,k,m⟩:=(a.fa L hL).cy;refine⟨s,t,e,lk_congr (λy hy=>hs y ((a.al y).mp (Yn.mpr ⟨L,hL,by rw[e];exact Qi.mpr hy⟩))) k,m⟩
def leL(a b:Nj):Prop:=(listO strO).kle (a.map λx=>x.cps.toList) (b.map λx=>x.cps.toList)
end K21
namespace K21
open PySem L2 Wb
abbrev zfq:Stmt:=top 10
def ze1(H:Hp)(a:Nc)(h:Str):Prop:=∃t:List Str,H a=some (DX ((h::t).map V.str))
def zcs(es:List Ent):List Str:=(es.filter λe=>e.2.1.isEmpty).map (·.1)
def zbr(H:Hp)(a:Nc)(zs:Nj):Prop:=H a=some (DX Gj)
abbrev sing(x:Str):List Str:=[x]
abbrev nmL(L:Nr):List Str:=L.map (·.1)
inductive IspFacesO(vs:List V)(H:Hp)(Q:VK):Prop
 |mk(d:Nc)(es:List Ent)(cs:List (List (Str×Str)))(lab:Nx)(h0:vs=[.ref d])(h1:TAt H d es)(h2:es.length≤60)(h3:(∀e∈es,e.2.1.length≤100))(h4:Cert (es.map (·.1)) (row (rsOf es)) cs lab)(h5:∀(l:Nc) (as:Nn) (zss:List (List Str)) (Ls sw:List (List (Str×Str))) (H':Hp),H' l=some (.lst (as.map V.ref))→as.length≤20000→Paired (zbr H') as zss→zss.Perm ((zcs es).map sing++Ls.map nmL)→zss.Pairwise leL→zba (row (rsOf es)) Ls→sw.Perm cs→Paired List.Perm Ls sw→H l=none→(∀a∈as,H a=none)→Keep [] H H'→Q (.ref l) H')
def spFacesO:Sp:=λvs H Q _=>IspFacesO vs H Q
def pt_truthK{X:Cx}{K:Nb}{a:Expr}{ta:TE}(hK:X.K=K)(ha:Z9 a ta)(he:∀whole,isTrue a X.env whole=(do let v ←whole;standAt a.pos;holding [v] (truthy v))) :
  PT X a (λ σ H Q=>ta σ H λx H'=>RTr K x H' Q):=hK▸zf5 ha he
abbrev zfm:Scope:=scOf (eOf (sAt zfq 1))
def csFaces_k:zfm.kind=.function:=by rfl
def csFaces_c:∀y∈zfm.names,y.2≠.cell:=by decide+kernel
def csFaces_n:∀y∈zfm.names,y.2=.local→zfm.names.lookup y.1=some .local:=by decide+kernel
def csFaces_f:∀y∈zfm.names,y.2=.free→(zag zfq).names.lookup y.1=some .cell∨(zag zfq).names.lookup y.1=some .free:=by decide+kernel
def csFaces_l:zfm.names.lookup ("rounds" : Str)=some NameKind.free:=by decide+kernel
def ndF:(["place", "rounds"]:List Str).Nodup:=by decide+kernel
def valG_out{gs:Nr}{s:Str×Str}(h:s∉gs):valV (gs.map λs=>(kP s,RD)) (kP s)=none:=by
 induction gs with
 |nil=>rfl
 |cons a t ih=>
  rw[Qi,not_or]at h;rw[Ql,zbz]
  ·exact ih h.2
  intro q;exact h.1 (kP_inj q).symm
def valG_in{gs:Nr}{s:Str×Str}(h:s∈gs):valV (gs.map λs=>(kP s,RD)) (kP s)=some RC:=by
 induction gs with
 |nil=>cases h
 |cons a t ih=>
  rw[Ql];by_cases e:a=s
  ·exact zc8 (by rw[e])
  rw[zbz (λq=>e (kP_inj q))];rcases Qi.mp h with z|z
  ·exact absurd z.symm e
  exact ih z
def lk_get{β:Type}{f:β→β}{e:β}:∀{t:List β} {s:β},U9 t e→∀k,k<(s::t).length→f ((s::t).getD k e)=(s::t).getD (k+1) e:=by
 intro t;induction t with
 |nil=>
  intro s h k hk;have:k=0:=by simp at hk;exact hk
  subst this;exact h
 |cons a t ih=>
  intro s h k hk;cases k with
  |zero=>exact h.1
  |succ n=>have:=ih h.2 n (DJ hk);simpa using this
def zdw{H H':Hp}{D g:Nc}{fa:Nn}{hd:Nj}{xs:Nn}(k:W3 H')(h:Vy fa hd)(hx:∀a (h:Str) (t:Nj),H a=some (DX ((h::t).map V.str))→a∉xs):Paired (ze1 H') fa hd:=
 Paired.imp' (λa h ⟨t,e⟩=>⟨t,k _ _ e (hx a h t e)⟩) h
theorem Paired.impM{α β:Type}{R S:α→β→Prop}:∀{as:List α} {bs:List β},(∀a b,b∈bs→R a b→S a b)→WQ as bs→Paired S as bs
 |_,_,_,.nil=>.nil
 |_,_,h,.cons r t=>.cons (h _ _ Qe r) (Paired.impM (λa b hb=>h a b (WD hb)) t)
def zee{H H':Hp}{fa:Nn}{zs:List (GK Str)}(k:Keep [] H H')(h:Vz fa zs):K7 fa zs:=Paired.imp' (λa z e=>k _ _ e DI) h
def least_at{ws:Nr}(h:ws.Pairwise leP){i:Nat}(hi:i<ws.length){u:Str×Str}(hu:u∈ws)(hn:u∉ws.take i):leP ws[i] u:=by
 rw[←Zh i ws]at hu;rcases Qg.mp hu with z|z
 ·exact absurd z hn
 rw[Zp hi]at z;rcases Qi.mp z with y|y
 ·rw[y];exact(leP_total _ _).elim id id
 have h2:=h.sublist (Xj i ws);rw[Zp hi,Wk]at h2;exact h2.1 u y
def zap{α β:Type}{R:α→β→Prop}:∀{as bM:List α} {bs gf:List β},WQ as bs→WQ bM gf→WQ (as++bM) (bs++gf):=by
 intro as bM bs gf r r';induction r with
 |nil=>exact r'
 |cons h t ih=>exact .cons h ih
section
variable{P:Nk}{w:Nl}{K:Nb}{mg:Ng}{base:Np}
def zdk:zaw ["rounds", "behind", "found", "gone", "first", "face", "step"] ["rounds"] (zag zfq):=fsk
def ok_facesO{f fs:Nc}{fd fds:Nu}(F:Z2 "faces_of" "faces_of" zfq f fd)(FS:Z2 "steps_behind" "steps_behind" sSteps fs fds)(bS:Z8 fds ["rounds"] [])(mS:mg "steps_behind" = some (DK fs))(GS:ZB 1 fs fds ["rounds"] spSteps)(aB:mg "sorted" = none):ZB 2 f fd ["rounds"] spFacesO:=by
 refine F.okL zdk DP;obtain⟨d,es,cs,lab,rfl,T,aP,ba,C,k⟩:=h;have hu:=zco hr;have pU:(A.deeper (PyProof.Rows.envOfC "faces_of" (zag zfq) s.heap.objs.size f cdv)).units+8<cLine:=Wf (Nat.add_le_add_left (by decide:8≤64) _) hr.units;have aR  :=sizeLine_eq;refine⟨_,zad (KG zdk.nd (Bm bS .nil za3 Hu))
  (zad (ps_thaw (ps_lc (i:=2) (M:=["place", "rounds"]) (ix:=[none,FX 0]) zdk.nd rfl rfl ⟨csFaces_k,csFaces_c,csFaces_n,csFaces_f,rfl,by decide+kernel,λj i x h1 h2=>by
     match j,h1,h2 with
     |0,_,h2=>cases h2
     |1,h1,h2=>cases h1;cases h2;exact⟨rfl,csFaces_l⟩
     |n+2,h1,_=>cases h1⟩ rfl (pi_dict Gu) (λC a6 ex s H=>BL ndF)
    (λC a6 ex s H=>zh6 (pt_not (pt_truthK (K:=K) rfl (zge (by exact hu) Gs Gu) (by intro _;rfl)))) (λC a6 ex s H=>za6 Hu) rfl))
  (zad (JZ zdk.nd pe_dnewT)
  (zad (QE (za2 (zaj (zg0 rfl) D4 aB Yp Ho)) (zbe 4 zdk.nd)
   (zad (MT zdk.nd Hx)
   (zad (Da zdk.nd Rq)
   (zad (Ms (pt_cmp (zgf hu (pv 6) Go))
    (zad (zh7 hu Go (pv 6) pe_bl rfl)
    (zad (RT Rr (FY (zay zet (pv 6) zai DU)))
    (zah (Da zdk.nd (zge hu Gs (pv 6)))))))
   (zah (zcg (zf5 Rr (by intro _;rfl)) (zah (RT Gy (UY zae))) za9))))))
  (zah (zbo (zaj (zcx pU) D4 aB Yp Hi)))))),?_⟩
 have af:∀e∈es,ZL e.1=e.2.1:=λe he=>zb5 T.nd he;refine⟨RV,d,es,rfl,T,aP,λe he=>⟨af e he▸C.rn e.1,ba e he⟩,λb bs H1 gb dZ fM hbfr k1=>?_⟩;have T1:TAt H1 d es:=V1 DI (λ_ _=>by simp);have nfz:∀o' u',H d≠some (.frz o' u'):=λo' u' z=>by rw[T.dc]at z;cases z
 refine⟨_,rfl,d,_,rfl,T1.dc,λo=>⟨λi m ys τ H2=>Aj6 (m=es.length-i) (i≤es.length) (Ex1 λx0=>τ=[x0,DQ d]) (H2 d=some (.frz o FV)) (Keep [d] H1 H2) (Ex1 λ(as:Nn)=>Aj4 (ys=as.map V.ref) (as.length≤i) (∀a∈as,H a=none) (Paired (zbr H2) as ((zcs (es.take i)).map sing))),
  ⟨es.length,rfl,HY,⟨none,rfl⟩,zac,Keep.wr Qe,[],rfl,HY,(λa ha=>by cases ha),.nil⟩,?_⟩⟩
 rintro i m ys τ H2 ⟨rfl,hi,⟨x0,rfl⟩,hz,k2,fa,rfl,hfl,cF,be⟩;have k02:∀{q:Nc},H2 q=none→H q=none:=λ{q} hq=>by refine zas k1 (zas k2 hq ?_) DI;intro z;rw[Qc.mp z,hz]at hq;cases hq
 by_cases aa:i<es.length
 ·refine .inr ⟨⟨hz,by rw[Qa];exact aa⟩,by rw[Qa];lia,?_⟩;rintro y H' ⟨rfl,pr,e1,rfl⟩;have g1:pr=((Sum.inr es[i].1:Key),V.ref es[i].2.2):=by rw[Qr,Qb aa]at e1;exact(Qw e1).symm
  subst g1;have dG:es[i]∈es:=Qm aa;have lB:=T1.ro _ dG;have nri:es[i].2.2≠d:=zbf lB T1.dc DS;have iM:=k2 _ _ lB (DJ nri);have ce:es.take Fj=es.take i++[es[i]]:=Qo aa;refine⟨RV,RV,d,.ref es[i].2.2,rfl,Gb ⟨_,Sum.inr es[i].1,.inr ⟨o,hz⟩,rfl,(zg8 T.nd dG).symm⟩,_,.inr (Gb ⟨_,HQ iM,rfl⟩),?_⟩;have gB:(es[i].2.1.map V.str).isEmpty=es[i].2.1.isEmpty:=by cases es[i].2.1<;>rfl
  cases hb:es[i].2.1.isEmpty with
  |false=>
   refine za4 (by rw[gB,hb];rfl) ⟨_,?_,rfl,aa,⟨_,rfl⟩,hz,k2,fa,rfl,by exact zhr ‹_›,cF,?_⟩
   ·exact zar1 ‹_›
   unfold zcs;rw[ce,Jm,Uk (by rw[hb];decide),Kd,Zu];exact be
  | true=>
   refine zbm (by rw[gB,hb];rfl) ⟨_,rfl,(DO 1),λq hq=>⟨_,?_,rfl,aa,⟨_,rfl⟩,?_,k2.trans (D0 hq),fa++[q],?_,?_,?_,?_⟩⟩
   ·exact zar1 ‹_›
   ·rw[zaf (zab hz hq)];exact hz
   ·rw[Qs];rfl
   ·rw[Qk];show _+1≤_;exact zar4 ‹_›
   ·intro a ha;rcases Qg.mp ha with z|z
    ·exact cF a z
    rw[Qc.mp z];exact k02 hq
   unfold zcs;rw[ce,Jm,Jl (by rw[hb]),Kd,Qs,Qs];exact zap (zee (D0 hq) be) (Hy zac)
 have lW:i=es.length:=by exact zar3 ‹_› ‹_›
 subst lW;rw[Qt D9]at be;refine .inl ⟨⟨hz,by rw[Qa];exact Qd _⟩,λD hD=>?_⟩;have ndD:d≠D:=zab hz hD;refine⟨d,o,_,(DY ndD hz),nfz,?_⟩;have k3:Keep [] H1 (JW FV):=λc u ec _=>by
  by_cases aQ:c=d
  ·subst aQ;rw[zac,←T1.dc];exact ec
  have ec1:=k2 c u ec (DJ aQ);rw[zaf aQ,zaf (zab ec1 hD)];exact ec1
 have gK:(JW FV) D=some (DX (fa.map V.ref)):=by rw[zaf (Zj ndD)];exact zac
 have cP:Paired (zbr (JW FV)) fa ((zcs es).map sing):=Paired.imp' (λa h e=>by show Bi a=_;rw[zaf (Db hz DS),zaf (BF hD)];exact e) be;generalize JW FV=H3 at k3 gK cP;have c9:BAt H3 b bs Gd:=gb.keep k3 DI (λ_ _=>by simp);refine λg hg=>?_;have k4:Keep [] H3 (QN g (.dT [])):=Keep.new hg;have hg4:(QN g (.dT [])) g=some (.dT []):=zac;generalize QN g (.dT [])=H4 at k4 hg4;have hb4:BAt H4 b bs Gd:=c9.keep k4 DI (λ_ _=>by simp);refine⟨RV,b,_,bs.map (·.1),rfl,hb4.dc,(by rw[Zq,Zq];rfl),λl as ws hl ad pa ag=>?_⟩;have k5:Keep [] H4 (QZ l Gk):=Keep.new hl;have fe:(QZ l Gk) l=some Gk:=zac;have kO:zbd (QZ l Gk) as ws:=zbd.keep pa λc x y ec=>k5 _ _ ec DI;have nDl:D≠l:=zab (k4 _ _ gK DI) hl;generalize QZ l Gk=H5 at k5 fe kO;have jO:Keep [] H3 H5:=k4.trans k5;have hZ:=jO _ _ gK DI;have me:=k5 _ _ hg4 DI;have rQ:BAt H5 b bs Gd:=hb4.keep k5 DI (λ_ _=>by simp);have cp:Paired (zbr H5) fa ((zcs es).map sing):=zee jO cP;have im:Keep [] H H5:=(k1.trans k3).trans jO;have nlg:l≠g:=zbf fe me DS;have nDg:D≠g:=zbf hZ me DS;have nbg:b≠g:=zab c9.dc hg;have nbD:b≠D:=zbf rQ.dc hZ DS;have cG:as.length=ws.length:=Yc kO;have dS:ws.length≤10000:=by rw[ad.length_eq,Qa];exact fM
 have notDg:∀{H':Hp} {oP:Nn} {gs:Nr},H' D=some (DX (oP.map V.ref))→H' g=some (.dT (gs.map λs=>(kP s,RD)))→∀a (h:Str) (t:Nj),zbr H' a (h::t)→a≠D∧a≠g:=λ{H' oP gs} e1 e2 a h t e=>
  ⟨Db e1 (by
   intro z;have z':(h::t).map V.str=oP.map V.ref:=by injection z
   cases oP with
   |nil=>cases z'
   |cons x u=>rw[Ql,Ql]at z';injection z' with z1 _;cases z1),Db e2 DS⟩
 refine⟨l,rfl,⟨_,DW fe⟩,zb3 (xs:=as.map V.ref) (λi σ H'=>Aj3 (Ex3 λx4 x5 x6=>σ=[DQ d,DQ b,DQ D,DQ g,x4,x5,x6]) (Keep [D,g] H5 H') (Ex5 λ(gs:Nr) (dn rem:Fz (Str×Str)) (fa:Nn) (Ls:Fz (Str×Str))=>Aj9 (H' g=some (.dT (gs.map λs=>(kP s,RD)))) gs.Nodup (∀s,s∈gs↔s∈dn.flatten) (cs.Perm (dn++rem)) (∀s∈ws.take i,s∈gs) (H' D=some (DX (fa.map V.ref))) (K7 fa ((zcs es).map sing++Ls.map nmL)) (Aj2 (Paired List.Perm Ls dn) (∀L∈Ls,zfw Gd L)) (Aj2 (∀a∈fa,H a=none) (fa.length≤100+i))))
  ⟨⟨_,_,_,rfl⟩,Keep.refl,[],[],cs,fa,[],me,Yh,λs=>Iff.rfl,List.Perm.refl _,λs hs=>(by cases hs),hZ,by rw[List.map_nil,Zu];exact cp,⟨.nil,λL hL=>by cases hL⟩,cF,DH⟩
  (λi σ H' _ hh=>SqL.of (hh.2 _ _ fe (by simp[Zj nDl,nlg]))) ?_ ?_⟩
 ·rintro i y σ H6 hx ⟨⟨x4,x5,x6,rfl⟩,k6,gs,dn,rem,nh,dJ,oE,rC,g7,dH,jU,n6,eV,⟨aQ,kC⟩,gz,mi⟩;have hi:i<as.length:=by have:=(Zk.mp hx).1;rwa[Qa]at this
  have iu:y=.ref as[i]:=by rw[Qr,Qb hi]at hx;exact(Qw hx).symm
  subst iu;obtain⟨az,jx⟩:=za1 kO hi;have nag:as[i]≠g:=zbf jx me DS;have naD:as[i]≠D:=zbf jx hZ DS;have mJ:=k6 _ _ jx (by simp[nag,naD]);have hws:ws[i]∈ws:=Qm az;have hsi:ws[i].1∈ZL ws[i].2:=(dZ _).mp (ad.mem_iff.mp hws);have hwt:∀{ax:Nr},(∀s∈gs,s∈ax)→ws[i]∈ax→∀s∈ws.take Fj,s∈ax:=λ{ax} h1 h2 s hs=>by
   rw[Qo az]at hs;rcases Qg.mp hs with z|z
   ·exact h1 s (jU s z)
   rw[Qc.mp z];exact h2
  refine⟨(DO 0),λfl dF=>?_⟩;have k7:Keep [] H6 (BP fl Fb):=Keep.new dF;have bJ:(BP fl Fb) fl=some Fb:=zac;have nfD:fl≠D:=Zj (zab n6 dF);have nfg:fl≠g:=Zj (zab oE dF);have nafl:as[i]≠fl:=zab mJ dF;generalize BP fl Fb=H7 at k7 bJ;have md:=k7 _ _ oE DI;have kE:=k7 _ _ n6 DI;have mH:=k7 _ _ mJ DI;have jN:Keep [D,g] H5 H7:=k6.trans (k7.sub DI);have rP:BAt H7 b bs Gd:=rQ.keep jN (by simp[nbD,nbg]) λe he=>by have h1:=rQ.tp e he;simp[zbf h1 hZ DS,zbf h1 me DS]
  have nbfl:b≠fl:=zbf rP.dc bJ DS;have lF:Paired (zbr H7) nh ((zcs es).map sing++dJ.map nmL):=zee k7 eV;refine⟨RV,?_⟩;by_cases ap:ws[i]∈gs
  ·-- it is gone already
   refine⟨λm σ H'=>Aj2 (σ=[DQ d,DQ b,DQ D,DQ g,FX (.ref as[i]),DQ fl,FX (.ref as[i])]) (H'=H7),⟨0,rfl,rfl⟩,?_⟩;rintro m σ H' ⟨rfl,rfl⟩;have dg:=DGet.t (k:=kP ws[i]) md mH;rw[valG_in ap]at dg;exact⟨RV,RV,g,RV,dg,RV,U3 ⟨RV,_,Gb ⟨_,DW bJ,rfl⟩,U3 ⟨⟨_,_,RV⟩,jN,gs,dn,rem,nh,dJ,md,rC,g7,dH,hwt (λ_ h=>h) ap,kE,lF,⟨aQ,kC⟩,gz,by exact zhr ‹_›⟩⟩⟩
  ·-- a new cycle
   obtain⟨c,fH,oi⟩:=Yn.mp ((C.cm ws[i]).mpr hsi);obtain⟨A1,B1,ng⟩:=Uy oi;have jb:=zfl (ng▸Mq fH);generalize hL:ws[i]::(B1++A1)=L;have dM:L.Perm c:=by rw[←hL,ng];refine List.perm_iff_count.mpr λa=>?_;simp only[List.count_append,List.count_cons];lia
   have gW:=(Kj dH).nodup_iff.mp C.cf;rw[Wr,Zo]at gW;have hJ:c∈rem:=by
    rcases Qg.mp (dH.mem_iff.mp fH) with z|z
    ·exact absurd ((g7 _).mpr (Yn.mpr ⟨c,z,oi⟩)) ap
    exact z
   have rX:∀s∈L,s∉gs:=λs hs hg=>by exact absurd rfl (gW.2.2 s ((g7 s).mp hg) s (Yn.mpr ⟨c,hJ,dM.mem_iff.mp hs⟩))
   have mX:L.Nodup:=by rw[dM.nodup_iff];have:=(zhi fH).nodup_iff.mp C.cf;rw[Zo]at this;exact this.1
   have jy:∀s∈L,s.1∈ZL s.2:=λs hs=>C.inc fH (dM.mem_iff.mp hs);have hLpos:0<L.length:=by rw[←hL];simp
   have cC:gs++L |>.Nodup:=Zo.mpr ⟨rC,mX,λa ha b' hV e=>rX b' hV (e▸ha)⟩
   have hsz:(gs++L).length≤10000:=by
    refine Zd (zgm cC (m:=bs.map (·.1)) λs hs=>?_) (DR Qa fM);rcases Qg.mp hs with z|z
    ·obtain⟨c',cY,bX⟩:=Yn.mp ((g7 s).mp z);exact(dZ s).mpr (C.inc (dH.mem_iff.mpr (UT cY)) bX)
    exact(dZ s).mpr (jy s z)
   rw[Qk]at hsz;have cB:∀k (hk:k<L.length),JT L[k]=L.getD (k+1) ws[i]:=λk hk=>by have:=lk_get jb k (DR hL hk);rw[hL,Qn,Qb hk]at this;exact this
   refine⟨λm σ H'=>Ex2 λ(k:Nat) (t:Nc)=>Aj7 (m=L.length-k) (k≤L.length) (σ=[DQ d,DQ b,DQ D,DQ g,FX (.ref as[i]),DQ fl,DQ t]) (Keep [g,fl] H7 H') (H' g=some (.dT (Fk k))) (H' fl=some (F' k)) (H' t=some (.tup [.str (L.getD k ws[i]).1,.str (L.getD k ws[i]).2])),
    ⟨_,0,as[i],rfl,HY,rfl,Keep.refl,by rw[List.take_zero,Zu];exact md,bJ,by rw[←hL];exact mH⟩,?_⟩
   rintro m σ H8 ⟨k8,t,rfl,hk8,rfl,nI,ma,fE,jX⟩;have dg:=DGet.t (k:=kP (L.getD k8 ws[i])) ma jX;by_cases dC:k8<L.length
   ·have fG:L.getD k8 ws[i]=L[k8]:=by rw[Qn,Qb dC];rfl
    have ce:L.take (k8+1)=L.take k8++[L[k8]]:=Qo dC;have cr:L[k8]∉gs++L.take k8:=λz=>by
     rcases Qg.mp z with q|q
     ·exact rX _ (Qm dC) q
     have:=Jp (Jt (k8+1) L) mX;rw[ce,Zo]at this;exact this.2.2 _ q _ RM rfl
    rw[fG]at jX dg;rw[valG_out cr]at dg;refine⟨RV,RV,g,RV,dg,RV,zbm rfl ⟨_,λ σ' H' z=>z,?_⟩⟩;have lP:(Fk k8).length<sizeLine:=by rw[Qa,Qk,Zi];lia
    refine⟨RV,RV,g,RV,DPut.t (k:=kP L[k8]) ma jX lP,?_⟩;have iR:putK (Fk k8) (kP L[k8]) RC=(gs++L.take (k8+1)).map λs=>(kP s,RD):=by rw[zf4 _ (valG_out cr),ce,←Qq,Qs (l₂:=[L[k8]])];rfl
    rw[iR];have ntg:t≠g:=zbf jX ma DS;have ntfl:t≠fl:=zbf jX fE DS;have k9:Keep [g,fl] H7 (J8 g (.dT (Fk (k8+1)))):=nI.trans FQ;have hg9:(J8 g (.dT (Fk (k8+1)))) g=some (.dT (Fk (k8+1))):=zac;have jk:(J8 g (.dT (Fk (k8+1)))) fl=some (F' k8):=by rw[zaf nfg];exact fE
    have lq:(J8 g (.dT (Fk (k8+1)))) t=some (.tup [.str L[k8].1,.str L[k8].2]):=by rw[zaf ntg];exact jX
    generalize J8 g (.dT (Fk (k8+1)))=H9 at k9 hg9 jk lq;refine⟨RV,DV jk,RV,t,_,_,RV,rfl,HQ lq,zau (j:=0) rfl,fl,_,RV,rfl,jk,(by rw[Qa,Qa,Zi];lia),?_⟩;have hfe:((L.take k8).map (·.1)).map V.str++[V.str L[k8].1]=((L.take (k8+1)).map (·.1)).map V.str:=by rw[ce,Qs,Qs];rfl
    rw[hfe];have jP:Keep [g,fl] H7 (KR (F' (k8+1))):=k9.trans FQ;have mf:(KR (F' (k8+1))) g=some (.dT (Fk (k8+1))):=by rw[zaf (Zj nfg)];exact hg9
    have gZ:(KR (F' (k8+1))) fl=some (F' (k8+1)):=zac;have lw:(KR (F' (k8+1))) t=some (.tup [.str L[k8].1,.str L[k8].2]):=by rw[zaf ntfl];exact lq
    generalize KR (F' (k8+1))=jH at jP mf gZ lw;have jv:BAt jH b bs Gd:=rP.keep jP (by simp[nbg,nbfl]) λe he=>by have h1:=rP.tp e he;simp[zbf h1 md DS,zbf h1 bJ DS]
    obtain⟨e,he,hee⟩:=Qj.mp ((dZ L[k8]).mpr (jy _ (Qm dC)));have dg2:=DGet.t (k:=kP L[k8]) jv.dc lw;rw[←hee,valT_in jv.nd he]at dg2;have iF:=jv.tp e he;rw[hee,cB k8 dC]at iF;refine⟨RV,RV,b,RV,dg2,L.length-(k8+1),FE,k8+1,e.2,rfl,dC,rfl,jP,mf,gZ,iF⟩
   have hk:k8=L.length:=by exact zar3 ‹_› ‹_›
   subst hk;have fG:L.getD L.length ws[i]=ws[i]:=by rw[Qn,Wt D9];rfl
   rw[Qt D9]at ma fE dg;have hwL:ws[i]∈L:=by rw[←hL];exact Qe
   rw[fG,valG_in (Y6 hwL)]at dg;refine⟨RV,RV,g,RV,dg,RV,U3 ?_⟩;have aD:((L.map (·.1)).map V.str).isEmpty=false:=by rw[←hL];rfl
   refine⟨RV,_,Gb ⟨_,DW fE,rfl⟩,zbm (by rw[aD];rfl) ?_⟩;have hD8:=nI _ _ kE (by simp[nDg,Zj nfD]);refine⟨RV,DV hD8,RV,D,_,RV,rfl,hD8,Fo,?_⟩;have k9:Keep [D,g] H5 (J8 D (DX (nh.map V.ref++[DK fl]))):=by
    refine Keep.trans (λc' u' ec cY=>?_) FQ;have h7:=jN c' u' ec cY;refine nI c' u' h7 ?_;have ncg:c'≠g:=λz=>cY (by simp[z]);have ncf:c'≠fl:=λz=>by have:=k6 c' u' ec cY;rw[z,dF]at this;cases this
    simp[ncg,ncf]
   refine⟨⟨_,_,RV⟩,k9,gs++L,dn++[c],rem.erase c,nh++[fl],dJ++[L],DY (Zj nDg) ma,cC,λs=>?_,?_,hwt (λs hs=>UT hs) (Y6 hwL),by rw[zac,Qs];rfl,?_,⟨zap aQ (Hy dM),λL' cg=>?_⟩,λa ha=>?_,by rw[Qk];show _+1≤_;exact zar4 ‹_›⟩
   ·rw[Qg,g7,Wr,Qg,Yo,Ko,Zu,dM.mem_iff]
   ·refine dH.trans ?_;rw[Qq];exact Vo (List.perm_cons_erase hJ)
   ·rw[Qs,← Qq];refine zap (Paired.impM (λa zs hz e=>?_) lF) (.cons ?_ .nil)
    ·obtain⟨h,t,rfl⟩:∃ h t,zs=h::t:=by
      rcases Qg.mp hz with z|z
      ·obtain⟨y,_,rfl⟩:=Qj.mp z;exact⟨y,[],rfl⟩
      obtain⟨L',cg,rfl⟩:=Qj.mp z;obtain⟨s1,t1,e1,_⟩:=(kC L' cg).cy;exact⟨s1.1,t1.map (·.1),by rw[e1];rfl⟩
     have n1:=notDg kE md a h t e;have naf:a≠fl:=Db bJ (by intro z;injection z with z;cases z);show Bi a=_;rw[zaf n1.1];exact nI _ _ e (by simp[n1.2,naf])
    show Bi fl=_;rw[zaf nfD,fE]
   ·rcases Qg.mp cg with z|z
    ·exact kC L' z
    rw[Qc.mp z];exact⟨ws[i],B1++A1,hL.symm,jb,λu hu=>least_at ag az (ad.mem_iff.mpr ((dZ u).mpr (jy u hu))) λz=>rX u hu (jU u z)⟩
   rcases Qg.mp ha with z|z
   ·exact gz a z
   rw[Qc.mp z];refine zas im (zas k6 dF ?_) DI;simp[nfD,nfg]
 rintro σ H6 ⟨⟨x4,x5,x6,rfl⟩,k6,gs,dn,rem,nh,dJ,oE,rC,g7,dH,jU,n6,eV,⟨aQ,kC⟩,gz,mi⟩;rw[Qa,cG,Qt D9]at jU;have ql:rem=[]:=by
  cases rem with
  |nil=>rfl
  |cons c rem'=>
   have mx:c∈cs:=dH.mem_iff.mpr (Y6 Qe);obtain⟨s0,t0,hc0,_⟩:=Mq mx;have aR:s0∈c:=by rw[hc0];exact Qe
   have h1:s0∈ws:=ad.mem_iff.mpr ((dZ s0).mpr (C.inc mx aR));have h2:=(g7 s0).mp (jU s0 h1);have h3:=(Kj dH).nodup_iff.mp C.cf;rw[Wr,Zo]at h3;exact absurd rfl (h3.2.2 s0 h2 s0 (Yn.mpr ⟨c,Qe,aR⟩))
 rw[ql,Zu]at dH;have sF:∀a zs,zbr H6 a zs→lstV H6 Gq=zs.map λx=>x.cps.toList:=λa zs e=>by rw[zie e,Zq];rfl
 refine⟨RV,D,RV,DW n6,λv hv=>?_,λl7 p9 aG cO bV=>?_⟩
 ·obtain⟨a,ha,rfl⟩:=Qj.mp hv;obtain⟨j,hj,rfl⟩:=Zb ha;obtain⟨_,e⟩:=za1 eV hj;exact⟨_,RV,e⟩
 obtain⟨sE,rfl,aK⟩:=zgc cO;obtain⟨kG,iQ,cD⟩:=zdc aK eV;have fl7:H l7=none:=by
  refine zas im (zas k6 aG ?_) DI;intro z;rcases Qi.mp z with z|z
  ·rw[z,n6]at aG;cases aG
  rw[Qc.mp z,oE]at aG;cases aG
 rw[Wv]at bV;have hfz:dJ.flatten.Perm dn.flatten:=by
  clear eV kC iQ cD jU g7 dH;induction aQ with
  |nil=>exact .refl _
  |cons h t ih=>rw[Yo,Yo];exact h.append ih
 have cb:JB dJ:=⟨kC,hfz.nodup_iff.mpr ((Kj dH).nodup_iff.mp C.cf),λs=>(hfz.mem_iff.trans (Kj dH).mem_iff.symm).trans (C.cm s)⟩;refine k l7 sE kG dJ dn _ zac (by rw[aK.length_eq];rw[Qa]at mi;lia) (Paired.imp' (λa z e=>by show Bi a=_;rw[zaf (BF aG)];exact e) cD) iQ (show kG.Pairwise leL from zcl (S:=λa b=>(Tm.listO Tm.strO).kle a b) (f:=λa=>lstV H6 Gq) (g:=λz:List Str=>z.map λx:Str=>x.cps.toList) cD sF bV) cb dH.symm aQ fl7 (λa ha=>gz a (aK.mem_iff.mp ha)) ((λc u ec _=>?_));have nD:c≠D:=λz=>by
  by_cases zd:c=d
  ·exact ndD (zd▸z)
  have h2:=k2 c u (k1 c u ec DI) (DJ zd);rw[z,hD]at h2;cases h2
 have nG:c≠g:=λz=>by have h1:=k3 c u (k1 c u ec DI) DI;rw[z,hg]at h1;cases h1
 have:=k6 c u (im c u ec DI) (by simp[nD,nG]);rw[zaf (zab this aG)];exact this
theorem hd_pair{H:Hp}:∀{as:Nn} {zss:List (GK Str)},(∀zs∈zss,∃h t,zs=h::t)→Vz as zss→Vy as (zss.map λz=>z.headD "")
 |_,_,_,.nil=>.nil
 |_,_,h,.cons r t=>by obtain⟨x,u,rfl⟩:=h _ Qe;exact .cons ⟨u,r⟩ (hd_pair (λzs hz=>h zs (WD hz)) t)
abbrev sPiece:Stmt:=top 11
abbrev zh3:Stmt:=top 12
def marks(ks:Nj):List (Key×V):=ks.map λz=>((Sum.inr z:Key),RD)
def zhu(h:x∉ks):valV (marks ks) (Sum.inr x)=none:=by
 unfold marks;induction ks with
 |nil=>rfl
 |cons a t ih=>
  rw[Qi,not_or]at h;rw[Ql,zbz]
  ·exact ih h.2
  intro q;exact h.1 (Kg q).symm
def valM_in(h:x∈ks):valV (marks ks) (Sum.inr x)=some RC:=by
 unfold marks;induction ks with
 |nil=>cases h
 |cons a t ih=>
  rw[Ql];by_cases e:a=x
  ·exact zc8 (by rw[e])
  rw[zbz (λq=>e (Kg q))];rcases Qi.mp h with z|z
  ·exact absurd z.symm e
  exact ih z
def putM_new(h:x∉ks):Vb RC=marks (ks++[x]):=by rw[zf4 _ (zhu h)];unfold marks;rw[List.map_append];rfl
def putM_old(h:x∈ks):Vb RC=marks ks:=by
 unfold putK marks;rw[if_pos]
 ·rw[Zq];refine Jf λz _=>?_;show(if(Sum.inr z:Key)=Sum.inr x then((Sum.inr z:Key),RD) else(Sum.inr z,RD))=_;split<;>rfl
 exact Xr.mpr ⟨_,Qj.mpr ⟨x,h,rfl⟩,DI⟩
def mkeys(ks:Nj):((marks ks).map λp=>kV p.1)=ks.map V.str:=by unfold marks;rw[List.map_map];rfl
inductive IspPiece(vs:List V)(H:Hp)(Q:VK):Prop
 |mk(d:Nc)(es:List Ent)(cs:List (List (Str×Str)))(lab:Nx)(x:Str)(h0:vs=[.ref d,.str x])(h1:TAt H d es)(h2:es.length≤60)(h3:Cert (es.map (·.1)) (row (rsOf es)) cs lab)(h4:x∈es.map (·.1))(h5:∀(l:Nc) (zs:Nj) (H':Hp),H' l=some (.lst (zs.map V.str))→zs.Nodup→zs.Pairwise leS→(∀y,y∈zs↔y∈es.map (·.1)∧lab y=lab x)→H l=none→Keep [] H H'→Q (.ref l) H')
def spPiece:Sp:=λvs H Q _=>IspPiece vs H Q
def seqO(b:Bool)(xs:List V):HO:=bif b then .tup xs else .lst xs
structure GAt(b:Bool)(H:Hp)(d:Nc)(es:List Ent):Prop where
 dc:H d=some FV
 ro:∀e∈es,H e.2.2=some (seqO b Gc)
 nd:(es.map (·.1)).Nodup
def GAt.keep(r:GAt b H d es)(k:W3 H')(hd:d∉xs)(h:∀e∈es,e.2.2∉xs):GAt b H' d es:=⟨k _ _ r.dc hd,λe he=>k _ _ (r.ro e he) (h e he),r.nd⟩
def SqB(b:Bool)(K:Nb)(H:Hp)(a:Nc)(xs:List V):Prop:=bif b then UU xs else W0 xs
def ItB(b:Bool)(K:Nb)(a:Nc):It:=bif b then NT a else XC a
def SqB.of{b:Bool}{K:Nb}{H:Hp}{a:Nc}{xs:List V}(h:H a=some (seqO b xs)):Dc H a xs:=by
 cases b
 ·exact SqL.of h
 exact SqT.of h
def GAt.sq{b:Bool}{K:Nb}{H:Hp}{d:Nc}{es:List Ent}{e:Ent}(r:GAt b H d es)(he:e∈es):Dc H e.2.2 Gc:=SqB.of (r.ro e he)
def iB(b:Bool)(K:Nb)(tl:TE):TI:=λ σ H R=>tl σ H λx H1=>RI1 x (λa=>∃xs,Dc H1 a xs) λa=>R (Dd a) H1
def pi_b(b:Bool){X:Cx}{tg l:Expr}{tl:TE}(hl:Z9 l tl):JE l (iB b X.K tl):=by
 cases b
 ·exact za2 hl
 exact pi_tup hl
def for_b(b:Bool){K:Nb}{a:Nc}{xs:List V}{g:TG}{tb:TS}{D:Ends}{σ:St}{H:Hp}(Pv:Nat→St→Hp→Prop)(h0:Pv 0 σ H)(hl:∀i σ H,i≤xs.length→Pv i σ H→Dc H a xs)(hs:∀i x σ H,xs[i]?=some x→Pv i σ H→g x σ H λ σ2 H2=>tb {D with nx:=Pv Fj,ct:=Pv Fj,bk:=D.nx} σ2 H2)(hd:∀σ H,Pv xs.length σ H→WV H) :
  ∃W:Nat→Nat→St→Hp→Prop,(∃m,W 0 m σ H)∧∀i m σ H,W i m σ H →
   ((Dd a).stop i H∧WV H)∨((Dd a).go i H∧∃N:St→Hp→Prop,Ff∧∀x H',(Dd a).yld i H x H'→g x σ H' λ σ2 H2=>tb {D with nx:=N,ct:=N,bk:=D.nx} σ2 H2):=by
 cases b
 ·exact zb3 Pv h0 hl hs hd
 exact for_tup Pv h0 hl hs hd
inductive IspPieceG(b:Bool)(vs:List V)(H:Hp)(Q:VK):Prop
 |mk(d:Nc)(es:List Ent)(x:Str)(h0:vs=[.ref d,.str x])(h1:GAt b H d es)(h2:es.length≤60)(h3:∀z y,y∈row (rsOf es) z→y∈es.map (·.1))(h4:x∈es.map (·.1))(h5:∀(l:Nc) (zs:Nj) (H':Hp),H' l=some (.lst (zs.map V.str))→zs.Nodup→zs.Pairwise leS→(∀y,y∈zs↔Conn (row (rsOf es)) x y)→H l=none→Keep [] H H'→Q (.ref l) H')
def spPieceG(b:Bool):Sp:=λvs H Q _=>IspPieceG b vs H Q
def zgb:zaw ["rounds", "start", "reached", "waiting", "place", "other"] ["rounds", "start"] (zag sPiece):=fsk
def ok_pieceG(b:Bool){f:Nc}{fd:Nu}(F:Z2 "piece_from" "piece_from" sPiece f fd)(aB:mg "sorted" = none):ZB 1 f fd ["rounds", "start"] (spPieceG b):=by
 refine F.okL zgb DP;obtain⟨d,es,x,rfl,T,aP,gF,hx,k⟩:=h;have hu:=zco hr;have aR  :=sizeLine_eq;refine⟨_,zad (BQ zgb.nd (pe_disp (pps_cons Gs pe_bl pps_nil) rfl rfl DL DL))
  (zad (JZ zgb.nd (za6 Ho))
  (zad (Ms (zf5 Go (by intro _;rfl))
   (zad (XH zgb.nd (pe_bm0 Qu PySem.F.slot_list_pop PySem.F.type_list_pop mt_pop Go))
   (zah (QE (pi_b b (Y0 Rq)) (zbe 5 zgb.nd)
    (zah (zcg (pt_cmp (zgf hu Rr Gy))
     (zad (VA rfl)
     (zah (RT Go (UY zae)))) za9))))))
  (zah (zbo (XI D4 aB Yp Hi))))),?_⟩
 have af:∀e∈es,ZL e.1=e.2.1:=λe he=>zb5 T.nd he;refine λre gQ=>⟨_,rfl,zac,[(Sum.inr x,RC)],rfl,(by show 1≤15;decide),?_⟩;have dB:(zhg [] [((Sum.inr x:Key),RD)])=marks [x]:=rfl;rw[dB];have kre:Keep [] H (upd (ZQ re (.dK [])) re (.dK (marks [x]))):=by rw[upd_upd];exact Keep.new gQ
 have dw:(upd (ZQ re (.dK [])) re (.dK (marks [x]))) re=some (.dK (marks [x])):=zac;generalize upd (ZQ re (.dK [])) re (.dK (marks [x]))=H1 at kre dw;refine⟨RV,(DO 1),λwa pT=>?_⟩;have k2:Keep [] H (QG wa (.lst [GH x])):=kre.trans (D0 pT);have iy:H wa=none:=zas (xs:=[]) kre pT DI;have li:(QG wa (.lst [GH x])) wa=some (DX ([x].map V.str)):=zac;have nE:re≠wa:=zab dw pT;have eU:(QG wa (.lst [GH x])) re=some (.dK (marks [x])):=by rw[zaf nE];exact dw
 generalize QG wa (.lst [GH x])=H2 at k2 li eU;have T2:GAt b H2 d es:=T.keep k2 DI (λ_ _=>by simp);have pC:d≠re:=Vw gQ;have ndw:d≠wa:=Vw iy;have rowne:∀e∈es,e.2.2≠re∧e.2.2≠wa:=λe he=>⟨zab (T.ro e he) gQ,zab (T.ro e he) iy⟩;refine⟨λm σ H'=>Aj3 (Ex2 λx4 x5=>σ=[DQ d,Ri x,DQ re,DQ wa,x4,x5]) (Keep [re,wa] H2 H') (Ex2 λ(ks wl:Nj)=>Aj9 (H' re=some (HN ks)) (H' wa=some (DX (wl.map V.str))) ks.Nodup wl.Nodup (∀z∈wl,z∈ks) (∀z∈ks,z∈es.map (·.1)∧Mt z) (x∈ks) (∀z∈ks,z∉wl→∀y∈ZL z,y∈ks) (m=es.length+wl.length-ks.length)),
  ⟨_,⟨none,none,rfl⟩,Keep.refl,[x],[x],eU,li,Ze.mpr ⟨DI,Yh⟩,Ze.mpr ⟨DI,Yh⟩,λz h=>h,λz h=>(by rw[Qc.mp h];exact⟨hx,.refl⟩),Qe,λz h h'=>absurd h h',rfl⟩,?_⟩
 rintro m σ H3 ⟨⟨x4,x5,rfl⟩,k3,ks,wl,ck,iA,fZ,pR,o8,jc,hxk,jt,rfl⟩;have hkle:ks.length≤es.length:=by have:=zcn fZ (m:=es.map (·.1)) λz hz=>(jc z hz).1;rwa[Qa]at this
 have lg:wl.length≤ks.length:=zcn pR o8;refine⟨RV,_,Gb ⟨_,DW iA,rfl⟩,?_⟩;rcases List.eq_nil_or_concat wl with dS|⟨ini,z,dS⟩
 ·-- all are reached
  subst dS;refine U3 ⟨RV,re,_,ks,rfl,Gb ck,mkeys ks,λl zs hl ad ag=>?_⟩;have kf:Keep [] H H3:=λc u ec _=>k3 c u (k2 c u ec DI) (by simp[BN gQ,BN iy]);refine k l zs _ zac (ad.nodup_iff.mpr fZ) (ag DH) (λy=>?_) (zas kf hl DI) (kf.trans (D0 hl));rw[ad.mem_iff];constructor
  ·exact λh=>(jc y h).2
  intro hc;induction hc with
  |refl=>exact hxk
  |step _ hz ih=>exact jt _ ih DI _ hz
 rw[List.concat_eq_append]at dS;subst dS;refine zbm (by rw[Qs];cases ini<;>rfl) ⟨_,λ σ' H' zz=>zz,?_⟩;have dQ:z∈ks:=o8 z (Y6 Qe);obtain⟨en,aY,de⟩:=Qj.mp (jc z dQ).1;have l4:en.1=z:=de;rw[Zo]at pR;obtain⟨aX,_,rL⟩:=pR;have hzi:z∉ini:=λq=>rL z q z Qe rfl;have cw:((ini++[z]).map V.str)[((ini++[z]).map V.str).length-1]?=some (GH z):=by rw[Qs,Qk,Uw DI];simp
 have km:((ini++[z]).map V.str).dropLast=ini.map V.str:=by rw[Qs];exact List.dropLast_concat
 refine⟨RV,DV iA,wa,_,RV,rfl,iA,cw,?_⟩;rw[km];have k4:Keep [re,wa] H2 (QN wa Rg):=k3.trans FQ;have lh:(QN wa Rg) wa=some Rg:=zac;have eT:(QN wa Rg) re=some (HN ks):=by rw[zaf nE];exact ck
 generalize QN wa Rg=H4 at k4 lh eT;have T4:GAt b H4 d es:=T2.keep k4 (by simp[pC,ndw]) λe he=>by simp[(rowne e he).1,(rowne e he).2]
 have dg:DGet H4 d (GH z) (FX (.ref en.2.2)):=by have:=DGet.k (k:=Sum.inr en.1) T4.dc;rw[zg8 T4.nd aY,l4]at this;exact this
 have hrz:ZL z=en.2.1:=by rw[←l4];exact af en aY
 refine⟨_,rfl,_,rfl,d,_,rfl,dg,en.2.2,rfl,⟨_,GAt.sq T4 aY⟩,for_b b (xs:=en.2.1.map V.str) (λj σ H'=>Aj3 (Ex1 λx5=>σ=[DQ d,Ri x,DQ re,DQ wa,Ri z,x5]) (Keep [re,wa] H2 H') (Ex1 λ(nw:Nj)=>Aj5 (H' re=some (HN (ks++nw))) (H' wa=some (DX ((ini++nw).map V.str))) ((ks++nw).Nodup) (∀y∈nw,y∈es.map (·.1)∧Mt y) (∀y∈en.2.1.take j,y∈ks++nw)))
  ⟨⟨_,rfl⟩,k4,[],DR Zu eT,DR Zu lh,DR Zu fZ,λy hy=>(by cases hy),λy hy=>(by cases hy)⟩
  (λj σ H' _ hh=>(SqB.of (hh.2 _ _ (T2.ro en aY) (by simp[(rowne en aY).1,(rowne en aY).2])))) ?_ ?_⟩
 ·rintro j y σ H5 hy ⟨⟨y5,rfl⟩,k5,nw,bY,gn,cS,dA,eI⟩;have hj:j<en.2.1.length:=by have:=(Zk.mp hy).1;rwa[Qa]at this
  have gM:y=.str en.2.1[j]:=by rw[Qr,Qb hj]at hy;exact(Qw hy).symm
  subst gM;have gj:en.2.1[j]∈ZL z:=by rw[hrz];exact Qm hj
  have ce:en.2.1.take (j+1)=en.2.1.take j++[en.2.1[j]]:=Qo hj;have hsz:(ks++nw).length≤es.length:=by
   have:=zcn cS (m:=es.map (·.1)) λq hq=>by
    rcases Qg.mp hq with h|h
    ·exact(jc q h).1
    exact(dA q h).1
   rwa[Qa]at this
  have oS:=DGet.k (k:=Sum.inr en.2.1[j]) bY;by_cases aX:en.2.1[j]∈ks++nw
  ·rw[valM_in aX]at oS;refine⟨RV,RV,re,RV,oS,RV,U3 ⟨⟨RV⟩,k5,nw,bY,gn,cS,dA,λq hq=>?_⟩⟩;rw[ce]at hq;rcases Qg.mp hq with h|h
   ·exact eI q h
   rw[Qc.mp h];exact aX
  rw[zhu aX]at oS;refine⟨RV,RV,re,RV,oS,RV,zbm rfl ⟨RV,RV,re,RV,DPut.k (k:=Sum.inr en.2.1[j]) bY (by unfold marks;rw[List.length_map];lia),?_⟩⟩;rw[putM_new aX];have iz:(Q2 re (HN (ks++nw++[en.2.1[j]]))) wa=some (DX ((ini++nw).map V.str)):=by rw[zaf (Zj nE)];exact gn
  have dv:(Q2 re (HN (ks++nw++[en.2.1[j]]))) re=some (HN (ks++nw++[en.2.1[j]])):=zac;have k6:Keep [re,wa] H2 (Q2 re (HN (ks++nw++[en.2.1[j]]))):=k5.trans FQ;generalize Q2 re (HN (ks++nw++[en.2.1[j]]))=H6 at iz dv k6;rw[Qk]at hsz;rw[Qk,Zc,Ja]at lg;refine⟨RV,DV iz,RV,wa,_,RV,rfl,iz,(by rw[Qa,Qk];lia),⟨RV⟩,k6.trans FQ,nw++[en.2.1[j]],by rw[zaf nE,←Qq];exact dv,by rw[zac,←Qq,Qs (l₂:=[en.2.1[j]])];rfl,?_,λq hq=>?_,λq hq=>?_⟩
  ·rw[← Qq,Zo];refine⟨cS,Ze.mpr ⟨DI,Yh⟩,λa ha b hb e=>?_⟩;rw[Qc.mp hb]at e;exact aX (e▸ha)
  ·rcases Qg.mp hq with h|h
   ·exact dA q h
   rw[Qc.mp h];exact⟨gF z _ gj,.step (jc z dQ).2 gj⟩
  rw[ce]at hq;rw[←Qq];rcases Qg.mp hq with h|h
  ·exact UT (eI q h)
  exact Y6 h
 rintro σ H5 ⟨⟨y5,rfl⟩,k5,nw,bY,gn,cS,dA,eI⟩;rw[Qa,Qt D9]at eI;have hsz:(ks++nw).length≤es.length:=by
  have:=zcn cS (m:=es.map (·.1)) λq hq=>by
   rcases Qg.mp hq with h|h
   ·exact(jc q h).1
   exact(dA q h).1
  rwa[Qa]at this
 have f6:=cS;rw[Zo]at f6;refine⟨es.length+(ini++nw).length-(ks++nw).length,?_,⟨_,RV⟩,k5,ks++nw,ini++nw,bY,gn,cS,?_,?_,?_,UT hxk,?_,rfl⟩
 ·rw[Qk]at hsz;rw[Qk,Qk,Qk,Zc,Ja];rw[Qk,Zc,Ja]at lg;lia
 ·rw[Zo];refine⟨aX,f6.2.1,λa ha b hb e=>f6.2.2 a (o8 a (UT ha)) b hb e⟩
 ·intro q hq;rcases Qg.mp hq with h|h
  ·exact UT (o8 q (UT h))
  exact Y6 h
 ·intro q hq;rcases Qg.mp hq with h|h
  ·exact jc q h
  exact dA q h
 intro q hq iN y hy;rw[Qg,not_or]at iN;rcases Qg.mp hq with h|h
 ·by_cases hqz:q=z
  ·rw[hqz,hrz]at hy;exact eI y hy
  exact UT (jt q h (by rw[Qg,not_or,Qc];exact⟨iN.1,hqz⟩) y hy)
 exact absurd h iN.2
def ok_piece(F:Z2 "piece_from" "piece_from" sPiece f fd)(aB:mg "sorted" = none):ZB 1 f fd ["rounds", "start"] spPiece:=
 (ok_pieceG true F aB).imp λvs H Q E ⟨d,es,cs,lab,x,e,T,aP,C,hx,k⟩=>⟨d,es,x,e,⟨T.dc,T.ro,T.nd⟩,aP,λz y h=>C.inn' h,hx,λl zs H' h1 h2 h3 h4=>k l zs H' h1 h2 h3 λy=>(h4 y).trans ⟨λh=>by
  induction h with
  |refl=>exact⟨hx,rfl⟩
  |step _ gj ih=>exact⟨C.inn' gj,(C.la _ _ gj).trans ih.2⟩,λh=>C.co x hx y h.1 h.2.symm⟩⟩
def zfn(ns:Nj)(lab:Nx)(zs:Nj):Prop:=zs.Nodup∧∃s∈ns,∀y,y∈zs↔y∈ns∧lab y=lab s
structure InRow(ns:Nj)(zss:List (List Str)):Prop where
 so:∀zs∈zss,zs.Pairwise leS
 hd:zss.Pairwise λa b=>a≠b∧∀x∈a.head?,∀y∈b.head?,leS x y
 al:∀y∈ns,∃zs∈zss,y∈zs
inductive IspPieces(vs:List V)(H:Hp)(Q:VK):Prop
 |mk(d:Nc)(es:List Ent)(cs:List (List (Str×Str)))(lab:Nx)(h0:vs=[.ref d])(h1:TAt H d es)(h2:es.length≤60)(h3:Cert (es.map (·.1)) (row (rsOf es)) cs lab)(h4:∀(l:Nc) (as:Nn) (zss:List (List Str)) (H':Hp),H' l=some (.lst (as.map V.ref))→Paired (zbr H') as zss→(∀zs∈zss,zfn (es.map (·.1)) lab zs)→InRow (es.map (·.1)) zss→H l=none→(∀a∈as,H a=none)→Keep [] H H'→Q (.ref l) H')
def spPieces:Sp:=λvs H Q _=>IspPieces vs H Q
def zds:zaw ["rounds", "found", "reached", "start", "piece", "place"] ["rounds"] (zag zh3):=fsk
def ok_pieces(F:Z2 "pieces_of" "pieces_of" zh3 f fd)(FP:Z2 "piece_from" "piece_from" sPiece fp fdp)(bP:Z8 fdp ["rounds", "start"] [])(mP:mg "piece_from" = some (DK fp))(GP:ZB 1 fp fdp ["rounds", "start"] spPiece)(aB:mg "sorted" = none):ZB 2 f fd ["rounds"] spPieces:=by
 refine F.okL zds DP;obtain⟨d,es,cs,lab,rfl,T,aP,C,k⟩:=h;have hu:=zco hr;have aR  :=sizeLine_eq;refine⟨_,zad (KG zds.nd Hx)
  (zad (BQ zds.nd pe_dnewK)
  (zad (QE (za2 (XI D4 aB Yp Hu)) (N6 zds.nd)
   (zah (zcg (pt_cmp (zgf hu Go Gy))
    (zad (XH zds.nd (Mu bP .nil za3 (ZP Rv)))
    (zad (RT Gs (Y8 zae))
    (zah (QE (za2 Rq) (zbe 5 zds.nd)
     (zah (VA rfl)))))) za9)))
  (zah (zbo Gs)))),?_⟩
 refine⟨(DO 0),λfo g8 re gQ=>?_⟩;have eS:H re=none:=zas (xs:=[]) (D0 g8) gQ DI;have pB:fo≠re:=zab (o:=_) zac gQ;have k1:Keep [] H (upd (ZQ fo Fb) re (.dK [])):=(D0 g8).trans (D0 gQ);have cU:(upd (ZQ fo Fb) re (.dK [])) fo=some Fb:=by rw[zaf pB];exact zac
 have dw:(upd (ZQ fo Fb) re (.dK [])) re=some (.dK []):=zac;generalize upd (ZQ fo Fb) re (.dK [])=H1 at k1 cU dw;have T1:TAt H1 d es:=V1 DI (λ_ _=>by simp);refine⟨RV,d,_,FG,rfl,.inl T1.dc,zgq es,λl ws hl ad ag=>?_⟩;replace ag:=ag Fo;have k2:Keep [] H1 (QG l Ga):=Keep.new hl;have aq:(QG l Ga) l=some Ga:=zac;have nlf:l≠fo:=Zj (zab cU hl);generalize QG l Ga=H2 at k2 aq;have fC:=k2 _ _ cU DI;have eU:=k2 _ _ dw DI;have nlr:l≠re:=zbf aq eU DS;have T2:TAt H2 d es:=T1.keep k2 DI (λ_ _=>by simp);have nQ:Keep [] H H2:=k1.trans k2;have ndf:d≠fo:=Vw g8;have pC:d≠re:=Vw eS;have dS:ws.length=es.length:=by rw[ad.length_eq,Qa]
 refine⟨l,rfl,⟨_,DW aq⟩,zew (zs:=ws) (λi σ H'=>Aj3 (Ex3 λx3 x4 x5=>σ=[DQ d,DQ fo,DQ re,x3,x4,x5]) (Keep [fo,re] H2 H') (Ex3 λ(as:Nn) (zss:Fz Str) (ks:Nj)=>Aj8 (H' fo=some Gk) (H' re=some (HN ks)) (K7 as zss) (∀zs∈zss,zfn FG lab zs) (as.length≤i) ks.Nodup (∀z∈ks,z∈es.map (·.1)) (Aj7 (∀a∈as,a≠fo∧H a=none) (∀y∈ws.take i,y∈ks) (∀y∈ks,∃zs∈zss,y∈zs) (∀zs∈zss,∀y∈zs,y∈ks) (∀zs∈zss,∀x∈zs.head?,x∈ws.take i) (zss.Pairwise λa b=>a≠b∧∀x∈a.head?,∀y∈b.head?,leS x y) (∀zs∈zss,zs.Pairwise leS))))
  ⟨⟨_,_,_,rfl⟩,Keep.refl,[],[],[],fC,eU,.nil,λzs h=>(by cases h),HY,Yh,λz h=>(by cases h),λz h=>(by cases h),λz h=>(by cases h),λz h=>(by cases h),λz h=>(by cases h),λz h=>(by cases h),List.Pairwise.nil,λz h=>(by cases h)⟩ (λi σ H' _ hh=>SqL.of (hh.2 _ _ aq (by simp[nlf,nlr]))) ?_ ?_⟩
 ·rintro i hi σ H3 ⟨⟨x3,x4,x5,rfl⟩,k3,as,zss,ks,fB,ck,cP,cn,rS,fZ,ow,fP,c1,c2,c6,c3,c4,c5⟩;have dg:=DGet.k (k:=Sum.inr ws[i]) ck;have T3:TAt H3 d es:=T2.keep k3 (by simp[ndf,pC]) λe he=>by have h1:=T.ro e he;simp[zab h1 g8,zab h1 eS]
  by_cases aX:ws[i]∈ks
  ·rw[valM_in aX]at dg;refine⟨RV,RV,re,RV,dg,RV,U3 ⟨⟨_,_,RV⟩,k3,as,zss,ks,fB,ck,cP,cn,by exact zhr ‹_›,fZ,ow,fP,λy hy=>?_,c2,c6,λzs h x hx=>Wc (i:=i) (by rw[List.take_take,Nat.min_eq_left (Jc i)];exact c3 zs h x hx),c4,c5⟩⟩;rw[Qo hi]at hy;rcases Qg.mp hy with h|h
   ·exact c1 y h
   rw[Qc.mp h];exact aX
  rw[zhu aX]at dg;refine⟨RV,RV,re,RV,dg,RV,zbm rfl ?_⟩;have gm:=ad.mem_iff.mp (Qm hi);refine⟨RV,RV,d,es,cs,lab,ws[i],rfl,T3,aP,C,gm,λp zs H4 bf de nX cJ lE k4=>?_⟩;obtain⟨ij,qY⟩:∃ij,ij=ks:=⟨_,rfl⟩;rw[←qY]at ck fZ ow aX c1 c2 c6;have fA:=k4 _ _ fB DI;have eT:=k4 _ _ ck DI;have npf:p≠fo:=Zj (zab fB lE);have npr:p≠re:=zbf bf eT DS;refine⟨RV,DV fA,RV,fo,_,RV,rfl,fA,Fo,?_⟩;have k5:Keep [fo,re] H2 (QZ fo (DX (as.map V.ref++[HU]))):=(Rf (k4.sub DI)).trans FQ;have fq:(QZ fo (DX (as.map V.ref++[HU]))) fo=some (DX ((as++[p]).map V.ref)):=by rw[zac,Qs];rfl
  have bY:(QZ fo (DX (as.map V.ref++[HU]))) re=some (HN ij):=by rw[zaf (Zj pB)];exact eT
  have aW:(QZ fo (DX (as.map V.ref++[HU]))) p=some (DX Gj):=by rw[zaf npf];exact bf
  have cp:Paired (zbr (QZ fo (DX (as.map V.ref++[HU])))) (as++[p]) (zss++[zs]):=by
   refine zap ?_ (Hy aW);have:∀{as:Nn} {zss:List (GK Str)},Paired (zbr H3) as zss→(∀a∈as,a≠fo)→Paired (zbr (QZ fo (DX (as.map V.ref++[HU])))) as zss:=λ{as zss} r ha=>by
    have h2:∀(L:List V),Paired (zbr (QZ fo (DX L))) as zss:=λL=>by
     induction r with
     |nil=>exact .nil
     |cons h t ih=>exact .cons (by unfold zbr;rw[zaf (ha _ List.mem_cons_self)];exact k4 _ _ h DI) (ih λa h=>ha a (V9 h))
    exact h2 _
   exact this cP λa ha=>(fP a ha).1
  have mG:∀a∈as++[p],a≠fo∧H a=none:=λa ha=>by
   rcases Qg.mp ha with h|h
   ·exact fP a h
   rw[Qc.mp h];refine⟨npf,zas nQ (zas k3 lE ?_) DI⟩;simp[npf,npr]
  generalize QZ fo (DX (as.map V.ref++[HU]))=H5 at k5 fq bY aW cp;refine⟨_,rfl,p,rfl,⟨_,DW aW⟩,zb3 (xs:=zs.map V.str) (λj σ H'=>Aj3 (Ex1 λx5=>σ=[DQ d,DQ fo,DQ re,FX (.str ws[i]),DQ p,x5]) (Keep [re] H5 H') (Ex1 λ(ks:Nj)=>Aj4 (H' re=some (HN ks)) ks.Nodup (∀z∈ks,z∈es.map (·.1)) (∀z,z∈ks↔z∈ij∨z∈zs.take j)))
   ⟨⟨_,rfl⟩,Keep.refl,ij,bY,fZ,ow,λz=>⟨.inl,λh=>h.elim id λh=>(by cases h)⟩⟩ (λj σ H' _ hh=>SqL.of (hh.2 _ _ aW (DJ npr))) ?_ ?_⟩
  ·rintro j y σ H6 hy ⟨⟨y5,rfl⟩,k6,ig,dv,fh,fj,cv⟩;have hj:j<zs.length:=by have:=(Zk.mp hy).1;rwa[Qa]at this
   obtain⟨z,hz,rfl,ez⟩:∃z,z∈zs∧y=V.str z∧z=zs[j]:=by rw[Qr,Qb hj]at hy;exact⟨zs[j],Qm hj,(Qw hy).symm,rfl⟩
   have step:∀q,(q∈ig∨q=z)↔q∈ij∨q∈zs.take (j+1):=λq=>by rw[cv,Qo hj,Qg,Qc,ez,or_assoc]
   have hsz:ig.length≤es.length:=by have:=zcn fh fj;rwa[Qa]at this
   refine⟨RV,RV,re,RV,DPut.k (k:=Sum.inr z) dv (by unfold marks;rw[List.length_map];lia),⟨RV⟩,k6.trans FQ,?_⟩;by_cases dQ:z∈ig
   ·exact⟨ig,by rw[zac,putM_old dQ],fh,fj,λq=>by rw[←step q];exact⟨.inl,λh=>h.elim id λe=>e▸dQ⟩⟩
   refine⟨ig++[z],by rw[zac,putM_new dQ],?_,λq hq=>?_,λq=>by rw[← step q,Qg,Qc]⟩
   ·rw[Zo];refine⟨fh,Ze.mpr ⟨DI,Yh⟩,λa ha b hb e=>?_⟩;rw[Qc.mp hb]at e;exact dQ (e▸ha)
   rcases Qg.mp hq with h|h
   ·exact fj q h
   rw[Qc.mp h];exact((cJ z).mp hz).1
  rintro σ H6 ⟨⟨y5,rfl⟩,k6,ig,dv,fh,fj,cv⟩;rw[Qa,Qt D9]at cv;have jT:ws[i]∈zs:=(cJ _).mpr ⟨gm,rfl⟩;have gU:zs.head?=some ws[i]:=by
   cases pN:zs with
   |nil=>rw[pN]at jT;cases jT
   | cons m t=>
    have hmz:m∈zs:=by rw[pN];exact Qe
    obtain⟨lN,gr⟩:=(cJ m).mp hmz;obtain⟨j,hj,ej⟩:=Zb (ad.mem_iff.mpr lN);have h1:leS m ws[i]:=by
     rw[pN]at jT nX;rcases Qi.mp jT with q|q
     ·rw[q];exact λz=>Wm _ z
     exact(Wk.mp nX).1 _ q
    have bd:i≤j:=Nat.le_of_not_lt λaa=>by have dB:m∈ij:=c1 m (by rw[←ej,←Uj (j:=i) (h:=by rw[Zi];lia)];exact Qm _);obtain⟨bz,l6,qI⟩:=c2 m dB;obtain⟨_,s,_,hs⟩:=cn bz l6;exact aX (c6 bz l6 _ ((hs _).mpr ⟨gm,gr.symm.trans ((hs m).mp qI).2⟩))
    have h2:leS ws[i] m:=by
     rcases Nat.lt_or_eq_of_le bd with q|q
     ·rw[←ej];exact Ua.mp ag i j hi hj q
     subst q;rw[ej];exact λz=>Wm _ z
    rw[De h1 h2];rfl
  have tk:ws.take Fj=ws.take i++[ws[i]]:=Qo hi;refine⟨⟨_,_,RV⟩,k5.trans (k6.sub DI),as++[p],zss++[zs],ig,k6 _ _ fq (DJ pB),dv,Paired.imp' (λa zs h=>k6 _ _ h (by simpa using zbf h bY DS)) cp,λq hq=>?_,by rw[Qk];show _+1≤_;exact zar4 ‹_›,fh,fj,mG,λy hy=>?_,λy hy=>?_,λq hq y hy=>?_,λq hq x hx=>?_,?_,λq hq=>?_⟩
  ·rcases Qg.mp hq with h|h
   ·exact cn q h
   rw[Qc.mp h];exact⟨de,ws[i],gm,cJ⟩
  ·rw[tk]at hy;rcases Qg.mp hy with h|h
   ·exact(cv y).mpr (Gb (c1 y h))
   rw[Qc.mp h];exact(cv _).mpr (G' jT)
  ·rcases (cv y).mp hy with h|h
   ·obtain⟨z,hz,gM⟩:=c2 y h;exact⟨z,UT hz,gM⟩
   exact⟨zs,Y6 Qe,h⟩
  ·rcases Qg.mp hq with h|h
   ·exact(cv y).mpr (Gb (c6 q h y hy))
   rw[Qc.mp h]at hy;exact(cv y).mpr (G' hy)
  ·rw[tk];rcases Qg.mp hq with h|h
   ·exact UT (c3 q h x hx)
   rw[Qc.mp h,gU]at hx;rw[←Qw hx];exact Y6 Qe
  ·rw[Zv];refine⟨c4,Xo _ _,λa ha b hb=>⟨?_,λx hx y hy=>?_⟩⟩
   ·rintro rfl;rw[Qc.mp hb]at ha;exact aX (c6 zs ha _ jT)
   rw[Qc.mp hb,gU]at hy;rw[←Qw hy];obtain⟨j,hj,ej⟩:=Zb (c3 a ha x hx);rw[Zi]at hj;rw[←ej,Uj];exact Ua.mp ag j i DH hi DH
  rcases Qg.mp hq with h|h
  ·exact c5 q h
  rw[Qc.mp h];exact nX
 rintro σ H3 ⟨⟨x3,x4,x5,rfl⟩,k3,as,zss,ks,fB,ck,cP,cn,rS,fZ,ow,fP,c1,c2,c6,c3,c4,c5⟩;rw[Qa,Qt D9]at c1;refine⟨RV,k fo as zss H3 fB cP cn ⟨c5,c4,λy hy=>c2 y (c1 y (ad.mem_iff.mpr hy))⟩ g8 (λa ha=>(fP a ha).2) λc u ec _=>k3 c u (nQ c u ec DI) (by simp[BN g8,BN eS])⟩
end
end K21
namespace L2
open PySem PySem.Spec PyProof.Rows
def Apart(R:Obj→Prop):Prop:=∀o v,R o→R (Obj.mapFields (λvs=>vs.setIfInBounds 1 v) o)
def HasR(R:Obj→Prop)(h:Np)(a:Nc):Prop:=∃o,h.get? a=some o∧R o
section
variable{M:Model}{A:No}{E:Na}{s:Nh}{B:Np}{env:Env}{outer:List Env}{L e:Nc}{cls a0:Value}{R:Obj→Prop}{Q:Unit→Shared→Prop}
def entryR{ob:Obj}{fs:Array Value}{hd:Value}{b:Bool}(cR:Apart R)(f1:A.frames=some (env::outer))(f2:s.heap.FunFrames B (env::outer))(f3:env.frame=some L)(g1:s.heap.get? e=some ob)(g2:B.StaysIn s.heap)(g3:B.get? e=none)(d1:ob.data=.fields fs)(d2:fs[0]?=some a0)(d3:1<fs.size)(r:R ob)(k:∀h',VB h' e→Heap.HeldW B (env::outer) e ob.cls a0 L h'→s.heap.UpToSlots h'→Q () {s with heap:=h'}) :
  wpAny M A (frameOf env >>= λx=>entryPlaceOf L b >>= λpl=>EntryCells.newEntry hd x .none (rawInt L) .none pl >>= λy=>setField (DK e) 1 y) Q E s:=by
 have ne:e∉(env::outer).filterMap (·.frame):=by intro z;obtain⟨_,o,ho,hn⟩:=f2.mem z;rw[g1]at ho;cases ho;exact hn fs d1
 refine wpAny_bind (wpAny_frameOf_fun f1 f2 f3 λh1 q1=>wpAny_bind (wpAny_entryPlaceOf λpl bo=>?_));unfold EntryCells.newEntry newFields;refine wpAny_bind (wpAny_newObj_type ?_ (bo.sizeOk5 _ _ _ _ _));have e1:h1.get? e=some ob:=(q1.2.1 e ne).trans g1;have s1:B.StaysIn h1:=λc o hc=>(q1.2.1 c (by intro z;rw[(f2.mem z).1]at hc;cases hc)).trans (g2 c o hc);generalize hE:([hd,Value.ref L,.none,rawInt L,.none]++(if pl.isEmpty then List.replicate 6 Value.none else pl)).toArray=ent;have e3:ent[3]?=some (rawInt L):=by
  rw[←hE]
  first|(simp;done)|(rcases bo with rfl|⟨_,_,_,_,_,_,_,rfl⟩<;>simp)
 have e2:=Qf (h:=h1) {cls:=.type "traceback",dict:=none,data:=.fields ent} e1;refine wpAny_setField e2 d1 d3 ?_;generalize hT:h1.objs.size=T at *;have te:T≠e:=hT▸We (Qx e1);have dd:=Uh d1 (λvs=>vs.setIfInBounds 1 (Value.ref T));have e4:=Ug (Obj.mapFields λvs=>vs.setIfInBounds 1 (Value.ref T)) e2 (Ky dd);have e5:=(Yz (h1.push {cls:=.type "traceback",dict:=none,data:=.fields ent}) (Obj.mapFields λvs=>vs.setIfInBounds 1 (Value.ref T)) (Zj te)).trans (hT▸Qy h1 rfl);have kp:∀c o,c≠e→h1.get? c=some o→((h1.push {cls:=.type "traceback",dict:=none,data:=.fields ent}).update e (Obj.mapFields λvs=>vs.setIfInBounds 1 (Value.ref T))).get? c=some o:=λc o hc q=>by rw[Me (Zj hc)];exact Q5 q
 have nr:∀c o,s.heap.get? c=some o→(∀vs,o.data≠.fields vs)→c≠e:=by rintro c o hc hn rfl;rw[g1]at hc;cases hc;exact hn fs d1
 refine k _ ⟨_,e4,cR _ _ r⟩ ⟨λc o q=>kp c o (by rintro rfl;rw[g3]at q;cases q) (s1 c o q),g3,f2.of_keeps λc o q hn=>?_,?_⟩ λc o q hn=>?_
 ·obtain⟨sl,q1⟩:=q1.2.2 c o q;exact⟨_,kp c _ (nr c o q hn) q1,rfl⟩
 ·refine⟨_,_,T,_,_,e4,⟨Obj.cls_mapFields _ _,?_⟩,dd,by simp[d3],hT ▸ s1.fresh,te,e5,rfl,e3⟩;rw[Array.getElem?_setIfInBounds_ne DL];exact d2
 obtain⟨sl,q1⟩:=q1.2.2 c o q;exact⟨sl,kp c _ (nr c o q hn) q1⟩
def noteR(cR:Apart R)(f1:A.frames=some (env::outer))(f3:env.frame=some L)(fl:UN (env::outer) e cls a0 s.heap)(r:VB s.heap e)(k:∀h',VB h' e→Heap.HeldW B (env::outer) e cls a0 L h'→s.heap.UpToSlots h'→Q () {s with heap:=h'}):YK (noteFrame (DK e) env) Q E s:=by
 obtain⟨g2,g3,f2,ob,fs,T,oT,ts,g1,⟨rfl,d2⟩,d1,d4,t1,t2,t3,t4,t5⟩:=fl;obtain⟨ob',z,r⟩:=r;rw[g1]at z;cases z;unfold noteFrame;simp only[f3];refine wpAny_bind (MU ?_);rw[if_pos DI];refine wpAny_bind (wpAny_field t3 t4 t5 ?_);rw[if_neg (by simp[rawInt])];refine wpAny_bind (MV (Xd.mp t5).1 ?_);have ot:∀c,c≠T→(s.heap.update T (Obj.mapFields (·.setIfInBounds 3 Value.none))).get? c=s.heap.get? c:=λc hc=>Me (Zj hc);have nr:∀c o,s.heap.get? c=some o→(∀vs,o.data≠.fields vs)→c≠T:=by rintro c o hc hn rfl;rw[t3]at hc;cases hc;exact hn ts t4
 refine entryR cR f1 (f2.of_keeps λc o q hn=>⟨o,(ot c (nr c o q hn)).trans q,rfl⟩) f3 ((ot e (Zj t2)).trans g1) (λc o q=>(ot c (by rintro rfl;rw[t1]at q;cases q)).trans (g2 c o q)) g3 d1 d2 (Xd.mp d4).1 r λh' r' hh us=>k h' r' hh λc o q hn=>us c o ((ot c (nr c o q hn)).trans q) hn
def landR{l:List Env}{fl:Value}(g2:B.StaysIn s.heap)(g3:B.get? e=none)(f2:s.heap.FunFrames B l)(tr:s.heap.TracedAtW B e cls a0 fl)(r:VB s.heap e)(k:∀h',VB h' e→UN l e cls a0 h'→s.heap.UpToSlots h'→Q () {s with heap:=h'}):YK (setFlight (DK e) none) Q E s:=by
 obtain⟨ob,fs,T,oT,ts,g1,d2,d1,d4,t1,t2,t3,t4,t5⟩:=tr;have z3:3<ts.size:=(Xd.mp t5).1;unfold setFlight;refine wpAny_bind (MU ?_);rw[if_pos DI];refine MV z3 ?_;generalize hu:s.heap.update T (Obj.mapFields λvs=>vs.setIfInBounds 3 ((none:Option Addr).elim Value.none λf=>rawInt f))=u;have ot:∀c,c≠T→u.get? c=s.heap.get? c:=λc hc=>hu▸Me (Zj hc);have nr:∀c o,s.heap.get? c=some o→(∀vs,o.data≠.fields vs)→c≠T:=by rintro c o hc hn rfl;rw[t3]at hc;cases hc;exact hn ts t4
 refine k u (r.imp λo z=>⟨(ot e (Zj t2)).trans z.1,z.2⟩) ⟨λc o q=>(ot c (by rintro rfl;rw[t1]at q;cases q)).trans (g2 c o q),g3,f2.of_keeps λc o q hn=>⟨o,(ot c (nr c o q hn)).trans q,rfl⟩,?_⟩ λc o q hn=>⟨o.slots,(ot c (nr c o q hn)).trans q⟩;exact⟨ob,fs,T,_,_,(ot e (Zj t2)).trans g1,d2,d1,d4,t1,t2,hu▸Ug _ t3 (Ky (Uh t4 _)),Uh t4 _,by simp[z3]⟩
def leaveR(cR:Apart R)(f1:A.frames=some (env::outer))(f3:env.frame=some L)(fl:UN (env::outer) e cls a0 s.heap)(r:VB s.heap e)(k:∀h',VB h' e→UN outer e cls a0 h'→s.heap.UpToSlots h'→Q () {s with heap:=h'}):YK (leaving env (DK e)) Q E s:=by unfold leaving;refine wpAny_bind (noteR cR f1 f3 fl r λh1 r1 hd u1=>landR (s:={s with heap:=h1}) hd.1 hd.2.1 hd.2.2.1 hd.2.2.2 r1 λh2 r2 f2 u2=>k h2 r2 ⟨f2.1,f2.2.1,f2.2.2.1.2.2,f2.2.2.2⟩ (u1.trans u2))
def LoneO(o:Obj):Prop:=∃vs,o.data=.fields vs∧vs[2]?=some .none
def apart_lone:Apart LoneO:=by rintro o v ⟨vs,hd,h2⟩;exact⟨_,Uh hd _,by rw[Array.getElem?_setIfInBounds_ne DL];exact h2⟩
def zbn.got{P:Nk}{w:Nl}{H:Hp}{h:Np}{a:Nc}{o:HO}(x:WL a o):∃u,h.get? a=some u:=by
 cases o with
 |lst xs=>obtain⟨_,_,_,_,e⟩:=x;exact⟨_,e⟩
 |tup xs=>obtain⟨_,_,_,u,e,_⟩:=x;exact⟨u,e⟩
 |dK kvs=>obtain⟨_,_,_,_,o,_,_,e,_⟩:=x;exact⟨_,e⟩
 |dT kvs=>obtain⟨_,_,_,_,o,_,_,e,_⟩:=x;exact⟨_,e⟩
 |set S n=>obtain⟨o,_,_,_,e,_⟩:=x;exact⟨_,e⟩
 |ins C dx fs=>obtain⟨_,_,_,e,_⟩:=x;exact⟨_,e⟩
 |own y=>obtain⟨_,e⟩:=x;exact⟨_,e⟩
 |xd fs=>obtain⟨_,⟨_,_,_,e,_⟩,_⟩:=x;exact⟨_,e⟩
 |rng lo hi=>obtain⟨_,_,_,e⟩:=x;exact⟨_,e⟩
 |frz ob u=>obtain⟨e,_⟩:=x;exact⟨_,e⟩
 |tbl ps=>exact⟨_,(show h.get? a=some _ from x)⟩
 |met f y=>exact⟨_,(show h.get? a=some _ from x)⟩
 |ext φ=>obtain⟨_,⟨_,e⟩,_⟩:=x;exact⟨_,e⟩
def LoneD(dd:Option Addr)(o:Obj):Prop:=LoneO o∧o.dict=dd
def zea{dd:Option Addr}:Apart (LoneD dd):=by rintro o v ⟨h,hd⟩;refine⟨apart_lone o v h,?_⟩;obtain⟨c,d,da,sl⟩:=o;cases da<;>exact hd
end
inductive CXr(P:Nk)(w:Nl)(outer:List Env)(H:Hp)(s:Nh)(E:XK)(e:Value)(s':Nh):Prop
 | mk (a:Nc) (cls a0:Value) (dd:Option Addr) (H':Hp) (B:Np) (he:e=.ref a) (os:s'.os=s.os) (bare:AllBare s'.gens) (un:Un (frs outer) [] H H' s.heap s'.heap) (hok:HOk P w H' s'.heap)
   (hB:∀b o,s.heap.get? b=some o→b∉frs outer→∃u,B.get? b=some u) (hT:∀b o,H' b=some o→∃u,B.get? b=some u) (fl:UN outer a cls a0 s'.heap) (ln:V3 a) (q:E cls dd H'):V4 w outer H s E e s'
def flyUn{P:Nk}{w:Nl}{l:List Env}{H H':Hp}{h g h' B base:Np}(un:Un (frs l) [] H H' h g)(hok:WJ H' g)(hB:∀b o,h.get? b=some o→b∉frs l→∃u,B.get? b=some u)(hT:∀b o,H' b=some o→∃u,B.get? b=some u)(hg:B.StaysIn g)(hh:B.StaysIn h')(fr:g.FunFrames base l)(us:g.UpToSlots h'):Un (frs l) [] H H' h h'∧WJ H' h':=by
 have same:∀b o u,B.get? b=some u→g.get? b=some o→h'.get? b=some o:=λb o u e q=>by have:=hg b u e;rw[q]at this;cases this;exact hh b _ e
 refine⟨⟨λb o e n hb hx=>?_,λb o e n hb hx=>?_,un.free,λb o e hx=>?_,un.tups,un.frzs,un.tbls⟩,λb o e=>?_⟩
 ·obtain⟨u,eu⟩:=hB b o e hb;exact same b o u eu (un.keep b o e n hb hx)
 ·obtain⟨sl,e1⟩:=un.slot b o e n hb hx;obtain⟨_,o',ao,hd⟩:=fr.mem hb;obtain⟨jI,e2⟩:=us b _ e1 λvs z=>by rw[e1]at ao;cases ao;exact hd vs z
  exact⟨jI,e2⟩
 ·by_cases hb:b∈frs l
  ·obtain⟨_,o',ao,hd⟩:=fr.mem hb;obtain⟨jI,e2⟩:=us b _ ao hd;exact⟨_,e2⟩
  obtain⟨u,eu⟩:=hB b o e hb;exact⟨u,hh b u eu⟩
 refine (hok b o e).stay (λc v hc q=>?_) (λ_ q=>q) λ_ _ q=>q;obtain⟨u,eu⟩:∃u,B.get? c=some u:=by
  rcases hc with rfl|hc
  ·exact hT _ _ e
  exact hT _ _ hc
 exact same c v u eu q
def Inv.fly{X:Cx}{a6:Nd}{σ:St}{H H':Hp}{s s':Nh}{B h':Np}(I:Fg)(os:s'.os=s.os)(bare:AllBare s'.gens)(un:Un (frs X.stack) [] H H' s.heap s'.heap)(hok:YM H' s'.heap)(hB:∀b o,s.heap.get? b=some o→b∉frs X.stack→∃u,B.get? b=some u)(hT:∀b o,H' b=some o→∃u,B.get? b=some u)(hg:B.StaysIn s'.heap)(hh:B.StaysIn h')(fr:s'.heap.FunFrames B X.stack)(us:s'.heap.UpToSlots h') :
  Inv X a6 σ H' {s' with heap:=h'}:=by
 obtain⟨u,k⟩:=flyUn un hok hB hT hg hh fr us;exact I.call' (s':={s' with heap:=h'}) (ch:=[]) os u k bare λb z=>absurd z DI
def Inv.out{X:Cx}{a6:Nd}{σ:St}{H H':Hp}{s s':Nh}{B:Np}{E:XK}{a:Nc}{cls a0:Value}{dd:Option Addr}(I:Fg)(kj:X.ex=[])(J:ZA H' s')(hB:∀b o,s.heap.get? b=some o→b∉frs X.stack→∃u,B.get? b=some u)(hT:∀b o,H' b=some o→∃u,B.get? b=some u)(fl:UN X.outer a cls a0 s'.heap)(ln:V3 a)(q:E cls dd H'):CXr X.prog X.w X.outer X.H₀ X.s₀ E Gq s':=by
 refine⟨a,cls,a0,dd,H',B,rfl,J.os,J.bare,by have:=J.base;rw[kj]at this;exact this,J.hok,λb o e hb=>?_,hT,fl,ln,q⟩;obtain⟨o',e'⟩:=WZ e (by rw[kj];simp);refine hB b o' e' λz=>?_;rcases Qi.mp (XO z) with r|r
 ·exact absurd (UB I.ok.above) (by rw[r];exact Yv _)
 exact hb r
def PassesS(CX:CXT)(X:Cx)(E:St→XK):Prop:=∀(a6:Nd) (σ:St) (H:Hp) (s:Nh) (e:Value) (s':Nh),ZA H s→CX X.stack H s (E σ) e s'→X.xe e s'
section
variable{P:Nk}{w:Nl}{K:Nb}{mg:Ng}{base:Np}{N ps:Nj}{qual:Str}{scope:Scope}{f:Nc}{cd:Value}{A:No}{outer:List Env}{s:Nh}{H:Hp}{E:XK}
def passR{E':XK}(h:∀c d H,E' c d H→E c d H):zhn (V4 w) (ZM E) E':=by intro a6 σ H1 s1 e s' I hx;obtain⟨a,cls,a0,dd,H',B,rfl,os,bare,un,hok,hB,hT,fl,ln,q⟩:=hx;exact leaveR zea I.ok.frames rfl fl ln λh' ln' fl' us=>I.out rfl (I.fly os bare un hok hB hT fl.1 fl'.1 fl.2.2.1 us) hB hT fl' ln' (h _ _ _ q)
abbrev bmVE:List Value:=[.type "ValueError",.type "Exception",.type "BaseException",.type "object"]
end
structure Exc(K:Nb)(C:Nc):Prop where
 inK:K8 C bmVE "ValueError.__new__" = true
def exc_obj{K:Nb}{h:Np}{C:Nc}{bmB:Ni}{newId:String}(X:K.In h)(q:K8 C bmB newId=true) :
  ∃bm N nm qn bs mt sn sub ab col dd k0 k1 k2 k3 k5 mN,h.get? C=some (excClassObj nm qn C N bs bm mt sn sub ab col dd k0 k1 k2 k3 k5 newId)∧h.Ns N mN∧mN "__init__" = none∧OwnTail h bmB bm:=by
 unfold PySem.W.excIn at q;split at q
 ·rename_i dd cd sl ho;split at q
  ·rename_i C' bm k0 k1 k2 k3 n k5 hm hs;simp only[Uu,beq_iff_eq,Yr]at q;obtain⟨⟨⟨⟨⟨rfl,rfl⟩,ms⟩,ht⟩,hok⟩,hni⟩:=q;obtain⟨nm,bs,mro,ns,qn,hd,sn,sub,ab,col,del⟩:=cd;dsimp only at hm ms hok hni;subst hm ms;have hsl:sl=#[k0,k1,k2,k3,FX (.builtin n),k5]:=by obtain⟨l⟩:=sl;simp only at hs;rw[hs]
   subst hsl;exact⟨bm,ns,nm,qn,bs,hd,sn,sub,ab,col,dd,k0,k1,k2,k3,k5,_,X _ _ ho,.of_isNs (PySem.W.isNs_of_in X hok),PySem.W.nsMap_none_of_in X hok hni,PySem.W.tail_of_in X ht⟩
  cases q
 cases q
section
variable{P:Nk}{w:Nl}{K:Nb}{mg:Ng}{base:Np}{N ps:Nj}{qual:Str}{scope:Scope}{f:Nc}{cd:Value}{A:No}{outer:List Env}{s:Nh}{H:Hp}{E:XK}
def Fun.okX{x qual:Str}{st:Stmt}{f:Nc}{fd:Nu}{N ps:Nj}{k:Nat}{sp:Sp}(F:Z2 x qual st f fd)(S:Vk (zag st))(len:∀vs H Q E,sp vs H Q E→vs.length=ps.length)(bv:∀ (cdv:Value) (A:No) (outer:List Env) (s:Nh) (H:Hp) (vs:List V) (Q:VK) (E:XK),UV Hf→sp vs H Q E →
   ∃t,PSs (cxOf (V4 w) P w K mg base N qual (zag st) f cdv A outer s H E) (zce st) t∧t {nx:=λ_ H'=>Q .non H',rt:=Q} (X6 vs) H):ZC (V4 w) (k+1) f fd ps sp:=by
 obtain⟨oc,od,kV,doc,pm,an,cdv,ct,osl,rfl,lk,aQ⟩:=F.ex;exact fn_of lk aQ S len λA outer s H vs Q E hr fS=>bv cdv A outer s H vs Q E hr fS
def ExO(a:Nc)(cls:Value)(dd:Option Addr):HO:=.ext λh=>∃o,h.get? a=some o∧o.cls=cls∧LoneD dd o
def zed{X:Cx}{a6:Nd}{σ:St}{H:Hp}{s:Nh}{M:Model}{A:No}{E:Na}{i:Nat}{x:Str}{pos:Pos}{Q:Unit→Shared→Prop}(I:Fg)(hN:X.N.Nodup)(hi:X.N[i]?=some x)(hk:X.env.scope.names.lookup x=some .local)(h:∀s',ZD (σ.set i none) H s'→Q () s'):YK (do bindName X.env x .none;unbindBehindTheSuite X.env x pos) Q E s:=by
 obtain⟨m,hn,hl⟩:=id I.loc;have jq:(X.env.scope.kind==.class||(X.env.scope.kind==.module&&X.env.locals != X.env.globals))=false:=by rw[I.ok.kind];rfl
 refine wpAny_nameGoes_keeps hk hn jq λh' v iY hs=>h _ ?_;obtain⟨oL,_,_,hoL,_⟩:=id hn;have neL:∀b o,X.s₀.heap.get? b=some o→b≠X.env.locals:=λb o e=>Zm (UB I.ok.above);refine⟨I.ok,I.os,I.bare,⟨λb o e n hb hx=>(hs.2 b (neL b o e)).trans (UH hx),λb o e n hb hx=>?_,I.base.free,λb o e hx=>?_,I.base.tups,I.base.frzs,I.base.tbls⟩,⟨_,iY,λj y v' e1 e2 e3=>?_⟩,λy c e=>?_,I.free,I.freeC,λp hp=>?_,λb ob e=>?_,by simpa using I.len⟩
 ·obtain⟨sl,e1⟩:=UI hx;exact⟨sl,(hs.2 b (neL b o e)).trans e1⟩
 ·obtain⟨o',e1⟩:=WZ e hx;exact⟨o',(hs.2 b (neL b o e)).trans e1⟩
 ·have hj:j≠i:=λz=>by
   subst z;rw[List.getElem?_set]at e2;split at e2
   ·split at e2<;>cases e2
   ·contradiction
  rw[List.getElem?_set_ne (Zj hj)]at e2;obtain⟨u',r',q⟩:=hl j y v' e1 e2 e3;refine⟨u',r',?_⟩;rcases q with⟨k,e⟩|⟨k,c,e,z⟩
  ·refine .inl ⟨k,?_⟩;have:y≠x:=λe=>hj (Dl (e▸hi));simp[this,e]
  exact .inr ⟨k,c,e,z.sameBut hs (I.cne y c e)⟩
 ·obtain⟨w',z⟩:=I.cell y c e;exact⟨w',z.sameBut hs (I.cne y c e)⟩
 ·obtain⟨e,n,ne,nf,d⟩:=Y2 hp;exact⟨(hs.2 p.1 ne).trans e,n,ne,nf,d⟩
 refine (UJ ob e).stay (λc w' hc q=>(hs.2 c ?_).trans q) (λ_ q=>q) λ_ _ q=>q;rintro rfl;rcases hc with hc|hc
 ·rw[←hc,I.free]at e;cases e
 rw[I.free]at hc;cases hc
def Ends.off(i:Nat)(D:Ends):Ends:={nx:=λ σ H=>D.nx (σ.set i none) H,rt:=D.rt,bk:=λ σ H=>D.bk (σ.set i none) H,ct:=λ σ H=>D.ct (σ.set i none) H}
end
abbrev Cx.tried(X:Cx)(E:Na)(pn:Nd):Cx:={X with xe:=E,pn:=pn}
abbrev Cx.suite(X:Cx)(a:Nc):Cx:={X with A:=X.A.mark (DQ a),calm:=false,xe:=λ_ _=>False}
section
variable{X:Cx}{a6:Nd}{σ:St}{H:Hp}{s:Nh}{E:Na}{a:Nc}
def Cx.Ok.tried(ok:X.Ok)(E:Na)(pn:Nd):(V5 pn).Ok:=
 ⟨ok.mod,ok.kind,ok.glob,ok.blt,ok.above,ok.inj,ok.has,ok.cab,ok.hd,ok.frames,ok.stk,ok.exf,ok.bs,ok.bsz,ok.noex,ok.exfs,ok.funs,ok.frf⟩
def Inv.tried(I:Fg)(E:Na):Inv (V5 (X.pn++a6)) [] σ H s:=
 ⟨I.ok.tried E _,I.os,I.bare,I.base,I.loc,I.cell,I.free,I.freeC,λp hp=>Y2 (by rwa[Zu]at hp),I.hok,I.len⟩
def Inv.untried{pn:Nd}{pins':Nd}(ok:X.Ok)(I:Inv (V5 (X.pn++a6)) pins' σ H s):ZA H s:=
 ⟨ok,I.os,I.bare,I.base,I.loc,I.cell,I.free,I.freeC,λp hp=>Y2 (UT hp),I.hok,I.len⟩
def Inv.suite(I:Fg)(a:Nc):V6 s:=
 ⟨⟨I.ok.mod,I.ok.kind,I.ok.glob,I.ok.blt,I.ok.above,I.ok.inj,I.ok.has,I.ok.cab,(λh=>nomatch h),I.ok.frames,I.ok.stk,I.ok.exf,I.ok.bs,I.ok.bsz,I.ok.noex,I.ok.exfs,I.ok.funs,I.ok.frf⟩,I.os,I.bare,I.base,I.loc,I.cell,I.free,I.freeC,I.pin,I.hok,I.len⟩
def Inv.unsuite(ok:X.Ok)(I:V6 s):ZA H s:=
 ⟨ok,I.os,I.bare,I.base,I.loc,I.cell,I.free,I.freeC,I.pin,I.hok,I.len⟩
def Inv.track{o:HO}(J:Fg)(na:H a=none)(n0:X.s₀.heap.get? a=none)(nL:a≠X.env.locals)(nC:∀x c,X.env.cells.lookup x=some c→c≠a)(nP:∀p∈X.pn++a6,p.1≠a)(new:QC (ZQ a o) s.heap a o):ZA (ZQ a o) s:=by
 have ne:∀b u,H b=some u→b≠a:=λb u e z=>by rw[z,na]at e;cases e
 refine⟨J.ok,J.os,J.bare,⟨J.base.keep,J.base.slot,λb u e n hx=>?_,J.base.there,λb xs e=>?_,λb u v e=>?_,λb ps e=>?_⟩,J.loc,J.cell,?_,λx c e=>?_,λp hp=>?_,λb u e=>?_,J.len⟩
 ·rw[zaf (λz=>by rw[z,n0]at e;cases e)];exact J.base.free b u e n hx
 ·have:=J.base.tups b xs e;rw[zaf (ne _ _ this)];exact this
 ·have:=J.base.frzs b u v e;rw[zaf (ne _ _ this)];exact this
 ·obtain⟨m,this⟩:=J.base.tbls b ps e;exact⟨m,by rw[zaf (ne _ _ this)];exact this⟩
 ·rw[zaf (Zj nL)];exact J.free
 ·rw[zaf (nC x c e)];exact J.freeC x c e
 ·obtain⟨h1,h2,h3⟩:=J.pin p hp;exact⟨h1,DY (nP p hp) h2,h3⟩
 by_cases hb:b=a
 ·subst hb;rw[zac]at e;cases e;exact new
 rw[zaf hb]at e;exact(J.hok b u e).stay (λ_ _ _ q=>q) (λc q=>by rw[zaf (ne _ _ q)];exact q) λc xs q=>by rw[zaf (ne _ _ q)];exact q
def SP.off{D:Ends}{i:Nat}{x:Str}{pos:Pos}{f:Flow}{E:Na}{M:Model}{A:No}(ok:X.Ok)(hN:X.N.Nodup)(hi:X.N[i]?=some x)(hk:X.env.scope.names.lookup x=some .local)(h:SP (X.suite a) a6 (D.off i) f s) :
  wpAny M A (do bindName X.env x .none;unbindBehindTheSuite X.env x pos) (λ_ s'=>JX D f s') E s:=by
 cases f with
 |next=>obtain⟨σ',H',I,q⟩:=h;exact Y1 hk λs' I'=>⟨_,H',I',q⟩
 |brk=>obtain⟨σ',H',I,q⟩:=h;exact Y1 hk λs' I'=>⟨_,H',I',q⟩
 |cont=>obtain⟨σ',H',I,q⟩:=h;exact Y1 hk λs' I'=>⟨_,H',I',q⟩
 |ret u=>obtain⟨v,σ',H',I,r,q⟩:=h;exact Y1 hk λs' I'=>⟨v,_,H',I',r,q⟩
def SP.untried{D:Ends}{f:Flow}(ok:X.Ok)(h:SP (V5 (X.pn++a6)) [] D f s):JX D f s:=by
 cases f with
 |next=>obtain⟨σ',H',I,q⟩:=h;exact⟨σ',H',I.untried (pn:=[]) ok,q⟩
 |brk=>obtain⟨σ',H',I,q⟩:=h;exact⟨σ',H',I.untried (pn:=[]) ok,q⟩
 |cont=>obtain⟨σ',H',I,q⟩:=h;exact⟨σ',H',I.untried (pn:=[]) ok,q⟩
 |ret u=>obtain⟨v,σ',H',I,r,q⟩:=h;exact⟨v,σ',H',I.untried (pn:=[]) ok,r,q⟩
def tTry(K:Nb)(c:Value)(i:Nat)(EX:St→XK)(tb ts:TS):TS:=λD σ H=>Aj2 (tb D σ H) (∀(σ':St) (cls:Value) (dd:Option Addr) (H':Hp) (a:Nc),σ'.length=σ.length→EX σ' cls dd H'→H' a=none →
 Aj2 (Dy cls c=some true) (ts (D.off i) (σ'.set i (DQ a)) (YQ a (Dz dd))))
def ps_try{body suite:List Stmt}{b₀:Stmt}{x n:Str}{np bg pos:Pos}{i:Nat}{c:Value}{EX:St→XK}{tb ts:TS}(aI:X.stack=X.env::X.outer)(kj:X.ex=[])(hfm:X.env.frame=some X.env.locals)(hb:∀(E':Na) (pn:Nd),PassesS (CXr X.prog X.w) (X.tried E' pn) EX→PSs (X.tried E' pn) body tb)(hs:∀a,PSs (X.suite a) (b₀::suite) ts)(hN:X.N.Nodup)(hi:X.N[i]?=some n)(hk:X.env.scope.names.lookup n=some .local)(hg:VR x)(hm:X.mg x=some c)(cX:Fu=false:=by decide) :
  PS X (.Try body [.ExceptHandler (FX (HH np)) (FX n) (b₀::suite) bg] [] [] pos) (tTry X.K c i EX tb ts):=by
 intro a6 s σ H D I h;obtain⟨h1,h2⟩:=h;refine wpAny_Try_except (wpAny_mono (hb (λe s₁=>ZF (noteFrame e X.env) (λ_ s₂=>ZF (setFlight e none) (λ_ s₃=>ZF (handleBy e X.env [.ExceptHandler (FX (HH np)) (FX n) (b₀::suite) bg]) (JX D) X.xe s₃) X.xe s₂) X.xe s₁) (X.pn++a6) ?_ [] s σ H D (I.tried _) h1) (λfl s1 hq=>?_) λ_ _ z=>z)
 ·intro pins' σ' H1 s1 e s' J hx;obtain⟨a,cls,a0,dd,H',B,rfl,os,bare,un,hok,hB,hT,fl,ln,q⟩:=hx;have J:ZD σ' H1 s1:=J.untried (pn:=[]) I.ok;rw[aI]at fl;have cF:X.A.frames=some (X.env::X.outer):=by rw[I.ok.frames,aI]
  refine noteR zea cF hfm fl ln λh₄ ln₄ held₄ us₄=>landR (s:={s' with heap:=h₄}) held₄.1 held₄.2.1 held₄.2.2.1 held₄.2.2.2 ln₄ λh₅ ln₅ fl₅ us₅=>?_;have J₅:ZD σ' H' {s' with heap:=h₅}:=KK fl₅.1 (by rw[aI];exact fl.2.2.1) (us₄.trans us₅);have na:H' a=none:=by
   cases z:H' a with
   |none=>rfl
   |some o=>obtain⟨u,hu⟩:=hT a o z;rw[fl.2.1]at hu;cases hu
  obtain⟨he,hsu⟩:=h2 σ' cls dd H' a (by rw[J.len,I.len]) q na;refine wpAny_handleBy_cons (codeAny_handlers_test (zfh (J₅.suite a) hg hm ?_ cX)) DS;obtain⟨ob,hob,qD⟩:=fl₅.there;have LT:PySem.W.Looks DT h₅ (typeOf Gq) cls:=qD▸(PySem.W.Looks.ld hob).andThen .now;refine (PySem.W.exm_one J₅.kIn LT he).here (codeAny_handlers_suite_as (landR (s:={s' with heap:=h₅}) fl₅.1 fl₅.2.1 fl₅.2.2.1 fl₅.2.2.2.at ln₅ λh₆ ln₆ fl₆ us₆=>?_));have J₆:ZD σ' H' {s' with heap:=h₆}:=KK fl₆.1 (by rw[aI];exact fl.2.2.1) ((us₄.trans us₅).trans us₆);have n1:s1.heap.get? a=none:=by
   cases z:s1.heap.get? a with
   |none=>rfl
   |some o=>
    exfalso;by_cases hf:a∈frs X.stack
    ·rw[aI]at hf;obtain⟨_,o',ao,hd⟩:=fl.2.2.1.mem hf;obtain⟨oe,vs,hoe,_,qB,_⟩:=fl.first;rw[ao]at hoe;cases hoe;exact hd vs qB
    obtain⟨u,hu⟩:=hB a o z hf;rw[fl.2.1]at hu;cases hu
  have J₇:ZD σ' (YQ a (Dz dd)) {s' with heap:=h₆}:=by
   obtain⟨o6,qE,L6⟩:=ln₆;have dJ:o6.cls=cls:=by obtain⟨o,z,hc⟩:=fl₆.there;rw[qE]at z;cases z;exact hc
   refine J₆.track na ?_ ?_ (λy c e z=>?_) (λp hp z=>?_) ⟨⟨o6,qE,dJ,L6⟩,⟨o6,qE⟩,λg1 g2 ⟨o,ho,hc⟩ k=>⟨o,k o ho,hc⟩⟩
   ·cases z:X.s₀.heap.get? a with
    |none=>rfl
    |some o=>obtain⟨o',e⟩:=J.base.there a o z (by rw[kj];simp);rw[n1]at e;cases e
   ·rintro rfl;obtain⟨m,⟨o,_,_,ho,_⟩,_⟩:=J.loc;rw[n1]at ho;cases ho
   ·subst z;obtain⟨v,o,ho,_⟩:=J.cell y c e;rw[n1]at ho;cases ho
   subst z;have:=(J.pin p hp).1;rw[n1]at this;cases this
  refine zhw (v:=.ref a) J₇ hN hi (Gb hk) rfl (λs₈ I₈=>?_) (G' hk);refine wpAny_mono (hs a a6 s₈ _ _ (D.off i) (I₈.suite a) hsu) (λf s₉ hq=>?_) λ_ _ z=>z.elim;exact SP.off I.ok hN hi hk hq
 have hq:=SP.untried I.ok hq;cases fl with
 |next=>exact wpAny_pure hq
 |brk=>exact hq
 |cont=>exact hq
 |ret u=>exact hq
end
end L2
namespace L2
open PySem PySem.Spec PyProof.Rows PySem.W PySem.Builtin PySem.Builtin.ObjectAttr PySem.Builtin.Getset_descriptor
structure ExI(K:Nb)(D:Nc):Prop where
 ga:findIn K GJ "__getattribute__" = some (FX (.builtin "BaseException.__getattribute__"))
 nga:findIn K GJ "__getattr__" = some none
 bx:mroIn K D (.type "BaseException")=some true
 at_:findIn K GJ "__class__" = some (FX Ft)
 gs:specialIn K Ft "__get__" = some (FX FK)
 tk:takesIn K Ft=some true
 ob:mroIn K D (.type "object")=some true
def ExI.cl{K:Nb}{D:Nc}(c:VC D):(clsIn K D).isSome=true:=by
 have h:=c.ob;unfold mroIn at h;cases z:clsIn K D with
 |none=>rw[z]at h;cases h
 |some _=>rfl
abbrev ExAt(x:Nc)(cls:Value)(h:Np):Prop:=∃o,h.get? x=some o∧o.cls=cls
def ExAt.type{M:Model}{x:Nc}{cls:Value}{h:Np}(p:ExAt x cls h):KS (typeOf HK) cls:=by obtain⟨o,ho,rfl⟩:=p;exact(Looks.ld ho).andThen .now
section
variable{prog:Nk}{w:Nl}{A:No}{E:Na}{s:Nh}{K:Nb}{x D:Nc}
def ex_find{M:Model}{h:Np}(c:VC D)(X:K.In h)(p:U' h):KS (find HK GJ "__class__") (.bind FK Ft):=by have L1:=looks_findIn (M:=M) X c.at_;have L2:KS (getOf (FX Ft)) (FX FK):=looks_specialIn X c.gs;have L3:=looks_takesIn (M:=M) X c.tk;exact L1.andThen (L2.andThen ((show KS (dataDescriptor? (FX Ft) (FX FK)) (FX (FK,Ft)) from L3.andThen .now).andThen (Looks.tag .now)))
def ex_class_get{tp:Value}{R:Nv}(X:K.In s.heap)(p:U' s.heap)(hm:mroIn K D (.type "object")=some true)(h:R (.ok (.ret GJ)) s):codeAny D7 A (.call FK ⟨[Ft,HK,tp],[]⟩) R s:=by
 obtain⟨hh,g,dr,t,os⟩:=s;have L0:=p.type (M:=model prog w);have L1:=looks_mroIn (M:=model prog w) X hm;refine codeAny_call_builtin KF.slot_gs.plain KF.entry_gs (KF.slot_gs.check _ _ _ _ _ _ _ _ KF.type_class (KF.args_gs _ _ _) ?_);unfold Builtin.«getset_descriptor.__get__» descrGet;rw[dga_obj];refine wpAny_bind (wpAny_pure ?_);unfold descrGetter descrCheckInstance descrNameAndClass isInstance;simp only[KF.owner_class]
 repeat lk
 refine⟨Xt _ (by decide+kernel),codeAny_builtin KF.entry_class ?_⟩;unfold Builtin.«object.__class__» shownTypeOf
 repeat lk
 exact h
def ex_check{M:Model}{nameV:Value}{Q:Unit→Shared→Prop}(c:VC D)(X:K.In s.heap)(p:U' s.heap)(hq:Q () s):YK (checkBuiltinCall "BaseException.__getattribute__" ⟨[HK,nameV],[]⟩) Q E s:=by
 obtain⟨h,g,d,t,os⟩:=s;have hk:builtinKind "BaseException.__getattribute__" = some .slot:=by decide+kernel
 have iL:splitId "BaseException.__getattribute__" = some ("BaseException", "__getattribute__"):=by decide+kernel
 have ha:=F.args_bexc_ga HK nameV;have L0:=p.type (M:=M);have L1:=looks_mroIn (M:=M) X c.bx;have LI:KS (isInstance HK (.type "BaseException")) true:=L0.andThen L1;simp only[checkBuiltinCall,hk,iL];refine wpAny_bind (LI.at ?_)
 repeat(first|lk|wp_step)
 exact hq
def ex_entry{tk:Tok}{Q:Fin→Shared→Prop}(c:VC D)(X:K.In s.heap)(p:U' s.heap)(hq:Q (.done (.ret GJ)) s):ZG (Builtin.«object.__getattribute__» ⟨[HK,.str "__class__" tk],[]⟩) Q E s:=by have p':=p;have X':=X;obtain⟨h,g,d,t,os⟩:=s;have L0:=p.type (M:=model prog w);have M1:=ex_find (M:=model prog w) c X p;refine wpAny_bind (wpAny_pure (wpAny_bind (Hc (K0 (wpAny_bind (M1.at ?_))))));show ZY _ (holding _ (call _ [_,HK,GJ]) >>= ret) _ _ _;exact wpAny_bind (wpAny_holding (wpAny_call (ex_class_get (s:=⟨h,g,d,t,os⟩) X p c.ob (FA hq))))
def ex_class{Q:Option Value→Shared→Prop}(c:VC D)(X:K.In s.heap)(p:U' s.heap)(h:Q (DQ D) {s with toks:=s.toks+1}):ZG (getAttr? HK "__class__") Q E s:=by
 obtain⟨hh,g,d,t,os⟩:=s;have L0:=p.type (M:=model prog w);have L1:=looks_findIn (M:=model prog w) X c.ga;have L2:=looks_findIn (M:=model prog w) X c.nga;have du:(Value.builtin "BaseException.__getattribute__" == Value.builtin "object.__getattribute__")=false:=by decide+kernel
 have f3:=Jv.ga.bind HK;unfold getAttr? getAttrBy? getAttrBy;refine wpAny_bind (wpAny_mkText (wpAny_bind (RO (wpAny_holding (wpAny_bind (K0 (wpAny_bind (L1.at ?_))))))));dsimp only;rw[if_neg (by rw[du,Bool.and_false];exact Za)];unfold getAttrByItsOwn hookBefore;rw[if_pos (show onTheHeap (Value.ref D)=true from rfl)];refine wpAny_bind (MW (wpAny_bind (RO (wpAny_holding ?_))));unfold callGetattribute;rw[if_neg (by exact Za)];unfold boundAndCalled;rw[f3];refine wpAny_bind (wpAny_pure ?_);show ZY _ (call (.builtin "BaseException.__getattribute__") [HK,.str "__class__" t]) _ _ _;refine wpAny_call (codeAny_call_builtin Jv.ga.plain PySem.F.entry_bexc_ga (ex_check (s:=⟨hh,g,d,t+1,os⟩) c X p (ex_entry (s:=⟨hh,g,d,t+1,os⟩) c X p ?_)));show ZY _ (handedOut GJ) _ _ _;exact handed_on rfl (FA h)
theorem ex_kit{K:Nb}{x D:Nc}(c:VC D):KitX K HK GJ (ExAt x GJ) where
 ty:=λ_ _ _ p=>p.type
 it:=λ_ _ X _=>by
  have dI:=c.cl;unfold clsIn at dI;split at dI
  ·rename_i c' d' cd' jI ho;intro A' Q' E' s' k q;unfold isType loadHead;exact wpAny_bind (wpAny_loadPart (k _ _ (X _ _ ho)) (FA q))
  cases dI
 ne:=λh tp dd a8 n sl X iF=>by
  have dI:=c.cl;refine Bool.eq_false_iff.mpr λq=>?_;have e:D=tp:=Value.ref.inj (GX q);subst e;unfold clsIn at dI;split at dI
  ·rename_i c' d' cd' jI ho;have z:=(X _ _ ho).symm.trans iF;cases z
  cases dI
 ca:=λX p k=>ex_class c X p k
variable{X:Cx}
def ex_at{H:Hp}{h:Np}{P:Nk}{w:Nl}{a:Nc}{cls:Value}(ok:WB h){dd:Option Addr}(e:H a=some (Dz dd)):ExAt a cls h:=by obtain⟨⟨o,h1,h2,_⟩,_⟩:=ok a _ e;exact⟨o,h1,h2⟩
def call_isi_ex:YL (.builtin "isinstance") (λxs H Q=>∃dd,Ex5 λ(a C:Nc) (c:V) (u:Value) (b:Bool)=>Aj6 (xs=[Gq,c]) (H a=some (ExO a Gi dd)) (ExI X.K C) (∀u',RelV c u'→u'=u) (kitOne X.K Gi u=some b) (Q (.bl b) H)):=by intro a6 s σ H xs us Q I r h;obtain⟨dd,a,C,c,u,b,rfl,ha,ci,hc,e,q⟩:=h;obtain⟨u1,u2,rfl,r1,r2⟩:=vals2 r;cases r1;rw[hc _ r2];exact kia_one (ex_kit ci) I.kIn (ex_at I.hok ha) e (λz=>nomatch z) λtk=>⟨.bl b,H,I.tok tk,rfl,q⟩
end
end L2
namespace L2
open PySem PySem.Spec PyProof.Rows PySem.W PySem.Builtin PySem.Builtin.ObjectAttr
abbrev tupO(vs:Ni):Obj:={cls:=.type "tuple",data:=.seq vs.toArray}
abbrev xrec(C:Nc)(dd:Option Addr)(a0:Value)(sl:Array GM):Obj:=⟨Gi,dd,.fields #[a0,.none,.none,.none,.bool false,.none],sl⟩
abbrev excH(h:Np)(C:Nc)(vs:Ni):Heap:=(h.push (tupO vs)).push (YW (.ref h.objs.size) #[])
inductive ExcI(K:Nb)(C HE fI:Nc):Prop
 | mk (nm q:Str) (N:Nc) (bs:Ni) (sn:Nj) (sub:Ni) (ab:Bool) (col:Option Bool) (dd:Option Addr) (k0 k1 k2 k3 k5:Option Value)
   (ob:K.lookup C=some (excClassObj nm q C N bs (.ref HE::bmVE) true sn sub ab col dd k0 k1 k2 k3 k5 "ValueError.__new__")) (he:Exc K HE)
   (ini:findIn K Gi "__init__" = some (DQ fI)) (fn:isFn K (DK fI)=true):WG fI
def exc_tail{K:Nb}{h:Np}{HE:Nc}(X:K.In h)(he:Exc K HE):OwnTail h bmVE (.ref HE::bmVE):=by obtain⟨bm,N,nm,qn,bs,mt,sn,sub,ab,col,dd,k0,k1,k2,k3,k5,mN,h1,h2,h3,_⟩:=exc_obj X he.inK;exact .own h1 h2 h3 .base
section
variable{prog:Nk}{w:Nl}{A:No}{E:Na}{h:Np}{g:Array GenState}{d:Drawn}{t:Nat}{os:OsState}{K:Nb}{C HE fI:Nc}
def exc_made{rest:Ni}{Q:Fin→Shared→Prop}(X:K.In h)(c:WG fI)(eR:rest.length≤sizeLine)(hq:ZG (call (DK fI) (.ref (h.objs.size+1)::rest)) (λr s'=>r=.none∧Q (.done (.ret (DK (h.objs.size+1)))) s') E ⟨VD rest,g,d,t,os⟩) :
  wpAny D7 A (Builtin.«type.__call__» ⟨.ref C::rest,[]⟩) Q E ⟨h,g,d,t,os⟩:=by
 obtain⟨nm,q,N,bs,sn,sub,ab,col,dd,k0,k1,k2,k3,k5,ob,he,ini,fn⟩:=c;have F:=PySem.F.excBase_ValueError;have hC:=X _ _ ob;have T:=exc_tail X he;have kk:∀b o,h.get? b=some o→(VD rest).get? b=some o:=λb o e=>Q5 (Q5 e);have X₁:K.In (VD rest):=X.keeps kk;have hC₁:=kk _ _ hC;have cB:(VD rest).get? (h.objs.size+1)=some (YW (.ref h.objs.size) #[]):=by have:=Qy (h.push (tupO rest)) (o:=YW (.ref h.objs.size) #[]) rfl;rwa[Ub]at this
 repeat(first|with_reducible refine BR ?_|with_reducible refine wpAny_madeBy_exc hC ?_|wp_step)
 refine codeAny_call_builtin_code (Xt _ F.quiet) (wpAny_check_new_subT F T hC (codeAny_exc_new_subT F T hC ?_ eR));show ZY _ _ _ _ _;have hcC:(Value.ref C::.ref HE::bmVE).contains Gi=true:=by simp
 unfold isInstance
 repeat(first|with_reducible refine wpAny_loadPart_at cB ?_|(with_reducible refine wpAny_isSubtype_exc hC₁ ?_;rw[hcC])|wp_step)
 show ZY _ (typeLookup Gi _) _ _ _;have L1:=looks_findIn (M:=model prog w) X₁ ini;have L2:=bind_fn (M:=model prog w) X₁ (DK (h.objs.size+1)) (GX fn);refine Looks.at L1 (wpAny_holding (wpAny_bind (MW (wpAny_bind (wpAny_mono hq (λr s' hr=>?_) λ_ _ x=>x)))));obtain⟨rfl,hQ⟩:=hr;wp_walk;exact hQ
def exc_call{rest:Ni}{Q:Na}(X:K.In h)(c:WG fI)(eR:rest.length≤sizeLine)(hq:ZI (A.under (.builtin "type.__call__" ⟨.ref C::rest,[]⟩)) (call (DK fI) (.ref (h.objs.size+1)::rest)) (λr s'=>r=.none∧Q (DK (h.objs.size+1)) s') E ⟨VD rest,g,d,t,os⟩) :
  wpAny D7 A (call Gi rest) Q E ⟨h,g,d,t,os⟩:=by
 have c':=c;obtain⟨nm,q,N,bs,sn,sub,ab,col,dd,k0,k1,k2,k3,k5,ob,he,ini,fn⟩:=c;have hC:=X _ _ ob;have f1:=tc_lookup;have f2:=tc_bind Gi;have hT:(⟨h,g,d,t,os⟩:Shared).TypeIs Gi "type" :=⟨_,hC,rfl⟩;refine wpAny_call (codeAny_of_tree ?_);show ZY _ (callAny Gi _) _ _ _
 repeat(any_goals (first|assumption|with_reducible refine BR ?_|wp_step))
 exact⟨rfl,codeAny_call_builtin_at (Xt _ (by decide+kernel)) entry_typeCall (wpAny_check_type_call_sub hC (exc_made X c' eR hq))⟩
def raise_any{M:Model}{env:Env}{s:Nh}{x:Sem Value}{Q:Flow→Shared→Prop}(hh:A.handled=none)(he:Exc K HE)(h:YK x (λv s₁=>∃e a0 dd sl,v=.ref e∧K.In s₁.heap∧WG fI∧s₁.heap.get? e=some (Y9 dd a0 sl)∧E (DK e) s₁) E s) :
  wpAny M A (raiseStmt env (FX x) none) Q E s:=by
 unfold raiseStmt;refine wpAny_bind (V' (λv s₁ h₁=>?_) λ_ _ x=>x);obtain⟨e,a0,dx,sl,rfl,X,c,he,hE⟩:=h₁;obtain⟨hp,g,d,tk,os⟩:=s₁;obtain⟨nm,q,N,bs,sn,sub,ab,col,dd,k0,k1,k2,k3,k5,ob,_,ini,fn⟩:=c;have hC:=X _ _ ob;have hcB:(Value.ref C::.ref HE::bmVE).contains (.type "BaseException")=true:=by rfl
 repeat(first|with_reducible refine wpAny_loadPart_at he ?_|with_reducible refine BR ?_|(with_reducible refine wpAny_isSubtype_exc hC ?_;rw[hcB])|wp_step)
 exact wpAny_raiseNew_none hh hE
def XcO(e C:Nc)(dd:Option Addr):HO:=.ext λh=>∃(a0:Nc) (sl:Array GM),h.get? e=some (Y9 dd (DK a0) sl)
def XdO(d:Nc)(fs:GK (Str×V)):HO:=.ext λh=>∃mA,h.Ns1 d mA∧(∀f,YC (mA f))∧YJ (fs.map (·.1))∧fs.length≤1000
end
structure XAt(K:Nb)(C:Nc)(f:Str):Prop where
 na:findIn K Gi f=some none
 sa:findIn K Gi "__setattr__" = some (FX (.builtin "object.__setattr__"))
section
variable{P:Nk}{w:Nl}{H:Hp}{h:Np}{e C d:Nc}{dd:Option Addr}{fs:List (Str×V)}
def xc_ok{a0:Nc}{sl:Array GM}(x:h.get? e=some (Y9 dd (DK a0) sl)):WL e (J0 dd):=⟨⟨a0,sl,x⟩,⟨_,x⟩,λ_ _ ⟨a,b,q⟩ k=>⟨a,b,k _ q⟩⟩
def xd_ok{mA:Ng}(n:h.Ns1 d mA)(r:∀f,YC (mA f))(wi:YJ (fs.map (·.1)))(l:fs.length≤1000):WL d (XdO d fs):=
 ⟨⟨mA,n,r,wi,l⟩,let⟨o,_,_,q,_⟩:=n;⟨o,q⟩,λ_ _ ⟨m,⟨o,es,ep,q,z⟩,rest⟩ k=>⟨m,⟨o,es,ep,k _ q,z⟩,rest⟩⟩
def upd_id{a:Nc}{o:HO}(x:H a=some o):ZQ a o=H:=by
 funext b;unfold upd;split
 ·rename_i q;rw[q];exact x.symm
 rfl
variable{prog:Nk}{A:No}{E:Na}{s:Nh}{K:Nb}{x HE fI:Nc}{name:Str}{v:Value}
def ExcI.cls(c:WG fI):∃cd,clsIn K C=some cd∧cd.hasDict=true∧cd.mro=.ref C::.ref HE::bmVE:=by obtain⟨nm,q,N,bs,sn,sub,ab,col,dd,k0,k1,k2,k3,k5,ob,he,ini,fn⟩:=c;unfold clsIn;rw[ob];exact⟨RV,rfl,rfl⟩
end
section
variable{prog:Nk}{w:Nl}{A:No}{E:Na}{s:Nh}{K:Nb}{x C HE fI:Nc}{name:Str}{v:Value}
def xosa{ox:Obj}{od:Option Obj}{tk:Tok}{R:Nv}(X:K.In s.heap)(I:Bv ox C od)(c:WG fI)(na:findIn K Gi name=some none)(h:ZI A.in1 (storeInOwnDict HK Gi (.str name tk) name v false)
   (λfin s'=>match fin with | .done f=>R (.ok f) s' | .again c'=>c'.quiet=true∧codeAny (model prog w) A c' R s') (λe s'=>R (.error e) s') s) :
  codeAny D7 A (.call (.builtin "object.__setattr__") ⟨[HK,.str name tk,v],[]⟩) R s:=by
 have SF:=PySem.F.store_object;obtain⟨cd,hc,_,dB⟩:=c.cls;have sub:Vc (isInstance HK (.type "object")) true:=I.type.andThen (looks_mroIn X (by unfold mroIn;rw[hc,Option.bind_some,dB];rfl));refine codeAny_call_builtin SF.slot.plain SF.entry (@check_slot D7 _ _ s "object.__setattr__" "object" "__setattr__" HK [.str name tk,v] [] _ SF.kind SF.split sub (SF.args HK (.str name tk) v) ?_);have hm:Vc (mroOf Gi) cd.mro:=(looks_clsIn X hc).andThen .now;rw[osa_eq,refuse_eq];refine wpAny_bind (wpAny_bind (I.type.here (wpAny_bind (hm.here ?_))));rw[dB,refuseLoop_ref,refuseLoop_ref,PySem.F.store_ValueError.passes];exact wpAny_pure (wpAny_bind (I.type.here (wpAny_bind ((looks_findIn X na).here (wpAny_bind (FA h))))))
def xset_new{a0:Value}{sl:Array GM}{Q:Unit→Shared→Prop}(X:K.In s.heap)(hx:s.heap.get? x=some (YW a0 sl))(c:WG fI)(k:XJ C name)(h:∀h',h'.Ns1 s.heap.objs.size (λy=>if y=name then some v else none)→Heap.SameBut s.heap.objs.size ((s.heap.push emptyDict).update x λo=>{o with dict:=some s.heap.objs.size}) h'→Q () {s with heap:=h',toks:=s.toks+2}) :
  wpAny D7 A (setAttr HK name v) Q E s:=by
 have J:Bv (YW a0 sl) C none:=⟨hx,rfl,rfl,trivial⟩;refine set_plain X J k.sa (xosa (s:={s with toks:=s.toks+1}) X J c k.na ?_);obtain⟨cd,hc,hd,_⟩:=c.cls;have pQ:(s.heap.push emptyDict).get? x=some (YW a0 sl):=Q5 hx;have jS:x≠s.heap.objs.size:=Zm (Qx hx);refine wpAny_bind (wpAny_pure (wpAny_bind (wpAny_bind (X4 (wpAny_bind (Looks.here (s:={s with toks:=s.toks+1}) (looks_clsIn X hc) ?_))))));rw[hd];refine wpAny_bind (wpAny_alloc' (wpAny_bind (wpAny_update' pQ (wpAny_pure ?_))));have g7:((s.heap.push emptyDict).update x λo=>{o with dict:=some s.heap.objs.size}).get? s.heap.objs.size=some emptyDict:=(Heap.get?_update_ne _ _ _ _ jS.symm).trans (Heap.get?_push_at rfl rfl);have aS:((s.heap.push emptyDict).update x λo=>{o with dict:=some s.heap.objs.size}).Ns s.heap.objs.size (λ_=>none):=⟨_,#[],_,g7,rfl,λe he=>absurd he DI,λ_=>rfl⟩;show ZY _ (storeInDict s.heap.objs.size (.str name s.toks) name v) _ _ _;unfold storeInDict newKeyGuard;refine wpAny_bind (wpAny_pure (wpAny_bind (wpAny_nsSet1 (Heap.Ns1.of_empty aS) λh' iY hs=>?_)));obtain⟨oD,esD,epD,lI,mv,dI⟩:=iY.count (J5 PySem.Within.nil);exact wpAny_bind (B8 (by rw[mv];exact pastItsLine_dict (Zd dI (by rw[Zc,Ja,sizeLine_eq];lia))) (wpAny_pure (h _ iY hs)))
def xset_old{d:Nc}{a0:Value}{sl:Array GM}{mA:Ng}{ns:Nj}{Q:Unit→Shared→Prop}(X:K.In s.heap)(hx:s.heap.get? x=some (Y9 (FX d) a0 sl))(c:WG fI)(k:XJ C name)(hn:s.heap.Ns1 d mA)(hw:YJ ns)(hsz:ns.length≤1000)(h:∀h',h'.Ns1 d (λy=>if y=name then some v else mA y)→Heap.SameBut d s.heap h'→Q () {s with heap:=h',toks:=s.toks+2}) :
  wpAny D7 A (setAttr HK name v) Q E s:=by
 obtain⟨od,ho,hl⟩:=zgp hn;have J:Bv (Y9 (FX d) a0 sl) C (FX od):=⟨hx,rfl,rfl,ho⟩;refine set_plain X J k.sa (xosa (s:={s with toks:=s.toks+1}) X J c k.na ?_);obtain⟨cd,hc,hd,_⟩:=c.cls;refine wpAny_bind (wpAny_pure (wpAny_bind (wpAny_bind (X4 (wpAny_bind (Looks.here (s:={s with toks:=s.toks+1}) (looks_clsIn X hc) ?_))))));rw[hd];refine wpAny_pure (a:=some d) (wpAny_bind (FA (wpAny_bind (wpAny_nsSet1 (s:={s with toks:=s.toks+1}) hn λh' bi dW=>?_))));obtain⟨oD,esD,epD,lI,mv,dI⟩:=bi.count (J5 hw);exact wpAny_bind (B8 (by rw[mv];exact pastItsLine_dict (Zd dI (by rw[Zc,sizeLine_eq];lia))) (wpAny_pure (h _ bi dW)))
def xget{d:Nc}{ox:Obj}{mA:Ng}{b:Bool}{Q:Na}(X:K.In s.heap)(hx:s.heap.get? x=some ox)(hc:ox.cls=.ref C)(fX:notCls ox=true)(hd:ox.dict=some d)(c:WG fI)(k:XJ C name)(ci:VC C)(hn:s.heap.Ns1 d mA)(hv:mA name=some v)(hh:handedIn v=true)(h:Q v {s with toks:=s.toks+1}):ZG (getAttr HK name b) Q E s:=by
 obtain⟨od,ho,hl⟩:=zgp hn;have J:Bv ox C (FX od):=⟨hx,hc,fX,DR hd ho⟩;obtain⟨cd,aQ,hdt,_⟩:=c.cls;have hf:findObj K C (FX od) name=some (.value v):=by unfold findObj;rw[aQ,Xn,k.na,Xn,Xn,Xn];unfold PySem.W.ownOf;rw[hdt,if_pos rfl];dsimp only;rw[hl,hv];rfl
 have p:ExAt x Gi s.heap:=⟨_,hx,hc⟩;obtain⟨hp,g,dr,t,os⟩:=s;have L0:=p.type (M:=model prog w);have L1:=looks_findIn (M:=model prog w) X ci.ga;have L2:=looks_findIn (M:=model prog w) X ci.nga;have M1:=looks_find (M:=model prog w) X J hf;have du:(Value.builtin "BaseException.__getattribute__" == Value.builtin "object.__getattribute__")=false:=by decide+kernel
 have f3:=Jv.ga.bind HK;unfold getAttr getAttrBy;refine wpAny_bind (wpAny_mkText (wpAny_holding (wpAny_bind (K0 (wpAny_bind (L1.at ?_))))));dsimp only;rw[if_neg (by rw[du,Bool.and_false];exact Za)];unfold getAttrByItsOwn hookBefore;rw[if_pos (show onTheHeap (Value.ref C)=true from rfl)];refine wpAny_bind (MW (wpAny_bind (RO (wpAny_holding ?_))));unfold callGetattribute;rw[if_neg (by rw[show onTheHeap (Value.builtin "BaseException.__getattribute__")=false from rfl,Bool.and_false];exact Za)];unfold boundAndCalled;rw[f3];refine wpAny_bind (wpAny_pure ?_);show ZY _ (call (.builtin "BaseException.__getattribute__") [HK,.str name t]) _ _ _;refine wpAny_call (codeAny_call_builtin Jv.ga.plain PySem.F.entry_bexc_ga (ex_check (s:=⟨hp,g,dr,t+1,os⟩) ci X p (wpAny_bind (wpAny_pure (wpAny_bind (Hc (K0 (wpAny_bind (M1.at (wpAny_pure ?_))))))))));show ZY _ (handedOut v) _ _ _;exact handed_on hh h
variable{X:Cx}{o e value:Expr}{f:Str}{pos aT:Pos}{ta tv:TE}
def call_xinit:YL (.builtin "ValueError.__init__") (λxs H Q=>∃(a C HE fI:Nc) (dd:Option Addr) (v:V),xs=[Gq,v]∧H a=some (XcO a C dd)∧ExcI X.K C HE fI∧Q .non H):=by
 intro a6 s σ H xs us Q I r h;obtain⟨a,C,HE,fI,dd,v,rfl,ha,c,q⟩:=h;obtain⟨u1,u2,rfl,r1,r2⟩:=vals2 r;cases r1;obtain⟨⟨a0,sl,hx⟩,_⟩:=JJ ha;obtain⟨nm,qn,N,bs,sn,sub,ab,col,d0,k0,k1,k2,k3,k5,ob,he,ini,fn⟩:=id c;have F:=PySem.F.excBase_ValueError;have hC:=I.kIn _ _ ob;have T:=exc_tail I.kIn he;have fin:∀h':Heap,(∀b u,b≠a→s.heap.get? b=some u→h'.get? b=some u)→(∃a1,h'.get? a=some (Y9 dd (DK a1) sl))→ZA H {s with heap:=h'}:=λh' k ⟨a1,x⟩=>by have:=I.write (x:=a) (e:=a) (o:=XcO a C dd) (h':=h') (t':=s.toks) (by rw[ha];exact True.intro) Fq k ⟨_,x⟩ (xc_ok x);rwa[upd_id ha]at this
 obtain⟨hp,g,d,t,os⟩:=s;refine wpAny_call (codeAny_call_builtin F.init.plain F.initEntry (wpAny_check_init_subT F T hC hx rfl ?_));wp_walk;refine⟨.non,H,fin _ (λb u hb hu=>?_) ⟨hp.objs.size,?_⟩,rfl,q⟩
 ·rw[Me (Zj hb)];exact Q5 hu
 rw[Ug _ (Q5 hx) rfl];rfl
structure Bas(K:Nb)(B:Nc)(m:Str)(id:String):Prop where
 rd:readsIn K B (.type "type")=true
 ga:specialIn K (DK B) "__getattribute__" = some (FX (.builtin "type.__getattribute__"))
 fc:findCls K (DK B) (.type "type") m=some (.val HI)
def pe_base{pl:Sem Bool}{B:Nc}{x m:Str}{id:String}{np apos:Pos}{es:Nq}{t:TA}{r:List V→Hp→VK→Prop}(b:Bas X.K B m id)(hc:YL HI r)(hg:VR x)(hm:X.mg x=some (DK B))(ha:Vj (e::es) t)(hh:handedIn HI=true:=by rfl)(cX:Fu=false:=by decide)(aI:starEach (e::es) X.env=(false,FJ e)::starEach es X.env:=by rfl)(bo:(backTo pos Gx).any (·.1)=false:=by rfl)(ht:eval (.Call (.Attribute (HH np) m apos) (e::es) [] pos) X.env=(do
   let ov ←eval (HH np) X.env
   standAt apos.atName
   let(f,first) ←holding [ov] (getMethod ov m pl)
   callWith pos f first (backTo pos (starEach (e::es) X.env)) (backToKw pos (keywordEach [] X.env))):=by rfl) :
  PE X (.Call (.Attribute (HH np) m apos) (e::es) [] pos) (tCB r t):=by
 intro a6 s σ H Q I h;refine PySem.W.methodCall_KW (pl:=pl) (Bz ?_ cX) ht;exact method_cls I.kIn b.ga (cls_value I.kIn b.rd b.fc hh (PyProof.Rows.callWith_builtin1 (thn (ha pos a6 _ σ H _ Gr h) λus s1 ⟨vs,H1,I1,r1,q1⟩=>hc a6 s1 σ H1 vs us Q I1 r1 q1) aI bo))
end
section
variable{X:Cx}{K:Nb}{C HE fI:Nc}{o e value:Expr}{f:Str}{pos aT:Pos}{ta tv:TE}
inductive RXs(K:Nb)(f:Str)(x y:V)(H:Hp)(N:Hp→Prop):Prop
 |new (e C HE fI:Nc) (h0:x=.ref e) (h:H e=some (XcO e C none)) (c:ExcI K C HE fI) (k:XAt K C f) (q:∀d,H d=none→d≠e→N (upd (upd H d (XdO d [(f,y)])) e (XcO e C (some d)))):RXs K f x y H N
 |old (e C HE fI d:Nc) (fs:List (Str×V)) (h0:x=.ref e) (h:H e=some (XcO e C (some d))) (c:ExcI K C HE fI) (k:XAt K C f) (hd:H d=some (XdO d fs)) (l:fs.length<1000) (q:N (upd H d (XdO d (putF f y fs)))):RXs K f x y H N
def sXst(K:Nb)(ta tv:TE)(f:Str):TS:=λD σ H=>tv σ H λy H1=>ta σ H1 λx H2=>RXs K f x y H2 (D.nx σ)
def relO_put{fs:List (Str×V)}{mA:Ng}{y:V}{u:Value}(r:∀f,YC (mA f))(ry:YN u):∀g,RelO ((MH fs).lookup g) (if g=f then some u else mA g):=λg=>by
 rw[zd5];by_cases q:g=f
 ·rw[if_pos q,if_pos q];exact ry
 rw[if_neg q,if_neg q];exact r g
def zg5{fs:List (Str×V)}{mA:Ng}{y:V}{u:Value}(wi:YJ (fs.map (·.1))):PySem.Within (λg=>if g=f then some u else mA g) ((MH fs).map (·.1)):=λg hg=>by
 by_cases q:g=f
 ·rw[q];exact(NU fs).1
 refine (NU fs).2 g (wi g λz=>hg ?_);show(if g=f then some u else mA g)=none;rw[if_neg q];exact z
def ps_xst(ha:Z9 o ta)(hv:Z9 value tv)(hs:swapsWith value (FX (.Attribute o f aT)) pos.line X.env=pure false):X3 (.Assign [.Attribute o f aT] value pos) (sXst X.K ta tv f):=by
 intro a6 s σ H D I h;refine plainObj_wpAny_Assign_Attribute (thn (hv a6 s σ H _ I h) λu s1 ⟨y,H1,I1,ry,q⟩=>thn (ha a6 s1 σ H1 _ I1 q) λov s2 ⟨x,H2,I2,rx,q2⟩=>?_) hs;cases q2 with
 | new e C HE fI h0 h c k q=>
  subst h0;obtain rfl:ov=Value.ref e:=rx;obtain⟨⟨a0,sl,hx⟩,_⟩:=I2.hok e _ h;have jS:e≠s2.heap.objs.size:=Zm (Qx hx);refine xset_new I2.kIn hx c k λh' hn qh=>⟨σ,_,?_,q s2.heap.objs.size (I2.hok.fresh D9) (Zj jS)⟩;have e1:(s2.heap.push emptyDict).get? s2.heap.objs.size=some emptyDict:=Qy s2.heap rfl;have n1:(s2.heap.push emptyDict).Ns s2.heap.objs.size (λ_=>none):=⟨emptyDict,#[],_,e1,rfl,(λe he=>absurd he DI),λ_=>rfl⟩;have pQ:(s2.heap.push emptyDict).get? e=some (YW (DK a0) sl):=Q5 hx;have J1:=I2.laid (a:=s2.heap.objs.size) (o:=WR []) (h':=s2.heap.push emptyDict) (t':=s2.toks) (λb u q=>Q5 q) D9 (xd_ok (Heap.Ns1.of_empty n1) (λ_=>True.intro) (λy hy=>absurd rfl hy) HY);have du:((s2.heap.push emptyDict).update e λo=>{o with dict:=some s2.heap.objs.size}).get? e=some (Y9 Rw (DK a0) sl):=Ug _ pQ rfl;have oH:QW s2.heap.objs.size (WR []) e=some (J0 none):=by rw[zaf jS];exact h
  have J2:=J1.write (x:=e) (e:=e) (o:=J0 Rw) (h':=(s2.heap.push emptyDict).update e λo=>{o with dict:=some s2.heap.objs.size}) (t':=s2.toks) (by rw[oH];exact True.intro) Fq (λb u hb q=>(Heap.get?_update_ne _ _ _ _ hb).trans q) ⟨_,du⟩ (xc_ok du);have J3:=J2.write (x:=s2.heap.objs.size) (e:=s2.heap.objs.size) (o:=WR [(f,y)]) (h':=h') (t':=s2.toks+2) (by rw[zaf (Zj jS),zac];exact True.intro) Fq (λb u hb q=>(qh.2 b hb).trans q) (let⟨o,_,_,q,_⟩:=hn;⟨o,q⟩)
   (xd_ok hn (relO_put (fs:=[]) (mA:=λ_=>none) (λ_=>True.intro) ry) (zg5 (fs:=[]) (mA:=λ_=>none) λy hy=>absurd rfl hy) (by decide:1≤1000))
  have eq:upd (upd (QW s2.heap.objs.size (WR [])) e (J0 Rw)) s2.heap.objs.size (WR [(f,y)])=upd (QW s2.heap.objs.size (WR [(f,y)])) e (J0 Rw):=by
   funext b;by_cases b1:b=s2.heap.objs.size
   ·subst b1;rw[zac,zaf (Zj jS),zac]
   by_cases b2:b=e
   ·subst b2;rw[zaf b1,zac,zac]
   rw[zaf b1,zaf b2,zaf b1,zaf b2,zaf b1]
  rw[←eq];exact J3
 |old e C HE fI d fs h0 h c k hd l q=>subst h0;obtain rfl:ov=Value.ref e:=rx;obtain⟨⟨a0,sl,hx⟩,_⟩:=I2.hok e _ h;obtain⟨⟨mA,n,r,wi,l0⟩,_⟩:=I2.hok d _ hd;refine xset_old I2.kIn hx c k n wi (DR Qa l0) λh' hn qh=>⟨σ,_,?_,q⟩;exact I2.write (x:=d) (e:=d) (by rw[hd];exact True.intro) Fq (λb u hb q=>(qh.2 b hb).trans q) (let⟨o,_,_,q,_⟩:=hn;⟨o,q⟩) (xd_ok hn (relO_put r ry) (zg5 wi) (Zd (zd8 f y fs) l))
inductive RXg(K:Nb)(f:Str)(x:V)(H:Hp)(Q:VK):Prop
 |mk(e C HE fI d:Nc)(fs:List (Str×V))(v:V)(h0:x=.ref e)(h:H e=some (ExO e (.ref C) (some d)))(c:ExcI K C HE fI)(k:XAt K C f)(ci:ExI K C)(hd:H d=some (XdO d fs))(l:fs.lookup f=some v)(q:Q v H)
def tXg(K:Nb)(ta:TE)(f:Str):TE:=λ σ H Q=>ta σ H λx H1=>RXg K f x H1 Q
def pe_xget(he:Z9 e ta)(hb:attributeBase e f X.env (FJ e)=eval e X.env):Z9 (.Attribute e f pos) (tXg X.K ta f):=by intro a6 s σ H Q I h;refine attr_of hb (thn He λu s1 ⟨x,H1,I1,rx,a,C,HE,fI,d,fs,v,ex,ea,c,k,ci,hd,l,q⟩=>?_);subst ex;obtain rfl:u=Value.ref a:=rx;obtain⟨⟨ox,hx,hc,⟨vs,hv,_⟩,gD⟩,_⟩:=I1.hok a _ ea;obtain⟨⟨mA,n,r,wi,l0⟩,_⟩:=I1.hok d _ hd;obtain⟨u,hu,ru⟩:=RelO.some_of (v:=v) (o:=mA f) (by rw[←l];exact r f);exact xget I1.kIn hx hc (by unfold notCls;rw[hv]) gD c k ci n hu (handed_of ru) ⟨v,H1,I1.tok _,ru,q⟩
def PJ(X:Cx)(es:Nq)(t:St→Hp→Prop):Prop:=∀(a6:Nd) (s:Nh) (σ:St) (H:Hp) (out:Str) (Q:Na),ZA H s→t σ H→out.length+2000*es.length≤sizeLine→(∀z tk s',ZA H s'→Q (.str z tk) s') →
 wpAny DT X.A (joinParts out (evalEach es X.env)) Q X.xe s
def pj_nil:PJ X [] λ_ _=>True:=by intro a6 s σ H out Q I _ hl k;exact joinParts_nil (k _ _ _ Gr) hl
def pj_str{x:Str}{kd}{es:Nq}{t:St→Hp→Prop}(hx:x.length≤2000)(h:PJ X es t):PJ X (.Constant (GH x) kd pos::es) t:=by
 intro a6 s σ H out Q I ht hl k;rw[Zc]at hl;refine joinParts_cons (Calls.Constant_str ⟨?_,h a6 _ σ H _ Q Gr ht ?_ k⟩)
 ·rw[strLen_append];lia
 rw[strLen_append];lia
def pj_int{es:Nq}{t:St→Hp→Prop}(he:Z9 e ta)(h:PJ X es t):PJ X (.FormattedValue e (-1) none pos::es) λ σ H=>ta σ H λv H1=>∃i:Int,v=.int i∧i.natAbs<10 ^ 9∧H1=H∧t σ H:=by
 intro a6 s σ H out Q I ht hl k;rw[Zc]at hl;refine joinParts_cons (FormattedValue_plain (thn (he a6 s σ H _ I ht) λu s1 ⟨v,H1,I1,rv,i,ev,hi,eH,q⟩=>?_));subst ev eH;obtain⟨tk,rfl⟩:=rv;have a9:=int_text_length_le10 (k:=9) DL hi;refine formatField_int_small ?_ ⟨?_,h a6 _ σ H1 _ Q (I1.tok _) q ?_ k⟩
 ·by_cases z:i.natAbs=0
  ·rw[z];decide
  exact(Nat.log2_lt z).mpr (Wq hi (by decide+kernel))
 ·show (out++Str.ofString (toString i)).length≤sizeLine;rw[strLen_append,PySem.ofString_length];lia
 show (out++Str.ofString (toString i)).length+_≤sizeLine;rw[strLen_append,PySem.ofString_length];lia
def pe_fs{v1 v2:Expr}{es:Nq}{t:St→Hp→Prop}(h:PJ X (v1::v2::es) t)(hl:2000*(v1::v2::es).length≤sizeLine):Z9 (.JoinedStr (v1::v2::es) pos) λ σ H Q=>t σ H∧∀z,Q (GH z) H:=by intro a6 s σ H Q I ⟨ht,hq⟩;exact JoinedStr_many (h a6 s σ H _ _ I ht (by show 0+_≤_;lia) λz tk s' I'=>⟨GH z,H,I',⟨_,rfl⟩,hq z⟩)
end
end L2
namespace L2
open PySem PySem.Spec PyProof.Rows PySem.W
def unt(H:Hp)(e:Nc):Hp:=λb=>if b=e then none else H b
def zc0{H:Hp}{e b:Nc}(h:b≠e):unt H e b=H b:=if_neg h
def unt_same{H:Hp}{e:Nc}:unt H e e=none:=if_pos rfl
section
variable{X:Cx}{a6:Nd}{σ:St}{H:Hp}{s:Nh}{e C:Nc}{dd:Option Addr}
def Inv.unt(I:Fg)(he:H e=some (J0 dd))(h0:X.s₀.heap.get? e=none):ZA (unt H e) s:=by
 have ne:∀b u,H b=some u→u≠J0 dd→b≠e:=λb u q z y=>z (by rw[y,he]at q;exact(Qw q).symm);refine⟨I.ok,I.os,I.bare,⟨I.base.keep,I.base.slot,λb u q n hx=>?_,I.base.there,λb xs q=>?_,λb u v q=>?_,λb ps q=>?_⟩,I.loc,I.cell,?_,λx c q=>?_,λp hp=>?_,λb u q=>?_,I.len⟩
 ·have b1:b≠e:=λz=>by rw[z,h0]at q;cases q
  rw[zc0 b1];exact U1 u q n hx
 ·have:=Dj q;rw[zc0 (ne _ _ this (λz=>by cases z))];exact this
 ·have:=I.base.frzs b u v q;rw[zc0 (ne _ _ this (λz=>by cases z))];exact this
 ·obtain⟨m,this⟩:=Dk q;exact⟨m,by rw[zc0 (ne _ _ this (λz=>by cases z))];exact this⟩
 ·have:=I.free;rw[zc0 (λz=>by rw[z,he]at this;cases this)];exact this
 ·have:=UC q;rw[zc0 (λz=>by rw[z,he]at this;cases this)];exact this
 ·obtain⟨h1,h2,h3⟩:=Y2 hp;exact⟨h1,by rw[zc0 (λz=>by rw[z,he]at h2;cases h2)];exact h2,h3⟩
 have b1:b≠e:=λz=>by rw[z,unt_same]at q;cases q
 rw[zc0 b1]at q;exact(UJ u q).stay (λ_ _ _ z=>z) (λc z=>by rw[zc0 (ne _ _ z (λy=>by cases y))];exact z) λc xs z=>by rw[zc0 (ne _ _ z (λy=>by cases y))];exact z
variable{P:Nk}{w:Nl}{K:Nb}{mg:Ng}{base:Np}{N ps:Nj}{qual:Str}{scope:Scope}{f:Nc}{cd:Value}{A:No}{outer:List Env}{E:XK}
def raiseI{a6:Nd}{σ:St}{H1:Hp}{s1:Nh}{e C:Nc}{dd:Option Addr}(I:Inv (ZM E) a6 σ H1 s1)(he:H1 e=some (J0 dd))(h0:s.heap.get? e=none)(q:E Gi dd (unt H1 e)) :
  (ZM E).xe (DK e) s1:=by
 obtain⟨⟨a0,sl,hx⟩,_⟩:=I.hok e _ he;have J:=I.unt he h0;have hef:e∉frs (envOfC qual scope s.heap.objs.size f cd::outer):=λz=>by have:=I.stkFree e z;rw[he]at this;cases this
 let as:=e::frs (envOfC qual scope s.heap.objs.size f cd::outer);have aX:∀b o,s1.heap.get? b=some o→b∉as→∃u,(QT as).get? b=some u:=λb o q nb=>⟨o,PySem.W.hideAll_get _ q nb⟩;have aI:Heap.StaysIn (QT as) s1.heap:=λb o q=>PySem.W.of_hideAll _ q;have cF:=PySem.W.funFrames_hide (as:=as) I.stack λenv hv b hb=>WD (List.mem_filterMap.mpr ⟨env,hv,hb⟩);have g3:(QT as).get? e=none:=PySem.W.hideAll_none _ (Qe);have hT:∀b o,unt H1 e b=some o→∃u,(QT as).get? b=some u:=λb o q=>by
  have b1:b≠e:=λz=>by rw[z,unt_same]at q;cases q
  rw[zc0 b1]at q;obtain⟨u,hu⟩:∃u,s1.heap.get? b=some u:=(UJ o q).got;refine aX b u hu λz=>?_;rcases Qi.mp z with y|y
  ·exact b1 y
  rw[I.stkFree b y]at q;cases q
 show ZY _ (leaving _ (DK e)) _ _ _;unfold leaving noteFrame;refine wpAny_bind (wpAny_bind (wpAny_field hx rfl (x:=.none) rfl ?_));rw[if_neg DL];refine entryR (R:=LoneD dd) (a0:=.ref a0) zea I.ok.frames cF rfl hx aI g3 rfl rfl DI ⟨⟨_,rfl,rfl⟩,rfl⟩ λh1 r1 hd u1=>landR (s:={s1 with heap:=h1}) hd.1 hd.2.1 hd.2.2.1 hd.2.2.2 r1 λh2 r2 fl u2=>?_;have B0:∀b o,s.heap.get? b=some o→b∉frs outer→∃u,(QT as).get? b=some u:=λb o q nb=>by
  obtain⟨o',q'⟩:=WZ q (by show b∉([]:List Addr);simp);refine aX b o' q' λz=>?_;rcases Qi.mp z with y|y
  ·rw[y,h0]at q;cases q
  rcases Qi.mp (XO y) with r|r
  ·exact absurd (Di I.ok.above) (by rw[r];exact Yv _)
  exact nb r
 obtain⟨fu,fo⟩:=flyUn (l:=outer) (base:=QT as) (B:=QT as) (g:=s1.heap) (h':=h2) J.base J.hok B0 hT aI fl.1 cF.2.2 (u1.trans u2);exact⟨e,Gi,DK a0,dd,unt H1 e,RV,J.os,J.bare,fu,fo,B0,hT,⟨fl.1,fl.2.1,fl.2.2.1.2.2,fl.2.2.2⟩,r2,q⟩
def tRaiseI(C:Nc)(sp:Sp)(E:XK)(t:TA):TS:=λ_ σ H=>t σ H λvs H1=>Aj2 (vs.length≤sizeLine) (∀e,H1 e=none→sp (.ref e::vs) (QG e (J0 none)) (λv H2=>v=.non∧∃dd,H2 e=some (J0 dd)∧E Gi dd (unt H2 e)) λ_ _ _=>False)
def ps_raiseI{x:Str}{C HE fI:Nc}{fd:Nu}{k:Nat}{cH:Nj}{sp:Sp}{e₀:Expr}{rest:Nq}{np cpos pos:Pos}{t:TA}(c:WG fI)(F:ZB k fI fd cH sp)(hr:Room (k+1) (ZM E).A)(hb:Z8 fd cH [])(hg:Gl (ZM E) x)(hm:mg x=some Gi)(hkp:keepIn K Gi=true)(ha:PA (ZM E) (e₀::rest) t)(cX:Fu=false:=by decide)(he:starEach (e₀::rest) (Fl cd)=(false,eval e₀ (Fl cd))::starEach rest (Fl cd):=by rfl)(bo:(backTo cpos (starEach rest (Fl cd))).any (·.1)=false:=by rfl) :
  PS (ZM E) (.Raise (FX (.Call (HH np) (e₀::rest) [] cpos)) none pos) (tRaiseI C sp E t):=by
 intro a6 s1 σ H1 D I h;have hE:Exc K HE:=by obtain⟨_,_,_,_,_,_,_,_,_,_,_,_,_,_,_,he,_,_⟩:=c;exact he
 rw[arm_exec_Raise];refine wpAny_bind (wpAny_standAt (raise_any (K:=K) (C:=C) (HE:=HE) (fI:=fI) (I.ok.hd rfl) hE (wpAny_bind (wpAny_mono (Q:=λv s₁=>∃e a0 dd sl,v=.ref e∧K.In s₁.heap∧WG fI∧s₁.heap.get? e=some (Y9 dd a0 sl)∧(ZM E).xe (DK e) s₁) ?_ (λv s₃ h₃=>wpAny_bind (wpAny_standAt (FA h₃))) λ_ _ z=>z))));refine wpAny_Call_Name_kw (Bz ?_ cX);refine PySem.W.callWith_K (h₀:=base) I.ok.mod.kin hkp (thn (ha cpos a6 s1 σ H1 _ I h) λus s2 ⟨vs,H2,I2,r,hl,q⟩=>⟨I2.kIn,?_⟩) he bo;have hq:=q (s2.heap.objs.size+1) (I2.hok.fresh (Jc _));have cB:(excH s2.heap C us).get? (s2.heap.objs.size+1)=some (YW (.ref s2.heap.objs.size) #[]):=by have:=Qy (s2.heap.push (tupO us)) (o:=YW (.ref s2.heap.objs.size) #[]) rfl;rwa[Ub]at this
 have I3:=I2.laid (a:=s2.heap.objs.size+1) (o:=XcO (s2.heap.objs.size+1) C none) (h':=excH s2.heap C us) (t':=s2.toks) (λb u z=>Q5 (Q5 z)) (Jc _) (xc_ok cB);have r2:Vals (V.ref (s2.heap.objs.size+1)::vs) (Value.ref (s2.heap.objs.size+1)::us):=.cons rfl r;have hlp:(Value.ref (s2.heap.objs.size+1)::us++[]).length=cH.length:=by have e:=r2.length;rw[VS hq]at e;rw[Zu];exact e.symm
 have hsz:=I2.sz;obtain⟨hp,g,d,tk,os⟩:=s2;refine exc_call (rest:=us) I2.kIn c (by rw[←r.length];exact hl) (wpAny_call (codeAny_mono (F.run _ (ZM E).stack _ _ ⟨Value.ref (hp.objs.size+1)::us,[]⟩ (Value.ref (hp.objs.size+1)::us) _ _ _ (hr.make C us []) (I3.env0.make C us []) (by have:=hb _ (Value.ref (hp.objs.size+1)::us) I3.kIn hlp;rwa[Zu]at this) r2 hq) λr s' cM=>?_));cases r with
 |error e=>exact absurd cM (λz=>z)
 |ok fl=>
  cases fl with
  |ret u=>obtain⟨v,H',I4,rv,ev,dd,hH,q3⟩:=I3.after cM;subst ev;obtain⟨⟨a0,sl,hx⟩,_⟩:=I4.hok _ _ hH;refine⟨rv,_,_,dd,sl,rfl,I4.kIn,c,hx,raiseI I4 hH ?_ q3⟩;exact Heap.get?_none_of_le (Nat.le_succ_of_le hsz)
  |next=>exact False.elim cM
  |brk=>exact False.elim cM
  |cont=>exact False.elim cM
end
end L2
namespace L2
open PySem
def lc_filt(T:St→Prop)(q:V→Bool)(ha:W0 xs)(hn:xs.length≤sizeLine)(h0:T τ)(hs:∀x∈xs,∀τ,T τ→∀(k1:V→St→Hp→Prop) (k0:St→Hp→Prop),(q x=true→∀τ2,T τ2→k1 x τ2 H)→(q x=false→∀τ2,T τ2→k0 τ2 H)→g x τ H λ τ2 H2=>tc τ2 H2 λb H3=>if b=true then te τ2 H3 λy H4=>k1 y τ2 H4 else k0 τ2 H3)(hq:∀D,H D=none→Q GJ (Hh D (xs.filter q))):rLC g tc te Q (XC a) τ H:=by
 refine⟨λi m ys τ H1=>Aj5 (H1=H) (T τ) (m=xs.length-i) (i≤xs.length) (ys=(xs.take i).filter q),⟨_,rfl,h0,rfl,HY,rfl⟩,?_⟩;rintro i m ys τ H1 ⟨rfl,ht,rfl,hi,rfl⟩;by_cases aa:i<xs.length
 ·have hfl:((xs.take i).filter q).length≤i:=BS (by rw[Zi];lia);refine .inr ⟨⟨xs,xs[i],ha,Qb aa⟩,DH,?_⟩;rintro x H' ⟨rfl,hx⟩;have cc:=hx xs ha;rw[Qb aa]at cc;have iw:xs[i]=x:=Qw cc;have ce:xs.take Fj=xs.take i++[x]:=by rw[Qo aa,iw]
  refine hs x (iw▸Qm aa) τ ht (λy τ2 H4=>∃m',m'<xs.length-i∧Aj5 (H4=H') (T τ2) (m'=xs.length-Fj) (i+1≤xs.length) ((xs.take i).filter q++[y]=(xs.take Fj).filter q))
   (λ τ2 H4=>∃m',m'<xs.length-i∧Aj5 (H4=H') (T τ2) (m'=xs.length-Fj) (i+1≤xs.length) ((xs.take i).filter q=(xs.take Fj).filter q)) (λqo τ2 h2=>?_) λqo τ2 h2=>?_
  ·exact⟨_,FE,rfl,h2,rfl,aa,by rw[ce,Jm,Jl qo,Kd]⟩
  exact⟨_,FE,rfl,h2,rfl,aa,by rw[ce,Jm,Uk (by rw[qo];decide),Kd,Zu]⟩
 have e:i=xs.length:=by exact zar3 ‹_› ‹_›
 subst e;refine .inl ⟨⟨xs,ha,D9⟩,λD hD=>?_⟩;rw[Qt D9];exact hq D hD
end L2
namespace K21
open PySem L2 Wb
def iso_eq{es:List Ent}(nd:(es.map (·.1)).Nodup):zcs es=(es.map (·.1)).filter λx=>(ZL x).isEmpty:=by unfold zcs;rw[Xz];congr 1;exact List.filter_congr λe he=>by show e.2.1.isEmpty=(ZL e.1).isEmpty;rw[zb5 nd he]
def zif(hK:X.K=K):NW (rIxL K):=hK▸zao
def zfd(hK:X.K=K):W8 (compareOp .In) (rIn K false):=hK▸op_in_seq
def ze0(hK:X.K=K):YL (.builtin "len") (λxs H Q=>Ex2 λp ys=>Aj3 (xs=[HU]) (YE p ys∨Dm ys) (Q (.int ys.length) H)):=hK▸zak
abbrev zg3:Stmt:=top 19
abbrev sNF:Stmt:=inClass (top 6) 0
abbrev iNt(n:Nat):V:=.int (n:Int)
abbrev T3:=Nat×Nat×Nat
def zbj(r:Nt)(fc:Fz Str)(zs:Nj):T3:=(zs.length,(zs.map λx=>(r x).length).sum/2,(fc.filter λf=>decide (f.headD "" ∈ zs)).length)
def badT(t:T3):Bool:=decide (t.1+t.2.2≠t.2.1+2)
def fldT(t:T3):List (Str×V):=[("many_places",iNt t.1),("many_ties",iNt t.2.1),("many_faces",iNt t.2.2)]
inductive IspNF(C:Nc)(vs:List V)(H:Hp)(Q:VK):Prop
 |mk(e:Nc)(t:T3)(h0:vs=[.ref e,iNt t.1,iNt t.2.1,iNt t.2.2])(h1:H e=some (XcO e C none))(h2:t.1<10 ^ 8∧t.2.1<10 ^ 8∧t.2.2<10 ^ 8)(h3:∀(d:Nc) (H':Hp),H' d=some (XdO d (fldT t))→H' e=some (XcO e C (some d))→d≠e→Keep [e] H H'→Q .non H')
def spNF(C:Nc):Sp:=λvs H Q _=>IspNF C vs H Q
inductive IspFlatX(C:Nc)(vs:List V)(H:Hp)(Q:VK)(E:XK):Prop
 | mk (d:Nc) (es:List Ent) (cs:List (List (Str×Str))) (lab:Nx) (h0:vs=[.ref d]) (h1:TAt H d es) (h2:es.length≤60) (h3:(∀ e∈es,e.2.1.length≤100)) (h4:Cert (es.map (·.1)) (row (rsOf es)) cs lab)
   (h5:∀(fc zss:Fz Str) (Ls:Fz (Str×Str)) (H':Hp),fc.Perm ((zcs es).map sing++Ls.map nmL)→JB Ls→(∀zs∈zss,zfn FG lab zs)→InRow FG zss→Keep [] H H'→((zss.map (ZS fc)).find? badT=none→Q .non H')∧∀t,(zss.map (ZS fc)).find? badT=some t→∀d,H' d=some (XdO d (fldT t))→E Gi (FX d) H'):IspFlatX C vs H Q E
def spFlat(C:Nc):Sp:=IspFlatX C
def sum_le{β:Type}{f:β→Nat}{n:Nat}:∀{l:List β},(∀z∈l,f z≤n)→(l.map f).sum≤l.length*n:=by
 intro l;induction l with
 |nil=>intro _;exact Zn _
 |cons z t ih=>intro h;have h1:=ih λy hy=>h y (WD hy);have h2:=h z Qe;rw[Ql,List.sum_cons,Zc,Nat.succ_mul];lia
def take_bad{β γ:Type}{f:β→γ}{q:γ→Bool}{l:List β}{i:Nat}(hi:i<l.length)(h0:∀z∈l.take i,q (f z)=false)(h:q (f l[i])=true):(l.map f).find? q=some (f l[i]):=by
 have e:l.map f=(l.take i).map f++f l[i]::(l.drop Fj).map f:=by rw[←Ql,←Zp hi,←Qs,Zh]
 rw[e,List.find?_append,Ux.mpr (λy hy=>by obtain⟨z,hz,rfl⟩:=Qj.mp hy;rw[h0 z hz];decide),Ww h];rfl
abbrev csFlA:Scope:=scOf (KD (KD (eOf (bAt (sAt zg3 1) 1))))
abbrev csFlB:Scope:=scOf (KD (eOf (bAt (sAt zg3 1) 2)))
def csFlA_k:csFlA.kind=.function:=by rfl
def csFlA_c:∀y∈csFlA.names,y.2≠.cell:=by decide+kernel
def csFlA_n:∀y∈csFlA.names,y.2=.local→csFlA.names.lookup y.1=some .local:=by decide+kernel
def csFlA_f:∀y∈csFlA.names,y.2=.free→(zag zg3).names.lookup y.1=some .cell∨(zag zg3).names.lookup y.1=some .free:=by decide+kernel
def csFlA_l:csFlA.names.lookup ("rounds" : Str)=some NameKind.free:=by decide+kernel
def csFlB_k:csFlB.kind=.function:=by rfl
def csFlB_c:∀y∈csFlB.names,y.2≠.cell:=by decide+kernel
def csFlB_n:∀y∈csFlB.names,y.2=.local→csFlB.names.lookup y.1=some .local:=by decide+kernel
def csFlB_f:∀y∈csFlB.names,y.2=.free→(zag zg3).names.lookup y.1=some .cell∨(zag zg3).names.lookup y.1=some .free:=by decide+kernel
def csFlB_l:csFlB.names.lookup ("piece" : Str)=some NameKind.free:=by decide+kernel
def ndFB:(["face", "piece"]:List Str).Nodup:=by decide+kernel
def inPc(H:Hp)(zs:Nj):V→Bool
 |.ref a=>match H a with
  |some (.lst (.str h::_))=>decide (h∈zs)
  |_=>false
 |_=>false
def zig(e:ze1 H a h):inPc H zs Gq=decide (h∈zs):=by obtain⟨t,e⟩:=e;show(match H a with|some (.lst (.str h::_))=>decide (h∈zs)|_=>false)=_;rw[e];rfl
def filt_len(r:Vy as hd):((as.map V.ref).filter (inPc H zs)).length=(hd.filter λh=>decide (h∈zs)).length:=by
 induction r with
 |nil=>rfl
 |cons h t ih=>
  rename_i a b _ _;rw[Ql];have e:=zig (zs:=zs) h;by_cases hz:b∈zs
  ·rw[Jl (by rw[e];simpa using hz),Jl (DJ hz),Zc,Zc,ih]
  rw[Uk (by rw[e];simpa using hz),Uk (DJ hz),ih]
def sum_cast(ns:List Nat):(ns.map λn:Nat=>(n:Int)).sum=((ns.sum:Nat):Int):=by
 induction ns with
 |nil=>rfl
 |cons a t ih=>rw[Ql,List.sum_cons,List.sum_cons,ih];lia
section
variable{P:Nk}{w:Nl}{K:Nb}{mg:Ng}{base:Np}
def scNF:zaw ["self", "many_places", "many_ties", "many_faces"] ["self", "many_places", "many_ties", "many_faces"] (zag sNF):=fsk
def ok_nf(F:Z2 "__init__" "NotFlat.__init__" sNF f fd)(c:WG f)(b:Bas K HE "__init__" "ValueError.__init__")(hE:mg "HueError" = some (DK HE))(a1:XJ C "many_places")(a2:XJ C "many_ties")(a3:XJ C "many_faces"):ZB 1 f fd ["self", "many_places", "many_ties", "many_faces"] (spNF C):=by
 refine F.okL scNF DP;obtain⟨e,t,rfl,he,⟨b1,b2,b3⟩,k⟩:=h;refine⟨_,zad (zax (pe_base b call_xinit rfl hE (ZP (FY (pe_fs (pj_str DL (pj_int (pv 1) (pj_str DL (pj_int (pv 2) (pj_str DL (pj_int (pv 3) pj_nil)))))) DL)))))
  (zad (VX Gs rfl) (zad (VX Gy rfl) (zah (VX Go rfl)))),?_⟩
 have na:∀{n:Nat},n<10 ^ 8→(n:Int).natAbs<10 ^ 9:=λ{n} h=>by rw[Int.natAbs_natCast];lia
 refine⟨RV,⟨RV,RV,na b1,rfl,RV,RV,na b2,rfl,RV,RV,na b3,rfl,True.intro⟩,λz=>⟨e,C,HE,f,none,GH z,rfl,he,c,RV,RV,.new e C HE f rfl he c a1 λd hd aD=>⟨RV,RV,.old e C HE f d _ rfl zac c a2 (by rw[zaf aD,zac]) (by show 1<1000;lia) ⟨RV,RV,.old e C HE f d _ rfl (by rw[zaf (Zj aD),zac]) c a3 zac (by show 2<1000;lia) (k d _ zac (by rw[zaf (Zj aD),zaf (Zj aD),zac]) aD λb u hb hx=>?_)⟩⟩⟩⟩;have n1:b≠d:=λz=>by rw[z,hd]at hb;cases hb
 have n2:b≠e:=λz=>hx (DR z Qe);rw[zaf n1,zaf n1,zaf n2,zaf n1];exact hb
def zha:zaw ["rounds", "found", "piece", "many_places", "many_ties", "many_faces"] ["rounds"] (zag zg3):=fsk
def ok_flat(F:Z2 "refuse_not_flat" "refuse_not_flat" zg3 f fd)(nN:mg "NotFlat" = some Gi)(kN:W1 Gi=true)(cN:WG fi)(bN:Z8 fdi ["self", "many_places", "many_ties", "many_faces"] [])(GN:ZB 1 fi fdi ["self", "many_places", "many_ties", "many_faces"] (spNF C))(FF:Z2 "faces_of" "faces_of" zfq ff fdf)(bF:Z8 fdf ["rounds"] [])(mF:mg "faces_of" = some (DK ff))(GF:ZB 2 ff fdf ["rounds"] spFacesO)(FP:Z2 "pieces_of" "pieces_of" zh3 fp fdp)(bP:Z8 fdp ["rounds"] [])(mP:mg "pieces_of" = some (DK fp))(GP:ZB 2 fp fdp ["rounds"] spPieces)(a9:mg "len" = none)(iJ:mg "sum" = none):ZC (V4 w) 3 f fd ["rounds"] (spFlat C):=by
 refine F.okX zha (λvs H Q E h=>by obtain⟨d,es,cs,lab,rfl,_⟩:=h;rfl) DP;obtain⟨d,es,cs,lab,rfl,T,aP,ba,C,k⟩:=h;have hu:=zco hr;have aR  :=sizeLine_eq;refine⟨_,zad (KG zha.nd (Bn bF .nil za3 Hu))
  (zah (zbs PassesOwn.leaving rfl (za2 (Mu bP .nil za3 Hu)) (pg_name (i:=2) zha.nd rfl (Or.inr rfl))
   (zad (JZ zha.nd (RS Hi))
   (zad (XH zha.nd (Vd (NM D4 iJ PyProof.Rows.boot_sum (zaa (zia (M:=["place", "rounds"]) (ix:=[none,FX 0]) ⟨csFlA_k,csFlA_c,csFlA_n,csFlA_f,rfl,by decide+kernel,λj i x h1 h2=>by
      match j,h1,h2 with
      |0,_,h2=>cases h2
      |1,h1,h2=>cases h1;cases h2;exact⟨rfl,csFlA_l⟩
      |n+2,h1,_=>cases h1⟩ rfl (za2 Gy) (λC a6 ex s H=>BL ndF) (λC a6 ex s H=>zdb)
      (λC a6 ex s H=>zaj (ze0 (K:=K) rfl) D4 (by exact a9) Zl (FY (zge (by exact hu) (pv 1) (pv 0))))) zae)) zai))
   (zad (MT zha.nd (QY D4 a9 Zl (zaa (zia (M:=["face", "piece"]) (ix:=[none,FX 2]) ⟨csFlB_k,csFlB_c,csFlB_n,csFlB_f,rfl,by decide+kernel,λj i x h1 h2=>by
      match j,h1,h2 with
      |0,_,h2=>cases h2
      |1,h1,h2=>cases h1;cases h2;exact⟨rfl,csFlB_l⟩
      |n+2,h1,_=>cases h1⟩ rfl (za2 Gs) (λC a6 ex s H=>BL ndFB)
      (λC a6 ex s H=>zh6 (zav (zfd (K:=K) rfl) (zay (zif (K:=K) rfl) Gu zai DU) Gs rfl)) (λC a6 ex s H=>pv 0)) zae)))
   (zah (zcg (V7 (QU Go Rr) (RU Rq) Hl) (zah (ps_raiseI cN GN hr bN rfl nN kN (QX (Y8 (UY zae))))) za9)))))))  ,?_⟩
 refine⟨RV,d,es,cs,lab,rfl,T,aP,ba,C,λfo fas fc Ls sw H1 cU mm oF cT _ cb _ _ _ _ k1=>?_⟩;have aD:∀z∈fc,∃h t,z=h::t:=λz hz=>by
  rcases Qg.mp (cT.mem_iff.mp hz) with y|y
  ·obtain⟨x,_,rfl⟩:=Qj.mp y;exact⟨x,[],rfl⟩
  obtain⟨L,hL,rfl⟩:=Qj.mp y;obtain⟨u,v,e,_⟩:=(cb.fa L hL).cy;rw[e];exact⟨_,RV⟩
 have rA:=hd_pair aD oF;have T1:TAt H1 d es:=V1 DI (λ_ _=>by simp);refine⟨RV,d,es,cs,lab,rfl,T1,aP,C,λl as zss H2 aq be cn af _ _ k2=>?_⟩;have T2:TAt H2 d es:=T1.keep k2 DI (λ_ _=>by simp);have fC:=k2 _ _ cU DI;have jj:M7 (fc.map λz=>z.headD ""):=zdw (D:=d) (g:=d) k2 rA (λ_ _ _ _=>by simp);refine⟨l,rfl,⟨_,DW aq⟩,zb3 (xs:=as.map V.ref) (λi σ H'=>Aj3 (∀zs∈zss.take i,badT (ZS fc zs)=false) (Keep [] H2 H') (Ex4 λx2 x3 x4 x5=>σ=[DQ d,DQ fo,x2,x3,x4,x5])) ⟨λzs h=>(by cases h),Keep.refl,_,_,_,_,rfl⟩ (λi σ H' _ hh=>SqL.of (hh.2 _ _ aq DI)) ?_ ?_⟩
 ·rintro i y σ H3 hx ⟨c9,k3,x2,x3,x4,x5,rfl⟩;have hi:i<as.length:=by have:=(Zk.mp hx).1;rwa[Qa]at this
  have iu:y=.ref as[i]:=by rw[Qr,Qb hi]at hx;exact(Qw hx).symm
  subst iu;obtain⟨az,cZ⟩:=za1 be hi;have qq:=cn _ (Qm az);obtain⟨zs,eD⟩:∃zs,zs=zss[i]:=⟨_,rfl⟩;rw[←eD]at cZ qq;have gJ:H3 as[i]=some (DX Gj):=k3 _ _ cZ DI;have cK:∀z∈zs,∃e∈es,e.1=z:=λz hz=>by obtain⟨_,s,_,hm⟩:=qq;exact Qj.mp ((hm z).mp hz).1
  have eF:zs.length≤100:=by
   have:=zcn qq.1 (m:=es.map (·.1)) λz hz=>by obtain⟨e,he,rfl⟩:=cK z hz;exact Qj.mpr ⟨e,he,rfl⟩
   rw[Qa]at this;lia
  refine⟨RV,as[i],RV,Ht gJ,?_⟩;have T3:TAt H3 d es:=T2.keep k3 DI (λ_ _=>by simp);refine⟨RV,as[i],rfl,⟨_,DW gJ⟩,lc_at (xs:=zs.map V.str) (λ τ=>∃x0,τ=[x0,DQ d]) Fm (by rw[Qa,Qa,Qa]) (DW gJ) Fo ⟨none,rfl⟩ ?_ (λD hD=>?_)⟩
  ·rintro j hj ji τ ⟨x0,rfl⟩ kk hk;rw[Qa]at hj;rw[Zr];obtain⟨en,aY,aE⟩:=cK _ (Qm hj);have dg:DGet H3 d (.str zs[j]) (FX (.ref en.2.2)):=by have:=DGet.k (k:=Sum.inr en.1) T3.dc;rw[zg8 T3.nd aY,aE]at this;exact this
   refine⟨RV,RV,d,RV,dg,en.2.2,RV,G' (HQ (T3.ro en aY)),?_⟩;have e:((zs.map λx=>((ZL x).length:Int)).map V.int)[j]=V.int ((en.2.1.map V.str).length:Int):=by rw[Zr,Zr,←aE,DB aY,Qa]
   rw[e]at hk;exact hk _ ⟨_,rfl⟩
  have k4:Keep [] H3 (QN D (.lst ((zs.map λx=>((ZL x).length:Int)).map V.int))):=Keep.new hD;have hD4:(QN D (.lst Fm)) D=some (.lst Fm):=zac;generalize QN D (.lst Fm)=H4 at k4 hD4;refine⟨D,RV,DW hD4,Fo,λn hn=>?_,?_⟩
  ·obtain⟨z,hz,rfl⟩:=Qj.mp hn;obtain⟨en,aY,aE⟩:=cK z hz;have h1:=ba en aY;rw[←aE,DB aY];lia
  have eM:(zs.map λx=>((ZL x).length:Int)).sum=(((zs.map λx=>(ZL x).length).sum:Nat):Int):=by rw[←sum_cast,Zq];rfl
  rw[eM];refine⟨_,RV,rfl,⟨DL,DL⟩,?_⟩;have fA:=k4 _ _ (k3 _ _ fC DI) DI;have rW:=k4 _ _ gJ DI;have l':Paired (ze1 H4) fas (fc.map λz=>z.headD ""):=zdw (D:=d) (g:=d) (Rf k4) jj (λ_ _ _ _=>by simp);refine⟨RV,fo,rfl,⟨_,DW fA⟩,lc_filt (xs:=fas.map V.ref) (λ τ=>∃x0,τ=[x0,FX (.ref as[i])]) (inPc H4 zs) (DW fA) Fo ⟨none,rfl⟩ ?_ (λD2 n8=>?_)⟩
  ·rintro x hx τ ⟨x0,rfl⟩ kk1 kk0 lS lT;obtain⟨a,ha,rfl⟩:=Qj.mp hx;obtain⟨j,hj,rfl⟩:=Zb ha;obtain⟨c7,bK⟩:=za1 l' hj;have aX:=zig (zs:=zs) bK;obtain⟨t,et⟩:=bK;refine⟨RV,fas[j],_,_,RV,rfl,DW et,zau (j:=0) rfl,RV,as[i],RV,Ht rW,rfl,zc5 zs,RV,?_⟩;cases hb:decide ((fc.map λz=>z.headD "")[j]∈zs) with
   |true=>exact zbm (show inV _ _=true by rw[zfi];exact hb) ⟨_,rfl,lS (aX.trans hb) _ ⟨_,rfl⟩⟩
   |false=>exact za4 (show inV _ _=false by rw[zfi];exact hb) (lT (aX.trans hb) _ ⟨_,rfl⟩)
  have k5:Keep [] H4 (QZ D2 (DX ((fas.map V.ref).filter (inPc H4 zs)))):=Keep.new n8;refine⟨D2,RV,Ht zac,?_⟩;rw[filt_len l'];have jo:((fc.map λz=>z.headD "").filter λh=>decide (h∈zs)).length=(ZS fc zs).2.2:=by rw[Xz,Qa];rfl
  have iH:((((zs.map λx=>(ZL x).length).sum:Nat):Int)/2)=(((ZS fc zs).2.1:Nat):Int):=rfl;rw[jo,iH];have bo:(zs.map V.str).length=(ZS fc zs).1:=Qa _;rw[bo];refine⟨RV,RV,_,RV,rfl,RV,_,RV,rfl,rfl,RV,?_⟩;cases c8:badT (ZS fc zs) with
  |false=>
   refine za4 ?_ ⟨λz hz=>?_,(Rf k4).trans k5,_,_,_,_,rfl⟩
   ·rw[Jq,decide_eq_true_iff];refine congrArg V.int ?_;have:=of_decide_eq_false c8;lia
   rw[Qo az]at hz;rcases Qg.mp hz with y|y
   ·exact c9 z y
   rw[Qc.mp y,←eD];exact c8
  | true=>
   refine zbm ?_ ?_
   ·rw[Yr,decide_eq_false_iff_not];intro z;have z:=V.int.inj z;have:=of_decide_eq_true c8;lia
   have mj:(zss.map (ZS fc)).find? badT=some (ZS fc zs):=by have:=take_bad (f:=ZS fc) (q:=badT) az c9 (by rw[←eD];exact c8);rw[←eD]at this;exact this
   have hmf:(fc.filter λf=>decide (f.headD "" ∈ zs)).length≤20000:=BS (by rw[←Yc oF];exact mm);refine⟨RV,RV,RV,(by show 3≤sizeLine;lia),λe he=>⟨e,ZS fc zs,rfl,zac,⟨?_,?_,?_⟩,λdx H6 oI he6 qH k6=>⟨rfl,FX dx,he6,?_⟩⟩⟩
   ·show zs.length<_;lia
   ·have h1:(zs.map λx=>(ZL x).length).sum≤zs.length*100:=by refine sum_le λz hz=>?_;obtain⟨en,aY,aE⟩:=cK z hz;rw[←aE,DB aY];exact ba en aY
    show(zs.map λx=>(ZL x).length).sum/2<_;lia
   ·show(fc.filter λf=>decide (f.headD "" ∈ zs)).length<_;lia
   have kk:Keep [] H (unt H6 e):=λc u hc _=>by
    have h5:=(Rf k4).trans k5;have sh:=h5 c u (k2 c u (k1 c u hc DI) DI) DI;have nce:c≠e:=λz=>by rw[z,he]at sh;cases sh
    rw[zc0 nce];exact k6 c u (DY nce sh) (DJ nce)
   exact(k fc zss Ls (unt H6 e) cT cb cn af kk).2 _ mj dx (by rw[zc0 qH];exact oI)
 rintro σ H3 ⟨c9,k3,x2,x3,x4,x5,rfl⟩;rw[Qa,Yc be,Qt D9]at c9;refine(k fc zss Ls H3 cT cb cn af ((k1.trans k2).trans k3)).1 (Ux.mpr λy hy=>?_);obtain⟨z,hz,rfl⟩:=Qj.mp hy;rw[c9 z hz];decide
abbrev sInit:Stmt:=inClass sWeb 0
abbrev zhm:List Ent→List Ent→Prop:=Paired λt e=>t.1=e.1∧∃k,t.2.1=e.2.1.drop k++e.2.1.take k
inductive IspInit(C CN:Nc)(vs:List V)(H:Hp)(Q:VK)(E:XK):Prop
 | mk (x dx l:Nc) (as:Nn) (es:List Ent) (cs:List (List (Str×Str))) (lab:Nx) (h0:vs=[.ref x,.ref l]) (h1:H x=some (.ins C dx [])) (h2:RwAt H l as es) (h3:es.length≤40) (h4:(∀ e∈es,zc7 e.1)) (h5:Cert (es.map (·.1)) (row (rsOf es)) cs lab)
   (h6:∀(ts es2:List Ent) (fc zss:Fz Str) (Ls:Fz (Str×Str)) (H':Hp),es2.Perm es→Mv es2→fc.Perm ((zcs ts).map sing++Ls.map nmL)→JC Ls→(∀zs∈zss,zfn (ts.map (·.1)) lab zs)→InRow (ts.map (·.1)) zss→Keep [x] H H'→((zss.map (JD fc)).find? badT=none→Q .non H')∧∀t,(zss.map (JD fc)).find? badT=some t→∀d,H' d=some (XdO d (fldT t))→E (DK CN) (FX d) H'):IspInit C CN vs H Q E
def spInit(C CN:Nc):Sp:=IspInit C CN
def zca(h:Mv es):ts.map (·.1)=es.map (·.1):=by
 induction h with
 |nil=>rfl
 |cons h t ih=>rw[Ql,Ql,h.1,ih]
def zg9(h:Mv es)(ht:t∈ts):∃e∈es,t.1=e.1∧∃k,t.2.1=e.2.1.drop k++e.2.1.take k:=by
 induction h with
 |nil=>cases ht
 |cons h _ ih=>
  rcases Qi.mp ht with z|z
  ·subst z;exact⟨_,Qe,h⟩
  obtain⟨e,he,r⟩:=ih z;exact⟨e,WD he,r⟩
def ze4(h:Mv es2)(hp:es2.Perm es)(nd:(es.map (·.1)).Nodup):∀x,∃k,XL x=(ZL x).drop k++(ZL x).take k:=λx=>by
 have dP:(ts.map (·.1)).Nodup:=by rw[zca h];exact(hp.map _).nodup_iff.mpr nd
 by_cases hx:x∈ts.map (·.1)
 ·obtain⟨t,ht,rfl⟩:=Qj.mp hx;obtain⟨e,he,e1,k,e2⟩:=zg9 h ht;refine⟨k,?_⟩;rw[zb5 dP ht,e1,zb5 nd (hp.mem_iff.mp he),e2]
 refine⟨0,?_⟩;have du:x∉es.map (·.1):=λz=>hx (by rw[zca h];exact(hp.map _).mem_iff.mpr z);have n1:x∉(rsOf ts).map (·.1):=by unfold rsOf;rw[List.map_map];exact hx
 have n2:x∉(rsOf es).map (·.1):=by unfold rsOf;rw[List.map_map];exact du
 rw[ze9 n1,ze9 n2];rfl
abbrev csInit:Scope:=scOf (eOf (sAt sInit 3))
def csInit_k:csInit.kind=.function:=by rfl
def csInit_c:∀y∈csInit.names,y.2≠.cell:=by decide+kernel
def csInit_n:∀y∈csInit.names,y.2=.local→csInit.names.lookup y.1=some .local:=by decide+kernel
def csInit_f:∀y∈csInit.names,y.2=.free→(zag sInit).names.lookup y.1=some .cell∨(zag sInit).names.lookup y.1=some .free:=by decide+kernel
def scInit:zaw ["self", "rows", "rounds"] ["self", "rows"] (zag sInit):=fsk
def ok_init(F:Z2 "__init__" "Web.__init__" sInit f fd)(cW:Cls K C)(nW:NoAttr K C "rounds")(FN:Z2 "refuse_no_names" "refuse_no_names" zf1 fn fdn)(bN:Z8 fdn ["rows"] [])(mN:mg "refuse_no_names" = some (DK fn))(GN:ZB 2 fn fdn ["rows"] spNoNames)(FT:Z2 "refuse_twice" "refuse_twice" zdy ft fdt)(bT:Z8 fdt ["rows"] [])(mT:mg "refuse_twice" = some (DK ft))(GT:ZB 1 ft fdt ["rows"] spTwice)(FO:Z2 "refuse_one_way" "refuse_one_way" zh4 fo fdo)(bO:Z8 fdo ["rows"] [])(mO:mg "refuse_one_way" = some (DK fo))(GO:ZB 1 fo fdo ["rows"] spOneWay)(FL:Z2 "from_least" "from_least" sLeast fl fdl)(bL:Z8 fdl ["around"] [])(mL:mg "from_least" = some (DK fl))(GL:ZB 1 fl fdl ["around"] spLeast)(FF:Z2 "refuse_not_flat" "refuse_not_flat" zg3 ff fdf)(bF:Z8 fdf ["rounds"] [])(mF:mg "refuse_not_flat" = some (DK ff))(GF:ZC (V4 w) 3 ff fdf ["rounds"] (spFlat CN))(aB:mg "sorted" = none):ZC (V4 w) 4 f fd ["self", "rows"] (spInit C CN):=by
 refine F.okX scInit (λvs H Q E h=>by obtain⟨x,dx,l,as,es,cs,lab,rfl,_⟩:=h;rfl) DP;obtain⟨x,dx,l,as,es,cs,lab,rfl,hx,R,aP,hok,Ct,k⟩:=h;have hu:=zco hr;have aV:VE _:=hr.mono DL;have fT:Room 2 _:=hr.mono DL;have aR  :=sizeLine_eq;refine⟨_,zad (zax (Mw bN .nil za3 Ho))
  (zad (zax (ZU bT .nil za3 Ho))
  (zad (zax (zan GO aV rfl mO FO.kp bO .nil za3 Ho))
  (zad (ps_dc (i:=2) (M:=["place", "around"]) (ix:=[none,none]) scInit.nd rfl rfl (noB (n:=2) csInit_k csInit_c csInit_n csInit_f rfl ndPA) rfl
    (za2 (zaj zfv D4 aB Yp Ho))
    (λC a6 ex s H=>zh8 (K:=K) (n:=2) rfl rfl (VW (KP zdm)))
    (λC a6 ex s H=>zdb) (λC a6 ex s H=>pv 0) (λC a6 ex s H=>zan GL (by exact aV) rfl (by exact mL) FL.kp bL .nil za3 Ho) rfl)
  (zad (zax (Bn bF .nil (passR (E':=E) λ_ _ _ h=>h) Hi))
  (zah (ps_fld Gu Gy rfl)))))),?_⟩
 have aS:(es.map (·.1)).Nodup:=Ct.nd;have af:∀e∈es,ZL e.1=e.2.1:=λe he=>zb5 aS he;have hrn:∀e∈es,e.2.1.Nodup:=λe he=>af e he▸Ct.rn e.1;have eN:∀e∈es,∀y∈e.2.1,y∈es.map (·.1):=λe he y hy=>Ct.inn' (x:=e.1) (by rw[af e he];exact hy);have ba:∀e∈es,e.2.1.length≤40:=λe he=>by have:=zcn (hrn e he) (eN e he);rw[Qa]at this;exact Zd ‹_› ‹_›
 refine⟨RV,l,as,es,rfl,R,λe he=>⟨Zd (ba e he) DL,hok e he,λy hy=>?_⟩,λH1 k1=>?_⟩
 ·obtain⟨e',cV,rfl⟩:=Qj.mp (eN e he y hy);exact hok e' cV
 have R1:=R.keep k1;refine⟨RV,l,as,es,rfl,R1,DH,aS,λe he=>⟨Zd (ba e he) DL,hrn e he⟩,λH2 k2=>?_⟩;have R2:=R1.keep k2;refine⟨RV,l,as,es,rfl,R2,aS,λe he=>⟨?_,λy hy=>?_⟩,λH3 k3=>?_⟩
 ·rw[←af e he];exact Ct.ir e.1
 ·obtain⟨e',cV,dR⟩:=Qj.mp (eN e he y hy);have l8:e'.1=y:=dR;refine⟨e',cV,l8,?_⟩;rw[←af e' cV,l8];exact Ct.sy e.1 y (by rw[af e he];exact hy)
 have R3:=R2.keep k3;have k03:Keep [] H H3:=(k1.trans k2).trans k3;have cG:as.length=es.length:=Yc R3.ts;refine⟨RV,l,RV,SqL.of R3.ls,λv hv=>?_,λv hv u hu e=>?_,λl2 wsV aq ad ag=>?_⟩
 ·obtain⟨a,ha,rfl⟩:=Qj.mp hv;obtain⟨i,hi,rfl⟩:=Zb ha;obtain⟨az,h⟩:=DC hi;exact⟨_,_,RV,h⟩
 ·obtain⟨a,ha,rfl⟩:=Qj.mp hv;obtain⟨b,hb,rfl⟩:=Qj.mp hu;obtain⟨i,hi,rfl⟩:=Zb ha;obtain⟨j,hj,rfl⟩:=Zb hb;obtain⟨az,h1⟩:=DC hi;obtain⟨c7,h2⟩:=DC hj;rw[zek h1,zek h2]at e;have e':es[i].1=es[j].1:=by have q:es[i].1.cps.toList=es[j].1.cps.toList:=e;generalize es[i].1=a1 at q ⊢;generalize es[j].1=a2 at q ⊢;cases a1;cases a2;congr 1;exact Xv.mp q
  have e2:(es.map (·.1))[i]'(DR Qa az)=(es.map (·.1))[j]'(DR Qa c7):=by rw[Zr,Zr];exact e'
  have:=(Wh aS).mp e2;subst this;rfl
 obtain⟨bH,rfl,aF⟩:=zgc ad;obtain⟨es2,dh,pZ⟩:=zdc aF R3.ts;have k4:Keep [] H3 (QN l2 GQ):=Keep.new aq;have lQ:(QN l2 GQ) l2=some GQ:=zac;generalize QN l2 GQ=H4 at k4 lQ;have lm:Paired (λa (e:Ent)=>H4 a=some (.tup [.str e.1,.ref e.2.2])) bH es2:=Paired.imp' (λ_ _ h=>k4 _ _ h DI) pZ;have qi:∀e∈es2,H4 e.2.2=some (DX Gc):=λe he=>k4 _ _ (R3.ro e (dh.mem_iff.mp he)) DI;have lM:(es2.map (·.1)).Nodup:=(dh.map _).nodup_iff.mpr aS;have rV:bH.length=es2.length:=Yc lm;have hel2:es2.length=es.length:=dh.length_eq;refine⟨l2,rfl,⟨_,DW lQ⟩,λi m ys τ H'=>Aj5 (m=es2.length-i) (i≤es2.length) (Ex2 λx0 x1=>τ=[x0,x1]) (Keep [] H4 H') (Ex1 λ(ts:List Ent)=>Aj3 (ys=(eWV ts)) (∀e∈ts,H' e.2.2=some (.tup Gc)) (Mv (es2.take i))),
  ⟨es2.length,rfl,HY,⟨none,none,rfl⟩,Keep.refl,[],rfl,λe he=>(by cases he),.nil⟩,?_⟩
 rintro i m ys τ H5 ⟨rfl,hi,⟨x0,x1,rfl⟩,k5,ts,rfl,iF,gO⟩;by_cases aa:i<es2.length
 ·have jW:=zca gO;have iG:ts.length≤i:=by have:=congrArg List.length jW;rw[Qa,Qa,Zi]at this;lia
  refine .inr ⟨⟨_,.ref bH[i],DW (k5 _ _ lQ DI),by rw[Qr,Qb (by exact zar6 ‹_› ‹_›)];rfl⟩,Fo,?_⟩;rintro v H6 ⟨rfl,hv⟩;have iD:=hv _ (DW (k5 _ _ lQ DI));rw[Qr,Qb (by exact zar6 ‹_› ‹_›)]at iD;obtain rfl:V.ref bH[i]=v:=Qw iD;obtain⟨az,cZ⟩:=za1 lm (by exact zar6 ‹_› ‹_›:i<bH.length);have dG:es2[i]∈es2:=Qm aa;have bn:=k5 _ _ (qi _ dG) DI;have lK:es2[i].1∉ts.map (·.1):=by
   rw[jW];have h1:(es2.map (·.1)).take Fj=(es2.map (·.1)).take i++[es2[i].1]:=by rw[Qo (DR Qa aa),Zr]
   have h2:((es2.map (·.1)).take Fj).Nodup:=Jp (Jt _ _) lM;rw[h1,Zo,←Wu]at h2;exact λz=>h2.2.2 _ z _ RM rfl
  refine⟨bH[i],RV,HQ (k5 _ _ cZ DI),rfl,_,RV,_,RV,rfl,RV,RV,es2[i].2.2,es2[i].2.1,rfl,bn,Zd (ba _ (dh.mem_iff.mp dG)) DL,λt j H7 hj og htfr k7=>⟨Sum.inr es2[i].1,rfl,es2.length-Fj,FE,rfl,aa,⟨_,RV⟩,k5.trans k7,ts++[(es2[i].1,es2[i].2.1.drop j++es2[i].2.1.take j,t)],put_new (r:=es2[i].2.1.drop j++es2[i].2.1.take j) lK,λe he=>?_,?_⟩⟩
  ·rcases Qg.mp he with z|z
   ·exact k7 _ _ (iF e z) DI
   rw[Qc.mp z];exact og
  rw[Qo aa];exact zap gO (.cons ⟨rfl,j,rfl⟩ .nil)
 have lW:i=es2.length:=by exact zar3 ‹_› ‹_›
 subst lW;rw[Qt D9]at gO;refine .inl ⟨⟨_,DW (k5 _ _ lQ DI),by rw[Qa,rV];exact Qd _⟩,λd hd=>?_⟩;have k6:Keep [] H5 (Q2 d (.dK (eWV ts))):=Keep.new hd;have oI:(Q2 d (.dK (eWV ts))) d=some (.dK (eWV ts)):=zac;generalize Q2 d (.dK (eWV ts))=H6 at k6 oI;have jW:=zca gO;have T6:TAt H6 d ts:=⟨oI,λe he=>k6 _ _ (iF e he) DI,DR jW lM⟩;have iG:ts.length=es.length:=by have:=congrArg List.length jW;rw[Qa,Qa,dh.length_eq]at this;exact this
 have C6:Cert (ts.map (·.1)) (row (rsOf ts)) cs lab:=zgz Ct (by rw[jW];exact dh.map _) (ze4 gO dh aS);refine⟨RV,d,ts,cs,lab,rfl,T6,DH,λe he=>?_,C6,λfc zss Ls H7 cT cb cn eO k7=>⟨λhn=>?_,λt ht dx' hdx=>?_⟩⟩
 ·obtain⟨e',cV,_,kk,e2⟩:=zg9 gO he;rw[e2,(zf2 _ kk).length_eq];exact Zd (ba e' (dh.mem_iff.mp cV)) DL
 ·have nU:Keep [] H H7:=(((k03.trans k4).trans k5).trans k6).trans k7;have hx7:=nU _ _ hx DI;exact⟨RV,RV,x,C,dx,[],rfl,hx7,cW,nW,DL,(k ts es2 fc zss Ls _ dh gO cT cb cn eO ((nU.sub DI).trans FQ)).1 hn⟩
 have nU:Keep [] H H7:=(((k03.trans k4).trans k5).trans k6).trans k7;exact(k ts es2 fc zss Ls H7 dh gO cT cb cn eO (nU.sub DI)).2 t ht dx' hdx
def zgg:∀{as:List α} {bs:List β} (n:Nat),WQ as bs→WQ (as.take n) (bs.take n):=by
 intro as bs n r;induction r generalizing n with
 |nil=>rw[List.take_nil,List.take_nil];exact .nil
 |cons h t ih=>
  cases n with
  |zero=>exact .nil
  |succ k=>exact .cons h (ih k)
def zgh:∀{as:List α} {bs:List β} (n:Nat),WQ as bs→WQ (as.drop n) (bs.drop n):=by
 intro as bs n r;induction r generalizing n with
 |nil=>rw[List.drop_nil,List.drop_nil];exact .nil
 |cons h t ih=>
  cases n with
  |zero=>exact .cons h t
  |succ k=>exact ih k
abbrev sPot:Stmt:=top 23
abbrev zej:Stmt:=top 24
abbrev qG:Str:= "_law_digit"
end
inductive IspPot(K:Nb)(vs:List V)(H:Hp)(Q:VK):Prop
 |mk(a:Nc)(ns:List Int)(j:Nat)(h0:vs=[.ref a,.int j])(h1:SqL K H a (ns.map V.int))(h2:j≤1000)(h2':ns.length≤1000)(h3:∀(l:Nc) (b m:Int) (H':Hp),H l=none→Pot H' l b m→Keep [] H H'→Q (.ref l) H')
def spPot(K:Nb):Sp:=λvs H Q _=>IspPot K vs H Q
def sq_keep(h:W0 xs)(k:Keep [] H H'):SqL K H' a xs:=h.imp (λr=>r.imp (λe=>k _ _ e DI) λ⟨o,e⟩=>⟨o,k _ _ e DI⟩) id
section
variable{P:Nk}{w:Nl}{K:Nb}{mg:Ng}{base:Np}
def scDigit:zaw [qP,qM, "_law_digit_here"] [qP,qM] (zag zej):=fsk
def ok_digit(F:Z2 qG qG zej f fd):ZB 1 f fd [qP,qM] zf9:=by
 refine F.okL scDigit DP;obtain⟨p,b,m,n,rfl,⟨hp,hb,hm,br⟩,hn,bi,k⟩:=h;have i0:atI [Rx b,Rx m] ((0:Nat):Int)=some (GG b):=zau rfl;have i1:atI [Rx b,Rx m] ((1:Nat):Int)=some (GG m):=zau rfl;refine⟨_,zad (zcg (BZ (Z6 Gu zai DU) zai Hl)
  (zad (BQ scDigit.nd (WX (Z6 Gu zai DU) Gs))
  (zad (ps_asg (Vd (Z6 Gu zai (λ_ _=>rfl)) Gs) (Df set_list))
   (zah (zbo Gy)))) za9)
  (zad (ps_asg (WX (RU (KI (Z6 Gu zai DU) zai)) zai) (Df set_list))
  (zah (zbo (WX (Vd (WX (KI (Z6 Gu zai DU) (Z6 Gu zai DU)) zai) zai) Gs)))),?_⟩
 refine⟨RV,p,_,_,RV,rfl,DW hp,i0,_,RV,rfl,RV,ite2 (λbg=>?_) (λhneg=>?_)⟩
 ·have kr:0 < b:=of_decide_eq_true bg;refine⟨RV,p,_,_,RV,rfl,DW hp,i0,RV,_,RV,rfl,hn,RV,p,_,_,RV,rfl,DW hp,i0,RV,_,RV,rfl,⟨hn,bi⟩,RV,p,_,0,0,rfl,rfl,hp,rfl,RV,k (b%n) (b/n) m _ (Kx _ DH) (Kf _ hn) ⟨zac,Int.ediv_nonneg hb DH,hm,br⟩ λc o e hc=>?_⟩;rw[zaf hc];exact e
 have i1':∀ x:Int,atI [Rx b,Rx x] ((1:Nat):Int)=some (GG x):=λx=>zau rfl;have r0:0≤(m*48271+12289)%2147483629:=Kx _ DL;have r1:(m*48271+12289)%2147483629<2147483629:=Kf _ DL;refine⟨RV,p,_,_,RV,rfl,DW hp,i1,_,RV,rfl,Gb ⟨DH,DH⟩,_,RV,rfl,_,RV,rfl,(by show(0:Int)<2147483629;decide),RV,p,_,1,1,rfl,rfl,hp,rfl,RV,p,_,_,RV,rfl,DW zac,i1' _,RV,p,_,_,RV,rfl,DW zac,i1' _,_,RV,rfl,Gb ⟨DH,DH⟩,_,RV,rfl,(by show(0:Int)<2147483587;decide),_,RV,rfl,⟨DL,DL⟩,RV,_,RV,rfl,hn,k _ b ((m*48271+12289)%2147483629) _ (Kx _ DH) (Kf _ hn) ⟨zac,hb,r0,DH⟩ λc o e hc=>?_⟩;rw[zaf hc];exact e
def scPot:zaw [qS, "_law_k", "_law_cell"] [qS, "_law_k"] (zag sPot):=fsk
def ok_pot(F:Z2 "_law_pot" "_law_pot" sPot f fd)(a9:mg "len" = none)(f7:mg "min" = none)(j8:mg "max" = none)(f8:mg "list" = none):ZB 1 f fd [qS, "_law_k"] (spPot K):=by
 refine F.okL scPot DP;obtain⟨a,ns,j,rfl,hS,hj,oo,k⟩:=h;have aR  :=sizeLine_eq;refine⟨_,zad (BQ scPot.nd (Z6 (BX (zc2 zft D4 f8 PyProof.Rows.boot_list Hu) (za6 (QO zae)))
   (M8 D4 f7 Bb (ZZ (FY (RS Hu)))) DU))
  (zah (zbo (za6 (zaa (M9 D4 j8 PyProof.Rows.boot_max (QO (FY (K' (pv 2) (zaq op_pow zai zai)))))
   (zaa (WX (RU (QU (KI (WX Gy zai) zai) (KI zai Gs))) zai) zae))))),?_⟩
 refine⟨RV,a,RV,Gb hS,λp1 h1=>⟨(DO 1),λp2 h2=>?_⟩⟩;have gi:p1≠p2:=zab (o:=_) zac h2;refine⟨p1,p2,_,RV,rfl,(DY gi zac),zac,by rw[Qa];show _+1≤_;lia,λp3 h3=>?_⟩;have k3:Keep [] H (upd (YZ (.lst [GG 0])) p3 (DX (ns.map V.int++[GG 0]))):=((D0 h1).trans (D0 h2)).trans (D0 h3);have S3:=sq_keep hS k3;have l3:(upd (YZ (.lst [GG 0])) p3 (DX (ns.map V.int++[GG 0]))) p3=some (DX ((ns++[0]).map V.int)):=by rw[zac,Qs];rfl
 refine⟨RV,RV,a,RV,Gb S3,j,ns.length,by rw[Qa],?_⟩;generalize upd (YZ (.lst [GG 0])) p3 (DX (ns.map V.int++[GG 0]))=H3 at S3 k3 l3;obtain⟨i,hi,e⟩:∃i:Nat,i<(ns++[0]).length∧(if(ns.length:Int)<(j:Int) then(ns.length:Int) else(j:Int))=(i:Int):=by
  rw[Qk];split
  ·exact⟨ns.length,Wa _,rfl⟩
  exact⟨j,by show j<ns.length+1;lia,rfl⟩
 rw[e];have g:((ns++[0]).map V.int)[i]?=some (.int (ns++[0])[i]):=by rw[Qr,Qb hi];rfl
 refine⟨p3,_,_,RV,rfl,DW l3,zau g,?_⟩;generalize(ns++[0])[i]=c;have q0:0≤c%2147483629:=Kx _ DL;have q1:c%2147483629<2147483629:=Kf _ DL;refine⟨RV,_,RV,rfl,⟨DL,DL,DL⟩,_,RV,rfl,_,RV,RV,_,RV,rfl,(by show(0:Int)<2147483629;decide),_,RV,rfl,Gb ⟨DH,DH⟩,RV,_,RV,rfl,Gb ⟨DL,DL⟩,_,RV,rfl,_,RV,rfl,_,RV,rfl,(by show(0:Int)<2147483629;decide),(DO 2),λl hl=>k l _ _ _ (zas k3 hl DI) ⟨zac,?_,Kx _ DL,Int.lt_trans (Kf _ DL) DL⟩ (Rf (D0 hl))⟩;split
 ·lia
 decide
end
end K21
namespace L2
open PySem PySem.Spec PyProof.Rows
abbrev iV(n:Nat):V:=.int (n:Int)
section
variable{X:Cx}
def op_ne_pairsN(hu:X.A.units<cLine):WU (λx y H Q=>Ex4 λ(a b:Nc) (q r:Nat×Nat)=>Aj5 (x=.ref a) (y=.ref b) (H a=some (.tup [iV q.1,iV q.2])) (H b=some (.tup [iV r.1,iV r.2])) (Q (.bl (!decide (q=r))) H)):=by
 intro a6 s σ H x y v u Q I rx ry h;obtain⟨a,b,q,r,rfl,rfl,ha,hb,k⟩:=h;cases rx;cases ry;obtain⟨_,a8,r1,p⟩:=JJ ha;obtain⟨_,aO,r2,p2⟩:=UJ _ hb;obtain⟨u1,u2,rfl,⟨t1,rfl⟩,⟨t2,rfl⟩⟩:=vals2 r1;obtain⟨w1,w2,rfl,⟨t3,rfl⟩,⟨t4,rfl⟩⟩:=vals2 r2;refine SeqAt.RcNeAt.tuples (e:=λj=>if j=0 then(q.1:Int)==(r.1:Int) else(q.2:Int)==(r.2:Int)) p p2 hu (λj j1 j2=>?_) _ _ _ _ ⟨.bl (!decide (q=r)),H,I,?_,k⟩
 ·have iq:j < 2:=by simpa using j1
  match j,iq with
  |0,_=>exact Xm (q.1:Int) t1 (r.1:Int) t3
  |1,_=>exact Xm (q.2:Int) t2 (r.2:Int) t4
 show Value.bool _=Value.bool _;congr 1;have:decide (q=r)=(((q.1:Int)==(r.1:Int))&&((q.2:Int)==(r.2:Int))):=by rw[Wp];simp[Prod.ext_iff];lia
 rw[this];show(!((GY 2).all (λj=>if j=0 then(q.1:Int)==(r.1:Int) else(q.2:Int)==(r.2:Int))&&true))=_;rw[show List.range 2=[0,1] from rfl];simp
end
end L2
namespace Wb
section
variable{α:Type}[DecidableEq α]
theorem zgr(rs:Rs α)(s:α×α):∀n,YU s (n+1)=YU (stp rs s) n
 |0=>rfl
 |n+1=>congrArg (stp rs) (zgr rs s n)
theorem lk_itr:∀{t:List (α×α)} {s:α×α},Lk (st (row rs)) s t e→Vu (t.length+1)=s::t∧YU s (t.length+1)=e
 |[],s,k=>⟨rfl,k⟩
 |y::t,s,k=>by obtain⟨h1,h2⟩:=lk_itr k.2;have hs:stp rs s=y:=k.1;refine⟨?_,by rw[Zc,zgr,hs];exact h2⟩;unfold run at h1 ⊢;rw[Zc,List.range_succ_eq_map,Ql,Zq,←h1];refine congrArg (s::·) (Jf λn _=>?_);show YU s (n+1)=_;rw[zgr,hs]
def good_round{rs:Rs α}(h:Good rs){s:α×α}(hs:KC s):∃L,YU s (L+1)=s∧(Vu (L+1)).Nodup:=by obtain⟨cs,lab,C⟩:=h;obtain⟨c,hc,h⟩:=Yn.mp ((C.cm s).mpr ((zde C.nd).mp hs));obtain⟨A,B,e⟩:=Uy h;have k:=Mq hc;rw[e]at k;obtain⟨h1,h2⟩:=lk_itr (zfl k);refine⟨_,h2,?_⟩;rw[h1];have hn:c.Nodup:=(List.pairwise_flatten.mp C.cf).1 c hc;rw[e]at hn;have:=(Yu (l₁:=A) (l₂:=s::B)).nodup_iff.mp hn;exact this
def round_ne{rs:Rs α}{s:α×α}{L n:Nat}(nd:(Vu (L+1)).Nodup)(h0:0<n)(h:n≤L):YU s n≠s:=λe=>by unfold run at nd;have:=(Wh (i:=n) (j:=0) (h₀:=by rw[Qa,Wi];lia) (h₁:=by rw[Qa,Wi];lia) nd).mp (by rw[Zr,Zr,Ke,Ke];exact e);lia
end
def rsN(rr:Fz Nat):Rs Nat:=(List.range rr.length).map λk=>(k,rr.getD k [])
def zb2(rr:Fz Nat):(rsN rr).map (·.1)=List.range rr.length:=by unfold rsN;rw[Zq];exact(Jf λ_ _=>rfl).trans (List.map_id _)
def nd_N(rr:Fz Nat):((rsN rr).map (·.1)).Nodup:=by rw[zb2];exact Xp
def zfu{rr:List HF}{k:Nat}(h:k<rr.length):(k,rr[k])∈rsN rr:=by unfold rsN;exact Qj.mpr ⟨k,Yi.mpr h,by rw[Qn,Qb h];rfl⟩
def zfa{rr:List HF}{k:Nat}(h:k<rr.length):QH k=rr[k]:=zfr (nd_N rr) (zfu h)
def zhb{rr:List HF}{k:Nat}(h:¬k<rr.length):QH k=[]:=ze9 (by rw[zb2];exact λz=>h (Yi.mp z))
def set_N(rr:Fz Nat)(k:Nat)(r:List Nat):zb0 HV k r=rsN (rr.set k r):=by
 unfold zb0 rsN;rw[Zq,Yd];refine Jf λj hj=>?_;have ji:=Yi.mp hj;show(if j=k then(j,r) else(j,rr.getD j []))=(j,(rr.set k r).getD j []);rw[Qn,Qn,List.getElem?_set];by_cases e:j=k
 ·subst e;rw[if_pos rfl,if_pos rfl,if_pos ji];rfl
 rw[if_neg e,if_neg (Zj e)]
def snoc_N(rr:Fz Nat):rsN (rr++[[]])=rsN rr++[(rr.length,[])]:=by
 unfold rsN;rw[Qk,Zc,Ja,Xy,Qs];congr 1
 ·refine Jf λj hj=>?_;rw[Qn,Qn,Xe (Yi.mp hj)]
 show [(rr.length,(rr++[[]]).getD rr.length [])]=_;rw[Qn,Uw D9,Xw];rfl
end Wb
namespace K21
open PySem L2 Wb
abbrev ze8:Stmt:=top 27
abbrev ze7:Stmt:=top 28
structure NAt(H:Hp)(l:Nc)(as:Nn)(rr:List (List Nat)):Prop where
 ls:H l=some Gk
 ro:Paired (λa r=>H a=some Ry) as rr
 nd:as.Nodup
def NAt.len(R:Y' rr):as.length=rr.length:=Yc R.ro
def NAt.row(R:Y' rr){k:Nat}(h:k<as.length)(h':k<rr.length):H as[k]=some (DX (rr[k].map iV)):=let⟨_,z⟩:=za1 R.ro h;z
def NAt.keep(R:Y' rr)(k:W3 H')(hl:l∉xs)(ha:∀a∈as,a∉xs):W9 rr:=by
 refine⟨k _ _ R.ls hl,?_,R.nd⟩;have:=R.ro;clear R;induction this with
 |nil=>exact .nil
 |cons r t ih=>exact .cons (k _ _ r (ha _ Qe)) (ih λa h=>ha a (WD h))
def NAt.k0(R:Y' rr)(k:Keep [] H H'):W9 rr:=R.keep k DI λ_ _=>by simp
def NAt.apart(R:Y' rr):l∉as:=λh=>by
 obtain⟨k,hk,e⟩:=Zb h;have h1:=R.row hk (by rw[←R.len];exact hk);rw[e,R.ls]at h1;have h2:as.map V.ref=(rr[k]'(by rw[←R.len];exact hk)).map iV:=by injection h1 with z;injection z
 cases as with
 |nil=>simp at hk
 |cons a t=>
  generalize(rr[k]'(by rw[←R.len];exact hk))=r at h2;cases r with
  |nil=>cases h2
  |cons y s=>rw[Ql,Ql]at h2;injection h2 with z1 _;cases z1
def zgv{zs:List Nat}{x:Nat}(h:x∈zs):(∃ z,(zs.map iV)[zs.idxOf x]?=some z∧eqV z (iV x)=true)∧∀ m z,m < zs.idxOf x→(zs.map iV)[m]?=some z→eqV z (iV x)=false:=by
 have aa:zs.idxOf x<zs.length:=Je.mpr h;refine⟨⟨iV x,?_,beq_self_eq_true (x:Int)⟩,λm z hm e=>?_⟩
 ·rw[Qr,Qb aa,Uv];rfl
 rw [Qr]at e;have br:m<zs.length:=Wq hm aa;rw[Qb br]at e;cases e;show((zs[m]:Int)==(x:Int))=false;refine beq_eq_false_iff_ne.mpr λq=>?_;have q:zs[m]=x:=Int.ofNat.inj q;have aD:∀(l:List Nat) (j:Nat) (hj:j<l.length),l[j]=x→l.idxOf x≤j:=by
  intro l;induction l with
  |nil=>intro j hj;simp at hj
  | cons a t ih=>
   intro j hj e;rw[List.idxOf_cons];cases j with
   |zero=>have e':a=x:=e;rw[e'];simp
   |succ i=>
    have:=ih i (DJ hj) (DJ e);by_cases h:a=x
    ·rw[h];simp
    have hb:(a == x)=false:=beq_eq_false_iff_ne.mpr h;rw[hb];simp;assumption
 have:=aD zs m br q;lia
def zdq(zs:List Nat):(zs.map iV).all zfk=true:=by rw[Jz];intro v hv;obtain⟨x,_,rfl⟩:=Qj.mp hv;rfl
inductive IspBehind(vs:List V)(H:Hp)(Q:VK):Prop
 |mk(a:Nc)(zs:List Nat)(x:Nat)(h0:vs=[.ref a,iV x])(h1:H a=some (.lst (zs.map iV)))(h2:x∈zs)(h3:zs.length≤900)(h4:Q (iV (nxt zs x)) H)
def spBehind:Sp:=λvs H Q _=>IspBehind vs H Q
abbrev zb7(H:Hp)(as:Nn)(qs:GK (Nat×Nat)):Prop:=Paired (λa q=>H a=some (.tup [iV q.1,iV q.2])) as qs
def zb7.keep(r:zb7 H as qs)(k:∀b x y,H b=some (.tup [x,y])→H' b=some (.tup [x,y])):zb7 H' as qs:=Paired.imp' (λa q h=>k _ _ _ h) r
def zb7.snoc(r:zb7 H as qs)(h:H a=some (.tup [iV q.1,iV q.2])):zb7 H (as++[a]) (qs++[q]):=by
 induction r with
 |nil=>exact .cons h .nil
 |cons r t ih=>exact .cons r ih
inductive IspSteps0(vs:List V)(H:Hp)(Q:VK):Prop
 |mk (l:Nc) (as:Nn) (rr:List (List Nat)) (s:Nat×Nat) (h0:vs=[.ref l,iV s.1,iV s.2]) (h1:NAt H l as rr) (h2:IsSt (rsN rr) s) (h3:Good (rsN rr)) (h4:rr.length≤40)
  (h6:∀(t:Nc) (ps:Nn) (n:Nat) (H':Hp),H t=none→H' t=some (DX (ps.map V.ref))→zb7 H' ps (JG s (n+1))→(JG s (n+1)).Nodup→n+1≤1600→Keep [] H H'→Q (DK t) H'):IspSteps0 vs H Q
def spSteps0:Sp:=λvs H Q _=>IspSteps0 vs H Q
section
variable{P:Nk}{w:Nl}{K:Nb}{mg:Ng}{base:Np}
def scBehind:zaw ["_law_around", "_law_one"] ["_law_around", "_law_one"] (zag ze8):=fsk
def ok_behind(F:Z2 "_law_behind" "_law_behind" ze8 f fd)(a9:mg "len" = none):ZB 1 f fd ["_law_around", "_law_one"] spBehind:=by
 refine F.okL scBehind DP;obtain⟨a,zs,x,rfl,ha,hx,hz,k⟩:=h;have hu:=zco hr;refine⟨_,zah (zbo (Z6 Gu (WX (RU (UX Jj Ji zem Gu Ho))
  (QY D4 a9 Zl Hu)) DU)),?_⟩
 obtain⟨i1,i2⟩:=zgv hx;have bg:0<zs.length:=Ul hx;have hm:(zs.idxOf x+1)%zs.length<zs.length:=XA bg;have g:(zs.map iV)[(zs.idxOf x+1)%zs.length]?=some (iV (XV x)):=by rw[Qr,Qb hm];unfold nxt;simp[List.getD,hm]
 have e1:((zs.idxOf x:Nat):Int)+1=((zs.idxOf x+1:Nat):Int):=by lia
 have g2:atI (zs.map iV) ((((zs.idxOf x:Nat):Int)+1)%((zs.map iV).length:Int))=some (iV (XV x)):=by rw[e1,Qa,←Int.natCast_emod];exact zau g
 refine⟨RV,RV,DV ha,RV,a,_,_,RV,rfl,ha,rfl,zdq zs,i1,i2,_,RV,rfl,RV,a,RV,Ht ha,_,RV,rfl,?_,a,_,_,RV,rfl,DW ha,g2,k⟩;rw[Qa];exact zar9 ‹_›
def zct:zaw [qR, "_law_p", "_law_q", "_law_found", "_law_here"] [qR, "_law_p", "_law_q"] (zag ze7):=fsk
def ok_steps0(F:Z2 "_law_steps" "_law_steps" ze7 f fd)(FB:Z2 "_law_behind" "_law_behind" ze8 fb fdb)(bB:Z8 fdb ["_law_around", "_law_one"] [])(mB:mg "_law_behind" = some (DK fb))(GB:ZB 1 fb fdb ["_law_around", "_law_one"] spBehind) :
  FnOk P w K mg base CX0 2 f fd [qR, "_law_p", "_law_q"] spSteps0:=by
 refine F.okL zct DP;obtain⟨d,ra,rr,st,rfl,R,aI,hG,aP,k⟩:=h;have hu:=zco hr;refine⟨_,zad (JZ zct.nd (za6 (V8 zae)))
  (zad (XH zct.nd (zdn (Z1 (FY (UO bB .nil za3 (zaa (Z6 (pv 0) (pv 2) DU) Ho))))))
  (zad (Ms (zav (op_ne_pairsN (Wq (Wa _) hu)) Rq (Z6 Go zai (λ_ _=>rfl)) rfl)
   (zad (RT Go (Y8 zae))
   (zah (XH zct.nd (zdn (zaa (YI DU) (zaa (UO bB .nil za3 (zaa (Z6 Gu (YI DU) DU) (FY (YI DU)))) zae)))))))
  (zah (zbo Go)))),?_⟩
 obtain⟨L,hL,nd⟩:=good_round hG aI;have gF:=zbh.clo _ hG;have gu:(rsN rr).length=rr.length:=by unfold rsN;rw[List.length_map,List.length_range]
 have rZ:L+1≤1600:=by
  have:=zgm nd (m:=allSt HV) λx hx=>by obtain⟨i,_,rfl⟩:=Qj.mp hx;exact mem_allSt.mpr (itr_st gF aI i)
  unfold Wb.run at this;rw[Qa,Wi]at this;exact Zd this (zbh.steps hG (DR gu aP))
 have bw:∀q:Nat×Nat,VY q→∃(h:q.2<rr.length) (h':q.2<ra.length),q.1∈rr[q.2]∧rr[q.2].length≤900∧Bo q=(q.2,nxt rr[q.2] q.1):=λq hq=>by
  have h1:=(zde (nd_N rr)).mp hq;by_cases h:q.2<rr.length
  ·rw[zfa h]at h1;refine⟨h,by rw[R.len];exact h,h1,?_,by unfold stp;rw[zfa h]⟩;have:=zbh.rows hG _ (zfu h);rw[gu]at this;exact Zd this DH
  rw[zhb h]at h1;cases h1
 have i0:∀x y:V,atI [x,y] ((0:Nat):Int)=some x:=λx y=>zau rfl;have i1:∀x y:V,atI [x,y] ((1:Nat):Int)=some y:=λx y=>zau rfl;have aR  :=sizeLine_eq;refine⟨RV,RV,(DO 2),λt0 fR=>⟨(DO 1),λl hl=>?_⟩⟩;have k1:Keep [] H (upd (ZQ t0 (.tup [iV st.1,iV st.2])) l (.lst [DK t0])):=(D0 fR).trans (D0 hl);have ntl:t0≠l:=zab (o:=_) zac hl;have dU:(upd (ZQ t0 (.tup [iV st.1,iV st.2])) l (.lst [DK t0])) t0=some (.tup [iV st.1,iV st.2]):=by rw[zaf ntl];exact zac
 have bZ:(upd (ZQ t0 (.tup [iV st.1,iV st.2])) l (.lst [DK t0])) l=some (.lst [DK t0]):=zac;have fl:H l=none:=zas (xs:=[]) (D0 fR) hl DI;generalize upd (ZQ t0 (.tup [iV st.1,iV st.2])) l (.lst [DK t0])=H1 at k1 dU bZ;have R1:=R.k0 k1;obtain⟨g1,g2,g3,g4,g5⟩:=bw st aI;refine⟨RV,RV,RV,d,_,_,RV,rfl,SqL.of R1.ls,zau (by rw[Qr,Qb g2];rfl),RV,_,rr[st.2],st.1,rfl,R1.row g2 g1,g3,g4,(DO 2),λt ht=>?_⟩;have e5:[iV st.2,iV (nxt rr[st.2] st.1)]=[iV (Z5 1).1,iV (Z5 1).2]:=by show _=[iV (Bo st).1,iV (Bo st).2];rw[g5]
 rw[e5];have nlt:l≠t:=zab bZ ht;refine⟨λm σ H2=>Ex3 λ(n:Nat) (t:Nc) (as:Nn)=>Aj8 (m=L-n) (n≤L) (σ=[DQ d,FX (iV st.1),FX (iV st.2),DQ l,DQ t]) (Keep [l] H1 H2) (H2 l=some (DX ((t0::as).map V.ref))) (zb7 H2 (t0::as) (JG st (n+1))) (H2 t=some (.tup [iV (Z5 (n+1)).1,iV (Z5 (n+1)).2])) (as.length=n),
  ⟨_,0,t,[],rfl,HY,rfl,D0 ht,DY nlt bZ,Hy (DY (zab dU ht) dU),zac,rfl⟩,?_⟩
 rintro m σ H2 ⟨n,t,as,rfl,hn,rfl,k2,aq,pa,gP,cG⟩;have iI:=k2 _ _ dU (DJ ntl);refine⟨RV,RV,l,_,_,RV,rfl,DW aq,(show atI ((t0::as).map V.ref) ((0:Nat):Int)=some (DK t0) from zau rfl),t,t0,Z5 (n+1),st,rfl,rfl,gP,iI,RV,?_⟩;by_cases he:n=L
 ·subst he;exact za4 (by rw[decide_eq_true hL];rfl) ⟨RV,k l (t0::as) n H2 fl aq pa nd rZ λc o ec _=>k2 c o (k1 _ _ ec DI) (by simpa using BN fl)⟩
 refine zbm (by rw[Gf (round_ne nd (Nat.succ_pos n) DH)];rfl) ?_;have ie:t≠l:=zbf gP aq DS;refine⟨_,λ σ' H' z=>z,RV,DV aq,RV,l,_,RV,rfl,aq,by rw[Qa,Zc];lia,?_⟩;have k3:Keep [l] H1 (QW l FZ):=k2.trans (Keep.wr Qe);have eJ:(QW l FZ) t=some (.tup [iV (Z5 (n+1)).1,iV (Z5 (n+1)).2]):=by rw[zaf ie];exact gP
 have gv:(QW l FZ) l=some (DX ((t0::(as++[t])).map V.ref)):=by rw[zac,←Yq,Qs];rfl
 have kQ:zb7 (QW l FZ) (t0::(as++[t])) (JG st (n+1+1)):=by rw[run_succ,←Yq];refine zb7.snoc (zb7.keep pa λb x y eb=>?_) eJ;rw[zaf (zbf eb aq DS)];exact eb
 generalize QW l FZ=H3 at k3 eJ gv kQ;have nra:∀a∈ra,a≠l:=λa ha=>by obtain⟨j,hj,rfl⟩:=Zb ha;exact zab (R.row hj (by rw[←R.len];exact hj)) fl
 have R3:NAt H3 d ra rr:=R1.keep k3 (by simpa using zab R.ls fl) λa ha=>by simpa using nra a ha
 obtain⟨g1,g2,g3,g4,g5⟩:=bw (Z5 (n+1)) (itr_st gF aI _);refine⟨RV,t,_,_,RV,rfl,HQ eJ,i1 _ _,RV,RV,t,_,_,RV,rfl,HQ eJ,i1 _ _,d,_,_,RV,rfl,SqL.of R3.ls,zau (by rw[Qr,Qb g2];rfl),RV,t,_,_,RV,rfl,HQ eJ,i0 _ _,_,rr[(Z5 (n+1)).2],(Z5 (n+1)).1,rfl,R3.row g2 g1,g3,g4,(DO 2),λt' cj=>?_⟩;have e6:[iV (Z5 (n+1)).2,iV (nxt rr[(Z5 (n+1)).2] (Z5 (n+1)).1)]=[iV (Z5 (n+1+1)).1,iV (Z5 (n+1+1)).2]:=by show _=[iV (Bo (Z5 (n+1))).1,iV (Bo (Z5 (n+1))).2];rw[g5]
 rw[e6];have nF:l≠t':=zab gv cj;exact⟨L-(n+1),DH,n+1,t',as++[t],rfl,DH,rfl,Rf (D0 cj),DY nF gv,zb7.keep kQ λb x y eb=>by rw[zaf (zab eb cj)];exact eb,zac,by rw[Qk,cG];rfl⟩
abbrev sTie:Stmt:=top 29
def inV_nat{x:Nat}{zs:List Nat}:inV (iV x) (zs.map iV)=decide (x∈zs):=by
 unfold inV;rw[Wp,Xr,decide_eq_true_iff];constructor
 ·rintro⟨v,hv,e⟩;obtain⟨z,hz,rfl⟩:=Qj.mp hv;have e:((z:Int)==(x:Int))=true:=e;have:z=x:=Int.ofNat.inj (eq_of_beq e);rw[←this];exact hz
 intro h;exact⟨_,Qj.mpr ⟨x,h,rfl⟩,beq_self_eq_true (x:Int)⟩
def NAt.mem(R:Y' rr)(ha:a∈as):∃r:List Nat,H a=some Ry:=by obtain⟨j,hj,rfl⟩:=Zb ha;exact⟨_,R.row hj (by rw[←R.len];exact hj)⟩
def NAt.set(R:Y' rr){k:Nat}(h:k < as.length)(r:List Nat):NAt (ZQ as[k] Ry) l as (rr.set k r):=by
 have hl:l≠as[k]:=λz=>R.apart (z▸Qm h);refine⟨by rw[zaf hl];exact R.ls,?_,R.nd⟩;have aS:=R.nd;have hr:=R.ro;clear R hl;induction hr generalizing k with
 |nil=>simp at h
 | cons r1 t ih=>
  rename_i a r0 bM aZ;rw[Ze]at aS;cases k with
  | zero=>
   refine .cons zac ?_;show Paired _ bM aZ;refine Paired.imp' (λb r' hb=>hb) ?_;clear ih;have key:∀{xs:Nn} {ys:List HF},Paired (λa r=>H a=some Ry) xs ys→a∉xs→Paired (λb r'=>(Hh a (r.map iV)) b=some (DX (r'.map iV))) xs ys:=by
    intro xs ys hp;induction hp with
    |nil=>intro _;exact .nil
    |cons q t' ih'=>intro hn;rw[Qi,not_or]at hn;exact .cons (DY (Zj hn.1) q) (ih' hn.2)
   exact key t aS.1
  |succ j=>
   have hj:j<bM.length:=by simpa using h
   refine .cons ?_ (ih (k:=j) hj aS.2);show(ZQ bM[j] _) a=_;rw[zaf (λz=>aS.1 (by rw[z];exact Qm hj))];exact r1
def pot_l(h:Du m)(R:Y' rr):l≠p:=zbf R.ls h.1 (by
 intro z;have z':as.map V.ref=[GG b,GG m]:=by injection z
 cases as with
 |nil=>cases z'
 |cons x t=>rw[Ql]at z';injection z' with z1 _;cases z1)
def zb7.mem(r:zb7 H as qs)(ha:a∈as):∃q∈qs,H a=some (.tup [iV q.1,iV q.2]):=by
 induction r with
 |nil=>cases ha
 |cons r t ih=>
  rcases Qi.mp ha with e|e
  ·exact⟨_,Qe,e▸r⟩
  obtain⟨q,h1,h2⟩:=ih e;exact⟨q,WD h1,h2⟩
inductive IspTieD(vs:List V)(H:Hp)(Q:VK):Prop
 |mk (p l:Nc) (b m:Int) (as:Nn) (rr:List (List Nat)) (h0:vs=[.ref p,.ref l]) (h1:Pot H p b m) (h2:NAt H l as rr) (h3:Good (rsN rr)) (h4:0<rr.length) (h5:rr.length≤40) (be:p∉as)
  (h6:∀(b' m':Int) (aZ:Fz Nat) (H':Hp),aZ.length=rr.length→Good (rsN aZ)→WM m'→W9 aZ→Keep (p::as) H H'→Q .non H'):IspTieD vs H Q
def spTieD:Sp:=λvs H Q _=>IspTieD vs H Q
def scTie:zaw [qP,qR, "_law_one", "_law_ahead", "_law_steps_here", "_law_first", "_law_p", "_law_q"] [qP,qR] (zag sTie):=fsk
def ok_tie(F:Z2 "_law_tie" "_law_tie" sTie f fd)(FT:HP)(bT:Z8 fdt [qP,qM] [])(mT:mg qG=some (DK ft))(GT:ZB 1 ft fdt [qP,qM] zf9)(FS:Z2 "_law_steps" "_law_steps" ze7 fs fds)(bS:Z8 fds [qR, "_law_p", "_law_q"] [])(mS:mg "_law_steps" = some (DK fs))(GS:ZB 2 fs fds [qR, "_law_p", "_law_q"] spSteps0)(a9:mg "len" = none):ZB 3 f fd [qP,qR] spTieD:=by
 refine F.okL scTie DP;obtain⟨p,l,b,m,as,rr,rfl,hp,R,hG,bg,ba,be,k⟩:=h;have hu:=zco hr;have eG:=Ki hu;have aV:VE _:=hr.mono DL;have aR  :=sizeLine_eq;refine⟨_,zad (BQ scTie.nd (Hn (FY (RS (ZZ zae)))))
  (zad (zcg (NO (Z4 DU) Hx Hl) (zah ps_retN) za9)
  (zad (JZ scTie.nd (Z6 (Z4 DU) (Hn (zaa (RS (FY (Z4 DU))) zae)) DU))
  (zad (XH scTie.nd (Bm bS .nil za3 (ZZ (QX Hi))))
  (zad (MT scTie.nd (Hn (FY (RS (Y8 zae)))))
  (zah (QE (za2 (Hs (pv 4) (zck (pv 5)))) (Vv (zbg (zbe 6 scTie.nd) (zbg (zbe 7 scTie.nd) zdm)))
   (zah (zcg (PW.pt (zgd (V7 (pv 7) Gy Hl) (zfb (zav zcv (pv 7) (Z4 (λ_ _=>rfl)) rfl))))
    (zad (zax (YX (Z4 DU) (zaa (RU (UX Jj Ji zem (Z4 DU) Rv)) (FY (pv 7)))))
    (zad (zax (YX (Z6 Gs (pv 7) DU) (zaa (RU (UX Jj Ji zem (Z6 Gs (pv 7) DU) (FY (pv 6)))) Hi)))
    (zah ps_retN))) za9)))))))),?_⟩
 have gu:(rsN rr).length=rr.length:=by unfold rsN;rw[List.length_map,List.length_range]
 have cG:=R.len;have nlp:=pot_l hp R;have nap:∀a∈as,a≠p:=λa ha z=>be (z▸ha);have gr:(as.map V.ref).length=rr.length:=by rw[Qa];exact cG
 refine⟨RV,RV,l,RV,Gb (SqL.of R.ls),p,b,m,RV,hp,DH,DH,λj1 b1 m1 H1 cz gw cq kW=>?_⟩;have k1:Keep [p] H H1:=zaz kW;have R1:NAt H1 l as rr:=R.keep k1 Hj λa ha=>by simpa using nap a ha
 obtain⟨one,rfl⟩:=Zg cz;have ho:one<rr.length:=by lia
 have ao:one<as.length:=by lia
 have a1:∀{c:Nat} (h:c<as.length),XX (c:Int)=some (.ref as[c]):=λh=>zau (by rw[Qr,Qb h];rfl);refine⟨RV,RV,l,_,_,RV,rfl,SqL.of R1.ls,a1 ao,(DO 0),λq hq=>?_⟩;have k2:Keep [p] H (QG q Fb):=k1.trans (D0 hq);have aF:Pot (QG q Fb) p b1 m1:=cq.keep (xs:=[]) (D0 hq) DI;have R2:NAt (QG q Fb) l as rr:=R1.k0 (D0 hq);refine⟨as[one],q,RV,rfl,DW (R2.row ao ho),DW zac,RV,?_⟩;generalize QG q Fb=H2 at k2 aF R2;have af:=R2.row ao ho;have d7:∀(b' m':Int) (H':Hp),WM m'→Keep [p] H H'→Q .non H':=λb' m' H' dz k'=>k b' m' rr H' rfl hG dz (R.keep k' Hj λa ha=>by simpa using nap a ha) (k'.sub DI);by_cases he:rr[one]=[]
 ·exact zbm (by rw[he];rfl) (d7 b1 m1 H2 aF k2)
 refine za4 (by cases z:rr[one] with|nil=>exact absurd z he|cons _ _=>rfl) ?_;have eF:rr[one].length≤900:=by have:=zbh.rows hG _ (zfu ho);rw[gu]at this;exact Zd this DH
 have hzp:0<rr[one].length:=Wz.mpr he;have hml1:(rr[one].map iV).length=rr[one].length:=Qa ..;refine⟨RV,RV,l,_,_,RV,rfl,SqL.of R2.ls,a1 ao,RV,RV,RV,l,_,_,RV,rfl,SqL.of R2.ls,a1 ao,as[one],RV,Ht af,p,b1,m1,RV,aF,DH,DH,λj2 b3 m3 H3 jh rl bp jM=>?_⟩;obtain⟨jn,rfl⟩:=Zg jh;have oy:jn<rr[one].length:=by lia
 have k3:Keep [p] H H3:=k2.trans (zaz jM);have R3:MX rr:=R.keep k3 Hj λa ha=>by simpa using nap a ha
 refine⟨as[one],_,_,iV rr[one][jn],rfl,rfl,DW (R3.row ao ho),zau (by rw[Qr,Qb oy];rfl),?_⟩;have mK:rr[one][jn]∈rr[one]:=Qm oy;generalize rr[one][jn]=ah at mK;have aI:VY (ah,one):=(zde (nd_N rr)).mpr (by show ah∈QH one;rw[zfa ho];exact mK);refine⟨RV,RV,RV,l,as,rr,(ah,one),rfl,R3,aI,hG,ba,λt ps n H4 ft ht pa nd hn k4=>?_⟩;have cI:Keep [p] H H4:=k3.trans (k4.sub DI);have bf:=bp.keep k4 DI;have bo:ps.length=n+1:=by have:=Yc pa;unfold Wb.run at this;rwa[Qa,Wi]at this
 have hml2:(ps.map V.ref).length=n+1:=by rw[Qa];exact bo
 have ntp:t≠p:=λz=>by rw[z,bp.1]at ft;cases ft
 refine⟨RV,RV,t,RV,Ht ht,p,b3,m3,RV,bf,DH,DH,λj5 b5 m5 H5 je rg aW dq=>?_⟩;obtain⟨jf,rfl⟩:=Zg je;have hjf:jf≤(ps.map V.ref).length:=by lia
 have k5:Keep [p] H H5:=cI.trans (zaz dq);have qd:=dq _ _ ht ntp;have kO:zb7 H5 ps (JG (ah,one) (n+1)):=zb7.keep pa λb' x' y' eb=>dq _ _ eb (zbf eb bf.1 DS);refine⟨RV,RV,RV,t,RV,DW qd,λs1 jZ=>?_⟩;rw[zey hjf];have lv:(Q2 s1 (DX ((ps.map V.ref).drop jf))) t=some (DX (ps.map V.ref)):=by rw[zaf (zab qd jZ)];exact qd
 refine⟨RV,RV,RV,t,RV,DW lv,λs2 dW=>?_⟩;rw[cut_to hjf];have pA:s1≠s2:=zab (o:=_) zac dW;refine⟨s1,s2,_,RV,rfl,DY pA zac,zac,by rw[Yw,Zi];lia,λs3 hs3=>?_⟩;have k6:Keep [] H5 (upd (upd (Q2 s1 (DX ((ps.map V.ref).drop jf))) s2 (DX ((ps.map V.ref).take jf))) s3 (DX ((ps.map V.ref).drop jf++(ps.map V.ref).take jf))):=((D0 jZ).trans (D0 dW)).trans (D0 hs3);have gp:(upd (upd (Q2 s1 (DX ((ps.map V.ref).drop jf))) s2 (DX ((ps.map V.ref).take jf))) s3 (DX ((ps.map V.ref).drop jf++(ps.map V.ref).take jf))) s3=some (DX ((ps.map V.ref).drop jf++(ps.map V.ref).take jf)):=zac;have hvs:∀v∈(ps.map V.ref).drop jf++(ps.map V.ref).take jf,∃a∈ps,v=.ref a:=λv hv=>by
  rcases Qg.mp hv with z|z
  ·obtain⟨a,ha,rfl⟩:=Qj.mp (Wl z);exact⟨a,ha,rfl⟩
  obtain⟨a,ha,rfl⟩:=Qj.mp (Wc z);exact⟨a,ha,rfl⟩
 generalize(ps.map V.ref).drop jf++(ps.map V.ref).take jf=vs at gp hvs k6;generalize upd (upd (Q2 s1 (DX ((ps.map V.ref).drop jf))) s2 (DX ((ps.map V.ref).take jf))) s3 (DX vs)=H6 at k6 gp;have eB:Keep [p] H H6:=k5.trans (k6.sub DI);have di:=aW.keep k6 DI;have R6:NAt H6 l as rr:=R.keep eB Hj λa ha=>by simpa using nap a ha
 have pa6:zb7 H6 ps (JG (ah,one) (n+1)):=zb7.keep kO λb' x' y' eb=>k6 _ _ eb DI;have aw:=R6.row ao ho;refine⟨s3,rfl,⟨_,DW gp⟩,zb3 (xs:=vs) (λi σ H'=>Aj2 (Ex2 λx6 x7=>σ=[DQ p,DQ l,HG one,HG ah,DQ t,HG jf,x6,x7]) (H'=H6)) ⟨⟨_,_,rfl⟩,rfl⟩ (λi σ H' _ hh=>hh.2▸SqL.of gp) ?_ ?_⟩
 ·rintro i v σ H' hv ⟨⟨x6,x7,rfl⟩,rfl⟩;obtain⟨a,ha,rfl⟩:=hvs v (Yy hv);obtain⟨⟨x,y⟩,hxy,hta⟩:=pa6.mem ha;obtain⟨n',_,e'⟩:=Qj.mp hxy;refine⟨a,RV,HQ hta,rfl,_,RV,_,RV,rfl,RV,RV,rfl,RV,?_⟩;by_cases o4:y=one
  ·subst o4;exact za4 DI (iteF ⟨⟨_,_,rfl⟩,rfl⟩)
  refine zbm (by simpa using λz=>o4 DH) ⟨RV,RV,RV,l,_,_,RV,rfl,Rp,a1 ao,as[one],RV,Ht aw,rfl,zdq _,RV,?_⟩;rw[inV_nat];by_cases gj:y∈rr[one]
  ·exact za4 (by rw[decide_eq_true gj];rfl) ⟨⟨_,_,rfl⟩,rfl⟩
  refine zbm (by rw[decide_eq_false gj];rfl) ?_;obtain⟨i1,i2⟩:=zgv mK;have oB:rr[one].idxOf ah<rr[one].length:=Je.mpr mK;refine⟨RV,RV,l,_,_,RV,rfl,Rp,a1 ao,DV aw,RV,RV,l,_,_,RV,rfl,Rp,a1 ao,DV aw,RV,as[one],_,_,RV,rfl,aw,rfl,zdq _,i1,i2,_,RV,rfl,RV,as[one],_,_,rr[one].idxOf ah+1,rfl,by rw[show((rr[one].idxOf ah+1:Nat):Int)=(rr[one].idxOf ah:Int)+1 by lia],aw,Fo,Fo,?_⟩;have iK:VY (x,y):=e'▸itr_st (zbh.clo _ hG) aI n';have lb:=(zde (nd_N rr)).mp iK;have hy:y<rr.length:=Wd λz=>by have gl:x∈QH y:=lb;rw[zhb z]at gl;cases gl
  have dR:y<as.length:=by lia
  have lb:x∈rr[y]:=by have gl:x∈QH y:=lb;rwa[zfa hy]at gl
  have hyl:rr[y].length≤900:=by have:=zbh.rows hG _ (zfu hy);rw[gu]at this;exact Zd this DH
  have e1:(rr[one].map iV).take (rr[one].idxOf ah+1)++iV y::(rr[one].map iV).drop (rr[one].idxOf ah+1)=(ins rr[one] (FX ah) y).map iV:=by rw[←Wu,←Ur,←Ql,←Qs];rfl
  rw[e1];have R7:=R6.set ao (ins rr[one] (FX ah) y);have k7:Keep (p::as) H (YQ as[one] (DX ((ins rr[one] (FX ah) y).map iV))):=(eB.sub DI).trans (Keep.wr (WD (Qm ao)));have aK:Pot (YQ as[one] (DX ((ins rr[one] (FX ah) y).map iV))) p b5 m5:=di.keep (xs:=[as[one]]) FQ (by simpa using Zj (nap _ (Qm ao)));generalize YQ as[one] (DX ((ins rr[one] (FX ah) y).map iV))=H7 at R7 k7 aK;have hy7:y<(rr.set one (ins rr[one] (FX ah) y)).length:=by rw[Yd];exact hy
  have aU:=R7.row dR hy7;rw[Jg (Zj o4)]at aU;obtain⟨i3,i4⟩:=zgv lb;have az:rr[y].idxOf x<rr[y].length:=Je.mpr lb;refine⟨RV,RV,l,_,_,RV,rfl,SqL.of R7.ls,a1 dR,DV aU,RV,RV,l,_,_,RV,rfl,SqL.of R7.ls,a1 dR,DV aU,RV,as[y],_,_,RV,rfl,aU,rfl,zdq _,i3,i4,_,RV,rfl,RV,as[y],_,_,rr[y].idxOf x+1,rfl,by rw[show((rr[y].idxOf x+1:Nat):Int)=(rr[y].idxOf x:Int)+1 by lia],aU,Fo,Fo,?_⟩;have e2:(rr[y].map iV).take (rr[y].idxOf x+1)++iV one::(rr[y].map iV).drop (rr[y].idxOf x+1)=(ins rr[y] (FX x) one).map iV:=by rw[←Wu,←Ur,←Ql,←Qs];rfl
  rw[e2];have hg:=zbh.tie HV ah (one,rr[one]) n' hG (zfu ho) mK (DR e' o4) (DR e' gj);rw[e']at hg;have hg:Good (zb0 (zb0 HV one (ins rr[one] (FX ah) y)) y (ins (QH y) (FX x) one)):=hg;rw[zfa hy,set_N,set_N]at hg;exact k b5 m5 _ _ (by rw[Yd,Yd]) hg (aK.keep (xs:=[as[y]]) FQ (by simpa using Zj (nap _ (Qm dR)))) (R7.set dR _) (k7.trans (Keep.wr (WD (Qm dR))))
 rintro σ H' ⟨⟨x6,x7,rfl⟩,rfl⟩;exact d7 b5 m5 H' di eB
end
end K21
namespace Wb
def good_turn{α:Type}[DecidableEq α]{rs ph:Rs α}(h:Good rs)(hn:ph.map (·.1)=rs.map (·.1))(hr:∀x,∃k,row ph x=(JR x).drop k++(JR x).take k):Good ph:=by obtain⟨cs,lab,C⟩:=h;exact⟨cs,lab,zgz C (by rw[hn]) hr⟩
def idx_at{zs:List Nat}(nd:zs.Nodup){i:Nat}(h:i<zs.length):zs.idxOf zs[i]=i:=
 (Wh (h₀:=Je.mpr (Qm h)) (h₁:=h) nd).mp (Uv _)
def leaf_N{rr:List HF}(hG:Good HV){o j:Nat}(ho:o < rr.length)(hj:j≤rr[o].length) :
  Good (rsN (((rr++[[]]).set rr.length [o]).set o (rr[o].take j++rr.length::rr[o].drop j))):=by
 have hx:rr.length∉(rsN rr).map (·.1):=by rw[zb2];exact λz=>Yv _ (Yi.mp z)
 have fX:rr.length≠o:=We ho;have base:∀c,(∀y,c=some y→y∈rr[o])→(c=none→rr[o]=[])→Good (rsN (((rr++[[]]).set rr.length [o]).set o (ins rr[o] c rr.length))):=λc h1 h2=>by have:=zbh.leaf HV rr.length (o,rr[o]) c hG hx (zfu ho) h1 h2;have this:Good (zb0 (zb0 (rsN rr++[(rr.length,[])]) o (ins rr[o] c rr.length)) rr.length [o]):=this;rw[←snoc_N,set_N,set_N,List.set_comm _ _ (Zj fX)]at this;exact this
 by_cases hz:rr[o]=[]
 ·have:=base none (λy z=>by cases z) λ_=>hz;have e:rr[o].take j++rr.length::rr[o].drop j=ins rr[o] none rr.length:=by rw[hz];simp[ins]
  rw[e];exact this
 have nd:rr[o].Nodup:=(zbh.sub _ hG _ (zfu ho)).1;cases j with
 |succ i=>
  have hi:i<rr[o].length:=hj;have:=base (some rr[o][i]) (λy z=>by cases z;exact Qm hi) λz=>by cases z
  have e:ins rr[o] (some rr[o][i]) rr.length=rr[o].take Fj++rr.length::rr[o].drop Fj:=by show rr[o].take (rr[o].idxOf rr[o][i]+1)++rr.length::rr[o].drop (rr[o].idxOf rr[o][i]+1)=_;rw[Dv hi]
  rw[e]at this;exact this
 | zero=>
  have hp:0<rr[o].length:=Wz.mpr hz;have hi:rr[o].length-1<rr[o].length:=by lia
  have hg:=base (some rr[o][rr[o].length-1]) (λy z=>by cases z;exact Qm hi) λz=>by cases z
  have e:ins rr[o] (some rr[o][rr[o].length-1]) rr.length=rr[o]++[rr.length]:=by show rr[o].take (rr[o].idxOf rr[o][rr[o].length-1]+1)++rr.length::rr[o].drop (rr[o].idxOf rr[o][rr[o].length-1]+1)=_;rw[Dv hi,show rr[o].length-1+1=rr[o].length by lia,List.take_length,List.drop_length]
  rw[e]at hg;refine good_turn hg (by rw[zb2,zb2];simp) λx=>?_;have bZ:(((rr++[[]]).set rr.length [o]).set o (rr[o]++[rr.length])).length=rr.length+1:=by simp
  have aq:(((rr++[[]]).set rr.length [o]).set o (rr[o].take 0++rr.length::rr[o].drop 0)).length=rr.length+1:=by simp
  by_cases o7:x<rr.length+1
  ·rw[zfa (by rw[aq];exact o7),zfa (by rw[bZ];exact o7)];by_cases pP:x=o
   ·subst pP;rw[List.getElem_set_self,List.getElem_set_self];exact⟨rr[x].length,by rw[List.drop_left,List.take_left];rfl⟩
   rw[Jg (Zj pP),Jg (Zj pP)];exact⟨0,DI⟩
  rw[zhb (by rw[aq];exact o7),zhb (by rw[bZ];exact o7)];exact⟨0,rfl⟩
def new_N{rr:List HF}(hG:Good HV):Good (rsN (rr++[[]])):=by rw[snoc_N];exact zbh.new _ _ hG (by rw[zb2];exact λz=>Yv _ (Yi.mp z))
def nil_N:Good (rsN []):=zbh.nil
end Wb
namespace K21
open PySem L2 Wb
abbrev zh2:Stmt:=top 30
def NAt.snoc(R:Y' rr)(he:H e=some Fb)(aD:e∉as)(dY:l≠e):NAt (Hh l (as.map V.ref++[DK e])) l (as++[e]) (rr++[[]]):=by
 refine⟨by rw[zac,Qs];rfl,?_,?_⟩
 ·have rT:=R.apart;have hr:=R.ro;clear R;induction hr with
  |nil=>exact .cons (DY (Zj dY) he) .nil
  | cons r t ih=>
   rw[Qi,not_or]at rT aD;refine .cons (DY (Zj rT.1) r) ?_;have key:∀{zs:List V} {xs:Nn} {ys:List HF},Paired (λa r=>H a=some Ry) xs ys→l∉xs→Paired (λa r=>(Hh l zs) a=some Ry) (xs++[e]) (ys++[[]]):=by
    intro zs xs ys hp;induction hp with
    |nil=>intro _;exact .cons (DY (Zj dY) he) .nil
    |cons q t' ih'=>intro hn;rw[Qi,not_or]at hn;exact .cons (DY (Zj hn.1) q) (ih' hn.2)
   exact key t rT.2
 rw[Zo];exact⟨R.nd,Ze.mpr ⟨DI,Yh⟩,λa ha b hb z=>aD (by rw[←Qc.mp hb,←z];exact ha)⟩
inductive zho(vs:List V)(H:Hp)(Q:VK):Prop
 |mk (p:Nc) (b m:Int) (n:Nat) (h0:vs=[.ref p,iV n]) (h1:Pot H p b m) (h2:n≤40)
  (h3:∀(l:Nc) (as:Nn) (rr:Fz Nat) (b' m':Int) (H':Hp),W9 rr→Good HV→rr.length≤40→WM m'→p∉as→H l=none→(∀a∈as,H a=none)→Keep [p] H H'→Q Hw H'):zho vs H Q
def spRoundsD:Sp:=λvs H Q _=>zho vs H Q
section
variable{P:Nk}{w:Nl}{K:Nb}{mg:Ng}{base:Np}
def zeg:zaw [qP, "_law_most",qR, "_law_k",qO] [qP, "_law_most"] (zag zh2):=fsk
def ok_rounds(F:Z2 "_law_rounds" "_law_rounds" zh2 f fd)(FT:HP)(bT:Z8 fdt [qP,qM] [])(mT:mg qG=some (DK ft))(GT:ZB 1 ft fdt [qP,qM] zf9)(FI:Z2 "_law_tie" "_law_tie" sTie fi fdi)(bI:Z8 fdi [qP,qR] [])(mI:mg "_law_tie" = some (DK fi))(GI:ZB 3 fi fdi [qP,qR] spTieD)(a9:mg "len" = none)(bE:mg "range" = none):ZB 4 f fd [qP, "_law_most"] spRoundsD:=by
 refine F.okL zeg DP;obtain⟨p,b,m,n,rfl,hp,hn,k⟩:=h;have hu:=zco hr;have aV:VE _:=hr.mono DL;have aR  :=sizeLine_eq;refine⟨_,zad (BQ zeg.nd Hx)
  (zad (QE (Bp (zaa (Hn (FY (RU (pv 1)))) zae)) (N6 zeg.nd)
   (zad (RT Gy (FY Hx))
   (zah (zcg (PW.pt (zgd (BZ Go zai Hl) (zfb (BZ (Hn (QO zae)) zai Hl))))
    (zad (XH zeg.nd (Hn (QX zae)))
    (zad (RT (Z6 Gy Go DU) (Y8 zae))
    (zah (zax (YX (Z6 Gy Rq DU) (zaa (Hn (zaa (RU (RS (FY (Z6 (pv 2) (pv 4) DU)))) zae)) Rv)))))) za9))))
  (zad (QE (Bp (zaa (ZU bT .nil za3 (ZP (zaa (Z6 (za6 (QO (zaa (RU (RS Hi)) (FY (RU (KI zai (RS (Z1 zae))))))))
     (ZU bT .nil za3 (ZP (QO zae))) DU) zae))) zae)) (N6 zeg.nd)
   (zah (zax (zan GI hr rfl mI FI.kp bI .nil za3 (ZP Hi)))))
  (zah (zbo Gy)))),?_⟩
 refine⟨(DO 0),λl hl=>?_⟩;have k1:Keep [p] H (ZQ l Fb):=Keep.new hl;have cq:Pot (ZQ l Fb) p b m:=hp.keep (xs:=[]) (D0 hl) DI;have nlp:l≠p:=Zj (zab hp.1 hl);have R1:NAt (ZQ l Fb) l [] []:=⟨zac,.nil,Yh⟩;generalize ZQ l Fb=H1 at k1 cq R1;refine⟨RV,RV,_,RV,rfl,p,b,m,RV,cq,DH,DH,λj2 b2 m2 H2 jh rl aF il=>?_⟩;have k2:Keep [p] H H2:=k1.trans (zaz il);have R2:NAt H2 l [] []:=R1.keep (zaz il) Hj λa ha=>by cases ha
 obtain⟨many,rfl⟩:=Zg jh;have hmany:many≤40:=by lia
 refine⟨RV,DH,DH,zc4 (lo:=0) (λi σ H'=>Aj3 (Ex2 λx3 x4=>σ=[DQ p,HG n,DQ l,x3,x4]) (Keep [p] H H') (Ex4 λ(as:Nn) (rr:Fz Nat) (b' m':Int)=>Ve (rr.length=i) (WM m') (p∉as) (∀a∈as,H a=none))) ⟨⟨_,_,rfl⟩,k2,[],[],b2,m2,R2,nil_N,rfl,aF,DI,λa ha=>by cases ha⟩ ?_ ?_⟩
 ·rintro i σ H3 hi ⟨⟨x3,x4,rfl⟩,k3,as,rr,b3,m3,R3,mZ,ba,bp,be,cF⟩;have hi40:rr.length<40:=by lia
  refine⟨RV,.inl ⟨rfl,_,SqL.of R3.ls⟩,(DO 0),λe he=>?_⟩;have R4:NAt (QN e Fb) l as rr:=R3.k0 (D0 he);have he4:(QN e Fb) e=some Fb:=zac;have dY:l≠e:=zab R3.ls he;have aD:e∉as:=λz=>by obtain⟨r,hr⟩:=R3.mem z;rw[he]at hr;cases hr
  have nep:e≠p:=Zj (zab bp.1 he);have feH:H e=none:=zas k3 he (DJ nep);have gr:(as.map V.ref).length=rr.length:=by rw[Qa];exact R3.len
  refine⟨l,_,RV,rfl,R4.ls,DH,?_⟩;have R5:=R4.snoc he4 aD dY;have k5:Keep [p] H (upd (QN e Fb) l (DX (as.map V.ref++[DK e]))):=λc u ec hc=>by have h1:=k3 c u ec hc;rw[zaf (λz=>by rw[z,hl]at ec;cases ec),zaf (zab h1 he)];exact h1
  have aW:Pot (upd (QN e Fb) l (DX (as.map V.ref++[DK e]))) p b3 m3:=(bp.keep (xs:=[]) (D0 he) DI).keep (xs:=[l]) FQ (by simpa using Zj nlp);generalize upd (QN e Fb) l (DX (as.map V.ref++[DK e]))=H5 at R5 k5 aW;have cp:p∉as++[e]:=λz=>by
   rcases Qg.mp z with y|y
   ·exact be y
   exact nep (Qc.mp y).symm
  have gA:∀a∈as++[e],H a=none:=λa ha=>by
   rcases Qg.mp ha with y|y
   ·exact cF a y
   rw[Qc.mp y];exact feH
  have fe:(rr++[[]]).length=i+1:=by rw[Qk,ba];rfl
  have stop:∀(x3 x4:Option V) (b' m':Int) (H':Hp),WM m'→NAt H' l (as++[e]) (rr++[[]])→Keep [p] H H'→Aj3 (Ex2 λy3 y4=>[FX (V.ref p),HG n,DQ l,x3,x4]=[FX (V.ref p),HG n,DQ l,y3,y4]) (Keep [p] H H') (Ex4 λ(as:Nn) (rr:Fz Nat) (b' m':Int)=>Ve (rr.length=i+1) (WM m') (p∉as) (∀a∈as,H a=none)):=λx3 x4 b' m' H' dz R' k'=>⟨⟨_,_,rfl⟩,k',_,_,b',m',R',new_N mZ,fe,dz,cp,gA⟩;refine⟨RV,_,RV,rfl,RV,?_⟩;by_cases hi0:i=0
  ·exact za4 (Gf DH) (iteF (stop _ _ b3 m3 H5 aW R5 k5))
  refine zbm (Gv DH) ⟨RV,p,b3,m3,6,rfl,aW,DL,DL,λj6 b6 m6 H6 _ _ di nM=>⟨_,_,rfl,rfl,_,rfl,?_⟩⟩;have k6:Keep [p] H H6:=k5.trans (zaz nM);have dm:∀a∈as++[e],a≠p:=λa ha z=>cp (z▸ha);have R6:NAt H6 l (as++[e]) (rr++[[]]):=R5.keep (zaz nM) Hj λa ha=>by simpa using dm a ha
  cases decide (j6>0) with
  |false=>exact iteF (stop _ _ b6 m6 H6 di R6 k6)
  |true=>
   refine iteT ⟨RV,RV,p,b6,m6,RV,di,DH,DH,λj7 b7 m7 H7 r9 hj71 aK nK=>?_⟩;obtain⟨ot,rfl⟩:=Zg r9;have qx:ot<rr.length:=by lia
   have k7:Keep [p] H H7:=k6.trans (zaz nK);have R7:NAt H7 l (as++[e]) (rr++[[]]):=R6.keep (zaz nK) Hj λa ha=>by simpa using dm a ha
   have cG:as.length=rr.length:=R3.len;have lR:rr.length<(as++[e]).length:=by rw[Qk,cG];exact Wa _
   have hkR:rr.length<(rr++[[]]).length:=by rw[Qk];exact Wa _
   have a1:∀{c:Nat} (h:c<(as++[e]).length),atI ((as++[e]).map V.ref) (c:Int)=some (.ref (as++[e])[c]):=λh=>zau (by rw[Qr,Qb h];rfl);have ei:(0:Int)+(i:Int)=((rr.length:Nat):Int):=by lia
   have aU:=R7.row lR hkR;have e0:(rr++[[]])[rr.length]'hkR=[]:=by simp
   rw[e0]at aU;refine⟨RV,RV,l,_,_,.ref (as++[e])[rr.length],rfl,rfl,SqL.of R7.ls,(by rw[ei];exact a1 lR),DV aU,RV,_,_,RV,rfl,aU,DL,?_⟩;have k8:Keep [p] H (Bq (as++[e])[rr.length] (DX ([ot].map iV))):=λc u ec hc=>by rw[zaf (λz=>by rw[z,gA _ (Qm lR)]at ec;cases ec)];exact k7 c u ec hc
   have R8:=R7.set lR [ot];have kb:Pot (Bq (as++[e])[rr.length] (DX ([ot].map iV))) p b7 m7:=aK.keep (xs:=[(as++[e])[rr.length]]) FQ (by simpa using Zj (dm _ (Qm lR)));rw[show List.map iV ([]:List Nat)++[V.int (ot:Int)]=[ot].map iV from rfl];generalize Bq (as++[e])[rr.length] (DX ([ot].map iV))=H8 at k8 R8 kb;have cQ:ot<(as++[e]).length:=by lia
   have lG:ot<((rr++[[]]).set rr.length [ot]).length:=by rw[Yd];lia
   have df:=R8.row cQ lG;have e8:((rr++[[]]).set rr.length [ot])[ot]'(lG)=rr[ot]:=by rw[Jg DH,List.getElem_append_left qx]
   rw[e8]at df;have qz:rr[ot].length≤900:=by have:=zbh.rows mZ _ (zfu qx);rw[show(rsN rr).length=rr.length by unfold rsN;rw[List.length_map,List.length_range]]at this;exact Zd this DH
   have hml8:(rr[ot].map iV).length=rr[ot].length:=Qa ..;refine⟨RV,RV,l,_,_,RV,rfl,SqL.of R8.ls,a1 cQ,DV df,RV,RV,RV,l,_,_,RV,rfl,SqL.of R8.ls,a1 cQ,_,RV,Ht df,_,RV,rfl,p,b7,m7,RV,kb,DH,DH,λj9 b9 m9 H9 r8 hj91 hp9 pH=>?_⟩;obtain⟨jn,rfl⟩:=Zg r8;have oy:jn≤rr[ot].length:=by lia
   have ly:=pH _ _ df (dm _ (Qm cQ));refine⟨RV,_,_,_,jn,rfl,rfl,ly,DH,DH,?_⟩;have R9:NAt H9 l (as++[e]) ((rr++[[]]).set rr.length [ot]):=R8.keep (zaz pH) Hj λa ha=>by simpa using dm a ha
   have e9:(rr[ot].map iV).take jn++V.int (0+(i:Int))::(rr[ot].map iV).drop jn=(rr[ot].take jn++rr.length::rr[ot].drop jn).map iV:=by rw[ei,Qs,Ql,Wu,Ur]
   rw[e9];refine⟨⟨_,RV⟩,λc u ec hc=>?_,as++[e],_,b9,m9,R9.set cQ _,leaf_N mZ qx oy,by rw[Yd,Yd];exact fe,hp9.keep (xs:=[(as++[e])[ot]]) FQ (by simpa using Zj (dm _ (Qm cQ))),cp,gA⟩;rw[zaf (λz=>by rw[z,gA _ (Qm cQ)]at ec;cases ec)];exact(k8.trans (zaz pH)) c u ec hc
 rintro σ H3 ⟨⟨x3,x4,rfl⟩,k3,as,rr,b3,m3,R3,mZ,ba,bp,be,cF⟩;have gr:(as.map V.ref).length=rr.length:=by rw[Qa];exact R3.len
 refine⟨RV,RV,l,RV,Gb (SqL.of R3.ls),_,RV,rfl,RV,l,RV,Gb (SqL.of R3.ls),_,RV,rfl,Gb ⟨DL,DL⟩,_,RV,rfl,(DO 3),λq hq=>?_⟩;have k4:Keep [] H3 (QN q Fs):=Keep.new hq;have om:(QN q Fs) q=some Fs:=zac;have nqp:q≠p:=Zj (zab bp.1 hq);generalize QN q Fs=H4 at k4 om;have bf:=bp.keep k4 DI;refine⟨RV,p,b3,m3,3,rfl,bf,DL,DL,λj5 b5 m5 H5 je rg aW dq=>?_⟩;have fV:=dq _ _ om nqp;obtain⟨v,hv,hv1,hv2,hv3⟩:∃v:Int,atI [Rx 1,Rx (((as.map V.ref).length:Int)+1),Rx (3*((as.map V.ref).length:Int)+1)] j5=some (GG v)∧0<v∧v≤121∧(rr.length=0→v=1):=by
  obtain⟨jn,rfl⟩:=Zg je;have:jn=0∨jn=1∨jn=2:=by lia
  rcases this with rfl|rfl|rfl
  ·exact⟨_,zau rfl,DL,DL,λ_=>rfl⟩
  ·exact⟨_,zau rfl,DH,DH,λz=>by lia⟩
  exact⟨_,zau rfl,DH,DH,λz=>by lia⟩
 refine⟨q,_,_,GG v,rfl,rfl,DW fV,hv,p,b5,m5,v,rfl,aW,hv1,DH,λj6 b6 m6 H6 rf hj61 di nM=>?_⟩;have k6:Keep [p] H3 H6:=(k4.sub DI).trans ((zaz dq).trans (zaz nM));have nap:∀a∈as,a≠p:=λa ha z=>be (z▸ha);have R6:NAt H6 l as rr:=R3.keep k6 Hj λa ha=>by simpa using nap a ha
 obtain⟨jn,rfl⟩:=Zg rf;refine⟨RV,DH,DH,zc4 (lo:=0) (λi σ H'=>Aj3 (Ex2 λx3 x4=>σ=[DQ p,HG n,DQ l,x3,x4]) (Keep [p] H H') (Ex3 λ(aZ:Fz Nat) (b' m':Int)=>Vf (aZ.length=rr.length) (WM m'))) ⟨⟨_,_,rfl⟩,Rf k6,rr,b6,m6,R6,mZ,rfl,di⟩ ?_ ?_⟩
 ·rintro i σ H7 hi ⟨⟨y3,y4,rfl⟩,k7,aZ,b7,m7,R7,jz,aG,aK⟩;refine⟨RV,RV,p,l,b7,m7,as,aZ,rfl,aK,R7,jz,DH,DH,be,λb8 m8 pi H8 qX sd kb R8 k8=>⟨⟨_,RV⟩,λc u ec hc=>k8 c u (k7 c u ec hc) λz=>?_,pi,b8,m8,R8,sd,qX.trans aG,kb⟩⟩;rcases Qi.mp z with y|y
  ·exact hc (by rw[y];exact Qc.mpr rfl)
  rw[cF c y]at ec;cases ec
 rintro σ H7 ⟨⟨y3,y4,rfl⟩,k7,aZ,b7,m7,R7,jz,aG,aK⟩;exact⟨RV,k l as aZ b7 m7 H7 R7 jz DH aK be hl cF k7⟩
end
end K21
namespace L2
open PySem PySem.Spec PyProof.Rows
theorem picks_to(cs:List Nat):∀b:Nat,b≤cs.length→(GY b).filterMap (cs[·]?)=cs.take b
 |0,_=>by simp
 |b+1,h=>by rw[Xy,List.filterMap_append,picks_to cs b DH,Qo DH];simp[Qb (show b<cs.length by lia)]
def indices_to{b n:Nat}(h:b≤n):BT (some (b:Int)) 1 n=List.range b:=by
 have:=PySem.StrLaws.strSliceIndices_plain (a:=0) (b:=b) (len:=n) HY h;have e:BT (some (b:Int)) 1 n=PySem.Builtin.Str.strSliceIndices (FX ((0:Nat):Int)) (some (b:Int)) 1 n:=by unfold PySem.Builtin.Str.strSliceIndices;simp;rw[show max (0:Int) (min 0 (n:Int))=0 by lia]
 rw[e,this];simp
section
variable{X:Cx}
def sl_strP:SlR X (λx lo hi H Q=>Ex2 λ(z:Str) (j:Nat)=>Aj6 (x=.str z) (lo=none) (hi=some (j:Int)) (j≤z.length) (z.length≤sizeLine) (∀y:Str,y.cps.toList=z.cps.toList.take j→Q (GH y) H)):=by
 intro a6 s σ H x v vl vu lo hi sl Q I rx hs pl pu h;obtain⟨z,j,rfl,rfl,rfl,hj,hz,q⟩:=h;obtain⟨t,rfl⟩:=rx;cases pl;cases pu;rename_i tj;have hi:=indices_to hj;have a9:z.cps.toList.length=z.length:=by simp[Str.length]
 refine⟨"str",_,PySem.F.slot_str_getitem.lookup,typeIs_str s z t,wpAny_getItem_str_slice (l:=none) (u:=some ((j:Int),tj)) (st:=none) hs rfl ?_⟩;have e1:slicePicked z none (FX ((j:Int),tj)) none=List.range j:=hi;unfold sliceMade;rw[e1];split
 ·rename_i hc;have cY:j=z.length:=by simpa using hc
  exact⟨GH z,H,I,⟨t,rfl⟩,q z (by rw[cY,←a9,List.take_length])⟩
 refine⟨?_,⟨GH _,H,Gr,⟨_,rfl⟩,q _ ?_⟩⟩
 ·show ((GY j).filterMap (z.cps[·]?)).toArray.size≤sizeLine;rw[Qp];exact Zd (List.length_filterMap_le ..) (by rw[Wi];exact Zd hj hz)
 show ((GY j).filterMap (z.cps[·]?)).toArray.toList=_;rw[List.toList_toArray];have:=picks_to z.cps.toList j (DR a9 hj);rw[←this];simp
end
end L2
namespace K21
open PySem L2 Wb
abbrev sCount:Stmt:=top 25
abbrev sNames:Stmt:=top 26
def cntF(ls:List Nat):Nat→Nat→List Nat
 |0,_=>[]
 |f+1,n=>if n=0 then[] else cntF ls f ((n-1)/ls.length)++[ls.getD ((n-1)%ls.length) 0]
theorem cntF_zero(ls:List Nat):∀f,cntF ls f 0=[]
 |0=>rfl
 |_+1=>rfl
inductive IspCount(vs:List V)(H:Hp)(Q:VK):Prop
 |mk(n:Nat)(ls:Str)(h0:vs=[iV n,.str ls])(h1:n≤1000)(h2:2≤ls.length)(h3:ls.length≤1000)(h4:∀z:Str,z.cps.toList=cntF ls.cps.toList n n→Q (.str z) H)
def spCount:Sp:=λvs H Q _=>IspCount vs H Q
def str_len(z:Str):z.cps.toList.length=z.length:=by simp[Str.length]
def zih(a b:Str):(a++b).cps.toList=a.cps.toList++b.cps.toList:=by show(a.cps++b.cps).toList=_;simp
def app_len(a b:Str):(a++b).length=a.length+b.length:=by rw[←str_len,←str_len,←str_len,zih,Qk]
section
variable{P:Nk}{w:Nl}{K:Nb}{mg:Ng}{base:Np}
def zh0:zaw ["_law_number", "_law_letters", "_law_name"] ["_law_number", "_law_letters"] (zag sCount):=fsk
def ok_count(F:Z2 "_law_counted" "_law_counted" sCount f fd)(a9:mg "len" = none):ZB 1 f fd ["_law_number", "_law_letters"] spCount:=by
 refine F.okL zh0 DP;obtain⟨n,ls,rfl,hn,aq,gv,k⟩:=h;have aR:=sizeLine_eq;refine⟨_,zad (BQ zh0.nd zel)
  (zad (Ms (BZ Gu zai Hl)
   (zad (BQ zh0.nd (zaq zff (zay ix_str Gs (WX (K' Gu zai) (Mo D4 a9 Zl Ho)) DU) Gy))
   (zah (zar 0 zh0.nd (Vd (K' Gu zai) (Mo D4 a9 Zl Ho))))))
  (zah (zbo Gy))),?_⟩
 have ja:=str_len ls;refine⟨λm σ H'=>Ex3 λ(c f:Nat) (z:Str)=>Aj6 (m=c) (σ=[HG c,Ri ls,Ri z]) (H'=H) (c≤f) (XY f c++z.cps.toList=XY n n) (z.length+c≤n),
  ⟨n,n,n, "",rfl,rfl,rfl,D9,by simp;rfl,by show 0+n≤n;lia⟩,?_⟩
 rintro m σ H' ⟨c,f,z,rfl,rfl,rfl,hcf,he,eF⟩;refine⟨RV,_,RV,rfl,RV,?_⟩;by_cases h0:m=0
 ·subst h0;refine za4 (Gf DH) ?_;rw[cntF_zero]at he;exact⟨RV,k z he⟩
 refine zbm (Gv DH) ?_;cases f with
 |zero=>lia
 |succ f=>
  have e1:(m:Int)-1=((m-1:Nat):Int):=by lia
  have cu:(m-1)%ls.length<ls.length:=XA DH;have bK:atI ls.cps.toList (((m:Int)-1)%(ls.length:Int))=some (ls.cps.toList.getD ((m-1)%ls.length) 0):=by rw[e1,←Int.natCast_emod];refine zau ?_;rw[Qn,Qb (DR ja cu)];rfl
  refine⟨_,λ σ' H' z=>z,RV,RV,_,RV,rfl,RV,RV,DH,_,RV,rfl,by show(0:Int)<(ls.length:Int);lia,_,_,RV,rfl,DH,bK,RV,_,RV,rfl,by show 1+z.length≤sizeLine;lia,RV,_,RV,rfl,RV,RV,DH,_,RV,rfl,⟨DH,DH⟩,?_⟩;have e2:((m:Int)-1)/(ls.length:Int)=(((m-1)/ls.length:Nat):Int):=by rw[e1];exact(Int.natCast_ediv ..).symm
  have dY:(m-1)/ls.length≤m-1:=Nat.div_le_self _ _;rw[e2];refine⟨(m-1)/ls.length,DH,(m-1)/ls.length,f,RV,rfl,rfl,DH,?_,?_⟩
  ·rw[← he,zih];show cntF _ f _++([_]++_)=(if m=0 then[] else XY f ((m-1)/ls.cps.toList.length)++[ls.cps.toList.getD ((m-1)%ls.cps.toList.length) 0])++_;rw[if_neg h0,ja,Qq]
  rw[app_len];show 1+z.length+(m-1)/ls.length≤n;lia
def zcw(j:Nat):Str:=[("ab" : Str), "za", "xyz", "qn"].getD j "ab"
def nmF(way many first nn:Nat)(tl:List Nat)(k:Nat):List Nat:=
 if way=0∧many≤26 then[97+(first+nn*k)%676%26]
 else if way=1 then cntF (zcw (tl.length%4)).cps.toList (1+(first+nn*k)%97) (1+(first+nn*k)%97)
 else[97+(first+nn*k)%676/26,97+(first+nn*k)%676%26]++tl.take ((first+k)%(tl.length+1))
def cnt_nd:∀j<4,((GY 97).map λi=>cntF (zcw j).cps.toList (1+i) (1+i)).Nodup:=by decide+kernel
def cnt_ok:∀j<4,∀i<97,1≤(cntF (zcw j).cps.toList (1+i) (1+i)).length∧(cntF (zcw j).cps.toList (1+i) (1+i)).length≤8∧∀c∈cntF (zcw j).cps.toList (1+i) (1+i),97≤c∧c≤122:=by decide+kernel
def cnt_inj{j a b:Nat}(hj:j<4)(ha:a<97)(hb:b<97)(h:cntF (zcw j).cps.toList (1+a) (1+a)=cntF (zcw j).cps.toList (1+b) (1+b)):a=b:=by refine(Wh (h₀:=by rw[Qa,Wi];exact ha) (h₁:=by rw[Qa,Wi];exact hb) (cnt_nd j hj)).mp ?_;rw[Zr,Zr,Ke,Ke];exact h
def byS:List Nat:=[1,3,5,7,9,25,27,675]
def by_inj{b f a c:Nat}(hb:b∈byS)(ha:a<40)(hc:c<40)(h:(f+b*a)%676=(f+b*c)%676):a=c:=by simp[byS]at hb;rcases hb with rfl|rfl|rfl|rfl|rfl|rfl|rfl|rfl<;>omega
def by_inj97{b f a c:Nat}(hb:b∈byS)(ha:a<40)(hc:c<40)(h:(f+b*a)%97=(f+b*c)%97):a=c:=by simp[byS]at hb;rcases hb with rfl|rfl|rfl|rfl|rfl|rfl|rfl|rfl<;>omega
def by_inj26{b f a c:Nat}(hb:b∈byS)(ha:a<26)(hc:c<26)(h:(f+b*a)%676%26=(f+b*c)%676%26):a=c:=by simp[byS]at hb;rcases hb with rfl|rfl|rfl|rfl|rfl|rfl|rfl|rfl<;>omega
def nm_inj{way many f b a c:Nat}{tl:List Nat}(hb:b∈byS)(hm:many≤40)(ha:a<many)(hc:c<many)(h:WY a=WY c):a=c:=by
 unfold nmF at h;split at h
 ·rename_i z;have h:97+(f+b*a)%676%26=97+(f+b*c)%676%26:=by injection h
  exact by_inj26 (f:=f) hb DH DH DH
 split at h
 ·exact by_inj97 hb DH DH (cnt_inj (XA DL) (XA DL) (XA DL) h)
 rw[Yq,Yq,Yq,Yq]at h;injection h with h1 h2;injection h2 with h2 _;exact by_inj (f:=f) hb DH DH DH
def nm_ok{way many f b k:Nat}{tl:List Nat}(ht:tl.length≤6)(hc:∀c∈tl,97≤c∧c≤122):1≤(WY k).length∧(WY k).length≤8∧∀c∈WY k,97≤c∧c≤122:=by
 unfold nmF;split
 ·refine⟨D9,by show 1≤8;decide,λc h=>?_⟩;rw[Qc.mp h];lia
 split
 ·exact cnt_ok _ (XA DL) _ (XA DL)
 refine⟨DI,by simp[Zi];lia,λc h=>?_⟩;rw[Yq,Yq,Kv,Qi,Qi]at h;rcases h with h|h|h
 ·lia
 ·lia
 exact hc c (Wc h)
def cnt_not:∀j<4,∀i<97,cntF (zcw j).cps.toList (1+i) (1+i)≠("nobody" : Str).cps.toList:=by decide+kernel
def nm_not{way many f b k:Nat}{tl:List Nat}(ht:∀ c t,tl=c::t→c=110):WY k≠("nobody" : Str).cps.toList:=by
 have e:("nobody" : Str).cps.toList=[110,111,98,111,100,121]:=rfl;unfold nmF;split
 ·rw[e];simp
 split
 ·exact cnt_not _ (XA DL) _ (XA DL)
 rw[e];intro h;rw[Yq,Yq,Kv]at h;injection h with _ h;injection h with _ h;cases tl with
 |nil=>simp at h
 |cons c t=>
  have:=ht c t rfl;cases hk:(f+k)%((c::t).length+1) with
  |zero=>rw[hk]at h;simp at h
  |succ n=>rw[hk,List.take_succ_cons]at h;injection h with h _;lia
inductive zit(vs:List V)(H:Hp)(Q:VK):Prop
 |mk(p:Nc)(b m:Int)(n:Nat)(h0:vs=[.ref p,iV n])(h1:Pot H p b m)(h2:n≤40)(h3:∀(l:Nc) (zs:Nj) (b' m':Int) (H':Hp),H' l=some (.lst (zs.map V.str))→zs.length=n→zs.Nodup→(∀z∈zs,zc7 z∧z ≠ "nobody")→Pot H' p b' m'→H l=none→Keep [p] H H'→Q (.ref l) H')
def spNames:Sp:=λvs H Q _=>zit vs H Q
def zcy:zaw [qP,qM, "_law_letters", "_law_first", "_law_by", "_law_tail", "_law_way", "_law_found", "_law_k", "_law_at", "_law_name"] [qP,qM] (zag sNames):=fsk
def ok_names(F:Z2 "_law_names" "_law_names" sNames f fd)(FT:HP)(bT:Z8 fdt [qP,qM] [])(mT:mg qG=some (DK ft))(GT:ZB 1 ft fdt [qP,qM] zf9)(FC:Z2 "_law_counted" "_law_counted" sCount fc fdc)(bC:Z8 fdc ["_law_number", "_law_letters"] [])(mC:mg "_law_counted" = some (DK fc))(GC:ZB 1 fc fdc ["_law_number", "_law_letters"] spCount)(a9:mg "len" = none)(bE:mg "range" = none):ZB 2 f fd [qP,qM] spNames:=by
 refine F.okL zcy DP;obtain⟨p,b,m,n,rfl,hp,hn,k⟩:=h;have aR:=sizeLine_eq;refine⟨_,zad (BQ zcy.nd zel)
  (zad (JZ zcy.nd Hb)
  (zad (XH zcy.nd (Z6 (za6 (QO (QO (QO (QO (QO (QO (QO (QO zae))))))))) Hb DU))
  (zad (MT zcy.nd (zb8 sl_strP zel zcd (zck Hb)))
  (zad (Da zcy.nd Hb)
  (zad (zar 7 zcy.nd Hx)
  (zad (QE (Bp Ho) (zbe 8 zcy.nd)
   (zad (zar 9 zcy.nd (WX (QU Go (KI Rq (pv 8))) zai))
   (zah (zcg (PW.pt (zgd (V0 (pv 6) zai Hl) (zfb (zav op_le Gs zai Hl))))
    (zah (RT (pv 7) (FY (X2 DU))))
    (zah (zcg (V0 (pv 6) zai Hl)
     (zah (RT (pv 7) (zaa (zan GC hr rfl mC FC.kp bC .nil za3 (zaa (QU zai (WX (QU Go (KI Rq (pv 8))) zai)) (FY (Z6 (za6 (Dg (Dg (Dg (Dg zae))))) (WX (Mo D4 a9 Zl (UY zae)) zai) DU)))) zae)))
     (zad (zar 10 zcy.nd (zaq zff (zay ix_str Gy (Vd (pv 9) zai) DU) (X2 DU)))
     (zah (RT (pv 7) (FY (zaq zff (pv 10) (zb8 sl_strP Rr zcd (zck (WX (QU (pv 3) (pv 8)) (RU (Mo D4 a9 Zl (UY zae)))))))))))))))))
  (zah (zbo (pv 7))))))))),?_⟩
 refine⟨RV,p,b,m,676,rfl,hp,DL,DL,λd1 b1 m1 H1 jA si cq kW=>⟨(DO 8),λq hq=>?_⟩⟩;have k2:Keep [p] H (QG q Fv):=(zaz kW).trans (D0 hq);have aF:Pot (QG q Fv) p b1 m1:=cq.keep (xs:=[]) (D0 hq) DI;have cD:(QG q Fv) q=some Fv:=zac;have nqp:q≠p:=Zj (zab cq.1 hq);generalize QG q Fv=H2 at k2 aF cD;obtain⟨f,rfl⟩:=Zg jA;refine⟨RV,p,b1,m1,8,rfl,aF,DL,DL,λd3 b3 m3 H3 h30 h31 bp jM=>?_⟩;have hq3:=jM _ _ cD nqp;have k3:=k2.trans (zaz jM);obtain⟨bb,bK,oJ⟩:∃bb:Nat,atI [Rx 1,Rx 3,Rx 5,Rx 7,Rx 9,Rx 25,Rx 27,V.int 675] d3=some (iV bb)∧bb∈byS:=by
  obtain⟨jn,rfl⟩:=Zg h30;have hj:jn<8:=by lia
  have:∀j:Fin 8,∃bb∈byS,[Rx 1,Rx 3,Rx 5,Rx 7,Rx 9,Rx 25,Rx 27,V.int 675][j.1]?=some (iV bb):=by decide
  obtain⟨bb,h1,h2⟩:=this ⟨jn,hj⟩;exact⟨bb,zau h2,h1⟩
 have hbb2:bb≤675:=by
  have:∀x∈byS,x≤675:=by decide
  exact this bb oJ
 refine⟨q,_,_,iV bb,rfl,rfl,DW hq3,bK,RV,p,b3,m3,7,rfl,bp,DL,DL,λd4 b4 m4 H4 h40 h41 bf ik=>?_⟩;obtain⟨j4,rfl⟩:=Zg h40;have k4:=k3.trans (zaz ik);refine⟨RV,_,j4,rfl,rfl,rfl,by show j4≤6;lia,DL,λtl iG=>?_⟩;have qa:tl.cps.toList.length≤6:=by rw[iG,Zi];lia
 have q5:∀c∈tl.cps.toList,97≤c∧c≤122:=λc hc=>by
  rw[iG]at hc;have:∀x∈("nqxbkw" : Str).cps.toList,97≤x∧x≤122:=by decide+kernel
  exact this c (Wc hc)
 have qb:∀c t,tl.cps.toList=c::t→c=110:=λc t ht=>by
  rw[iG]at ht;cases j4 with
  |zero=>cases ht
  |succ j=>rw[show("nqxbkw" : Str).cps.toList=110::[113,120,98,107,119] from rfl,List.take_succ_cons]at ht;injection ht with h _;exact h.symm
 have lp:=str_len tl;refine⟨RV,p,b4,m4,3,rfl,bf,DL,DL,λd5 b5 m5 H5 h50 h51 aW dq=>?_⟩;obtain⟨wy,rfl⟩:=Zg h50;have k5:=k4.trans (zaz dq);refine⟨(DO 0),λl hl=>?_⟩;have k6:Keep [p] H (Q2 l Fb):=k5.trans (D0 hl);have nlp:l≠p:=Zj (zab aW.1 hl);have flH:H l=none:=zas k5 hl Hj;have di:Pot (Q2 l Fb) p b5 m5:=aW.keep (xs:=[]) (D0 hl) DI;have hl6:(Q2 l Fb) l=some (DX (([]:List Str).map V.str)):=zac;generalize Q2 l Fb=H6 at k6 di hl6;refine⟨RV,(n:Int),rfl,DH,DH,?_⟩;rw[Ju];refine zc4 (lo:=0) (λi σ H'=>Aj4 (Ex3 λx8 x9 kI=>σ=[DQ p,HG n,Ri zdo,HG f,HG bb,Ri tl,HG wy,DQ l,x8,x9,kI]) (Keep [p] H H') (Pot H' p b5 m5) (Ex1 λzs:List Str=>Aj2 (H' l=some (DX Gj)) (zs.map (·.cps.toList)=(GY i).map (XM tl.cps.toList)))) ⟨⟨_,_,_,rfl⟩,k6,di,[],hl6,rfl⟩ ?_ ?_
 ·rintro i σ H7 hi ⟨⟨x8,x9,kI,rfl⟩,k7,aK,zs,aG,eD⟩;have eF:zs.length=i:=by have:=congrArg List.length eD;rwa[Qa,Qa,Wi]at this
  have fin:∀(y8 y9 y10:Option V) (z:Str) (H8:Hp),Keep [] H7 H8→z.cps.toList=XM tl.cps.toList i→Aj4 (Ex3 λx8 x9 kI=>[FX (V.ref p),HG n,Ri zdo,HG f,HG bb,Ri tl,HG wy,DQ l,y8,y9,y10]=[FX (V.ref p),HG n,Ri zdo,HG f,HG bb,Ri tl,HG wy,DQ l,x8,x9,kI]) (Keep [p] H (J8 l (DX (zs.map V.str++[GH z])))) (Pot (J8 l (DX (zs.map V.str++[GH z]))) p b5 m5) (Ex1 λbz:List Str=>Aj2 ((J8 l (DX (zs.map V.str++[GH z]))) l=some (DX (bz.map V.str))) (bz.map (·.cps.toList)=(GY Fj).map (XM tl.cps.toList))):=λy8 y9 y10 z H8 k8 hz=>⟨⟨_,_,_,rfl⟩,λc u ec hc=>by rw[zaf (BN flH)];exact k8 _ _ (k7 c u ec hc) DI,(aK.keep k8 DI).keep (xs:=[l]) FQ (by simpa using Zj nlp),zs++[z],by rw[zac,Qs];rfl,by rw[Qs,eD,Xy,Qs,Ql,Ql,hz];rfl⟩;have e9:((f:Int)+(bb:Int)*(0+(i:Int)))%676=(((f+bb*i)%676:Nat):Int):=by rw[Xx,←Int.natCast_mul,←Int.natCast_add];rfl
  have e97:((f:Int)+(bb:Int)*(0+(i:Int)))%97=(((f+bb*i)%97:Nat):Int):=by rw[Xx,←Int.natCast_mul,←Int.natCast_add];rfl
  refine⟨RV,RV,RV,_,RV,rfl,Gb ⟨DH,DH⟩,_,RV,rfl,_,RV,rfl,DL,?_⟩;rw[e9];have hat6:(f+bb*i)%676<676:=XA DL;have qK:(((f+bb*i)%676:Nat):Int)%26=(((f+bb*i)%676%26:Nat):Int):=rfl;have gR:XU ((((f+bb*i)%676:Nat):Int)%26)=some (97+(f+bb*i)%676%26):=by rw[qK];exact letter_at DH DH
  refine⟨RV,rfl,RV,?_⟩;have cJ:(zs.map V.str).length<sizeLine:=by rw[Qa];lia
  by_cases hA:wy=0∧n≤26
  ·exact zbm (Gv (by rw[hA.1];rfl)) ⟨_,rfl,_,_,rfl,rfl,_,rfl,zbm (Gv DH) ⟨RV,DV aG,RV,RV,_,RV,rfl,DL,_,_,RV,rfl,zd6,gR,l,_,RV,rfl,aG,cJ,fin _ _ _ _ H7 Keep.refl (by unfold nmF;rw[if_pos hA])⟩⟩
  have hc:(wy=0∧¬n≤26)∨wy≠0:=by lia
  rcases hc with⟨hw,hn26⟩|hw;refine zbm (Gv (by rw[hw];rfl)) ⟨_,rfl,_,_,rfl,rfl,_,rfl,za4 (Gf DH) ?_⟩
  rotate_left
  refine za4 (decide_eq_false (λz=>hw (by injection z;lia))) (iteF ?_)
  all_goals
   refine⟨RV,rfl,RV,?_⟩;by_cases h1:wy=1
   ·refine zbm (Gv (by rw[h1];rfl)) ⟨RV,DV aG,RV,RV,RV,_,RV,rfl,Gb ⟨DH,DH⟩,_,RV,rfl,_,RV,rfl,DL,_,RV,rfl,(DO 4),λq8 hq8=>?_⟩;have rj:tl.length%4<4:=XA DL;have rR:atI [V.str "ab",V.str "za",V.str "xyz",V.str "qn"] ((tl.length:Int)%4)=some (GH (zcw (tl.length%4))):=by
     rw[show(tl.length:Int)%4=((tl.length%4:Nat):Int) from rfl];have:∀j:Fin 4,[V.str "ab",V.str "za",V.str "xyz",V.str "qn"][j.1]?=some (GH (zcw j.1)):=by decide
     exact zau (this ⟨_,rj⟩)
    have gS:∀j<4,2≤(zcw j).length∧(zcw j).length≤1000:=by decide+kernel
    have k8:Keep [] H7 (Bq q8 (.lst [.str "ab",.str "za",.str "xyz",.str "qn"])):=Keep.new hq8;exact⟨RV,tl,rfl,DH,_,RV,rfl,DL,q8,_,_,GH (zcw (tl.length%4)),rfl,rfl,DW zac,rR,1+(f+bb*i)%97,zcw (tl.length%4),by rw[e97];rfl,by have:=Wj (f+bb*i) (show 0<97 by decide);lia,(gS _ rj).1,(gS _ rj).2,λz hz=>⟨l,_,RV,rfl,k8 _ _ aG DI,cJ,fin _ _ _ z _ k8 (by unfold nmF;rw[if_neg hA,if_pos h1,lp];exact hz)⟩⟩
   refine za4 (decide_eq_false (λz=>h1 (by injection z;lia))) ?_;have qQ:XU ((((f+bb*i)%676:Nat):Int)/26)=some (97+(f+bb*i)%676/26):=by rw[show(((f+bb*i)%676:Nat):Int)/26=(((f+bb*i)%676/26:Nat):Int) from rfl];exact letter_at DH DH
   refine⟨RV,RV,_,RV,rfl,⟨DL,DL⟩,_,_,RV,rfl,zd6,qQ,RV,RV,_,RV,rfl,DL,_,_,RV,rfl,zd6,gR,_,RV,rfl,by show 1+1≤sizeLine;decide,?_⟩;have hjm:(f+i)%(tl.length+1)<tl.length+1:=XA (Nat.succ_pos _);refine⟨RV,DV aG,RV,RV,RV,RV,_,RV,rfl,RV,tl,rfl,DH,_,RV,rfl,_,RV,rfl,by show(0:Int)<(tl.length:Int)+1;lia,RV,tl,(f+i)%(tl.length+1),rfl,rfl,by rw[Xx];rfl,DH,DH,λy hy=>?_⟩;have hyl:y.length≤6:=by rw[←str_len,hy,Zi];lia
   exact⟨_,RV,rfl,by rw[app_len];show 1+1+y.length≤sizeLine;lia,l,_,RV,rfl,aG,cJ,fin _ _ _ _ H7 Keep.refl (by unfold nmF;rw[if_neg hA,if_neg h1,zih,zih,hy,lp];rfl)⟩
 rintro σ H7 ⟨⟨x8,x9,kI,rfl⟩,k7,aK,zs,aG,eD⟩;have eF:zs.length=n:=by have:=congrArg List.length eD;rwa[Qa,Qa,Wi]at this
 refine⟨RV,k l zs b5 m5 H7 aG eF ?_ (λz hz=>?_) aK flH k7⟩
 ·refine nodup_of_map (f:=λz:Str=>z.cps.toList) ?_;rw[eD];exact zgl λa ha c hc h=>nm_inj oJ hn ha hc h
 have:z.cps.toList∈(GY n).map (XM tl.cps.toList):=by rw[← eD];exact Qj.mpr ⟨z,hz,rfl⟩
 obtain⟨j,_,e⟩:=Qj.mp this;have:=nm_ok (way:=wy) (many:=n) (f:=f) (b:=bb) (k:=j) qa q5;rw[e]at this;have fX:=nm_not (way:=wy) (many:=n) (f:=f) (b:=bb) (k:=j) qb;rw[e]at fX;exact⟨⟨by rw[←str_len];exact this.1,by rw[←str_len];exact this.2.1,this.2.2⟩,λz=>fX (by rw[z])⟩
end
end K21
namespace Wb
section
variable{α β:Type}[DecidableEq α][DecidableEq β]{ns:List α}{r:α→List α}{f:α→β}
def sy_map(hf:∀x y,f x=f y→x=y)(C:Sy ns r){r':β→List β}(hr:∀x,r' (f x)=(r x).map f)(fU:∀y,(∀x,y≠f x)→r' y=[]):Sy (ns.map f) r':=by
 have hm:∀{y z},z∈r' y→∃x w,y=f x∧z=f w∧w∈r x:=λ{y z} h=>by
  by_cases hy:∃x,y=f x
  ·obtain⟨x,rfl⟩:=hy;rw[hr]at h;obtain⟨w,hw,rfl⟩:=Qj.mp h;exact⟨x,w,rfl,rfl,hw⟩
  rw[fU y λx e=>hy ⟨x,e⟩]at h;cases h
 have lN:∀{l:List α},l.Nodup→(l.map f).Nodup:=λnd=>Wv.mpr (nd.imp λh e=>h (hf _ _ e));refine⟨lN C.nd,λy hy=>?_,λy=>?_,λy h=>?_,λx y h=>?_⟩
 ·cases e:r' y with
  |nil=>rfl
  |cons z t=>obtain⟨x,w,rfl,_,hw⟩:=hm (y:=y) (z:=z) (DR e Qe);refine absurd (Qj.mpr ⟨x,Wd λq=>?_,rfl⟩) hy;rw[C.ro x q]at hw;cases hw
 ·by_cases hy:∃ x,y=f x
  ·obtain⟨x,rfl⟩:=hy;rw[hr];exact lN (C.rn x)
  rw[fU y λx e=>hy ⟨x,e⟩];exact Yh
 ·obtain⟨x,w,e1,e2,hw⟩:=hm h;have:=hf _ _ (e1.symm.trans e2);subst this;exact C.ir _ hw
 obtain⟨a,w,rfl,rfl,hw⟩:=hm h;rw[hr];exact Qj.mpr ⟨_,KH hw,rfl⟩
end
end Wb
namespace L2
open PySem PySem.Spec PyProof.Rows
section
variable{X:Cx}
theorem fm_some{β γ:Type}{f:β→Option γ}{g:β→γ}:∀{l:List β},(∀x∈l,f x=some (g x))→l.filterMap f=l.map g
 |[],_=>rfl
 |a::t,h=>by rw[List.filterMap_cons,h a Qe,Ql,fm_some λx hx=>h x (WD hx)]
def pick_rev(a8:Ni):slicePick a8.toArray none none (FX (-1))=a8.reverse.toArray:=by
 unfold slicePick sliceBounds;simp only[Option.getD_some,show ¬((-1:Int)>0) by decide,if_false,Qp];congr 1;unfold sliceRange;simp only[show ¬((-1:Int)>0) by decide,if_false];have hc:(if((a8.length:Int)-1) > -1 then(((a8.length:Int)-1) - -1 - -1-1)/(- -1) else 0).toNat=a8.length:=by
  split
  ·rw[show(- (-1:Int))=1 from rfl,Int.ediv_one];lia
  lia
 rw[hc,List.filterMap_map];have hk:∀k∈List.range a8.length,((a8.toArray[·]?)∘λ(k:Nat)=>(((a8.length:Int)-1)+-1*(k:Int)).toNat) k=some (a8.reverse.getD k .none):=λk hk=>by
  have hk:=Yi.mp hk;have e:(((a8.length:Int)-1)+-1*(k:Int)).toNat=a8.length-1-k:=by lia
  show a8.toArray[(((a8.length:Int)-1)+-1*(k:Int)).toNat]?=_;rw[e,List.getElem?_toArray,Qn,List.getElem?_reverse hk];rw[Qb DH];rfl
 rw[fm_some hk];apply List.ext_getElem
 ·simp
 intro i h1 h2;have h3:i<a8.reverse.length:=h2;rw[Zr,Ke,Qn,Qb h3];rfl
def pe_rev(he:Z9 e te):Z9 (.Subscript e Ro pos) (λ σ H Q=>te σ H λx H1=>Ex2 λa xs=>Aj3 (x=.ref a) (SqL X.K H1 a xs) (∀p,H1 p=none→Q HU (QG p (.lst xs.reverse)))):=by intro a6 s σ H Q I h;refine Subscript_ (thn He λv s1 ⟨x,H1,I1,r1,a,xs,ex,hx,q⟩=>?_);subst ex;cases r1;refine wpAny_Slice (thn (zcd (X:=X) a6 s1 σ H1 (λo H'=>o=none∧H'=H1) I1 ⟨rfl,rfl⟩) λvl s2 ⟨l,H2,I2,pl,el,eh⟩=>?_);subst el;subst eh;refine thn (zcd (X:=X) a6 s2 σ H2 (λo H'=>o=none∧H'=H2) I2 ⟨rfl,rfl⟩) λvu s3 ⟨l,H3,I3,pu,el,eh⟩=>?_;subst el;subst eh;refine thn (zck (X:=X) (pe_un un_neg (zai (X:=X))) a6 s3 σ H3 (λo H'=>o=some (-1)∧H'=H3) I3 ⟨_,rfl,_,rfl,rfl,rfl⟩) λvs s4 ⟨l,H4,I4,ps,el,eh⟩=>?_;subst el;subst eh;have I5:ZA H4 {s4 with heap:=s4.heap.push {cls:=.type "slice",data:=.fields #[vl,vu,vs]}}:=I4.kept (t':=s4.toks) λb ob q=>Q5 q;obtain⟨a8,r,ht,hz⟩:=I5.list hx;have a9:=r.length;show ZF (subscriptTail e Ro Gq (.ref s4.heap.objs.size)) (QB Q) X.xe {s4 with heap:=s4.heap.push {cls:=.type "slice",data:=.fields #[vl,vu,vs]}};refine tail_any (ops:=[Gq,.ref s4.heap.objs.size]) ht.isList.typeIs slot_list_getitem.lookup ?_ (by with_unfolding_all rfl);refine XQ (Heap.IsSliceOf.new ..) pl pu ps DL ?_ (by rw[Qp]<;>exact zdx ‹_› ‹_›);rw[pick_rev];refine⟨DK _,_,I5.laid (t':=s4.toks) (o:=.lst xs.reverse) (λb ob q=>Q5 q) D9 ?_,rfl,q _ (I5.hok.fresh D9)⟩;exact⟨by rw[List.length_reverse];exact hz,_,0,r.reverse,Re⟩
def lc_map{K:Nb}{g:TG}{te:TE}{Q:VK}{a:Nc}{τ:St}{H:Hp}{xs:List V}(T:St→Prop)(f:V→V)(ha:W0 xs)(hn:xs.length≤sizeLine)(h0:T τ)(hs:∀x∈xs,∀τ,T τ→∀k:V→St→Hp→Prop,(∀τ2,T τ2→k (f x) τ2 H)→g x τ H λ τ2 H2=>te τ2 H2 λy H4=>k y τ2 H4)(q:∀D,H D=none→Q GJ (Hh D (xs.map f))):VO H:=by
 refine⟨λi m ys τ H1=>Aj5 (H1=H) (T τ) (m=xs.length-i) (i≤xs.length) (ys=(xs.take i).map f),⟨_,rfl,h0,rfl,HY,rfl⟩,?_⟩;rintro i m ys τ H1 ⟨rfl,ht,rfl,hi,rfl⟩;by_cases aa:i<xs.length
 ·refine .inr ⟨⟨xs,xs[i],ha,Qb aa⟩,by rw[Qa,Zi];lia,?_⟩;rintro x H' ⟨rfl,hx⟩;have cc:=hx xs ha;rw[Qb aa]at cc;have iw:xs[i]=x:=Qw cc;exact hs x (iw▸Qm aa) τ ht (λy τ2 H4=>∃m',m'<xs.length-i∧Aj5 (H4=H') (T τ2) (m'=xs.length-Fj) (i+1≤xs.length) ((xs.take i).map f++[y]=(xs.take Fj).map f)) λ τ2 h2=>⟨_,FE,rfl,h2,rfl,aa,by rw[Qo aa,Qs,iw];rfl⟩
 have e:i=xs.length:=by exact zar3 ‹_› ‹_›
 subst e;refine .inl ⟨⟨xs,ha,D9⟩,λD hD=>?_⟩;rw[Qt D9];exact q D hD
end
end L2
namespace K21
open PySem L2 Wb
def zhc{α β:Type}{R:α→β→Prop}{as:List α}{bs:List β}(h:WQ as bs):WQ as.reverse bs.reverse:=by
 induction h with
 |nil=>exact .nil
 |cons h t ih=>rw[Xh,Xh];exact zap ih (Hy h)
end K21
namespace Wb
def zbt(zs:List PySem.Str)(k:Nat):PySem.Str:=zs.getD k ⟨#[200+k]⟩
open K21 in
def nameN_inj{zs:List PySem.Str}(nd:zs.Nodup)(ok:∀ z∈zs,zc7 z)(a b:Nat)(h:UZ a=UZ b):a=b:=by
 unfold zbt at h;rw[Qn,Qn]at h;have bad:∀(i j:Nat) (hi:i<zs.length),zs[i]≠(⟨#[200+j]⟩:PySem.Str):=λi j hi e=>by have:=(ok _ (Qm hi)).2.2 (200+j) (DR e Qe);lia
 by_cases ha:a<zs.length
 ·rw[Qb ha]at h;by_cases hb:b<zs.length
  ·rw[Qb hb]at h;exact(Wh nd).mp h
  rw[Wt DH]at h;exact absurd h (bad a b ha)
 rw[Wt DH]at h;by_cases hb:b<zs.length
 ·rw[Qb hb]at h;exact absurd h.symm (bad b a hb)
 rw[Wt DH]at h;have h:(⟨#[200+a]⟩:PySem.Str)=⟨#[200+b]⟩:=h;have:200+a=200+b:=by have:=congrArg (λz:PySem.Str=>z.cps.toList) h;have:[200+a]=[200+b]:=this;injection this
 lia
def nameN_lt{zs:List PySem.Str}{k:Nat}(h:k<zs.length):UZ k=zs[k]:=by unfold zbt;rw[Qn,Qb h];rfl
def rsZ(rr:Fz Nat)(zs:List PySem.Str):Rs PySem.Str:=(List.range rr.length).map λk=>(UZ k,(rr.getD k []).map RQ)
open K21 in
def good_Z{rr:List HF}{zs:List PySem.Str}(hG:Good HV)(nd:zs.Nodup)(ok:∀z∈zs,zc7 z):∃cs lab,Cert ((List.range rr.length).map RQ) (row (rsZ rr zs)) cs lab:=by
 obtain⟨cs,lab,C⟩:=hG;rw[zb2]at C;have inj:=nameN_inj nd ok;have hn:(rsZ rr zs).map (·.1)=(List.range rr.length).map RQ:=by unfold rsZ;rw[List.map_map];rfl
 have aS:((rsZ rr zs).map (·.1)).Nodup:=by rw[hn];exact Wv.mpr (Xp.imp λh e=>h (inj _ _ e))
 refine(sy_map (f:=zbt zs) inj C.s (λx=>?_) λy hy=>?_).cert
 ·by_cases hx:x < rr.length
  ·rw[zfa hx];refine(zfr aS (p:=(UZ x,(rr.getD x []).map RQ)) (Qj.mpr ⟨x,Yi.mpr hx,rfl⟩)).trans ?_;rw[Qn,Qb hx];rfl
  rw[zhb hx];refine ze9 ?_;rw[hn];intro z;obtain⟨y,hy,e⟩:=Qj.mp z;rw[inj _ _ e]at hy;exact hx (Yi.mp hy)
 refine ze9 ?_;rw[hn];intro z;obtain⟨x,_,e⟩:=Qj.mp z;exact hy x e.symm
end Wb
namespace K21
open PySem L2 Wb
abbrev sRows:Stmt:=top 31
abbrev sDrawn:Stmt:=top 35
inductive zis(vs:List V)(H:Hp)(Q:VK):Prop
 |mk (p l nl:Nc) (b m:Int) (as:Nn) (rr:List (List Nat)) (zs:Nj) (h0:vs=[.ref p,.ref l,.ref nl]) (h1:Pot H p b m) (h2:NAt H l as rr) (h3:Good (rsN rr)) (h4:rr.length≤40) (h5:H nl=some (.lst (zs.map V.str))) (h5':zs.length=rr.length) (h5n:zs.Nodup) (h5k:∀z∈zs,zc7 z∧z ≠ "nobody") (be:p∉as)
  (h6:∀(t:Nc) (bs:Nn) (es:List Ent) (cs:Fz (Str×Str)) (lab:Nx) (b' m':Int) (H':Hp),Mp t bs es→Cert FG Gd cs lab→es.length≤40→(∀e∈es,zc7 e.1∧e.1 ≠ "nobody")→(∀e∈es,H e.2.2=none)→WM m'→Keep [p] H H'→Q (DK t) H'):zis vs H Q
def spRowsD:Sp:=λvs H Q _=>zis vs H Q
abbrev csW:Scope:=scOf (eOf (bAt (sAt sRows 1) 0))
def csW_k:csW.kind=.function:=by rfl
def csW_c:∀y∈csW.names,y.2≠.cell:=by decide+kernel
def csW_n:∀y∈csW.names,y.2=.local→csW.names.lookup y.1=some .local:=by decide+kernel
def csW_f:∀y∈csW.names,y.2=.free→(zag sRows).names.lookup y.1=some .cell∨(zag sRows).names.lookup y.1=some .free:=by decide+kernel
def csW_l:csW.names.lookup (qN:Str)=some NameKind.free:=by decide+kernel
def ndW:([qO,qN]:List Str).Nodup:=by decide+kernel
abbrev TurnZ(rr:Fz Nat)(zs:Nj):List Ent→List Nat→Prop:=Paired λe k=>e.1=UZ k∧∃j,e.2.1=((rr.getD k []).map RQ).drop j++((rr.getD k []).map RQ).take j
def names_Z(h:J4 es ks):es.map (·.1)=ks.map RQ:=by
 induction h with
 |nil=>rfl
 |cons h _ ih=>rw[Ql,Ql,ih,h.1]
def cert_Z{rr:List HF}{zs:Nj}{es:List Ent}{ks:List Nat}(hG:Good HV)(nd:zs.Nodup)(ok:∀z∈zs,zc7 z)(h:J4 es ks)(hk:ks.Perm RP):∃cs lab,Cert FG Gd cs lab:=by
 obtain⟨cs,lab,C⟩:=good_Z hG nd ok;refine⟨cs,lab,zgz C (by rw[names_Z h];exact hk.map _) ?_⟩;have e:rsZ rr zs=rsOf ((List.range rr.length).map λk=>((UZ k,(rr.getD k []).map RQ,0):Ent)):=by unfold rsZ rsOf;rw[List.map_map];rfl
 rw[e];refine ze4 (es2:=ks.map λk=>((UZ k,(rr.getD k []).map RQ,0):Ent)) ?_ (hk.map _) ?_
 ·clear hk e;induction h with
  |nil=>exact .nil
  |cons h _ ih=>exact .cons h ih
 rw[Zq];exact Wv.mpr (Xp.imp λh e=>h (nameN_inj nd ok _ _ e))
section
variable{P:Nk}{w:Nl}{K:Nb}{mg:Ng}{base:Np}
def zfp:zaw [qP,qR,qN, "_law_rows_here", "_law_k", "_law_around", "_law_far"] [qP,qR,qN] (zag sRows):=fsk
def ok_rows(F:Z2 "_law_rows" "_law_rows" sRows f fd)(FT:HP)(bT:Z8 fdt [qP,qM] [])(mT:mg qG=some (DK ft))(GT:ZB 1 ft fdt [qP,qM] zf9)(a9:mg "len" = none)(bE:mg "range" = none):ZB 2 f fd [qP,qR,qN] spRowsD:=by
 refine F.okL zfp DP;obtain⟨p,l,nl,b,m,as,rr,zs,rfl,hp,R,hG,ba,oq,eF,de,dQ,be,k⟩:=h;have hu:=zco hr;have aR:=sizeLine_eq;refine⟨_,zad (JZ zfp.nd Hx)
  (zad (QE (Bp (FY (RS Ho))) (zbe 4 zfp.nd)
   (zad (ps_lc (i:=5) (M:=[qO,qN]) (ix:=[none,FX 2]) zfp.nd rfl rfl ⟨csW_k,csW_c,csW_n,csW_f,rfl,ndW,λj i x h1 h2=>by
      match j,h1,h2 with
      |0,_,h2=>cases h2
      |1,h1,h2=>cases h1;cases h2;exact⟨rfl,csW_l⟩
      |n+2,h1,_=>cases h1⟩ rfl (za2 (Z6 Gs Rq DU)) (λC a6 ex s H=>BL ndW)
      (λC a6 ex s H=>zdb) (λC a6 ex s H=>zay (zif (K:=K) rfl) Gs Gu DU) rfl)
   (zad (Da zfp.nd (QI bT .nil za3 (ZP (FY (RU (RS (UY zae)))))))
   (zah (RT Go (zaa (zdn (zaa (Z6 Gy Rq DU) (FY (Hs (pv 5) (zck (pv 6)))))) zae))))))
  (zad (Da zfp.nd (QI bT .nil za3 (ZP (FY (RU (RS Rv))))))
  (zad (JZ zfp.nd (Hs Go (zck (pv 6))))
  (zad (zcg (V0 Hb zai Hl) (zah (JZ zfp.nd (pe_rev Go))) za9)
  (zah (zbo Go)))))),?_⟩
 have nlp:=pot_l hp R;have nnp:nl≠p:=pot_ne hp oq;have nap:∀a∈as,a≠p:=λa ha z=>be (z▸ha);have gr:(as.map V.ref).length=rr.length:=by rw[Qa];exact R.len
 refine⟨(DO 0),λt ht=>?_⟩;have k1:Keep [p] H (ZQ t Fb):=Keep.new ht;have ntp:t≠p:=Zj (zab hp.1 ht);have cq:Pot (ZQ t Fb) p b m:=hp.keep (xs:=[]) (D0 ht) DI;have dU:(ZQ t Fb) t=some (DX (([]:List Addr).map V.ref)):=zac;generalize ZQ t Fb=H1 at k1 cq dU;have R1:∀{H':Hp},Keep [p] H H'→W9 rr:=λkk=>R.keep kk Hj λa ha=>by simpa using nap a ha
 have N1:∀{H':Hp},Keep [p] H H'→H' nl=some (DX Gj):=λkk=>kk _ _ oq (DJ nnp);refine⟨RV,l,RV,Gb (SqL.of (R1 k1).ls),RV,DH,DH,zc4 (lo:=0) (λi σ H'=>Aj3 (Ex3 λx4 x5 x6=>σ=[DQ p,DQ l,DQ nl,DQ t,x4,x5,x6]) (Keep [p] H H') (Ex4 λ(bs:Nn) (es:List Ent) (b' m':Int)=>Aj5 (Mp t bs es) (J4 es (GY i)) (WM m') (∀e∈es,H e.2.2=none) (∀e∈es,e.2.2≠t))) ⟨⟨_,_,_,rfl⟩,k1,[],[],b,m,⟨dU,.nil,λe he=>by cases he⟩,.nil,cq,(λe he=>by cases he),(λe he=>by cases he)⟩ ?_ ?_⟩
 ·rintro i σ H2 hi ⟨⟨x4,x5,x6,rfl⟩,k2,bs,es,b2,m2,W2,T2,aF,ki,iW⟩;have hi:i<rr.length:=by lia
  have hia:i<as.length:=by rw[R.len];exact hi
  have hR2:=R1 k2;have hN2:=N1 k2;have af:=hR2.row hia hi;have bQ:∀x∈rr[i],x<rr.length:=λx hx=>by have:=(zbh.sub _ hG _ (zfu hi)).2 x hx;rw[zb2]at this;exact Yi.mp this
  have gu:(rsN rr).length=rr.length:=by unfold rsN;rw[List.length_map,List.length_range]
  have hrl2:rr[i].length≤900:=by have:=zbh.rows hG _ (zfu hi);rw[gu]at this;exact Zd this DH
  have a1:XX (0+(i:Int))=some (.ref as[i]):=by rw[Xx];exact zau (by rw[Qr,Qb hia];rfl)
  have z1:∀{x:Nat},x<rr.length→NP (x:Int)=some (GH (UZ x)):=λ{x} hx=>zau (by rw[Qr,Qb DH,nameN_lt DH];rfl);have hg:rr.getD i []=rr[i]:=by rw[Qn,Qb hi];rfl
  refine⟨RV,RV,l,_,_,RV,rfl,SqL.of hR2.ls,a1,as[i],rfl,⟨_,SqL.of af⟩,lc_map (xs:=rr[i].map iV) (λ τ=>∃x0,τ=[x0,some (.ref nl)]) (λx=>match x with | .int n=>.str (zbt zs n.toNat)|v=>v) (SqL.of af) (by rw[Qa];lia) ⟨none,rfl⟩ ?_ (λar har=>?_)⟩
  ·rintro x hx τ ⟨x0,rfl⟩ kk hk;obtain⟨z,hz,rfl⟩:=Qj.mp hx;exact⟨RV,RV,nl,_,_,RV,rfl,DW hN2,z1 (bQ z hz),hk _ ⟨RV⟩⟩
  have emap:(rr[i].map iV).map (λx=>match x with | .int n=>.str (zbt zs n.toNat)|v=>v)=(rr[i].map (zbt zs)).map V.str:=by rw[Zq,Zq];rfl
  rw[emap];have ja:(rr[i].map RQ).length=rr[i].length:=Qa ..;generalize eu:rr[i].map RQ=ru at ja;have k3:Keep [] H2 (QW ar (DX (ru.map V.str))):=Keep.new har;have gH:(QW ar (DX (ru.map V.str))) ar=some (DX (ru.map V.str)):=zac;generalize QW ar (DX (ru.map V.str))=H3 at k3 gH;have bp:=aF.keep k3 DI;have dX:(ru.map V.str).length=ru.length:=Qa ..;refine⟨RV,RV,ar,RV,Ht gH,_,RV,rfl,p,b2,m2,RV,bp,DH,DH,λj4 b4 m4 H4 jg rh bf ik=>?_⟩;have k4:=zaz ik;obtain⟨j,rfl⟩:=Zg jg;have hj:j≤ru.length:=by lia
  have jw:=k4 _ _ gH (by simpa using pot_ne bp gH);have cI:Keep [p] H H4:=(k2.trans (k3.sub DI)).trans k4;have W4:RwAt H4 t bs es:=⟨k4 _ _ (k3 _ _ W2.ls DI) (DJ ntp),Paired.imp' (λa e h=>k4 _ _ (k3 _ _ h DI) (by simpa using zbf h aF.1 DS)) W2.ts,λe he=>k4 _ _ (k3 _ _ (Dh he) DI) (by simpa using pot_ne aF (Dh he))⟩;refine⟨RV,.inl ⟨rfl,_,SqL.of W4.ls⟩,RV,RV,nl,_,_,RV,rfl,DW (N1 cI),by rw[Xx];exact z1 hi,RV,RV,RV,ar,RV,DW jw,λq1 h1=>?_⟩;have n1:ar≠q1:=zab jw h1;refine⟨RV,RV,RV,ar,RV,DW (by rw[zaf n1];exact jw),λq2 h2=>?_⟩;have gi:q1≠q2:=zab (o:=_) zac h2;rw[zey (DR dX hj),cut_to (DR dX hj)]at *;refine⟨q1,q2,_,RV,rfl,(DY gi zac),zac,by rw[Yw,Zi];lia,λq3 h3=>?_⟩;rw[←Ur,←Wu,←Qs]at *;have k5:Keep [] H4 (upd (Ra (DX ((ru.drop j).map V.str)) ((ru.take j).map V.str)) q3 (DX ((ru.drop j++ru.take j).map V.str))):=((D0 h1).trans (D0 h2)).trans (D0 h3);have fV:(upd (Ra (DX ((ru.drop j).map V.str)) ((ru.take j).map V.str)) q3 (DX ((ru.drop j++ru.take j).map V.str))) q3=some (DX ((ru.drop j++ru.take j).map V.str)):=zac;have f3:H4 q3=none:=zas ((Keep.new (xs:=[]) h1).trans (D0 h2)) h3 DI;generalize upd (Ra (DX ((ru.drop j).map V.str)) ((ru.take j).map V.str)) q3 (DX ((ru.drop j++ru.take j).map V.str))=H5 at k5 fV;have nq3t:q3≠t:=Zj (zab W4.ls f3);have fq3:H q3=none:=zas cI f3 (by simpa using Zj (zab bf.1 f3));refine⟨(DO 2),λc hc=>?_⟩;have k6:Keep [] H4 (Q2 c (.tup [GH (UZ i),DK q3])):=k5.trans (D0 hc);have dJ:(Q2 c (.tup [GH (UZ i),DK q3])) c=some (.tup [GH (UZ i),DK q3]):=zac;have lC:(Q2 c (.tup [GH (UZ i),DK q3])) q3=some (DX ((ru.drop j++ru.take j).map V.str)):=by rw[zaf (zab fV hc)];exact fV
  generalize Q2 c (.tup [GH (UZ i),DK q3])=H6 at k6 dJ lC;have W6:=W4.keep k6;have fM:bs.length=i:=by rw[Yc W6.ts,Yc T2,Wi]
  refine⟨t,_,RV,rfl,W6.ls,Fo,?_⟩;have tupt:∀{a:Nc} {xs:List V},H6 a=some Hm→a≠t:=λ{a xs} e=>Db W6.ls DS;have kt:Keep [p] H (BP t (DX (bs.map V.ref++[V.ref c]))):=λa u ea ha=>by rw[zaf (zab ea ht)];exact k6 _ _ (cI a u ea ha) DI
  refine⟨⟨_,_,RV⟩,kt,bs++[c],es++[(UZ i,ru.drop j++ru.take j,q3)],b4,m4,⟨by rw[zac,Qs];rfl,?_,λe' he=>?_⟩,?_,(bf.keep k6 DI).keep (xs:=[t]) FQ (by simpa using Zj ntp),λe' he=>?_,λe' he=>?_⟩
  ·exact zap (Paired.imp' (λa e h=>by rw[zaf (tupt h)];exact h) W6.ts) (Hy (DY (tupt dJ) dJ))
  ·rcases Qg.mp he with z|z
   ·rw[zaf (iW e' z)];exact W6.ro e' z
   rw[Qc.mp z];exact(zaf nq3t).trans lC
  ·rw[Xy];exact zap T2 (.cons ⟨rfl,j,by rw[hg,eu]⟩ .nil)
  ·rcases Qg.mp he with z|z
   ·exact ki e' z
   rw[Qc.mp z];exact fq3
  rcases Qg.mp he with z|z
  ·exact iW e' z
  rw[Qc.mp z];exact nq3t
 rintro σ H2 ⟨⟨x4,x5,x6,rfl⟩,k2,bs,es,b2,m2,W2,T2,aF,ki,iW⟩;have T2:J4 es RP:=by rw[gr]at T2;exact T2
 have gC:es.length=rr.length:=by rw[Yc T2,Wi]
 have fM:bs.length=rr.length:=by rw[Yc W2.ts,gC]
 have dX:(bs.map V.ref).length=rr.length:=by rw[Qa];exact fM
 refine⟨RV,RV,t,RV,Gb (SqL.of W2.ls),_,RV,rfl,p,b2,m2,RV,aF,DH,DH,λj4 b4 m4 H4 jg rh bf ik=>?_⟩;have k4:=zaz ik;obtain⟨j,rfl⟩:=Zg jg;have hj:j≤rr.length:=by lia
 have cI:Keep [p] H H4:=k2.trans k4;have W4:RwAt H4 t bs es:=⟨k4 _ _ W2.ls (DJ ntp),Paired.imp' (λa e h=>k4 _ _ h (by simpa using zbf h aF.1 DS)) W2.ts,λe he=>k4 _ _ (Dh he) (by simpa using pot_ne aF (Dh he))⟩;refine⟨RV,RV,RV,t,RV,SqL.of W4.ls,λq1 h1=>?_⟩;have n1:t≠q1:=zab W4.ls h1;refine⟨RV,RV,RV,t,RV,DW (by rw[zaf n1];exact W4.ls),λq2 h2=>?_⟩;have gi:q1≠q2:=zab (o:=_) zac h2;rw[zey (DR dX hj),cut_to (DR dX hj)]at *;refine⟨q1,q2,_,RV,rfl,(DY gi zac),zac,by rw[Yw,Zi];lia,λq3 h3=>?_⟩;rw[←Ur,←Wu,←Qs]at *;have k5:Keep [] H4 (upd (Ra (DX ((bs.drop j).map V.ref)) ((bs.take j).map V.ref)) q3 (DX ((bs.drop j++bs.take j).map V.ref))):=((D0 h1).trans (D0 h2)).trans (D0 h3);have fV:(upd (Ra (DX ((bs.drop j).map V.ref)) ((bs.take j).map V.ref)) q3 (DX ((bs.drop j++bs.take j).map V.ref))) q3=some (DX ((bs.drop j++bs.take j).map V.ref)):=zac;generalize upd (Ra (DX ((bs.drop j).map V.ref)) ((bs.take j).map V.ref)) q3 (DX ((bs.drop j++bs.take j).map V.ref))=H5 at k5 fV;have W5:RwAt H5 q3 (bs.drop j++bs.take j) (es.drop j++es.take j):=⟨fV,by
  have:=(W4.keep k5).ts;exact zap (zgh j this) (zgg j this),λe he=>(W4.keep k5).ro e (by
   rcases Qg.mp he with z|z
   ·exact Wl z
   exact Wc z)⟩
 have T5:J4 (es.drop j++es.take j) ((List.range rr.length).drop j++(List.range rr.length).take j):=zap (zgh j T2) (zgg j T2);have P5:((List.range rr.length).drop j++(List.range rr.length).take j).Perm RP:=Yu.trans (by rw[Zh]);have f5:∀e∈es.drop j++es.take j,H e.2.2=none:=λe he=>ki e (by
   rcases Qg.mp he with z|z
   ·exact Wl z
   exact Wc z)
 have fe:(es.drop j++es.take j).length=rr.length:=by rw[Qk,Yw,Zi];lia
 have aW:=bf.keep k5 DI;have im:Keep [p] H H5:=cI.trans (k5.sub DI);generalize es.drop j++es.take j=jB at W5 T5 f5 fe;generalize bs.drop j++bs.take j=bs5 at W5 fV;generalize(List.range rr.length).drop j++(List.range rr.length).take j=ks at T5 P5;have fin:∀(t':Nc) (gf:Nn) (d8:List Ent) (pG:List Nat) (b' m':Int) (H':Hp),Mp t' gf d8→J4 d8 pG→pG.Perm RP→d8.length=rr.length→(∀e∈d8,H e.2.2=none)→WM m'→Keep [p] H H'→Q (DK t') H':=λt' gf d8 pG b' m' H' W' T' P' hl' f' dz k'=>by obtain⟨cs,lab,C⟩:=cert_Z hG de (λz hz=>(dQ z hz).1) T' P';refine k t' gf d8 cs lab b' m' H' W' C DH (λe he=>?_) f' dz k';have:e.1∈d8.map (·.1):=Qj.mpr ⟨e,he,rfl⟩;rw[names_Z T']at this;obtain⟨x,hx,ex⟩:=Qj.mp this;have hx:=Yi.mp (P'.mem_iff.mp hx);rw[←ex,nameN_lt DH];exact dQ _ (Qm _)
 refine⟨RV,p,b4,m4,2,rfl,aW,DL,DL,λj7 b7 m7 H7 h70 h71 aK nK=>?_⟩;have k7:=zaz nK;have n3p:q3≠p:=zbf fV aW.1 (by
  intro z;have z':bs5.map V.ref=[GG b4,GG m4]:=by injection z
  cases bs5 with
  |nil=>cases z'
  |cons a bM=>rw[Ql]at z';injection z' with z1 _;cases z1)
 have W7:RwAt H7 q3 bs5 jB:=⟨k7 _ _ W5.ls (DJ n3p),Paired.imp' (λa e h=>k7 _ _ h (by simpa using zbf h aW.1 DS)) W5.ts,λe he=>k7 _ _ (W5.ro e he) (by simpa using pot_ne aW (W5.ro e he))⟩;have jN:=im.trans k7;refine⟨rfl,RV,ite2 (λ_=>?_) (λ_=>?_)⟩
 ·refine⟨_,rfl,q3,_,rfl,SqL.of W7.ls,λq4 h4=>?_⟩;have kn:Keep [] H7 (Bq q4 (.lst (bs5.map V.ref).reverse)):=Keep.new h4;exact⟨RV,fin q4 bs5.reverse jB.reverse ks.reverse b7 m7 _ ⟨by rw[zac,List.map_reverse],zhc (W7.keep kn).ts,λe he=>(W7.keep kn).ro e (Xq.mp he)⟩ (zhc T5) ((Ui ks).trans P5) (by rw[List.length_reverse];exact fe) (λe he=>f5 e (Xq.mp he)) (aK.keep kn DI) (jN.trans (kn.sub DI))⟩
 exact⟨RV,fin q3 bs5 jB ks b7 m7 H7 W7 T5 P5 fe f5 aK jN⟩
end
end K21
namespace L2
open PySem PySem.Spec PyProof.Rows
section
variable{X:Cx}
def vals_nats:∀{zs:List Nat} {a8:Ni},Vals (zs.map iV) a8→∃ts:List Nat,ts.length=zs.length∧∀(m:Nat) (h:m<a8.length),∃t,a8[m]=.int ((zs.getD m 0:Nat):Int) t:=by
 intro zs a8 r;refine⟨zs,rfl,λm h=>?_⟩;have hl:=r.length;rw[Qa]at hl;have hm:m<zs.length:=by lia
 obtain⟨u,hu,t,rfl⟩:=r.get (i:=m) (x:=iV zs[m]) (by rw[Qr,Qb hm];rfl);rw[Qb h]at hu;refine⟨t,?_⟩;rw[Qw hu,Qn,Qb hm];rfl
theorem zfg:∀(l:List Nat) (i:Nat),(l.eraseIdx i).map iV=(l.map iV).eraseIdx i
 |[],_=>rfl
 |a::r,0=>rfl
 |a::r,i+1=>congrArg (iV a::·) (zfg r i)
inductive RrRemN(x:V)(vs:List V)(H:Hp)(Q:VK):Prop
 |mk(l:Nc)(zs:List Nat)(z:Nat)(h0:x=.ref l)(h1:vs=[iV z])(h2:H l=some (.lst (zs.map iV)))(h3:z∈zs)(h4:Q .non (upd H l (.lst ((zs.erase z).map iV))))
def rRemN:V→List V→Hp→VK→Prop:=λx vs H Q=>RrRemN x vs H Q
def zhf:ML "list.remove" rRemN:=by
 intro a6 s σ H x vs v us Q I rx rv h;obtain⟨l,zs,z,rfl,rfl,hH,hz,q⟩:=h;cases rx;obtain⟨u,rfl,⟨t,rfl⟩⟩:=rv.one;obtain⟨zz,a8,n,r,hl,e⟩:=I.lstM hH;obtain⟨_,_,bK⟩:=vals_nats r;rw[Qa]at hl;have hj:zs.idxOf z<zs.length:=Xb hz;refine call_meets F.slot_list_remove ⟨_,e,rfl⟩ F.entry_list_remove (F.args_list_remove_2 _ _)
  (MeetsSeq.list_remove l a8.toArray n (.int z t) (λv=>match v with | .int a _=>a==(z:Int)|_=>false) (λy hy=>?_) (zs.idxOf z) (by rw[Qp];lia) ?_ (λm hm aa=>?_) (by rw[Qp];rw[Qa]at zz;lia)) ⟨e,?_⟩
 ·obtain⟨m,hm,rfl⟩:=Zb (by simpa using hy:y∈a8);obtain⟨tk,ek⟩:=bK m hm;rw[ek];exact MeetsSeq.EqGives.int _ _ _ _
 ·rw[Jd];obtain⟨tk,ek⟩:=bK Hr DH;rw[ek];show(((zs.getD Hr 0:Nat):Int)==(z:Int))=true;rw[Qn,Qb hj,Option.getD_some,Uv];exact beq_self_eq_true _
 ·rw[Jd];obtain⟨tk,ek⟩:=bK m (DJ hm);rw[ek];have br:m<zs.length:=by lia
  show(((zs.getD m 0:Nat):Int)==(z:Int))=false;rw[Qn,Qb br,Option.getD_some,beq_eq_false_iff_ne];intro ez;have e2:zs[m]=z:=by lia
  have:=List.not_of_lt_findIdx (p:=λx=>x==z) (xs:=zs) (i:=m) aa;simp[e2]at this
 refine⟨.non,_,I.lset (its':=a8.eraseIdx Hr) (ys:=(zs.erase z).map iV) hH e (by rw[Kl]) ?_ ?_,rfl,q⟩
 ·have em:(zs.erase z).map iV=(zs.map iV).eraseIdx Hr:=by rw[List.erase_eq_eraseIdx_of_idxOf rfl,zfg]
  rw[em];exact r.eraseIdx _
 rw[Qa]at zz ⊢;exact Zd (List.length_erase_le ..) zz
end
end L2
namespace Wb
def rowN(rr:Fz Nat)(x:Nat):QH x=rr.getD x []:=by
 rw[Qn];by_cases h:x<rr.length
 ·rw[zfa h,Qb h];rfl
 rw[zhb h,Wt DH];rfl
def zev{rr:List HF}{k:Nat}(h:k<rr.length)(z:List Nat)(x:Nat):(rr.set k z).getD x []=if x=k then z else rr.getD x []:=by
 rw[Qn,List.getElem?_set];by_cases e:x=k
 ·subst e;rw[if_pos rfl,if_pos h,if_pos rfl];rfl
 rw[if_neg (Zj e),if_neg e,Qn]
def good_swapN{rr:List HF}(hG:Good HV){k:Nat}(hk:k<rr.length){z:List Nat}(hz:z.Perm rr[k]):Good (rsN (rr.set k z)):=by
 have S:=hG.s;have hp:∀x,(row (rsN (rr.set k z)) x).Perm (QH x):=λx=>by
  rw[rowN,rowN,zev hk];split
  ·rename_i e;subst e;rw[Qn,Qb hk];exact hz
  exact .refl _
 refine Sy.good ?_;rw[zb2]at S ⊢;rw[Yd];refine⟨S.nd,λx hx=>?_,λx=>(hp x).nodup_iff.mpr (S.rn x),λx h=>S.ir x ((hp x).mem_iff.mp h),λx y h=>(hp y).mem_iff.mpr (S.sy x y ((hp x).mem_iff.mp h))⟩;have:=hp x;rw[S.ro x hx]at this;exact List.Perm.eq_nil this
def good_tieN{rr:List HF}(hG:Good HV){a b:Nat}(ha:a<rr.length)(hb:b<rr.length)(ne:a≠b)(nb:b∉rr[a]){za zb:List Nat}(pa:za.Perm (b::rr[a]))(pb:zb.Perm (a::rr[b])):Good (rsN ((rr.set a za).set b zb)):=by
 have S:=hG.s;rw[zb2]at S;have ra:QH a=rr[a]:=zfa ha;have rb:QH b=rr[b]:=zfa hb;have hV:b<(rr.set a za).length:=by rw[Yd];exact hb
 refine Sy.good ?_;rw[zb2,Yd,Yd];have r':∀x,row (rsN ((rr.set a za).set b zb)) x=if x=b then zb else if x=a then za else QH x:=λx=>by rw[rowN,zev hV,zev ha,rowN]
 have r1:=r' a;rw[if_neg ne,if_pos rfl]at r1;have r2:=r' b;rw[if_pos rfl]at r2;have na:a∉rr[b]:=λz=>nb (by rw[←ra];exact S.sy b a (DR rb z));refine S.put (a:=a) (b:=b) (Yi.mpr ha) (Yi.mpr hb) ne (λw=>?_) ?_ (λw=>?_) ?_ λy h1 h2=>?_
 ·rw[r1,ra,pa.mem_iff,Qi]
 ·rw[r1];exact pa.nodup_iff.mpr (Ze.mpr ⟨nb,ra▸S.rn a⟩)
 ·rw[r2,rb,pb.mem_iff,Qi]
 ·rw[r2];exact pb.nodup_iff.mpr (Ze.mpr ⟨na,rb▸S.rn b⟩)
 rw[r',if_neg h2,if_neg h1]
def good_cutN{rr:List HF}(hG:Good HV){a b:Nat}(ha:a < rr.length)(hb:b < rr.length)(hm:b∈rr[a]):a≠b∧a∈rr[b]∧Good (rsN ((rr.set a (rr[a].erase b)).set b (rr[b].erase a))):=by
 have S:=hG.s;rw[zb2]at S;have ra:QH a=rr[a]:=zfa ha;have rb:QH b=rr[b]:=zfa hb;have ne:a≠b:=λe=>by subst e;exact S.ir a (DR ra hm)
 have br:a∈rr[b]:=by rw[←rb];exact S.sy a b (DR ra hm)
 have hV:b<(rr.set a (rr[a].erase b)).length:=by rw[Yd];exact hb
 refine⟨ne,br,Sy.good ?_⟩;rw[zb2,Yd,Yd];have r':∀x,row (rsN ((rr.set a (rr[a].erase b)).set b (rr[b].erase a))) x=if x=b then rr[b].erase a else if x=a then rr[a].erase b else QH x:=λx=>by rw[rowN,zev hV,zev ha,rowN]
 have bQ:∀x y,y∈row (rsN ((rr.set a (rr[a].erase b)).set b (rr[b].erase a))) x↔y∈QH x∧¬(x=a∧y=b)∧¬(x=b∧y=a):=λx y=>by
  rw[r'];by_cases xb:x=b
  ·subst xb;rw[if_pos rfl,List.Nodup.mem_erase_iff (rb▸S.rn x),rb];exact⟨λh=>⟨h.2,λz=>ne z.1.symm,λz=>h.1 z.2⟩,λh=>⟨λz=>h.2.2 ⟨rfl,z⟩,h.1⟩⟩
  rw[Gm xb];by_cases xa:x=a
  ·subst xa;rw[if_pos rfl,List.Nodup.mem_erase_iff (ra▸S.rn x),ra];exact⟨λh=>⟨h.2,λz=>h.1 z.2,λz=>xb z.1⟩,λh=>⟨λz=>h.2.1 ⟨rfl,z⟩,h.1⟩⟩
  rw[Gm xa];exact⟨λh=>⟨h,λz=>xa z.1,λz=>xb z.1⟩,λh=>h.1⟩
 refine⟨S.nd,λx hx=>?_,λx=>?_,λx h=>S.ir x ((bQ x x).mp h).1,λx y h=>?_⟩
 ·rw[r',if_neg (λe=>hx (by rw[e];exact Yi.mpr hb)),if_neg (λe=>hx (by rw[e];exact Yi.mpr ha))];exact S.ro x hx
 ·rw[r'];split
  ·exact(rb▸S.rn b).erase _
  split
  ·exact(ra▸S.rn a).erase _
  exact S.rn x
 obtain⟨h1,h2,h3⟩:=(bQ x y).mp h;exact(bQ y x).mpr ⟨S.sy x y h1,λz=>h3 ⟨z.2,z.1⟩,λz=>h2 ⟨z.2,z.1⟩⟩
def zhv(zs:List Nat)(k x:Nat):(zs.take k++x::zs.drop k).Perm (x::zs):=by have:=List.perm_middle (a:=x) (l₁:=zs.take k) (l₂:=zs.drop k);rwa[Zh]at this
def erase_ins{zs:List Nat}{i:Nat}(h:i<zs.length)(k:Nat):((zs.eraseIdx i).take k++zs[i]::(zs.eraseIdx i).drop k).Perm zs:=by refine(zhv _ k _).trans ?_;rw[List.eraseIdx_eq_take_drop_succ];have:=List.perm_middle (a:=zs[i]) (l₁:=zs.take i) (l₂:=zs.drop Fj);rw[←Zp h,Zh]at this;exact this.symm
end Wb
namespace K21
open PySem L2 Wb
abbrev zh1:Stmt:=top 34
def spSpoilt:Sp:=spTieD
section
variable{P:Nk}{w:Nl}{K:Nb}{mg:Ng}{base:Np}
def zcf:zaw [qP,qR, "_law_one",qO, "_law_way",qM, "_law_at", "_law_far", "_law_around", "_law_gone"] [qP,qR] (zag zh1):=fsk
def ok_spoilt(F:Z2 "_law_spoilt" "_law_spoilt" zh1 f fd)(FT:HP)(bT:Z8 fdt [qP,qM] [])(mT:mg qG=some (DK ft))(GT:ZB 1 ft fdt [qP,qM] zf9)(a9:mg "len" = none):ZB 3 f fd [qP,qR] spSpoilt:=by
 refine F.okL zcf DP;obtain⟨p,l,b,m,as,rr,rfl,hp,R,hG,bg,ba,be,k⟩:=h;have hu:=zco hr;have aV:VE _:=hr.mono DL;have aR  :=sizeLine_eq;refine⟨_,zad (BQ zcf.nd (Hn (FY (RS (ZZ zae)))))
  (zad (JZ zcf.nd (Hn (FY (RS (ZZ zae)))))
  (zad (XH zcf.nd (Hn (QO zae)))
  (zad (MT zcf.nd (RS (FY (Z4 DU))))
  (zad (Da zcf.nd (Hn (FY (RU (pv 5)))))
  (zad (zar 7 zcf.nd (Hn (zaa (RU (RS (FY (Z6 (pv 1) (pv 3) DU)))) zae)))
  (zad (zcg (PW.pt (UA (zfb (BZ Rr zai Hl))))
   (zad (zar 8 zcf.nd (Z4 DU))
   (zah (zax (YX (pv 8) (zaa (RU (WX (pv 6) (K' Rr zai))) (zaa (UX PySem.F.slot_list_pop PySem.F.type_list_pop mt_popAt (pv 8) (FY (WX (pv 6) (K' Rr zai)))) zae)))))) za9)
  (zad (zcg (PW.pt (UA (zgd (V7 Gy Go Hl) (zfb (zav zcv Go (Z4 (λ_ _=>rfl)) rfl)))))
   (zad (zax (YX (Z4 DU) (zaa (pv 6) Rv)))
   (zah (zax (YX (Z6 Gs Go DU) (zaa (pv 7) Hi))))) za9)
  (zah (zcg (PW.pt (UA (zfb (BZ Rr zai Hl))))
   (zad (zar 9 zcf.nd (Z6 (Z4 DU) (WX (pv 6) Rr) DU))
   (zad (zax (UQ (Z4 DU) (FY (pv 9))))
   (zah (zax (UQ (Z6 Gs (pv 9) DU) Hi))))) za9))))))))),?_⟩
 have cG:=R.len;have nlp:=pot_l hp R;have nap:∀a∈as,a≠p:=λa ha z=>be (z▸ha);have gr:(as.map V.ref).length=rr.length:=by rw[Qa];exact cG
 have gu:(rsN rr).length=rr.length:=by unfold rsN;rw[List.length_map,List.length_range]
 have a1:∀{c:Nat} (h:c<as.length),XX (c:Int)=some (.ref as[c]):=λh=>zau (by rw[Qr,Qb h];rfl);have jQ:∀{c:Nat} (h:c<rr.length),rr[c].length≤900:=λ{c} h=>by have:=zbh.rows hG _ (zfu h);rw[gu]at this;exact Zd this DH
 refine⟨RV,RV,l,RV,Gb (SqL.of R.ls),p,b,m,RV,hp,DH,DH,λj1 b1 m1 H1 cz gw cq kW=>?_⟩;have k1:Keep [p] H H1:=zaz kW;have R1:NAt H1 l as rr:=R.keep k1 Hj λa ha=>by simpa using nap a ha
 obtain⟨one,rfl⟩:=Zg cz;have ho:one<rr.length:=by lia
 have ao:one<as.length:=by lia
 clear cz gw;refine⟨RV,RV,l,RV,Gb (SqL.of R1.ls),p,b1,m1,RV,cq,DH,DH,λj2 b2 m2 H2 cz gw aF il=>?_⟩;have k2:Keep [p] H H2:=k1.trans (zaz il);have R2:NAt H2 l as rr:=R.keep k2 Hj λa ha=>by simpa using nap a ha
 obtain⟨ot,rfl⟩:=Zg cz;have ht:ot<rr.length:=by lia
 have cj:ot<as.length:=by lia
 clear cz gw;refine⟨RV,p,b2,m2,RV,aF,DL,DL,λj3 b3 m3 H3 hw0 hw1 bp jM=>?_⟩;have k3:Keep [p] H H3:=k2.trans (zaz jM);have R3:MX rr:=R.keep k3 Hj λa ha=>by simpa using nap a ha
 obtain⟨way,rfl⟩:=Zg hw0;refine⟨RV,RV,l,_,_,RV,rfl,SqL.of R3.ls,a1 ao,as[one],RV,Ht (R3.row ao ho),?_⟩;have bq:(rr[one].map iV).length=rr[one].length:=Qa ..;rw[bq];refine⟨RV,RV,_,RV,rfl,p,b3,m3,RV,bp,DH,by have:=jQ ho;lia,λj4 b4 m4 H4 cz gw bf ik=>?_⟩;have k4:Keep [p] H H4:=k3.trans (zaz ik);have R4:NAt H4 l as rr:=R.keep k4 Hj λa ha=>by simpa using nap a ha
 obtain⟨at_,rfl⟩:=Zg cz;have bK:at_≤rr[one].length:=by lia
 clear cz gw;have bi:(rr[ot].map iV).length=rr[ot].length:=Qa ..;refine⟨RV,RV,RV,l,_,_,RV,rfl,SqL.of R4.ls,a1 cj,as[ot],RV,Ht (R4.row cj ht),_,RV,rfl,p,b4,m4,RV,bf,DH,by have:=jQ ht;lia,λj5 b5 m5 H5 cz gw aW dq=>?_⟩;have k5:Keep [p] H H5:=k4.trans (zaz dq);have R5:NAt H5 l as rr:=R.keep k5 Hj λa ha=>by simpa using nap a ha
 obtain⟨far,rfl⟩:=Zg cz;have rH:far≤rr[ot].length:=by lia
 clear cz gw;have bn:=R5.row ao ho;have fin:∀(aZ:Fz Nat) (H':Hp),aZ.length=rr.length→Good (rsN aZ)→W9 aZ→NQ H'→Q .non H':=λaZ H' e g r kk=>by refine k b5 m5 aZ H' e g (aW.keep kk (λz=>be z)) r ((k5.sub DI).trans (kk.sub λa ha=>WD ha))
 have d7:Q .non H5:=fin rr H5 rfl hG R5 (Keep.refl);have pS:way=0∨way=1∨way=2:=by lia
 rcases pS with rfl|rfl|rfl
 ·refine⟨_,rfl,rfl,_,rfl,zbm DI ⟨RV,_,RV,rfl,RV,?_⟩⟩;by_cases hm1:1<rr[one].length
  ·refine zbm (by simp;lia) ?_;have cu:(at_:Int)%((rr[one].length:Int)-1)=((at_%(rr[one].length-1):Nat):Int):=by rw[show(rr[one].length:Int)-1=((rr[one].length-1:Nat):Int) by lia];rfl
   have aa:at_%(rr[one].length-1)<rr[one].length-1:=XA DH;generalize hi:at_%(rr[one].length-1)=i at cu aa;have oB:i<rr[one].length:=by lia
   have aD:(rr[one].map iV).eraseIdx i=(rr[one].eraseIdx i).map iV:=(zfg _ _).symm;have gC:(rr[one].eraseIdx i).length=rr[one].length-1:=List.length_eraseIdx_of_lt oB;refine⟨RV,RV,l,_,_,RV,rfl,SqL.of R5.ls,a1 ao,RV,DV bn,RV,RV,_,RV,rfl,_,RV,rfl,DH,_,RV,rfl,?_⟩;rw[cu];refine⟨RV,DV bn,RV,RV,_,RV,rfl,_,RV,rfl,DH,?_⟩;rw[cu];refine⟨as[one],_,_,i,iV rr[one][i],rfl,rfl,bn,DH,by have:=jQ ho;lia,by rw[bq,seqIndex_of DH DH];rfl,by rw[Qr,Qb oB];rfl,?_⟩;rw[aD];refine⟨as[one],_,_,i+1,rfl,rfl,zac,by rw[Qa,gC];have:=jQ ho;lia,by rw[Qa,gC];lia,?_⟩;have e1:((rr[one].eraseIdx i).map iV).take Fj++iV rr[one][i]::((rr[one].eraseIdx i).map iV).drop Fj=((rr[one].eraseIdx i).take Fj++rr[one][i]::(rr[one].eraseIdx i).drop Fj).map iV:=by rw[←Wu,←Ur,←Ql,←Qs]
   rw[e1,upd_upd];exact⟨RV,rfl,RV,za4 DI (iteF ⟨RV,rfl,RV,za4 DI (iteF (fin _ _ (by rw[Yd]) (good_swapN hG ho (erase_ins oB _)) (DD _) (Keep.wr (Qm ao))))⟩)⟩
  exact za4 (by simp;lia) ⟨RV,rfl,RV,za4 DI (iteF ⟨RV,rfl,RV,za4 DI (iteF d7)⟩)⟩
 ·refine⟨_,rfl,rfl,_,rfl,za4 DI (iteF ⟨RV,rfl,RV,zbm DI ⟨RV,RV,rfl,RV,?_⟩⟩)⟩;by_cases e:one=ot
  ·exact za4 (by simp[e]) (iteF ⟨_,rfl,rfl,_,rfl,za4 DI (iteF d7)⟩)
  refine zbm (by simpa using λz=>e DH) ⟨RV,RV,RV,l,_,_,RV,rfl,SqL.of R5.ls,a1 ao,as[one],RV,Ht bn,rfl,zdq _,RV,?_⟩;rw[inV_nat];by_cases hm:ot∈rr[one]
  ·exact za4 (by rw[decide_eq_true hm];rfl) ⟨_,rfl,rfl,_,rfl,za4 DI (iteF d7)⟩
  refine zbm (by rw[decide_eq_false hm];rfl) ⟨RV,RV,l,_,_,RV,rfl,SqL.of R5.ls,a1 ao,DV bn,RV,RV,as[one],_,_,at_,rfl,rfl,bn,by rw[bq];have:=jQ ho;lia,DR bq bK,?_⟩;have e1:(rr[one].map iV).take at_++iV ot::(rr[one].map iV).drop at_=(rr[one].take at_++ot::rr[one].drop at_).map iV:=by rw[←Wu,←Ur,←Ql,←Qs]
  rw[e1];have R6:=DD (rr[one].take at_++ot::rr[one].drop at_);have k6:NQ (Q2 as[one] (DX ((rr[one].take at_++ot::rr[one].drop at_).map iV))):=Keep.wr (Qm ao);generalize Q2 as[one] (DX ((rr[one].take at_++ot::rr[one].drop at_).map iV))=H6 at R6 k6;have lv:ot<(rr.set one (rr[one].take at_++ot::rr[one].drop at_)).length:=by rw[Yd];exact ht
  have aw:=R6.row cj lv;rw[Jg e]at aw;refine⟨RV,RV,l,_,_,RV,rfl,Rp,a1 cj,DV aw,RV,RV,as[ot],_,_,far,rfl,rfl,aw,by rw[bi];have:=jQ ht;lia,DR bi rH,?_⟩;have e2:(rr[ot].map iV).take far++iV one::(rr[ot].map iV).drop far=(rr[ot].take far++one::rr[ot].drop far).map iV:=by rw[←Wu,←Ur,←Ql,←Qs]
  rw[e2];exact⟨RV,rfl,RV,za4 DI (iteF (fin _ _ (by rw[Yd,Yd]) (good_tieN hG ho ht e hm (zhv _ _ _) (zhv _ _ _)) (R6.set cj _) (k6.trans (Keep.wr (Qm cj)))))⟩
 refine⟨_,rfl,rfl,_,rfl,za4 DI (iteF ⟨RV,rfl,RV,za4 DI (iteF ⟨RV,rfl,RV,zbm DI ⟨RV,_,RV,rfl,RV,?_⟩⟩)⟩)⟩;by_cases dB:0<rr[one].length
 ·refine zbm (by simp;lia) ?_;have aa:at_%rr[one].length<rr[one].length:=XA dB;have cu:(at_:Int)%(rr[one].length:Int)=((at_%rr[one].length:Nat):Int):=rfl;generalize at_%rr[one].length=i at cu aa;refine⟨RV,RV,l,_,_,RV,rfl,SqL.of R5.ls,a1 ao,RV,RV,_,RV,rfl,DH,?_⟩;rw[cu];refine⟨as[one],_,_,iV rr[one][i],rfl,rfl,DW bn,zau (by rw[Qr,Qb aa];rfl),?_⟩;have oC:rr[one][i]∈rr[one]:=Qm aa;generalize rr[one][i]=go at oC;have hgo:go<rr.length:=by have:=(zbh.sub _ hG _ (zfu ho)).2 go oC;rw[zb2]at this;exact Yi.mp this
  have gy:go<as.length:=by lia
  obtain⟨ne,br,gG⟩:=good_cutN hG ho hgo oC;refine⟨RV,RV,l,_,_,RV,rfl,SqL.of R5.ls,a1 ao,DV bn,RV,as[one],rr[one],go,rfl,rfl,bn,oC,?_⟩;have R6:=DD (rr[one].erase go);have k6:NQ (Q2 as[one] (DX ((rr[one].erase go).map iV))):=Keep.wr (Qm ao);generalize Q2 as[one] (DX ((rr[one].erase go).map iV))=H6 at R6 k6;have lv:go<(rr.set one (rr[one].erase go)).length:=by rw[Yd];exact hgo
  have aw:=R6.row gy lv;rw[Jg ne]at aw;exact⟨RV,RV,l,_,_,RV,rfl,Rp,a1 gy,DV aw,RV,as[go],rr[go],one,rfl,rfl,aw,br,fin _ _ (by rw[Yd,Yd]) gG (R6.set gy _) (k6.trans (Keep.wr (Qm gy)))⟩
 exact za4 (by rw[show rr[one].length=0 by lia];rfl) d7
inductive IspDrawnD(vs:List V)(H:Hp)(Q:VK):Prop
 |mk (p:Nc) (b m:Int) (h0:vs=[.ref p]) (h1:Pot H p b m)
  (h2:∀(t:Nc) (bs:Nn) (es:List Ent) (cs:Fz (Str×Str)) (lab:Nx) (b' m':Int) (H':Hp),Mp t bs es→Cert FG Gd cs lab→es.length≤40→(∀e∈es,zc7 e.1∧e.1 ≠ "nobody")→WM m'→Keep [p] H H'→Q (DK t) H'):IspDrawnD vs H Q
def spDrawnD:Sp:=λvs H Q _=>IspDrawnD vs H Q
def scDrawn:zaw [qP,qR, "_law_k"] [qP] (zag sDrawn):=fsk
def ok_drawn(F:Z2 "_law_drawn" "_law_drawn" sDrawn f fd)(FT:HP)(bT:Z8 fdt [qP,qM] [])(mT:mg qG=some (DK ft))(GT:ZB 1 ft fdt [qP,qM] zf9)(FR:Z2 "_law_rounds" "_law_rounds" zh2 fr fdr)(bR:Z8 fdr [qP, "_law_most"] [])(mR:mg "_law_rounds" = some (DK fr))(GR:ZB 4 fr fdr [qP, "_law_most"] spRoundsD)(FS:Z2 "_law_spoilt" "_law_spoilt" zh1 fs fds)(bS:Z8 fds [qP,qR] [])(mS:mg "_law_spoilt" = some (DK fs))(GS:ZB 3 fs fds [qP,qR] spSpoilt)(FW:Z2 "_law_rows" "_law_rows" sRows fw fdw)(bW:Z8 fdw [qP,qR,qN] [])(mW:mg "_law_rows" = some (DK fw))(GW:ZB 2 fw fdw [qP,qR,qN] spRowsD)(FN:Z2 "_law_names" "_law_names" sNames fn fdn)(bN:Z8 fdn [qP,qM] [])(mN:mg "_law_names" = some (DK fn))(GN:ZB 2 fn fdn [qP,qM] spNames)(a9:mg "len" = none)(bE:mg "range" = none):ZB 5 f fd [qP] spDrawnD:=by
 refine F.okL scDrawn DP;obtain⟨p,b,m,rfl,hp,k⟩:=h;have aV:VE _:=hr.mono DL;have fT:Room 2 _:=hr.mono DL;have hr3:Room 3 _:=hr.mono DL;have hu:=zco hr;have eG:=Ki hu;have aR:=sizeLine_eq;refine⟨_,zad (KG scDrawn.nd (zan GR hr rfl mR FR.kp bR .nil za3 (ZP (FY (Z6 (za6 (QO (QO (QO (QO zae))))) (Hn (QO zae)) DU)))))
  (zad (zcg (zav (op_ne_nil eG) Gs Hx Hl) (zah (QE (Bp (FY (Hn (QO zae)))) (N5 scDrawn.nd)
   (zah (zax (zan GS hr3 rfl mS FS.kp bS .nil za3 (ZP Ho)))))) za9)
  (zah (zbo (zan GW fT rfl mW FW.kp bW .nil za3 (ZP (ZZ (zaa (Mw bN .nil za3 (ZP (FY (RS Ho)))) zae))))))),?_⟩
 refine⟨RV,(DO 4),λq hq=>?_⟩;have k1:Keep [] H (ZQ q (.lst [GG 12,GG 12,GG 16,GG 40])):=Keep.new hq;have iQ:(ZQ q (.lst [GG 12,GG 12,GG 16,GG 40])) q=some (.lst [GG 12,GG 12,GG 16,GG 40]):=zac;generalize ZQ q (.lst [GG 12,GG 12,GG 16,GG 40])=H1 at k1 iQ;have cq:=hp.keep k1 DI;refine⟨RV,p,b,m,4,rfl,cq,DL,DL,λj2 b2 m2 H2 h20 h21 aF il=>?_⟩;obtain⟨j,rfl⟩:=Zg h20;have nqp:q≠p:=Zj (zab hp.1 hq);have cD:=il _ _ iQ nqp;have k2:Keep [p] H H2:=(k1.sub DI).trans (zaz il);have hj:j<4:=by lia
 obtain⟨n,hn,bK⟩:∃n:Nat,n≤40∧atI [Rx 12,GG 12,GG 16,GG 40] (j:Int)=some (iV n):=by
  have:∀j:Fin 4,[Rx 12,GG 12,GG 16,GG 40][j.1]?=some (iV ([12,12,16,40].getD j.1 0))∧[12,12,16,40].getD j.1 0≤40:=by decide
  exact⟨_,(this ⟨j,hj⟩).2,zau (this ⟨j,hj⟩).1⟩
 refine⟨q,_,_,RV,rfl,DW cD,bK,p,b2,m2,n,rfl,aF,hn,λl as rr b3 m3 H3 R3 hG ba bp be hl0 ha0 k3=>?_⟩;have nlp:=pot_l bp R3;have nap:∀a∈as,a≠p:=λa ha z=>be (z▸ha);have fin:∀(rr:Fz Nat) (b3 m3:Int) (H3:Hp),MX rr→Good HV→rr.length≤40→Pot H3 p b3 m3→Keep [p] H H3→zit [HU,GG ((as.map V.ref).length:Nat)] H3 λv H4=>zis [HU,Hw,v] H4 Q:=λrr b3 m3 H3 R3 hG ba bp k3=>by
  have gr:(as.map V.ref).length=rr.length:=by rw[Qa];exact R3.len
  refine⟨p,b3,m3,rr.length,by rw[gr],bp,ba,λnl zs b4 m4 H4 oq eF de dQ bf _ k4=>?_⟩;have R4:=R3.keep k4 Hj λa ha=>by simpa using nap a ha
  exact⟨p,l,nl,b4,m4,as,rr,zs,rfl,bf,R4,hG,ba,oq,eF,de,dQ,be,λt bs es cs lab b5 m5 H5 W C hl ok _ aW k5=>k t bs es cs lab b5 m5 H5 W C hl ok aW ((Rf k4).trans k5)⟩
 have k30:Keep [p] H H3:=k2.trans k3;refine⟨RV,(DO 0),λq0 qp=>?_⟩;have k4:Keep [p] H (QN q0 Fb):=k30.trans (D0 qp);have bf:Pot (QN q0 Fb) p b3 m3:=bp.keep (xs:=[]) (D0 qp) DI;have R4:NAt (QN q0 Fb) l as rr:=R3.k0 (D0 qp);refine⟨l,q0,RV,rfl,SqL.of R4.ls,DW zac,RV,?_⟩;generalize QN q0 Fb=H4 at k4 bf R4;by_cases he:as=[]
 ·exact za4 (by rw[he];rfl) ⟨RV,RV,RV,RV,l,RV,Gb (SqL.of R4.ls),fin rr b3 m3 H4 R4 hG ba bf k4⟩
 refine zbm (by cases z:as with|nil=>exact absurd z he|cons _ _=>rfl) ⟨RV,p,b3,m3,RV,bf,DL,DL,λj5 b5 m5 H5 cz gw aW dq=>?_⟩;obtain⟨jn,rfl⟩:=Zg cz;have k5:Keep [p] H H5:=k4.trans (zaz dq);have R5:NAt H5 l as rr:=R4.keep (zaz dq) Hj λa ha=>by simpa using nap a ha
 have bg:0<rr.length:=by rw[←R3.len];exact Wz.mpr he
 have haH:∀a∈as,H a=none:=λa ha=>zas k2 (ha0 a ha) (by simpa using nap a ha);refine⟨RV,DH,DH,zc4 (lo:=0) (λi σ H'=>Aj3 (Ex1 λx2=>σ=[DQ p,DQ l,x2]) (Keep [p] H H') (Ex3 λ(aZ:Fz Nat) (b' m':Int)=>Vf (aZ.length=rr.length) (WM m'))) ⟨⟨_,rfl⟩,k5,rr,b5,m5,R5,hG,rfl,aW⟩ ?_ ?_⟩
 ·rintro i σ H7 hi ⟨⟨y2,rfl⟩,k7,aZ,b7,m7,R7,jz,aG,aK⟩;refine⟨RV,RV,p,l,b7,m7,as,aZ,rfl,aK,R7,jz,DH,DH,be,λb8 m8 pi H8 qX sd kb R8 k8=>⟨⟨RV⟩,λc u ec hc=>k8 c u (k7 c u ec hc) λz=>?_,pi,b8,m8,R8,sd,qX.trans aG,kb⟩⟩;rcases Qi.mp z with y|y
  ·exact hc (by rw[y];exact Qc.mpr rfl)
  rw[haH c y]at ec;cases ec
 rintro σ H7 ⟨⟨y2,rfl⟩,k7,aZ,b7,m7,R7,jz,aG,aK⟩;exact⟨RV,RV,RV,RV,l,RV,Gb (SqL.of R7.ls),fin aZ b7 m7 H7 R7 jz DH aK k7⟩
end
end K21
namespace L2
open PySem PySem.Spec PyProof.Rows
section
variable{X:Cx}
def zby{K:Nb}(hK:X.K=K):YL (.builtin "isinstance") (λxs H Q=>∃dd,Ex5 λ(a C:Nc) (c:V) (u:Value) (b:Bool)=>Aj6 (xs=[Gq,c]) (H a=some (ExO a Gi dd)) (VC C) (∀u',RelV c u'→u'=u) (PySem.W.kitOne K Gi u=some b) (Q (.bl b) H)):=hK▸call_isi_ex
def pair_eq{q r:Str×Str}:((GY 2).all (λj=>if j=0 then q.1==r.1 else q.2==r.2)&&true)=decide (q=r):=by rw[show List.range 2=[0,1] from rfl,Wp];simp[Prod.ext_iff]
def pair_at{A:No}{s:Nh}{l b:Nc}{q r:Str×Str}{t1 t2 t3 t4:Tok}(h:A.units<cLine)(p:s.heap.IsTuple l #[.str q.1 t1,.str q.2 t2])(p2:s.heap.IsTuple b #[.str r.1 t3,.str r.2 t4]):SeqAt.RcAt A s Hw (DK b) (decide (q=r)):=by
 rw[←pair_eq];refine SeqAt.RcAt.tuples (e:=λj=>if j=0 then q.1==r.1 else q.2==r.2) p p2 h λj j1 j2=>?_;have iq:j<2:=by simpa using j1
 match j,iq with
 |0,_=>exact Jb q.1 t1 r.1 t3
 |1,_=>exact Jb q.2 t2 r.2 t4
def op_ne_pairsS(hu:X.A.units<cLine):WU (λx y H Q=>Ex4 λ(a b:Nc) (q r:Str×Str)=>Aj5 (x=.ref a) (y=.ref b) (H a=some (.tup [.str q.1,.str q.2])) (H b=some (.tup [.str r.1,.str r.2])) (Q (.bl (!decide (q=r))) H)):=by
 intro a6 s σ H x y v u Q I rx ry h;obtain⟨a,b,q,r,rfl,rfl,ha,hb,k⟩:=h;cases rx;cases ry;obtain⟨_,a8,r1,p⟩:=JJ ha;obtain⟨_,aO,r2,p2⟩:=UJ _ hb;obtain⟨u1,u2,rfl,⟨t1,rfl⟩,⟨t2,rfl⟩⟩:=vals2 r1;obtain⟨w1,w2,rfl,⟨t3,rfl⟩,⟨t4,rfl⟩⟩:=vals2 r2;refine SeqAt.RcNeAt.tuples (e:=λj=>if j=0 then q.1==r.1 else q.2==r.2) p p2 hu (λj j1 j2=>?_) _ _ _ _ ⟨.bl (!decide (q=r)),H,I,?_,k⟩
 ·have iq:j < 2:=by simpa using j1
  match j,iq with
  |0,_=>exact Jb q.1 t1 r.1 t3
  |1,_=>exact Jb q.2 t2 r.2 t4
 show Value.bool _=Value.bool _;congr 1;rw[←pair_eq];rfl
end
end L2
namespace K21
open PySem L2 Wb
inductive zhq(vs:List V)(H:Hp)(Q:VK):Prop
 |mk(a:Nc)(zs:Nj)(x:Str)(h0:vs=[.ref a,.str x])(h1:H a=some (.lst (zs.map V.str)))(h2:x∈zs)(h3:zs.length≤900)(h4:Q (.str (nxt zs x)) H)
def spBehindS:Sp:=λvs H Q _=>zhq vs H Q
structure RF(H:Hp)(d:Nc)(es:List Ent):Prop where
 dc:Rd H d FV
 nd:(es.map (·.1)).Nodup
 ro:∀e∈es,H e.2.2=some (DX Gc)
def RF.get(R:RF H d es)(he:e∈es):DGet H d (.str e.1) (FX (.ref e.2.2)):=.inl ⟨_,Sum.inr e.1,R.dc,rfl,(zg8 R.nd he).symm⟩
def RF.keep(R:RF H d es)(k:Keep [] H H'):RF H' d es:=
 ⟨R.dc.imp (λe=>k _ _ e DI) λ⟨o,e⟩=>⟨o,k _ _ e DI⟩,R.nd,λe he=>k _ _ (R.ro e he) DI⟩
def RF.inn{d:Nc}(R:RF H d es)(h:a∈es.map (·.1)):∃e∈es,e.1=a∧DGet H d (GH a) (FX (.ref e.2.2)):=by obtain⟨e,he,ea⟩:=Qj.mp h;have ea':e.1=a:=ea;subst ea';exact⟨e,he,rfl,R.get he⟩
structure Rnd(r:Nt)(s:Str×Str)(L:Nr):Prop where
 cy:∃t,L=s::t∧Lk (st r) s t s
 nd:L.Nodup
 al:∀u∈L,u.1∈r u.2
def rnd_of{ns:Nj}{r:Nt}{cs:List (GK (Str×Str))}{lab:Nx}(C:UM lab){s:Str×Str}(hs:s.1∈r s.2):∃L,Rnd r s L:=by
 obtain⟨c,fH,oi⟩:=Yn.mp ((C.cm s).mpr hs);obtain⟨A1,B1,ng⟩:=Uy oi;have jb:=zfl (ng▸Mq fH);have dM:(s::(B1++A1)).Perm c:=by rw[ng];refine List.perm_iff_count.mpr λa=>?_;simp only[List.count_append,List.count_cons];lia
 refine⟨s::(B1++A1),⟨RV,jb⟩,?_,λu hu=>C.inc fH (dM.mem_iff.mp hu)⟩;rw[dM.nodup_iff];have:=(zhi fH).nodup_iff.mp C.cf;rw[Zo]at this;exact this.1
inductive IspStepsS(vs:List V)(H:Hp)(Q:VK):Prop
 |mk (d:Nc) (es:List Ent) (cs:List (List (Str×Str))) (lab:Nx) (s:Str×Str) (h0:vs=[.ref d,.str s.1,.str s.2]) (h1:RF H d es) (h2:s.1∈row (rsOf es) s.2) (h3:Cert (es.map (·.1)) (row (rsOf es)) cs lab) (h4:es.length≤40)
  (h6:∀(t:Nc) (ps:Nn) (L:Nr) (H':Hp),H t=none→H' t=some (DX (ps.map V.ref))→zbd H' ps L→Rnd Gd s L→L.length≤1600→(∀a∈ps,H a=none)→Keep [] H H'→Q (DK t) H'):IspStepsS vs H Q
def spStepsS:Sp:=λvs H Q _=>IspStepsS vs H Q
def steps_len{es:List Ent}{r:Nt}{cs:List (GK (Str×Str))}{lab:Nx}(C:Cert FG r cs lab)(h:es.length≤40){L:Nr}(nd:L.Nodup)(al:∀u∈L,u.1∈r u.2):L.length≤1600:=by
 have bQ:∀u∈L,u∈(es.map (·.1)).flatMap λx=>(es.map (·.1)).map λy=>(x,y):=λu hu=>by have h1:=al u hu;refine List.mem_flatMap.mpr ⟨u.1,C.inn' h1,Qj.mpr ⟨u.2,C.inn h1,rfl⟩⟩
 have:=zgm nd bQ;rw[List.length_flatMap]at this;simp only[Qa,List.map_const',List.sum_replicate_nat]at this;have h2:es.length*es.length≤40*40:=Nat.mul_le_mul h h;lia
section
variable{P:Nk}{w:Nl}{K:Nb}{mg:Ng}{base:Np}
def ok_behindS(F:Z2 "_law_behind" "_law_behind" ze8 f fd)(a9:mg "len" = none):ZB 1 f fd ["_law_around", "_law_one"] spBehindS:=by
 refine F.okL scBehind DP;obtain⟨a,zs,x,rfl,ha,hx,hz,k⟩:=h;have hu:=zco hr;refine⟨_,zah (zbo (Z6 Gu (WX (RU (UX Jj Ji zem Gu Ho))
  (QY D4 a9 Zl Hu)) DU)),?_⟩
 obtain⟨i1,i2⟩:=index_of hx;have bg:0<zs.length:=Ul hx;have hm:(zs.idxOf x+1)%zs.length<zs.length:=XA bg;have g:(zs.map V.str)[(zs.idxOf x+1)%zs.length]?=some (GH (XV x)):=by rw[Qr,Qb hm];unfold nxt;simp[List.getD,hm]
 have e1:((zs.idxOf x:Nat):Int)+1=((zs.idxOf x+1:Nat):Int):=by lia
 have g2:NP ((((zs.idxOf x:Nat):Int)+1)%((zs.map V.str).length:Int))=some (GH (XV x)):=by rw[e1,Qa,←Int.natCast_emod];exact zau g
 refine⟨RV,RV,DV ha,RV,a,_,_,RV,rfl,ha,rfl,zc5 zs,i1,i2,_,RV,rfl,RV,a,RV,Ht ha,_,RV,rfl,?_,a,_,_,RV,rfl,DW ha,g2,k⟩;rw[Qa];exact zar9 ‹_›
def ok_stepsS(F:Z2 "_law_steps" "_law_steps" ze7 f fd)(FB:Z2 "_law_behind" "_law_behind" ze8 fb fdb)(bB:Z8 fdb ["_law_around", "_law_one"] [])(mB:mg "_law_behind" = some (DK fb))(GB:ZB 1 fb fdb ["_law_around", "_law_one"] spBehindS) :
  FnOk P w K mg base CX0 2 f fd [qR, "_law_p", "_law_q"] spStepsS:=by
 refine F.okL zct DP;obtain⟨d,es,cs,lab,sp,rfl,R,aI,C,aP,k⟩:=h;have hu:=zco hr;refine⟨_,zad (JZ zct.nd (za6 (V8 zae)))
  (zad (XH zct.nd (zdn (Z1 (FY (UO bB .nil za3 (zaa (Y0 (pv 2)) Ho))))))
  (zad (Ms (zav (op_ne_pairsS (Wq (Wa _) hu)) Rq (Z6 Go zai (λ_ _=>rfl)) rfl)
   (zad (RT Go (Y8 zae))
   (zah (XH zct.nd (zdn (zaa (YI DU) (zaa (UO bB .nil za3 (zaa (Y0 (YI DU)) (FY (YI DU)))) zae)))))))
  (zah (zbo Go)))),?_⟩
 obtain⟨L,⟨lt,eL,jb⟩,nd,al⟩:=rnd_of C aI;have rZ:=steps_len C aP nd al;have dM:0<L.length:=by rw[eL];simp
 have cB:∀k (hk:k<L.length),JT L[k]=L.getD (k+1) sp:=λk hk=>by have:=lk_get jb k (by rw[←eL];exact hk);rw[←eL,Qn,Qb hk]at this;exact this
 have rn:∀e∈es,e.2.1.length≤900:=λe he=>by
  have h1:e.2.1.Nodup:=by have:=C.rn e.1;rw[zb5 C.nd he]at this;exact this
  have:∀y∈e.2.1,y∈es.map (·.1):=λy hy=>C.inn' (x:=e.1) (by rw[zb5 C.nd he];exact hy);have:=zcn h1 this;rw[Qa]at this;lia
 have bw:∀{H':Hp},RF H' d es→∀q:Str×Str,q.1∈ZL q.2→∃e∈es,DGet H' d (.str q.2) (FX (.ref e.2.2))∧H' e.2.2=some (DX Gc)∧q.1∈e.2.1∧JT q=(q.2,DE q.1):=λ{H'} R' q hq=>by obtain⟨e,he,ee,g⟩:=R'.inn (C.inn hq);have hr:=zb5 C.nd he;rw[ee]at hr;exact⟨e,he,g,R'.ro e he,by rw[←hr];exact hq,by show(q.2,nxt (ZL q.2) q.1)=_;rw[hr]⟩
 have i0:∀x y:V,atI [x,y] ((0:Nat):Int)=some x:=λx y=>zau rfl;have i1:∀x y:V,atI [x,y] ((1:Nat):Int)=some y:=λx y=>zau rfl;have aR  :=sizeLine_eq;refine⟨RV,RV,(DO 2),λt0 fR=>⟨(DO 1),λl hl=>?_⟩⟩;have k1:Keep [] H (upd (ZQ t0 (.tup [.str sp.1,.str sp.2])) l (.lst [DK t0])):=(D0 fR).trans (D0 hl);have ntl:t0≠l:=zab (o:=_) zac hl;have dU:(upd (ZQ t0 (.tup [.str sp.1,.str sp.2])) l (.lst [DK t0])) t0=some (.tup [.str sp.1,.str sp.2]):=by rw[zaf ntl];exact zac
 have bZ:(upd (ZQ t0 (.tup [.str sp.1,.str sp.2])) l (.lst [DK t0])) l=some (.lst [DK t0]):=zac;have fl:H l=none:=zas (xs:=[]) (D0 fR) hl DI;generalize upd (ZQ t0 (.tup [.str sp.1,.str sp.2])) l (.lst [DK t0])=H1 at k1 dU bZ;have R1:=R.keep k1;obtain⟨e,he,g1,g2,g3,g5⟩:=bw R1 sp aI;refine⟨RV,RV,RV,d,RV,g1,RV,_,e.2.1,sp.1,rfl,g2,g3,rn e he,(DO 2),λt ht=>?_⟩;have h0:L[0]'(dM)=sp:=by
  have:L[0]?=some sp:=by rw[eL];rfl
  exact(Zk.mp this).2
 have e5:[V.str sp.2,V.str (DE sp.1)]=[V.str (L.getD 1 sp).1,V.str (L.getD 1 sp).2]:=by rw[←cB 0 dM,h0,g5]
 rw[e5];have nlt:l≠t:=zab bZ ht;have mh:∀{a:Nc},H1 a=none→H a=none:=λ{a} h=>zas k1 h DI;refine⟨λm σ H2=>Ex3 λ(n:Nat) (t:Nc) (as:Nn)=>Aj9 (m=L.length-n) (n<L.length) (σ=[DQ d,FX (.str sp.1),FX (.str sp.2),DQ l,DQ t]) (Keep [l] H1 H2) (H2 l=some (DX ((t0::as).map V.ref))) (zbd H2 (t0::as) (L.take (n+1))) (H2 t=some (.tup [.str (L.getD (n+1) sp).1,.str (L.getD (n+1) sp).2])) (as.length=n) (Aj2 (∀a∈t0::as,H a=none) (H t=none)),
  ⟨_,0,t,[],rfl,dM,rfl,D0 ht,DY nlt bZ,?_,zac,rfl,λa ha=>by rw[Qc.mp ha];exact fR,mh ht⟩,?_⟩
 ·rw[show L.take (0+1)=[sp] by rw[eL];rfl];exact .cons (DY (zab dU ht) dU) .nil
 rintro m σ H2 ⟨n,t,as,rfl,hn,rfl,k2,aq,pa,gP,cG,cF,hft⟩;have iI:=k2 _ _ dU (DJ ntl);refine⟨RV,RV,l,_,_,RV,rfl,DW aq,(show atI ((t0::as).map V.ref) ((0:Nat):Int)=some (DK t0) from zau rfl),t,t0,L.getD (n+1) sp,sp,rfl,rfl,gP,iI,RV,?_⟩;by_cases oH:n+1=L.length
 ·have hL:L.getD (n+1) sp=sp:=by rw[Qn,Wt DH];rfl
  refine za4 (by rw[decide_eq_true hL];rfl) ?_;rw[Qt DH]at pa;exact⟨RV,k l (t0::as) L H2 fl aq pa ⟨⟨lt,eL,jb⟩,nd,al⟩ rZ cF λc o ec _=>k2 c o (k1 _ _ ec DI) (by simpa using BN fl)⟩
 have bq:n+1 < L.length:=by lia
 have fG:L.getD (n+1) sp=L[n+1]:=by rw[Qn,Qb bq];rfl
 rw[fG]at gP ⊢;have aD:L[n+1]≠sp:=λz=>by rw[←h0]at z;have:=(Wh (h₀:=bq) (h₁:=dM) nd).mp z;lia
 refine zbm (by rw[decide_eq_false aD];rfl) ?_;have ie:t≠l:=zbf gP aq DS;refine⟨_,λ σ' H' z=>z,RV,DV aq,RV,l,_,RV,rfl,aq,by rw[Qa,Zc];lia,?_⟩;have k3:Keep [l] H1 (QW l FZ):=k2.trans (Keep.wr Qe);have eJ:(QW l FZ) t=some (.tup [.str L[n+1].1,.str L[n+1].2]):=by rw[zaf ie];exact gP
 have gv:(QW l FZ) l=some (DX ((t0::(as++[t])).map V.ref)):=by rw[zac,←Yq,Qs];rfl
 have kQ:zbd (QW l FZ) (t0::(as++[t])) (L.take (n+1+1)):=by rw[Qo bq,←Yq];refine zap (zbd.keep pa λb x y eb=>?_) (Hy eJ);rw[zaf (zbf eb aq DS)];exact eb
 generalize QW l FZ=H3 at k3 eJ gv kQ;have R3:RF H3 d es:=⟨R1.dc.imp (λz=>k3 _ _ z (by simpa using zbf z bZ (by intro q;cases q))) λ⟨o,z⟩=>⟨o,k3 _ _ z (by simpa using zbf z bZ (by intro q;cases q))⟩,R1.nd,λe he=>k3 _ _ (R1.ro e he) (by simpa using zab (R.ro e he) fl)⟩;obtain⟨e,he,g1,g2,g3,g5⟩:=bw R3 L[n+1] (al _ (Qm bq));refine⟨RV,t,_,_,RV,rfl,HQ eJ,i1 _ _,RV,RV,t,_,_,RV,rfl,HQ eJ,i1 _ _,d,RV,g1,RV,t,_,_,RV,rfl,HQ eJ,i0 _ _,_,e.2.1,L[n+1].1,rfl,g2,g3,rn e he,(DO 2),λt' cj=>?_⟩;have e6:[V.str L[n+1].2,V.str (DE L[n+1].1)]=[V.str (L.getD (n+1+1) sp).1,V.str (L.getD (n+1+1) sp).2]:=by rw[←cB (n+1) bq,g5]
 rw[e6];have nF:l≠t':=zab gv cj;have ft':H t'=none:=mh (zas k3 cj (by simpa using Zj nF));refine⟨L.length-(n+1),DH,n+1,t',as++[t],rfl,bq,rfl,Rf (D0 cj),DY nF gv,zbd.keep kQ λb x y eb=>by rw[zaf (zab eb cj)];exact eb,zac,by rw[Qk,cG];rfl,λa ha=>?_,ft'⟩;rw[←Yq]at ha;rcases Qg.mp ha with z|z
 ·exact cF a z
 rw[Qc.mp z];exact hft
end
end K21
namespace L2
open PySem
def ix_tupK{X:Cx}{K:Nb}(hK:X.K=K):NW (rIxT K):=hK▸zet
end L2
namespace K21
open PySem L2 Wb
abbrev zcj:Stmt:=top 32
inductive IspLFaces(vs:List V)(H:Hp)(Q:VK):Prop
 |mk(d:Nc)(es:List Ent)(cs:List (List (Str×Str)))(lab:Nx)(h0:vs=[.ref d])(h1:RF H d es)(h2:es.length≤40)(h4:Cert (es.map (·.1)) (row (rsOf es)) cs lab)(h5:∀(l:Nc) (as:Nn) (zss:List (List Str)) (Ls:List (List (Str×Str))) (H':Hp),H' l=some (.lst (as.map V.ref))→as.length≤20000→Paired (zbr H') as zss→zss.Perm ((zcs es).map sing++Ls.map nmL)→zss.Pairwise leL→zba (row (rsOf es)) Ls→H l=none→Keep [] H H'→Q (.ref l) H')
def spLFaces:Sp:=λvs H Q _=>IspLFaces vs H Q
def leP_lex{a b:Str×Str}(h1:leS a.1 b.1)(h2:a.1=b.1→leS a.2 b.2):leP a b:=by
 show(Tm.pairO Tm.strO Tm.strO).blt (keyP b) (keyP a)=false;show(VF a.1.cps.toList||(!VG b.1.cps.toList&&VH a.2.cps.toList))=false;have e1:VF a.1.cps.toList=false:=decide_eq_false h1;rw[e1,Bool.false_or];cases e2:VG b.1.cps.toList with
 |true=>rfl
 |false=>have e3:VH a.2.cps.toList=false:=decide_eq_false (h2 (Tm.str_ext (Tm.strO.total _ _ e2 e1)));rw[e3];rfl
def leS_at{ws:Nj}(h:ws.Pairwise leS){i:Nat}(hi:i<ws.length){u:Str}(hu:u∈ws)(hn:u∉ws.take i):leS ws[i] u:=by
 rw[←Zh i ws]at hu;rcases Qg.mp hu with z|z
 ·exact absurd z hn
 rw[Zp hi]at z;rcases Qi.mp z with y|y
 ·rw[y];exact λz=>Wm _ z
 have h2:=h.sublist (Xj i ws);rw[Zp hi,Wk]at h2;exact h2.1 u y
theorem Paired.impL{α β:Type}{R S:α→β→Prop}:∀{as:List α} {bs:List β},(∀a b,a∈as→R a b→S a b)→WQ as bs→Paired S as bs
 |_,_,_,.nil=>.nil
 |_,_,h,.cons r t=>.cons (h _ _ Qe r) (Paired.impL (λa b hb=>h a b (WD hb)) t)
def Keep.fr(k:Keep [] H H')(h:H a=none):Keep [] H (YQ a o):=λc u ec hc=>by rw[zaf (BN h)];exact k c u ec hc
structure LF(H0 H:Hp)(r:Nt)(fo se:Nc)(fa sa:Nn)(zss:List (List Str))(iso:Nj)(Ls:List (List (Str×Str))):Prop where
 hf:H fo=some (DX (fa.map V.ref))
 pf:Vz fa zss
 pm:zss.Perm (iso.map sing++Ls.map nmL)
 hs:H se=some (DX (sa.map V.ref))
 ps:N3 sa Ls.flatten
 fc:∀L∈Ls,Vx L
 nd:Ls.flatten.Nodup
 al:∀s∈Ls.flatten,s.1∈r s.2
 fn:∀a∈fa,H0 a=none
 ns:se≠fo
def LF.keep{H':Hp}(h:YA Ls)(k:Keep [] H H'):LF H0 H' r fo se fa sa zss iso Ls:=
 ⟨k _ _ h.hf DI,zee k h.pf,h.pm,k _ _ h.hs DI,zbd.keep h.ps λb x y eb=>k _ _ eb DI,h.fc,h.nd,h.al,h.fn,h.ns⟩
def flat_len{β:Type}:∀{Ls:List (List β)},(∀L∈Ls,L≠[])→Ls.length≤Ls.flatten.length:=by
 intro Ls;induction Ls with
 |nil=>intro _;exact Qd _
 |cons L t ih=>intro h;have h1:=ih λL' cg=>h L' (WD cg);have h2:0<L.length:=Wz.mpr (h L Qe);rw[Zc,Yo,Qk];lia
def LF.len{es:List Ent}{cs:List (GK (Str×Str))}{lab:Nx}(h:YA Ls)(C:Cert FG r cs lab)(aP:es.length≤40):fa.length≤iso.length+1600∧sa.length≤1600:=by
 have h1:=steps_len C aP h.nd h.al;have h2:=Yc h.ps;have h3:=Yc h.pf;have h4:=h.pm.length_eq;rw[Qk,Qa,Qa]at h4;have h5:=flat_len (Ls:=Ls) λL hL=>by obtain⟨s,t,e,_⟩:=(h.fc L hL).cy;rw[e];exact NL _
 lia
def LF.put2{u pd:Nc}{zs:Nj}{ay:Nn}{db:List (GK (Str×Str))}(h:YA Ls)(hu:zbr H u zs)(fu:H0 u=none)(nu:u≠fo)(pm:(zss++[zs]).Perm (iso'.map sing++db.map nmL))(hs:H pd=some (DX (ay.map V.ref)))(ps:N3 ay db.flatten)(fc:∀L∈db,Vx L)(nd:db.flatten.Nodup)(al:∀s∈db.flatten,s.1∈r s.2)(ns:pd≠fo):LF H0 (Hh fo (fa.map V.ref++[DK u])) r fo pd (fa++[u]) ay (zss++[zs]) iso' db:=by
 refine⟨by rw[zac,Qs];rfl,?_,pm,DY ns hs,?_,fc,nd,al,λa ha=>?_,ns⟩
 ·refine zap (Paired.impL (λa z ha e=>?_) h.pf) (.cons ?_ .nil)
  ·have:a≠fo:=Db h.hf (by
    intro z1;have z2:z.map V.str=fa.map V.ref:=by injection z1
    cases fa with
    |nil=>cases ha
    |cons b t=>cases z with
     |nil=>cases z2
     |cons c w=>rw[Ql,Ql]at z2;injection z2 with z3 _;cases z3)
   show Bi a=_;rw[zaf this];exact e
  show Bi u=_;rw[zaf nu];exact hu
 ·exact zbd.keep ps λb x y eb=>by rw[zaf (zbf eb h.hf DS)];exact eb
 rcases Qg.mp ha with z|z
 ·exact h.fn a z
 rw[Qc.mp z];exact fu
def LF.put{u:Nc}{zs:Nj}(h:YA Ls)(hu:zbr H u zs)(fu:H0 u=none)(nu:u≠fo)(pm:(zss++[zs]).Perm (iso'.map sing++Ls.map nmL)):LF H0 (Hh fo (fa.map V.ref++[DK u])) r fo se (fa++[u]) sa (zss++[zs]) iso' Ls:=
 h.put2 hu fu nu pm h.hs h.ps h.fc h.nd h.al h.ns
def rnd_new{r:Nt}{s:Str×Str}{L:Nr}{Ls:List (GK (Str×Str))}(R:Rnd r s L)(hf:∀L∈Ls,Vx L)(hn:s∉Ls.flatten):∀u∈L,u∉Ls.flatten:=by
 intro u hu z;obtain⟨L',cg,jV⟩:=Yn.mp z;obtain⟨gh,t',rfl,k',_⟩:=(hf L' cg).cy;obtain⟨t,rfl,k⟩:=R.cy;have clo:∀v,v∈gh::t'→st r v∈gh::t':=λv hv=>by
  rcases lk_clo k' v (Qi.mp hv) with z|z
  ·rw[z];exact Qe
  exact WD z
 obtain⟨A,B,e⟩:=Uy hu;have c:NK (A++u::B):=⟨s,t,e.symm,k⟩;have al:=lk_all (P:=λu=>u∈gh::t') clo (zfl c) jV;refine hn (Yn.mpr ⟨_,cg,?_⟩);have hs:s∈A++u::B:=by rw[←e];exact Qe
 rcases Qg.mp hs with z|z
 ·exact al s (Y6 z)
 rcases Qi.mp z with y|y
 ·rw[y];exact jV
 exact al s (UT y)
def eX:Stmt→Expr
 |.Expr e _=>e
 |_=>.Name "" ⟨0,0,0,0⟩
def bFor:Stmt→List Stmt
 |.For _ _ b _ _=>b
 |_=>[]
def bIf:Stmt→List Stmt
 |.If _ b _ _=>b
 |_=>[]
abbrev csLF:Scope:=scOf (KD (eX ((bIf ((bFor ((bFor (sAt zcj 2)).getD 1 zcj)).getD 0 zcj)).getD 2 zcj)))
def csLF_k:csLF.kind=.function:=by rfl
def csLF_c:∀y∈csLF.names,y.2≠.cell:=by decide+kernel
def csLF_n:∀y∈csLF.names,y.2=.local→csLF.names.lookup y.1=some .local:=by decide+kernel
def csLF_f:∀y∈csLF.names,y.2=.free→(zag zcj).names.lookup y.1=some .cell∨(zag zcj).names.lookup y.1=some .free:=by decide+kernel
def ndLF:(["_law_step"]:List Str).Nodup:=by decide+kernel
section
variable{P:Nk}{w:Nl}{K:Nb}{mg:Ng}{base:Np}
def zda:zaw [qR, "_law_found", "_law_seen", "_law_place",qO, "_law_steps_here"] [qR] (zag zcj):=fsk
def ok_lfaces(F:Z2 "_law_faces" "_law_faces" zcj f fd)(FS:Z2 "_law_steps" "_law_steps" ze7 fs fds)(bS:Z8 fds [qR, "_law_p", "_law_q"] [])(mS:mg "_law_steps" = some (DK fs))(GS:ZB 2 fs fds [qR, "_law_p", "_law_q"] spStepsS)(aB:mg "sorted" = none):ZB 3 f fd [qR] spLFaces:=by
 refine F.okL zda DP;obtain⟨d,es,cs,lab,rfl,R,aP,C,k⟩:=h;have hu:=zco hr;have eG:=Ki hu;have pU:(A.deeper (PyProof.Rows.envOfC "_law_faces" (zag zcj) s.heap.objs.size f cdv)).units+8<cLine:=Wf (Nat.add_le_add_left (by decide:8≤64) _) hr.units;have aR:=sizeLine_eq;refine⟨_,zad (KG zda.nd Hx)
  (zad (BQ zda.nd Hx)
  (zad (QE (za2 (XI D4 aB Yp Hu)) (N6 zda.nd)
   (zad (zcg (NO (Y0 Go) Hx Hl) (zah (RT Gs (FY (za6 Rv)))) za9)
   (zah (QE (za2 (zaj zdh D4 aB Yp (FY (Y0 (pv 3))))) (zbe 4 zda.nd)
    (zah (zcg (zav (zg4 hu) (zdn (QX (Y8 zae))) Gy rfl)
     (zad (MT zda.nd (Bm bS .nil za3 (ZP (QX (Y8 zae)))))
     (zad (BQ zda.nd (BX Gy Rr))
     (zah (zax (Z' Gs (zaa (zia (M:=["_law_step"]) (ix:=[none]) ⟨csLF_k,csLF_c,csLF_n,csLF_f,rfl,ndLF,λj i x h1 h2=>by
       match j,h1,h2 with
       |0,_,h2=>cases h2
       |n+1,h1,_=>cases h1⟩ rfl (za2 Rr) (λC a6 ex s H=>BL ndLF) (λC a6 ex s H=>zdb) (λC a6 ex s H=>zay (ix_tupK (K:=K) rfl) Gu zai DU)) zae)))))) za9))))))
  (zah (zbo (zaj (zcx pU) D4 aB Yp Ho))))),?_⟩
 refine⟨(DO 0),λfo g8=>⟨(DO 0),λi7 hse=>?_⟩⟩;have nfs:fo≠i7:=zab (o:=_) zac hse;have k1:Keep [] H (upd (ZQ fo Fb) i7 Fb):=(D0 g8).trans (D0 hse);have oG:(upd (ZQ fo Fb) i7 Fb) fo=some Fb:=by rw[zaf nfs];exact zac
 have jZ:(upd (ZQ fo Fb) i7 Fb) i7=some Fb:=zac;generalize upd (ZQ fo Fb) i7 Fb=H1 at k1 oG jZ;have R1:=R.keep k1;refine⟨RV,d,_,FG,rfl,R1.dc,zgq es,λl ws hl ad ag=>?_⟩;replace ag:=ag Fo;have k2:Keep [] H (QG l Ga):=k1.trans (D0 hl);have aq:(QG l Ga) l=some Ga:=zac;have ki:=(zaf (o:=.lst (ws.map V.str)) (zab oG hl)).trans oG;have dW:=(zaf (o:=.lst (ws.map V.str)) (zab jZ hl)).trans jZ;have nlf:l≠fo:=Zj (zab oG hl);generalize QG l Ga=H2 at k2 aq ki dW;have dS:ws.length≤40:=by rw[ad.length_eq,Qa];exact aP
 generalize fU:row (rsOf es)=r at *;refine⟨l,rfl,⟨_,DW aq⟩,zew (zs:=ws) (λi σ H'=>Aj3 (Ex4 λse x3 x4 x5=>Aj2 (σ=[DQ d,DQ fo,DQ se,x3,x4,x5]) (Ex4 λfa sa zss Ls=>Aj2 (VP ((ws.take i).filter λx=>(r x).isEmpty) Ls) (∀x∈ws.take i,∀y∈r x,(x,y)∈Ls.flatten))) (Keep [fo] H2 H') (Keep [] H H'))
  ⟨⟨i7,_,_,_,rfl,[],[],[],[],⟨ki,.nil,.refl _,dW,.nil,(λL hL=>by cases hL),Yh,(λs hs=>by cases hs),(λa ha=>by cases ha),Zj nfs⟩,λx hx=>(by cases hx)⟩,Keep.refl,k2⟩ (λi σ H' _ hh=>SqL.of (hh.2 _ _ aq (DJ nlf))) ?_ ?_⟩
 ·rintro i hi σ H3 ⟨⟨se,x3,x4,x5,rfl,fa,sa,zss,Ls,lf,ap⟩,k3,kX⟩;have R3:=R.keep kX;have aX:ws[i]∈es.map (·.1):=ad.mem_iff.mp (Qm hi);obtain⟨e,he,ee,g⟩:=R3.inn aX;have af:r ws[i]=e.2.1:=by rw[←fU,←ee];exact VI he
  have tk:ws.take Fj=ws.take i++[ws[i]]:=Qo hi;have bn:=R3.ro e he;have ba:e.2.1.length≤40:=by have h1:=C.rn ws[i];rw[af]at h1;have:∀y∈e.2.1,y∈es.map (·.1):=λy hy=>C.inn' (x:=ws[i]) (DR af hy);have:=zcn h1 this;rw[Qa]at this;lia
  have ja:=lf.len C aP;have hil:((ws.take i).filter λx=>(r x).isEmpty).length≤40:=BS (by rw[Zi];lia);refine⟨RV,RV,d,RV,g,(DO 0),λq hq=>?_⟩;have nrq:e.2.2≠q:=zab bn hq;refine⟨e.2.2,q,RV,rfl,DW (by rw[zaf nrq];exact bn),DW zac,RV,?_⟩;have kq:Keep [] H3 (QN q Fb):=Keep.new hq;have jL:=lf.keep kq;generalize QN q Fb=H4 at kq jL;have cI:Keep [] H H4:=kX.trans kq;have k4:Keep [fo] H2 H4:=k3.trans (kq.sub DI);by_cases gB:e.2.1=[]
  ·refine zbm (by rw[gB];rfl) ⟨_,rfl,.inl ⟨rfl,_,SqL.of jL.hf⟩,_,rfl,(DO 1),λu jV=>?_⟩;have ku:Keep [] H4 (QZ u (.lst [.str ws[i]])):=Keep.new jV;have hu5:(QZ u (.lst [.str ws[i]])) u=some (.lst [.str ws[i]]):=zac;have nH:=jL.keep ku;generalize QZ u (.lst [.str ws[i]])=H5 at ku hu5 nH;have nuf:u≠fo:=Zj (zab jL.hf jV);refine⟨fo,_,RV,rfl,nH.hf,Fo,?_⟩;have fu:H u=none:=zas cI jV DI;have jl:(ws.take Fj).filter (λx=>(r x).isEmpty)=(ws.take i).filter (λx=>(r x).isEmpty)++[ws[i]]:=by rw[tk,Jm,Jl (by rw[af,gB];rfl),Kd]
   have lf6:=nH.put (zs:=[ws[i]]) (iso':=(ws.take i).filter (λx=>(r x).isEmpty)++[ws[i]]) hu5 fu nuf (by rw[Qs,Qq];refine(nH.pm.append_right _).trans ?_;rw[Qq];exact Vo Yu);have k6:Keep [fo] H5 (Q2 fo (DX (fa.map V.ref++[DK u]))):=Keep.wr DI;have eB:Keep [] H (Q2 fo (DX (fa.map V.ref++[DK u]))):=(cI.trans ku).fr g8;generalize Q2 fo (DX (fa.map V.ref++[DK u]))=H6 at lf6 k6 eB;have R6:=R.keep eB;have g6:=R6.get he;rw[ee]at g6;refine⟨RV,RV,d,RV,g6,e.2.2,[],rfl,SqL.of (by have:=R6.ro e he;rw[gB]at this;exact this),λl7 p9 aG aK _=>?_⟩;have e7:p9=[]:=Jk.mp aK.length_eq;subst e7;have k7:Keep [] H6 (BP l7 (DX (([]:List Str).map V.str))):=Keep.new aG;have bG:(BP l7 (DX (([]:List Str).map V.str))) l7=some (DX (([]:List Str).map V.str)):=zac;generalize BP l7 (DX (([]:List Str).map V.str))=H7 at k7 bG;refine⟨l7,rfl,⟨_,DW bG⟩,zew (zs:=[]) (λj σ H'=>Aj2 (σ=[DQ d,DQ fo,DQ se,FX (.str ws[i]),x4,x5]) (H'=H7)) ⟨rfl,rfl⟩ (λj σ H' _ hh=>by rw[hh.2];exact SqL.of bG) (λj hj=>by cases hj) ?_⟩;rintro σ H8 ⟨rfl,rfl⟩;refine⟨⟨se,_,_,RV,fa++[u],sa,zss++[[ws[i]]],Ls,jl▸lf6.keep k7,λx hx y hy=>?_⟩,((k4.trans (ku.sub DI)).trans k6).trans (k7.sub DI),eB.trans k7⟩;rw[tk]at hx;rcases Qg.mp hx with z|z
   ·exact ap x z y hy
   rw[Qc.mp z,af,gB]at hy;cases hy
  have jl:(ws.take Fj).filter (λx=>(r x).isEmpty)=(ws.take i).filter (λx=>(r x).isEmpty):=by rw[tk,Jm,Uk (by rw[af];simpa using gB),Kd,Zu]
  have aD:(e.2.1.map V.str).isEmpty=false:=by
   cases h9:e.2.1 with
   |nil=>exact absurd h9 gB
   |cons a t=>rfl
  refine za4 (by rw[if_neg DL];exact aD) ?_;have R4:=R.keep cI;have g4:=R4.get he;rw[ee]at g4;refine⟨RV,RV,d,RV,g4,e.2.2,e.2.1,rfl,DW (R4.ro e he),λl7 vs aG aK bV=>?_⟩;replace bV:=bV DH;have k7:Keep [] H4 (QZ l7 (DX (vs.map V.str))):=Keep.new aG;have bG:(QZ l7 (DX (vs.map V.str))) l7=some (DX (vs.map V.str)):=zac;have lf7:=jL.keep k7;have nl7:l7≠fo:=Zj (zab jL.hf aG);generalize QZ l7 (DX (vs.map V.str))=H7 at k7 bG lf7;refine⟨l7,rfl,⟨_,DW bG⟩,zew (zs:=vs) (λj σ H'=>Aj3 (Ex3 λse x4 x5=>Aj2 (σ=[DQ d,DQ fo,DQ se,FX (.str ws[i]),x4,x5]) (Ex4 λfa sa zss Ls=>Aj3 (VP ((ws.take i).filter λx=>(r x).isEmpty) Ls) (∀x∈ws.take i,∀y∈r x,(x,y)∈Ls.flatten) (∀y∈vs.take j,(ws[i],y)∈Ls.flatten))) (Keep [fo] H7 H') (Keep [] H H'))
   ⟨⟨se,_,_,rfl,fa,sa,zss,Ls,lf7,ap,λy hy=>(by cases hy)⟩,Keep.refl,cI.trans k7⟩ (λj σ H' _ hh=>SqL.of (hh.2 _ _ bG (DJ nl7))) ?_ ?_⟩
  ·rintro j hj σ H8 ⟨⟨se,x4,x5,rfl,fa,sa,zss,Ls,lf,ap,dE⟩,k8,pI⟩;have hvj:vs[j]∈r ws[i]:=by rw[af];exact aK.mem_iff.mp (Qm hj)
   have nv:vs.take (j+1)=vs.take j++[vs[j]]:=Qo hj;refine⟨RV,RV,(DO 2),λt9 lq=>?_⟩;have k9:Keep [] H8 (J8 t9 (.tup [.str ws[i],.str vs[j]])):=Keep.new lq;have h9:(J8 t9 (.tup [.str ws[i],.str vs[j]])) t9=some (.tup [.str ws[i],.str vs[j]]):=zac;have jK:=lf.keep k9;generalize J8 t9 (.tup [.str ws[i],.str vs[j]])=H9 at k9 h9 jK;have nO:=pI.trans k9;refine⟨RV,t9,se,(ws[i],vs[j]),sa,Ls.flatten,rfl,rfl,h9,SqL.of jK.hs,jK.ps,RV,?_⟩;by_cases gq:(ws[i],vs[j])∈Ls.flatten
   ·refine za4 (by rw[Gv gq];rfl) ⟨⟨se,_,_,rfl,fa,sa,zss,Ls,jK,ap,λy hy=>?_⟩,k8.trans (k9.sub DI),nO⟩;rw[nv]at hy;rcases Qg.mp hy with z|z
    ·exact dE y z
    rw[Qc.mp z];exact gq
   refine zbm (by rw[Gf gq];rfl) ?_;have ja:=jK.len C aP;refine⟨RV,RV,RV,d,es,cs,lab,(ws[i],vs[j]),rfl,R.keep nO,by rw[fU];exact KH hvj,DR fU C,aP,λtA pa L HA ftA htA paA RL hLl _ kA=>?_⟩;rw[fU]at RL;have lfA:=jK.keep kA;have bo:=Yc paA;refine⟨RV,RV,se,tA,_,RV,rfl,lfA.hs,htA,by rw[Qa,Qa];lia,λq hq=>?_⟩;have kq:Keep [] HA (upd HA q (DX (sa.map V.ref++pa.map V.ref))):=Keep.new hq;have hqB:(upd HA q (DX (sa.map V.ref++pa.map V.ref))) q=some (DX ((sa++pa).map V.ref)):=by rw[zac,Qs]
   have lfB:=lfA.keep kq;have qc:=kq _ _ htA DI;have paB:zbd _ pa L:=zbd.keep paA λb x y eb=>kq _ _ eb DI;have nqf:q≠fo:=Zj (zab lfA.hf hq);generalize upd HA q (DX (sa.map V.ref++pa.map V.ref))=HB at kq hqB lfB qc paB;refine⟨RV,.inl ⟨rfl,_,SqL.of lfB.hf⟩,RV,tA,rfl,⟨_,DW qc⟩,lc_at (xs:=pa.map V.ref) (λ τ=>∃x0,τ=[x0]) ((nmL L).map V.str) (by rw[Qa,Qa,Qa,bo]) (DW qc) Fo ⟨none,rfl⟩ ?_ λD hD=>?_⟩
   ·rintro n hn iY τ ⟨x0,rfl⟩ kc qZ;rw[Qa]at hn;obtain⟨bi,hp⟩:=za1 paB hn;rw[Zr];refine⟨RV,pa[n],_,_,RV,rfl,HQ hp,(zau rfl:atI [V.str L[n].1,V.str L[n].2] ((0:Nat):Int)=some (.str L[n].1)),?_⟩;have:=qZ [FX (.ref pa[n])] ⟨_,rfl⟩;rw[Zr,Zr]at this;exact this
   have kD:Keep [] HB (upd HB D (DX ((nmL L).map V.str))):=Keep.new hD;have hDC:(upd HB D (DX ((nmL L).map V.str))) D=some (DX ((nmL L).map V.str)):=zac;have lfC:=lfB.keep kD;have hqC:=kD _ _ hqB DI;have paC:zbd _ pa L:=zbd.keep paB λb x y eb=>kD _ _ eb DI;have nDf:D≠fo:=Zj (zab lfB.hf hD);generalize upd HB D (DX ((nmL L).map V.str))=HC at kD hDC lfC hqC paC;have kkC:Keep [] H HC:=((nO.trans kA).trans kq).trans kD;have fD:H D=none:=zas ((nO.trans kA).trans kq) hD DI;refine⟨fo,_,RV,rfl,lfC.hf,Fo,?_⟩;have new:=rnd_new RL lfC.fc gq;have hFL:Vx L:=by obtain⟨t,eL,kL⟩:=RL.cy;refine⟨(ws[i],vs[j]),t,eL,kL,λu hu=>?_⟩;have hu2:=RL.al u hu;have eG:u.2∈r u.1:=KH hu2;have bq:u.1∉ws.take i:=λz=>new u hu (ap u.1 z u.2 eG);refine leP_lex (leS_at ag hi (ad.mem_iff.mpr (C.inn eG)) bq) λe1=>?_;have dN:ws[i]=u.1:=e1;refine leS_at bV hj (aK.mem_iff.mpr (by rw[←af,dN];exact eG)) λz=>new u hu ?_;have:=dE u.2 z;rw[dN]at this;exact this
   have rY:(Ls++[L]).flatten=Ls.flatten++L:=by rw[Wr,Yo,Ko,Zu]
   have lfE:LF H (DF (DX (fa.map V.ref++[GJ]))) r fo q (fa++[D]) (sa++pa) (zss++[nmL L]) ((ws.take i).filter λx=>(r x).isEmpty) (Ls++[L]):=by
    refine lfC.put2 (zs:=nmL L) hDC fD nDf ?_ hqC (by rw[rY];exact zap lfC.ps paC) (λL' cg=>?_) ?_ (λs hs=>?_) nqf
    ·rw[Qs,← Qq];exact lfC.pm.append_right _
    ·rcases Qg.mp cg with z|z
     ·exact lfC.fc L' z
     rw[Qc.mp z];exact hFL
    ·rw[rY];exact Zo.mpr ⟨lfC.nd,RL.nd,λa ha b hb e=>new b hb (e▸ha)⟩
    rw[rY]at hs;rcases Qg.mp hs with z|z
    ·exact lfC.al s z
    exact RL.al s z
   have k6:Keep [fo] HC (DF (DX (fa.map V.ref++[GJ]))):=Keep.wr DI;have eB:Keep [] H (DF (DX (fa.map V.ref++[GJ]))):=kkC.fr g8;refine⟨⟨q,_,RV,fa++[D],sa++pa,zss++[nmL L],Ls++[L],lfE,λx hx y hy=>?_,λy hy=>?_⟩,(((((k8.trans (k9.sub DI)).trans (kA.sub DI)).trans (kq.sub DI)).trans (kD.sub DI)).trans k6),eB⟩
   ·rw[Wr];exact UT (ap x hx y hy)
   rw[Wr];rw[nv]at hy;rcases Qg.mp hy with z|z
   ·exact UT (dE y z)
   rw[Qc.mp z];obtain⟨t,eL,_⟩:=RL.cy;refine Y6 ?_;rw[Yo,Ko,Zu,eL];exact Qe
  rintro σ H8 ⟨⟨se,x4,x5,rfl,fa,sa,zss,Ls,lf,ap,dE⟩,k8,pI⟩;rw[Qa,Qt D9]at dE;refine⟨⟨se,_,_,RV,fa,sa,zss,Ls,jl▸lf,λx hx y hy=>?_⟩,(k4.trans (k7.sub DI)).trans k8,pI⟩;rw[tk]at hx;rcases Qg.mp hx with z|z
  ·exact ap x z y hy
  rw[Qc.mp z]at hy ⊢;exact dE y (aK.mem_iff.mpr (by rw[←af];exact hy))
 rintro σ H3 ⟨⟨se,x3,x4,x5,rfl,fa,sa,zss,Ls,lf,ap⟩,k3,kX⟩;rw[Qa,Qt D9]at lf ap;have ja:=lf.len C aP;have hil:(ws.filter λx=>(r x).isEmpty).length≤40:=BS dS;have sF:∀a zs,zbr H3 a zs→lstV H3 Gq=zs.map λx:Str=>x.cps.toList:=λa zs e=>by rw[zie e,Zq];rfl
 refine⟨RV,fo,RV,SqL.of lf.hf,λv hv=>?_,λl7 p9 aG cO bV=>?_⟩
 ·obtain⟨a,ha,rfl⟩:=Qj.mp hv;obtain⟨j,hj,rfl⟩:=Zb ha;obtain⟨_,e⟩:=za1 lf.pf hj;exact⟨_,RV,e⟩
 obtain⟨sE,rfl,aK⟩:=zgc cO;obtain⟨kG,iQ,cD⟩:=zdc aK lf.pf;rw[Wv]at bV;have cb:MS Ls:=⟨lf.fc,lf.nd,λs=>⟨lf.al s,λh=>ap s.1 (ad.mem_iff.mpr (C.inn' h)) s.2 (KH h)⟩⟩;have rp:(ws.filter λx=>(r x).isEmpty).Perm (zcs es):=by rw[iso_eq R.nd,fU];exact ad.filter _
 exact k l7 sE kG Ls _ zac (by rw[aK.length_eq];lia) (Paired.imp' (λa z e=>by show Bi a=_;rw[zaf (BF aG)];exact e) cD) (iQ.trans (lf.pm.trans ((rp.map _).append_right _))) (show kG.Pairwise leL from zcl (S:=λa b=>(Tm.listO Tm.strO).kle a b) (f:=λa=>lstV H3 Gq) (g:=λz:List Str=>z.map λx:Str=>x.cps.toList) cD sF bV) cb (zas kX aG DI) (kX.trans (D0 aG))
abbrev zdl:Stmt:=top 33
inductive IspLPiece(vs:List V)(H:Hp)(Q:VK):Prop
 |mk(d:Nc)(es:List Ent)(cs:List (List (Str×Str)))(lab:Nx)(x:Str)(h0:vs=[.ref d,.str x])(h1:RF H d es)(h2:es.length≤40)(h3:Cert (es.map (·.1)) (row (rsOf es)) cs lab)(h4:x∈es.map (·.1))(h5:∀(l:Nc) (zs:Nj) (H':Hp),H' l=some (.lst (zs.map V.str))→zs.Nodup→zs.Pairwise leS→(∀y,y∈zs↔y∈es.map (·.1)∧lab y=lab x)→H l=none→Keep [] H H'→Q (.ref l) H')
def spLPiece:Sp:=λvs H Q _=>IspLPiece vs H Q
def zib{X:Cx}{K:Nb}(hK:X.K=K):W8 (compareOp .NotIn) (rIn K true):=hK▸zcv
def sorted_same:∀{as bs:Nj},as.Nodup→bs.Nodup→as.Pairwise leS→bs.Pairwise leS→(∀y,y∈as↔y∈bs)→as=bs:=λ{as bs} na nb sa sb h=>((Jw na nb).mpr h).eq_of_pairwise (λa b _ _=>zes _ _) sa sb
def bWh:Stmt→List Stmt
 |.While _ b _ _=>b
 |_=>[]
abbrev csLP:Scope:=scOf (KD (eX ((bWh (sAt zdl 2)).getD 0 zdl)))
def csLP_k:csLP.kind=.function:=by rfl
def csLP_c:∀y∈csLP.names,y.2≠.cell:=by decide+kernel
def csLP_n:∀y∈csLP.names,y.2=.local→csLP.names.lookup y.1=some .local:=by decide+kernel
def csLP_f:∀y∈csLP.names,y.2=.free→(zag zdl).names.lookup y.1=some .cell∨(zag zdl).names.lookup y.1=some .free:=by decide+kernel
def csLP_l:csLP.names.lookup ("_law_piece_here" : Str)=some NameKind.free:=by decide+kernel
def ndLP:([qO, "_law_piece_here"]:List Str).Nodup:=by decide+kernel
def zf0:zaw [qR, "_law_place", "_law_piece_here", "_law_at"] [qR, "_law_place"] (zag zdl):=fsk
def ok_lpiece(F:Z2 "_law_piece" "_law_piece" zdl f fd)(aB:mg "sorted" = none)(a9:mg "len" = none):ZB 1 f fd [qR, "_law_place"] spLPiece:=by
 refine F.okL zf0 DP;obtain⟨d,es,cs,lab,x,rfl,R,aP,C,hx,k⟩:=h;have hu:=zco hr;have aR:=sizeLine_eq;refine⟨_,zad (ps_set (i:=2) zf0.nd rfl (Or.inr rfl) (za6 Ho))
  (zad (JZ zf0.nd zai)
  (zad (Ms (zav op_lt Go (RS Hi) Hl)
   (zad (zax (UX PySem.F.slot_list_extend PySem.F.type_list_extend mt_extend Gy (zaa (zia (M:=[qO, "_law_piece_here"]) (ix:=[none,FX 2]) ⟨csLP_k,csLP_c,csLP_n,csLP_f,rfl,ndLP,λj i x h1 h2=>by
     match j,h1,h2 with
     |0,_,h2=>cases h2
     |1,h1,h2=>cases h1;cases h2;exact⟨rfl,csLP_l⟩
     |n+2,h1,_=>cases h1⟩ rfl (za2 (Y0 (Z6 Gy Go DU))) (λC a6 ex s H=>BL ndLP)
     (λC a6 ex s H=>zh6 (zav (zib (K:=K) rfl) Gu Gs rfl)) (λC a6 ex s H=>pv 0)) zae)))
   (zah (JZ zf0.nd (RU Go)))))
  (zah (zbo (zaj zdh D4 aB Yp Hi))))),?_⟩
 refine⟨RV,(DO 1),λpl bo=>?_⟩;have k1:Keep [] H (ZQ pl (.lst [GH x])):=Keep.new bo;have cq:(ZQ pl (.lst [GH x])) pl=some (DX ([x].map V.str)):=zac;generalize ZQ pl (.lst [GH x])=H1 at k1 cq;generalize fU:row (rsOf es)=r at *;refine⟨λm σ H'=>Ex2 λ(bw:Nat) (zs:Nj)=>Aj8 (m=es.length-bw) (σ=[DQ d,Ri x,DQ pl,FX (.int (bw:Int))]) (H' pl=some (DX Gj)) zs.Nodup (∀z∈zs,z∈es.map (·.1)∧lab z=lab x) (x∈zs) (∀z∈zs.take bw,∀y∈r z,y∈zs) (Aj2 (bw≤zs.length) (Keep [] H H')),
  ⟨_,0,[x],rfl,rfl,cq,Ze.mpr ⟨DI,Yh⟩,λz hz=>(by rw[Qc.mp hz];exact⟨hx,rfl⟩),Qe,λz hz=>(by cases hz),HY,k1⟩,?_⟩
 rintro m σ H2 ⟨bw,zs,rfl,rfl,aF,dP,kY,du,sx,bK,k2⟩;have eF:zs.length≤es.length:=by have:=zcn dP λz hz=>(kY z hz).1;rwa[Qa]at this
 refine⟨RV,RV,pl,RV,Ht aF,_,RV,rfl,RV,?_⟩;rw[Qa];by_cases aa:bw<zs.length
 ·refine zbm (Gv DH) ⟨_,fun σ' H' zz=>zz,?_⟩;have nZ:zs[bw]∈zs:=Qm aa;have tk:zs.take (bw+1)=zs.take bw++[zs[bw]]:=Qo aa;have R2:=R.keep k2;obtain⟨e,he,ee,g⟩:=R2.inn (kY _ nZ).1;have af:r zs[bw]=e.2.1:=by rw[←fU,←ee];exact VI he
  have aY:e.2.1.Nodup:=by have:=C.rn zs[bw];rwa[af]at this
  have ba:e.2.1.length≤40:=by have:∀y∈e.2.1,y∈es.map (·.1):=λy hy=>C.inn' (x:=zs[bw]) (DR af hy);have:=zcn aY this;rw[Qa]at this;lia
  refine⟨RV,DV aF,RV,RV,RV,pl,_,_,RV,rfl,DW aF,zau (by rw[Qr,Qb aa];rfl),d,RV,g,e.2.2,rfl,⟨_,DW (R2.ro e he)⟩,lc_filt (xs:=e.2.1.map V.str) (λ τ=>∃x0,τ=[x0,some (.ref pl)]) (λv=>match v with | .str z=>decide (z∉zs)|_=>false) (SqL.of (R2.ro e he)) (by rw[Qa];lia) ⟨none,rfl⟩ ?_ (λD hD=>?_)⟩
  ·rintro y hy τ ⟨x0,rfl⟩ kk1 kk0 lS lT;obtain⟨a,ha,rfl⟩:=Qj.mp hy;refine⟨RV,RV,pl,RV,Ht aF,rfl,zc5 _,RV,?_⟩;rw[zfi];by_cases hz:a∈zs
   ·exact za4 (by rw[decide_eq_true hz];rfl) (lT (decide_eq_false (λn=>n hz)) _ ⟨_,rfl⟩)
   exact zbm (by rw[decide_eq_false hz];rfl) ⟨_,rfl,lS (Gv hz) _ ⟨_,rfl⟩⟩
  have ef:(e.2.1.map V.str).filter (λv=>match v with | .str z=>decide (z∉zs)|_=>false)=(e.2.1.filter λz=>decide (z∉zs)).map V.str:=by
   rw[Xz];rfl
  rw[ef];have hG:∀y,y∈e.2.1.filter (λz=>decide (z∉zs))↔y∈e.2.1∧y∉zs:=λy=>by rw[Kw,decide_eq_true_iff]
  have hGn:(e.2.1.filter λz=>decide (z∉zs)).Nodup:=aY.sublist Kz;have hGl:(e.2.1.filter λz=>decide (z∉zs)).length≤40:=BS ba;generalize(e.2.1.filter λz=>decide (z∉zs))=G at hG hGn hGl;have k3:Keep [] H (QW D (DX (G.map V.str))):=k2.trans (D0 hD);have gK:(QW D (DX (G.map V.str))) D=some (DX (G.map V.str)):=zac;have bp:=(zaf (o:=.lst (G.map V.str)) (zab aF hD)).trans aF;generalize QW D (DX (G.map V.str))=H3 at k3 gK bp;refine⟨pl,D,_,RV,rfl,bp,gK,by rw[Qa,Qa];lia,?_⟩;rw[←Qs];refine⟨RV,_,RV,rfl,es.length-(bw+1),DH,bw+1,zs++G,rfl,rfl,zac,?_,λz hz=>?_,UT du,λz hz y hy=>?_,by rw[Qk];lia,k3.fr bo⟩
  ·exact Zo.mpr ⟨dP,hGn,λa ha b hb ab=>((hG b).mp hb).2 (ab▸ha)⟩
  ·rcases Qg.mp hz with h|h
   ·exact kY z h
   have h1:z∈r zs[bw]:=by rw[af];exact ((hG z).mp h).1
   exact⟨C.inn' h1,(C.la _ _ h1).trans (kY _ nZ).2⟩
  rw[Ks DH,tk]at hz;rcases Qg.mp hz with h|h
  ·exact UT (sx z h y hy)
  rw[Qc.mp h,af]at hy;by_cases gM:y∈zs
  ·exact UT gM
  exact Y6 ((hG y).mpr ⟨hy,gM⟩)
 refine za4 (Gf DH) ?_;rw[Qt DH]at sx;refine⟨RV,pl,zs,rfl,DW aF,λl ws hl ad ag=>k l ws _ zac (ad.nodup_iff.mpr dP) (ag DH) (λy=>?_) (zas k2 hl DI) (k2.trans (D0 hl))⟩;rw[ad.mem_iff];constructor
 ·exact kY y
 rintro⟨h1,h2⟩;have hc:=C.co x hx y h1 h2.symm;clear h1 h2;induction hc with
 |refl=>exact du
 |step _ hz ih=>exact sx _ ih _ hz
abbrev sDue:Stmt:=top 36
def tri_perm{r r':Nt}{fc dl:List (GK Str)}{zs bz:Nj}(hr:∀x,(r x).length=(r' x).length)(hf:fc.Perm dl)(hz:zs.Perm bz):Bj zs=VJ dl bz:=by
 have e1:(zs.map λx=>(r x).length).sum=(bz.map λx=>(r' x).length).sum:=by rw[show(λx=>(r x).length)=λx=>(r' x).length from funext hr];exact(hz.map _).sum_nat
 have e2:(fc.filter λf=>decide (f.headD "" ∈ zs)).length=(dl.filter λf=>decide (f.headD "" ∈ bz)).length:=by rw[show(λf:List Str=>decide (f.headD "" ∈ zs))=λf=>decide (f.headD "" ∈ bz) from funext λf=>by rw[decide_eq_decide];exact hz.mem_iff];exact(hf.filter _).length_eq
 unfold zbj;rw[hz.length_eq,e1,e2]
def pcOf(ns:Nj)(lab:Nx)(x:Str):List Str:=ns.filter λy=>decide (lab y=lab x)
def pc_perm{ns:Nj}{lab:Nx}(nd:ns.Nodup){x:Str}{zs:Nj}(h1:zs.Nodup)(h2:∀y,y∈zs↔y∈ns∧lab y=lab x):zs.Perm (UE x):=
 (Jw h1 (Jp Kz nd)).mpr λy=>by rw[h2,Kw,decide_eq_true_iff]
def leS_tr{a b c:Str}(h:leS a b)(g:leS b c):leS a c:=λz=>by
 by_cases mQ:a=b
 ·subst mQ;exact g z
 by_cases hbc:b=c
 ·subst hbc;exact h z
 have l1:a.cps.toList < b.cps.toList:=Wd λq=>mQ (De h q);have l2:b.cps.toList<c.cps.toList:=Wd λq=>hbc (De g q);exact List.lt_asymm (List.lt_trans l1 l2) z
def due_same{ns jJ:Nj}{r r':Nt}{lab:Nx}{fc dl ws:List (GK Str)}{zss:List (GK Str)}{us:Nj}(nd:ns.Nodup)(hn:jJ.Perm ns)(hr:∀ x,(r x).length=(r' x).length)(hf:fc.Perm dl)(p:∀zs∈zss,zfn jJ lab zs)(bA:InRow jJ zss)(up:us.Perm ns)(uo:us.Pairwise leS) :
  (us.map λx=>Bj (UE x)).find? badT=(zss.map (VJ dl)).find? badT:=by
 have key:∀zs∈zss,∀x∈zs,Bj (UE x)=VJ dl zs:=λzs hz x hx=>by obtain⟨h1,s,hs,hm⟩:=p zs hz;exact tri_perm hr hf (pc_perm nd h1 λy=>by rw[hm,hn.mem_iff,((hm x).mp hx).2]).symm
 have inz:∀x∈us,∃zs∈zss,x∈zs:=λx hx=>bA.al x (hn.mem_iff.mpr (up.mem_iff.mp hx));have same:∀zs∈zss,∀bz∈zss,∀x,x∈zs→x∈bz→zs=bz:=λzs hz bz l6 x hx cc=>by obtain⟨h1,s,hs,hm⟩:=p zs hz;obtain⟨h1',s',bX,ou⟩:=p bz l6;exact sorted_same h1 h1' (bA.so _ hz) (bA.so _ l6) λy=>by rw[hm,ou,←((hm x).mp hx).2,←((ou x).mp cc).2]
 rw[List.find?_map,List.find?_map];cases hz:zss.find? (badT∘VJ dl) with
 |none=>
  rw[Ux]at hz;rw[Ux.mpr λx hx=>?_]
  ·rfl
  obtain⟨zs,h1,h2⟩:=inz x hx;show ¬badT (Bj (UE x))=true;rw[key zs h1 x h2];exact hz zs h1
 | some z0=>
  obtain⟨b0,A,B,e0,hA⟩:=List.find?_eq_some_iff_append.mp hz;have o0:z0∈zss:=by rw[e0];exact Y6 Qe
  obtain⟨h,hh⟩:∃h,z0.head?=some h:=by
   obtain⟨_,s,hs,hm⟩:=p z0 o0;cases z0 with
   |nil=>exact absurd ((hm s).mpr ⟨hs,rfl⟩) DI
   |cons a t=>exact⟨a,rfl⟩
  have rq:h∈z0:=List.mem_of_mem_head? hh;have o9:h∈us:=by obtain⟨_,s,hs,hm⟩:=p z0 o0;exact up.mem_iff.mpr (hn.mem_iff.mp ((hm h).mp rq).1)
  have bh:badT (Bj (UE h))=true:=by rw[key z0 o0 h rq];exact b0
  cases hu:us.find? (badT∘λx=>Bj (UE x)) with
  |none=>exact absurd bh (Ux.mp hu h o9)
  | some x0=>
   obtain⟨bx,A',B',e1,hA'⟩:=List.find?_eq_some_iff_append.mp hu;have hx0:x0∈us:=by rw[e1];exact Y6 Qe
   obtain⟨zx,nV,l9⟩:=inz x0 hx0;have kx:=key zx nV x0 l9;have ez:zx=z0:=by
    have bzx:badT (VJ dl zx)=true:=by rw[←kx];exact bx
    have kZ:=nV;rw[e0]at kZ;rcases Qg.mp kZ with q|q
    ·have:=hA zx q;rw[show(badT∘VJ dl) zx=true from bzx]at this;cases this
    rcases Qi.mp q with q|q
    ·exact q
    exfalso;have hp:=bA.hd;rw[e0]at hp;obtain⟨ne,dY⟩:=(Wk.mp (Zv.mp hp).2.1).1 zx q;obtain⟨g,hg⟩:∃g,zx.head?=some g:=by
     cases zx with
     |nil=>cases l9
     |cons a t=>exact⟨a,rfl⟩
    have l1:leS h g:=dY h hh g hg;have l2:leS g x0:=by
     have so:=bA.so zx nV;cases zx with
     |nil=>cases l9
     |cons a t=>
      cases hg;rcases Qi.mp l9 with y|y
      ·rw[y];exact λz=>Wm _ z
      exact(Wk.mp so).1 _ y
    have eh:h=x0:=by
     have ll:=o9;rw[e1]at ll uo;rcases Qg.mp ll with y|y
     ·have:=hA' h y;rw[show(badT∘λx=>Bj (UE x)) h=true from bh]at this;cases this
     rcases Qi.mp y with y|y
     ·exact y
     exact De (leS_tr l1 l2) ((Wk.mp (Zv.mp uo).2.1).1 h y)
    exact ne (same z0 o0 zx nV h rq (eh▸l9))
   show some (Bj (UE x0))=some (VJ dl z0);rw[kx,ez]
def dueV(o:Option T3):List V:=match o with
 |none=>[]
 |some t=>[iNt t.1,iNt t.2.1,iNt t.2.2]
inductive IspDue(vs:List V)(H:Hp)(Q:VK):Prop
 | mk (d:Nc) (es:List Ent) (cs:List (List (Str×Str))) (lab:Nx) (h0:vs=[.ref d]) (h1:RF H d es) (h2:es.length≤40) (h3:Cert (es.map (·.1)) (row (rsOf es)) cs lab)
   (h4:∀(l:Nc) (fc:Fz Str) (Ls:Fz (Str×Str)) (us:Nj) (H':Hp),fc.Perm ((zcs es).map sing++Ls.map nmL)→JB Ls→us.Perm FG→us.Pairwise leS→H' l=some (.lst (dueV ((us.map λx=>ZS fc (pcOf FG lab x)).find? badT)))→Keep [] H H'→Q Hw H'):IspDue vs H Q
def spDue:Sp:=λvs H Q _=>IspDue vs H Q
abbrev csDA:Scope:=scOf (KD (KD (eOf (DG 1))))
abbrev csDB:Scope:=scOf (KD (eOf (DG 2)))
def csDA_k:csDA.kind=.function:=by rfl
def csDA_c:∀y∈csDA.names,y.2≠.cell:=by decide+kernel
def csDA_n:∀y∈csDA.names,y.2=.local→csDA.names.lookup y.1=some .local:=by decide+kernel
def csDA_f:∀y∈csDA.names,y.2=.free→(zag sDue).names.lookup y.1=some .cell∨(zag sDue).names.lookup y.1=some .free:=by decide+kernel
def csDA_l:csDA.names.lookup qR=some NameKind.free:=by decide+kernel
def csDB_k:csDB.kind=.function:=by rfl
def csDB_c:∀y∈csDB.names,y.2≠.cell:=by decide+kernel
def csDB_n:∀y∈csDB.names,y.2=.local→csDB.names.lookup y.1=some .local:=by decide+kernel
def csDB_f:∀y∈csDB.names,y.2=.free→(zag sDue).names.lookup y.1=some .cell∨(zag sDue).names.lookup y.1=some .free:=by decide+kernel
def csDB_l:csDB.names.lookup ("_law_piece_here" : Str)=some NameKind.free:=by decide+kernel
def ndDA:(["_law_one",qR]:List Str).Nodup:=by decide+kernel
def ndDB:(["_law_face", "_law_piece_here"]:List Str).Nodup:=by decide+kernel
def scDue:zaw [qR, "_law_found", "_law_place", "_law_piece_here", "_law_ties", "_law_own"] [qR] (zag sDue):=fsk
def ok_due(F:Z2 "_law_due" "_law_due" sDue f fd)(FF:Z2 "_law_faces" "_law_faces" zcj ff fdf)(bF:Z8 fdf [qR] [])(mF:mg "_law_faces" = some (DK ff))(GF:ZB 3 ff fdf [qR] spLFaces)(FP:Z2 "_law_piece" "_law_piece" zdl fp fdp)(bP:Z8 fdp [qR, "_law_place"] [])(mP:mg "_law_piece" = some (DK fp))(GP:ZB 1 fp fdp [qR, "_law_place"] spLPiece)(a9:mg "len" = none)(iJ:mg "sum" = none)(aB:mg "sorted" = none):ZB 4 f fd [qR] spDue:=by
 refine F.okL scDue DP;obtain⟨d,es,cs,lab,rfl,R,aP,C,k⟩:=h;have hu:=zco hr;have aV:VE _:=hr.mono DL;have aR:=sizeLine_eq;refine⟨_,zad (KG scDue.nd (Bn bF .nil za3 Hu))
  (zad (QE (za2 (XI D4 aB Yp Hu)) (N5 scDue.nd)
   (zad (ps_set (i:=3) scDue.nd rfl (Or.inr rfl) (Mx bP .nil za3 (ZP Hi)))
   (zad (XH scDue.nd (Vd (NM D4 iJ PyProof.Rows.boot_sum (zaa (zia (M:=["_law_one",qR]) (ix:=[none,FX 0]) ⟨csDA_k,csDA_c,csDA_n,csDA_f,rfl,ndDA,λj i x h1 h2=>by
      match j,h1,h2 with
      |0,_,h2=>cases h2
      |1,h1,h2=>cases h1;cases h2;exact⟨rfl,csDA_l⟩
      |n+2,h1,_=>cases h1⟩ rfl (za2 Go) (λC a6 ex s H=>BL ndDA) (λC a6 ex s H=>zdb)
      (λC a6 ex s H=>zaj (ze0 (K:=K) rfl) D4 (by exact a9) Zl (FY (zge (by exact hu) (pv 1) (pv 0))))) zae)) zai))
   (zad (MT scDue.nd (QY D4 a9 Zl (zaa (zia (M:=["_law_face", "_law_piece_here"]) (ix:=[none,FX 3]) ⟨csDB_k,csDB_c,csDB_n,csDB_f,rfl,ndDB,λj i x h1 h2=>by
      match j,h1,h2 with
      |0,_,h2=>cases h2
      |1,h1,h2=>cases h1;cases h2;exact⟨rfl,csDB_l⟩
      |n+2,h1,_=>cases h1⟩ rfl (za2 Gs) (λC a6 ex s H=>BL ndDB)
      (λC a6 ex s H=>zh6 (zav (zfd (K:=K) rfl) (zay (zif (K:=K) rfl) Gu zai DU) Gs rfl)) (λC a6 ex s H=>pv 0)) zae)))
   (zah (zcg (V7 (QU (RS Rv) Rr) (RU Rq) Hl) (zah (zbo (za6 (zaa (RS Rv) (Y8 (UY zae)))))) za9))))))
  (zah (zbo Hx))),?_⟩
 refine⟨RV,d,es,cs,lab,rfl,R,aP,C,λfo fas fc Ls H1 cU mm oF cT _ cb _ k1=>?_⟩;have aD:∀z∈fc,∃h t,z=h::t:=λz hz=>by
  rcases Qg.mp (cT.mem_iff.mp hz) with y|y
  ·obtain⟨x,_,rfl⟩:=Qj.mp y;exact⟨x,[],rfl⟩
  obtain⟨L,hL,rfl⟩:=Qj.mp y;obtain⟨u,v,e,_⟩:=(cb.fa L hL).cy;rw[e];exact⟨_,RV⟩
 have rA:=hd_pair aD oF;have R1:=R.keep k1;refine⟨RV,d,_,FG,rfl,R1.dc,zgq es,λl ws hl ad ag=>?_⟩;replace ag:=ag Fo;have k2:Keep [] H1 (QG l Ga):=Keep.new hl;have aq:(QG l Ga) l=some Ga:=zac;generalize QG l Ga=H2 at k2 aq;have fC:=k2 _ _ cU DI;have jj:M7 (fc.map λz=>z.headD ""):=zdw (D:=d) (g:=d) k2 rA (λ_ _ _ _=>by simp);have ba:∀e∈es,e.2.1.length≤100:=λe he=>by have e1:=VI he;have:=zcn (C.rn e.1) (m:=es.map (·.1)) λy hy=>C.inn' hy;rw[e1,Qa]at this;lia
 refine⟨l,rfl,⟨_,DW aq⟩,zew (zs:=ws) (λi σ H'=>Aj3 (∀x∈ws.take i,badT (ZS fc (pcOf FG lab x))=false) (Keep [] H2 H') (Ex4 λx2 x3 x4 x5=>σ=[DQ d,DQ fo,x2,x3,x4,x5])) ⟨λx h=>(by cases h),Keep.refl,_,_,_,_,rfl⟩ (λi σ H' _ hh=>SqL.of (hh.2 _ _ aq DI)) ?_ ?_⟩
 ·rintro i hi σ H3 ⟨c9,k3,x2,x3,x4,x5,rfl⟩;have R3:=(R1.keep k2).keep k3;have aX:ws[i]∈es.map (·.1):=ad.mem_iff.mp (Qm hi);refine⟨RV,RV,d,es,cs,lab,ws[i],rfl,R3,aP,C,aX,λpl zs H4 bf de nX cJ _ k4=>?_⟩;have hzp:=pc_perm R.nd de cJ;have iE:ZS fc (pcOf FG lab ws[i])=ZS fc zs:=tri_perm (λ_=>rfl) (.refl _) hzp.symm;have R4:=R3.keep k4;have cK:∀z∈zs,∃e∈es,e.1=z:=λz hz=>Qj.mp ((cJ z).mp hz).1;have eF:zs.length≤100:=by have:=zcn de (m:=es.map (·.1)) λz hz=>((cJ z).mp hz).1;rw[Qa]at this;lia
  refine⟨RV,pl,rfl,⟨_,DW bf⟩,lc_at (xs:=zs.map V.str) (λ τ=>∃x0,τ=[x0,DQ d]) Fm (by rw[Qa,Qa,Qa]) (DW bf) Fo ⟨none,rfl⟩ ?_ (λD hD=>?_)⟩
  ·rintro j hj ji τ ⟨x0,rfl⟩ kk hk;rw[Qa]at hj;rw[Zr];obtain⟨en,aY,aE⟩:=cK _ (Qm hj);have dg:DGet H4 d (.str zs[j]) (FX (.ref en.2.2)):=by rw[←aE];exact R4.get aY
   refine⟨RV,RV,d,RV,dg,en.2.2,RV,Ht (R4.ro en aY),?_⟩;have e:((zs.map λx=>((ZL x).length:Int)).map V.int)[j]=V.int ((en.2.1.map V.str).length:Int):=by rw[Zr,Zr,←aE,VI aY,Qa]
   rw[e]at hk;exact hk _ ⟨_,rfl⟩
  have k5:Keep [] H4 (QZ D (.lst ((zs.map λx=>((ZL x).length:Int)).map V.int))):=Keep.new hD;have hZ:(QZ D (.lst Fm)) D=some (.lst Fm):=zac;generalize QZ D (.lst Fm)=H5 at k5 hZ;refine⟨D,RV,DW hZ,Fo,λn hn=>?_,?_⟩
  ·obtain⟨z,hz,rfl⟩:=Qj.mp hn;obtain⟨en,aY,aE⟩:=cK z hz;have h1:=ba en aY;rw[←aE,VI aY];lia
  have eM:(zs.map λx=>((ZL x).length:Int)).sum=(((zs.map λx=>(ZL x).length).sum:Nat):Int):=by rw[←sum_cast,Zq];rfl
  rw[eM];refine⟨_,RV,rfl,⟨DL,DL⟩,?_⟩;have fq:=k5 _ _ (k4 _ _ (k3 _ _ fC DI) DI) DI;have aW:=k5 _ _ bf DI;have lZ:Paired (ze1 H5) fas (fc.map λz=>z.headD ""):=zdw (D:=d) (g:=d) ((Rf k4).trans k5) jj (λ_ _ _ _=>by simp);refine⟨RV,fo,rfl,⟨_,DW fq⟩,lc_filt (xs:=fas.map V.ref) (λ τ=>∃x0,τ=[x0,DQ pl]) (inPc H5 zs) (DW fq) Fo ⟨none,rfl⟩ ?_ (λD2 n8=>?_)⟩
  ·rintro x hx τ ⟨x0,rfl⟩ kk1 kk0 lS lT;obtain⟨a,ha,rfl⟩:=Qj.mp hx;obtain⟨j,hj,rfl⟩:=Zb ha;obtain⟨c7,bK⟩:=za1 lZ hj;have aX:=zig (zs:=zs) bK;obtain⟨t,et⟩:=bK;refine⟨RV,fas[j],_,_,RV,rfl,DW et,zau (j:=0) rfl,RV,pl,RV,Ht aW,rfl,zc5 zs,RV,?_⟩;cases hb:decide ((fc.map λz=>z.headD "")[j]∈zs) with
   |true=>exact zbm (show inV _ _=true by rw[zfi];exact hb) ⟨_,rfl,lS (aX.trans hb) _ ⟨_,rfl⟩⟩
   |false=>exact za4 (show inV _ _=false by rw[zfi];exact hb) (lT (aX.trans hb) _ ⟨_,rfl⟩)
  have k6:Keep [] H5 (Q2 D2 (DX ((fas.map V.ref).filter (inPc H5 zs)))):=Keep.new n8;refine⟨D2,RV,Ht zac,?_⟩;rw[filt_len lZ];have jo:((fc.map λz=>z.headD "").filter λh=>decide (h∈zs)).length=(ZS fc zs).2.2:=by rw[Xz,Qa];rfl
  have iH:((((zs.map λx=>(ZL x).length).sum:Nat):Int)/2)=(((ZS fc zs).2.1:Nat):Int):=rfl;have fW:(zs.map V.str).length=(ZS fc zs).1:=Qa _;rw[jo,iH];have di:=k6 _ _ aW DI;generalize Q2 D2 (DX ((fas.map V.ref).filter (inPc H5 zs)))=H6 at k6 di;have eB:Keep [] H H6:=((((k1.trans k2).trans k3).trans k4).trans k5).trans k6;refine⟨RV,pl,RV,Ht di,?_⟩;rw[fW];refine⟨RV,_,RV,rfl,RV,_,RV,rfl,rfl,RV,?_⟩;cases c8:badT (ZS fc zs) with
  |false=>
   refine za4 ?_ ⟨λz hz=>?_,((Rf k4).trans k5).trans k6,_,_,_,_,rfl⟩
   ·rw[Jq,decide_eq_true_iff];refine congrArg V.int ?_;have:=of_decide_eq_false c8;lia
   rw[Qo hi]at hz;rcases Qg.mp hz with y|y
   ·exact c9 z y
   rw[Qc.mp y,iE];exact c8
  |true=>
   refine zbm ?_ ?_
   ·rw[Yr,decide_eq_false_iff_not];intro z;have z:=V.int.inj z;have:=of_decide_eq_true c8;lia
   refine⟨_,rfl,pl,_,rfl,Ht di,_,rfl,_,rfl,(by show 3≤sizeLine;lia),λlo dj=>k lo fc Ls ws _ cT cb ad ag ?_ (eB.trans (D0 dj))⟩;rw[zac,take_bad (f:=λx=>ZS fc (pcOf FG lab x)) (q:=badT) hi c9 (DR iE c8),iE,fW];rfl
 rintro σ H3 ⟨c9,k3,x2,x3,x4,x5,rfl⟩;rw[Qa,Qt D9]at c9;refine⟨(by show 0≤sizeLine;lia),λlo dj=>k lo fc Ls ws _ cT cb ad ag ?_ (((k1.trans k2).trans k3).trans (D0 dj))⟩;rw[zac,Ux.mpr λy hy=>?_]
 ·rfl
 obtain⟨z,hz,rfl⟩:=Qj.mp hy;rw[c9 z hz];decide
end
end K21
namespace K21
open PySem L2 Wb PySem.W
def zh9{X:Cx}{K:Nb}{e:Expr}{f:Str}{pos:Pos}{ta:TE}(hK:X.K=K)(he:Z9 e ta)(hb:attributeBase e f X.env (FJ e)=eval e X.env):Z9 (.Attribute e f pos) (tXg K ta f):=hK▸pe_xget he hb
abbrev sTold:Stmt:=top 37
structure KN(K:Nb)(c he n1 n2 n3 n4:Nc):Prop where
 ex:VC c
 em:exmOne K (DK c) (DK c)=some true
 k1:kitOne K (DK c) (DK n1)=some false
 k2:kitOne K (DK c) (DK n2)=some false
 k3:kitOne K (DK c) (DK n3)=some false
 k4:kitOne K (DK c) (DK n4)=some false
 kh:kitOne K (DK c) (DK he)=some true
 kv:kitOne K (DK c) (.type "ValueError")=some true
inductive IspTold(vs:List V)(H:Hp)(Q:VK):Prop
 | mk (l:Nc) (as:Nn) (es:List Ent) (cs:List (List (Str×Str))) (lab:Nx) (h0:vs=[.ref l]) (h2:RwAt H l as es) (h3:es.length≤40) (h4:(∀ e∈es,zc7 e.1)) (h5:Cert (es.map (·.1)) (row (rsOf es)) cs lab)
   (h6:∀(lo:Nc) (ts es2:List Ent) (fc zss:Fz Str) (Ls:Fz (Str×Str)) (H':Hp),es2.Perm es→Mv es2→fc.Perm ((zcs ts).map sing++Ls.map nmL)→JC Ls→(∀zs∈zss,zfn (ts.map (·.1)) lab zs)→InRow (ts.map (·.1)) zss→H' lo=some (DX (dueV ((zss.map (JD fc)).find? badT)))→Keep [] H H'→Q (DK lo) H'):IspTold vs H Q
def spTold:Sp:=λvs H Q _=>IspTold vs H Q
section
variable{P:Nk}{w:Nl}{K:Nb}{mg:Ng}{base:Np}{C c he n1 n2 n3 n4:Nc}
def scTold:zaw ["_law_rows_here", "_law_told_here", "e", "_law_others"] ["_law_rows_here"] (zag sTold):=fsk
def ok_told(F:Z2 "_law_told" "_law_told" sTold f fd)(mE:mg "HueError" = some (DK he))(m0:mg "NotFlat" = some (DK c))(m1:mg "NoName" = some (DK n1))(m2:mg "Twice" = some (DK n2))(m3:mg "OneWay" = some (DK n3))(m4:mg "NoPlace" = some (DK n4))(cA:mg "isinstance" = none)(hve:mg "ValueError" = none)(kn:KN K c he n1 n2 n3 n4)(cN:ExcI K c he fc0)(a1:XJ c "many_places")(a2:XJ c "many_ties")(a3:XJ c "many_faces")(mk:Mk K C fi)(bI:Z8 fdi ["self", "rows"] [])(mW:mg "Web" = some Gi)(GI:ZC (V4 w) 4 fi fdi ["self", "rows"] (spInit C c)):ZB 6 f fd ["_law_rows_here"] spTold:=by
 refine F.okL scTold (λcdv A outer s0 H vs Q E hr h=>?_);obtain⟨l,as,es,cs,lab,rfl,R,aP,hok,Ct,k⟩:=h;have aR:=sizeLine_eq;refine⟨_,zad (KG scTold.nd Hx)
  (zad (ps_try (i:=2) (EX:=λ_ cls dd H'=>∃ (d:Nc) (t:T3),cls=.ref c∧dd=some d∧H' d=some (XdO d (fldT t))∧∀ (lo:Nc) (H2:Hp),H2 lo=some (DX (dueV (FX t)))→Keep [] H' H2→Q (DK lo) H2) rfl rfl rfl
   (λE' pn hp=>zah (zax (pe_make mk GI hr rfl mW bI .nil (λa6 σ=>hp a6 σ) Hu)))
   (λa=>zad (JZ scTold.nd (za6 (zaa (zaj (zby (K:=K) rfl) D4 cA Wg (Z1 (FY (zfc (v:=.ref n1) D4 m1 rfl))))
     (zaa (zaj (zby (K:=K) rfl) D4 cA Wg (Z1 (FY (zfc (v:=.ref n2) D4 m2 rfl))))
     (zaa (zaj (zby (K:=K) rfl) D4 cA Wg (Z1 (FY (zfc (v:=.ref n3) D4 m3 rfl))))
     (zaa (zaj (zby (K:=K) rfl) D4 cA Wg (Z1 (FY (zfc (v:=.ref n4) D4 m4 rfl)))) zae))))))
    (zad (KG scTold.nd (za6 (zaa (zh9 (K:=K) rfl Gy rfl) (zaa (zh9 (K:=K) rfl Gy rfl) (FY (zh9 (K:=K) rfl (pv 2) rfl))))))
    (zah (zcg (PW.pt (pw_or (zav (zfd (K:=K) rfl) pe_bl Go rfl) (pw_or (pt_not (pt_val (zaj (zby (K:=K) rfl) D4 cA Wg (Z1 (FY (zfc (v:=.ref he) D4 mE rfl)))))) (pw_or1 (pt_not (pt_val (zaj (zby (K:=K) rfl) D4 cA Wg (Z1 (FY (pe_tyN (T:= "ValueError") rfl hve PyProof.Rows.Boot.«ValueError»))))))))))
     (zah ps_no) za9))))
   scTold.nd rfl rfl rfl m0)
  (zah (zbo Gs))),?_⟩
 refine⟨(DO 0),λt0 ft0=>?_⟩;have k0:Keep [] H (ZQ t0 Fb):=Keep.new ft0;have fR:(ZQ t0 Fb) t0=some Fb:=zac;generalize ZQ t0 Fb=H0 at k0 fR;refine⟨⟨RV,λx dx fx fdx ne=>?_⟩,?_⟩
 ·have R0:=R.keep k0;have k1:Keep [] H0 (upd (upd H0 dx (.own x)) x (.ins C dx [])):=λb u e _=>by rw[zaf (BF fx),zaf (BF fdx)];exact e
  refine⟨x,dx,l,as,es,cs,lab,rfl,zac,R0.keep k1,aP,hok,Ct,λts es2 fc zss Ls H' hp ht cT cb cn eO kk=>?_⟩;have kH:Keep [] H H':=λb u e hb=>kk b u (k1 b u (k0 b u e DI) DI) (by have:=k0 b u e DI;simpa using zab this fx);refine⟨λhn=>⟨rfl,_,rfl,?_⟩,λt cj d hd=>⟨d,t,rfl,rfl,hd,λlo H2 dj k2=>?_⟩⟩
  ·refine k t0 ts es2 fc zss Ls H' hp ht cT cb cn eO ?_ kH;rw[hn];exact kk _ _ (k1 _ _ fR DI) (by simpa using zab fR fx)
  exact k lo ts es2 fc zss Ls H2 hp ht cT cb cn eO (DR cj dj) (kH.trans k2)
 rintro σ' cls dd H' a hl ⟨d,t,rfl,rfl,hd,q⟩ na;obtain⟨x0,x1,x2,x3,rfl⟩:∃x0 x1 x2 x3,σ'=[x0,x1,x2,x3]:=by
  match σ',hl with
  |[x0,x1,x2,x3],_=>exact⟨_,_,_,RV⟩
 refine⟨kn.em,?_⟩;have nda:d≠a:=λz=>by rw[z,na]at hd;cases hd
 have ka:Keep [] H' (YQ a (JV (FX d))):=λb u e _=>by rw[zaf (BF na)];exact e
 have ha:(YQ a (JV (FX d))) a=some (JV (FX d)):=zac;have jm:(YQ a (JV (FX d))) d=some (XdO d (fldT t)):=by rw[zaf nda];exact hd
 generalize YQ a (JV (FX d))=H1 at ka ha jm;refine⟨RV,FX d,a,c,DK n1,DK n1,false,rfl,ha,kn.ex,λ_ h=>h,kn.k1,RV,FX d,a,c,DK n2,DK n2,false,rfl,ha,kn.ex,λ_ h=>h,kn.k2,RV,FX d,a,c,DK n3,DK n3,false,rfl,ha,kn.ex,λ_ h=>h,kn.k3,RV,FX d,a,c,DK n4,DK n4,false,rfl,ha,kn.ex,λ_ h=>h,kn.k4,(DO 4),λlo flo=>?_⟩;have k2:Keep [] H1 (QG lo (.lst [Ge,Ge,Ge,Ge])):=Keep.new flo;have dj:(QG lo (.lst [Ge,Ge,Ge,Ge])) lo=some (.lst [Ge,Ge,Ge,Ge]):=zac;generalize QG lo (.lst [Ge,Ge,Ge,Ge])=H2 at k2 dj;have oM:=k2 _ _ ha DI;have ko:=k2 _ _ jm DI;refine⟨RV,⟨a,c,he,fc0,d,fldT t,RV,oM,cN,a1,kn.ex,ko,rfl,RV,⟨a,c,he,fc0,d,fldT t,RV,oM,cN,a2,kn.ex,ko,rfl,RV,⟨a,c,he,fc0,d,fldT t,RV,oM,cN,a3,kn.ex,ko,rfl,(DO 3),λtl ftl=>?_⟩⟩⟩⟩;have k3:Keep [] H2 (QW tl (.lst [iNt t.1,iNt t.2.1,iNt t.2.2])):=Keep.new ftl;have iG:(QW tl (.lst [iNt t.1,iNt t.2.1,iNt t.2.2])) tl=some (.lst [iNt t.1,iNt t.2.1,iNt t.2.2]):=zac;have kk:Keep [] H' (QW tl (.lst [iNt t.1,iNt t.2.1,iNt t.2.2])):=(ka.trans k2).trans k3;have ha3:=k3 _ _ oM DI;have qU:=k3 _ _ dj DI;exact⟨RV,lo,RV,Ht qU,rfl,rfl,RV,U3 ⟨RV,FX d,a,c,DK he,DK he,true,rfl,ha3,kn.ex,λ_ h=>h,kn.kh,RV,U3 ⟨RV,FX d,a,c,.ty "ValueError",.type "ValueError",true,rfl,ha3,kn.ex,λ_ h=>h,kn.kv,RV,U3 ⟨RV,q tl _ iG kk⟩⟩⟩⟩
end
end K21
namespace L2
open PySem PySem.Spec PyProof.Rows
def ziq{X:Cx}{K:Nb}(hK:X.K=K):YL (.type "list") (λxs H Q=>Ex2 λp ys=>Aj3 (xs=[HU]) ((YE p ys)∨(Dm ys)) (∀l,H l=none→Q Hw (Hh l ys))):=hK▸zft
def op_ne_ints{X:Cx}(hu:X.A.units<cLine):WU (λx y H Q=>Ex3 λ(l b:Nc) (zs:List Int)=>Aj5 (x=.ref l) (y=.ref b) (Q4 l (zs.map V.int)) (Q4 b (zs.map V.int)) (Q Ge H)):=by
 intro a6 s σ H x y v u Q I rx ry h;obtain⟨l,b,zs,rfl,rfl,h1,h2,q⟩:=h;cases rx;cases ry;obtain⟨a8,r,pl,_⟩:=I.list h1;obtain⟨aO,r2,ic,_⟩:=I.list h2;have l1:=r.length;have l2:=r2.length;refine SeqAt.RcNeAt.lists (e:=λ_=>true) pl.isList ic.isList (by rw[Qp,Qp];lia) hu (λj j1 j2=>?_) _ _ _ _ ⟨Ge,H,I,?_,q⟩
 ·have a1:j < (zs.map V.int).length:=by rw[l1];simpa using j1
  have a2:j<zs.length:=by simpa using a1
  have g:(zs.map V.int)[j]?=some (.int zs[j]):=by simp[a2]
  obtain⟨u1,e1,t1,rfl⟩:=r.get g;obtain⟨u2,e2,t2,rfl⟩:=r2.get g;rw[Jd,Jd,(Zk.mp e1).2,(Zk.mp e2).2];have:=Xm (A:=X.A.in1) (s:=s) zs[j] t1 zs[j] t2;rw[beq_self_eq_true]at this;exact this
 show Value.bool _=Value.bool false;simp
end L2
namespace K21
open PySem L2 Wb
abbrev sLaw:Stmt:=top 38
inductive IspLaw(K:Nb)(vs:List V)(H:Hp)(Q:VK):Prop
 |mk(a:Nc)(ns:List Int)(h0:vs=[.ref a])(h1:SqL K H a (ns.map V.int))(h2:ns.length≤63)(h3:∀H',Q (.bl true) H')
def spLaw(K:Nb):Sp:=λvs H Q _=>IspLaw K vs H Q
abbrev SameR:List Ent→List Ent→Prop:=Paired λe' e=>e'.1=e.1∧e'.2.1=e.2.1
def sameR_rs(h:SameR d8 es):rsOf d8=rsOf es:=by
 unfold rsOf;induction h with
 |nil=>rfl
 |cons h _ ih=>rw[Ql,Ql,ih,h.1,h.2]
def sameR_names(h:SameR d8 es):d8.map (·.1)=es.map (·.1):=by
 induction h with
 |nil=>rfl
 |cons h _ ih=>rw[Ql,Ql,ih,h.1]
def due_ints(o:Option T3):∃zs:List Int,dueV o=zs.map V.int:=by
 cases o with
 |none=>exact⟨[],rfl⟩
 |some t=>exact⟨[(t.1:Int),(t.2.1:Int),(t.2.2:Int)],rfl⟩
def fc_same{es ts:List Ent}{fc dl:List (GK Str)}{Ls db:List (GK (Str×Str))}(S:Sy FG Gd)(hn:(ts.map (·.1)).Perm FG)(hr:∀x,∃k,XL x=(ZL x).drop k++(ZL x).take k)(h1:fc.Perm ((zcs es).map sing++Ls.map nmL))(i1:JB Ls)(h2:dl.Perm ((zcs ts).map sing++db.map nmL))(i2:JC db):fc.Perm dl:=by
 have hp:∀x,(XL x).Perm (ZL x):=λx=>by obtain⟨k,e⟩:=hr x;rw[e];exact zf2 _ k
 have f1:JC Ls:=i1.turn (λs=>(hp s.2).mem_iff.symm) λs hs=>by obtain⟨k,e⟩:=hr s.2;unfold st;rw[e,nxt_rot (S.rn _) k hs]
 have e1:(zcs es).Perm (zcs ts):=by
  rw[iso_eq S.nd,iso_eq (hn.nodup_iff.mpr S.nd)];have:(λx=>(XL x).isEmpty)=λx=>(ZL x).isEmpty:=funext λx=>by have:=(hp x).length_eq;rw[Wp,List.isEmpty_iff_length_eq_zero,List.isEmpty_iff_length_eq_zero,this]
  rw[this];exact(hn.filter _).symm
 exact(h1.trans ((e1.map _).append ((f1.one i2).map _))).trans h2.symm
abbrev csLw:Scope:=scOf (KD (KD (eOf (bAt (sAt sLaw 0) 1))))
def csLw_k:csLw.kind=.function:=by rfl
def csLw_c:∀y∈csLw.names,y.2≠.cell:=by decide+kernel
def csLw_n:∀y∈csLw.names,y.2=.local→csLw.names.lookup y.1=some .local:=by decide+kernel
def csLw_f:∀y∈csLw.names,y.2=.free→(zag sLaw).names.lookup y.1=some .cell∨(zag sLaw).names.lookup y.1=some .free:=by decide+kernel
def ndLw:(["_law_place", "_law_around"]:List Str).Nodup:=by decide+kernel
section
variable{P:Nk}{w:Nl}{K:Nb}{mg:Ng}{base:Np}{C:Nc}
def scLaw:zaw [qS, "_law_k", "_law_rows_here",qR] [qS] (zag sLaw):=fsk
def ok_law(F:Z2 "law" "law" sLaw f fd)(FP:Z2 "_law_pot" "_law_pot" sPot fp fdp)(bP:Z8 fdp [qS, "_law_k"] [])(mP:mg "_law_pot" = some (DK fp))(GP:ZB 1 fp fdp [qS, "_law_k"] (spPot K))(FD:Z2 "_law_drawn" "_law_drawn" sDrawn fd' fdd)(bD:Z8 fdd [qP] [])(mD:mg "_law_drawn" = some (DK fd'))(GD:ZB 5 fd' fdd [qP] spDrawnD)(FT:Z2 "_law_told" "_law_told" sTold ft fdt)(bT:Z8 fdt ["_law_rows_here"] [])(mT:mg "_law_told" = some (DK ft))(GT:ZB 6 ft fdt ["_law_rows_here"] spTold)(FU:Z2 "_law_due" "_law_due" sDue fu fdu)(bU:Z8 fdu [qR] [])(mU:mg "_law_due" = some (DK fu))(GU:ZB 4 fu fdu [qR] spDue)(fF:mg "dict" = none)(f8:mg "list" = none)(bE:mg "range" = none)(a9:mg "len" = none)(f7:mg "min" = none)(j8:mg "max" = none):ZB 7 f fd [qS] (spLaw K):=by
 refine F.okL scLaw (λcdv A outer s0 H vs Q E hr h=>?_);obtain⟨a,ns,rfl,ha,oo,kq⟩:=h;have hu:=zco hr;have eG:=Ki hu;have aV:VE _:=hr.mono DL;have qm:Room 4 _:=hr.mono DL;have hr5:Room 5 _:=hr.mono DL;have aR:=sizeLine_eq;refine⟨_,zad (QE (Bp (zaa (M9 D4 j8 PyProof.Rows.boot_max (QO (FY (M8 D4 f7 Bb (zaa (RS Hu) (QO zae)))))) zae)) (zbe 1 scLaw.nd)
   (zad (BQ scLaw.nd (zan GD hr5 rfl mD FD.kp bD .nil za3 (FY (Mx bP .nil za3 (ZP Ho)))))
   (zad (JZ scLaw.nd (zc2 (zdz rfl) D4 fF PyProof.Rows.boot_dict (zaa (zia (M:=["_law_place", "_law_around"]) (ix:=[none,none]) ⟨csLw_k,csLw_c,csLw_n,csLw_f,rfl,ndLw,λj i x h1 h2=>by
     match j,h1,h2 with
     |0,_,h2=>cases h2
     |1,_,h2=>cases h2
     |n+2,h1,_=>cases h1⟩ rfl (za2 Gy) (λC a6 ex s H=>zh8 (K:=K) (n:=2) rfl rfl (zbg (BL ndLw) (zbg (zbe 1 ndLw) zdm))) (λC a6 ex s H=>zdb)
     (λC a6 ex s H=>zdn (ZP (FY (zc2 (ziq (K:=K) rfl) D4 (by exact f8) PyProof.Rows.boot_list Ho))))) zae)))
   (zah (zcg (zav (op_ne_ints eG) (QI bT .nil za3 Hi) (zan GU qm rfl mU FU.kp bU .nil za3 Rv) Hl) (zah ps_no) za9)))))
  (zah (zbo pe_bl)),?_⟩
 refine⟨RV,a,RV,Gb ha,_,RV,_,RV,RV,?_,?_,?_⟩
 ·split<;>split<;>omega
 ·rw[Qa];split<;>split<;>omega
 refine zc4 (lo:=0) (λi σ H'=>Aj2 (Keep [] H H') (Ex3 λx1 x2 x3=>σ=[DQ a,x1,x2,x3])) ⟨Keep.refl,_,_,_,rfl⟩ ?_ ?_
 ·rintro i σ H1 hi ⟨k1,x1,x2,x3,rfl⟩;have hi8:i≤1000:=by rw[Qa]at hi;split at hi<;>split at hi<;>omega
  have ei:(0:Int)+(i:Int)=(i:Int):=by lia
  rw[ei];refine⟨RV,RV,a,ns,i,rfl,sq_keep ha k1,hi8,DH,λp b2 m2 H2 hpf aF k2=>?_⟩;refine⟨p,b2,m2,rfl,aF,λt bs es cs lab b3 m3 H5 oV Ct gC hok bp k3=>?_⟩;have k15:Keep [] H1 H5:=λc u ec _=>k3 c u (k2 _ _ ec DI) (by simpa using BN hpf);have im:Keep [] H H5:=k1.trans k15;have aS:(es.map (·.1)).Nodup:=Ct.nd;have fM:bs.length=es.length:=Yc oV.ts;refine⟨_,rfl,t,rfl,⟨_,SqL.of oV.ls⟩,λn q ys τ H'=>Ex2 λ(bH:Nn) (fs:List Ent)=>Aj8 (q=es.length-n) (n≤es.length) (ys=bH.map V.ref) (Ex2 λx0 x1=>τ=[x0,x1]) (Paired (λa (e:Ent)=>H' a=some (.tup [.str e.1,.ref e.2.2])) bH fs) (∀e∈fs,H' e.2.2=some (DX Gc)∧H5 e.2.2=none) (SameR fs (es.take n)) (Keep [] H5 H'),
   ⟨es.length,[],[],rfl,HY,rfl,⟨none,none,rfl⟩,.nil,(λe he=>by cases he),.nil,Keep.refl⟩,?_⟩
  rintro n q ys τ H6 ⟨bH,fs,rfl,hn,rfl,⟨x0,x1,rfl⟩,ce,bn,jY,k6⟩;have cG:bH.length=n:=by rw[Yc ce,Yc jY,Zi];lia
  have R6:=oV.keep k6;by_cases aa:n<es.length
  ·have qW:n < bs.length:=by lia
   refine .inr ⟨⟨_,.ref bs[n],Rp,by rw[Qr,Qb qW];rfl⟩,Fo,?_⟩;rintro v H7 ⟨rfl,hv⟩;have iD:=hv _ Rp;rw[Qr,Qb qW]at iD;obtain rfl:V.ref bs[n]=v:=Qw iD;obtain⟨az,cZ⟩:=za1 R6.ts qW;have dG:es[n]∈es:=Qm aa;have tk:es.take (n+1)=es.take n++[es[n]]:=Qo aa;have lB:=R6.ro _ dG;generalize es[n]=e at dG tk cZ lB;refine⟨bs[n],RV,HQ cZ,rfl,_,RV,_,RV,rfl,RV,RV,e.2.2,RV,Ht lB,λl7 aG=>⟨(DO 2),λt7 og=>?_⟩⟩;have k7:Keep [] H7 (Bq l7 (DX Gc)):=Keep.new aG;have bG:(Bq l7 (DX Gc)) l7=some (DX Gc):=zac;have k8:Keep [] H7 (upd (Bq l7 (DX Gc)) t7 (.tup [.str e.1,DK l7])):=k7.trans (D0 og);refine⟨_,FE,bH++[t7],fs++[(e.1,e.2.1,l7)],rfl,aa,by rw[Qs];rfl,⟨_,RV⟩,?_,λe' cV=>?_,?_,k6.trans k8⟩
   ·exact zap (Paired.imp' (λa e h=>k8 _ _ h DI) ce) (Hy zac)
   ·rcases Qg.mp cV with z|z
    ·exact⟨k8 _ _ (bn e' z).1 DI,(bn e' z).2⟩
    rw[Qc.mp z];exact⟨DY (zab bG og) bG,zas k6 aG DI⟩
   rw[tk];exact zap jY (.cons ⟨rfl,rfl⟩ .nil)
  have lW:n=es.length:=by lia
  subst lW;rw[Qt D9]at jY;refine .inl ⟨⟨_,Rp,by rw[Qa,fM];exact Qd _⟩,λD hD=>?_⟩;have k7:Keep [] H6 (BP D GQ):=Keep.new hD;have kE:(BP D GQ) D=some GQ:=zac;generalize BP D GQ=H7 at k7 kE;have oj:=sameR_rs jY;have iX:=sameR_names jY;have hfl:fs.length=es.length:=Yc jY;have on:(fs.map λe:Ent=>(e.1,HS)).map (·.1)=fs.map (·.1):=by rw[Zq];rfl
  refine⟨D,bH,fs.map λe=>(e.1,HS),rfl,kE,zhd (Paired.imp' (λa e h=>k7 _ _ h DI) ce),by rw[on,iX];exact aS,λd hd=>?_⟩;have qv:((fs.map λe:Ent=>(e.1,HS)).map λp=>((Sum.inr p.1:Key),p.2))=eWV fs:=by rw[Zq];rfl
  rw[qv];have k8:Keep [] H7 (Bq d (.dK (eWV fs))):=Keep.new hd;have hd8:(Bq d (.dK (eWV fs))) d=some (.dK (eWV fs)):=zac;generalize Bq d (.dK (eWV fs))=H8 at k8 hd8;have k58:Keep [] H5 H8:=(k6.trans k7).trans k8;refine⟨RV,t,bs,es,cs,lab,rfl,oV.keep k58,gC,λe he=>(hok e he).1,Ct,λlo ts es2 fc zss Ls H9 hp ht cT cb cn eO dj k9=>?_⟩;have hRF:RF H9 d fs:=⟨Gb (k9 _ _ hd8 DI),DR iX aS,λe he=>k9 _ _ (k8 _ _ (k7 _ _ (bn e he).1 DI) DI) DI⟩;refine⟨RV,d,fs,cs,lab,rfl,hRF,DH,by rw[iX,oj];exact Ct,λlu fc2 Ls2 us jH rD mY hup huo qL jP=>?_⟩;have lJ:(ts.map (·.1)).Perm FG:=by rw[zca ht];exact hp.map _
  have af:=ze4 ht hp aS;have hfc:fc2.Perm fc:=by
   have e1:(zcs fs).Perm (zcs es):=by rw[iso_eq (DR iX aS),iso_eq aS,iX,oj]
   refine fc_same Ct.s lJ af ?_ (by rw[oj]at mY;exact mY) cT cb;exact rD.trans ((e1.map _).append (.refl _))
  have rK:=due_same (ns:=es.map (·.1)) (r:=row (rsOf es)) (r':=row (rsOf ts)) (lab:=lab) (us:=us) (ws:=[]) aS lJ (λx=>by obtain⟨k,e⟩:=af x;rw[e,(zf2 _ k).length_eq]) hfc cn eO (by rw[←iX];exact hup) huo;rw[iX,oj,rK]at qL;obtain⟨zi,hzi⟩:=due_ints ((zss.map (JD fc)).find? badT);rw[hzi]at dj qL;exact⟨lo,lu,zi,rfl,rfl,DW (jP _ _ dj DI),DW qL,RV,U3 ⟨((im.trans k58).trans k9).trans jP,_,_,RV⟩⟩
 rintro σ H1 ⟨k1,x1,x2,x3,rfl⟩;exact kq _
end
end K21
namespace L2
open PySem
def Nf(K:Nb)(x:Str)(st:Stmt):Prop:=∃f fd,ZJ x=some (DQ f)∧Z2 x x st f fd
def Nm(K:Nb)(C:Nc)(x q:Str)(st:Stmt):Prop:=∃f fd,Z3 Gi x=some (DQ f)∧PySem.W.isFn K (DK f)=true∧Z2 x q st f fd
def binds5{K:Nb}{x q:Str}{st:Stmt}{f:Nc}{fd:Nu}{ps:Nj}(F:Z2 x q st f fd)(b:∀(kV doc pm:Value) (an:Option Addr) (cdv ct:Value) (us:Ni),us.length=ps.length→bindArgs (PySem.W.fnOf x q (zdr st) (zce st) (zag st) .none kV doc pm an cdv ct) ⟨us,[]⟩=pure (ps.zip us):=by(intro _ _ _ _ _ _ us hl;rcases us with _|⟨_,_|⟨_,_|⟨_,_|⟨_,_|⟨_,_|⟨_,_⟩⟩⟩⟩⟩⟩<;>first|rfl|cases hl)):Z8 fd ps []:=F.binds b
def nfo{P:Nk}{w:Nl}{K:Nb}{h:Np}{mg:Ng}{base:Np}(X:K.In h)(G:h.Ns mainGlobals mg){CX:CXT}{x:Str}{st:Stmt}{ps:Nj}{k:Nat}{sp:Sp}(N:JH x st)(T:∀f fd,Z2 x x st f fd→ZC CX k f fd ps sp)(b:∀(kV doc pm:Value) (an:Option Addr) (cdv ct:Value) (us:Ni),us.length=ps.length→bindArgs (PySem.W.fnOf x x (zdr st) (zce st) (zag st) .none kV doc pm an cdv ct) ⟨us,[]⟩=pure (ps.zip us):=by(intro _ _ _ _ _ _ us hl;rcases us with _|⟨_,_|⟨_,_|⟨_,_|⟨_,_|⟨_,_|⟨_,_⟩⟩⟩⟩⟩⟩<;>first|rfl|cases hl)):∃f fd,Z2 x x st f fd∧Z8 fd ps []∧mg x=some (DK f)∧ZC CX k f fd ps sp:=
 let⟨f,fd,a,F⟩:=N
 ⟨f,fd,F,F.binds b,BU a,T f fd F⟩
end L2
namespace K21
open PySem L2 Wb PyProof.Rows
theorem all_mk{l:PySem.W.OpenLaw}{w:Nl}{K:Nb}{h:Np}{mg:Ng}{fa C cE cN n1 n2 n3 n4:Nc}(X:K.In h)(G:h.Ns mainGlobals mg)(hfa:mg "law" = some (DK fa))(aC:ZJ "Web" = some (DQ C))(e_HueError:ZJ "HueError" = some (DQ cE))(e_NotFlat:ZJ "NotFlat" = some (DQ cN))(e_NoName:ZJ "NoName" = some (DQ n1))(e_Twice:ZJ "Twice" = some (DQ n2))(e_OneWay:ZJ "OneWay" = some (DQ n3))(e_NoPlace:ZJ "NoPlace" = some (DQ n4))(h_steps_behind:JH "steps_behind" sSteps)(h_faces_of:JH "faces_of" zfq)(h_piece_from:JH "piece_from" sPiece)(h_pieces_of:JH "pieces_of" zh3)(h_is_name:JH "is_name" zd3)(h_refuse_no_names:JH "refuse_no_names" zf1)(h_refuse_twice:JH "refuse_twice" zdy)(h_refuse_one_way:JH "refuse_one_way" zh4)(h_refuse_not_flat:JH "refuse_not_flat" zg3)(h_from_least:JH "from_least" sLeast)(h__law_pot:JH "_law_pot" sPot)(h__law_digit:JH "_law_digit" zej)(h__law_counted:JH "_law_counted" sCount)(h__law_names:JH "_law_names" sNames)(h__law_behind:JH "_law_behind" ze8)(h__law_steps:JH "_law_steps" ze7)(h__law_tie:JH "_law_tie" sTie)(h__law_rounds:JH "_law_rounds" zh2)(h__law_rows:JH "_law_rows" sRows)(h__law_faces:JH "_law_faces" zcj)(h__law_piece:JH "_law_piece" zdl)(h__law_spoilt:JH "_law_spoilt" zh1)(h__law_drawn:JH "_law_drawn" sDrawn)(h__law_due:JH "_law_due" sDue)(h__law_told:JH "_law_told" sTold)(gI:Nm K C "__init__" "Web.__init__" sInit)(gN:Nm K cN "__init__" "NotFlat.__init__" sNF){fL:Nc}{od an:Option Addr}{sl:Array GM}{oc kV dc pm cd ct:Value}(aL:ZJ "law" = some (DQ fL))(lL:K.lookup fL=some ⟨oc,od,.func (PySem.W.fnOf "law" "law" (zdr sLaw) (zce sLaw) (zag sLaw) .none kV dc pm an cd ct),sl⟩)(cL:J' cd "law" = true)(kL:W1 (DK fL)=true)(pg:MG Str.empty=true)(gD:B7 C=true)(po:B4 C=true)(sa:Z3 Gi "__setattr__" = some (FX (.builtin "object.__setattr__")))(mk:X5 C=true)(kc:W1 Gi=true)(nR:Z3 Gi "rounds" = some none){tkM:Tok}(aM:ZJ "MOST_LETTERS" = some (FX (Rj 8 tkM))){nm qn:Str}{NN:Nc}{bs:Ni}{sn:Nj}{sub:Ni}{ab:Bool}{col:Option Bool}{dd:Option Addr}{k0 k1 k2 k3 k5:Option Value}(ob:K.lookup cN=some (excClassObj nm qn cN NN bs (.ref cE::bmVE) true sn sub ab col dd k0 k1 k2 k3 k5 "ValueError.__new__"))(xE:K8 cE bmVE "ValueError.__new__" = true)(rd:PySem.W.readsIn K cE (.type "type")=true)(ga:M' (DK cE) "__getattribute__" = some (FX (.builtin "type.__getattribute__")))(fc:PySem.W.findCls K (DK cE) (.type "type") "__init__" = some (.val (.builtin "ValueError.__init__")))(kN:W1 (DK cN)=true)(a1:Z3 (DK cN) "many_places" = some none)(a2:Z3 (DK cN) "many_ties" = some none)(a3:Z3 (DK cN) "many_faces" = some none)(as:Z3 (DK cN) "__setattr__" = some (FX (.builtin "object.__setattr__")))(p1:Z3 (DK cN) "__getattribute__" = some (FX (.builtin "BaseException.__getattribute__")))(p2:Z3 (DK cN) "__getattr__" = some none)(p3:NR (.type "BaseException")=some true)(p4:Z3 (DK cN) "__class__" = some (FX Ft))(p5:M' Ft "__get__" = some (FX FK))(p6:PySem.W.takesIn K Ft=some true)(p7:NR (.type "object")=some true)(em:Dy (DK cN) (DK cN)=some true)(u1:Q3 (DK n1)=some false)(u2:Q3 (DK n2)=some false)(u3:Q3 (DK n3)=some false)(u4:Q3 (DK n4)=some false)(uh:Q3 (DK cE)=some true)(uv:Q3 (.type "ValueError")=some true)(z_len:ZJ "len" = some none)(z_sorted:ZJ "sorted" = some none)(z_range:ZJ "range" = some none)(z_min:ZJ "min" = some none)(z_max:ZJ "max" = some none)(z_tuple:ZJ "tuple" = some none)(z_list:ZJ "list" = some none)(z_dict:ZJ "dict" = some none)(z_set:ZJ "set" = some none)(z_isinstance:ZJ "isinstance" = some none)(z_str:ZJ "str" = some none)(z_all:ZJ "all" = some none)(z_sum:ZJ "sum" = some none)(z_enumerate:ZJ "enumerate" = some none)(z_ValueError:ZJ "ValueError" = some none) :
  ∃fd:FuncData,(∀(s:Nh) (v:Value),JF ⟨[v],[]⟩ [("_law_script",v)])∧∀base:Heap,K.In base→base.Ns mainGlobals mg→FnOk l.prog w K mg base CX0 7 fa fd ["_law_script"] (spLaw K):=by
 have e:=hfa.symm.trans (BU aL);cases e;have FL:=fun_mk (st:=sLaw) lL cL kL;have cW:Cls K C:=⟨pg,gD,po,sa⟩;have mC:=BU aC;have y_len:=U0 z_len;have y_sorted:=U0 z_sorted;have y_range:=U0 z_range;have y_min:=U0 z_min;have y_max:=U0 z_max;have y_tuple:=U0 z_tuple;have y_list:=U0 z_list;have y_dict:=U0 z_dict;have y_set:=U0 z_set;have y_isinstance:=U0 z_isinstance;have y_str:=U0 z_str;have y_all:=U0 z_all;have y_sum:=U0 z_sum;have y_enumerate:=U0 z_enumerate;have y_ValueError:=U0 z_ValueError;have m_HueError:=BU e_HueError;have m_NotFlat:=BU e_NotFlat;have m_NoName:=BU e_NoName;have m_Twice:=BU e_Twice;have m_OneWay:=BU e_OneWay;have m_NoPlace:=BU e_NoPlace;have mM:=BU aM;obtain⟨fI,fdI,agI,igI,FI⟩:=gI;obtain⟨fN,fdN,agN,igN,FN⟩:=gN;have cx:ExcI K cN cE fN:=.mk _ _ _ _ _ _ _ _ _ _ _ _ _ _ ob ⟨xE⟩ agN igN;have x1:XJ cN "many_places" :=⟨a1,as⟩;have x2:XJ cN "many_ties" :=⟨a2,as⟩;have x3:XJ cN "many_faces" :=⟨a3,as⟩;refine⟨PySem.W.fnOf "law" "law" (zdr sLaw) (zce sLaw) (zag sLaw) .none kV dc pm an cd ct,λs v=>.of_eq rfl,λbase _ _=>?_⟩;have cm:=@nfo l.prog w K h mg base X G;obtain⟨_,_,F0,b0,m0,G0⟩:=cm h__law_digit λ_ _ F=>ok_digit F;obtain⟨_,_,F1,b1,m1,G1⟩:=cm h__law_pot λ_ _ F=>ok_pot F y_len y_min y_max y_list;obtain⟨_,_,F2,b2,m2,G2⟩:=cm h__law_counted λ_ _ F=>ok_count F y_len;obtain⟨_,_,F3,b3,m3,G3⟩:=cm h__law_names λ_ _ F=>ok_names F F0 b0 m0 G0 F2 b2 m2 G2 y_len y_range;obtain⟨_,_,F4,b4,m4,G4⟩:=cm h__law_behind λ_ _ F=>ok_behind F y_len;obtain⟨_,_,F5,b5,m5,G5⟩:=cm h__law_steps λ_ _ F=>ok_steps0 F F4 b4 m4 G4;obtain⟨_,_,F6,b6,m6,G6⟩:=cm h__law_tie λ_ _ F=>ok_tie F F0 b0 m0 G0 F5 b5 m5 G5 y_len;obtain⟨_,_,F7,b7,m7,G7⟩:=cm h__law_rounds λ_ _ F=>ok_rounds F F0 b0 m0 G0 F6 b6 m6 G6 y_len y_range;obtain⟨_,_,F8,b8,m8,G8⟩:=cm h__law_rows λ_ _ F=>ok_rows F F0 b0 m0 G0 y_len y_range;obtain⟨_,_,F9,b9,m9,G9⟩:=cm h__law_spoilt λ_ _ F=>ok_spoilt F F0 b0 m0 G0 y_len;obtain⟨_,_,F10,b10,m10,G10⟩:=cm h__law_drawn λ_ _ F=>ok_drawn F F0 b0 m0 G0 F7 b7 m7 G7 F9 b9 m9 G9 F8 b8 m8 G8 F3 b3 m3 G3 y_len y_range;obtain⟨_,_,F11,b11,m11,G11⟩:=cm h_is_name λ_ _ F=>ok_isname F mM y_isinstance y_str y_len y_all;obtain⟨_,_,F12,b12,m12,G12⟩:=cm h_refuse_no_names λ_ _ F=>ok_nonames F F11 b11 m11 G11;obtain⟨_,_,F13,b13,m13,G13⟩:=cm h_refuse_twice λ_ _ F=>ok_twice F y_len y_set;obtain⟨_,_,F14,b14,m14,G14⟩:=cm h_refuse_one_way λ_ _ F=>ok_oneway F y_dict;obtain⟨_,_,F15,b15,m15,G15⟩:=cm h_from_least λ_ _ F=>ok_least F y_min y_tuple;obtain⟨_,_,F16,b16,m16,G16⟩:=cm h_steps_behind λ_ _ F=>ok_steps F y_enumerate;obtain⟨_,_,F17,b17,m17,G17⟩:=cm h_faces_of λ_ _ F=>ok_facesO F F16 b16 m16 G16 y_sorted;obtain⟨_,_,F18,b18,m18,G18⟩:=cm h_piece_from λ_ _ F=>ok_piece F y_sorted;obtain⟨_,_,F19,b19,m19,G19⟩:=cm h_pieces_of λ_ _ F=>ok_pieces F F18 b18 m18 G18 y_sorted;obtain⟨_,_,F20,b20,m20,G20⟩:=cm h_refuse_not_flat λ_ _ F=>ok_flat F m_NotFlat kN cx (binds5 FN) (ok_nf FN cx ⟨rd,ga,fc⟩ m_HueError x1 x2 x3) F17 b17 m17 G17 F19 b19 m19 G19 y_len y_sum;have GBS:=ok_behindS (P:=l.prog) (w:=w) (base:=base) F4 y_len;have GSS:=ok_stepsS (P:=l.prog) (w:=w) (base:=base) F5 F4 b4 m4 GBS;have GI:=ok_init (P:=l.prog) (w:=w) (base:=base) FI cW nR F12 b12 m12 G12 F13 b13 m13 G13 F14 b14 m14 G14 F15 b15 m15 G15 F20 b20 m20 G20 y_sorted;obtain⟨_,_,F21,b21,m21,G21⟩:=cm h__law_faces λ_ _ F=>ok_lfaces F F5 b5 m5 GSS y_sorted;obtain⟨_,_,F22,b22,m22,G22⟩:=cm h__law_piece λ_ _ F=>ok_lpiece F y_sorted y_len;obtain⟨_,_,F23,b23,m23,G23⟩:=cm h__law_due λ_ _ F=>ok_due F F21 b21 m21 G21 F22 b22 m22 G22 y_len y_sum y_sorted;obtain⟨_,_,F24,b24,m24,G24⟩:=cm h__law_told λ_ _ F=>ok_told F m_HueError m_NotFlat m_NoName m_Twice m_OneWay m_NoPlace y_isinstance y_ValueError ⟨⟨p1,p2,p3,p4,p5,p6,p7⟩,em,u1,u2,u3,u4,uh,uv⟩ cx x1 x2 x3 ⟨mk,agI,igI,kc⟩ (binds5 FI) mC GI;exact ok_law FL F1 b1 m1 G1 F10 b10 m10 G10 F24 b24 m24 G24 F23 b23 m23 G23 y_dict y_list y_range y_len y_min y_max
def walk{l:PySem.W.OpenLaw}{q:Nk}{loose:Nj}{XP:(Str→Option Value)→Heap→Prop}{d:DefRec}{K:Params→PySem.W.Frag}(hn:l.most=some 63)(mq:d.params.defaults=[])(F:∀ (w:Nl) (mg:Ng) (fa:Nc) (h:Np),(K w.params).In h→h.Ns mainGlobals mg→mg d.name=some (DK fa) →
   ∃fd:FuncData,(∀(s:Nh) (u:Value),JF ⟨[u],[]⟩ [("_law_script",u)])∧∀base:Heap,(K w.params).In base→base.Ns mainGlobals mg→XS CX0 7 fa fd ["_law_script"] (spLaw (K w.params))) :
  PySem.W.WalkO q loose XP (λw h=>(K w.params).In h) l.row.toRowW d [] (λf vs=>Mh vs):=
 L2.walk_of (n:=63) (k:=7) (x:= "_law_script") (CX:=λ_=>CX0) (sp:=λw=>spLaw (K w.params)) hn DL mq ⟨rfl,DL,DL,rfl⟩ (λ_ _ z=>z) F (λ_ _ a ns hl _ hS=>⟨a,ns,rfl,hS,hl,λ_=>rfl⟩) λ_ _ _ _ _ z=>z
end K21
namespace PySem.W.Fast
def tw7508234090001655917:=0
def tw7564484467427948724:=0
def tw8274467411983812681:=0
def tw15813306047192525266:=0
def tw8250831486577433728:=0
def tw3972962261971567894:=0
def tw8564183685992746646:=0
def tw4143887017431498978:=0
def tw13849047608168730700:=0
def tw5663739566553667159:=0
def tw8189605367844659497:=0
def tw15528571861995892078:=0
def tw15324370506663336798:=0
def tw15727403802270953990:=0
def tw16737391915178728772:=0
def tw1844341407274297408:=0
def tw3181764793382007803:=0
def tw17030864458807536950:=0
def tw6813300232151016290:=0
def tw3337385137462099105:=0
def tw9106818527463512832:=0
def tw6066223285530872933:=0
def tw17406367285812042901:=0
def tw6311085420665225086:=0
def tw4006035319216303966:=0
def tw3354585713131434532:=0
def tw15899931283005288592:=0
def tw3314386746855637775:=0
def tw2011634690489486024:=0
def tw7032080100653040327:=0
def tw10791172544586001442:=0
def tw5684494871633569377:=0
def tw411352300914227221:=0
def tw7982300598570130844:=0
def tw4663352745331421760:=0
def tw119298273303155796:=0
def tw7805770107869257424:=0
def tw2434362334105033660:=0
def tw16532180516616947781:=0
def tw1046945782943195090:=0
def tw9478655524837578645:=0
def tw14886502501217050209:=0
def tw14195241074645398514:=0
def tw13842460436107624264:=0
def tw6502760554855451491:=0
def tw10085766869586725609:=0
def tw2679549971665109858:=0
def tw8299464556675251234:=0
def tw5678326544936577525:=0
def tw18325254188519677494:=0
def tw5138624281474528014:=0
def tw5393446578881323893:=0
def tw7514436803977015556:=0
def tw15636135545570987002:=0
def tw14065013718872276909:=0
def tw581711282387118188:=0
def tw12116940319070450112:=0
def tw8135810756648533005:=0
def tw11860064105206643681:=0
def tw15263103619939774162:=0
def tw11960251494463384874:=0
def tw17212215763235982008:=0
def tw7172508990012637027:=0
def tw570477724137219625:=0
def tw1454639373801169844:=0
def tw2310101037358936762:=0
def tw4367077111969305648:=0
def tw6677401209034588859:=0
def tw17856118034198759070:=0
def tw15823211652372068943:=0
def tw12002932831946456355:=0
def tw10814781588714759440:=0
def tw3152301788829042046:=0
def tw3933590681045342370:=0
def tw7360957312399601420:=0
def tw4171845276776253373:=0
def tw8367695614779518074:=0
def tw13828924449608138099:=0
def tw17911533849904417383:=0
def tw6006225678896334118:=0
def tw1559103422357094583:=0
def tw8274106263868700165:=0
def tw8151013228677513664:=0
def tw14242703935534705208:=0
def tw3850958015370335395:=0
def tw15211172848365515841:=0
def tw5980539831880329319:=0
def tw8390176429541032745:=0
def tw18236889566123327283:=0
def tw15872143770273985097:=0
def tw8894115235879248016:=0
def tw736020728476093203:=0
def tw10622185028268050105:=0
def tw8996510484605034662:=0
def tw10111512274365971095:=0
def tw6222141004898538483:=0
def tw1294024389831167933:=0
def tw8499534721397035758:=0
def tw639953678866982608:=0
def tw7629392784394791388:=0
end PySem.W.Fast
set_option maxRecDepth 100000 in
set_option maxHeartbeats 0 in
theorem PySem.Challenge.cw_fivehues_k13_not_flat_holds : PySem.Challenge.rw_fivehues_k13_not_flat.Holds := by
 w_on;o_law;z_head;(case hw=>w_witness2)
 k_fill
 intro w s0 s1 mg mb G y fa o pm cd doc dV kV ho hd hcd hD hmg hg args vals as L hpre hlay hrd hwl hlo
 z_open y L KX ZH ZN ZT
 refine K21.walk (l:=PySem.Challenge.rw_fivehues_k13_not_flat) rfl rfl ?F w s0 s1 mg mb G KX fa o pm cd doc dV kV ho hd hcd hD hmg hg args vals as hpre hlay hrd hwl hlo
 case F =>
  clear KX ZH ZN ZT L y G hmg hg hpre hlay hrd hwl hlo ho hd hcd hD
  intro w mg fa h KX G hmg
  refine' K21.all_mk KX G hmg ?aC ?_ ?_ ?_ ?_ ?_ ?_ ?_ ?_ ?_ ?_ ?_ ?_ ?_ ?_ ?_ ?_ ?_ ?_ ?_ ?_ ?_ ?_ ?_ ?_ ?_ ?_ ?_ ?_ ?_ ?_ ?_ ?_ ?_ ?_ ?_ ?_ ?_ ?_ ?_ ?_ ?_ ?_ ?_ ?_ ?_ ?_ ?_ ?_ ?_ ?_ ?_ ?_ ?_ ?_ ?_ ?_ ?_ ?_ ?_ ?_ ?_ ?_ ?_ ?_ ?_ ?_ ?_ ?_ ?_ ?_ ?_ ?_ ?_ ?_ ?_ ?_ ?_ ?_ ?_ ?_ ?_ ?_ ?_ ?_
  (case aC=>k_is)
  all_goals(try k_is)
  all_goals(try first | exact⟨_,_,by k_is,L2.fun_mk (by k_is) (by k_is) (by k_is)⟩ | exact⟨_,_,by k_is,by k_is,L2.fun_mk (by k_is) (by k_is) (by k_is)⟩ | k_is | kit_is | kts_exm | k_exc)
end
