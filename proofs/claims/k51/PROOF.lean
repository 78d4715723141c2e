import PyProof.Rows.All
import KE.KDictOf
import KE.KDictSum
import KE.KEqDict
import KE.KSortTup
import KE.KTryMore
import Lean
import OpenK.AllK
import PyProof.EqAt
import PyProof.EqKinds
import PyProof.NsDelKeeps
import PyProof.Rows.StrMadeLen
import PyProof.SliceStr2
import PyProof.StrLaws
import PyProof.TupleCall
import Wide.All
import Wide.FinOn
import PySem.Challenge.RW_fivehues_k51_whole_told_exchanges
set_option Elab.async false
set_option linter.all false
set_option maxRecDepth 100000
set_option maxHeartbeats 4000000
abbrev Qa:=@List.length_map
abbrev Qb:=@List.mem_cons_self
abbrev Qc:=@List.mem_singleton
abbrev Qd:=@List.getElem?_eq_getElem
abbrev Qe:=@Nat.le_refl
abbrev Qf:=@List.mem_map
abbrev Qg:=@List.mem_cons_of_mem
abbrev Qh:=@List.mem_cons
abbrev Qi:=@List.take_succ_eq_append_getElem
abbrev Qj:=@List.mem_append_right
abbrev Qk:=@PySem.Heap.get?_push_of_some
abbrev Ql:=@List.mem_append
abbrev Qm:=@List.map_cons
abbrev Qn:=@Option.some.inj
abbrev Qo:=@List.getElem?_map
abbrev Qp:=@List.mem_append_left
abbrev Qq:=@List.map_append
abbrev Qr:=@List.getElem_mem
abbrev Qs:=@List.take_of_length_le
abbrev Qt:=@List.nodup_cons
abbrev Qu:=@PySem.Heap.lt_size
abbrev Qv:=@List.append_assoc
abbrev Qw:=@List.length_append
abbrev Qx:=@List.getElem?_eq_some_iff
abbrev Qy:=@List.size_toArray
abbrev Qz:=@List.length_cons
abbrev Za:=@PySem.Heap.get?_push_size
abbrev Zb:=@PySem.PassesOwn.never
abbrev Zc:=@Nat.zero_le
abbrev Zd:=@List.mem_filter
abbrev Ze:=@List.nodup_append
abbrev Zf:=@List.getD_eq_getElem?_getD
abbrev Zg:=@Nat.le_trans
abbrev Zh:=@Nat.ne_of_lt
abbrev Zi:=@Bool.false_ne_true
abbrev Zj:=@List.map_map
abbrev Zk:=@List.getElem_map
abbrev Zl:=@Ne.symm
abbrev Zm:=@List.sum_cons
abbrev Zn:=@List.nodup_nil
abbrev Zo:=@List.filter_cons_of_pos
abbrev Zp:=@List.filter_cons_of_neg
abbrev Zq:=@Int.eq_ofNat_of_zero_le
abbrev Zr:=@PySem.F.plainAttrs_list
abbrev Zs:=@List.append_nil
abbrev Zt:=@List.length_take
abbrev Zu:=@List.mem_flatten
abbrev Zv:=@List.drop_eq_getElem_cons
abbrev Zw:=@Nat.lt_of_lt_of_le
abbrev Zx:=@List.getElem_of_mem
abbrev Zy:=@PySem.Paired.length
abbrev Zz:=@PySem.W.mg_none_of
abbrev Ya:=@PySem.F.type_list_append
abbrev Yb:=@PySem.F.slot_list_append
abbrev Yc:=@List.map_congr_left
abbrev Yd:=@List.mem_of_getElem?
abbrev Yf:=@List.Perm.append_left
abbrev Yh:=@List.filter_append
abbrev Yi:=@PySem.boot_len
abbrev Yj:=@PySem.Heap.get?_update_other
abbrev Yl:=@List.length_pos_of_mem
abbrev Ym:=@List.length_erase_of_mem
abbrev Yn:=@List.any_eq_true
abbrev Yo:=@List.length_range
abbrev Yp:=@Bool.eq_iff_iff
abbrev Yq:=@List.append_of_mem
abbrev Yr:=@Array.perm_iff_toList_perm
abbrev Ys:=@Array.toList_append
abbrev Yu:=@Nat.ne_of_gt
abbrev Yv:=@List.drop_of_length_le
abbrev Yw:=@Nat.lt_irrefl
abbrev Yx:=@List.Nodup.sublist
abbrev Yy:=@PySem.Around.under_plainId
abbrev Yz:=@List.filter_nil
abbrev Wa:=@Nat.lt_succ_self
abbrev Wc:=@Sum.inr.inj
abbrev Wd:=@PyProof.Rows.boot_sorted
abbrev We:=@List.getElem_inj
abbrev Wf:=@List.flatten_cons
abbrev Wg:=@List.take_append_drop
abbrev Wh:=@List.perm_append_comm
abbrev Wi:=@List.length_filter_le
abbrev Wj:=@Prod.ext
abbrev Wk:=@List.mem_range
abbrev Wl:=@Nat.lt_trans
abbrev Wm:=@PyProof.Rows.callWith_type1
abbrev Wn:=@PyProof.Rows.boot_list
abbrev Wo:=@Nat.le_of_lt
abbrev Wp:=@PySem.mem_of_lookup
abbrev Wq:=@List.flatten_append
abbrev Wr:=@Array.length_toList
abbrev Ws:=@PySem.Heap.size_push
abbrev Wt:=@PySem.F.called_set
abbrev Wu:=@Nat.le_add_right
abbrev Wv:=@List.cons_append
abbrev Ww:=@List.lt_irrefl
abbrev Wx:=@PySem.Calls.spliced_cons
abbrev Wy:=@Int.toNat_natCast
abbrev Wz:=@List.nil_append
abbrev Ua:=@PyProof.Rows.boot_dict
abbrev Ub:=@List.find?_cons_of_pos
abbrev Uc:=@List.find?_cons_of_neg
abbrev Ud:=@Array.getD_eq_getD_getElem?
abbrev Ue:=@List.lookup_cons
abbrev Uf:=@List.all_eq_true
abbrev Ug:=@PySem.F.slot_dict_keyiterator_next
abbrev Uh:=@List.getElem_range
abbrev Ui:=@PySem.F.slot_dict_get
abbrev Uj:=@List.mem_of_mem_erase
abbrev Uk:=@Array.getElem?_toList
abbrev Ul:=@Decidable.byContradiction
abbrev Um:=@List.length_nil
abbrev Uo:=@List.filter_map
abbrev Uq:=@Nat.le_succ
abbrev Ur:=@List.take_sublist
abbrev Us:=@List.pairwise_map
abbrev Ut:=@List.mem_of_mem_take
abbrev Uu:=@PySem.Heap.get?_update_self
abbrev Uv:=@List.length_pos_iff
abbrev Uw:=@List.filter_sublist
abbrev Ux:=@PySem.Calls.spliced_nil
abbrev Uy:=@PySem.F.plain_min_loop
abbrev Uz:=@List.length_singleton
abbrev Ja:=@List.reverse_perm
abbrev Jb:=@List.getElem_take
abbrev Jc:=@List.filter_congr
abbrev Jd:=@Bool.not_eq_true'
abbrev Je:=@PySem.SeqAt.EqAt.str_str
abbrev Jf:=@PySem.Calls.callWith_builtin
abbrev Jg:=@Prod.mk.inj
abbrev Jh:=@Nat.mod_lt
abbrev Ji:=@List.perm_ext_iff_of_nodup
abbrev Jj:=@PyProof.Rows.KeyOrd.kle_trans
abbrev Jk:=@Bool.and_eq_true
abbrev Jl:=@List.perm_iff_count
abbrev Jm:=@List.length_reverse
abbrev Jn:=@List.map_take
abbrev Jo:=@PySem.F.slot_tuple_iterator_next
abbrev Jp:=@List.foldl_cons
abbrev Jq:=@List.find?_cons
abbrev Jr:=@Bool.or_eq_true
abbrev Js:=@Nat.lt_of_le_of_lt
abbrev Jt:=@List.zip_cons_cons
abbrev Ju:=@List.pairwise_cons
abbrev Jv:=@List.ne_nil_of_mem
abbrev Jw:=@Bool.false_eq_true
abbrev Jx:=@PySem.F.entry_dict_get
abbrev Jy:=@Nat.lt_succ_of_lt
abbrev Jz:=@List.drop_zero
abbrev Ka:=@List.count_append
abbrev Kb:=@Array.toList_push
abbrev Kc:=@List.length_replicate
abbrev Kd:=@List.getElem?_eq_none
abbrev Ke:=@Classical.choose_spec
abbrev Kf:=@PySem.W.mg_of
abbrev Kg:=@List.any_cons
abbrev Kh:=@List.take_append_of_le_length
abbrev Ki:=@List.perm_cons_erase
abbrev Kj:=@List.getElem_toArray
abbrev Kk:=@Array.toList_reverse
abbrev Kl:=@Nat.not_lt_zero
abbrev Km:=@List.count_cons
abbrev Kn:=@PyProof.Rows.KeyOrd.kle_refl
abbrev Ko:=@Nat.sub_self
abbrev Kp:=@Nat.le_of_eq
abbrev Kq:=@List.take_zero
abbrev Kr:=@List.getElem?_append_right
abbrev Ks:=@Int.emod_lt_of_pos
abbrev Kt:=@PySem.Calls.evalArgs_plain
abbrev Ku:=@PyProof.Rows.KeyOrd.kle_of_klt
abbrev Kv:=@List.pairwise_iff_getElem
abbrev Kw:=@List.extract_eq_take_drop
abbrev Kx:=@Classical.byContradiction
abbrev Ky:=@Array.getElem?_eq_getElem
abbrev Kz:=@Nat.lt_of_succ_lt
abbrev Xa:=@PySem.Heap.SameBut.update
abbrev Xb:=@Nat.add_assoc
abbrev Xc:=@List.map_drop
abbrev Xd:=@List.Pairwise.imp_of_mem
abbrev Xe:=@PySem.W.KasT.kasWp_bind
abbrev Xf:=@PySem.F.type_list_index
abbrev Xg:=@PySem.F.slot_list_index
abbrev Xh:=@PySem.F.plainAttrs_dict
abbrev Xi:=@PySem.Obj.data_mapFields
abbrev Xj:=@Nat.succ_ne_self
abbrev Xk:=@List.perm_middle
abbrev Xl:=@List.pairwise_singleton
abbrev Xm:=@List.length_drop
abbrev Xn:=@List.ext_getElem
abbrev Xo:=@List.cons_ne_nil
abbrev Xp:=@Array.toList_map
abbrev Xq:=@Nat.lt_of_succ_lt_succ
abbrev Xr:=@List.map_nil
abbrev Xs:=@Int.emod_nonneg
abbrev Xt:=@PySem.W.methodCall_KW
abbrev Xu:=@PyProof.Rows.boot_min
abbrev Xv:=@List.singleton_append
abbrev Xw:=@PySem.F.slot_list_getattribute
abbrev Na:=PySem.W.Frag
abbrev Nc:=PySem.Addr
abbrev Nd:=PySem.Value→PySem.Shared→Prop
abbrev Ng:=PySem.Str→Option PySem.Value
abbrev Nh:=List PySem.Str
abbrev Ni:=List (PySem.Addr×PySem.Obj)
abbrev Nj:=PySem.Shared
abbrev Nk:=PySem.Program
abbrev Nl:=List PySem.Value
abbrev Nn:=PySem.World
abbrev No:=List PySem.Addr
abbrev Np:=PySem.Heap
abbrev Nq:=PySem.Around
abbrev Nr:=PySem.Str→List PySem.Str
abbrev Nt:=List PySem.Expr
abbrev Nu:=List (PySem.Str×PySem.Str)
abbrev Nv:=List (Option Nat)
abbrev Nw:=PySem.FuncData
abbrev Nx:=PySem.Result→PySem.Shared→Prop
abbrev Ny:=PySem.Str→PySem.Str
def zS(c:String):String:=
if c="Z" then"A Inv X a5 σ
B FnOk P w K mg base CX0
C FnOk P w K mg base
D Inv X a5
E wpAny (model X.prog X.w) X.A
F Cal P w K mg base
G wpAny (model X.prog X.w)
I wpAny (model prog w) A
J wpAny (model prog w)
K row (rsOf es)
L swN (row (rsOf es)) hs
M zaa (pv 0)
O zb4 X sc M C a5 ex s
P wpS (model prog w) A E s
Q PySem.W.nsIn K mainGlobals
R L.foldl exN
S usN (row (rsOf es))
U onN r (exN hs (swN r hs q))
V zaa (pv 1)
W zaa (pv 2)
X upd H
Y onN (row (rsOf es)) hs e.1
Z wpAny _
0 nmP zs m
1 onN (row (rsOf es))
2 swN r hs
3 upd (upd H5 L (.lst (as.map V.ref)))
4 za4 Zb rfl
5 twN (row (rsOf es)) hs e.1
6 PySem.W.findIn K (.ref C)
7 nmP zs
8 exN hs
9 PE X
' SortSt.mk' (kindOf ay) (arrOf ay) (pendingOf ay)" else
if c="Q" then"A upd H2
B zaa (pv 3)
C trN (row (rsOf es)) hs
D FnOk X.prog X.w X.K X.mg X.base CX k f fd ps
E Fun K
F EP X a5 σ
G zaa (pv 5)
H zaa (pv 4)
I zaz zat
J zb1 X.prog X.w
K upd H1
L row (za6 (za6 (rsOf es) e1.1 (ins e1.2.1 (some u.1) e2.1)) e2.1 (ins e2.2.1 (some v.1) e1.1))
M Bs kd a₀ p
N swN r
O pcl GT ai
P upd H5
Q fsN (row (rsOf es)) hs e.1
R kk kf p
S upd H3
T Cert ns r cs
U HT.sIx xs.length
V zbo hu (pv 0)
W zek Zr Yb Ya zbv
X Cmp prog w A E s kd
Y zav X.prog
Z Qg _
3 zbk I q
4 zaa zah
5 Rn kd a₀ tot
6 usN r (ZR hs)
7 upd H4
8 chN (row (rsOf es)) hs
9 putK (eWV es) (Sum.inr x)" else
if c="W" then"A hu hs
B twN r hs
C cxOf CX P w K mg base N qual scope f
D upd H6
E fpN (row (rsOf es))
F FpOk X a5 H
G za7 rfl
H T.keep _ _ _
I zaz zbs
J PySem.strKind prog
K Qj _
L ze8 X sc oz M C a5 ex s
M zac ec
N Qk _
O SqL X.K H p
P upd (upd H' q (.lst (e.2.1.map V.str))) t
Q dg r D
R Vals xs
S clOf sc
T SqL X.K H
U wpAny_typeNameOfWhole_keyiter st.typeIs
V za2 zbx
W Conn r x
X ct cs a9
Y PySem.W.instObj C
Z HOk P w H
0 SqL K H a
1 D.nx σ
2 T.obj _ _
3 PySem.W.fnOf x qual (zdl st) (zct st)
4 wt ns r a9
5 zaa (pv 6)
6 RelV x
7 Binds K
8 zbf rfl
9 Keep xs H
' wpAny_passesOwn hp" else
if c="Y" then"A Blk X sc M
B wpAny_typeNameOf_keyiter st.typeIs
C upd (QA D (.lst (fa.map V.ref))) d
D Aj3 (DrE H' d aj) (Pot H' p b' m')
E SqL K H
F Qp _
G RelV y
H I'.letgo hn hC I2.lt I2.cl_lt I2.pin_lt I2.sz ad
I Nf K
J zb1 P w H h a
K OpR X (compareOp .NotEq)
L upd H'
M Vals ys
N cutV (zs.map V.str)
O PySem.W.keepIn K
Q inner ix
R Turn X.prog X.w X.K tg J fp it
S PTs (ZO H) ifs
T Aj2 (SG st aa)
U DrE H' d
V nxt (r b)
W setE (setE es e1.1 (ins e1.2.1 (some u.1) e2.1) a1) e2.1 (ins e2.2.1 (some v.1) e1.1)
X OpR X
Y Pa a b o i
Z Conn r'
0 cutV (e.2.1.map V.str)
1 Loc X.env.scope
2 zck X
3 WAt H' C x dx d
4 usN r
5 wpAny_Call_method m.base m.few m.line Xh
6 tSeq (tAsg (tC (V.int 0)) (zer 4)) _ _ _
7 Inv Y
8 zco rfl
9 dg r
' Value.str x" else
if c="U" then"A PySem.W.plainGet K C
B putK kvs
C SeqAt.EqAt A s
D PySem.W.fnOf x
E Pa a b
F Ph a b
G Cyc (st r')
H C.sy _ _
I onN r hs
J upd (ZX q (.lst (e.2.1.map V.str))) l1
K PI X tg
L PG (ZO H) tg
M PE (ZO H)
N zam 0
O RelV v
P KV kvs
Q tAsg (tC (V.int 0))
R cutV (ps.map V.ref)
S upd H7
T setE (setE es e1.1 (ins e1.2.1 c1 e2.1) a1) e2.1 (ins e2.2.1 c2 e1.1)
U valV kvs
V wpAny_mono (turn n s hI)
W zb5 hu (pv 2)
X TrI zs m
Y fpN r t (cbN r hs x L) m
Z zb1 P w
0 Binds X.K fd ps
1 setE es
2 zal za0
3 ins zs (some c)
4 Aj2 (ZD σ' H' s')
5 Room k
6 zaa (pv 7)
7 zb8 rfl aG
8 Zz X G
9 Za _
' T.done Y eP eW eK eC i _ s5 τ H5" else
if c="J" then"A T.item Y eP eW eK eC i _ s5 τ H5
B upd (QK D (.lst (G.map V.str))) d
C HOk X.prog X.w
D putF f v
E StateT SortSt Sem
F zcg prog w A E
G zcm zc5 (pv 0)
H zay C.nd
I Web ns r
J zcf C L
K trN r hs
L PySem.W.fnOf name qual params body scope dV kV doc pm an cdv
M wpAny_call_entry Ug st.typeIs F.entry_dict_keyiterator_next
N ins e1.2.1 (some u.1)
O ins e2.2.1 (some v.1)
P trR m
Q wpAny_seqItems hS rfl
R tw hs (WA s)
S I.cell x c
T SqT K H a
U Walks prog w A.in1 I fp wr n P
V wpAny_call_entry Jo st.typeIs F.entry_tuple_iterator_next
W I.freeC x c
X dk_rd I.hok
Y dt_rd I.hok
Z cxOf CX0 P w K mg base N qual (zai st) f cdv A outer s H
0 wpS M A E s
1 wpAny_setField ho hd
3 Paired R
4 I.base.free b o
5 Env0 P w K mg base A outer s
6 wpAny_mono h₁
7 wpAny_mono h₂
8 itr rs
9 fpN r T.reverse
' PySem.W.hasDictIn K" else
if c="B" then"a Vals (zs.map V.str)
b zan 4
c BindsTo s fd
d zar zgm
e za2 zdt
f Option.map _
g Zw (Qu e)
h Builtin.List.listExtendWith (.ref s.heap.objs.size)
i zav P
j PySem.W.methodObj (.ref f)
k I.base.there b o e
l I1.fpOk (Qe _)
m zbm fp
n hidT s₁.heap
o row rs
p zbz (zs.map V.str)
q C.cy c
r zan 3
t st (row (rsOf es))
u tw hs
v ex (zs.take i)
w Value.int i
x I.pin p
y J.yld i H x
z zft I hg hm
A turn i n ys τ H5
B I7.pinned (fN n7)
C wpAny_field ho hd
D KpT wr S h0
E Turn P w K tg
F DGet H
G dk_new (Zg (dropK_le kvs k) z) hd (rel.drop k)
H t_ask h0 hc P
I upd H8
J Room 1
K PySem.W.codeIn K
L zd9 rx fx r fs w
M wpAny_mono h₁'
N rLC g tc te Q J (YQ σ)
O T.self _ 0 _ _ _
P ins p.2 c
Q st r
R C.inc hc
S zar op_ne
T zcb hh.nd
U I.base.keep b o e n hb
V I.base.slot b o e n hb
W F.args_list_append_2 _
X nxt zs
Y tot ns
Z innP zs
4 outP zs
5 HAt H'
7 hueV hs
8 tSeq _ _ _ _
9 CnAt H' cl" else
if c="X" then"x upd (Q7 dx (.own x)) x
y Vis X.env.scope
z wpAny_mono h₃
A setO X.prog X.w
B zam 5
C zam 6
D Heap.SameBut a s.heap
E Ar n
F zbz (e.2.1.map V.str)
G wpAny_loadName_local I.ok.kind hk hn hm
H inv_blk B I3 fpx fplt rfl hns₁ k1 rfl
I wpAny_loadName_cell I.ok.kind hk hc dF
J PassesOwn (model X.prog X.w) X.A X.env
L PySem.W.isFn K
M BlkG X sc oz M
N zac e
O kk kf p'
Q pidx zs.length
R zan 5
S Zg (Wi _ _)
T Less r r' v
U fsN r hs
V Zg (W.rl e he)
W zbo aY
X hs_len W hh.nd
Y I.hok b
Z wpAny M A
0 SP X a5
1 I.hok p _
2 zgs I.hok
3 Of a₀
4 Up kf p
5 zfx h v x
6 za2 zfp
7 PySem.W.lookIn name
8 PySem.W.plainOver K
9 Rnd (row (rsOf es))
' hf it" else
if c="K" then"A pe_fld (pv 0)
B zam 4
C vl r'
D RelO (fs.lookup f)
F Rd H a
G Un fs ex H
H PS X
I wpAny_pyNext_list_end (I.ok.hd hc)
J ObjM s.heap x dx C
K wpAny_specialOf hT
L wpAny_getItem_list_slice ht.isList
M IntsAre vs
N FnOk l.prog w (K w.params) mg base
O ocl oz
P FpOk Y
Q PySem.list_append D a7.toArray k y
R I'.thaw e1
S nxt (r' p)
U zac hz
W zay nd
Y atI qwe.cps.toList
Z dg (row (rsOf es))
0 SwAt B H a
1 zaa (pcl GS hr (ZM (ZV (QH zae))))
2 SortSt.mk' (kindOf st) (arrOf st)
3 Aj3 (BAt H' b bs (row (rsOf es)))
4 zac q
5 J.stop i
6 wpAny (model P w)
7 Itl K
8 PySem.W.makesIn K
9 Meth X.K C m
' Vals dvs" else
if c="V" then"a zg7 CX X
b KT H kvs
c RAt H d
d za2 zgn
e zan 2
f za2 zgl
g zar (zdu dY)
h bk m
i Meth K C
j inV (.int n)
k Alike items.toList items2.toList
l zay wt.ta.nd
m zg6 H
n LOk H d u es
o pg_sub (pv 3) zah
p trN r (Z8 (Z2 q))
q Un (frs X.stack) ch H H' s.heap
r SqT X.K H
s Yj _ _
t HT.sIx a7.length
u I.hok a _
v rLC2 g1 iU g tc te Q J (YQ σ)
w zak (zam 1 ndPA)
x zek Zr Xg Xf ziq
y upd H9
z Lk (st r)
A PutI d es e1 e2 c1 c2 H' a1 a2
B Zg (D8.row e he)
C zay C8.nd
D pcl GF ai
E ziv hh.nd
F PSI H' as
G pcl GS hr
H I.ok.bs b o
I RelV (kV k)
J wpAny_newFunctionEnv B.nocell
L Yx (Ur _ _)
M ins e.2.1 c
N trF m
O zaa (pcl GX bB (ZV (U6 zae)))
P fpN r (T.reverse.drop i) hs m
Q PySem.Within mA
R X.s₀.heap.FunFrames X.base
S I.ok.cab x c jl
T PT X
U Gl X
W ld_glob I hg hm
X PA X
Y Int.fdiv_eq_ediv_of_nonneg i
Z Int.fmod_eq_emod_of_nonneg i
0 wpAny_mono h₄
1 C.one_lab aQ bY
2 zac (R.ro e he)
3 putK (eWV es) (Sum.inr e0.1)
4 exN (Z8 (Z2 q))
5 Cls X.K
6 start N
7 zgx kvs
8 PySem.F.args_dict_get_3 _ _
9 putK (marks ks) (Sum.inr x)
' CmpT prog w A.in1 wr S h0 P" else
if c="M" then"a putK (cnt ks F) (Sum.inr x)
b goB t m
c StAt H2
d TP X a5 σ
e PSs X
f Cls K
g zaj N ps
h Inv (WC cdv A outer s H E)
i tLC ix wi g tc
j Yf _
l keep h' tk
m Yy F.plain_set_update_loop
n rDC g tc tk tv Q J (YQ σ)
o zb4 X sc M g2.objs.size a5
p At s.heap d es
q za6 rs
r Pot H' p
s zam 2
t Lk f
u C.la p
v C.inc aQ
w zac T.dc
x zdg Zb
y zbo hu
z del_ne C
A lk_del C L
B Pre ns r
C cnt ks
D us_is wt.ta.nd
E cbN (row (rsOf es)) hs e.1
F zg8 H' t
G CnAt H5 cl
H hf v u s2 x y H2 I2 r1 r2
I wpAny_pyNext_list_item st
J PySem.F.args_dict_get_2 _
K List.set_append_right _ _
L Bs kd a₀ (pendingOf bu)
M List.replicate z.cps.size
N zft I uJ oy boot_reversed
O zbn (zbw (pc_isN (pv 7)))
P zbn (Bd (pv 4) (pv 3) (zba _)) (zag ps_break)
Q I.ok.noex b o
R ins_get I.hok
S ixN xs.length
T List.Perm.append_right _
U zbj (zc8 rfl)
V zak (UN ndPA)
X zb5 hu (pv 0)
Y W.frame _ _ _
Z LOk H' d u es
0 step x H7
3 wpAny_dictEntries oe hV
4 Pot H p b
5 zam 3
6 zar op_lt
7 zan 1
8 T.keep k1
9 zan 6
' Turned ts" else
if c="N" then"z zan 7
A zc1 B H l
B Conn f7 s
C pe_cmpR (zhn im) (pv 7)
D List.mem_cons_of_mem _
E wpAny_mono h
F IsTup s.heap
G Inv (X.wish E) a5 σ H
H Vals vs
I PG X (.Tuple es k pos)
J J.go i
K zbb hb
L binT ha hb I
M zed K C
N cutV xs
O PySem.call f
P kV doc
Q loop _
R zf8 I' hN aU (.inl hy)
S O.kle (QR i)
T Dn kf p
U dk_at I
V inClass sWeb
W zar zcp
X zb2 hc
Y C.ro x
Z leaf_mem C hp hx h1 h3
0 zda hu
3 za1 h1
4 Conn (row (rsOf es)) x
5 zc0 GP hr rfl mP FP.kp
6 zc0 GF hr rfl mF FF.kp
7 Room 2
8 DrE H d
9 zb7 D8.ra.nd
' upd H0" else
if c="D" then"a zaa zc9
b vl r
c Conn.symm sy
d wrd b s
e hf _ _
f zaa (QO (ZW (Q4 zae)))
g HAt H u
h zbj zcs
i kp b o hw hs
j wpAny_updateSeq dl rfl
k zaa (XW (pv 0) (pv 2))
l ResAt H H' t
m pcl GO
o StAt B
p zaa (QO (QB (Q4 zae)))
q Kf X G
r tMeth C m sp dvs E ta
s Heap.SameBut j s.heap
t wpAny_dictEpoch oe hV
u DGet H4 d (.str e0.1)
v sum_exch h1 a9 (vl r)
w Conn (r2 es hs h o) s
x RelV p.2
y Zg I.ok.bsz
z tOp r ta
B zfj I1 ea c
C CE outer P w H s Q u
D dk_of I.hok
F SeqAt.EqAt.int_int a
G IY.ok.exf b
H I3.stkSub b
I Value.str y
J zfy hc I
K wpAny_seqItems hp hk
L Heap.ExtBut j s.heap
M wpAny_pyIter_enum he
O wpAny_fieldsOf ho hd
P zfu C hp hx h1 h3 hm
Q zfo C.nd
R Jh _
S Aj2 (YU aj)
T Conn (trF m) (tr0 m)
U zcv ns r
V zay L.rf.nd
W zcb L.hf.nd
X ziv L.hf.nd
Y PySem.W.takerIn K C
Z Vals (ns.map V.int)" else
if c="F" then"a PySem.IsL.update lj
b Wl (I2.cl_lt _ _ z)
c beyondT left ky arr
d zcg prog w A' E' s'
e Rnd (row (rsOf aj))
f I.stkSub b
g PG X (.Name x pos)
h hf b
i Itr lo
j Wu _
k call (.builtin id)
l och oz
m pairO strO
n zfx s.heap
o rowV H
p kvP s.heap
q Rd H d
r Thaw X
s zal (call_all rfl)
t nxt (U3 n)
u ins (r p) (some c)
v nd_ins hc (C.rn p)
w Paired (zdp H') fa
x RF H d
y zao k1
z nxt_erase (C.rn b)
A nxt (r' b)
B del_st C L
C bitF f
D zaz ix_str
E st (trF m)
G ordP m
H pcl GC
I PGs X
J Itt K
K d_getItem hu I2 g
M SG st
Q Itd d o
R tDC ix wi g tc tk
U zd5 _
V SqB b K
W ItB b K
X pg_sub (pv 0) zah
Y zcm zc5
Z Flat ns
' ct D a9" else
if c="G" then"a zao (k4.trans k5)
b SwAt B'
c wAt (sAt sLOrd 2)
d PSI _ _
e Itv K a
f PPs X pos
g isD_at I1
h O.blt b.1
i Yy plain_eq_loop
j rNil true
k RowAt knd s.heap
m ins p.2 (some c)
n List.replicate n
o ct (cs.erase c1)
p za5 R3.ts
q nxt e.2.1
r zar op_gt
s pcl GI ai
u D6.pot bn
v wrd bg st
w ord_lt h7
x T5.kp _ _
y T7.kp _ _
z IspRounds K vs H
A pcl GP ai
J ex zs a b
K zd0 bt hi ht k j
M zal (zg1 rfl hu)
Q IspSwapOf C vs H
V zak (KB scFs.nd)
W Paired (Vm 6) xs
Y pcl GU hr
Z upd HC ml" else
if c="H" then"c some (.ref $a)
i .ref $a
k SqL.of $a
m model X.prog X.w
o Keep.new $a
r .lst $a
s some $a
u .ref s.heap.objs.size
w model prog w
x Qe _
M .int $a
P ZA H s
W .inl rfl
X eval $a X.env
Y decide_eq_true $a" else
if c="R" then"a .dK (eWV es)
c V.str (Z0 $a)
i beq_iff_eq.mpr z
j pv 1
k SqT.of $a
u Hr (e.2.1.map V.str)
v Hr (ws.map V.str)
w .str e.1
x zaa $a zae
z Hr (as.map V.ref)
H .inl $a
I row (rsOf es)
M he a5 s σ H _ I h
S pendingOf $a
T zs.map V.str
U .dK kvs
V Hi a
X pv 3
Y ha a5 s σ H _ I h
Z Hs (.int $a)
6 pv 0" else
if c="S" then"a .cons $a .nil
b if_neg $a
c pv 2
d pv 4
e List.range $a
f Sum.inr e.1
g I.tok _
h Classical.propDecidable _
i if_pos $a
j wpAny_pure $a
k ZS (ZR hs) e.1
l envOfC qual scope s.heap.objs.size f $a
m Keep.wr Ha
n ZW zae
o pv 5
q zba _
r starEach es X.env
s congrArg Prod.snd e
u decide_eq_false $a
v ho a5 s σ H _ I h
w Sum.inr $a
x Hs (.str $a)
y Hi l
z Z8 (ZL q)
A wpAny_bind $a
C .inr $a
D Hd 2
E zs.getD $a Str.empty
F hi a5 s σ H _ I h
H ZV zae
I assign (.Name y py) X.env
J Zc _
K zbn (Bd (QI RX zah Hq) (QI RX zah Hq) Sq) (zag (zaq zc9)) zap
L Qc.mpr rfl
M ZM zae
N za8 zae
O QH zae
Q k4.trans $a
R congrArg Prod.fst e
S RH (Hk $a)
T .tup xs
U I.hok.fresh Hx
V .fresh 0 0 led
W ha pos a5 s σ H _ I h
X Keep.wr Qb
Y Q4 zae
Z Q3 Ha
0 WI $a zah Hq
1 List $a
2 tupleKind_room_in1 hu
3 I.ok.hd hc
4 upd (ZX u0 RQ) pl HL
5 Z8 (Z2 q)
6 .dK (eK fs)
7 V.int $a
8 .int $a $b
9 QI $a $b Hq
' arrOf $a" else
if c="T" then"a U9 rfl
b zbn $a (zag ps_no) zap
c .str e1.1
d QY X.w
e .frz o' u'
f Hc d
g WS X.env
h Hi D
i .bl true
j Hr xs
k Hi it
l ForInStep.yield $a
n Hi p
o .bool true
p QB zae
q .dK (marks $a)
r k2.trans $a
s .str $a
t .ref e.2.2
u .frz o $a
v letOwnedTupleGo target it v
w zs.idxOf z
x pv 6
y HY (congrArg V.int $a)
z k _ _ HW e
B I1.hok.fresh Hx
C ZX $a (.dK $b)
D W3 (zai st) .none kV doc pm an cdv ct
F .str e2.1
H zak $a zbr
J Ho ht
K QF Q
L Option Value
M k3.trans $a
N Hr (ini.map V.str)
Q Hk zab
R Hr (T.reverse.map V.str)
U Q6 e.1
V .Name $a $b
W WK (WK (NK e))
X .dT kvs
Y Or.inr rfl
Z pairsOf vs" else
if c="L" then"a Qf.mpr $a
b rsOf es
c .Slice none none (Hs (.UnaryOp .USub (.Constant (.int 1) k p4) p3)) p2
d i1 _ _
e V.ref $a
f .Attribute $a m apos
g .compLoop $a $b it $c env
h rsOf $a
i hb a5 s1 σ H1 _ I1 q1
j hi a5 s1 σ H1 _ I1 q1
l Hi t
m k1.trans $a
n argBest bt $a
o assignEach $a X.env
p bG _ _ $a
q Hd 0
r Hr (G.map V.str)
u ps.zip us
v .tup ys
w Z' $a (failedOf ay)
x V.bl true
y Z9 a ta
z .Subscript $a $b pos
A Qx.mp $a
B .ins C dx fs
C .tup (k.map kV)
D eqU x
E ns.map V.int
F zai st
G QZ hb
H C.rn p
I QG zae
J k1 c o ec Ha
K bs.map V.ref
L Hi f
M WY s.heap.objs.size
N assign target env v
O keyKind' vs.toArray
P Qu e
Q zb0 (B.clos I)
R .builtin id
S ZX $a (Hr $b)
T Hs Rw
U hl a5 s σ H _ I h
V of_decide_eq_true $a
W k6.sub Ha
X i0 _ _
Y Bi w
Z pcl $a $b (ZM (ZV $c))
0 h a5 s σ H $a I $b
9 RR af cenv.locals" else
if c="C" then"a QZ hx
b Hr (dN.map V.ref)
c Hr (us.map V.int)
d Hr (ms.map V.int)
e HH Qa
f backTo pos $a
g wpAny_load hS (Sj (h g tk af hk (Wo (Qu hS)) ha))
h zbw (zgk $a $b Rj)
i pyNext (Hi $a)
j tn i s'.heap
k upd (ZX $a HL) $b RQ
l W5 zae
m Hr (D.map V.str)
n Hr (S.map V.str)
o Z9 e te
p zaq (zbd $a)
q k5.sub Ha
r Qh.mpr hy
s U2 HQ ae Yi $a
u zcz (WV (S9 RX zah) zah) (Vo set_list)
v Y8 (zak $a $b)
w sgm _
y zal $a HQ aB Wd $b
z zbg (QW $a $b)
A k5.trans $a
B UD x (zdl st) (zct st) LF .none kV doc pm an cdv ct
C QO (ZM SY)
F compEnvC sc $a g2.objs.size X.env
G A.deeper (envOfC qual LF s.heap.objs.size f cdv)
H eval $a env
I Pv 0 σ H
J vG.letgo bC hC I2.lt I2.cl_lt I2.pin_lt I2.sz ad bZ
K UK iter wi
L Hc u
M model P w
N .ok .next
O Hl eEx hb
P k _ _ $a Ha
Q e.2.1.map V.str
S Qc.mp $a
T List Swap
U ZS Sz e.1
V ho a5 s1 σ H1 _ I1 q1
W he a5 s1 σ H1 _ I1 q1
Y tupleKind $a
Z Z9 o td
1 HX e
2 zhb ry
4 WN e
5 W i n ys τ H'
7 .ok (.ret $a)
9 C.inn' $a" else
if c="E" then"a hh.2 _ _ $a $b
b zcx rfl
c Hs (zbt $a)
d WV $a zah
e TV x pos
f Ts x
g g i j
h h1.trans z
i QZ hy
j k2 b o e
k XN HD
l Hi d
m pv 8
n pv 7
o HJ ks
p QA cl HG
r QN S5 q'
s Hc l
t HM (WA s)
u Bg I.ok.above
v ZM (ZV $a)
w Hs (iV $a)
x f (S8 i t) (S8 j u)
y Hi b
z .int ys.length
A Sw x
B Si rfl
C Qt.mpr $a
D Uu _ ho (Obj.isFreed_of_fields (Xi hd _))
E beq_eq_false_iff_ne.mpr $a
F .own a
G neC b o e hx
H ho a5 s2 σ H2 x y v u _ I2 r1 r2 q2
I RR Th g2.objs.size
J l.map $a
K as.map V.ref
L r.ro e he
M Hd 1
N C.rn o
O .dT (HV $a)
Q .dK (eWV $a)
R zbw (zel $a)
S k9.sub Ha
T ns.map V.str
U beq_self_eq_true $a
V ZL q
W ZS hs e.1
X Hr RT
Y L.getD $a sp
Z .str sp.1
1 .str sp.2
2 getMethod ov m pl
3 Array.Perm.refl _
4 Hi I
5 es.take $a
6 e0.2.1.erase e1.1
7 k2 _ _ $a Ha
8 WK Qb
9 HH aN" else
if c="I" then"a Z9 b tb
b hh.keep $a Ha
c fin _ R.kind R.failed R.perm rfl
d Builtin.SmallTypes.nextOf (Hi j)
e F.args_dict_keyiterator_next_1 _
g hn.mem_iff.mp hx
h Hs (.ref en.2.2)
i Hs (.ref e0.2.2)
j Hs (.ref e1.2.2)
k UH L.tie
l .dK (putK $a (Sw (Z0 $b)) (Hi $c))
m YX (compareOp op) r
o s.heap.IsTuple t xs
p h.Ns mainGlobals mg
q TV y py
r ZX a o
u xs.map $a
v .own x
w I.hok.fresh $a
x σ.set i (Hs v)
y Zh (Bg (VS hc))
z .bl false
A eval iter X.env
B rawInt $a
C RH (PyProof.noPylong_small HI)
D .dK $a
E Hi fa
F Or.inl rfl
G K4 H5D
H NQ rfl
I Option Nat
J List.mem_of_mem_drop $a
K vs.getD i .none
L .ret .none
M F.args_tuple_iterator_next_1 _
N .DictComp kx vx gens scope pos
O List.not_lt.mp $a
P zas $a
Q Ho hq
R C.cm $a
S C.inn $a
T Qr hi
U Hk (k5 _ _ cx Ha)
V none' b m H3 cH D3 (dS.sub Ha)
W He nlp
X WD $a (Hr $b)
Z zaq So" else
if c="O" then"a .lst xs.reverse
b Sw z
c .str q.1
d S9 (QV RX) (QO (ZV (zaa (Cs (Rx (QV (pv 3)))) zae)))
e QO (ZV (Rx (Cs $a)))
g zaa (S0 $a) (zaa (S0 $a) (zaa $b $c))
h .cons $a $b
i relabel $a env
j YQ σ
l k _ _ e
m strValues $a
n s.heap.IsKeyIter j d i es.size ep
o Yw _
p Zh LP
q ZX s.heap.objs.size $a
s .type T
t Z9 i ty
u QE x qual st f fd
v Hs (.int RO)
w .bool $a
x nt c xs q
y k7.sub Ha
z k4.sub Ha
A S9 R6 zah
B Dh HQ aI Ua $a
C Sum.inr q.1
D ic.sub Ha
E HM i
F pyIter $a
G binaryOp .Add
H hn b hb
I keyLt' kd x y
J Nz zgc.nd (pcl $a hr (ZM (ZW (QG SO))))
L zaf hb
M hd σ H p
N S8 0 0
O V.ref e.2
P zer i
Q sb.2 b $a
R V6 vs
S He hk
T Rm hD
U SC hy
V vs.toArray.zip vs.toArray
W Zh lt
X Ho h2
Y Ho h3
Z Tu Ra
0 He hz
1 pcl $a hr $b
2 Ho h4
4 eK es
5 tn 0 s.heap
6 V.ref e.2.2
7 Wc q" else
if c="P" then"b He e
c xs.take $a
e Tu u
f Zd.mp $a
g truthy v
i RH h
j TV x aK
k TV x p
l Ts z
n WL H
o no c _ q
p Rl H
q Hl aN hj
r zej R6
s k1 c u ec Ha
t row (Lh $a)
u pv 4
w zaq Sc
x za8 (U6 zae)
y Hd 3
z pv 3
B Z7 m
F zs.take $a
H Hk aw
J spFree C
K k6.trans $a
M .int q.2
N Hl e1 bq
P HM o
Q storeName X.env x $a
R .Constant .none j $a
U letOwnedTupleGo tg Tk u
V compareOp .Lt $a $b
X compTurn $a $b it $c env
Y Qr aq
Z none' b8 m8 H8 c9 D8 i9
0 S8 lo t
3 S8 hi u
4 Z9 l tl
5 Hi x
6 Hi C
7 h pos a5 s σ H _ I hq
8 .Attribute o name apos
9 compEnvC sc Tg C X.env" else
if c="A" then"a MV (Vw zbr)
b ag.nodup_iff.mpr $a
c hp.mem_iff.mpr (QZ Ei)
d za1 h hz Hg
e Z2 q
f List.mem_reverse.mp hy
g BF a y o
h UF o na nb
i .tbl ps
j hs.2 b $a
k .int $a s.toks
l X2 eb
m dk_empty s.heap I.big
n backTo cpos $a
o Hl z Qb
p Q (.bl $a) H
q zbo $a Rj $b
s QA l Rt
u HM h0
v zaq zc9
w Y4 S5 x
x S8 4 tk
y K4 hn
z f v u
A WK (YF hp)
B Hc f
C Wa _
D List.of_mem_zip $a
E UB p.1 p.2
F .Slice lo hi none p2
G .ref s3.heap.objs.size
H Zl hb
I WO ys
J K w.params
K .compLoop $a 0 $b Th $c
L WK hp
M S' st
N p.getD i 0
O Qr aU
Q Tu RU
R Hi j
S WJ w
T Lg Hv 1 af
U BP x
V Q9 RV
W Rl H2
X .inr (SC h)
Y a9 y
Z He hy
0 kP e.1
3 zbw (N0 $a $b)
4 Ho hl
5 Q7 $a (Hr $b)
6 DR Hf
7 ID RD
8 zdr C
9 Qr ad" else
if c="z" then"a HJ kf
b Cp (Da SO)
e ZR hs
f .ref s4.heap.objs.size
g z.sameBut hs (cne y c e)
h s.heap.IsTupleIter j t i
i k _ _ r.dc hd
j Hc p
k Hc x
m Rx (S0 (pv $a))
o ZW zae
p .compStart $a 1 $b af env
q pv 2
r intBits_le_64 h1 h2
t .Attribute $a f $b
u starEach args X.env
w List.toArray (Se n)
x PySem.W.kdl_dict lo
y zac $a $b
A Sj (SA $a)
B k3 _ _ $a Ha
C zbn $a $b zap
E ZW (Rx $a)
F U1 e1.1 (ins e1.2.1 $a e2.1) a1
G plainId_quiet $a _
H Rk fO
I f s.1
J f s.2
K J4 e n hx
L .Constant $a j pos
M ha a5 s σ H Q I h
N hc a5 s σ H _ I h
O Lz o i
P hv a5 s σ H _ I h
Q WC $a A outer s H E
R x.above y c (Wp h)
S UB k v
T ks.map kV
U KO g2.objs.size Tg
V fplt b hb
W assign Iq X.env Th
Z a.extract $a $b
4 failedOf $a
6 sgk Cw
7 Lp (h n _ B n1 n2)
8 P.rev 0 m
9 W.sub _ h" else
if c="y" then"a KA rfl
b hh.1 _ _ $a Ha
c SqL.of R.ls
d zcd Rj
e Ht fH zab
f h s HW
g Zu.mpr $a
h row rs
i kP s
j Ht ndD hz
k za2 op_pow zah zah
l Xo _ _
m hf _ y
n Zd.mpr $a
o Vf zah Rj
p Be En zah
q spTries C
r cq.trans $a
t He ncp
u zg3 qo
w S8 1 v
x VT a tA
y .ref s1.heap.objs.size
z q _ SU
A Rp j
B UX H3 d c H'
C .tup (p.1.map kV)
D .Subscript o i tpos
E a7.toArray.push y
F Paired $a as $b
G Hr (fa.map V.ref)
H zao $a $b Ha
I Hr (G'.map V.str)
J Sb hx
K S8 i t
L Hs v
M HX o
N PIE X a5 σ tg R
O V7 k
P richCompare .Lt $a $b
Q Hs i
R ns.map WData.int
S ZO H
T k2 b o q
U qn D H5D
V YY k
W QR i
X pm.mem_iff.mp hv
Y wpAny_attempt $a
Z And.intro rfl h'
6 model Y.prog Y.w
8 Hr (r.map V.str)
9 Hs a" else
if c="x" then"a ZX re RQ
b fZ.mem_iff.mp $a
c k5 _ _ $a $b
f Hs Tt
g spCell K
h QI Sd (Oe SO) Hq
i wpAny_holding $a
j WA q.1
l IP (LZ GT bB Sn)
m zas (QO (Ev Sn))
n QS sl HL
o zai sLaw
q Hs 1
r I.kIn $a o hk
t Z9 value tv
u .bool false
w .str r.1
x .str r.2
y zce _
z at_rg hi
A List.getElem_append_left $a
B Rk r1
C Qh.mp $a
D Dz tb
E He hi
F h1.symm.trans e
G getItem $a $b
H .Subscript o i aK
I He hw
J  SqT X.K H p ys
K YM a7
L W2 t7
M M0 y7
N Hs SI
O Lw m'
P Q5 bi
Q seqEpoch_at $a rfl $b
R QZ hv
S rows.take $a
T WK (YF (WK o8))
U Value.ref $a
V IP R6
W Rl H1
X SC Cr
Z UW So pe_bl rfl" else
if c="w" then"b Tq ks
c au Hb
d EQ ts
e Hi t0
f QA $a (Hr $b)
g QP $a (Hr $b)
j QG Cl
n ID (V3 (Hi l6))
o ZM SY
p QG Sn
q eOf (sAt zhk 4)
u SQ k5
w q b o hw (Di z)
x V.str $a
z fm (ws.take HN)
A VD (ZM (ZW LI))
B .cons r3 (Oh r1 r4)
C List (S1 $a)
D SS (D8.ra.ro e1 bw)
E zaa (S9 $a $b) (zaa (S9 $c En) (zaa (S9 $c $d) (Rx (S9 $e $d))))
F zbj zc4 HQ av Wn $a
G dI.mem_iff.mp $a
H Bq hc" else
""
def zK(s:String):List String:=(s.toList.foldr (λc l=>if "() ".contains c then ""::(if c=' ' then l else String.singleton c::l) else match l with|x::t=>(String.singleton c++x)::t|[]=>[]) [""]).filter (·≠"")
open Lean in
def zI(g:Array Syntax)(t:String):Syntax:=
 if t="_" then .node .none ``Parser.Term.hole #[.atom .none "_"] else if t.toNat?.isSome then Syntax.mkNumLit t else
 if t.startsWith "." then .node .none ``Parser.Term.dotIdent #[.atom .none ".",mkIdent (t.drop 1).toString.toName] else
 ((t.splitOn ".").foldl (λo p=>some (match o with
  |none=>if p.startsWith "$" then g.getD ((p.toList.getD 1 'a').toNat-97) .missing else mkIdent (.mkSimple p)
  |some x=>if p.toNat?.isSome then .node .none ``Parser.Term.proj #[x,.atom .none ".",Syntax.mkLit `fieldIdx p] else if x.isIdent then mkIdent (x.getId.str p) else .node .none ``Parser.Term.proj #[x,.atom .none ".",mkIdent (.mkSimple p)])) none).getD .missing
open Lean in
def zC(a:Array Syntax):Syntax:=if a.size≤1 then a.getD 0 .missing else let x:=a.getD 0 .missing; if x.isOfKind ``Parser.Term.app then .node .none ``Parser.Term.app #[x[0],mkNullNode (x[1].getArgs++a.extract 1 a.size)] else .node .none ``Parser.Term.app #[x,mkNullNode (a.extract 1 a.size)]
open Lean in
def zR(g:Array Syntax):Nat→List String→Array Syntax→Syntax×List String
 |n+1,"("::t,a=>let(x,r):=zR g n t #[];zR g n r (a.push x)
 |_,")"::t,a=>(zC a,t)
 |n+1,x::t,a=>zR g n t (a.push (zI g x))
 |_,t,a=>(zC a,t)
open Lean in
def zW(f:Name)(a:Array Syntax):MacroM Term:=do
 let .str .anonymous s:=f|Macro.throwUnsupported
 if s.length≠2 then Macro.throwUnsupported
 let some r:=((zS (s.take 1).toString).splitOn "\n").find? (·.startsWith (s.drop 1).toString)|Macro.throwUnsupported
 let t:=(zK r).tail
 let n:=t.foldl (λm x=>if x.startsWith "$" then max m ((x.toList.getD 1 'a').toNat-96) else m) 0
 if a.size<n then Macro.throwUnsupported
 return ⟨zC (#[(zR a 999 t #[]).1]++a.extract n a.size)⟩
set_option hygiene false
local macro_rules
|`(Ha)=>`(by simp)
|`(Hb)=>`(by lia)
|`(Hd $a)=>`(by show $a≤sizeLine;decide)
|`(He $a)=>`(by simpa using $a)
|`(Hf)=>`(by decide)
|`(Hg)=>`(by intro z;cases z)
|`(Hh)=>`(((Sum.inr e.1:Key),V.int e.2))
|`(Hj)=>`(λcdv A outer s H vs Q E hr h=>?_)
|`(Hl $a $b)=>`(by rw[$a:term];exact $b)
|`(Hn)=>`(λcdv A outer s0 H vs Q E hr h=>?_)
|`(Hq)=>`(λ_ _=>rfl)
|`(Ht $a $b)=>`(by rw[zaf $a:term];exact $b)
|`(Hv)=>`(.ListComp elt [⟨tg1,it1,[],0⟩,⟨target,iter,ifs,0⟩] scope pos)
|`(Hy)=>`((∀σ' H',N σ' H'→∃m',m'<m∧W (i+1) m' σ' H'))
|`(Hz)=>`(by exact zar1 ‹_›)
|`(HG)=>`(.lst [.int (((c+s:Nat):Int)+1),.int (M:Int)])
|`(HH $a)=>`(by rw[$a:term];lia)
|`(HI)=>`(by lia)
|`(HJ $a)=>`(.dK (cnt $a λy=>((dg r D y:Nat):Int)))
|`(HK)=>`((∀b o,s.heap.get? b=some o→g.get? b=some o))
|`(HL)=>`(.lst [])
|`(HN)=>`(i+1)
|`(HQ)=>`(by rfl)
|`(HR)=>`(.ListComp elt [⟨target,iter,[],0⟩,⟨dr,bW,ifs,0⟩] scope pos)
|`(HS)=>`(Str×Int)
|`(HU)=>`(s.heap.objs.size+1)
|`(HV $a)=>`((gs++L.take $a).map λs=>(kP s,V.bl true))
|`(HZ)=>`(.ListComp elt [⟨tg,iter,ifs,0⟩] sc pos)
|`(Re)=>`(λ_ _=>False)
|`(Rf)=>`((∀b∈ch,(b∈X.ex∨X.s₀.heap.objs.size≤b)∧b≠X.env.locals∧(∀x c,X.env.cells.lookup x=some c→c≠b)∧∀p∈X.pn++a5,p.1≠b))
|`(Rg)=>`(forIn ifs true λc r=>if r=true then do let ok ←isTrue c env (eval c env);pure (ForInStep.yield ok) else pure (ForInStep.yield r))
|`(Rh)=>`((λcs y=>if(y.2==NameKind.free)=true then(y.1,(env.cells.lookup y.1).getD 0)::cs else cs))
|`(Rl $a)=>`(Keep [] $a H')
|`(Rm $a)=>`(by rw[$a:term];exact Qe _)
|`(Ro)=>`(newFunctionEnv sc X.env.globals (WS X.env) [] X.env.qual none .none (some X.env))
|`(Rp $a)=>`(pidx es[i].2.1.length $a)
|`(Rq)=>`(a.toList++b.toList)
|`(Rr)=>`(((Sum.inr e.1:Key),V.ref e.2.2))
|`(Rt)=>`(Hr ((es.map (·.1)).map V.str))
|`(Ry)=>`((∀D C m ys H' s',ZA (YL D (Hr ys)) s'→Q (Hi D) (YL D (Hr ys))→s'.heap.Ns C m→YL D (Hr ys) C=none→s.heap.objs.size<C→RR (Hi D) C (.ok .next) s'))
|`(RA)=>`(Ex2 λres r=>Aj2 (c=(Hs res,r)) (res.toList.Perm Rq))
|`(RC $a)=>`(.inl ⟨rfl,_,Hk $a⟩)
|`(RD)=>`(hs.map λe=>Hh)
|`(RE $a)=>`(Hr (((L.take $a).map (·.1)).map V.str))
|`(RG)=>`(λC a5 ex s H=>pv 0)
|`(RJ)=>`(λ_ _=>by simp)
|`(RN)=>`(x==("__debug__" : Str))
|`(RO)=>`(((0:Nat):Int))
|`(RP)=>`(.DictComp kx vx [⟨tg,iter,ifs,0⟩] sc pos)
|`(RQ)=>`(.dK [])
|`(⟨$xs,*⟩)=>do
 let mut o:Array Lean.Term:=#[]
 for x in xs.getElems do
  if x.raw.getId==`wI then o:=(o.push (← `(_))).push (← `(rfl)) else o:=o.push x
 if o.size==xs.getElems.size then Lean.Macro.throwUnsupported else `(⟨$o,*⟩)
|`($f:ident $a*)=>zW f.getId a.raw
|`($f:ident)=>zW f.getId #[]
section
set_option Elab.async false
inductive Ex1{T0:Sort _}(P:T0→Prop):Prop
 |mk (x0:T0) (h:P x0):Ex1 P
inductive Ex2{T0:Sort _}{T1:Sort _}(P:T0→T1→Prop):Prop
 |mk (x0:T0) (x1:T1) (h:P x0 x1):Ex2 P
inductive Ex3{T0:Sort _}{T1:Sort _}{T2:Sort _}(P:T0→T1→T2→Prop):Prop
 |mk (x0:T0) (x1:T1) (x2:T2) (h:P x0 x1 x2):Ex3 P
inductive Ex4{T0:Sort _}{T1:Sort _}{T2:Sort _}{T3:Sort _}(P:T0→T1→T2→T3→Prop):Prop
 |mk (x0:T0) (x1:T1) (x2:T2) (x3:T3) (h:P x0 x1 x2 x3):Ex4 P
inductive Ex5{T0:Sort _}{T1:Sort _}{T2:Sort _}{T3:Sort _}{T4:Sort _}(P:T0→T1→T2→T3→T4→Prop):Prop
 |mk (x0:T0) (x1:T1) (x2:T2) (x3:T3) (x4:T4) (h:P x0 x1 x2 x3 x4):Ex5 P
inductive Ex6{T0:Sort _}{T1:Sort _}{T2:Sort _}{T3:Sort _}{T4:Sort _}{T5:Sort _}(P:T0→T1→T2→T3→T4→T5→Prop):Prop
 |mk (x0:T0) (x1:T1) (x2:T2) (x3:T3) (x4:T4) (x5:T5) (h:P x0 x1 x2 x3 x4 x5):Ex6 P
structure Aj2(p0 p1:Prop):Prop where
 h0:p0
 h1:p1
structure Aj3(p0 p1 p2:Prop):Prop where
 h0:p0
 h1:p1
 h2:p2
structure Aj4(p0 p1 p2 p3:Prop):Prop where
 h0:p0
 h1:p1
 h2:p2
 h3:p3
structure Aj5(p0 p1 p2 p3 p4:Prop):Prop where
 h0:p0
 h1:p1
 h2:p2
 h3:p3
 h4:p4
structure Aj6(p0 p1 p2 p3 p4 p5:Prop):Prop where
 h0:p0
 h1:p1
 h2:p2
 h3:p3
 h4:p4
 h5:p5
structure Aj7(p0 p1 p2 p3 p4 p5 p6:Prop):Prop where
 h0:p0
 h1:p1
 h2:p2
 h3:p3
 h4:p4
 h5:p5
 h6:p6
structure Aj8(p0 p1 p2 p3 p4 p5 p6 p7:Prop):Prop where
 h0:p0
 h1:p1
 h2:p2
 h3:p3
 h4:p4
 h5:p5
 h6:p6
 h7:p7
structure Aj9(p0 p1 p2 p3 p4 p5 p6 p7 p8:Prop):Prop where
 h0:p0
 h1:p1
 h2:p2
 h3:p3
 h4:p4
 h5:p5
 h6:p6
 h7:p7
 h8:p8
def zar1{a b:Nat}(h:a<b):b-(a+1)<b-a:=Nat.sub_lt_sub_left h (Wa a)
def zar3{a b:Nat}(h:a≤b)(k:¬a<b):a=b:=Nat.le_antisymm h (Nat.le_of_not_lt k)
def zar4{a b:Nat}(h:a≤b):a+1≤b+1:=Nat.succ_le_succ h
def zar6{a b c:Nat}(e:a=b)(h:c<b):c<a:=e▸h
def zar7{a b c:Nat}(e:a=b)(h:c<a):c<b:=e▸h
def zar9{a b:Nat}(h:a<b):(a:Int)<(b:Int):=Int.ofNat_lt.mpr h
def zar10{a b:Nat}(h:a<b)(k:b≤a):False:=Yw _ (Zw h k)
def ze9{a b c:Nat}(h:a≤b)(e:a=c):c≤b:=e▸h
def zar16{a b:Nat}(h:a≤b):a≤b+1:=Nat.le_succ_of_le h
end
section
set_option Elab.async false
set_option linter.all false
set_option maxRecDepth 100000
namespace L2
open PySem PySem.Spec PyProof.Rows
abbrev Key:=Sum Int Str
def keyIs:Key→Value→Bool
 |.inl k,v=>Value.isInt k v
 |.inr x,v=>Value.isStrOf x v
def keyH(w:Nn):Key→Int
 |.inl k=>hashInt k
 |.inr x=>hashStr w x
theorem zbp:∀{k:Key} {v:Value},keyIs k v=true→(∃i t,k=Sum.inl i∧v=Bw t)∨(∃x t,k=Sum.inr x∧v=Y' t)
 |.inl i,v,h=>by
  obtain⟨t,e⟩:=Value.isInt_shape (k:=i) (v:=v) h
  exact .inl ⟨i,t,rfl,e⟩
 |.inr x,v,h=>by
  obtain⟨t,e⟩:=Value.isStrOf_shape (x:=x) (v:=v) h
  exact .inr ⟨x,t,rfl,e⟩
def keyIs_int(i:Int)(t:Tok):keyIs (RH i) yK=true:=by simp[keyIs,Value.isInt]
def keyIs_str(x:Str)(t:Tok):keyIs (SC x) (.str x t)=true:=by simp[keyIs,Value.isStrOf]
def key_ll(a b:Int):decide ((Sum.inl a:Key)=Sum.inl b)=(a==b):=by
 by_cases e:a=b
 ·subst e;simp
 ·have h:¬ (Sum.inl a:Key)=Sum.inl b:=fun q=>e (Sum.inl.inj q)
  rw[decide_eq_false h]
  exact(EE e).symm
def key_rr(a b:Str):decide ((Sum.inr a:Key)=Sum.inr b)=decide (a=b):=by
 by_cases e:a=b
 ·subst e;simp
 ·have h:¬ (Sum.inr a:Key)=Sum.inr b:=fun q=>e O7
  rw[decide_eq_false h,decide_eq_false e]
def key_lr(a:Int)(b:Str):decide ((Sum.inl a:Key)=Sum.inr b)=false:=decide_eq_false (λq=>nomatch q)
def key_rl(a:Str)(b:Int):decide ((Sum.inr a:Key)=Sum.inl b)=false:=decide_eq_false (λq=>nomatch q)
def zav(prog:Nk)(w:Nn):PySem.KeyKind prog w Key where
 is:=keyIs
 hash:=keyH w
 inj:=λv a b ha hb=>by
  rcases zbp ha with⟨i,t,rfl,rfl⟩ | ⟨x,t,rfl,rfl⟩
  ·rcases zbp hb with ⟨j,u,rfl,e⟩ | ⟨y,u,rfl,e⟩
   ·injection e with e1 _;rw[e1]
   ·exact nomatch e
  ·rcases zbp hb with ⟨j,u,rfl,e⟩ | ⟨y,u,rfl,e⟩
   ·exact nomatch e
   ·injection e with e1 _;rw[e1]
 byValue:=λk v h=>by
  rcases zbp h with⟨i,t,rfl,rfl⟩ | ⟨x,t,rfl,rfl⟩<;>rfl
 pyHash:=λhv h=>by
  rcases zbp hv with⟨i,t,rfl,rfl⟩ | ⟨x,t,rfl,rfl⟩
  ·exact wpAny_pyHash_int h
  ·exact wpAny_pyHash_str h
 eqBool:=λhu hv h=>by
  rcases zbp hu with⟨i,t,rfl,rfl⟩ | ⟨x,t,rfl,rfl⟩
  ·rcases zbp hv with ⟨j,u,rfl,rfl⟩ | ⟨y,u,rfl,rfl⟩
   ·rw[key_ll]at h;exact wpAny_eqBool_int h
   ·rw[key_lr]at h;exact SeqAt.EqAt.int_str i t y u _ _ _ _ h
  ·rcases zbp hv with ⟨j,u,rfl,rfl⟩ | ⟨y,u,rfl,rfl⟩
   ·rw[key_rl]at h;exact SeqAt.EqAt.str_int x t j u _ _ _ _ h
   ·rw[key_rr]at h;exact wpAny_eqBool_str h
 «strs»:=λk x t v h=>by
  rcases zbp h with⟨i,u,rfl,e⟩ | ⟨y,u,rfl,e⟩
  ·exact nomatch e
  ·injection e with e1 _
   subst e1
   cases v<;>rfl
def mixKind_int(prog:Nk)(w:Nn)(i:Int)(t:Tok):(zav prog w).is (RH i) yK=true:=keyIs_int i t
def zgo(prog:Nk)(w:Nn)(x:Str)(t:Tok):(zav prog w).is (SC x) (.str x t)=true:=keyIs_str x t
end L2
namespace L2
open PySem PySem.Spec PyProof.Rows
inductive V where
 |non | bl (b:Bool) | int (i:Int) | str (x:Str) | byt (b:Array UInt8) | flt (b:UInt64) | ref (a:Nc) | ty (n:String)
 deriving DecidableEq
def RelV:V→Value→Prop
 |.non,u=>u=Value.none
 |.bl b,u=>u=Value.bool b
 |.int i,u=>∃t,u=Bw t
 |.str x,u=>∃t,u=Y' t
 |.byt b,u=>∃t,u=Value.bytes b t
 |.flt b,u=>∃t,u=Value.float b t
 |.ref a,u=>u=Value.ref a
 |.ty n,u=>u=Value.type n
abbrev Vals:List V→List Value→Prop:=Paired RelV
def Vals.length{xs:List V}{us:Nl}(r:WR us):xs.length=us.length:=Zy r
theorem Vals.get:∀{xs:List V} {us:Nl} {i:Nat} {x:V},WR us→xs[i]?=some x→∃u,us[i]?=some u∧W6 u
 |_,_,_,_,.nil,e=>by simp at e
 |_,_,0,_,.cons r _,e=>by simp at e;subst e;exact⟨wI,r⟩
 |_,_,i+1,x,.cons _ t,e=>by
  obtain⟨u,h1,h2⟩:=Vals.get (i:=i) (x:=x) t Pb
  exact⟨u,He h1,h2⟩
theorem Vals.set(r:W6 u):∀{xs:List V} {us:Nl} (i:Nat),WR us→Vals (xs.set i x) (us.set i u)
 |_,_,_,.nil=>.nil
 |_,_,0,.cons _ t=>.cons r t
 |_,_,i+1,.cons q t=>.cons q (Vals.set r i t)
theorem Vals.append:∀{xs ys:List V} {us ws:Nl},WR us→YM ws→Vals (xs++ys) (us++ws)
 |_,_,_,_,.nil,s=>s
 |_,_,_,_,.cons r t,s=>.cons r (Vals.append t s)
theorem Vals.take:∀{xs:List V} {us:Nl} (n:Nat),WR us→Vals (Pc n) (us.take n)
 |_,_,0,_=>.nil
 |_,_,_+1,.nil=>.nil
 |_,_,n+1,.cons r t=>.cons r (Vals.take n t)
theorem Vals.drop:∀{xs:List V} {us:Nl} (n:Nat),WR us→Vals (xs.drop n) (us.drop n)
 |_,_,0,r=>r
 |_,_,_+1,.nil=>.nil
 |_,_,n+1,.cons _ t=>Vals.drop n t
def RelO:Option V→Option Value→Prop
 |some v,some u=>UO u
 |none,none=>True
 |_,_=>False
def KV{κ:Type}:List (κ×V)→List (κ×Value)→Prop:=Paired λ(p:κ×V) (q:κ×Value)=>p.1=q.1∧Dx q.2
def kV:Key→V
 |.inl i=>.int i
 |.inr x=>.str x
inductive HO where
 /-- a list -/
 |lst (xs:List V)
 /-- a tuple (never changes) -/
 |tup (xs:List V)
 /-- a dict whose keys are ints and texts;one whose keys are tuples of ints and texts (the empty one is both) -/
 |dK (kvs:List (Key×V)) | dT (kvs:List (List Key×V))
 /-- a set of ints: a7 members,a7 size -/
 |set (S:Int→Bool) (n:Nat)
 /-- an instance of the class at C,a7 dict at dx,a7 attributes -/
 |ins (C dx:Nc) (fs:List (Str×V))
 /-- the dict of the instance at x -/
 |own (x:Nc)
 /-- the dict of an exception -/
 |xd (fs:List (Str×V))
 /-- a bound method,f of x -/
 |met (f x:Nc)
 /-- a range object lo,lo+1,.. below hi -/
 |rng (lo hi:Int)
 /-- a thing that is known to the object (the script;a dict while a loop walks it): read,never written while it is so -/
 |frz (o:Obj) (u:HO)
 /-- a code object's table -/
 |tbl (ps:Array Value)
 /-- any other thing,by what is true of a7 one object (a def of one's own: SetO a S n:=HO.ext λh=>..) -/
 |ext (φ:Heap→Prop)
abbrev Hp:=Addr→Option HO
def upd(H:Hp)(a:Nc)(o:HO):Hp:=λb=>if b=a then some o else H b
def zab{H:Hp}{a:Nc}{o:HO}:ZX a o a=some o:=by unfold upd;rw[if_pos rfl]
def zaf{H:Hp}{a b:Nc}{o:HO}(h:b≠a):ZX a o b=H b:=by unfold upd;rw[if_neg h]
def upd_upd:upd Ir a u=ZX a u:=by
 funext b;unfold upd;split<;>rfl
def za1{H:Hp}{a b:Nc}{o u:HO}(h:H a=some o)(h':H b=some u)(d:o≠u):a≠b:=by
 intro e;subst e;rw[h]at h';exact d (Qn h')
def zac{H:Hp}{a b:Nc}{o:HO}(h:H a=some o)(h':H b=none):a≠b:=by
 intro e;subst e;rw[h]at h';cases h'
section
variable(P:Nk)(w:Nn)
def zb1(H:Hp)(h:Np)(a:Nc):HO→Prop
 |.lst xs=>xs.length≤sizeLine∧∃(a7:Nl) (n:Nat),WR a7∧h.get? a=some {cls:=.type "list",data:=.seq a7.toArray n}
 |.tup xs=>xs.length≤sizeLine∧∃a7:List Value,WR a7∧IsTup h a a7.toArray
 |.dK kvs=>kvs.length≤sizeLine∧(a==sysModules)=false∧∃vs,UP vs∧h.DictOf LY a vs
 | .dT kvs=>kvs.length≤sizeLine∧(a == sysModules)=false∧∃ xs:List (List Key×Addr×Value),
   Paired (λ(p:List Key×V) (q:List Key×Addr×Value)=>p.1=q.1∧H q.2.1=some yC∧Dx q.2.2) kvs xs ∧
   ∃o es ep,h.get? a=some o∧o.ExactDict∧o.data=.dict es ep∧es.toList=xs.map (entryOfKey (CY LY))∧(Iu (·.1)).Nodup
 |.set S n=>h.SetOf (intKind P w) a S n
 | .ins C dx fs=>H dx=some EF∧fs.length≤1000∧dx≠a∧h.get? a=some (WY dx) ∧
   ∃mA,h.Ns1 dx mA∧(∀f,KD (mA f))∧VQ (fs.map (·.1))
 |.own _=>∃o,h.get? a=some o
 |.xd fs=>∃mA,h.Ns1 a mA∧∀f,KD (mA f)
 |.rng lo hi=>∃t u v,h.get? a=some {cls:=.type "range",data:=.fields #[P0,P3,yw]}
 |.frz o u=>h.get? a=some o∧zb1 H h a u
 |.tbl ps=>h.get? a=some {cls:=.none,data:=.fields ps}
 |.met f x=>h.get? a=some (Bj P5)
 |.ext φ=>φ h∧(∃o,h.get? a=some o)∧∀h1 h2:Heap,φ h1→(∀o,h1.get? a=some o→h2.get? a=some o)→φ h2
def HOk(H:Hp)(h:Np):Prop:=∀a o,H a=some o→YJ o
end
section
variable{P:Nk}{w:Nn}{H H':Hp}{h h':Np}{a:Nc}{o:HO}
def zb1.lt(x:YJ o):a<h.objs.size:=by
 cases o with
 |lst xs=>obtain⟨_,_,_,_,e⟩:=x;exact Qu e
 |tup xs=>obtain⟨_,_,_,p⟩:=x;exact p.lt
 |dK kvs=>obtain⟨_,_,_,_,o,_,_,e,_⟩:=x;exact Qu e
 |dT kvs=>obtain⟨_,_,_,_,o,_,_,e,_⟩:=x;exact Qu e
 |set S n=>obtain⟨o,_,_,_,e,_⟩:=x;exact Qu e
 |ins C dx fs=>obtain⟨_,_,_,e,_⟩:=x;exact Qu e
 |own y=>obtain⟨_,e⟩:=x;exact Qu e
 |xd fs=>obtain⟨_,⟨_,_,_,e,_⟩,_⟩:=x;exact Qu e
 |rng lo hi=>obtain⟨_,_,_,e⟩:=x;exact Qu e
 |frz ob u=>obtain⟨e,_⟩:=x;exact Qu e
 |tbl ps=>exact Qu (show h.get? a=some _ from x)
 |met f y=>exact Qu (show h.get? a=some _ from x)
 |ext φ=>obtain⟨_,⟨_,e⟩,_⟩:=x;exact Qu e
theorem Paired.mapP{α β:Type}{F G:α→β→Prop}:∀{l₁:List α} {l₂:List β},Paired F l₁ l₂→(∀a b,F a b→G a b)→Paired G l₁ l₂
 |_,_,.nil,_=>.nil
 |_,_,.cons r t,f=>.cons (f _ _ r) (Paired.mapP t f)
def Paired.imp'{α β:Type}{F G:α→β→Prop}(f:∀a b,F a b→G a b){l₁:List α}{l₂:List β}(r:Paired F l₁ l₂):Paired G l₁ l₂:=Paired.mapP r f
def zb1.stay(x:YJ o)(k:∀b u,(b=a∨H b=some EF)→h.get? b=some u→h'.get? b=some u)(ho:∀b,H b=some EF→H' b=some EF)(ht:∀b xs,H b=some ST→H' b=some ST):UZ H' h' a o:=by
 induction o with
 |lst xs=>obtain⟨z,a7,n,r,e⟩:=x;exact⟨z,a7,n,r,Tz⟩
 |tup xs=>obtain⟨z,a7,r,ob,e,c⟩:=x;exact⟨z,a7,r,ob,Tz,c⟩
 |dK kvs=>obtain⟨z,y,vs,r,ob,es,ep,e,c⟩:=x;exact⟨z,y,vs,r,ob,es,ep,Tz,c⟩
 |dT kvs =>
  obtain⟨z,y,xs,r,ob,es,ep,e,c⟩:=x
  exact⟨z,y,xs,Paired.mapP r λp q z=>⟨z.1,ht _ _ z.2.1,z.2.2⟩,ob,es,ep,Tz,c⟩
 |set S n=>obtain⟨ob,es,ep,t,e,c⟩:=x;exact⟨ob,es,ep,t,Tz,c⟩
 |ins C dx fs =>
  obtain⟨d,z,ne,e,mA,⟨od,es,ep,e2,c⟩,r⟩:=x
  exact⟨ho _ d,z,ne,Tz,mA,⟨od,es,ep,k _ _ (SC d) e2,c⟩,r⟩
 |own y=>obtain⟨ob,e⟩:=x;exact⟨ob,Tz⟩
 |xd fs=>obtain⟨mA,⟨od,es,ep,e,c⟩,r⟩:=x;exact⟨mA,⟨od,es,ep,Tz,c⟩,r⟩
 |rng lo hi=>obtain⟨t,u,v,e⟩:=x;exact⟨t,u,v,Tz⟩
 |frz ob u ih=>obtain⟨e,q⟩:=x;exact⟨Tz,ih q⟩
 |tbl ps =>
  have e:h.get? a=some {cls:=.none,data:=.fields ps}:=x
  show h'.get? a=some {cls:=.none,data:=.fields ps}
  exact k a _ HW e
 |met f y =>
  have e:h.get? a=some (Bj (Hi y)):=x
  show h'.get? a=some (Bj (Hi y))
  exact k a _ HW e
 |ext φ=>obtain⟨p,⟨o,e⟩,st⟩:=x;exact⟨st _ _ p λo q=>k _ _ HW q,⟨o,Tz⟩,st⟩
def HOk.lt(x:WZ h)(e:H a=some o):a<h.objs.size:=(x a o e).lt
def HOk.fresh(x:WZ h)(e:h.objs.size≤a):H a=none:=by
 cases q:H a with
 |none=>rfl
 |some u=>exact absurd (Zw (x.lt q) e) Oo
def HOk.kept(x:WZ h)(k:∀b u,h.get? b=some u→h'.get? b=some u):WZ h':=λa o e =>
 (x a o e).stay (λb u _ q=>k b u q) (λ_ q=>q) λ_ _ q=>q
def HOk.laid(x:WZ h)(k:∀b u,h.get? b=some u→h'.get? b=some u)(hp:h.objs.size≤a)(new:UZ Ir h' a o):HOk P w Ir h':=λb u e=>by
 have hn:=x.fresh hp
 by_cases hb:b=a
 ·subst hb;rw[zab]at e;cases e;exact new
 ·rw [OL] at e
  exact(x b u e).stay (λc v _ q=>k c v q) (λc q=>by rw[zaf Ay];exact q) λc xs q=>by rw[zaf Ay];exact q
end
def Rd(H:Hp)(a:Nc)(u:HO):Prop:=H a=some u∨∃o,H a=some Pe
def Rd.ok{P:Nk}{w:Nn}{H:Hp}{h:Np}{a:Nc}{u:HO}(r:KF u)(x:WZ h):YJ u:=by
 rcases r with r | ⟨o,r⟩
 ·exact x a u r
 ·obtain ⟨_,q⟩:=x a _ r
  exact q
def Mut:Option HO→Prop
 |some (.lst _)=>True
 |some (.dK _)=>True
 |some (.dT _)=>True
 |some (.set _ _)=>True
 |some (.ins _ _ _)=>True
 |some (.ext _)=>True
 |_=>False
section
variable{P:Nk}{w:Nn}{H:Hp}{h h':Np}{x e:Nc}{o':HO}
def HOk.write(ok:WZ h)(mu:Mut (H x))(he:e=x∨H e=some Iv)(k:∀ b u,b≠e→h.get? b=some u→h'.get? b=some u)(lX:∃ u,h'.get? e=some u)(new:UZ (ZX x o') h' x o'):HOk P w (ZX x o') h':=λb u q=>by
 have nown:∀c y,H c=some (.own y)→c≠x:=λc y r z=>by subst z;rw[r]at mu;exact mu
 have ntup:∀c xs,H c=some ST→c≠x:=λc xs r z=>by subst z;rw[r]at mu;exact mu
 by_cases hb:b=x
 ·subst hb;rw[zab]at q;cases q;exact new
 ·rw [OL] at q
  by_cases kT:b=e
  ·have q':H b=some Iv:=by
    rcases he with z | z
    ·exact absurd (kT.trans z) hb
    ·rw[kT];exact z
   rw[q]at q';cases q'
   obtain⟨v,hv⟩:=lX
   exact⟨v,Hl kT hv⟩
  ·refine (ok b u q).stay (fun c v hc r=>k c v ?_ r) (fun c r=>by rw [zaf (nown c b r)];exact r) fun c xs r=>by rw [zaf (ntup c xs r)];exact r
   rcases hc with rfl | hc
   ·exact kT
   ·rintro rfl
    rcases he with z | z
    ·exact nown c b hc z
    ·rw[hc]at z;cases z;exact hb rfl
end
structure Un(fs ex:No)(H H':Hp)(h h':Np):Prop where
 keep:∀b o,h.get? b=some o→H b=none→b∉fs→b∉ex→h'.get? b=some o
 slot:∀b o,h.get? b=some o→H b=none→b∈fs→b∉ex→∃sl,h'.get? b=some {o with slots:=sl}
 free:∀b o,h.get? b=some o→H b=none→b∉ex→H' b=none
 there:∀b o,h.get? b=some o→b∉ex→∃o',h'.get? b=some o'
 tups:∀b xs,H b=some ST→H' b=some ST
 frzs:∀b o u,H b=some Pe→H' b=some Pe
 tbls:∀b ps,H b=some Ai→∃more,H' b=some (.tbl (ps++more))
section
variable{fs fs' ex ex':No}{H H1 H2:Hp}{h h1 h2 h':Np}{a x e:Nc}{o:HO}
def Un.any(u:KG H1 h h1){b:Nc}{ob:Obj}(q:h.get? b=some ob)(n:H b=none)(hx:b∉ex):∃sl,h1.get? b=some {ob with slots:=sl}:=by
 by_cases hb:b∈fs
 ·exact u.slot b ob q n hb hx
 ·exact⟨ob.slots,u.keep b ob q n hb hx⟩
def Un.kept(k:∀b u,h.get? b=some u→h'.get? b=some u):KG H h h' :=
 ⟨λb ob q _ _ _=>k b ob q,λb ob q _ _ _=>⟨ob.slots,k b ob q⟩,λ_ _ _ n _=>n,λb ob q _=>⟨ob,k b ob q⟩,λ_ _ q=>q,λ_ _ _ q=>q,λ_ ps q=>⟨#[],by rw[q];simp⟩⟩
def Un.refl:KG H h h:=Un.kept λ_ _ q=>q
theorem Un.laid(k:∀b u,h.get? b=some u→h'.get? b=some u)(hp:h.objs.size≤a)(hn:H a=none):KG Ir h h' where
 keep:=λb u q _ _ _=>k b u q
 slot:=λb u q _ _ _=>⟨u.slots,k b u q⟩
 free:=λb u q n _=>by rw[zaf (Zh (Zw (Qu q) hp))];exact n
 there:=λb u q _=>⟨u,k b u q⟩
 tups:=λb xs q=>by rw[zaf Ay];exact q
 frzs:=λb u xs q=>by rw[zaf Ay];exact q
 tbls:=λb ps q=>⟨#[],by rw[zaf Ay,q];simp⟩
def Un.write(mu:Mut (H x))(he:e=x∨H e=some Iv)(k:∀b u,b≠e→h.get? b=some u→h'.get? b=some u)(lX:∃u,h'.get? e=some u):KG (ZX x o) h h':=by
 have hx:∀b,H b=none→b≠x:=λb n z=>by subst z;rw[n]at mu;exact mu
 have hb:∀b,H b=none→b≠e:=λb n z=>by
  subst z
  rcases he with r | r
  ·exact hx b n r
  ·rw[n]at r;cases r
 have hm:∀b u,H b=some u→¬Mut (Hs u)→b≠x:=λb u q nm z=>by subst z;rw[q]at mu;exact nm mu
 refine⟨λb u q n _ _=>k b u (hb b n) q,λb u q n _ _=>⟨u.slots,k b u (hb b n) q⟩,λb u q n _=>by rw[zaf (hx b n)];exact n,λb u q _=>?_,
  λb xs q=>by rw[zaf (hm b _ q λz=>z)];exact q,λb u xs q=>by rw[zaf (hm b _ q λz=>z)];exact q,λb ps q=>⟨#[],by rw[zaf (hm b _ q λz=>z),q];simp⟩⟩
 by_cases kT:b=e
 ·subst kT;exact lX
 ·exact⟨u,k b u kT q⟩
end
def trk(h:Np)(H:Hp):List Addr:=(List.range h.objs.size).filter λa=>(H a).isSome
def hidT(h:Np)(H:Hp):Heap:=PySem.W.hideAll h (trk h H)
def hidT_size(h:Np)(H:Hp):(hidT h H).objs.size=h.objs.size:=PySem.W.hideAll_size _ _
def hidT_get{h:Np}{H:Hp}{b:Nc}{o:Obj}(e:h.get? b=some o)(n:H b=none):(hidT h H).get? b=some o :=
 PySem.W.hideAll_get _ e λhm=>by
  have q:(H b).isSome=true:=(Pf hm).2
  rw[n]at q;simp at q
def of_hidT{h:Np}{H:Hp}{b:Nc}{o:Obj}(e:(hidT h H).get? b=some o):h.get? b=some o∧H b=none:=by
 have e':h.get? b=some o:=PySem.W.of_hideAll (trk h H) e
 refine⟨e',?_⟩
 cases q:H b with
 |none=>rfl
 |some x =>
  have hm:b∈trk h H:=Zd.mpr ⟨Wk.mpr (Qu e'),by simp[q]⟩
  have z:(hidT h H).get? b=none:=PySem.W.hideAll_none (trk h H) hm
  rw[z]at e;cases e
end L2
namespace L2
open PySem PySem.Spec PyProof.Rows
structure Mod(K:Na)(mg:Ng)(base:Np):Prop where
 kin:K.In base
 glob:base.Ns mainGlobals mg
 blt:∃mb,base.Ns builtinsNs mb∧∀x:Str,x ≠ "__name__" → mb x=bootBuiltins x
 nolimit:base.NoLimit
structure Cx where
 prog:Program
 w:World
 K:PySem.W.Frag
 mg:Str→Option Value
 base:Heap
 A:Around
 N:List Str
 s₀:Shared
 H₀:Hp
 env:Env
 outer:List Env
 stack:List Env
 ex:List Addr
 fn:Str→Bool
 calm:Bool
 pn:List (Addr×Obj)
 xe:Value→Shared→Prop
def frs(l:List Env):List Addr:=l.filterMap (·.frame)
abbrev Cx.fs(X:Cx):List Addr:=frs X.outer
def Vis(sc:Scope)(x:Str):Prop:=sc.names.lookup x=some .local∨sc.names.lookup x=some .cell∨sc.names.lookup x=some .free
def Loc(sc:Scope)(x:Str):Prop:=sc.names.lookup x=some .local∨sc.names.lookup x=some .cell
def Look(env:Env)(h:Np)(m:Ng)(x:Str)(u:Value):Prop :=
 (env.kindOf x=some .local∧m x=some u)∨((env.kindOf x=some .cell∨env.kindOf x=some .free)∧∃c,env.cells.lookup x=some c∧h.IsCell c (Hs u))
structure Cx.Ok(X:Cx):Prop where
 mod:Mod X.K X.mg X.base
 kind:X.env.scope.kind=.function
 glob:X.env.globals=mainGlobals
 blt:X.env.builtins=builtinsNs
 above:X.s₀.heap.objs.size≤X.env.locals
 inj:∀x y c,X.env.cells.lookup x=some c→X.env.cells.lookup y=some c→x=y
 has:∀x,(X.env.kindOf x=some .cell∨X.env.kindOf x=some .free)→∃c,X.env.cells.lookup x=some c
 cab:∀x c,X.fn x=true→X.env.cells.lookup x=some c→X.s₀.heap.objs.size≤c
 hd:X.calm=true→X.A.handled=none
 frames:X.A.frames=some X.stack
 stk:X.stack=X.outer∨(X.stack=X.env::X.outer∧X.env.frame=some X.env.locals)
 exf:∀b∈X.ex,b≠X.env.locals∧∀x c,X.env.cells.lookup x=some c→c≠b
 bs:∀b o,X.base.get? b=some o→X.s₀.heap.get? b=some o∧X.H₀ b=none
 bsz:X.base.objs.size≤X.s₀.heap.objs.size
 noex:∀b o,X.base.get? b=some o→b∉X.ex
 exfs:∀b∈X.ex,b∉X.fs
 funs:VR X.outer
 frf:∀b∈X.fs,X.H₀ b=none
structure Inv(X:Cx)(a5:Ni)(σ:List (Option V))(H:Hp)(s:Nj):Prop where
 ok:X.Ok
 os:s.os=X.s₀.os
 bare:AllBare s.gens
 base:Un X.fs X.ex X.H₀ H X.s₀.heap s.heap
 loc:∃m,s.heap.Ns X.env.locals m∧∀(i:Nat) (x:Str) (v:V),X.N[i]?=some x→σ[i]?=some yL→Xy x→∃u,UO u∧Look X.env s.heap m x u
 cell:∀x c,X.env.cells.lookup x=some c→∃v,s.heap.IsCell c v
 free:H X.env.locals=none
 freeC:∀x c,X.env.cells.lookup x=some c→H c=none
 pin:∀p∈X.pn++a5,s.heap.get? p.1=some p.2∧H p.1=none∧p.1≠X.env.locals∧p.1∉X.fs∧∀v,p.2.data≠.cell v
 hok:JC H s.heap
 len:σ.length=X.N.length
section
variable{X:Cx}{a5:Ni}{σ:List (Option V)}{H H':Hp}{s:Nj}{h':Np}
def Cx.Ok.nofr(ok:X.Ok)(e:X.base.get? b=some o):b∉X.fs:=λhb=>by
 have:=(ok.funs.mem hb).1
 rw[e]at this;cases this
def Inv.bs(I:HP):∀b o,X.base.get? b=some o→s.heap.get? b=some o∧H b=none:=λb o e =>
 ⟨I.base.keep b o (VH e).1 (VH e).2 (I.ok.nofr e) (MQ e),J4 (VH e).1 (VH e).2 (MQ e)⟩
def Inv.bk(I:HP):∀b o,X.base.get? b=some o→s.heap.get? b=some o:=λb o e=>(I.bs b o e).1
def Inv.mod(I:HP):Mod X.K X.mg X.base:=I.ok.mod
def Inv.kIn(I:HP):X.K.In s.heap:=I.ok.mod.kin.keeps I.bk
def Inv.lt(I:HP):X.env.locals<s.heap.objs.size:=let⟨_,hn,_⟩:=I.loc;hn.lt
def Inv.sz(I:HP):X.s₀.heap.objs.size≤s.heap.objs.size:=Zg I.ok.above (Wo I.lt)
def Inv.nofs(I:HP)(h:s.heap.objs.size≤a):a∉X.fs:=λhb=>by
 obtain⟨_,o,ho,_⟩:=I.ok.funs.mem hb
 exact absurd (Zw (Qu ho) (Zg I.sz h)) Oo
def Inv.cne(I:HP):∀x c,X.env.cells.lookup x=some c→c≠X.env.locals:=λx c e z=>by
 obtain⟨v,o,ho,hd⟩:=JS e
 obtain⟨m,⟨o',es,ep,di,iN,_⟩,_⟩:=I.loc
 rw[z,di]at ho;cases ho;rw[iN]at hd;cases hd
def Inv.funs(I:HP):s.heap.FunFrames X.base X.outer:=by
 have all:∀(l:List Env),(∀b∈frs l,b∈X.fs)→VR l→s.heap.FunFrames X.base l:=by
  intro l
  induction l with
  |nil=>intro _ _;trivial
  |cons env r ih =>
   intro hs hl
   obtain⟨hk,⟨L,o,hf,hn,ho,hd⟩,hr⟩:=hl
   have hL:L∈X.fs:=hs L (by unfold frs;rw[List.filterMap_cons,hf];exact List.mem_cons_self)
   obtain⟨sl,e⟩:=I.base.slot L o ho (I.ok.frf L hL) hL λz=>I.ok.exfs L z hL
   exact⟨hk,⟨L,_,hf,hn,e,hd⟩,ih (λb hb=>hs b (by unfold frs;rw[List.filterMap_cons,hf];exact ND hb)) hr⟩
 exact all X.outer (λ_ hb=>hb) I.ok.funs
def Inv.stack(I:HP):s.heap.FunFrames X.base X.stack:=by
 rcases I.ok.stk with e | ⟨e,hf⟩
 ·rw[e];exact I.funs
 ·rw [e]
  obtain⟨m,hn,_⟩:=I.loc
  refine .cons (by rw[I.ok.kind];decide) hf hn ?_ I.funs
  exact Heap.get?_none_of_le (Dy I.ok.above)
def Inv.stkSub(I:HP):∀b∈frs X.stack,b∈X.env.locals::X.fs:=λb hb=>by
 rcases I.ok.stk with e | ⟨e,hf⟩
 ·rw[e]at hb;exact QZ hb
 ·rw [e] at hb
  unfold frs at hb
  rw[List.filterMap_cons,hf]at hb
  exact hb
def Inv.stkFree(I:HP):∀b∈frs X.stack,H b=none:=λb hb=>by
 rcases Qh.mp (Ff hb) with e | hb
 ·rw[e];exact I.free
 ·obtain ⟨_,o,ho,_⟩:=I.ok.funs.mem hb
  exact J4 ho (I.ok.frf b hb) λz=>I.ok.exfs b z hb
def Inv.step{g':Array GenState}{t':Nat}{d':Drawn}{ch:No}(I:HP)(eQ:Rf)(keep:∀b o,b≠X.env.locals→b∉X.fs→b∉ch→s.heap.get? b=some o→H b=none→h'.get? b=some o)(slot:∀b o,b≠X.env.locals→b∈X.fs→b∉ch→s.heap.get? b=some o→H b=none→∃sl,h'.get? b=some {o with slots:=sl})(free:∀b o,b∉ch→s.heap.get? b=some o→H b=none→H' b=none)(there:∀b o,b∉ch→s.heap.get? b=some o→∃o',h'.get? b=some o')(tups:∀b xs,H b=some ST→H' b=some ST)(frzs:∀b o u,H b=some Pe→H' b=some Pe)(tbls:∀b ps,H b=some Ai→∃more,H' b=some (.tbl (ps++more)))(ns:∀m,s.heap.Ns X.env.locals m→h'.Ns X.env.locals m)(hok:JC H' h')(hg:AllBare g') :
  Inv X a5 σ H' {s with heap:=h',gens:=g',drawn:=d',toks:=t'}:=by
 have neL:∀b o,X.s₀.heap.get? b=some o→b≠X.env.locals:=λb o e=>Zh Eu
 have neC:∀b o,X.s₀.heap.get? b=some o→b∉X.ex→b∉ch:=λb o e hx hb=>by
  rcases(eQ b hb).1 with z | z
  ·exact hx z
  ·exact absurd (Bg z) Oo
 have cellK:∀x c,X.env.cells.lookup x=some c→∀v,s.heap.IsCell c v→h'.IsCell c v:=λx c e v ⟨o,ho,hd⟩=>by
  have nch:c∉ch:=λz=>(eQ c z).2.2.1 x c e rfl
  by_cases hc:c∈X.fs
  ·obtain ⟨sl,q⟩:=slot c o (I.cne x c e) hc nch ho (JW e)
   exact⟨_,q,hd⟩
  ·exact⟨o,keep c o (I.cne x c e) hc nch ho (JW e),hd⟩
 refine⟨I.ok,I.os,hg,⟨λb o e n hb hx=>?_,λb o e n hb hx=>?_,λb o e n hx=>?_,λb o e hx=>?_,λb xs e=>tups b xs (I.base.tups b xs e),λb o xs e=>frzs b o xs (I.base.frzs b o xs e),λb ps e=>?_⟩,?_,λx c e=>?_,?_,λx c e=>?_,λp hp=>?_,hok,I.len⟩
 ·exact keep b o (neL b o e) hb EG (BU hx) zK
 ·obtain ⟨sl,e1⟩:=BV hx
  obtain⟨sl',e2⟩:=slot b _ (neL b o e) hb EG e1 zK
  exact⟨sl',e2⟩
 ·obtain ⟨o',e1⟩:=Bk hx
  exact free b o' EG e1 zK
 ·obtain ⟨o',e1⟩:=Bk hx
  exact there b o' EG e1
 ·obtain ⟨m1,e1⟩:=I.base.tbls b ps e
  obtain⟨m2,e2⟩:=tbls b _ e1
  exact⟨m1++m2,by rw[e2,Array.append_assoc]⟩
 ·obtain ⟨m,hn,hl⟩:=I.loc
  refine⟨m,ns m hn,λi x v e1 e2 e3=>?_⟩
  obtain⟨u,r,l⟩:=hl i x v e1 e2 e3
  refine⟨u,r,?_⟩
  rcases l with l | ⟨k,c,e,z⟩
  ·exact .inl l
  ·exact .inr ⟨k,c,e,cellK x c e _ z⟩
 ·obtain ⟨v,z⟩:=JS e
  exact⟨v,cellK x c e v z⟩
 ·obtain ⟨m,⟨o,_,_,ho,_⟩,_⟩:=I.loc
  exact free _ o (λz=>(eQ _ z).2.1 rfl) ho I.free
 ·obtain ⟨v,o,ho,hd⟩:=JS e
  exact free c o (λz=>(eQ c z).2.2.1 x c e rfl) ho (JW e)
 ·obtain ⟨e,n,ne,nf,d⟩:=Bx hp
  have nch:p.1∉ch:=λz=>(eQ p.1 z).2.2.2 p hp rfl
  exact⟨keep p.1 p.2 ne nf nch e n,free p.1 p.2 nch e n,ne,nf,d⟩
def Inv.un{t':Nat}(I:HP)(u:Un X.fs [] H H' s.heap h')(hok:JC H' h'):ZA H' {s with heap:=h',toks:=t'}:=by
 obtain⟨m,⟨o,es,ep,ho,r⟩,_⟩:=id I.loc
 obtain⟨sl,hL⟩:=u.any ho I.free Ha
 exact I.step (g':=s.gens) (d':=s.drawn) (ch:=[]) (λ_ z=>nomatch z) (λb o _ hb _ e n=>u.keep b o e n hb Ha) (λb o _ hb _ e n=>u.slot b o e n hb Ha) (λb o _ e n=>u.free b o e n Ha) (λb o _ e=>u.there b o e Ha) u.tups u.frzs u.tbls (λm' hm=>by
  obtain⟨o',aj,ep',di,r'⟩:=hm
  rw[ho]at di;cases di
  exact⟨_,aj,ep',hL,r'⟩) hok I.bare
def Inv.call{g':Array GenState}{t':Nat}{d':Drawn}{ch:No}(I:HP)(u:Vq h')(hok:JC H' h')(hg:AllBare g')(eQ:Rf) :
  Inv X a5 σ H' {s with heap:=h',gens:=g',drawn:=d',toks:=t'}:=by
 obtain⟨m,⟨o,es,ep,ho,r⟩,_⟩:=id I.loc
 obtain⟨sl,hL⟩:=u.any ho I.free λz=>(eQ _ z).2.1 rfl
 exact I.step (ch:=ch) eQ (λb o hL hb hc e n=>u.keep b o e n (λz=>(xC (Ff z)).elim hL hb) hc) (λb o _ _ hc e n=>u.any e n hc) (λb o hc e n=>u.free b o e n hc) (λb o hc e=>u.there b o e hc) u.tups u.frzs u.tbls (λm' hm=>by
  obtain⟨o',aj,ep',di,r'⟩:=hm
  rw[ho]at di;cases di
  exact⟨_,aj,ep',hL,r'⟩) hok hg
def Inv.turned{t':Nat}{it:Nc}(I:HP)(k:∀b o,b≠it→s.heap.get? b=some o→h'.get? b=some o)(hn:H it=none)(hL:it≠X.env.locals)(h1:it∈X.ex∨X.s₀.heap.objs.size≤it)(h2:∀x c,X.env.cells.lookup x=some c→c≠it)(h3:∀p∈X.pn++a5,p.1≠it):ZA H {s with heap:=h',toks:=t'}:=by
 have nit:∀b u,H b=some u→b≠it:=λb u e z=>by rw[z,hn]at e;cases e
 refine I.step (g':=s.gens) (d':=s.drawn) (ch:=[it]) (λb hb=>?_) (λb o _ _ hc e _=>k b o (λz=>hc (by simp[z])) e) (λb o _ _ hc e _=>⟨o.slots,k b o (λz=>hc (by simp[z])) e⟩) (λ_ _ _ _ n=>n)
  (λb o hc e=>⟨o,k b o (λz=>hc (by simp[z])) e⟩) (λ_ _ e=>e) (λ_ _ _ e=>e) (λb ps e=>⟨#[],by rw[e];simp⟩) (λm hm=>?_) (λb u e=>?_) I.bare
 ·have e:b=it:=by simpa using hb
  subst e
  exact⟨h1,hL,h2,h3⟩
 ·obtain ⟨o,es,ep,ho,r⟩:=hm
  exact⟨o,es,ep,k _ o (Zl hL) ho,r⟩
 ·refine (XY u e).stay (fun c v hc q=>k c v ?_ q) (fun _ q=>q) fun _ _ q=>q
  rcases hc with z | z
  ·rw[z];exact nit b u e
  ·exact nit c _ z
def Inv.tok(I:HP)(t:Nat):ZA H {s with toks:=t}:=I.un (h':=s.heap) (t':=t) Un.refl I.hok
def Inv.kept{t':Nat}(I:HP)(k:∀b u,s.heap.get? b=some u→h'.get? b=some u):ZA H {s with heap:=h',toks:=t'}:=I.un (Un.kept k) (I.hok.kept k)
def Inv.laid(I:HP)(k:∀b u,s.heap.get? b=some u→h'.get? b=some u)(hp:s.heap.objs.size≤a)(new:QJ Ir h' a o) :
  Inv X a5 σ Ir {s with heap:=h',toks:=t'}:=I.un (Un.laid k hp (Iw hp)) (I.hok.laid k hp new)
def Inv.write(I:HP)(mu:Mut (H x))(he:e=x∨H e=some Iv)(k:∀b u,b≠e→s.heap.get? b=some u→h'.get? b=some u)(lX:∃u,h'.get? e=some u)(new:QJ (ZX x o) h' x o):ZA (ZX x o) {s with heap:=h',toks:=t'}:=I.un (Un.write mu he k lX) (I.hok.write mu he k lX new)
def Inv.pins_of(I:HP)(h:∀p∈pins',s.heap.get? p.1=some p.2∧H p.1=none∧p.1≠X.env.locals∧p.1∉X.fs∧∀v,p.2.data≠.cell v):Inv X pins' σ H s :=
 ⟨I.ok,I.os,I.bare,I.base,I.loc,I.cell,I.free,I.freeC,λp hp=>(Ql.mp hp).elim (λz=>Bx (YF z)) (h p),I.hok,I.len⟩
def nodup_ix{N:Nh}(hN:N.Nodup){i j:Nat}{x:Str}(a:N[i]?=some x)(b:N[j]?=some x):i=j:=by
 obtain⟨h1,e1⟩:=Qx.mp a
 obtain⟨h2,e2⟩:=Qx.mp b
 exact(We hN).mp (e1.trans e2.symm)
def zf8{M:Model}{A:Nq}{E:Nd}{i:Nat}{x:Str}{v:V}{u:Value}{Q:Unit→Shared→Prop}(I:HP)(hN:X.N.Nodup)(hi:X.N[i]?=some x)(hx:Y1 x)(r:UO u)(h:∀s',ZD Ix H s'→(∃a,XD s'.heap∧(a=X.env.locals∨X.env.cells.lookup x=some a))→Q () s')(hf:X.fn x=true∨X.env.scope.names.lookup x=some .local:=by first | exact .inl rfl | exact .inr rfl | assumption):XZ (PQ u) Q E s:=by
 obtain⟨m,hn,hl⟩:=id I.loc
 have uU:(X.env.scope.kind==.class||(X.env.scope.kind==.module&&X.env.locals != X.env.globals))=false:=by rw[I.ok.kind];rfl
 have hiσ:i<σ.length:=by rw[I.len];exact(LA hi).1
 have cne:=I.cne
 have tracked:∀{a:Nc} {h':Np},(∃o,s.heap.get? a=some o∧H a=none)→XD h'→JC H h':=λ{a h'} ha hs b ob e=>by
  obtain⟨_,_,bz⟩:=ha
  refine(XY ob e).stay (λc w' hc q=>(hs.2 c ?_).trans q) (λ_ q=>q) λ_ _ q=>q
  rintro rfl
  rcases hc with rfl | hc
  ·rw[bz]at e;cases e
  ·rw[bz]at hc;cases hc
 rcases hx with hk | hk
 ·refine wpAny_storeName_local hk hn (fun h' hn' hs=>?_) uU
  obtain⟨oL,_,_,hoL,_⟩:=id hn
  refine h _ ⟨I.ok,I.os,I.bare,⟨λb o e n hb hx=>?_,λb o e n hb hx=>?_,I.base.free,λb o e hx=>?_,I.base.tups,I.base.frzs,I.base.tbls⟩,⟨_,hn',λj y v' e1 e2 e3=>?_⟩,λy c e=>?_,I.free,I.freeC,λp hp=>?_,tracked ⟨oL,hoL,I.free⟩ hs,by simpa using I.len⟩ ⟨_,hs,HW⟩
  ·exact(Aj (Zh Eu)).trans (BU hx)
  ·obtain ⟨sl,e1⟩:=BV hx
   exact⟨sl,(Aj (Zh Eu)).trans e1⟩
  ·obtain ⟨o',e1⟩:=Bk hx
   exact⟨o',(Aj (Zh Eu)).trans e1⟩
  ·by_cases hj:j=i
   ·subst hj
    rw[hi]at e1;cases e1
    rw[List.getElem?_set_self hiσ]at e2
    cases e2
    exact⟨u,r,RH ⟨hk,Ha⟩⟩
   ·rw [List.getElem?_set_ne (Zl hj)] at e2
    obtain⟨u',r',q⟩:=hl j y v' e1 e2 e3
    refine⟨u',r',?_⟩
    rcases q with⟨k,e⟩ | ⟨k,c,e,z⟩
    ·refine .inl ⟨k,?_⟩
     have:y≠x:=λe=>hj (nodup_ix hN e1 (e▸hi))
     simp[this,e]
    ·exact .inr ⟨k,c,e,zg⟩
  ·obtain ⟨w',z⟩:=I.cell y c e
   exact⟨w',zg⟩
  ·obtain ⟨e,n,ne,nf,d⟩:=Bx hp
   exact⟨(hs.2 p.1 ne).trans e,n,ne,nf,d⟩
 ·have jl:X.fn x=true:=by
   rcases hf with z | z
   ·exact z
   ·rw[z]at hk;cases hk
  obtain⟨c,hc⟩:=I.ok.has x (RH hk)
  obtain⟨w',z⟩:=JS hc
  refine wpAny_storeName_cell I.ok.kind hk hc z (λh' cP hs=>?_)
  obtain⟨oc,hoc,uh⟩:=id z
  refine h {s with heap:=h'} ⟨I.ok,I.os,I.bare,⟨λb o e n hb hx=>?_,λb o e n hb hx=>?_,I.base.free,λb o e hx=>?_,I.base.tups,I.base.frzs,I.base.tbls⟩,⟨m,hn.sameBut hs (Zl (cne x c hc)),λj y v' e1 e2 e3=>?_⟩,λy c' e=>?_,I.free,I.freeC,λp hp=>?_,tracked ⟨oc,hoc,JW hc⟩ hs,by simpa using I.len⟩ ⟨c,hs,SC hc⟩
  ·exact(Aj Iy).trans (BU hx)
  ·obtain ⟨sl,e1⟩:=BV hx
   exact⟨sl,(Aj Iy).trans e1⟩
  ·obtain ⟨o',e1⟩:=Bk hx
   exact⟨o',(Aj Iy).trans e1⟩
  ·by_cases hj:j=i
   ·subst hj
    rw[hi]at e1;cases e1
    rw[List.getElem?_set_self hiσ]at e2
    cases e2
    exact⟨u,r,SC ⟨RH hk,c,hc,cP⟩⟩
   ·rw [List.getElem?_set_ne (Zl hj)] at e2
    obtain⟨u',r',q⟩:=hl j y v' e1 e2 e3
    refine⟨u',r',?_⟩
    rcases q with q | ⟨k,c',e,z'⟩
    ·exact .inl q
    ·refine .inr ⟨k,c',e,z'.sameBut hs ?_⟩
     rintro rfl
     exact hj (nodup_ix hN e1 (I.ok.inj _ _ _ e hc▸hi))
  ·by_cases bV:c'=c
   ·subst bV;exact⟨_,cP⟩
   ·obtain ⟨w2,z2⟩:=I.cell y c' e
    exact⟨w2,z2.sameBut hs bV⟩
  ·obtain ⟨e,n,ne,nf,d⟩:=Bx hp
   refine⟨(hs.2 p.1 ?_).trans e,n,ne,nf,d⟩
   intro q
   rw[q,hoc]at e
   have q':oc=p.2:=Qn e
   exact d w' (by rw[←q'];exact uh)
def zh5(I:HP)(hN:X.N.Nodup)(hi:X.N[i]?=some x)(hx:Y1 x)(r:UO u)(h:∀s',ZD Ix H s'→Q () s')(hf:X.fn x=true∨X.env.scope.names.lookup x=some .local:=by first | exact .inl rfl | exact .inr rfl | assumption):XZ (PQ u) Q E s :=
 zf8 I hN hi hx r (λs' I' _=>h s' I') hf
def Inv.call'(I:HP)(ho:s'.os=s.os)(u:Vq s'.heap)(hok:JC H' s'.heap)(hg:AllBare s'.gens)(eQ:Rf):ZA H' s':=by
 obtain⟨h',g',d',t',o'⟩:=s'
 have e:o'=s.os:=ho
 subst e
 exact I.call (g':=g') (t':=t') (d':=d') u hok hg eQ
end
abbrev XK:=Value→Option Addr→Hp→Prop
abbrev St:=List (Option V)
abbrev VK:=V→Hp→Prop
abbrev TE:=St→Hp→VK→Prop
abbrev TT:=St→Hp→(Bool→Hp→Prop)→Prop
abbrev TA:=St→Hp→(List V→Hp→Prop)→Prop
structure Ends where
 nx:St→Hp→Prop
 rt:VK
 bk:St→Hp→Prop:=λ_ _=>False
 ct:St→Hp→Prop:=λ_ _=>False
abbrev TS:=Ends→St→Hp→Prop
inductive EP(X:Cx)(a5:Ni)(σ:St)(Q:VK)(u:Value)(s':Nj):Prop
 |mk (v:V) (H':Hp) (i:Inv X a5 σ H' s') (r:RelV v u) (q:Q v H'):EP X a5 σ Q u s'
inductive TP(X:Cx)(a5:Ni)(σ:St)(Q:Bool→Hp→Prop)(b:Bool)(s':Nj):Prop
 |mk (H':Hp) (i:Inv X a5 σ H' s') (q:Q b H'):TP X a5 σ Q b s'
inductive AP(X:Cx)(a5:Ni)(σ:St)(Q:List V→Hp→Prop)(us:Nl)(s':Nj):Prop
 |mk (vs:List V) (H':Hp) (i:Inv X a5 σ H' s') (r:Vals vs us) (q:Q vs H'):AP X a5 σ Q us s'
def SP(X:Cx)(a5:Ni)(D:Ends)(f:Flow)(s':Nj):Prop :=
 match f with
 |.next=>Ex2 λ σ' H'=>U4 (D.nx σ' H')
 |.brk=>Ex2 λ σ' H'=>U4 (D.bk σ' H')
 |.cont=>Ex2 λ σ' H'=>U4 (D.ct σ' H')
 |.ret u=>Ex3 λv σ' H'=>Aj3 (ZD σ' H' s') (UO u) (D.rt v H')
def PE(X:Cx)(e:Expr)(t:TE):Prop :=
 ∀(a5:Ni) (s:Nj) (σ:St) (H:Hp) (Q:VK),ZA H s→t σ H Q→ZE C1 TK X.xe s
def PT(X:Cx)(e:Expr)(t:TT):Prop :=
 ∀(a5:Ni) (s:Nj) (σ:St) (H:Hp) (Q:Bool→Hp→Prop),ZA H s→t σ H Q→ZE (isTrue e X.env C1) (Md Q) X.xe s
def PW(X:Cx)(e:Expr)(t:TT):Prop :=
 ∀(whole:Sem Value) (a5:Ni) (s:Nj) (σ:St) (H:Hp) (Q:Bool→Hp→Prop),ZA H s→t σ H Q→ZE (isTrue e X.env whole) (Md Q) X.xe s
def PW.pt(h:PW X e t):VT e t:=h _
def PA(X:Cx)(es:Nt)(t:TA):Prop :=
 ∀(pos:Pos) (a5:Ni) (s:Nj) (σ:St) (H:Hp) (Q:List V→Hp→Prop),ZA H s→t σ H Q→ZE (spliced (Cf Sr)) (AP X a5 σ Q) X.xe s
def PS(X:Cx)(st:Stmt)(t:TS):Prop :=
 ∀(a5:Ni) (s:Nj) (σ:St) (H:Hp) (D:Ends),ZA H s→t D σ H→ZE (exec st X.env) (X0 D) X.xe s
def PSs(X:Cx)(st:List Stmt)(t:TS):Prop :=
 ∀(a5:Ni) (s:Nj) (σ:St) (H:Hp) (D:Ends),ZA H s→t D σ H→ZE (execs st X.env) (X0 D) X.xe s
def thn{α:Type}{t:Sem α}{Q Q':α→Shared→Prop}{M:Model}{A:Nq}{E:Nd}{s:Nj}(h:XZ t Q E s)(hQ:∀a s,Q a s→Q' a s):XZ t Q' E s:=NE hQ λ_ _ x=>x
end L2
namespace L2
open PySem PySem.Spec PyProof.Rows
section
variable{X:Cx}
def bin{a b:Expr}{ta tb:TE}(ha:Ly)(hb:Ia){a5:Ni}{s:Nj}{σ:St}{H:Hp}{R:V→V→Hp→Prop}(I:HP)(h:ta σ H λx H1=>tb σ H1 λy H2=>R x y H2){α:Type}{Q:α→Shared→Prop}{f:Value→Value→Sem α}(hf:∀v u s2 x y H2,ZA H2 s2→W6 v→YG u→R x y H2→ZE Az Q X.xe s2) :
  wpAny Hm X.A (HX a) (λv s₁=>ZE (HX b) (λu s₂=>ZE Az Q X.xe s₂) X.xe s₁) X.xe s:=by
 refine thn RY λv s1 ⟨x,H1,I1,r1,q1⟩=>?_
 refine thn Li λu s2 ⟨y,H2,I2,r2,q2⟩=>?_
 exact MH q2
inductive RVar(o:Option (Option V))(H:Hp)(Q:VK):Prop
 |mk (v:V) (e:o=some (some v)) (q:Q v H):RVar o H Q
def tVar(i:Nat):TE:=λ σ H Q=>RVar σ[i]? H Q
def tC(v:V):TE:=λ_ H Q=>Q v H
def pe_var(hN:X.N[i]?=some x)(hv:Xy x)(hd:RN=false:=by decide)(aJ:(x==("__classdict__" : Str))=false:=by decide):Z9 Ee (tVar i):=by
 intro a5 s σ H Q I h
 obtain⟨v,e,h⟩:=h
 obtain⟨m,hn,hl⟩:=I.loc
 obtain⟨u,r,l⟩:=hl i x v hN e hv
 have fin:QF Q u s:=⟨v,H,I,r,h⟩
 rcases l with⟨hk,hm⟩ | ⟨hk,c,hc,dF⟩
 ·exact wpAny_Name (XG fin) hd
 ·rcases hk with hk | hk
  ·exact wpAny_Name (XI fin) hd
  ·exact wpAny_Name (wpAny_loadName_free I.ok.kind hk hc dF fin aJ) hd
def zah{i j pos}:Z9 (zL OE) (tC OE):=λ_ _ _ H _ I h=>wpAny_Constant_int ⟨OE,H,Sg,⟨_,rfl⟩,h⟩
def pe_bl{b j pos}:Z9 (zL (Ow b)) (tC (.bl b)):=λ_ _ _ H _ I h=>Constant_bool ⟨.bl b,H,I,rfl,h⟩
def zc9{j pos}:Z9 (PR pos) (tC .non):=λ_ _ _ H _ I h=>Constant_none ⟨.non,H,I,rfl,h⟩
def pe_str{x j pos}:Z9 (zL Ef) (tC Ef):=λ_ _ _ H _ I h=>Calls.Constant_str ⟨Ef,H,Sg,⟨_,rfl⟩,h⟩
def Gl(X:Cx)(x:Str):Prop:=X.env.kindOf x=some .globalImplicit
def ld_glob(I:HP)(hg:VU x)(hm:X.mg x=some u)(h:Q u s)(hd:RN=false:=by decide):ZE (HX Ee) Q E s :=
 Calls.Name_function_global I.ok.kind hg (Calls.loadGlobal_global (by rw[I.ok.glob];exact I.mod.glob.keeps I.bk) hm h) hd
def zft(I:HP)(hg:VU x)(hm:X.mg x=none)(hv:bootBuiltins x=some u)(h:Q u s)(hn:x ≠ "__name__" := by decide)(hd:RN=false:=by decide):ZE (HX Ee) Q E s:=by
 obtain⟨mb,h1,h2⟩:=I.mod.blt
 exact Calls.Name_function_global I.ok.kind hg (Calls.loadGlobal_builtin (by rw[I.ok.glob];exact I.mod.glob.keeps I.bk) hm (by rw[I.ok.blt];exact h1.keeps I.bk) ((h2 x hn).trans hv) h) hd
def zgj(hg:VU x)(hm:X.mg x=some u)(r:UO u)(hd:RN=false:=by decide):Z9 Ee (tC v) :=
 λ_ _ _ H _ I h=>VW ⟨v,H,I,r,h⟩ hd
variable{a b:Expr}{ta tb:TE}{pos:Pos}
def PC(X:Cx)(op:CmpOp)(a b:Expr)(t:TE):Prop :=
 ∀(a5:Ni) (s:Nj) (σ:St) (H:Hp) (Q:VK),ZA H s→t σ H Q →
  wpAny Hm X.A (HX a) (λv s₁=>ZE (HX b) (λu s₂=>ZE (compareOp op v u) TK X.xe s₂) X.xe s₁) X.xe s
def nobehind(b:Expr){op:CmpOp}(h:op≠.In)(h2:op≠.NotIn):behindInMarks op b=false:=by
 have e1:(op==CmpOp.In)=false:=by cases op<;>first | rfl | exact absurd rfl h
 have e2:(op==CmpOp.NotIn)=false:=by cases op<;>first | rfl | exact absurd rfl h2
 cases b<;>simp[behindInMarks,e1,e2]
def tIsN(ta:TE):TE:=λ σ H Q=>ta σ H λx H1=>Q (.bl (decide (x=.non))) H1
def tNotN(ta:TE):TE:=λ σ H Q=>ta σ H λx H1=>Q (.bl (!decide (x=.non))) H1
def RelV.none_iff{x:V}{v:Value}(r:W6 v):(v==Value.none)=decide (x=.non):=by
 cases x with
 |non=>cases r;rfl
 |bl _=>cases r;rfl
 |int _=>obtain⟨t,rfl⟩:=r;rfl
 |str _=>obtain⟨t,rfl⟩:=r;rfl
 |byt _=>obtain⟨t,rfl⟩:=r;rfl
 |flt _=>obtain⟨t,rfl⟩:=r;rfl
 |ref _=>cases r;rfl
 |ty _=>cases r;rfl
def pc_isN{j aK}(ha:Ly):PC X .Is a (PR aK) (tIsN ta):=by
 intro a5 s σ H Q I h
 refine thn RY λv s1 ⟨x,H1,I1,r1,q1⟩=>?_
 exact Constant_none (is_none_gen ⟨.bl _,H1,I1,by rw[r1.none_iff];rfl,q1⟩)
def zel{j aK}(ha:Ly):PC X .IsNot a (PR aK) (tNotN ta):=by
 intro a5 s σ H Q I h
 refine thn RY λv s1 ⟨x,H1,I1,r1,q1⟩=>?_
 exact Constant_none (isnot_none_gen ⟨.bl _,H1,I1,by rw[r1.none_iff];rfl,q1⟩)
inductive RB(x:V)(H:Hp)(Q:Bool→Hp→Prop):Prop
 |mk (c:Bool) (e:x=.bl c) (q:Q c H):RB x H Q
def tB(t:TE):TT:=λ σ H Q=>t σ H λx H1=>RB x H1 Q
def zbw{op:CmpOp}{t:TE}(h:PC X op a b t)(h1:behindInMarks op b=false:=by first | exact nobehind _ Hf Hf | rfl):VT (.Compare a [op] [b] pos) (tB t):=by
 intro a5 s σ H Q I hw
 refine wpAny_isTrue_Compare1 (thn (L0 _ hw) λv s1 h1=>thn h1 λu s2 h2=>thn h2 λc s3 ⟨x,H1,I1,r1,q1⟩=>?_) h1
 obtain⟨d,rfl,q⟩:=q1
 cases r1
 exact wpAny_truthy_bool ⟨H1,I1,q⟩
def pt_val{e:Expr}{t:TE}(h:Z9 e t)(he:∀whole,isTrue e X.env whole=(do let v ←whole;standAt e.pos;holding [v] Pg):=by intro _;rfl):VT e (tB t):=by
 intro a5 s σ H Q I hw
 refine isTrue_plain (thn (L0 _ hw) λv s1 ⟨x,H1,I1,r1,q1⟩=>?_) (he _)
 obtain⟨d,rfl,q⟩:=q1
 cases r1
 exact wpAny_truthy_bool ⟨H1,I1,q⟩
variable{tA qq:TT}{rest:Nt}
def tAnd(t u:TT):TT:=λ σ H Q=>t σ H λc H1=>if c=true then u σ H1 Q else Q false H1
def tOr(t u:TT):TT:=λ σ H Q=>t σ H λc H1=>if c=true then Q true H1 else u σ H1 Q
def tNot(t:TT):TT:=λ σ H Q=>t σ H λc H1=>Q (!c) H1
def zge(ha:yx):PW X (.BoolOp .And [a] pos) tA:=by
 intro wh a5 s σ H Q I h
 refine isTrue_and (thn zM λc s1 e=>?_)
 cases c with
 |true=>exact isTrue_and_nil e
 |false=>exact e
def pw_or1(ha:yx):PW X (.BoolOp .Or [a] pos) tA:=by
 intro wh a5 s σ H Q I h
 refine isTrue_or (thn zM λc s1 e=>?_)
 cases c with
 |false=>exact isTrue_or_nil e
 |true=>exact e
def zhl(ha:yx)(hb:PW X (.BoolOp .And (b::rest) pos) qq):PW X (.BoolOp .And (a::b::rest) pos) (tAnd tA qq):=by
 intro wh a5 s σ H Q I h
 refine isTrue_and (thn RY λc s1 ⟨H1,I1,q1⟩=>?_)
 cases c with
 |true=>exact hb wh a5 s1 σ H1 Q I1 q1
 |false=>exact⟨H1,I1,q1⟩
def pw_or(ha:yx)(hb:PW X (.BoolOp .Or (b::rest) pos) qq):PW X (.BoolOp .Or (a::b::rest) pos) (tOr tA qq):=by
 intro wh a5 s σ H Q I h
 refine isTrue_or (thn RY λc s1 ⟨H1,I1,q1⟩=>?_)
 cases c with
 |true=>exact⟨H1,I1,q1⟩
 |false=>exact hb wh a5 s1 σ H1 Q I1 q1
def pt_not(ha:yx):VT (.UnaryOp .Not a pos) (tNot tA):=by
 intro a5 s σ H Q I h
 exact isTrue_not (wpAny_mono (ha a5 s σ H (λc H1=>Q (!c) H1) I h) (λc s2 z=>by obtain⟨a,b,d⟩:=z;exact⟨a,b,d⟩) λ_ _ e=>e)
def tAndV(ta tb:TE):TE:=λ σ H Q=>ta σ H λx H1=>RB x H1 λc H1=>if c=true then tb σ H1 Q else Q Iz H1
def pe_one{op}(h:Z9 a t):Z9 (.BoolOp op [a] pos) t:=λa5 s σ H Q I hw=>BoolOp_one (L0 Q hw)
def pe_and(ha:Ly)(hb:Z9 (.BoolOp .And (b::rest) pos) tb):Z9 (.BoolOp .And (a::b::rest) pos) (tAndV ta tb):=by
 intro a5 s σ H Q I h
 refine BoolOp_and (thn RY λv s1 ⟨x,H1,I1,r1,q1⟩=>?_)
 obtain⟨c,rfl,q1⟩:=q1
 cases r1
 refine wpAny_truthy_bool ?_
 cases c with
 |true=>exact hb a5 s1 σ H1 Q I1 q1
 |false=>exact⟨Iz,H1,I1,rfl,q1⟩
def tIf(t:TT)(ta tb:TE):TE:=λ σ H Q=>t σ H λc H1=>if c=true then ta σ H1 Q else tb σ H1 Q
def pe_ifExp{c:Expr}(hc:VT c tA)(ha:Ly)(hb:Ia):Z9 (.IfExp c a b pos) (tIf tA ta tb):=by
 intro a5 s σ H Q I h
 refine wpAny_IfExp (thn zN λd s1 ⟨H1,I1,q1⟩=>?_)
 cases d with
 |true=>exact ha a5 s1 σ H1 Q I1 q1
 |false=>exact hb a5 s1 σ H1 Q I1 q1
end
end L2
namespace L2
open PySem PySem.Spec PyProof.Rows
def SqL(K:Na)(H:Hp)(a:Nc)(xs:List V):Prop :=
 Rd H a Tj ∨
  ∃(o:Obj) (a7:Array Value) (n:Nat),K.lookup a=some o∧o.cls=.type "list" ∧ o.dict=none∧o.data=.seq a7 n∧a7.size≤sizeLine∧WR a7.toList
def SqT(K:Na)(H:Hp)(a:Nc)(xs:List V):Prop :=
 Rd H a ST ∨
  ∃(o:Obj) (a7:Array Value) (n:Nat),K.lookup a=some o∧o.cls=.type "tuple" ∧ o.data=.seq a7 n∧a7.size≤sizeLine∧WR a7.toList
def absV:Value→Option V
 |.none=>some .non
 |.bool b=>some (.bl b)
 |.int i _=>some OE
 |.str x _=>some Ef
 |.bytes b _=>some (.byt b)
 |.float b _=>some (.flt b)
 |.ref a=>some RV
 |.type n=>some (.ty n)
 |_=>none
def RelV.abs(r:W6 u):absV u=some x:=by
 cases x with
 |non=>cases r;rfl
 |bl _=>cases r;rfl
 |int _=>obtain⟨t,rfl⟩:=r;rfl
 |str _=>obtain⟨t,rfl⟩:=r;rfl
 |byt _=>obtain⟨t,rfl⟩:=r;rfl
 |flt _=>obtain⟨t,rfl⟩:=r;rfl
 |ref _=>cases r;rfl
 |ty _=>cases r;rfl
def RelV.inj{x y:V}{u:Value}(r:W6 u)(q:YG u):x=y:=Qn (r.abs.symm.trans q.abs)
theorem Vals.inj:∀{xs ys:List V} {us:Nl},WR us→YM us→xs=ys
 |_,_,_,.nil,.nil=>rfl
 |_,_,_,.cons r t,.cons r' t'=>by rw[r.inj r',Vals.inj t t']
section
variable{X:Cx}{a5:Ni}{σ:St}{H:Hp}{s:Nj}{a:Nc}{xs ys:List V}
def SqL.of{K:Na}(h:H a=some Tj):W0 xs:=.inl Pi
def SqT.of{K:Na}(h:H a=some ST):JT xs:=.inl Pi
def Inv.list(I:HP)(h:WT a xs):∃a7:List Value,WR a7∧PlainL s.heap a a7.toArray∧xs.length≤sizeLine:=by
 rcases h with h | ⟨o,a7,n,hk,hc,hd,hs,hz,r⟩
 ·obtain ⟨z,a7,n,r,e⟩:=h.ok I.hok
  exact⟨a7,r,⟨_,n,e,rfl,rfl,rfl⟩,z⟩
 ·refine ⟨a7.toList,r,⟨o,n,xr a,hc,hd,He hs⟩,?_⟩
  have e:=r.length
  simp only[Wr]at e
  lia
def Inv.tuple(I:HP)(h:Vr a xs):∃a7:List Value,WR a7∧NF a a7.toArray∧xs.length≤sizeLine:=by
 rcases h with h | ⟨o,a7,n,hk,hc,hs,hz,r⟩
 ·obtain ⟨z,a7,r,p⟩:=h.ok I.hok
  exact⟨a7,r,p,z⟩
 ·refine ⟨a7.toList,r,⟨o,xr a,hc,n,He hs⟩,?_⟩
  have e:=r.length
  simp only[Wr]at e
  lia
def Inv.list_inj(I:HP)(h:WT a xs)(h':WT a ys):xs=ys:=by
 obtain⟨a7,r,⟨o,n,e,_,_,d⟩,_⟩:=I.list h
 obtain⟨its',r',⟨o',n',e',_,_,d'⟩,_⟩:=I.list h'
 rw[e]at e';cases e'
 rw[d]at d'
 injection d' with d1 _
 have:a7=its':=by simpa using congrArg Array.toList d1
 subst this
 exact r.inj r'
def Inv.tuple_inj(I:HP)(h:Vr a xs)(h':Vr a ys):xs=ys:=by
 obtain⟨a7,r,⟨o,e,_,n,d⟩,_⟩:=I.tuple h
 obtain⟨its',r',⟨o',e',_,n',d'⟩,_⟩:=I.tuple h'
 rw[e]at e';cases e'
 rw[d]at d'
 injection d' with d1 _
 have:a7=its':=by simpa using congrArg Array.toList d1
 subst this
 exact r.inj r'
end
abbrev Cx.wish(X:Cx)(E:Nd):Cx:={X with xe:=E}
abbrev Cx.nox(X:Cx):Cx:=X.wish λ_ _=>False
def Cx.Ok.wish{X:Cx}(ok:X.Ok)(E:Nd):(X.wish E).Ok :=
 ⟨ok.mod,ok.kind,ok.glob,ok.blt,ok.above,ok.inj,ok.has,ok.cab,ok.hd,ok.frames,ok.stk,ok.exf,ok.bs,ok.bsz,ok.noex,ok.exfs,ok.funs,ok.frf⟩
def Cx.Ok.unwish{X:Cx}{E:Nd}(ok:(X.wish E).Ok):X.Ok :=
 ⟨ok.mod,ok.kind,ok.glob,ok.blt,ok.above,ok.inj,ok.has,ok.cab,ok.hd,ok.frames,ok.stk,ok.exf,ok.bs,ok.bsz,ok.noex,ok.exfs,ok.funs,ok.frf⟩
section
variable{X:Cx}{a5:Ni}{σ:St}{H:Hp}{s:Nj}{E:Nd}
def Inv.wish(I:HP)(E:Nd):NG s:=⟨I.ok.wish E,I.os,I.bare,I.base,I.loc,I.cell,I.free,I.freeC,I.pin,I.hok,I.len⟩
def Inv.unwish(I:NG s):ZA H s:=⟨I.ok.unwish,I.os,I.bare,I.base,I.loc,I.cell,I.free,I.freeC,I.pin,I.hok,I.len⟩
def SP.unwish(h:SP (X.wish E) a5 D f s'):X0 D f s':=by
 cases f with
 |next=>obtain⟨σ',H',I,q⟩:=h;exact⟨σ',H',I.unwish,q⟩
 |brk=>obtain⟨σ',H',I,q⟩:=h;exact⟨σ',H',I.unwish,q⟩
 |cont=>obtain⟨σ',H',I,q⟩:=h;exact⟨σ',H',I.unwish,q⟩
 |ret u=>obtain⟨v,σ',H',I,r,q⟩:=h;exact⟨v,σ',H',I.unwish,r,q⟩
def PSs.nox{st:List Stmt}{t:TS}(h:PSs X.nox st t):Me st t:=λa5 s σ H D I hw =>
 wpAny_mono (h a5 s σ H D (I.wish _) hw) (λ_ _ q=>q.unwish) λ_ _ z=>False.elim z
end
section
variable{X:Cx}{st:Stmt}{rest:List Stmt}{t u:TS}{e:Expr}{te:TE}{pos:Pos}
def tNext:TS:=λD σ H=>W1 H
def tSeq(t u:TS):TS:=λD σ H=>t {D with nx:=u D} σ H
def zap:Me [] tNext:=λ_ _ σ H _ I h=>wpAny_execs_nil ⟨σ,H,I,h⟩
def zad(h1:KH st t)(h2:Me rest u):Me (st::rest) (tSeq t u):=by
 intro a5 s σ H D I h
 refine wpAny_execs_cons (thn (h1 a5 s σ H {D with nx:=u D} I h) λf s1 q=>?_)
 cases f with
 |next =>
  obtain⟨σ',H',I',q⟩:=q
  exact h2 a5 s1 σ' H' D I' q
 |ret v=>exact q
 |brk=>exact q
 |cont=>exact q
def zag(h1:KH st t):Me [st] t:=by
 intro a5 s σ H D I h
 refine wpAny_execs_cons (thn (h1 a5 s σ H D I h) λf s1 q=>?_)
 cases f with
 |next=>exact wpAny_execs_nil q
 |ret v=>exact q
 |brk=>exact q
 |cont=>exact q
def tBreak:TS:=λD σ H=>D.bk σ H
def ps_break:KH (.Break pos) tBreak:=λ_ _ σ H _ I h=>wpAny_Break ⟨σ,H,I,h⟩
def Inv.quiet{a5:Ni}{σ:St}{H:Hp}{s:Nj}(I:HP):interactive X.env=false:=by simp[interactive,I.ok.kind]
def tDrop(te:TE):TS:=λD σ H=>te σ H λ_ H1=>W1 H1
def zbg(he:Co)(hs:swapsWith e none pos.line X.env=pure false:=by rfl):KH (.Expr e pos) (tDrop te):=by
 intro a5 s σ H D I h
 exact wpAny_Expr_any (thn RM λv s1 ⟨x,H1,I1,r1,q1⟩=>⟨σ,H1,I1,q1⟩) I.quiet hs
def tRet(te:TE):TS:=λD σ H=>te σ H D.rt
def zaq(he:Co):KH (.Return (Hs e) pos) (tRet te):=by
 intro a5 s σ H D I h
 exact wpAny_Return_some (thn RM λv s1 ⟨x,H1,I1,r1,q1⟩=>⟨x,σ,H1,I1,r1,q1⟩)
def tIfS(c:TT)(t u:TS):TS:=λD σ H=>c σ H λb H1=>if b=true then t D σ H1 else u D σ H1
def zbn{c:Expr}{a b:List Stmt}{tc:TT}(hc:VT c tc)(ha:Me a t)(hb:Me b u):KH (.If c a b pos) (tIfS tc t u):=by
 intro a5 s σ H D I h
 refine wpAny_If (thn zN λd s1 ⟨H1,I1,q1⟩=>?_)
 cases d with
 |true=>exact ha a5 s1 σ H1 D I1 q1
 |false=>exact hb a5 s1 σ H1 D I1 q1
end
abbrev TG:=V→St→Hp→(St→Hp→Prop)→Prop
abbrev TGs:=List V→St→Hp→(St→Hp→Prop)→Prop
def PG(X:Cx)(target:Expr)(t:TG):Prop :=
 ∀(a5:Ni) (s:Nj) (σ:St) (H:Hp) (v:V) (u:Value) (Q:St→Hp→Prop),ZA H s→UO u→t v σ H Q →
  wpAny Hm X.A (assign target X.env u) (λ_ s'=>Ex2 λ σ' H'=>U4 (Q σ' H')) X.xe s
def PGs(X:Cx)(ts:Nt)(t:TGs):Prop :=
 ∀(a5:Ni) (s:Nj) (σ:St) (H:Hp) (vs:List V) (us:Nl) (Q:St→Hp→Prop),ZA H s→NH us→t vs σ H Q →
  wpAny Hm X.A (assignInOrder ((Lo ts).map (·.2)) us) (λ_ s'=>Ex2 λ σ' H'=>U4 (Q σ' H')) X.xe s
abbrev TSet:=V→V→V→Hp→(Hp→Prop)→Prop
def PSet(X:Cx)(t:TSet):Prop :=
 ∀(a5:Ni) (s:Nj) (σ:St) (H:Hp) (o i v:V) (ov iv u:Value) (Q:Hp→Prop),ZA H s→RelV o ov→RelV i iv→UO u→t o i v H Q →
  wpAny Hm X.A (setItem ov iv u) (λ_ s'=>∃H',ZA H' s'∧Q H') X.xe s
abbrev TIp:=V→V→Hp→VK→Prop
def PIp(X:Cx)(op:Operator)(t:TIp):Prop :=
 ∀(a5:Ni) (s:Nj) (σ:St) (H:Hp) (x y:V) (v u:Value) (Q:VK),ZA H s→W6 v→YG u→t x y H Q →
  wpAny Hm X.A (inplaceOp op v u) TK X.xe s
section
variable{X:Cx}{pos:Pos}
def zer(i:Nat):TG:=λv σ H Q=>Q Ix H
def pg_name(hN:X.N.Nodup)(hi:X.N[i]?=some x)(hx:Y1 x)(hf:X.fn x=true∨X.env.scope.names.lookup x=some .local:=by first | exact .inl rfl | exact .inr rfl | assumption):Fg OP:=by
 intro a5 s σ H v u Q I r h
 exact wpAny_assign_Name (zh5 I hN hi hx r (λs' I'=>⟨_,H,I',h⟩) hf)
def gNil:TGs:=λvs σ H Q=>vs=[]∧Q σ H
inductive RGC(vs:List V)(R:V→List V→Prop):Prop
 |mk (v:V) (r:List V) (e:vs=v::r) (q:R v r):RGC vs R
def gCons(t:TG)(u:TGs):TGs:=λvs σ H Q=>RGC vs λv r=>t v σ H λ σ' H'=>u r σ' H' Q
def zbr:FI [] gNil:=by
 intro a5 s σ H vs us Q I r h
 obtain⟨e,h⟩:=h
 subst e
 cases r
 exact assignInOrder_nil ⟨σ,H,I,h⟩
def zak{e:Expr}{es:Nt}{t:TG}{u:TGs}(h1:PG X e t)(h2:FI es u)(hs:(assignEach (e::es) X.env).map (·.2)=assign e X.env::(Lo es).map (·.2):=by rfl):FI (e::es) (gCons t u):=by
 intro a5 s σ H vs us Q I r h
 obtain⟨v,vr,e1,h⟩:=h
 subst e1
 cases r with
 |cons r rr =>
  rw[hs]
  refine assignInOrder_cons (thn (h1 a5 s σ H _ _ _ I r h) λ_ s1 ⟨σ1,H1,I1,q1⟩=>?_)
  exact h2 a5 s1 σ1 H1 _ _ Q I1 rr q1
inductive RGT(K:Na)(n:Nat)(v:V)(H:Hp)(R:List V→Prop):Prop
 |mk (a:Nc) (xs:List V) (e:v=.ref a) (s:SqT K H a xs) (l:xs.length=n) (q:R xs):RGT K n v H R
def gTup(K:Na)(n:Nat)(t:TGs):TG:=λv σ H Q=>RGT K n v H λxs=>t xs σ H Q
def zco(hc:X.calm=true)(h:FI es t)(hn:(Lo es).length=n:=by rfl)(ar:(Lo es).findIdx? (·.1)=none:=by rfl):NI (gTup X.K n t):=by
 intro a5 s σ H v u Q I r hw
 obtain⟨a,xs,e1,hq,hl,hw⟩:=hw
 subst e1
 cases r
 obtain⟨a7,rv,ht,hz⟩:=I.tuple hq
 refine assign_Tuple_tuple S3 ht (by simp[hn,←hl,rv.length]) ar λh' hx=>?_
 have I1:ZA H {s with heap:=h'}:=I.kept (t':=s.toks) λb o e=>hx b o Op e
 exact h a5 _ σ H xs _ Q I1 (He rv) hw
def gSub(to ti:TE)(t:TSet):TG:=λv σ H Q=>to σ H λo H1=>ti σ H1 λi H2=>t o i v H2 λH3=>Q σ H3
def pg_sub{o i:Expr}{to ti:TE}{t:TSet}(ho:Z9 o to)(hi:Z9 i ti)(hs:PSet X t)(ha:∀ v,assign zO X.env v=(do
   let ov ←holding [v] yM
   let iv ←holding [v,ov] (HX i)
   standAt pos
   holding [v,ov,iv] (setItem ov iv v)
   release [v,ov,iv] []):=by intro _;rfl):PG X zO (gSub to ti t):=by
 intro a5 s σ H v u Q I r h
 rw[ha]
 refine wpAny_bind (wpAny_holding (thn Sv λov s1 ⟨x,H1,I1,r1,q1⟩=>?_))
 refine wpAny_bind (wpAny_holding (thn Lj λiv s2 ⟨y,H2,I2,r2,q2⟩=>?_))
 refine wpAny_bind (wpAny_standAt (wpAny_bind (wpAny_holding (thn (hs a5 s2 σ H2 x y v ov iv u _ I2 r1 r2 r q2) λ_ s3 ⟨H3,I3,q3⟩=>?_))))
 exact wpAny_release ⟨σ,H3,I3,q3⟩
def tAsg(te:TE)(g:TG):TS:=λD σ H=>te σ H λx H1=>g x σ H1 D.nx
def zcz{tg e:Expr}{te:TE}{g:TG}(he:Co)(hg:PG X tg g)(hs:swapsWithSole [tg] e pos.line X.env=pure false:=by rfl)(hw:swappedStores [tg] e X.env=pure none:=by rfl)(h1:(assignEach [tg] X.env).map (·.2)=[assign tg X.env]:=by rfl):KH (.Assign [tg] e pos) (tAsg te g):=by
 intro a5 s σ H D I h
 refine wpAny_Assign_stores (thn RM λv s1 ⟨x,H1,I1,r1,q1⟩=>?_) hs hw
 rw[h1]
 exact thn (hg a5 s1 σ H1 x v _ I1 r1 q1) λ_ s2 q=>q
def zgg{i:Nat}{x:Str}{e:Expr}{te:TE}{aK:Pos}(hN:X.N.Nodup)(hi:X.N[i]?=some x)(hx:Y1 x)(he:Co)(hs:swapsWith e (Hs Pj) pos.line X.env=pure false:=by rfl)(hf:X.fn x=true∨X.env.scope.names.lookup x=some .local:=by first | exact .inl rfl | exact .inr rfl | assumption) :
  PS X (.Assign [Pj] e pos) (tAsg te OP):=by
 intro a5 s σ H D I h
 refine wpAny_Assign_Name (thn RM λv s1 ⟨y,H1,I1,r1,q1⟩=>?_) hs
 exact zh5 I1 hN hi hx r1 (λs2 I2=>⟨_,H1,I2,q1⟩) hf
def tAug(i:Nat)(te:TE)(ti:TIp):TS:=λD σ H=>∃x,σ[i]?=some (Hs x)∧te σ H λy H1=>ti x y H1 λz H2=>D.nx (σ.set i (Hs z)) H2
def ps_aug(hN:X.N.Nodup)(hi:X.N[i]?=some x)(hx:Y1 x)(he:Co)(ho:PIp X op ti)(hf:X.fn x=true∨X.env.scope.names.lookup x=some .local:=by first | exact .inl rfl | exact .inr rfl | assumption) :
  PS X (.AugAssign Pj op e pos) (tAug i te ti):=by
 intro a5 s σ H D I h
 obtain⟨v,e1,h⟩:=h
 obtain⟨m,hn,hl⟩:=I.loc
 have vis:Xy x:=by rcases hx with k | k;exact .inl k;exact .inr (RH k)
 obtain⟨u,r,l⟩:=hl i x v hi e1 vis
 refine wpAny_AugAssign_Name ?_
 have go:ZE C1 (λw s₂=>ZE (inplaceOp op u w) (λr s₃=>ZE (PQ r) (λ_=>X0 D .next) X.xe s₃) X.xe s₂) X.xe s:=by
  refine thn RM λw s1 ⟨y,H1,I1,r1,q1⟩=>?_
  refine thn (ho a5 s1 σ H1 v y u w _ I1 r r1 q1) λz s2 ⟨zv,H2,I2,r2,q2⟩=>?_
  exact zh5 I2 hN hi hx r2 (λs3 I3=>⟨_,H2,I3,q2⟩) hf
 rcases l with⟨hk,hm⟩ | ⟨hk,c,hc,dF⟩
 ·exact XG go
 ·rcases hk with hk | hk
  ·exact XI go
  ·rcases hx with k | k
   ·have:X.env.scope.names.lookup x=some .free:=hk
    rw[k]at this;cases this
   ·have:X.env.scope.names.lookup x=some .free:=hk
    rw[k]at this;cases this
def ipI(f:Int→Int→Int):TIp:=λx y H Q=>∃i j,x=.int i∧y=.int j∧Q (HM (f i j)) H
def ip_add:PIp X .Add (ipI λi j=>i+j):=by
 intro a5 s σ H x y v u Q I r1 r2 h
 obtain⟨i,j,e1,e2,q⟩:=h
 subst e1;subst e2
 obtain⟨t,rfl⟩:=r1
 obtain⟨t',rfl⟩:=r2
 exact iadd_int ⟨HM _,H,Sg,⟨_,rfl⟩,q⟩
def tWhile(c:TT)(tb:TS):TS:=λD σ H=>∃W:Nat→St→Hp→Prop,(∃m,W m σ H)∧∀m σ H,W m σ H →
 c σ H λb H1=>if b=true then ∃N:St→Hp→Prop,(∀σ' H',N σ' H'→∃m',m'<m∧W m' σ' H')∧tb {D with nx:=N,ct:=N,bk:=D.nx} σ H1 else W1 H1
def zdg(hp:XJ X.xe)(hc:VT c tc)(hb:Me body tb):KH (.While c body [] pos) (tWhile tc tb):=by
 intro a5 s σ H D I h
 obtain⟨W,⟨m0,w0⟩,turn⟩:=h
 refine wpAny_While (codeAny_whileLoop (λn s'=>∃σ' H',ZD σ' H' s'∧W n σ' H') ?_ m0 ⟨σ,H,I,w0⟩)
 rintro n s1 ⟨σ1,H1,I1,w1⟩
 refine W' (thn (hc a5 s1 σ1 H1 _ I1 (turn n σ1 H1 w1)) λb s2 ⟨H2,I2,q2⟩=>?_)
 cases b with
 | true =>
  obtain⟨N,hN,q2⟩:=q2
  rw[if_pos rfl]
  refine W' (thn (hb a5 s2 σ1 H2 _ I2 q2) λf s3 q3=>?_)
  cases f with
  |next =>
   obtain⟨σ3,H3,I3,n3⟩:=q3
   obtain⟨m',hm,w3⟩:=hN σ3 H3 n3
   exact⟨m',hm,σ3,H3,I3,w3⟩
  |cont =>
   obtain⟨σ3,H3,I3,n3⟩:=q3
   obtain⟨m',hm,w3⟩:=hN σ3 H3 n3
   exact⟨m',hm,σ3,H3,I3,w3⟩
  |brk=>exact q3
  |ret v=>exact q3
 |false =>
  rw[if_neg Zi]
  exact wpAny_execs_nil ⟨σ1,H2,I2,q2⟩
end
structure It where
 go:Nat→Hp→Prop
 yld:Nat→Hp→V→Hp→Prop
 stop:Nat→Hp→Prop
def FpOk(X:Cx)(a5:Ni)(H:Hp)(b:Nc):Prop :=
 H b=none∧b≠X.env.locals∧b∉X.fs∧(b∈X.ex∨X.s₀.heap.objs.size≤b)∧(∀x c,X.env.cells.lookup x=some c→c≠b)∧∀p∈X.pn++a5,p.1≠b
def Inv.fpOk{X:Cx}{a5:Ni}{σ:St}{H H':Hp}{s:Nj}{b:Nc}(I:HP)(hb:s.heap.objs.size≤b)(hn:H' b=none):FpOk X a5 H' b:=by
 refine⟨hn,Yu (Zw I.lt hb),I.nofs hb,SC (Zg I.sz hb),λx c e z=>?_,λp hp z=>?_⟩
 ·obtain ⟨v,q⟩:=JS e
  exact absurd (Zw q.lt (Hl z hb)) Oo
 ·exact absurd (Zw (Qu (Bx hp).1) (Hl z hb)) Oo
structure Turn(P:Nk)(w:Nn)(K:Na)(tg:Expr)(J:It)(fp:No)(it:Nc)(tn:Nat→Heap→Prop):Prop where
 mem:it∈fp
 obj:∀i h,tn i h→∀b∈fp,∃o,h.get? b=some o∧∀v,o.data≠.cell v
 keep:∀i h h',tn i h→(∀b∈fp,∀o,h.get? b=some o→h'.get? b=some o)→tn i h'
 item:∀(X:Cx),X.prog=P→X.w=w→X.K=K→X.calm=true→∀(i:Nat) (a5:Ni) (s:Nj) (σ:St) (H:Hp) (E:Nd),ZA H s→(∀b∈fp,WF b)→tn i s.heap→NJ H →
  wpAny CM X.A (pyNext Tk) (λr s1=>∃u,r=some u ∧
   wpAny CM X.A PU (λ_ s2=>∃x H',ZA H' s2∧W6 u∧By H'∧tn HN s2.heap∧∀b∈fp,H' b=none) E s1) E s
 done:∀(X:Cx),X.prog=P→X.w=w→X.K=K→X.calm=true→∀(i:Nat) (a5:Ni) (s:Nj) (σ:St) (H:Hp) (E:Nd),ZA H s→(∀b∈fp,WF b)→tn i s.heap→K5 H →
  wpAny CM X.A (pyNext Tk) (λr s1=>r=none∧ZA H s1) E s
 self:∀(A:Nq) (i:Nat) (s:Nj) (Q:Nd) (E:Nd),tn i s.heap→Q Tk s→K6 A (OF Tk) Q E s
abbrev TI:=St→Hp→(It→Hp→Prop)→Prop
inductive PIE(X:Cx)(a5:Ni)(σ:St)(tg:Expr)(R:It→Hp→Prop)(itv:Value)(s2:Nj):Prop
 |mk (it:Nc) (fp:No) (tn:Nat→Heap→Prop) (J:It) (H':Hp) (h0:itv=.ref it) (h1:Inv X a5 σ H' s2) (h2:Turn X.prog X.w X.K tg J fp it tn) (h3:tn 0 s2.heap) (h4:(∀b∈fp,FpOk X a5 H' b)) (h5:R J H'):PIE X a5 σ tg R itv s2
def PI(X:Cx)(tg iter:Expr)(wi:TI):Prop :=
 ∀(a5:Ni) (s:Nj) (σ:St) (H:Hp) (R:It→Hp→Prop),ZA H s→wi σ H R →
  wpAny Hm X.A IA (λv s1=>ZE (OF v) yN X.xe s1) X.xe s
def go_of(ho:s.heap.get? it=some o)(hc:o.cls=.type n)(hd:o.data=.fields vs)(hn:["enumerate", "zip", "dict_itemiterator", "dict_reverseitemiterator", "odict_iterator", "itertools.zip_longest", "itertools.pairwise"].contains n=false)(hQ:Q () s):XZ PU Q E s:=by
 unfold letOwnedTupleGo
 cases tg <;> first
  |exact wpAny_pure hQ
  | (cases u <;> first
    |exact wpAny_pure hQ
    | (refine wpAny_bind (wpAny_load ho ?_)
       rw[hc,hd]
       show XZ (if(["enumerate", "zip", "dict_itemiterator", "dict_reverseitemiterator", "odict_iterator", "itertools.zip_longest", "itertools.pairwise"].contains n&&vs[0]?==some (IB _))=true then _ else _) Q E s
       rw[if_neg (by intro h;rw[hn,Bool.false_and]at h;cases h)]
       exact wpAny_pure hQ))
def Itl(K:Na)(a:Nc):It :=
 ⟨λi H=>∃xs x,W0 xs∧xs[i]?=some x,λi H x H'=>H'=H∧∀xs,W0 xs→xs[i]?=some x,λi H=>∃xs,W0 xs∧xs.length≤i⟩
def Itt(K:Na)(a:Nc):It :=
 ⟨λi H=>∃xs x,JT xs∧xs[i]?=some x,λi H x H'=>H'=H∧∀xs,JT xs→xs[i]?=some x,λi H=>∃xs,JT xs∧xs.length≤i⟩
def Itr(lo:Int)(n:Nat):It:=⟨λi _=>i<n,λi H x H'=>H'=H∧x=.int (lo+i),λi _=>n≤i⟩
theorem turn_list{P:Nk}{w:Nn}{K:Na}{tg:Expr}(a it:Nc):BE (K7 a) [it] it (λi h=>h.IsListIter it a i) where
 mem:=by simp
 obj:=λi h st b hb=>by
  have e:b=it:=by simpa using hb
  subst e
  obtain⟨o,e,c,d⟩:=st
  exact⟨o,e,λv z=>by rw[d]at z;cases z⟩
 keep:=λi h h' st k=>st.at λo e=>k it Ha o e
 item:=by
  intro X hP hw hK hc i a5 s σ H E I hf st hg
  subst hP hw hK
  obtain⟨xs,x,hq,hx⟩:=hg
  obtain⟨a7,rv,p,hz⟩:=I.list hq
  obtain⟨u,hu,ru⟩:=rv.get hx
  obtain⟨f0,f1,f2,f3,f4,f5⟩:=X' Ha
  refine MI p.isList (x:=u) (He hu) λh' aa sb=>?_
  have I1:ZA H {s with heap:=h'}:=I.turned (t':=s.toks) (λb o hb e=>(OQ hb).trans e) f0 f1 f3 f4 f5
  obtain⟨o,e,c,d⟩:=id aa
  exact⟨u,rfl,go_of (s:={s with heap:=h'}) e c d Hf ⟨x,H,I1,ru,⟨rfl,λys hy=>by rw[I.list_inj hy hq];exact hx⟩,aa,λb hb=>(Fh hb).1⟩⟩
 done:=by
  intro X hP hw hK hc i a5 s σ H E I hf st hg
  subst hP hw hK
  obtain⟨xs,hq,hx⟩:=hg
  obtain⟨a7,rv,p,hz⟩:=I.list hq
  obtain⟨f0,f1,f2,f3,f4,f5⟩:=X' Ha
  have hl:=rv.length
  exact KI st p.isList (by simp;exact ze9 ‹_› ‹_›) λh' eb=>⟨rfl,I.turned (t':=s.toks) (λb o hb e=>eb b o hb e) f0 f1 f3 f4 f5⟩
 self:=λ_ _ _ _ _ st h=>wpAny_pyIter_listiter st h
theorem turn_tuple{P:Nk}{w:Nn}{K:Na}{tg:Expr}(a it:Nc):BE (FJ a) [it] it (λi h=>h.IsTupleIter it a i) where
 mem:=by simp
 obj:=λi h st b hb=>by
  have e:b=it:=by simpa using hb
  subst e
  obtain⟨o,e,c,d⟩:=st
  exact⟨o,e,λv z=>by rw[d]at z;cases z⟩
 keep:=λi h h' st k=>st.at λo e=>k it Ha o e
 item:=by
  intro X hP hw hK hc i a5 s σ H E I hf st hg
  subst hP hw hK
  obtain⟨xs,x,hq,hx⟩:=hg
  obtain⟨a7,rv,p,hz⟩:=I.tuple hq
  obtain⟨u,hu,ru⟩:=rv.get hx
  obtain⟨f0,f1,f2,f3,f4,f5⟩:=X' Ha
  refine wpAny_pyNext_tuple_item st (show s.heap.IsTuple a a7.toArray from p) (x:=u) (He hu) λh' aa sb=>?_
  have I1:ZA H {s with heap:=h'}:=I.turned (t':=s.toks) (λb o hb e=>(OQ hb).trans e) f0 f1 f3 f4 f5
  obtain⟨o,e,c,d⟩:=id aa
  exact⟨u,rfl,go_of (s:={s with heap:=h'}) e c d Hf ⟨x,H,I1,ru,⟨rfl,λys hy=>by rw[I.tuple_inj hy hq];exact hx⟩,aa,λb hb=>(Fh hb).1⟩⟩
 done:=by
  intro X hP hw hK hc i a5 s σ H E I hf st hg
  subst hP hw hK
  obtain⟨xs,hq,hx⟩:=hg
  obtain⟨a7,rv,p,hz⟩:=I.tuple hq
  obtain⟨f0,f1,f2,f3,f4,f5⟩:=X' Ha
  have hl:=rv.length
  exact wpAny_pyNext_tuple_end S3 st (show s.heap.IsTuple a a7.toArray from p) (by simp;exact ze9 ‹_› ‹_›) λh' eb=>⟨rfl,I.turned (t':=s.toks) (λb o hb e=>eb b o hb e) f0 f1 f3 f4 f5⟩
 self:=λ_ _ _ _ _ st h=>wpAny_pyIter_tupleiter st h
theorem turn_range{P:Nk}{w:Nn}{K:Na}{tg:Expr}(it:Nc)(lo:Int)(n:Nat):BE (Fi n) [it] it (λi h=>IsRangeIter h it (lo+(i:Nat)*1) ((n:Int)-(i:Nat)) 1) where
 mem:=by simp
 obj:=λi h st b hb=>by
  have e:b=it:=by simpa using hb
  subst e
  exact⟨_,st,λv z=>by
   have z':Data.fields _=Data.cell v:=z
   cases z'⟩
 keep:=λi h h' st k=>k it Ha _ st
 item:=by
  intro X hP hw hK hc i a5 s σ H E I hf st hg
  subst hP hw hK
  obtain⟨f0,f1,f2,f3,f4,f5⟩:=X' Ha
  have W:=Walks.range (prog:=X.prog) (w:=X.w) S3 it lo 1 n
  refine W.item i s _ _ hg st λv h' tk hv aa kk=>?_
  obtain⟨t,rfl⟩:=hv
  have I1:ZA H {s with heap:=h',toks:=tk}:=I.turned (λb o hb e=>kk b o (He hb) e) f0 f1 f3 f4 f5
  refine⟨wI,go_of (s:={s with heap:=h',toks:=tk}) (n := "range_iterator") aa rfl rfl Hf ⟨HM (lo+i),H,I1,⟨t,?_⟩,⟨rfl,rfl⟩,aa,λb hb=>(Fh hb).1⟩⟩
  rw[Int.mul_one]
 done:=by
  intro X hP hw hK hc i a5 s σ H E I hf st hg
  subst hP hw hK
  obtain⟨f0,f1,f2,f3,f4,f5⟩:=X' Ha
  exact wpAny_pyNext_range_end S3 st (by have:n≤i:=hg;lia) λh' eb=>⟨rfl,I.turned (t':=s.toks) (λb o hb e=>eb b o hb e) f0 f1 f3 f4 f5⟩
 self:=λ_ _ _ _ _ st h=>wpAny_pyIter_rangeiter st h
end L2
namespace L2
open PySem PySem.Spec PyProof.Rows
section
variable{X:Cx}{tg:Expr}
inductive RI1(x:V)(S R:Addr→Prop):Prop
 |mk (a:Nc) (e:x=.ref a) (s:S a) (q:R a):RI1 x S R
def iList(K:Na)(tl:TE):TI:=λ σ H R=>tl σ H λx H1=>RI1 x (λa=>∃xs,SqL K H1 a xs) λa=>R (K7 a) H1
def iTup(K:Na)(tl:TE):TI:=λ σ H R=>tl σ H λx H1=>RI1 x (λa=>∃xs,SqT K H1 a xs) λa=>R (FJ a) H1
def zas{l:Expr}{tl:TE}(hl:P4):UK l (iList X.K tl):=by
 intro a5 s σ H R I h
 refine thn LU λv s1 ⟨x,H1,I1,r1,q1⟩=>?_
 obtain⟨a,e,⟨xs,hq⟩,q⟩:=q1
 subst e
 cases r1
 obtain⟨a7,rv,p,hz⟩:=I1.list hq
 refine wpAny_pyIter_list p.isList ?_
 refine⟨s1.heap.objs.size,[s1.heap.objs.size],_,_,H1,rfl,I1.kept (t':=s1.toks) λb o e=>WN e,turn_list a _,⟨_,Ta,rfl,rfl⟩,λb hb=>?_,q⟩
 have e:b=s1.heap.objs.size:=by simpa using hb
 subst e
 exact Bl TB
def pi_tup{l:Expr}{tl:TE}(hl:P4):UK l (iTup X.K tl):=by
 intro a5 s σ H R I h
 refine thn LU λv s1 ⟨x,H1,I1,r1,q1⟩=>?_
 obtain⟨a,e,⟨xs,hq⟩,q⟩:=q1
 subst e
 cases r1
 obtain⟨a7,rv,p,hz⟩:=I1.tuple hq
 refine wpAny_pyIter_tuple (show s1.heap.IsTuple a a7.toArray from p) ?_
 refine⟨s1.heap.objs.size,[s1.heap.objs.size],_,_,H1,rfl,I1.kept (t':=s1.toks) λb o e=>WN e,turn_tuple a _,⟨_,Ta,rfl,rfl⟩,λb hb=>?_,q⟩
 have e:b=s1.heap.objs.size:=by simpa using hb
 subst e
 exact Bl TB
def range_it{a5:Ni}{σ:St}{H:Hp}{s:Nj}{R:It→Hp→Prop}{E:Nd}{lo hi:Int}{t u v:Tok}{tk:Nat}(I:HP)(h1:-(2 ^ 62)≤lo)(h2:lo<2 ^ 62)(h3:-(2 ^ 62)≤hi)(h4:hi<2 ^ 62)(q:R (Fi (hi-lo).toNat) H):ZE (OF Hu) yN E {s with heap:=s.heap.push {cls:=.type "range",data:=.fields #[P0,P3,yw]},toks:=tk}:=by
 refine wpAny_pyIter_range (IsRange.new ..) (small_one h1 h2 h3 h4) ?_
 have I1:ZA H {s with heap:=s.heap.push {cls:=.type "range",data:=.fields #[P0,P3,yw]},toks:=tk}:=I.kept λb o e=>WN e
 refine⟨(s.heap.push {cls:=.type "range",data:=.fields #[P0,P3,yw]}).objs.size,[(s.heap.push {cls:=.type "range",data:=.fields #[P0,P3,yw]}).objs.size],_,_,H,rfl,
  I1.kept (t':=tk) λb o e=>WN e,turn_range _ lo (hi-lo).toNat,?_,λb hb=>?_,q⟩
 ·have e1:lo+RO*1=lo:=by simp
  have e2:(((hi-lo).toNat:Nat):Int)-RO=Builtin.Range.rangeSize lo hi 1:=by rw[rangeSize_one];split<;>lia
  show IsRangeIter _ _ (lo+RO*1) ((((hi-lo).toNat:Nat):Int)-RO) 1
  rw[e1,e2]
  exact U9 rfl
 ·have e:b=(s.heap.push { cls:=.type "range",data:=.fields #[P0,P3,yw] }).objs.size:=by simpa using hb
  subst e
  exact Bl TB
inductive RR1(vs:List V)(R:Int→Prop):Prop
 |mk (j:Int) (e:vs=[.int j]) (l:-(2 ^ 62)≤j) (u:j<2 ^ 62) (q:R j):RR1 vs R
def iRng1(ta:TA):TI:=λ σ H R=>ta σ H λvs H1=>RR1 vs λj=>R (Itr 0 j.toNat) H1
def zb8{a:Expr}{ta:TA}{p pos:Pos}(hg:VU "range")(hm:X.mg "range" = none)(ha:VX [a] ta)(hs:starEach [a] X.env=[(false,HX a)]:=by rfl):UK (.Call (.Name "range" p) [a] [] pos) (iRng1 ta):=by
 intro a5 s σ H R I h
 refine Call_ (Bz boot_range (Wm (thn SW λus s1 ⟨vs,H1,I1,r1,q1⟩=>?_) hs rfl))
 obtain⟨j,e,q1,q2,q⟩:=q1
 subst e
 cases r1 with
 |cons r rr =>
  cases rr
  obtain⟨t,rfl⟩:=r
  exact call_range_1 (range_it I1 HI HI q1 q2 (He q))
def tFor(wi:TI)(g:TG)(tb:TS):TS:=λD σ H=>wi σ H λJ H1=>∃W:Nat→Nat→St→Hp→Prop,(∃m,W 0 m σ H1)∧∀i m σ H,W i m σ H →
 (K5 H∧W1 H)∨(NJ H∧∃N:St→Hp→Prop,Hy∧∀x H',By H'→g x σ H' λ σ2 H2=>tb {D with nx:=N,ct:=N,bk:=D.nx} σ2 H2)
def zbm(fp:No)(h:Np):List (Addr×Obj):=fp.filterMap λb=>(h.get? b).map λo=>(b,o)
def zbb(hb:b∈fp)(e:h.get? b=some o):(b,o)∈Bm h:=List.mem_filterMap.mpr ⟨b,hb,by rw[e];rfl⟩
def zdb(hp:p∈Bm h):p.1∈fp∧h.get? p.1=some p.2:=by
 obtain⟨b,hb,e⟩:=List.mem_filterMap.mp hp
 cases q:h.get? b with
 |none=>rw[q]at e;cases e
 |some o =>
  rw[q]at e
  have e':(b,o)=p:=Qn e
  subst e'
  exact⟨hb,q⟩
def Inv.pinned(I:HP)(hf:∀b∈fp,WF b)(ho:∀b∈fp,∃o,s.heap.get? b=some o∧∀v,o.data≠.cell v):Inv X (a5++Bm s.heap) σ H s :=
 I.pins_of λp hp=>(Ql.mp hp).elim (λz=>Bx (WK z)) λz=>by
  obtain⟨hb,e⟩:=zdb z
  obtain⟨f0,f1,f2,_⟩:=hf p.1 hb
  obtain⟨o,e',d⟩:=ho p.1 hb
  rw[e]at e';cases e'
  exact⟨e,f0,f1,f2,d⟩
def Inv.unpinned(I:Inv X (a5++pl) σ H s):ZA H s:=I.pins_of λp hp=>Bx AA
def za4(hp:XJ X.xe)(hc:X.calm=true)(hi:CK)(hg:PG X tg g)(hb:Me body tb)(hs:∀x,foldedSetIterable iter X.env x=pure x:=by intro _;rfl):KH (.For tg iter body [] pos) (tFor wi g tb):=by
 intro a5 s σ H D I h
 refine wpAny_For (thn SF λv s1 h1=>thn h1 λitv s2 h2=>?_) hs
 obtain⟨it,fp,tn,J,H2,e,I2,T,br,f2,W,⟨m0,w0⟩,turn⟩:=h2
 subst e
 have stat:∀{H':Hp},(∀b∈fp,H' b=none)→∀b∈fp,FpOk X a5 H' b:=λhn b hb=>⟨OH,(f2 b hb).2⟩
 refine codeAny_forLoop_any (λn s'=>Ex3 λi σ' H'=>Aj4 (ZD σ' H' s') Cj (∀b∈fp,H' b=none) (W i n σ' H')) ?_ m0 ⟨0,σ,H2,I2,br,λb hb=>(f2 b hb).1,w0⟩
 rintro n s3 ⟨i,σ3,H3,I3,ay,fr3,w3⟩
 rcases turn i n σ3 H3 w3 with⟨stop,qn⟩ | ⟨go,N,hN,step⟩
 ·refine W' (thn (T.done X rfl rfl rfl hc i a5 s3 σ3 H3 X.xe I3 (stat fr3) ay stop) fun r s4 ⟨hr,I4⟩=>?_)
  subst hr
  exact wpAny_execs_nil ⟨σ3,H3,I4,qn⟩
 ·refine W' (thn (T.item X rfl rfl rfl hc i a5 s3 σ3 H3 X.xe I3 (stat fr3) ay go) fun r s4 ⟨u,hr,h4⟩=>?_)
  subst hr
  refine W' (thn h4 λ_ s5 ⟨x,H5,I5,r5,y5,dO,fr5⟩=>?_)
  have eZ:=I5.pinned (stat fr5) (W2 dO)
  refine W' (thn (hg _ s5 σ3 H5 x u _ eZ r5 (step x H5 y5)) λ_ s6 ⟨σ6,H6,I6,q6⟩=>?_)
  refine W' (thn (hb _ s6 σ6 H6 _ I6 q6) λf s7 q7=>?_)
  have again:∀{σ7:St} {H7:Hp},Inv X (a5++Bm s5.heap) σ7 H7 s7→N σ7 H7→∃m,m<n∧Ex3 λi σ' H'=>Aj4 (ZD σ' H' s7) (tn i s7.heap) (∀b∈fp,H' b=none) (W i m σ' H'):=λ{σ7 H7} I7 n7=>by
   obtain⟨m',hm,w7⟩:=hN σ7 H7 n7
   refine⟨m',hm,i+1,σ7,H7,I7.unpinned,WH dO λb hb o e=>(I7.pin (b,o) TW).1,λb hb=>?_,w7⟩
   obtain⟨o,e,d⟩:=W2 dO b hb
   exact(I7.pin (b,o) TW).2.1
  cases f with
  |next=>obtain⟨σ7,H7,I7,n7⟩:=q7;exact again I7 n7
  |cont=>obtain⟨σ7,H7,I7,n7⟩:=q7;exact again I7 n7
  |brk=>obtain⟨σ7,H7,I7,q7⟩:=q7;exact⟨σ7,H7,I7.unpinned,q7⟩
  |ret v=>obtain⟨x7,σ7,H7,I7,r7,q7⟩:=q7;exact⟨x7,σ7,H7,I7.unpinned,r7,q7⟩
end
def zbc{K:Na}{a:Nc}{xs:List V}{g:TG}{tb:TS}{D:Ends}{σ:St}{H:Hp}(Pv:Nat→St→Hp→Prop)(h0:CI)(hl:∀i σ H,i≤xs.length→Pv i σ H→W0 xs)(hs:∀i x σ H,xs[i]?=some x→Pv i σ H→g x σ H λ σ2 H2=>tb {D with nx:=Pv HN,ct:=Pv HN,bk:=D.nx} σ2 H2)(hd:∀σ H,Pv xs.length σ H→W1 H) :
  ∃W:Nat→Nat→St→Hp→Prop,(∃m,W 0 m σ H)∧∀i m σ H,W i m σ H →
   ((K7 a).stop i H∧W1 H)∨((K7 a).go i H∧∃N:St→Hp→Prop,Hy∧∀x H',(K7 a).yld i H x H'→g x σ H' λ σ2 H2=>tb {D with nx:=N,ct:=N,bk:=D.nx} σ2 H2):=by
 refine⟨λi m σ H=>m=xs.length-i∧i≤xs.length∧Pv i σ H,⟨xs.length,Ha,SJ,h0⟩,?_⟩
 rintro i m σ H ⟨rfl,hi,p⟩
 have q:=hl i σ H hi p
 by_cases ad:i<xs.length
 ·refine .inr ⟨⟨xs,xs[i],q,by simp [ad]⟩,Pv HN,fun σ' H' p'=>⟨xs.length - HN,Hz,rfl,ad,p'⟩,fun x H' y=>?_⟩
  obtain⟨e,y⟩:=y
  subst e
  exact hs i x σ _ (y xs q) p
 ·have e:i=xs.length:=by exact zar3 ‹_› ‹_›
  subst e
  exact .inl ⟨⟨xs,q,Hx⟩,OM⟩
def for_tup{K:Na}{a:Nc}{xs:List V}{g:TG}{tb:TS}{D:Ends}{σ:St}{H:Hp}(Pv:Nat→St→Hp→Prop)(h0:CI)(hl:∀i σ H,i≤xs.length→Pv i σ H→JT xs)(hs:∀i x σ H,xs[i]?=some x→Pv i σ H→g x σ H λ σ2 H2=>tb {D with nx:=Pv HN,ct:=Pv HN,bk:=D.nx} σ2 H2)(hd:∀σ H,Pv xs.length σ H→W1 H) :
  ∃W:Nat→Nat→St→Hp→Prop,(∃m,W 0 m σ H)∧∀i m σ H,W i m σ H →
   ((FJ a).stop i H∧W1 H)∨((FJ a).go i H∧∃N:St→Hp→Prop,Hy∧∀x H',(FJ a).yld i H x H'→g x σ H' λ σ2 H2=>tb {D with nx:=N,ct:=N,bk:=D.nx} σ2 H2):=by
 refine⟨λi m σ H=>m=xs.length-i∧i≤xs.length∧Pv i σ H,⟨xs.length,Ha,SJ,h0⟩,?_⟩
 rintro i m σ H ⟨rfl,hi,p⟩
 have q:=hl i σ H hi p
 by_cases ad:i<xs.length
 ·refine .inr ⟨⟨xs,xs[i],q,by simp [ad]⟩,Pv HN,fun σ' H' p'=>⟨xs.length - HN,Hz,rfl,ad,p'⟩,fun x H' y=>?_⟩
  obtain⟨e,y⟩:=y
  subst e
  exact hs i x σ _ (y xs q) p
 ·have e:i=xs.length:=by exact zar3 ‹_› ‹_›
  subst e
  exact .inl ⟨⟨xs,q,Hx⟩,OM⟩
def zcq{lo:Int}{n:Nat}{g:TG}{tb:TS}{D:Ends}{σ:St}{H:Hp}(Pv:Nat→St→Hp→Prop)(h0:CI)(hs:∀i σ H,i<n→Pv i σ H→g (HM (lo+i)) σ H λ σ2 H2=>tb {D with nx:=Pv HN,ct:=Pv HN,bk:=D.nx} σ2 H2)(hd:∀σ H,Pv n σ H→W1 H) :
  ∃W:Nat→Nat→St→Hp→Prop,(∃m,W 0 m σ H)∧∀i m σ H,W i m σ H →
   ((Fi n).stop i H∧W1 H)∨((Fi n).go i H∧∃N:St→Hp→Prop,Hy∧∀x H',(Fi n).yld i H x H'→g x σ H' λ σ2 H2=>tb {D with nx:=N,ct:=N,bk:=D.nx} σ2 H2):=by
 refine⟨λi m σ H=>m=n-i∧i≤n∧Pv i σ H,⟨n,Ha,SJ,h0⟩,?_⟩
 rintro i m σ H ⟨rfl,hi,p⟩
 by_cases ad:i<n
 ·refine .inr ⟨ad,Pv HN,fun σ' H' p'=>⟨n - HN,Hz,rfl,ad,p'⟩,fun x H' y=>?_⟩
  obtain⟨e,y⟩:=y
  subst e y
  exact hs i σ _ ad p
 ·have e:i=n:=by exact zar3 ‹_› ‹_›
  subst e
  exact .inl ⟨Hx,OM⟩
end L2
namespace L2
open PySem PySem.Spec PyProof.Rows
abbrev R2:=V→V→Hp→VK→Prop
def OpR(X:Cx)(f:Value→Value→Sem Value)(r:R2):Prop :=
 ∀(a5:Ni) (s:Nj) (σ:St) (H:Hp) (x y:V) (v u:Value) (Q:VK),ZA H s→W6 v→YG u→r x y H Q →
  wpAny Hm X.A Az TK X.xe s
def UnR(X:Cx)(f:Value→Sem Value)(r:V→Hp→VK→Prop):Prop :=
 ∀(a5:Ni) (s:Nj) (σ:St) (H:Hp) (x:V) (v:Value) (Q:VK),ZA H s→W6 v→r x H Q →
  wpAny Hm X.A (f v) TK X.xe s
def zck(X:Cx)(f:Value)(r:List V→Hp→VK→Prop):Prop :=
 ∀(a5:Ni) (s:Nj) (σ:St) (H:Hp) (xs:List V) (us:Nl) (Q:VK),ZA H s→WR us→r xs H Q →
  wpAny Hm X.A (call f us) TK X.xe s
def TruR(X:Cx)(r:V→Hp→(Bool→Hp→Prop)→Prop):Prop :=
 ∀(a5:Ni) (s:Nj) (σ:St) (H:Hp) (x:V) (v:Value) (Q:Bool→Hp→Prop),ZA H s→W6 v→r x H Q →
  wpAny Hm X.A Pg (Md Q) X.xe s
def tOp(r:R2)(ta tb:TE):TE:=λ σ H Q=>ta σ H λx H1=>tb σ H1 λy H2=>r x y H2 Q
def tUn(r:V→Hp→VK→Prop)(ta:TE):TE:=λ σ H Q=>ta σ H λx H1=>r x H1 Q
inductive RrI(C:Int→Int→Prop)(g:Int→Int→V)(x:V)(y:V)(H:Hp)(Q:VK):Prop
 |mk (i:_) (j:_) (h0:x=.int i) (h1:y=.int j) (h2:C i j) (h3:Q (g i j) H):RrI C g x y H Q
def rI(C:Int→Int→Prop)(g:Int→Int→V):R2:=λx y H Q=>RrI C g x y H Q
inductive RrI0(g:Int→Int→V)(x:V)(y:V)(H:Hp)(Q:VK):Prop
 |mk (i:_) (j:_) (h0:x=.int i) (h1:y=.int j) (h2:Q (g i j) H):RrI0 g x y H Q
def rI0(g:Int→Int→V):R2:=λx y H Q=>RrI0 g x y H Q
def rU(g:Int→V):V→Hp→VK→Prop:=λx H Q=>∃i,x=.int i∧Q (g i) H
section
variable{X:Cx}{a b c:Expr}{ta tb tc:TE}{pos:Pos}
def binT(ha:Ly)(hb:Ia){a5:Ni}{s:Nj}{σ:St}{H:Hp}{R:V→V→Hp→Prop}(I:HP)(h:ta σ H λx H1=>tb σ H1 λy H2=>R x y H2){Q:Nd}{f:Value→Value→Sem Value}(hf:∀v u s2 x y H2,ZA H2 s2→W6 v→YG u→R x y H2→ZE Az Q X.xe s2) :
  wpAny Hm X.A (HX a) (λv s₁=>ZE (HX b) (λu s₂=>ZE Az Q X.xe s₂) X.xe s₁) X.xe s:=by
 refine thn RY λv s1 ⟨x,H1,I1,r1,q1⟩=>?_
 refine thn Li λu s2 ⟨y,H2,I2,r2,q2⟩=>?_
 exact MH q2
def za2{op:Operator}{r:R2}(ho:YX (binaryOp op) r)(ha:Ly)(hb:Ia):Z9 (.BinOp a op b pos) xD:=by
 intro a5 s σ H Q I h
 exact wpAny_BinOp (NL h λv u s2 x y H2 I2 rx ry q=>ho a5 s2 σ H2 x y v u Q I2 rx ry q)
def pe_un(ho:UnR X (unaryOp op) r)(ha:Ly):Z9 (.UnaryOp op a pos) (tUn r ta):=by
 intro a5 s σ H Q I h
 exact UnaryOp_ (thn RY λv s1 ⟨x,H1,I1,r1,q1⟩=>ho a5 s1 σ H1 x v Q I1 r1 q1)
def opI{f:Value→Value→Sem Value}{C:Int→Int→Prop}{g:Int→Int→Int}(rule:∀(i j:Int) (t u:Tok) (s:Nj) (Q:Nd) (E:Nd),C i j→Q (Ak Eg) {s with toks:=s.toks+1}→ZE Ex Q E s) :
  OpR X f (rI C λi j=>.int Eg):=by
 intro a5 s σ H x y v u Q I rx ry h
 obtain⟨i,j,rfl,rfl,hc,q⟩:=h
 obtain⟨t,rfl⟩:=rx
 obtain⟨t',rfl⟩:=ry
 exact rule i j t t' s _ _ hc ⟨HM Eg,H,Sg,⟨_,rfl⟩,q⟩
def opI0{f:Value→Value→Sem Value}{g:Int→Int→Int}(rule:∀(i j:Int) (t u:Tok) (s:Nj) (Q:Nd) (E:Nd),Q (Ak Eg) {s with toks:=s.toks+1}→ZE Ex Q E s) :
  OpR X f (rI0 λi j=>.int Eg):=by
 intro a5 s σ H x y v u Q I rx ry h
 obtain⟨i,j,rfl,rfl,q⟩:=h
 obtain⟨t,rfl⟩:=rx
 obtain⟨t',rfl⟩:=ry
 exact rule i j t t' s _ _ ⟨HM Eg,H,Sg,⟨_,rfl⟩,q⟩
def opB0{f:Value→Value→Sem Value}{g:Int→Int→Bool}(rule:∀(i j:Int) (t u:Tok) (s:Nj) (Q:Nd) (E:Nd),Q (Ow Eg) s→ZE Ex Q E s) :
  OpR X f (rI0 λi j=>.bl Eg):=by
 intro a5 s σ H x y v u Q I rx ry h
 obtain⟨i,j,rfl,rfl,q⟩:=h
 obtain⟨t,rfl⟩:=rx
 obtain⟨t',rfl⟩:=ry
 exact rule i j t t' s _ _ ⟨.bl Eg,H,I,rfl,q⟩
def CDiv(i j:Int):Prop:=0<j∧j<1073741824
def CPow(i j:Int):Prop:=0≤j∧j≤1000000∧i.natAbs<2 ^ 64
def CMul(i j:Int):Prop:=(-(2 ^ 64)<i∧i<2 ^ 64)∨(-(2 ^ 64)<j∧j<2 ^ 64)
def CMul.ok{i j:Int}(h:CMul i j):IntMulOk i j:=by
 rcases h with⟨h1,h2⟩ | ⟨h1,h2⟩
 ·exact .of_left zr
 ·exact .of_right zr
def zbx:YX OG (rI0 λi j=>.int (i+j)):=opI0 λ_ _ _ _ _ _ _ q=>add_int q
def zdt:YX (binaryOp .Sub) (rI0 λi j=>.int (i-j)):=opI0 λ_ _ _ _ _ _ _ q=>sub_int q
def zgl:YX (binaryOp .Mult) (rI CMul λi j=>.int (i*j)):=opI λ_ _ _ _ _ _ _ hc q=>mul_int q hc.ok
def op_fdiv:YX (binaryOp .FloorDiv) (rI CDiv λi j=>.int (i/j)):=opI λi j _ _ _ _ _ hc q=>by
 have h1:(0:Int)<j:=hc.1
 have h2:j<1073741824:=hc.2
 exact floordiv_int HI (by rw[VY HI];exact q) IC
def zfp:YX (binaryOp .Mod) (rI (λ_ j=>0<j) λi j=>.int (i%j)):=opI λi j _ _ _ _ _ hc q=>by
 have h1:(0:Int)<j:=hc
 exact mod_int' HI (by rw[VZ HI];exact q)
def op_pow:YX (binaryOp .Pow) (rI CPow λi j=>.int (i ^ j.toNat)):=opI λ_ _ _ _ _ _ _ hc q=>pow_int_small hc.1 hc.2.1 hc.2.2 q
def unI{f:Value→Sem Value}{g:Int→Int}(rule:∀(i:Int) (t:Tok) (s:Nj) (Q:Nd) (E:Nd),Q (Ak (g i)) {s with toks:=s.toks+1}→ZE (f yK) Q E s) :
  UnR X f (rU λi=>.int (g i)):=by
 intro a5 s σ H x v Q I rx h
 obtain⟨i,rfl,q⟩:=h
 obtain⟨t,rfl⟩:=rx
 exact rule i t s _ _ ⟨HM (g i),H,Sg,⟨_,rfl⟩,q⟩
def un_neg:UnR X (unaryOp .USub) (rU λi=>.int (-i)):=unI λ_ _ _ _ _ q=>neg_int q
end
def scal:V→V→Bool
 |.non,.non=>true | .non,.int _=>true | .int _,.non=>true | .non,.bl _=>true | .bl _,.non=>true | .non,.str _=>true | .str _,.non=>true
 |.int _,.int _=>true | .bl _,.bl _=>true | .str _,.str _=>true | .byt _,.byt _=>true
 |.int _,.str _=>true | .str _,.int _=>true | .bl _,.str _=>true | .str _,.bl _=>true
 |_,_=>false
def rEq:R2:=λx y H Q=>scal x y=true∧Q (.bl (decide (x=y))) H
def rNe:R2:=λx y H Q=>scal x y=true∧Q (.bl (!decide (x=y))) H
def dec_int:decide (V.int i=V.int j)=(i==j):=by
 rw[Yp]
 simp
def dec_bl:decide (V.bl i=V.bl j)=(i==j):=by
 rw[Yp]
 simp
def dec_str:decide (V.str i=V.str j)=(i==j):=by
 rw[Yp]
 simp
def dec_byt:decide (V.byt i=V.byt j)=(i.toList==j.toList):=by
 rw[Yp]
 cases i
 cases j
 simp
section
variable{X:Cx}{a b c:Expr}{ta tb tc:TE}{pos:Pos}
def zbk(I:HP)(q:Ap k)(e:k=k'):QF Q (Ow k') s:=by
 subst e
 exact⟨.bl k,H,I,rfl,q⟩
def zgm:YX (compareOp .Eq) rEq:=by
 intro a5 s σ H x y v u Q I rx ry h
 obtain⟨hs,q⟩:=h
 cases x with
 |non =>
  cases rx
  cases y with
  |non=>cases ry;exact PySem.EqNone.eq_none_none SZ
  |bl j=>cases ry;exact PySem.EqNone.eq_none_bool SZ
  |int j=>obtain⟨t',rfl⟩:=ry;exact PySem.EqNone.eq_none_int SZ
  |str j=>obtain⟨t',rfl⟩:=ry;exact PySem.EqNone.eq_none_str SZ
  |_=>exact absurd (show false=true from hs) Zi
 |bl i =>
  cases rx
  cases y with
  |non=>cases ry;exact PySem.EqNone.eq_bool_none SZ
  |bl j=>cases ry;exact eq_bool (Q3 dec_bl)
  |str j=>obtain⟨t',rfl⟩:=ry;exact PySem.EqMixed.eq_bool_str SZ
  |_=>exact absurd (show false=true from hs) Zi
 |int i =>
  obtain⟨t,rfl⟩:=rx
  cases y with
  |non=>cases ry;exact PySem.EqNone.eq_int_none SZ
  |int j=>obtain⟨t',rfl⟩:=ry;exact eq_int (Q3 dec_int)
  |str j=>obtain⟨t',rfl⟩:=ry;exact PySem.EqMixed.eq_int_str SZ
  |_=>exact absurd (show false=true from hs) Zi
 |str i =>
  obtain⟨t,rfl⟩:=rx
  cases y with
  |non=>cases ry;exact PySem.EqNone.eq_str_none SZ
  |bl j=>cases ry;exact PySem.EqMixed.eq_str_bool SZ
  |int j=>obtain⟨t',rfl⟩:=ry;exact PySem.EqMixed.eq_str_int SZ
  |str j=>obtain⟨t',rfl⟩:=ry;exact eq_str (Q3 dec_str)
  |_=>exact absurd (show false=true from hs) Zi
 |byt i =>
  obtain⟨t,rfl⟩:=rx
  cases y with
  |byt j=>obtain⟨t',rfl⟩:=ry;exact PySem.W.eq_bytes (Q3 dec_byt)
  |_=>exact absurd (show false=true from hs) Zi
 |_=>cases y<;>exact absurd (show false=true from hs) Zi
def op_ne:YK rNe:=by
 intro a5 s σ H x y v u Q I rx ry h
 obtain⟨hs,q⟩:=h
 cases x with
 |non =>
  cases rx
  cases y with
  |non=>cases ry;exact PySem.EqNone.ne_none_none SZ
  |bl j=>cases ry;exact PySem.EqNone.ne_none_bool SZ
  |int j=>obtain⟨t',rfl⟩:=ry;exact PySem.EqNone.ne_none_int SZ
  |str j=>obtain⟨t',rfl⟩:=ry;exact PySem.EqNone.ne_none_str SZ
  |_=>exact absurd (show false=true from hs) Zi
 |bl i =>
  cases rx
  cases y with
  |non=>cases ry;exact PySem.EqNone.ne_bool_none SZ
  |bl j=>cases ry;exact ne_bool (Q3 (congrArg not dec_bl))
  |str j=>obtain⟨t',rfl⟩:=ry;exact PySem.EqMixed.ne_bool_str SZ
  |_=>exact absurd (show false=true from hs) Zi
 |int i =>
  obtain⟨t,rfl⟩:=rx
  cases y with
  |non=>cases ry;exact PySem.EqNone.ne_int_none SZ
  |int j=>obtain⟨t',rfl⟩:=ry;exact ne_int (Q3 (congrArg not dec_int))
  |str j=>obtain⟨t',rfl⟩:=ry;exact PySem.EqMixed.ne_int_str SZ
  |_=>exact absurd (show false=true from hs) Zi
 |str i =>
  obtain⟨t,rfl⟩:=rx
  cases y with
  |non=>cases ry;exact PySem.EqNone.ne_str_none SZ
  |bl j=>cases ry;exact PySem.EqMixed.ne_str_bool SZ
  |int j=>obtain⟨t',rfl⟩:=ry;exact PySem.EqMixed.ne_str_int SZ
  |str j=>obtain⟨t',rfl⟩:=ry;exact ne_str (Q3 (congrArg not dec_str))
  |_=>exact absurd (show false=true from hs) Zi
 |byt i =>
  obtain⟨t,rfl⟩:=rx
  cases y with
  |byt j=>obtain⟨t',rfl⟩:=ry;exact PySem.W.ne_bytes (Q3 (congrArg not dec_byt))
  |_=>exact absurd (show false=true from hs) Zi
 |_=>cases y<;>exact absurd (show false=true from hs) Zi
def op_lt:YX (compareOp .Lt) (rI0 λi j=>.bl (decide (i<j))):=opB0 λ_ _ _ _ _ _ _ q=>lt_int q
def op_le:YX (compareOp .LtE) (rI0 λi j=>.bl (decide (i≤j))):=opB0 λ_ _ _ _ _ _ _ q=>le_int q
def op_gt:YX (compareOp .Gt) (rI0 λi j=>.bl (decide (j<i))):=opB0 λ_ _ _ _ _ _ _ q=>gt_int q
def zba(b:Expr)(h:op≠.In:=by decide)(h2:op≠.NotIn:=by decide):behindInMarks op b=false:=by
 have e1:(op==CmpOp.In)=false:=by cases op<;>first | rfl | exact absurd rfl h
 have e2:(op==CmpOp.NotIn)=false:=by cases op<;>first | rfl | exact absurd rfl h2
 cases b<;>simp[behindInMarks,e1,e2]
def pe_cmpR{op:CmpOp}{r:R2}(ho:Im)(ha:Ly)(hb:Ia)(hm:behindInMarks op b=false):Z9 (.Compare a [op] [b] pos) xD:=by
 intro a5 s σ H Q I h
 exact wpAny_Compare1 (NL h λv u s2 x y H2 I2 rx ry q=>ho a5 s2 σ H2 x y v u Q I2 rx ry q) hm
def tTest(t:TE):TT:=λ σ H Q=>t σ H λx H'=>RB x H' Q
def zar(ho:Im)(ha:Ly)(hb:Ia)(hm:behindInMarks op b=false):VT (.Compare a [op] [b] pos) (tTest xD):=by
 intro a5 s σ H Q I h
 refine wpAny_isTrue_Compare1 (thn RY λv s1 ⟨x,H1,I1,r1,q1⟩=>thn Li λu s2 ⟨y,H2,I2,r2,q2⟩ =>
  thn EH λc s3 ⟨z,H3,I3,r3,k,e,q3⟩=>?_) hm
 subst e
 cases r3
 exact wpAny_truthy_bool ⟨H3,I3,q3⟩
def tChain(r r':R2)(ta tb tc:TE):TE:=λ σ H Q=>ta σ H λx H1=>tb σ H1 λy H2=>r x y H2 λz H3=>RB z H3 λk H3 =>
 (if k=true then tc σ H3 λw' H4=>r' y w' H4 Q else Q Iz H3)
def pe_chain(ho:Im)(di:YX (compareOp op') r')(ha:Ly)(hb:Ia)(hc:Z9 c tc)(hm:lastMarks [op,op'] [b,c]=false:=by with_unfolding_all rfl):Z9 (.Compare a [op,op'] [b,c] pos) (tChain r r' ta tb tc):=by
 intro a5 s σ H Q I h
 refine Compare_chain (thn RY λv s1 ⟨x,H1,I1,r1,q1⟩=>chain_link (thn Li λu s2 ⟨y,H2,I2,r2,q2⟩ =>
  thn EH λd s3 ⟨z,H3,I3,r3,k,e,q3⟩=>?_)) hm
 subst e
 cases r3
 refine wpAny_truthy_bool ?_
 cases k with
 |false=>exact ite_ff ⟨Iz,H3,I3,rfl,q3⟩
 |true=>exact ite_tt (chain_last (thn (hc a5 s3 σ H3 _ I3 q3) λw' s4 ⟨z',H4,I4,r4,q4⟩=>di a5 s4 σ H4 y z' u w' Q I4 r2 r4 q4))
def TruV(K:Na)(x:V)(H:Hp)(k:Bool):Prop :=
 match x with
 |.non=>k=false
 |.bl b=>k=b
 |.int i=>k=(i != 0)
 |.str y=>y.length≤sizeLine∧k=((y.length:Int) != 0)
 |.byt y=>y.size≤sizeLine∧k=((y.size:Int) != 0)
 |.ref p=>(∃xs,YE p xs∧k=!xs.isEmpty)∨(∃xs,SqT K H p xs∧k=!xs.isEmpty)∨∃kvs,H p=some RU∧k=!kvs.isEmpty
 |_=>False
def isEmpty_kv{κ:Type}{kvs:List (κ×V)}{vs:List (κ×Value)}(r:UP vs):(!vs.isEmpty)=!kvs.isEmpty:=by
 cases r<;>rfl
def zhs{xs:List V}{a7:Nl}(r:WR a7):(!a7.toArray.isEmpty)=!xs.isEmpty:=by
 cases r<;>simp
def zfr:(sizeLine:Nat)<2 ^ 63:=by rw[sizeLine_eq];decide
inductive RTr(K:Na)(x:V)(H:Hp)(Q:Bool→Hp→Prop):Prop
 |mk (k:Bool) (t:TruV K x H k) (q:Q k H):RTr K x H Q
def tru_ok:TruR X (λx H Q=>RTr X.K x H Q):=by
 intro a5 s σ H x v Q I rx h
 obtain⟨k,e,q⟩:=h
 have hl:=zfr
 have hs:sizeLine=16777216:=sizeLine_eq
 cases x with
 |non =>
  cases rx
  have e':k=false:=e
  subst e'
  exact truthy_none ⟨H,I,q⟩
 |bl b =>
  cases rx
  have e':k=b:=e
  subst e'
  exact wpAny_truthy_bool ⟨H,I,q⟩
 |int i =>
  obtain⟨t,rfl⟩:=rx
  have e':k=(i != 0):=e
  subst e'
  exact PySem.P.truthy_int ⟨H,I,q⟩
 |str y =>
  obtain⟨t,rfl⟩:=rx
  obtain⟨hy,e'⟩:y.length≤sizeLine∧k=((y.length:Int) != 0):=e
  subst e'
  exact PySem.P.truthy_str HI ⟨H,Sg,q⟩
 |byt y =>
  obtain⟨t,rfl⟩:=rx
  obtain⟨hy,e'⟩:y.size≤sizeLine∧k=((y.size:Int) != 0):=e
  subst e'
  exact PySem.W.truthy_bytes HI ⟨H,Sg,q⟩
 | ref p =>
  cases rx
  have e':(∃xs,WO xs∧k=!xs.isEmpty)∨(∃xs,Vr p xs∧k=!xs.isEmpty)∨∃kvs,H p=some RU∧k=!kvs.isEmpty:=e
  rcases e' with⟨xs,hx,e'⟩ | ⟨xs,hx,e'⟩ | ⟨kvs,hx,e'⟩
  ·subst e'
   obtain⟨a7,r,pl,hz⟩:=I.list hx
   have ae:=r.length
   exact wpAny_truthy_list pl.isList (by simp only[Qy];lia) ⟨H,Sg,by rw[zhs r];exact q⟩
  ·subst e'
   obtain⟨a7,r,pl,hz⟩:=I.tuple hx
   have ae:=r.length
   exact truthy_tuple pl (by simp only[Qy];lia) ⟨H,Sg,by rw[zhs r];exact q⟩
  ·subst e'
   obtain⟨hz,hS,vs,r,m⟩:kvs.length≤sizeLine∧(p==sysModules)=false∧∃vs,UP vs∧s.heap.DictOf Td p vs:=X1 hx
   have ae:kvs.length=vs.length:=Zy r
   exact wpAny_truthy_dict hS m HI ⟨H,Sg,by rw[isEmpty_kv r];exact q⟩
 |_=>exact(show False from e).elim
def ze0(ha:Ly)(he:∀whole,isTrue a X.env whole=(do let v ←whole;standAt a.pos;holding [v] Pg)) :
  PT X a (λ σ H Q=>ta σ H λx H'=>RTr X.K x H' Q):=by
 intro a5 s σ H Q I h
 exact isTrue_plain (thn RY λv s1 ⟨x,H1,I1,r1,q1⟩=>tru_ok a5 s1 σ H1 x v Q I1 r1 q1) (he _)
def zho:YX OG (λx y H Q=>Ex2 λi j=>Aj4 (x=.str i) (y=.str j) (i.length+j.length≤sizeLine) (Q (Ts (i++j)) H)):=by
 intro a5 s σ H x y v u Q I rx ry h
 obtain⟨i,j,rfl,rfl,hz,q⟩:=h
 obtain⟨t,rfl⟩:=rx
 obtain⟨t',rfl⟩:=ry
 exact add_str (λt' tk=>⟨Ts (i++j),H,Sg,⟨_,rfl⟩,q⟩) hz
def vals1(r:Vals [x] us):∃u,us=[u]∧W6 u:=by
 cases r with
 |cons r1 r2=>cases r2;exact⟨wI,r1⟩
def vals2(r:Vals [x,y] us):∃u w',us=[u,w']∧W6 u∧YG w':=by
 cases r with
 |cons r1 r2 =>
  cases r2 with
  |cons r3 r4=>cases r4;exact⟨_,wI,r1,r3⟩
def call_abs:Y2 (.builtin "abs") (λxs H Q=>Ex1 λi=>Aj2 (xs=[OE]) (Q (HM (if i<0 then -i else i)) H)):=by
 intro a5 s σ H xs us Q I r h
 obtain⟨i,rfl,q⟩:=h
 obtain⟨u,rfl,t,rfl⟩:=vals1 r
 exact call_abs_int λu tk=>⟨HM (if i<0 then -i else i),H,Sg,⟨_,rfl⟩,q⟩
def call_max2(hc:X.calm=true):Y2 (.builtin "max") (λxs H Q=>Ex2 λi j=>Aj2 (xs=[OE,HM j]) (Q (HM (if j>i then j else i)) H)):=by
 intro a5 s σ H xs us Q I r h
 obtain⟨i,j,rfl,q⟩:=h
 obtain⟨u,w',rfl,⟨t,rfl⟩,⟨t',rfl⟩⟩:=vals2 r
 refine max_two_ints S3 λh' tk k=>⟨_,H,I.kept k,?_,q⟩
 by_cases hj:j>i
 ·rw[if_pos hj,if_pos hj];exact⟨wI⟩
 ·rw[if_neg hj,if_neg hj];exact⟨wI⟩
def zg2:Y2 (.builtin "divmod") (λxs H Q=>Ex2 λi j=>Aj3 (xs=[OE,HM j]) (CDiv i j) (∀p,H p=none→Q Tn (ZX p (.tup [HM (i/j),HM (i%j)])))):=by
 intro a5 s σ H xs us Q I r h
 obtain⟨i,j,rfl,⟨h1,h2⟩,q⟩:=h
 obtain⟨u,w',rfl,⟨t,rfl⟩,⟨t',rfl⟩⟩:=vals2 r
 refine divmod_int HI ?_ IC
 rw[VY HI,VZ HI]
 have hn:H s.heap.objs.size=none:=I.hok.fresh Hx
 refine⟨Hu,_,?_,rfl,q _ hn⟩
 refine I.laid (λb o e=>WN e) Hx ⟨by simp only[Qz,Um];rw[sizeLine_eq];decide,[Ak (i/j),S8 (i%j) (s.toks+1)],Oh ⟨_,rfl⟩ (Sa ⟨_,rfl⟩),?_⟩
 exact⟨_,Za s.heap rfl,rfl,0,rfl⟩
end
end L2
namespace L2
open PySem PySem.Spec PyProof.Rows
structure ObjM(h:Np)(x dx C:Nc)(mA:Ng):Prop where
 obj:h.get? x=some (WY dx)
 ns:h.Ns1 dx mA
 ne:dx≠x
def lookIn_ns{h:Np}{mA:Ng}(n:h.Ns1 dx mA):∃od,h.get? dx=some od∧∀name,X7 od=some (mA name):=by
 obtain⟨o,es,ep,ho,hd,hk,_,hm⟩:=n
 refine⟨o,ho,λname=>?_⟩
 have e:=hm name
 unfold nsFind findBy at e
 rw[←Array.find?_toList]at e
 unfold PySem.W.lookIn
 rw[hd]
 dsimp only
 split
 ·rename_i y q
  rw[q]at e
  exact congrArg some e
 ·rename_i q
  rw[q]at e
  have a:es.toList.any (·.refKey)=false:=by
   rw[List.any_eq_false]
   intro y hy
   obtain⟨z,t,gm⟩:=hk y (Array.mem_toList_iff.mp hy)
   simp[DictEntry.refKey,gm]
  have a':¬es.toList.any (·.refKey)=true:=by rw[a];exact Zi
  rw[if_neg a']
  exact congrArg some e
def ObjM.look(I:ObjM h x dx C mA):∃od,PySem.W.InstAt h x (WY dx) C (Hs od)∧∀name,X7 od=some (mA name) :=
 let⟨od,ho,hl⟩:=lookIn_ns I.ns
 ⟨od,⟨I.obj,rfl,rfl,ho⟩,hl⟩
section
variable{prog:Nk}{w:Nn}{A:Nq}{E:Nd}{s:Nj}{K:Na}{x dx C f:Nc}{mA:Ng}{name:Str}{v:Value}
def get_map(X:K.In s.heap)(I:KJ mA)(hg:UA name=true)(hh:J' C=true)(ha:Z6 name=some none)(hv:mA name=some v)(aX:PySem.W.handedIn v=true)(h:Q v {s with toks:=s.toks+1}) :
  wpAny Hw A (getAttr P5 name expr) Q E s:=by
 obtain⟨od,J,hl⟩:=I.look
 exact PySem.W.get_value X J (PySem.W.plainGet_of hg).1 (PySem.W.findObj_own hh ha rfl (by rw[hl,hv])) aX h
def get_meth(X:K.In s.heap)(I:KJ mA)(hg:UA name=true)(hf:Z6 name=some AB)(ht:XL LL=true)(hv:mA name=none)(h:Q (LL,[P5]) s) :
  wpAny Hw A (getMethod P5 name pl) Q E s:=by
 obtain⟨od,J,hl⟩:=I.look
 exact PySem.W.method_fn X J (PySem.W.plainGet_of hg).1 (PySem.W.plainGet_of hg).2 hf (beq_iff_eq.mp ht) (by show(X7 od).map (·.isSome)=some false;rw[hl,hv];rfl) h
def set_map(X:K.In s.heap)(I:KJ mA)(hs:Z6 "__setattr__" = some (Hs (.builtin "object.__setattr__")))(hp:X8 C=true)(ht:DY name=some none)(hh:J' C=true)(hw:VQ ns)(hsz:ns.length≤sizeLine)(h:∀h',ObjM h' x dx C (λy=>if y=name then some v else mA y)→Heap.SameBut dx s.heap h'→Q () {s with heap:=h',toks:=s.toks+2}) :
  wpAny Hw A (setAttr P5 name v) Q E s:=by
 obtain⟨od,J,hl⟩:=I.look
 refine PySem.W.set_plain X J hs (PySem.W.osa_open (s:={s with toks:=s.toks+1}) (r:=none) X J hp ht λb=>?_)
 obtain⟨cd,hc,iN⟩:=PySem.W.any_some hh
 have hx:s.heap.get? x=some ⟨P6,Hs dx,.plain,#[]⟩:=I.obj
 refine wpAny_bind (wpAny_pure (wpAny_bind (wpAny_bind (wpAny_loadPart hx (wpAny_bind (PySem.W.Looks.here (s:={s with toks:=s.toks+1}) (PySem.W.looks_clsIn X hc) ?_))))))
 rw[iN]
 refine wpAny_pure (a:=some dx) (SA (Sj (wpAny_bind ?_)))
 refine wpAny_nsSet1 (s:={s with toks:=s.toks+1}) I.ns λh' bC cv=>?_
 obtain⟨oD,esD,epD,hoD,hdD,hcD⟩:=bC.count (PySem.Within.cons name v hw)
 refine wpAny_bind (wpAny_lookBehind hoD (by rw[hdD];exact pastItsLine_dict (Zg hcD (by rw[Qz];exact zar4 ‹_›))) ?_)
 exact wpAny_pure (h _ ⟨(cv.2 _ (Zl I.ne)).trans I.obj,bC,I.ne⟩ cv)
def make_map(X:K.In s.heap)(hm:K8 C=true)(hi:Z6 "__init__" = some AB)(hf:PySem.W.typeIn K LL=some (.type "function"))(h:codeAny Hw (A.under (.builtin "type.__call__" ⟨.ref C::vs,kw⟩)) (.call LL ⟨.ref HU::vs,kw⟩) (PySem.W.InitBack HU R)
   {s with heap:=(s.heap.push PySem.W.emptyDict).push LM}) :
  codeAny Hw A (.call P6 ⟨vs,kw⟩) R s:=by
 obtain⟨hh,g,d,t,os⟩:=s
 exact PySem.W.make_core (PySem.W.makes_of X hm) (PySem.W.looks_findIn X hi) (λself=>PySem.W.bind_fn X self hf) HW h
end
def putF(f:Str)(v:V):List (Str×V)→List (Str×V)
 |[]=>[(f,v)]
 |(g,x)::r=>if g=f then(g,v)::r else(g,x)::JD r
theorem zgp(f g:Str)(v:V):∀fs:List (Str×V),(JD fs).lookup g=if g=f then some v else fs.lookup g
 | []=>by
  show List.lookup g [(f,v)]=_
  by_cases h:g=f
  ·have hb:(g == f)=true:=beq_iff_eq.mpr h
   simp only[List.lookup,hb,if_pos h]
  ·have hb:(g == f)=false:=beq_eq_false_iff_ne.mpr h
   simp only[List.lookup,hb,if_neg h]
 | (k,x)::r=>by
  have ih:=zgp f g v r
  rw[show JD ((k,x)::r)=(if k=f then(k,v)::r else(k,x)::JD r) from rfl]
  by_cases hk:k=f
  ·rw [Si hk]
   by_cases h:g=k
   ·have hb:(g == k)=true:=beq_iff_eq.mpr h
    simp only[List.lookup,hb,if_pos (h.trans hk)]
   ·have hb:(g == k)=false:=beq_eq_false_iff_ne.mpr h
    simp only[List.lookup,hb,if_neg (λe:g=f=>h (e.trans hk.symm))]
  ·rw [Sb hk]
   by_cases h:g=k
   ·have hb:(g == k)=true:=beq_iff_eq.mpr h
    simp only[List.lookup,hb,if_neg (λe:g=f=>hk (h.symm.trans e))]
   ·have hb:(g == k)=false:=beq_eq_false_iff_ne.mpr h
    simp only[List.lookup,hb]
    exact ih
theorem zgr(f:Str)(v:V):∀fs:List (Str×V),f∈(JD fs).map (·.1)∧∀g,g∈fs.map (·.1)→g∈(JD fs).map (·.1)
 |[]=>⟨by simp[putF],λg h=>by simp at h⟩
 | (k,x)::r=>by
  obtain⟨i1,i2⟩:=zgr f v r
  rw[show JD ((k,x)::r)=(if k=f then(k,v)::r else(k,x)::JD r) from rfl]
  by_cases hk:k=f
  ·rw [Si hk]
   subst hk
   exact⟨Ha,λg h=>by simpa using h⟩
  ·rw [Sb hk]
   refine⟨?_,λg h=>?_⟩
   ·rw [Qm]
    exact QZ i1
   ·rw [Qm] at h ⊢
    rcases Qh.mp h with e | e
    ·exact Qh.mpr (RH e)
    ·exact QZ (i2 g e)
theorem zgq(f:Str)(v:V):∀fs:List (Str×V),(JD fs).length≤fs.length+1
 |[]=>by simp[putF]
 |(k,x)::r=>by
  have ih:=zgq f v r
  rw[show JD ((k,x)::r)=(if k=f then(k,v)::r else(k,x)::JD r) from rfl]
  by_cases hk:k=f
  ·rw[if_pos hk,Qz,Qz];exact Fj _
  ·rw[if_neg hk,Qz,Qz];exact zar4 ‹_›
def RelO.some_of(r:RelO yL o):∃u,o=some u∧UO u:=by
 cases o with
 |none=>exact(show False from r).elim
 |some u=>exact⟨u,rfl,r⟩
def RelO.none_of(r:RelO none o):o=none:=by
 cases o with
 |none=>rfl
 |some u=>exact(show False from r).elim
def handed_of(r:UO u):PySem.W.handedIn u=true:=by
 cases v with
 |non=>cases(show u=Value.none from r);rfl
 |bl b=>cases(show u=Value.bool b from r);rfl
 |int i=>obtain⟨t,e⟩:=(show ∃t,u=Bw t from r);cases e;rfl
 |str x=>obtain⟨t,e⟩:=(show ∃t,u=Y' t from r);cases e;rfl
 |byt b=>obtain⟨t,e⟩:=(show ∃t,u=Value.bytes b t from r);cases e;rfl
 |flt b=>obtain⟨t,e⟩:=(show ∃t,u=Value.float b t from r);cases e;rfl
 |ref a=>cases(show u=Value.ref a from r);rfl
 |ty n=>cases(show u=Value.type n from r);rfl
section
variable{P:Nk}{w:Nn}{H H':Hp}{h h':Np}{a C dx:Nc}{fs fs':List (Str×V)}
def ins_get(hok:WZ h)(e:H a=some LB):∃mA,ObjM h a dx C mA∧(∀f,KD (mA f))∧VQ (fs.map (·.1))∧fs.length≤1000∧H dx=some EF:=by
 obtain⟨d,z,ne,ob,mA,n,r,q⟩:=(show YJ LB from hok a _ e)
 exact⟨mA,⟨ob,n,ne⟩,r,q,z,d⟩
end
structure Cls(K:Na)(C:Nc):Prop where
 pg:UA Str.empty=true
 hd:J' C=true
 po:X8 C=true
 sa:Z6 "__setattr__" = some (Hs (.builtin "object.__setattr__"))
def Cls.get{K:Na}{C:Nc}(c:Mf C)(f:Str):UA f=true:=c.pg
def zed(K:Na)(C:Nc)(f:Str):Prop:=Z6 f=some none
def zed.taker{K:Na}{C:Nc}{f:Str}(n:NM f):DY f=some none:=by
 unfold PySem.W.takerIn
 rw[show Z6 f=some none from n]
 rfl
structure Meth(K:Na)(C:Nc)(m:Str)(f:Nc):Prop where
 at_:Z6 m=some AB
 fn:XL LL=true
 kp:YO LL=true
section
variable{X:Cx}{a5:Ni}{σ:St}{H:Hp}{s:Nj}{a C dx:Nc}{fs:List (Str×V)}{f:Str}{v:V}{A:Nq}{E:Nd}
def getattr_ok(I:HP)(e:H a=some LB)(c:V5 C)(n:zed X.K C f)(l:fs.lookup f=some v)(h:∀u s',ZA H s'→UO u→Q u s'):ZG A (getAttr RV f b) Q E s:=by
 obtain⟨mA,O,r,_,_,_⟩:=MR e
 obtain⟨u,hu,ru⟩:=RelO.some_of (v:=v) (o:=mA f) (by rw[←l];exact r f)
 exact get_map I.kIn O (c.get f) c.hd n hu (handed_of ru) (h u _ Sg ru)
def zfj(I:HP)(e:H a=some LB)(c:V5 C)(k:K9 g)(l:fs.lookup m=none)(h:Q (Hi g,[RV]) s):ZG A (getMethod RV m pl) Q E s:=by
 obtain⟨mA,O,r,_,_,_⟩:=MR e
 have hn:mA m=none:=RelO.none_of (by rw[←l];exact r m)
 exact get_meth I.kIn O (c.get m) k.at_ k.fn hn h
def setattr_ok(I:HP)(e:H a=some LB)(c:V5 C)(n:zed X.K C f)(hl:fs.length<1000)(ry:YG u)(h:∀s',ZA (ZX a (.ins C dx (putF f y fs))) s'→Q () s'):ZG A (setAttr RV f u) Q E s:=by
 obtain⟨mA,O,r,wi,_,ho⟩:=MR e
 have hz:(fs.map (·.1)).length≤sizeLine:=by rw[Qa,sizeLine_eq];lia
 refine set_map I.kIn O c.sa c.po n.taker c.hd wi hz λh' O' sb=>h _ ?_
 have hd:∃o,h'.get? dx=some o:=let⟨o,_,_,e',_⟩:=O'.ns;⟨o,e'⟩
 refine I.write (x:=a) (e:=dx) (by rw[e];exact True.intro) (SC ho) (λb q hb z=>(OQ hb).trans z) hd ?_
 refine⟨by rw[zaf O.ne];exact ho,?_,O.ne,O'.obj,_,O'.ns,λg=>?_,λg hg=>?_⟩
 ·have:=zgq f y fs;exact Zg ‹_› ‹_›
 ·show RelO ((putF f y fs).lookup g) (if g=f then some u else mA g)
  rw[zgp]
  by_cases q:g=f
  ·rw[if_pos q,if_pos q];exact ry
  ·rw[if_neg q,if_neg q];exact r g
 ·by_cases q:g=f
  ·rw[q];exact(zgr f y fs).1
  ·refine (zgr f y fs).2 g (wi g fun z=>hg ?_)
   show(if g=f then some u else mA g)=none
   rw[if_neg q];exact z
def Inv.made(I:HP):ZA (upd (Oq (.own HU)) HU (.ins C s.heap.objs.size []))
  {s with heap:=(s.heap.push PySem.W.emptyDict).push LM}:=by
 have e1:(s.heap.push PySem.W.emptyDict).get? s.heap.objs.size=some PySem.W.emptyDict:=Za s.heap rfl
 have e2:((s.heap.push PySem.W.emptyDict).push LM).get? HU=some LM:=by
  have:=Za (s.heap.push PySem.W.emptyDict) (o:=WY s.heap.objs.size) rfl
  rwa[Ws]at this
 have e3:(s.heap.push PySem.W.emptyDict).Ns s.heap.objs.size (λ_=>none):=⟨PySem.W.emptyDict,#[],_,e1,rfl,(λe he=>absurd he Ha),λ_=>rfl⟩
 have I1:=I.laid (a:=s.heap.objs.size) (o:=.own HU) (h':=s.heap.push PySem.W.emptyDict) (t':=s.toks) (λb u q=>WN q) Hx ⟨_,e1⟩
 refine I1.laid (a:=s.heap.objs.size+1) (o:=.ins C s.heap.objs.size []) (t':=s.toks) (λb u q=>WN q) (Kp (Ws _ _)) ?_
 have ne:s.heap.objs.size≠s.heap.objs.size+1:=Zh AC
 refine⟨by rw[zaf ne,zab],SJ,ne,e2,λ_=>none,(Heap.Ns1.of_empty e3).at λo q=>WN q,λ_=>True.intro,λy hy=>absurd rfl hy⟩
def attr_of(hb:attributeBase e f env (CH e)=eval e env)(h:ZI (CH e) (λo s₁=>ZI (getAttr o f true) Q E s₁) E s):ZI (CH (zt e pos)) Q E s :=
 Attribute_any_ h (by rw[arm_eval_Attribute,hb])
end
inductive RFld(K:Na)(f:Str)(x:V)(H:Hp)(Q:VK):Prop
 |mk (a C dx:Nc) (fs:List (Str×V)) (v:V) (e:x=.ref a) (h:H a=some (.ins C dx fs)) (c:Cls K C) (n:zed K C f) (l:fs.lookup f=some v) (q:Q v H):RFld K f x H Q
def tFld(K:Na)(ta:TE)(f:Str):TE:=λ σ H Q=>ta σ H λx H1=>RFld K f x H1 Q
inductive RFs(K:Na)(f:Str)(x y:V)(H:Hp)(N:Hp→Prop):Prop
 |mk (a C dx:Nc) (fs:List (Str×V)) (e:x=.ref a) (h:H a=some (.ins C dx fs)) (c:Cls K C) (n:zed K C f) (l:fs.length<1000) (q:N (upd H a (.ins C dx (putF f y fs)))):RFs K f x y H N
def sFld(K:Na)(ta tv:TE)(f:Str):TS:=λD σ H=>tv σ H λy H1=>ta σ H1 λx H2=>RFs K f x y H2 (D.nx σ)
def InOp(X:Cx)(op:Operator)(rd:V→V→Hp→VK→Prop):Prop :=
 ∀(a5:Ni) (s:Nj) (σ:St) (H:Hp) (x y:V) (u v:Value) (Q:VK),ZA H s→W6 u→YG v→rd x y H Q→ZE (inplaceOp op u v) TK X.xe s
section
variable{X:Cx}{o e value:Expr}{f:Str}{pos aK tpos:Pos}{ta tv:TE}
def pe_fld(he:Z9 e ta)(hb:attributeBase e f X.env C1=eval e X.env):Z9 (zt e pos) (tFld X.K ta f):=by
 intro a5 s σ H Q I h
 refine attr_of hb (thn RM λu s1 ⟨x,H1,I1,rx,a,C,dx,fs,v,ex,ea,c,n,l,q⟩=>?_)
 subst ex
 obtain rfl:u=Value.ref a:=rx
 exact getattr_ok I1 ea c n l λu' s2 I2 ru=>⟨v,H1,I2,ru,q⟩
def ps_fld(ha:Z9 o ta)(hv:xt)(hs:swapsWith value (Hs (zt o aK)) pos.line X.env=pure false):KH (.Assign [zt o aK] value pos) (sFld X.K ta tv f):=by
 intro a5 s σ H D I h
 refine plainObj_wpAny_Assign_Attribute (thn zP λu s1 ⟨y,H1,I1,ry,q⟩=>thn (ha a5 s1 σ H1 _ I1 q) λov s2 ⟨x,H2,I2,rx,a,C,dx,fs,ex,ea,c,n,l,q2⟩=>?_) hs
 subst ex
 obtain rfl:ov=Value.ref a:=rx
 exact setattr_ok I2 ea c n l ry λs3 I3=>⟨σ,_,I3,q2⟩
def rSub:V→V→Hp→VK→Prop:=λx y H Q=>∃i j,x=.int i∧y=.int j∧Q (HM (i-j)) H
def in_sub:InOp X .Sub rSub:=by
 rintro a5 s σ H x y u v Q I rx ry ⟨i,j,rfl,rfl,q⟩
 obtain⟨t,rfl⟩:=(show ∃t,u=Bw t from rx)
 obtain⟨t',rfl⟩:=(show ∃t',v=Value.int j t' from ry)
 exact PyProof.Rows.isub_int ⟨HM (i-j),H,Sg,⟨_,rfl⟩,q⟩
def methcall_of(he:Co)(I:HP)(h:te σ H fun x H1=>∃ a C dx fs g,x=.ref a∧H1 a=some LB∧V5 C∧K9 g∧fs.lookup m=none ∧
   ∀s1,ZA H1 s1→ZE (callWith pos (Hi g) [RV] (Cf zu) (backToKw pos (keywordEach [] X.env))) Q X.xe s1)(ht:eval (.Call (Lf e) args [] pos) X.env=(do
   let ov ←eval e X.env
   standAt apos.atName
   let(f,first) ←holding [ov] E2
   callWith pos f first (backTo pos zu) (backToKw pos (keywordEach [] X.env)))) :
  wpAny Hm X.A (HX (.Call (Lf e) args [] pos)) Q X.xe s:=by
 refine Xt (pl:=pl) (thn RM λu s1 ⟨x,H1,I1,rx,a,C,dx,fs,g,ex,ea,c,k,l,q⟩=>?_) ht
 subst ex
 obtain rfl:u=Value.ref a:=rx
 exact DB k l (q s1 I1)
end
section
variable{X:Cx}{a5:Ni}{σ:St}{H:Hp}{s:Nj}{A:Nq}{E:Nd}{Q:Nd}{c:Value}{b:Bool}
end
end L2
namespace L2
open PySem PySem.Spec PyProof.Rows
structure Room(k:Nat)(A:Nq):Prop where
 hd:A.handled=none
 dp:A.depth+3*k+5<recursionLimit
 un:A.units+16*k+200<cLine
def Room.mono(r:U5 A)(h:j≤k):Room j A:=⟨r.hd,by have:=r.dp;lia,by have:=r.un;lia⟩
def Room.deeper{k:Nat}{A:Nq}(r:Room (k+1) A)(env:Env):U5 (A.deeper env) :=
 ⟨r.hd,by have:=r.dp;show A.depth+1+3*k+5<_;lia,by have:=r.un;show A.units+3+16*k+200<_;lia⟩
def make_depth{A:Nq}:(A.under (.builtin "type.__call__" ⟨.ref C::us,kw⟩)).depth=A.depth+1:=by
 first | rfl | simp[Around.under,Code.weight,Code.isCreation,Code.isGuard,Code.isCaller,Code.frames,Code.isFrame,guardIds]
def make_units{A:Nq}:(A.under (.builtin "type.__call__" ⟨.ref C::us,kw⟩)).units=A.units+1:=by
 first | rfl | simp[Around.under,Code.cUnits,Code.frames,Code.isFrame]
def Room.make(r:Room (k+1) A)(C:Nc)(us:Nl)(kw:S1 (Str×Value)):U5 (A.under (.builtin "type.__call__" ⟨.ref C::us,kw⟩)) :=
 ⟨r.hd,by have:=r.dp;rw[make_depth];lia,by have:=r.un;rw[make_units];lia⟩
def Room.depth{k:Nat}{A:Nq}(r:U5 A):A.depth<recursionLimit:=by have:=r.dp;lia
def Room.units(r:U5 A):A.units+64<cLine:=by have:=r.un;lia
def tNil:TA:=λ_ H Q=>Q [] H
def tCons(ta:TE)(tr:TA):TA:=λ σ H Q=>ta σ H λx H1=>tr σ H1 λxs H2=>Q (x::xs) H2
section
variable{X:Cx}{e:Expr}{es:Nt}{te:TE}{t:TA}{pos:Pos}
def zae:VX [] tNil:=λ_ _ _ _ H Q I h=>Ux ⟨[],H,I,.nil,h⟩
def zaa(ha:Co)(hr:VX es t)(hs:starEach (e::es) X.env=(false,C1)::starEach es X.env:=by rfl):VX (e::es) (tCons te t):=by
 intro pos a5 s σ H Q I h
 rw[hs]
 show ZZ _ (spliced ((false,C1)::backTo pos Sr)) _ _ s
 refine Wx (thn RY λu s1 ⟨x,H1,I1,r1,q1⟩=>?_)
 exact thn (hr pos a5 s1 σ H1 _ I1 q1) λus s2 ⟨xs,H2,I2,r2,q2⟩=>⟨x::xs,H2,I2,Oh r1 r2,q2⟩
def tTup(t:TA):TE:=λ σ H Q=>t σ H λxs H1=>xs.length≤sizeLine∧∀p,H1 p=none→Q Tn (QK p ST)
def tLst(t:TA):TE:=λ σ H Q=>t σ H λxs H1=>xs.length≤sizeLine∧∀p,H1 p=none→Q Tn (QK p Tj)
def zbd{x1}(h:VX es t):Z9 (.Tuple es x1 pos) (tTup t):=by
 intro a5 s σ H Q I hq
 refine wpAny_Tuple_spliced (thn P7 λus s1 ⟨xs,H1,I1,r,z,q⟩=>⟨by rw[←r.length];exact z,?_⟩)
 have hf:H1 s1.heap.objs.size=none:=I1.hok.fresh Hx
 refine⟨yy,QK s1.heap.objs.size ST,I1.laid (t':=s1.toks) (λb u e=>WN e) Hx ?_,rfl,q _ hf⟩
 exact⟨z,us,r,⟨_,Ta,rfl,wI⟩⟩
def za8(h:VX es t):Z9 (.List es pos) (tLst t):=by
 intro a5 s σ H Q I hq
 refine wpAny_List_spliced (thn P7 λus s1 ⟨xs,H1,I1,r,z,q⟩=>⟨by rw[←r.length];exact z,?_⟩)
 have hf:H1 s1.heap.objs.size=none:=I1.hok.fresh Hx
 refine⟨yy,QK s1.heap.objs.size Tj,I1.laid (t':=s1.toks) (λb u e=>WN e) Hx ?_,rfl,q _ hf⟩
 exact⟨z,us,0,r,Ta⟩
end
abbrev Sp:=List V→Hp→VK→XK→Prop
abbrev CXT:=List Env→Hp→Shared→XK→Value→Shared→Prop
structure Env0(P:Nk)(w:Nn)(K:Na)(mg:Ng)(base:Np)(A:Nq)(outer:List Env)(s:Nj)(H:Hp):Prop where
 frames:A.frames=some outer
 mod:Mod K mg base
 bs:∀b o,base.get? b=some o→s.heap.get? b=some o∧H b=none
 bsz:base.objs.size≤s.heap.objs.size
 funs:s.heap.FunFrames base outer
 frf:∀b∈frs outer,H b=none
 hok:WZ s.heap
 bare:AllBare s.gens
inductive CE(outer:List Env)(P:Nk)(w:Nn)(H:Hp)(s:Nj)(Q:VK)(u:Value)(s':Nj):Prop
 |mk (v:_) (H':_) (h0:s'.os=s.os) (h1:AllBare s'.gens) (h2:Un (frs outer) [] H H' s.heap s'.heap) (h3:HOk P w H' s'.heap) (h4:RelV v u) (h5:Q v H'):CE outer P w H s Q u s'
def CR(CX:CXT)(outer:List Env)(P:Nk)(w:Nn)(H:Hp)(s:Nj)(Q:VK)(E:XK)(r:Result)(s':Nj):Prop :=
 match r with
 |.ok (.ret u)=>DC s'
 |.ok _=>False
 |.error e=>CX outer H s E e s'
structure FnOk(P:Nk)(w:Nn)(K:Na)(mg:Ng)(base:Np)(CX:CXT)(k:Nat)(f:Nc)(fd:Nw)(ps:Nh)(sp:Sp):Prop where
 len:∀vs H Q E,sp vs H Q E→vs.length=ps.length
 run:∀(A:Nq) (outer:List Env) (s:Nj) (H:Hp) (args:Args) (us:Nl) (vs:List V) (Q:VK) (E:XK),U5 A→J5 H→Bc args Lu→NH us→sp vs H Q E →
  codeAny CM A (.call LL args) (CR CX outer P w H s Q E) s
def FnOk.imp{P:Nk}{w:Nn}{K:Na}{mg:Ng}{base:Np}{CX:CXT}{k:Nat}{f:Nc}{fd:Nw}{ps:Nh}{sp sp':Sp}(F:ZC CX k f fd ps sp)(h:∀vs H Q E,sp' vs H Q E→sp vs H Q E):ZC CX k f fd ps sp' :=
 ⟨λvs H Q E q=>F.len vs H Q E (h _ _ _ _ q),λA outer s H args us vs Q E hr he hb hv hs=>F.run A outer s H args us vs Q E hr he hb hv (h _ _ _ _ hs)⟩
def Env0.make{P:Nk}{w:Nn}{K:Na}{mg:Ng}{base:Np}{A:Nq}{outer:List Env}{s:Nj}{H:Hp}(e:J5 H)(C:Nc)(us:Nl)(kw:S1 (Str×Value)) :
  Env0 P w K mg base (A.under (.builtin "type.__call__" ⟨.ref C::us,kw⟩)) outer s H:=⟨by first | exact e.frames | (simpa[Around.under,Code.envs,Code.isFrame,pushEnvs] using e.frames),e.mod,e.bs,e.bsz,e.funs,e.frf,e.hok,e.bare⟩
section
variable{X:Cx}{a5:Ni}{σ:St}{H:Hp}{s s':Nj}
def Inv.env0(I:HP):Env0 X.prog X.w X.K X.mg X.base X.A X.stack s H :=
 ⟨I.ok.frames,I.ok.mod,I.bs,Dy I.sz,I.stack,I.stkFree,I.hok,I.bare⟩
def Inv.after(I:HP)(h:CE X.stack X.prog X.w H s Q u s'):QF Q u s':=by
 obtain⟨v,H',os,bare,un,hok,r,q⟩:=h
 obtain⟨hh,g,d,t,sA⟩:=s'
 obtain rfl:sA=s.os:=os
 exact⟨v,H',I.call (h':=hh) (g':=g) (d':=d) (t':=t) (ch:=[]) un hok bare (λb z=>absurd z Ha),r,q⟩
end
def tCall(sp:Sp)(dvs:List V)(E:XK)(t:TA):TE:=λ σ H Q=>t σ H λvs H1=>sp (vs++dvs) H1 Q E
inductive RMe(C:Nc)(m:Str)(x:V)(H:Hp)(R:Prop):Prop
 |mk (a dx:Nc) (fs:List (Str×V)) (e:x=.ref a) (h:H a=some (.ins C dx fs)) (l:fs.lookup m=none) (q:R):RMe C m x H R
def tMeth(C:Nc)(m:Str)(sp:Sp)(dvs:List V)(E:XK)(ta:TE)(t:TA):TE:=λ σ H Q=>ta σ H λx H1=>RMe C m x H1 <|
 t σ H1 λvs H2=>sp (x::(vs++dvs)) H2 Q E
def tMake(C:Nc)(sp:Sp)(dvs:List V)(E:XK)(t:TA):TE:=λ σ H Q=>t σ H λvs H1=>∀x dx,H1 x=none→H1 dx=none→dx≠x →
 sp (.ref x::(vs++dvs)) (upd (QK dx Iv) x (.ins C dx [])) (λv H2=>v=.non∧Q P5 H2) E
def Binds(K:Na)(fd:Nw)(ps:Nh)(ds:Nl):Prop :=
 ∀(s:Nj) (us:Nl),K.In s.heap→(us++ds).length=ps.length→Bc ⟨us,[]⟩ (ps.zip (us++ds))
def Binds.all{K:Na}{fd:Nw}{ps:Nh}(h:∀us:List Value,us.length=ps.length→bindArgs fd ⟨us,[]⟩=pure Lu):W7 fd ps []:=λs us _ hl=>by
 rw[Zs]at hl ⊢
 exact .of_eq (h us hl)
def zg7(CX:CXT)(X:Cx)(E:XK):Prop:=∀(a5:Ni) (σ:St) (H:Hp) (s:Nj) (e:Value) (s':Nj),ZA H s→CX X.stack H s E e s'→X.xe e s'
section
variable{X:Cx}{CX:CXT}{k:Nat}{f C:Nc}{fd:Nw}{ps:Nh}{sp:Sp}{dvs:List V}{ds:Nl}{E:XK}{x m:Str}{p pos apos:Pos}{e o:Expr}{es:Nt}{ta:TE}{t:TA}
def run_fn(F:QD sp)(hr:U5 X.A)(hb:U0 ds)(hd:K' ds)(hx:Va E)(I:HP)(r:NH us)(h:sp (vs++dvs) H Q E):ZE (call LL us) TK X.xe s:=by
 have r2:Vals (vs++dvs) (us++ds):=r.append hd
 have hl:(us++ds).length=ps.length:=by rw[←r2.length];exact F.len _ _ _ _ h
 refine wpAny_call (codeAny_mono (F.run X.A X.stack s H ⟨us,[]⟩ (us++ds) (vs++dvs) Q E hr I.env0 (hb s us I.kIn hl) r2 h) λr s' hq=>?_)
 cases r with
 |error e=>exact hx a5 σ H s e s' I hq
 |ok fl =>
  cases fl with
  |ret u=>exact I.after hq
  |next=>exact False.elim hq
  |brk=>exact False.elim hq
  |cont=>exact False.elim hq
def zc0(F:QD sp)(hr:U5 X.A)(hg:VU x)(hm:X.mg x=some LL)(hk:PySem.W.keepIn X.K LL=true)(hb:U0 ds)(hd:K' ds)(hx:Va E)(ha:VX (e::es) t)(gB:RN=false:=by decide)(he:starEach (e::es) X.env=(false,C1)::starEach es X.env:=by rfl)(ba:(Cf Sr).any (·.1)=false:=by rfl) :
  PE X (.Call Pk (e::es) [] pos) (tCall sp dvs E t):=by
 intro a5 s σ H Q I h
 refine wpAny_Call_Name_kw (VW ?_ gB)
 refine PySem.W.callWith_K (h₀:=X.base) I.ok.mod.kin hk (thn SW λus s1 ⟨vs,H1,I1,r,q⟩=>⟨I1.kIn,?_⟩) he ba
 exact run_fn F hr hb hd hx I1 r q
def zgi(he:Z9 o ta)(c:V5 C)(hm:K9 f)(F:QD sp)(hr:U5 X.A)(hb:U0 ds)(hd:K' ds)(hx:Va E)(ha:VX (e::es) t)(ar:starEach (e::es) X.env=(false,C1)::starEach es X.env:=by rfl)(ba:(Cf Sr).any (·.1)=false:=by rfl)(ht:eval (.Call (Lf o) (e::es) [] pos) X.env=(do
   let ov ←eval o X.env
   standAt apos.atName
   let(f,first) ←holding [ov] E2
   callWith pos f first (backTo pos (starEach (e::es) X.env)) (backToKw pos (keywordEach [] X.env))):=by rfl) :
  PE X (.Call (Lf o) (e::es) [] pos) (Dr t):=by
 intro a5 s σ H Q I h
 refine Xt (pl:=pl) (thn RM λu s1 ⟨x,H1,I1,rx,a,dx,fs,ex,ea,l,q⟩=>?_) ht
 subst ex
 obtain rfl:u=Value.ref a:=rx
 refine DB hm l ?_
 refine PySem.W.callWith_K (first:=[RV]) (h₀:=X.base) I.ok.mod.kin hm.kp (thn (ha pos a5 s1 σ H1 _ I1 q) λus s2 ⟨vs,H2,I2,r,q2⟩=>⟨I2.kIn,?_⟩) ar ba
 exact run_fn (us:=.ref a::us) (vs:=.ref a::vs) F hr hb hd hx I2 (Oh rfl r) q2
def pe_meth0(he:Z9 o ta)(c:V5 C)(hm:K9 f)(F:QD sp)(hr:U5 X.A)(hb:U0 ds)(hd:K' ds)(hx:Va E)(ht:eval (.Call (Lf o) [] [] pos) X.env=(do
   let ov ←eval o X.env
   standAt apos.atName
   let(f,first) ←holding [ov] E2
   callWith pos f first (backTo pos (starEach [] X.env)) (backToKw pos (keywordEach [] X.env))):=by rfl) :
  PE X (.Call (Lf o) [] [] pos) (Dr tNil):=by
 intro a5 s σ H Q I h
 refine Xt (pl:=pl) (thn RM λu s1 ⟨x,H1,I1,rx,a,dx,fs,ex,ea,l,q⟩=>?_) ht
 subst ex
 obtain rfl:u=Value.ref a:=rx
 refine DB hm l ?_
 exact PySem.W.callWith_K0 (first:=[RV]) I1.kIn hm.kp (run_fn (us:=[RV]) (vs:=[RV]) F hr hb hd hx I1 (Sa rfl) q)
structure Mk(K:Na)(C f:Nc):Prop where
 makes:K8 C=true
 init:Z6 "__init__" = some AB
 fn:XL LL=true
 kp:YO P6=true
def run_make(M:Mk X.K C f)(F:QD sp)(hr:Room (k+1) X.A)(hb:U0 ds)(hd:K' ds)(hx:Va E)(I:HP)(r:NH us)(h:∀x dx,H x=none→H dx=none→dx≠x→sp (.ref x::(vs++dvs)) (upd (ZX dx Iv) x (.ins C dx [])) (λv H2=>v=.non∧Q P5 H2) E) :
  wpAny Hm X.A (call P6 us) TK X.xe s:=by
 have hq:=h HU s.heap.objs.size (Iw (Uq _)) SU (Zh AC)
 have I2:=Inv.made (C:=C) I
 have r2:Vals (V.ref HU::(vs++dvs)) (Value.ref HU::(us++ds)):=.cons rfl (r.append hd)
 have hl:(Value.ref HU::us++ds).length=ps.length:=by
  have e:=r2.length
  rw[F.len _ _ _ _ hq]at e
  exact e.symm
 refine wpAny_call (make_map (f:=f) I.kIn M.makes M.init (beq_iff_eq.mp M.fn) (codeAny_mono (F.run _ X.stack _ _ ⟨Value.ref HU::us,[]⟩ (Value.ref HU::(us++ds)) _ _ E (hr.make C us [])
  (I2.env0.make C us []) (hb _ (Value.ref HU::us) I2.kIn hl) r2 hq) λr s' cw=>?_))
 cases r with
 |error e=>exact hx a5 σ _ _ e s' I2 cw
 | ok fl =>
  cases fl with
  |ret u =>
   obtain⟨v,H',I3,rv,ev,q3⟩:=I2.after cw
   subst ev
   exact⟨rv,⟨Le HU,H',I3,rfl,q3⟩⟩
  |next=>exact False.elim cw
  |brk=>exact False.elim cw
  |cont=>exact False.elim cw
def pe_make(M:Mk X.K C f)(F:QD sp)(hr:Room (k+1) X.A)(hg:VU x)(hm:X.mg x=some P6)(hb:U0 ds)(hd:K' ds)(hx:Va E)(ha:VX (e::es) t)(gB:RN=false:=by decide)(he:starEach (e::es) X.env=(false,C1)::starEach es X.env:=by rfl)(ba:(Cf Sr).any (·.1)=false:=by rfl) :
  PE X (.Call Pk (e::es) [] pos) (tMake C sp dvs E t):=by
 intro a5 s σ H Q I h
 refine wpAny_Call_Name_kw (VW ?_ gB)
 refine PySem.W.callWith_K (h₀:=X.base) I.ok.mod.kin M.kp (thn SW λus s1 ⟨vs,H1,I1,r,q⟩=>⟨I1.kIn,?_⟩) he ba
 exact run_make M F hr hb hd hx I1 r q
end
section
variable{X:Cx}{CX:CXT}{k:Nat}{f C:Nc}{fd:Nw}{ps ks:Nh}{sp:Sp}{E:XK}{x m:Str}{p pos apos kpos:Pos}{e o:Expr}{es:Nt}{kws:List Keyword}{te ta:TE}{t tk:TA}{nm:Option Str}
variable{g:List Value→List Value→List Value}{gV:List V→List V→List V}
end
structure zaj(N P:Nh)(sc:Scope):Prop where
 kind:sc.kind=.function
 co:sc.isCoroutine=false
 gen:sc.isGenerator=false
 nd:N.Nodup
 pre:N.take P.length=P
 par:∀x∈P,sc.names.lookup x=some .local∨sc.names.lookup x=some .cell
 nofree:∀y∈sc.names,y.2≠.free
theorem bindL_out{kindOf:Str→Option NameKind}{x:Str}:∀{binds:List (Str×Value)} {m:Ng},(∀v,(x,v)∉binds)→bindL kindOf binds m x=m x
 |[],_,_=>rfl
 | (n,v)::r,m,h=>by
  unfold bindL
  rw[bindL_out λw hw=>h w (QZ hw)]
  split
  ·have:x≠n:=by rintro rfl;exact h v Qb
   simp[this]
  ·rfl
theorem bindC_out{kindOf:Str→Option NameKind}{x:Str}:∀{binds:List (Str×Value)} {m:Ng},(∀v,(x,v)∉binds)→bindC kindOf binds m x=m x
 |[],_,_=>rfl
 | (n,v)::r,m,h=>by
  unfold bindC
  rw[bindC_out λw hw=>h w (QZ hw)]
  split
  ·rfl
  ·have:x≠n:=by rintro rfl;exact h v Qb
   simp[this]
theorem bindL_get{kindOf:Str→Option NameKind}{x:Str}{v:Value}:∀{P:Nh} {vs:Nl} {i:Nat} {m:Ng},P.Nodup→P[i]?=some x→vs[i]?=some v→kindOf x=some .local →
  bindL kindOf (P.zip vs) m x=some v
 |[],_,_,_,_,h,_,_=>by simp at h
 |_::_,[],_,_,_,_,h,_=>by simp at h
 |p::P,w::vs,0,m,nd,h1,h2,hk=>by
  simp at h1 h2;subst h1;subst h2
  show bindL kindOf ((p,w)::P.zip vs) m p=_
  unfold bindL
  rw[bindL_out λv hv=>(Qt.mp nd).1 (AD hv).1,if_pos hk]
  simp
 |p::P,w::vs,i+1,m,nd,h1,h2,hk=>by
  show bindL kindOf ((p,w)::P.zip vs) m x=_
  unfold bindL
  exact bindL_get (i:=i) (Qt.mp nd).2 (He h1) (He h2) hk
theorem bindC_get{kindOf:Str→Option NameKind}{x:Str}{v:Value}:∀{P:Nh} {vs:Nl} {i:Nat} {m:Ng},P.Nodup→P[i]?=some x→vs[i]?=some v→kindOf x≠some .local →
  bindC kindOf (P.zip vs) m x=some v
 |[],_,_,_,_,h,_,_=>by simp at h
 |_::_,[],_,_,_,_,h,_=>by simp at h
 |p::P,w::vs,0,m,nd,h1,h2,hk=>by
  simp at h1 h2;subst h1;subst h2
  show bindC kindOf ((p,w)::P.zip vs) m p=_
  unfold bindC
  rw[bindC_out λv hv=>(Qt.mp nd).1 (AD hv).1,if_neg hk]
  simp
 |p::P,w::vs,i+1,m,nd,h1,h2,hk=>by
  show bindC kindOf ((p,w)::P.zip vs) m x=_
  unfold bindC
  exact bindC_get (i:=i) (Qt.mp nd).2 (He h1) (He h2) hk
def start(N:Nh)(vs:List V):St:=vs.map some++List.replicate (N.length-vs.length) none
def cxOf(CX:CXT)(P:Nk)(w:Nn)(K:Na)(mg:Ng)(base:Np)(N:Nh)(qual:Str)(scope:Scope)(f:Nc)(cd:Value)(A:Nq)(outer:List Env)(s:Nj)(H:Hp)(E:XK):Cx where
 prog:=P
 w:=w
 K:=K
 mg:=mg
 base:=base
 A:=A.deeper (Sl cd)
 N:=N
 s₀:=s
 H₀:=H
 env:=envOfC qual scope s.heap.objs.size f cd
 outer:=outer
 stack:=envOfC qual scope s.heap.objs.size f cd::outer
 ex:=[]
 calm:=true
 fn:=λ_=>true
 pn:=[]
 xe:=λe s'=>K6 (A.deeper (Sl cd)) (leaving (Sl cd) e) (λ_ mJ=>CX outer H s E e mJ) (λe' mJ=>CX outer H s E e' mJ) s'
def cell_has{sc:Scope}{n:Nat}{x:Str}(h:sc.names.lookup x=some .cell):∃c,(cellsFrom n sc.names []).lookup x=some c:=by
 have q:=PySem.W.cellsFrom_some sc.names n [] Pi
 exact Option.isSome_iff_exists.mp q
def inv_start{CX:CXT}{P:Nk}{w:Nn}{K:Na}{mg:Ng}{base:Np}{N ps:Nh}{qual:Str}{scope:Scope}{f:Nc}{cd:Value}{A:Nq}{outer:List Env}{s s1:Nj}{H:Hp}{E:XK}{us:Nl}{vs:List V}(S:Mg scope)(hd:A.handled=none)(e0:J5 H)(hl:vs.length=ps.length)(r:NH us)(x:InCallC s s.heap.objs.size (bindL (Sl cd).kindOf Lu λ_=>none) (cellsFrom HU scope.names []) (bindC (Sl cd).kindOf Lu λ_=>none) s1) :
  Inv (zQ cd) [] OR H s1:=by
 have ba:ps.length≤N.length:=by have:=congrArg List.length S.pre;rw[Zt]at this;lia
 obtain⟨h1,tk,rfl,hk⟩:=x.done
 have noA:∀b:Addr,b∉(zQ cd).ex:=λb z=>absurd (show b∈([]:List Addr) from z) Ha
 refine⟨⟨e0.mod,S.kind,rfl,rfl,Hx,λy z c h1 h2=>?_,λy hy=>?_,λy c _ h=>?_,λ_=>hd,Around.frames_deeper e0.frames,.inr ⟨rfl,rfl⟩,λb z=>absurd z (noA b),e0.bs,e0.bsz,λb _ _=>noA b,λb z=>absurd z (noA b),e0.funs,e0.frf⟩,
  rfl,e0.bare,Un.kept hk,⟨_,x.toInCall.ns,λi y v h1 h2 h3=>?_⟩,λy c h=>⟨_,x.cell y c h⟩,e0.hok.fresh Hx,λy c h=>?_,λp hp=>absurd (show p∈([]:List (Addr×Obj)) from hp) Ha,e0.hok.kept hk,?_⟩
 ·exact name_of_addr x.apart (Wp h1) (Wp h2)
 ·have hy:scope.names.lookup y=some .cell∨scope.names.lookup y=some .free:=hy
  rcases hy with hy | hy
  ·exact cell_has hy
  ·exact absurd rfl (S.nofree _ (Wp hy))
 ·exact Wo zR
 ·have hi:i < vs.length:=by
   unfold start at h2
   by_cases hi:i<vs.length
   ·exact hi
   ·rw [Kr xE] at h2
    rw[List.getElem?_replicate]at h2
    split at h2<;>cases h2
  have ha:vs[i]?=some v:=by
   unfold start at h2
   rw[List.getElem?_append_left xE,Qo]at h2
   cases e:vs[i]? with
   |none=>rw[e]at h2;cases h2
   |some a=>rw[e]at h2;cases h2;rfl
  obtain⟨u,hu,rv⟩:=r.get ha
  have hp:ps[i]?=some y:=by
   rw[←S.pre,List.getElem?_take_of_lt (by exact zar7 ‹_› ‹_›)];exact h1
  have ndP:ps.Nodup:=by rw[←S.pre];exact S.nd.sublist (Ur _ _)
  refine⟨u,rv,?_⟩
  rcases S.par y (Yd hp) with k | k
  ·exact .inl ⟨k,bindL_get ndP hp hu k⟩
  ·obtain ⟨c,e⟩:=cell_has (n:=s.heap.objs.size+1) k
   refine .inr ⟨RH k,c,e,?_⟩
   have q:=x.cell y c e
   rw[bindC_get ndP hp hu (by show scope.names.lookup y≠_;rw[k];decide)]at q
   exact q
 ·exact e0.hok.fresh (Wo zR)
 ·unfold start
  show _=N.length
  rw[Qw,Qa,Kc]
  lia
def fn_of{CX:CXT}{P:Nk}{w:Nn}{K:Na}{mg:Ng}{base:Np}{k:Nat}{f:Nc}{name qual:Str}{params:Arguments}{body:List Stmt}{scope:Scope}{dV kV doc pm cdv ct oc:Value}{an od:Option Addr}{osl:Array TL}{N ps:Nh}{sp:Sp}(lk:K.lookup f=some ⟨oc,od,.func (JL ct),osl⟩)(aJ:BK cdv qual=true)(S:Mg scope)(len:∀vs H Q E,sp vs H Q E→vs.length=ps.length)(cQ:∀ (A:Nq) (outer:List Env) (s:Nj) (H:Hp) (vs:List V) (Q:VK) (E:XK),U5 (A.deeper (Sl cdv))→sp vs H Q E →
   ∃t,PSs (zQ cdv) body t∧t {nx:=λ_ H'=>Q .non H',rt:=Q} OR H) :
  FnOk P w K mg base CX (k+1) f (JL ct) ps sp:=by
 refine⟨len,λA outer s H args us vs Q E hr e0 hb r bX=>?_⟩
 have hl:=len _ _ _ _ bX
 have KX:K.In s.heap:=e0.mod.kin.keeps λb o e=>(e0.bs b o e).1
 have lim:s.heap.NoLimit:=e0.mod.nolimit.keeps λb o e=>(e0.bs b o e).1
 have dD:∀y∈ps.zip us,scope.names.lookup y.1=some .local∨(scope.names.lookup y.1=some .cell∧((cellsFrom HU scope.names []).lookup y.1).isSome=true):=λ⟨n,v⟩ hy=>by
  rcases S.par n (AD hy).1 with q | q
  ·exact .inl q
  ·exact .inr ⟨q,PySem.W.cellsFrom_some _ _ _ (RH q)⟩
 refine codeAny_call_function hr.depth (KX _ _ lk) rfl S.co S.gen rfl (PySem.W.codeRec_of KX aJ) (hb _ _ _ _ ?_)
 refine wpAny_newFunctionEnv_cells S.kind dD λenv he s1 x=>?_
 subst he
 refine⟨lim.keeps x.toInCall.keep,codeAny_func ?_⟩
 obtain⟨t,ht,hq⟩:=cQ A outer s H vs Q E (hr.deeper _) bX
 have I:Mh [] OR H s1:=inv_start S hr.hd e0 hl r x
 refine wpAny_mono (ht [] s1 OR H _ I hq) (λfl s' hs=>?_) λe s' hs=>hs
 have fin:∀{σ':St} {H':Hp} {v:V} {u:Value},Mh [] σ' H' s'→UO u→Q v H'→DC s' :=
  λ{σ' H' v u} J rv q=>⟨v,H',J.os,J.bare,J.base,J.hok,rv,q⟩
 cases fl with
 |ret u =>
  obtain⟨v,σ',H',J,rv,q⟩:=hs
  exact fin J rv q
 |next =>
  obtain⟨σ',H',J,q⟩:=hs
  exact fin (v:=V.non) (u:=Value.none) J rfl q
 |brk =>
  obtain⟨_,_,_,q⟩:=hs
  exact False.elim q
 |cont =>
  obtain⟨_,_,_,q⟩:=hs
  exact False.elim q
end L2
namespace L2
open PySem PySem.Spec PyProof.Rows
section
variable{X:Cx}{x:Str}{p pos:Pos}{e:Expr}{es:Nt}{t:TA}{id T:String}{r:List V→Hp→VK→Prop}
def tCB(r:List V→Hp→VK→Prop)(t:TA):TE:=λ σ H Q=>t σ H λvs H1=>r vs H1 Q
def zal(hc:Y2 LR r)(hg:VU x)(hm:X.mg x=none)(hv:bootBuiltins x=some LR)(ha:VX (e::es) t)(hn:x ≠ "__name__" := by decide)(gB:RN=false:=by decide)(he:starEach (e::es) X.env=(false,C1)::starEach es X.env:=by rfl)(ba:(Cf Sr).any (·.1)=false:=by rfl):Z9 (.Call Pk (e::es) [] pos) (tCB r t):=by
 intro a5 s σ H Q I h
 refine wpAny_Call_Name_kw (Bz hv ?_ hn gB)
 exact PyProof.Rows.callWith_builtin1 (thn SW λus s1 ⟨vs,H1,I1,r1,q1⟩=>hc a5 s1 σ H1 vs us Q I1 r1 q1) he ba
def zbj(hc:Y2 Os r)(hg:VU x)(hm:X.mg x=none)(hv:bootBuiltins x=some Os)(ha:VX (e::es) t)(hn:x ≠ "__name__" := by decide)(gB:RN=false:=by decide)(he:starEach (e::es) X.env=(false,C1)::starEach es X.env:=by rfl)(ba:(Cf Sr).any (·.1)=false:=by rfl):Z9 (.Call Pk (e::es) [] pos) (tCB r t):=by
 intro a5 s σ H Q I h
 refine wpAny_Call_Name_kw (Bz hv ?_ hn gB)
 exact Wm (thn SW λus s1 ⟨vs,H1,I1,r1,q1⟩=>hc a5 s1 σ H1 vs us Q I1 r1 q1) he ba
end
end L2
namespace L2
open PySem PySem.Spec PyProof.Rows
section
variable{κ:Type}[DecidableEq κ]
def valV(kvs:S1 (κ×V))(k:κ):Option V:=(kvs.find? λkv=>decide (kv.1=k)).map (·.2)
def putK(kvs:S1 (κ×V))(k:κ)(v:V):List (κ×V) :=
 if(kvs.any λkv=>decide (kv.1=k))=true then kvs.map (λkv=>if kv.1=k then(kv.1,v) else kv) else kvs++[(k,v)]
def zgx(kvs:S1 (κ×V))(k:κ):List (κ×V):=kvs.filter λkv=>decide (kv.1≠k)
def zcc{p:κ×V}{r:List (κ×V)}{k:κ}(e:p.1=k):valV (p::r) k=some p.2:=by simp[valV,Jq,e]
def zbl{p:κ×V}{r:List (κ×V)}{k:κ}(e:¬p.1=k):valV (p::r) k=valV r k:=by simp[valV,Jq,e]
theorem zh2(k:κ):∀kvs:List (κ×V),(kvs.any λkv=>decide (kv.1=k))=(UU k).isSome
 |[]=>rfl
 |p::r=>by
  rw[Kg]
  by_cases e:p.1=k
  ·simp only[zcc e,decide_eq_true e,Bool.true_or,Option.isSome_some]
  ·rw[zbl e,decide_eq_false e,Bool.false_or];exact zh2 k r
def zeo(kvs:S1 (κ×V))(k:κ)(v:V):(UB k v).length≤kvs.length+1:=by
 unfold putK
 split
 ·rw[Qa];exact Fj _
 ·rw[Qw,Qz,Um];exact Qe _
def zd5{kvs:List (κ×V)}{k:κ}(v:V)(h:UU k=none):UB k v=kvs++[(k,v)]:=by
 unfold putK
 rw[zh2,h]
 exact if_neg Hf
def RelO.isSome_eq(r:RelO o u):o.isSome=u.isSome:=by
 cases o with
 |none=>cases u with
  |none=>rfl
  |some _=>exact(show False from r).elim
 |some _=>cases u with
  |none=>exact(show False from r).elim
  |some _=>rfl
def RelO.getD(r:RelO o u)(rd:RelV d d'):RelV (o.getD d) (u.getD d'):=by
 cases o with
 |none=>cases u with
  |none=>exact rd
  |some _=>exact(show False from r).elim
 |some _=>cases u with
  |none=>exact(show False from r).elim
  |some _=>exact r
def KV.val{kvs:List (κ×V)}{vs:List (κ×Value)}(r:UP vs)(k:κ):RelO (UU k) (valueAt vs k):=by
 unfold KV at r
 induction r with
 |nil=>exact True.intro
 | @cons p q ps qs h t ih =>
  obtain⟨h1,h2⟩:=h
  by_cases e:p.1=k
  ·have e':q.1=k:=h1.symm.trans e
   have b:valueAt (q::qs) k=some q.2:=by simp[valueAt,Jq,e']
   rw[zcc e,b];exact h2
  ·have e':¬ q.1=k:=fun z=>e Eh
   have b:valueAt (q::qs) k=valueAt qs k:=by simp[valueAt,Jq,e']
   rw[zbl e,b];exact ih
def KV.any(r:UP vs)(k:κ):(kvs.any λkv=>decide (kv.1=k))=vs.any λkv=>decide (kv.1=k):=by
 unfold KV at r
 induction r with
 |nil=>rfl
 |cons h t ih=>rw[Kg,Kg,ih,h.1]
def KV.repl(r:UP vs)(k:κ)(ry:YG u) :
  KV (kvs.map λkv=>if kv.1=k then(kv.1,y) else kv) (vs.map λkv=>if kv.1=k then(kv.1,u) else kv):=by
 unfold KV at r ⊢
 induction r with
 |nil=>exact .nil
 |@cons p q ps qs h t ih =>
  rw[Qm,Qm]
  refine .cons ?_ ih
  obtain⟨h1,h2⟩:=h
  by_cases e:p.1=k
  ·rw[if_pos e,if_pos xF];exact⟨h1,ry⟩
  ·rw[if_neg e,if_neg (λz=>e Eh)];exact⟨h1,h2⟩
def KV.put(r:UP vs)(k:κ)(ry:YG u):KV (UB k y) (stored vs k u):=by
 unfold putK stored
 rw[r.any k]
 by_cases e:(vs.any λkv=>decide (kv.1=k))=true
 ·rw[if_pos e,if_pos e];exact r.repl k ry
 ·rw[if_neg e,if_neg e];exact Paired.snoc r ⟨rfl,ry⟩
def KV.drop{kvs:List (κ×V)}{vs:List (κ×Value)}(r:UP vs)(k:κ):KV yO (without vs k):=by
 unfold KV at r ⊢
 unfold zgx without
 induction r with
 |nil=>exact .nil
 | @cons p q ps qs h t ih =>
  obtain⟨h1,h2⟩:=h
  rw[List.filter_cons,List.filter_cons]
  by_cases e:p.1=k
  ·have a:¬ decide (p.1≠k)=true:=by simp [e]
   have b:¬decide (q.1≠k)=true:=by simp[h1.symm.trans e]
   rw[if_neg a,if_neg b];exact ih
  ·have e':¬ q.1=k:=fun z=>e Eh
   have a:decide (p.1≠k)=true:=by simp[e]
   have b:decide (q.1≠k)=true:=by simp[e']
   rw[if_pos a,if_pos b];exact .cons ⟨h1,h2⟩ ih
def KV.length{kvs:List (κ×V)}{vs:List (κ×Value)}(r:UP vs):kvs.length=vs.length:=Zy r
def dropK_le(kvs:S1 (κ×V))(k:κ):(V7 k).length≤kvs.length:=Wi _ _
end
def zhb(r:VI u):(Bi w).is k u=true:=by
 cases k with
 |inl i=>obtain⟨t,e⟩:=(show ∃t,u=Bw t from r);subst e;exact mixKind_int P w i t
 |inr x=>obtain⟨t,e⟩:=(show ∃t,u=Y' t from r);subst e;exact zgo P w x t
theorem items_are:∀{ks:List Key} {us:Nl},Vals zT us→ItemsAre LY ks us
 |[],_,r=>by rw[Xr]at r;cases r;exact .nil
 |k::ks,_,r=>by
  rw[Qm]at r
  cases r with
  |cons h t=>exact .cons (zhb h) (items_are t)
abbrev KT(H:Hp):List (List Key×V)→List (List Key×Addr×Value)→Prop:=Paired λp q=>p.1=q.1∧H q.2.1=some yC∧Dx q.2.2
def KT.val{H:Hp}{kvs:List (List Key×V)}{xs:List (List Key×Addr×Value)}(r:Vb xs)(k:List Key):RelO (UU k) ((atKey xs k).map (·.2)):=by
 induction r with
 |nil=>exact True.intro
 | @cons p q ps qs h t ih =>
  obtain⟨h1,_,h2⟩:=h
  by_cases e:p.1=k
  ·have e':q.1=k:=h1.symm.trans e
   have b:atKey (q::qs) k=some q.2:=by simp[atKey,Jq,e']
   rw[zcc e,b];exact h2
  ·have e':¬ q.1=k:=fun z=>e Eh
   have b:atKey (q::qs) k=atKey qs k:=by simp[atKey,Jq,e']
   rw[zbl e,b];exact ih
def KT.repl(r:Vb xs)(k:List Key)(ry:YG u) :
  KT H (kvs.map λkv=>if kv.1=k then(kv.1,y) else kv) (Iu (putAt k u)):=by
 induction r with
 |nil=>exact .nil
 |@cons p q ps qs h t ih =>
  rw[Qm,Qm]
  refine .cons ?_ ih
  obtain⟨h1,h2,h3⟩:=h
  unfold putAt
  by_cases e:p.1=k
  ·rw[if_pos e,if_pos xF];exact⟨h1,h2,ry⟩
  ·rw[if_neg e,if_neg (λz=>e Eh)];exact⟨h1,h2,h3⟩
def KT.put(r:Vb xs)(k:List Key)(hb:H b=some LC)(ry:YG u) :
  KT H (UB k y) (storedH xs k b u):=by
 have e:(kvs.any λkv=>decide (kv.1=k))=(atKey xs k).isSome:=by
  rw[zh2,(r.val k).isSome_eq,Option.isSome_map]
 unfold putK storedH
 rw[e]
 by_cases q:(atKey xs k).isSome=true
 ·rw[if_pos q,if_pos q];exact r.repl k ry
 ·rw[if_neg q,if_neg q];exact Paired.snoc r ⟨rfl,hb,ry⟩
def KT.keeps(r:Vb xs)(ht:∀b ys,H b=some Lv→H' b=some Lv):KT H' kvs xs :=
 Paired.mapP r λ_ _ z=>⟨z.1,ht _ _ z.2.1,z.2.2⟩
section
variable{P:Nk}{w:Nn}{H:Hp}{h:Np}{a:Nc}
def rd_of(ok:WZ h)(e:KF u):YJ u:=e.ok ok
def dk_rd(ok:WZ h)(e:KF RU):kvs.length≤sizeLine∧(a==sysModules)=false∧∃vs,UP vs∧h.DictOf LY a vs :=
 show YJ RU from rd_of ok e
def dk_of(ok:WZ h)(e:H a=some RU):kvs.length≤sizeLine∧(a==sysModules)=false∧∃vs,UP vs∧h.DictOf LY a vs:=dk_rd ok (RH e)
def zgs(ok:WZ h)(e:H a=some (.tup zT)):(CY LY).is h ks a:=by
 obtain⟨_,a7,r,o,h1,h2,n,h3⟩:=(show YJ (.tup zT) from ok a _ e)
 exact⟨o,a7.toArray,n,h1,h2,h3,by simpa using items_are r⟩
def dt_rd(ok:WZ h)(e:KF TX):kvs.length≤sizeLine∧(a == sysModules)=false ∧
  ∃xs,Vb xs∧h.DictOfH (CY LY) a xs:=by
 obtain⟨z,y,xs,r,o,es,ep,h1,h2,h3,h4,h5⟩:=(show YJ TX from rd_of ok e)
 refine⟨z,y,xs,r,o,es,ep,h1,h2,h3,h4,λx hx=>?_,h5⟩
 have all:∀{l:List (List Key×V)} {m:List (List Key×Addr×Value)},KT H l m→∀x∈m,(CY LY).is h x.1 x.2.1:=by
  intro l m q
  induction q with
  |nil=>intro x hx;exact nomatch hx
  | @cons p q ps qs hq t ih =>
   intro x hx
   rcases Qh.mp hx with e | hx
   ·subst e
    exact zgs ok (by rw[←hq.1];exact hq.2.1)
   ·exact ih x hx
 exact all r x hx
def dt_of(ok:WZ h)(e:H a=some TX):kvs.length≤sizeLine∧(a==sysModules)=false ∧
  ∃xs,Vb xs∧h.DictOfH (CY LY) a xs:=dt_rd ok (RH e)
end
def DGet(H:Hp)(a:Nc)(y:V)(r:Option V):Prop :=
 (∃kvs k,KF RU∧y=kV k∧r=UU k)∨∃kvs k b,KF TX∧y=.ref b∧H b=some LC∧r=UU k
def DPut(H:Hp)(a:Nc)(y v:V)(H':Hp):Prop :=
 (∃kvs k,H a=some RU∧y=kV k∧kvs.length<sizeLine∧H'=ZX a (ID zS)) ∨
 ∃kvs k b,H a=some TX∧y=.ref b∧H b=some LC∧kvs.length<sizeLine∧H'=ZX a (.dT zS)
def DGet.k{H:Hp}{a:Nc}{kvs:List (Key×V)}{k:Key}(e:H a=some RU):BF a (kV k) (UU k):=.inl ⟨kvs,k,RH e,rfl,rfl⟩
def DGet.t{H:Hp}{a b:Nc}{kvs:List (List Key×V)}{k:List Key}(e:H a=some TX)(eb:H b=some LC):BF a Ey (UU k):=.inr ⟨kvs,k,b,RH e,rfl,eb,rfl⟩
def DPut.k{H:Hp}{a:Nc}{kvs:List (Key×V)}{k:Key}{v:V}(e:H a=some RU)(hl:kvs.length<sizeLine):DPut H a (kV k) v (TC a zS):=.inl ⟨kvs,k,e,rfl,hl,rfl⟩
def DPut.t{H:Hp}{a b:Nc}{kvs:List (List Key×V)}{k:List Key}{v:V}(e:H a=some TX)(eb:H b=some LC)(hl:kvs.length<sizeLine) :
  DPut H a Ey v (ZX a (.dT zS)):=.inr ⟨kvs,k,b,e,rfl,eb,hl,rfl⟩
section
variable{X:Cx}{a5:Ni}{σ:St}{H:Hp}{s:Nj}{a:Nc}{y v:V}{u r:Value}{o:Option V}{A:Nq}{E:Nd}
def Inv.big(I:HP):sysModules<s.heap.objs.size:=by
 have h:mainGlobals<s.heap.objs.size:=(I.mod.glob.keeps I.bk).lt
 exact Wl Hf h
def d_getItem(hu:A.units+1<cLine)(I:HP)(g:BF a y yL)(ry:YG u)(h:∀w' s',ZA H s'→UO w'→Q w' s') :
  wpAny Hm A (xG RV u) Q E s:=by
 rcases g with⟨kvs,k,e,ey,l⟩ | ⟨kvs,k,b,e,ey,eb,l⟩
 ·subst ey
  obtain⟨z,hd,vs,rel,dd⟩:=JX e
  obtain⟨w',hw,bH⟩:=RelO.some_of (v:=v) (o:=valueAt vs k) (by rw[l];exact rel.val k)
  exact wpAny_getItem_of C2 dd.mapOf hw (h w' _ Sg bH)
 ·subst ey
  cases(show u=Value.ref b from ry)
  obtain⟨z,hd,xs,rel,dd⟩:=JY e
  obtain⟨w',hw,bH⟩:=RelO.some_of (v:=v) (o:=(atKey xs k).map (·.2)) (by rw[l];exact rel.val k)
  obtain⟨p,hp,cX⟩:=Option.map_eq_some_iff.mp hw
  refine wpAny_getItem_heap S2 Al dd hp ?_
  rw[cX]
  exact h w' _ Sg bH
def d_in(hu:A.units+1<cLine)(I:HP)(g:Ag)(ry:YG u)(h:∀s',ZA H s'→Q (.bool o.isSome) s') :
  wpAny Hm A (compareOp .In u RV) Q E s:=by
 rcases g with⟨kvs,k,e,ey,l⟩ | ⟨kvs,k,b,e,ey,eb,l⟩
 ·subst ey
  obtain⟨z,hd,vs,rel,dd⟩:=JX e
  refine wpAny_in_of C2 hd dd.mapOf ?_
  rw[←(rel.val k).isSome_eq,←l]
  exact h _ Sg
 ·subst ey
  cases(show u=Value.ref b from ry)
  obtain⟨z,hd,xs,rel,dd⟩:=JY e
  refine wpAny_in_heap S2 Al hd dd ?_
  have q:=(rel.val k).isSome_eq
  rw[Option.isSome_map]at q
  rw[←q,←l]
  exact h _ Sg
def d_notIn(hu:A.units+1<cLine)(I:HP)(g:Ag)(ry:YG u)(h:∀s',ZA H s'→Q (Ow (!o.isSome)) s') :
  wpAny Hm A (compareOp .NotIn u RV) Q E s:=by
 rcases g with⟨kvs,k,e,ey,l⟩ | ⟨kvs,k,b,e,ey,eb,l⟩
 ·subst ey
  obtain⟨z,hd,vs,rel,dd⟩:=JX e
  refine wpAny_notIn_of C2 hd dd.mapOf ?_
  rw[←(rel.val k).isSome_eq,←l]
  exact h _ Sg
 ·subst ey
  cases(show u=Value.ref b from ry)
  obtain⟨z,hd,xs,rel,dd⟩:=JY e
  refine wpAny_notIn_heap S2 Al hd dd ?_
  have q:=(rel.val k).isSome_eq
  rw[Option.isSome_map]at q
  rw[←q,←l]
  exact h _ Sg
def zgy(I:HP)(mu:Mut (H a))(hs:XD h')(he:∃q,h'.get? a=some q)(new:QJ (ZX a ob) h' a ob) :
  Inv X a5 σ (ZX a ob) {s with heap:=h',toks:=t'} :=
 I.write (x:=a) (e:=a) mu HW (λb q hb z=>(Aj hb).trans z) he new
def dk_new(z:kvs.length≤sizeLine)(hd:(a==sysModules)=false)(rel:UP vs)(dd:h'.DictOf LY a vs) :
  zb1 P w H' h' a RU:=⟨z,hd,vs,rel,dd⟩
def d_setItem(hu:A.units+1<cLine)(I:HP)(g:DPut H a y v H')(ry:YG u)(rv:UO r)(h:∀s',ZA H' s'→Q () s') :
  wpAny Hm A (setItem RV u r) Q E s:=by
 rcases g with⟨kvs,k,e,ey,l,eH⟩ | ⟨kvs,k,b,e,ey,eb,l,eH⟩
 ·subst ey eH
  obtain⟨z,hd,vs,rel,dd⟩:=DD e
  have hz:vs.length≤sizeLine:=by rw[←rel.length];exact z
  have hl:(UB k v).length≤sizeLine:=by have:=zeo kvs k v;exact Zg ‹_› ‹_›
  refine wpAny_setItem_pairs (hsz:=hz) C2 dd λh' eY hs=>h _ ?_
  have he:∃q,h'.get? a=some q:=let⟨q,_,_,hq,_⟩:=eY;⟨q,hq⟩
  exact zgy I (by rw[e];exact True.intro) hs he (dk_new hl hd (rel.put k rv) eY)
 ·subst ey eH
  cases(show u=Value.ref b from ry)
  obtain⟨z,hd,xs,rel,dd⟩:=dt_of I.hok e
  have hz:xs.length≤sizeLine:=by rw[←Zy rel];exact z
  have hl:(UB k v).length≤sizeLine:=by have:=zeo kvs k v;exact Zg ‹_› ‹_›
  refine wpAny_setItem_heap (hsz:=hz) S2 Al dd λh' eY hs=>h _ ?_
  obtain⟨q,es,ep,hq,h2,h3,h4,_,h5⟩:=eY
  refine zgy I (by rw[e];exact True.intro) hs ⟨q,hq⟩ ⟨hl,hd,_,(rel.put k eb rv).keeps λc ys ec=>?_,q,es,ep,hq,h2,h3,h4,h5⟩
  rw[zaf (za1 ec e (λz=>nomatch z))]
  exact ec
end
section
variable{X:Cx}{a5:Ni}{σ:St}{H:Hp}{s:Nj}{a:Nc}{kvs:List (Key×V)}{k:Key}{u:Value}{A:Nq}{E:Nd}
def d_delItem(I:HP)(e:H a=some RU)(ry:VI u)(l:(UU k).isSome=true)(h:∀s',ZA (TC a yO) s'→Q () s') :
  wpAny Hm A (delItem RV u) Q E s:=by
 obtain⟨z,hd,vs,rel,dd⟩:=DD e
 refine wpAny_delItem_slot dd.typeIs Hf PySem.F.slot_dict_delitem
  (call_meetsIn PySem.F.slot_dict_delitem dd.typeIs PySem.F.entry_dict_delitem (PySem.F.args_dict_delitem_2 _ _) (meets_dict_delitem_pairs Td a C2) ⟨vs,dd,by rw[←rel.length];exact z,by rw[←(rel.val k).isSome_eq];exact l,λh' eY hs=>h _ ?_⟩)
 have he:∃q,h'.get? a=some q:=let⟨q,_,_,hq,_⟩:=eY;⟨q,hq⟩
 exact zgy I (by rw[e];exact True.intro) hs he (BG eY)
def d_pop(I:HP)(e:H a=some RU)(ry:VI u)(l:UU k=some v)(hm:more=[]∨∃x,more=[x])(h:∀w' s',ZA (TC a yO) s'→UO w'→Q w' s'):ZG A (call (.builtin "dict.pop") (.ref a::u::more)) Q E s:=by
 obtain⟨z,hd,vs,rel,dd⟩:=DD e
 obtain⟨w',hw,bH⟩:=RelO.some_of (v:=v) (o:=valueAt vs k) (by rw[←l];exact rel.val k)
 have hp:(keyPart u).isSome=true:=by
  cases k with
  |inl i=>obtain⟨t,q⟩:=(show ∃t,u=Bw t from ry);subst q;rfl
  |inr x=>obtain⟨t,q⟩:=(show ∃t,u=Y' t from ry);subst q;rfl
 have ha:argsOk "dict.pop" ⟨.ref a::u::more,[]⟩:=by
  rcases hm with q | ⟨x,q⟩
  ·subst q;exact PySem.F.args_dict_pop_2 _ _
  ·subst q;exact PySem.F.args_dict_pop_3 _ _ _
 refine call_meetsIn PySem.F.slot_dict_pop dd.typeIs PySem.F.entry_dict_pop ha (meets_dict_pop_there Td a C2 more hm hp)
  ⟨vs,w',dd,by rw[←rel.length];exact z,hw,λh' eY hs=>h w' _ ?_ bH⟩
 have he:∃q,h'.get? a=some q:=let⟨q,_,_,hq,_⟩:=eY;⟨q,hq⟩
 exact zgy I (by rw[e];exact True.intro) hs he (BG eY)
end
def NoSl(i:Expr):Prop:=∀ov iv,subscripted i false ov iv=operate [ov,iv] (xG ov iv)
def subD_of{prog:Nk}{w:Nn}{A:Nq}{E:Nd}{s:Nj}{env:Env}{value slice:Expr}{pos:Pos}{T id:String}{Q:Nd}(hl:typeLookup Os "__getitem__" = pure (Hs LR))(hs:NoSl slice)(h:ZI (eval value env) (λo s₁=>ZI (eval slice env) (λi s₂=>s₂.TypeIs o T∧ZI (xG o i) Q E s₂) E s₁) E s) :
  wpAny Hw A (CH (.Subscript value slice pos)) Q E s:=by
 refine Subscript_ (NE (λo s₁ h₁=>J6 (λi s₂ h₂=>?_) λ_ _ x=>x) λ_ _ x=>x)
 obtain⟨hT,h₂⟩:=h₂
 unfold subscriptTail
 refine wpAny_bind ?_
 rw[getitemInPython_of_ne hT.not_modules]
 refine wpAny_bind (KK hl ?_)
 have fin:ZI (subscripted slice false o i) (λr s₃=>ZI (letTemporaryGo value o r >>= λ_=>pure r) Q E s₃) E s₂:=by
  rw[hs o i]
  exact wpAny_operating (J7 (λr s₃ h₃=>wpAny_bind (wpAny_letTemporaryGo (Sj h₃))) λ_ _ x=>x)
 first
  |exact wpAny_pure (wpAny_bind fin)
  |exact wpAny_bind (wpAny_pure (wpAny_bind fin))
  |exact wpAny_bind fin
def dict_typeIs(I:HP)(g:Ag):s.TypeIs RV "dict" := by
 rcases g with⟨kvs,k,e,_,_⟩ | ⟨kvs,k,b,e,_,_,_⟩
 ·obtain ⟨_,_,vs,_,dd⟩:=JX e
  exact dd.typeIs
 ·obtain ⟨_,_,xs,_,dd⟩:=JY e
  exact dd.typeIs
inductive RDG(x y:V)(H:Hp)(Q:VK):Prop
 |mk (a:Nc) (v:V) (e:x=.ref a) (g:DGet H a y (some v)) (q:Q v H):RDG x y H Q
inductive RDI(x y:V)(H:Hp)(R:Option V→Prop):Prop
 |mk (a:Nc) (o:Option V) (e:x=.ref a) (g:DGet H a y o) (q:R o):RDI x y H R
inductive RDP(x y v:V)(H:Hp)(N:Hp→Prop):Prop
 |mk (a:Nc) (H4:Hp) (e:x=.ref a) (p:DPut H a y v H4) (q:N H4):RDP x y v H N
def tDGet(td ty:TE):TE:=λ σ H Q=>td σ H λx H1=>ty σ H1 λy H2=>RDG x y H2 Q
def tDIn(ty td:TE):TE:=λ σ H Q=>ty σ H λy H1=>td σ H1 λx H2=>RDI x y H2 λo=>Q (.bl o.isSome) H2
def tDNotIn(ty td:TE):TE:=λ σ H Q=>ty σ H λy H1=>td σ H1 λx H2=>RDI x y H2 λo=>Q (.bl (!o.isSome)) H2
def sDPut(td ty tv:TE):TS:=λD σ H=>tv σ H λv H1=>td σ H1 λx H2=>ty σ H2 λy H3=>RDP x y v H3 (D.nx σ)
def sDAug(td ty tv:TE)(rd:V→V→Hp→VK→Prop):TS:=λD σ H=>td σ H λx H1=>ty σ H1 λy H2=>∃a v,x=.ref a∧DGet H2 a y yL ∧
 tv σ H2 λy2 H3=>rd v y2 H3 λz H4=>∃H5,DPut H4 a y z H5∧W1 H5
def sDDel(td ty:TE):TS:=λD σ H=>td σ H λx H1=>ty σ H1 λy H2=>∃a kvs k,x=.ref a∧H2 a=some RU∧y=kV k∧(UU k).isSome=true∧W1 (QA a (ID yO))
section
variable{X:Cx}{o i e value:Expr}{pos aK tpos:Pos}{td ty tv:TE}
def pe_dget(hu:X.A.units+1<cLine)(ho:CZ)(hi:Ot)(hs:NoSl i):Z9 zO (tDGet td ty):=by
 intro a5 s σ H Q I h
 refine subD_of PySem.F.slot_dict_getitem.lookup hs (thn Sv λu s1 ⟨x,H1,I1,rx,q1⟩=>thn Lj λiv s2 ⟨y,H2,I2,ry,a,v,ex,g,q2⟩=>?_)
 subst ex
 obtain rfl:u=Value.ref a:=rx
 exact⟨dict_typeIs I2 g,FK ry λw' s3 I3 bH=>⟨v,H2,I3,bH,q2⟩⟩
def zgk(hu:X.A.units+1<cLine)(hi:Ot)(ho:CZ):PC X .In i o (tDIn ty td):=by
 intro a5 s σ H Q I h
 refine thn SF λiv s1 ⟨y,H1,I1,ry,q1⟩=>thn CV λu s2 ⟨x,H2,I2,rx,a,ov,ex,g,q2⟩=>?_
 subst ex
 obtain rfl:u=Value.ref a:=rx
 exact d_in hu I2 g ry λs3 I3=>⟨.bl ov.isSome,H2,I3,rfl,q2⟩
def zda(hu:X.A.units+1<cLine)(hi:Ot)(ho:CZ):PC X .NotIn i o (tDNotIn ty td):=by
 intro a5 s σ H Q I h
 refine thn SF λiv s1 ⟨y,H1,I1,ry,q1⟩=>thn CV λu s2 ⟨x,H2,I2,rx,a,ov,ex,g,q2⟩=>?_
 subst ex
 obtain rfl:u=Value.ref a:=rx
 exact d_notIn hu I2 g ry λs3 I3=>⟨.bl (!ov.isSome),H2,I3,rfl,q2⟩
def zb5(hu:X.A.units+1<cLine)(ho:CZ)(hi:Ot)(hv:xt)(hs:swapsWith value (Hs xH) pos.line X.env=pure false) :
  PS X (.Assign [xH] value pos) (sDPut td ty tv):=by
 intro a5 s σ H D I h
 refine wpAny_Assign_Subscript (thn zP λr s1 ⟨v,H1,I1,rv,q1⟩=>thn CV λu s2 ⟨x,H2,I2,rx,q2⟩=>thn (hi a5 s2 σ H2 _ I2 q2) λiv s3 ⟨y,H3,I3,ry,a,H4,ex,g,q3⟩=>?_) hs
 subst ex
 obtain rfl:u=Value.ref a:=rx
 exact d_setItem hu I3 g ry rv λs4 I4=>⟨σ,H4,I4,q3⟩
def ps_daug(hu:X.A.units+1<cLine)(ho:CZ)(hi:Ot)(hv:xt)(je:InOp X op rd)(ha:∀ov iv new,augStore i ov iv new=(do holding [new,ov,iv] (setItem ov iv new);release [new,ov,iv] [];pure .next)):KH (.AugAssign yD op value pos) (sDAug td ty tv rd):=by
 intro a5 s σ H D I h
 refine wpAny_AugAssign_SubscriptAny (thn Sv λu s1 ⟨x,H1,I1,rx,q1⟩=>thn Lj λiv s2 ⟨y,H2,I2,ry,a,v,ex,g,q2⟩=>?_) ha
 subst ex
 obtain rfl:u=Value.ref a:=rx
 refine FK ry λw' s3 I3 bH=>thn (hv a5 s3 σ H2 _ I3 q2) λw2 s4 ⟨y2,H3,I4,ry2,q3⟩=>thn (je a5 s4 σ H3 v y2 w' w2 _ I4 bH ry2 q3) λw3 s5 ⟨z,H4,I5,rz,H5,g5,q4⟩=>?_
 exact d_setItem hu I5 g5 ry rz λs6 I6=>⟨σ,H5,I6,q4⟩
def ps_ddel(ho:CZ)(hi:Ot):KH (.Delete [yD] pos) (sDDel td ty):=by
 intro a5 s σ H D I h
 refine wpAny_Delete (wpAny_deleteEach_cons (wpAny_delete_Subscript (thn Sv λu s1 ⟨x,H1,I1,rx,q1⟩=>thn Lj λiv s2 ⟨y,H2,I2,ry,a,kvs,k,ex,e,ey,l,q2⟩=>?_)))
 subst ex ey
 obtain rfl:u=Value.ref a:=rx
 exact d_delItem I2 e ry l λs3 I3=>wpAny_deleteEach_nil ⟨σ,_,I3,q2⟩
end
def dk_empty(h:Np)(hb:sysModules<h.objs.size):UZ H (h.push {cls:=.type "dict",data:=.dict #[]}) h.objs.size RQ :=
 ⟨SJ,EE (Zl (Zh hb)),[],.nil,Heap.DictOf.new h⟩
def dt_empty(h:Np)(hb:sysModules<h.objs.size):UZ H (h.push {cls:=.type "dict",data:=.dict #[]}) h.objs.size (.dT []) :=
 ⟨SJ,EE (Zl (Zh hb)),[],.nil,_,#[],0,Ta,⟨rfl,rfl,rfl⟩,rfl,rfl,Zn⟩
def tDNewK:TE:=λ_ H Q=>∀p,H p=none→Q Tn (ZX p RQ)
def tDNewT:TE:=λ_ H Q=>∀p,H p=none→Q Tn (ZX p (.dT []))
section
variable{X:Cx}{pos:Pos}
def zd7:Z9 (.Dict [] [] pos) tDNewK:=λa5 s σ H Q I h =>
 wpAny_Dict_empty ⟨Hu,_,I.laid (a:=s.heap.objs.size) (o:=.dK []) (t':=s.toks) (λ_ _ q=>WN q) Hx Am,rfl,h _ SU⟩
def pe_dnewT:Z9 (.Dict [] [] pos) tDNewT:=λa5 s σ H Q I h =>
 wpAny_Dict_empty ⟨Hu,_,I.laid (a:=s.heap.objs.size) (o:=.dT []) (t':=s.toks) (λ_ _ q=>WN q) Hx (dt_empty s.heap I.big),rfl,h _ SU⟩
end
def tPairs:List (TE×TE)→St→Hp→(List (V×V)→Hp→Prop)→Prop
 |[],_,H,Q=>Q [] H
 |(tk,tv)::r,σ,H,Q=>tk σ H λx H1=>tv σ H1 λy H2=>tPairs r σ H2 λps H3=>Q ((x,y)::ps) H3
abbrev VV:List (V×V)→List (Value×Value)→Prop:=Paired λp q=>RelV p.1 q.1∧Dx q.2
def PPs(X:Cx)(pos:Pos)(keys:S1 (Option Expr))(values:Nt)(trs:S1 (TE×TE)):Prop :=
 ∀(a5:Ni) (s:Nj) (σ:St) (H:Hp) (Q:List (V×V)→Hp→Prop),ZA H s→tPairs trs σ H Q →
  wpAny Hm X.A (evalPairs (pairTrees keys values X.env pos)) (λvs s'=>∃ps H',ZA H' s'∧VV ps vs∧Q ps H') X.xe s
def pps_nil:Gf [] [] []:=λa5 s σ H Q I h=>pairTrees_nil_walk ⟨[],H,I,.nil,h⟩
def pps_cons(hk:Z9 k tk)(hv:Z9 v tv)(hr:Gf ks vs trs) :
  PPs X pos (some k::ks) (v::vs) ((tk,tv)::trs):=λa5 s σ H Q I h =>
 pairTrees_cons_walk (thn (hk a5 s σ H _ I h) λu s1 ⟨x,H1,I1,rx,q1⟩=>thn (hv a5 s1 σ H1 _ I1 q1) λw2 s2 ⟨y,H2,I2,ry,q2⟩ =>
  thn (hr a5 s2 σ H2 _ I2 q2) λws s3 ⟨ps,H3,I3,rel,q3⟩=>⟨(x,y)::ps,H3,I3,Oh ⟨rx,ry⟩ rel,q3⟩)
def zhp(kvs more:S1 (Key×V)):List (Key×V):=more.foldl (λaf kv=>putK af kv.1 kv.2) kvs
def KV.merge:∀{more:List (Key×V)} {rs:List (Key×Value)} {kvs:List (Key×V)} {vs:List (Key×Value)},KV more rs→UP vs→KV (zhp kvs more) (merged vs rs):=by
 intro more rs kvs vs r
 unfold KV at r
 induction r generalizing kvs vs with
 |nil=>intro q;exact q
 | @cons p q ps qs h t ih =>
  intro r0
  have e:KV AE (stored vs q.1 q.2):=by
   have:=r0.put p.1 h.2
   rw[←h.1];exact this
  exact ih e
theorem ze3:∀(more kvs:S1 (Key×V)),(zhp kvs more).length≤kvs.length+more.length
 |[],kvs=>by show kvs.length≤kvs.length+0;exact Qe _
 |p::r,kvs=>by
  have h1:=ze3 r AE
  have h2:=zeo kvs p.1 p.2
  show(zhp AE r).length≤_
  rw[Qz];lia
theorem zhw:∀{kvs:List (Key×V)} {ws:List (Value×Value)},VV (kvs.map λkv=>(kV kv.1,kv.2)) ws→∃rs,Carries LY ws rs∧UP rs
 |[],_,r=>by rw[Xr]at r;cases r;exact⟨[],True.intro,.nil⟩
 | p::kvs,_,r=>by
  rw[Qm]at r
  cases r with
  |@cons a b as bs h t =>
   obtain⟨rs,c,q⟩:=zhw (P:=P) (w:=w) t
   obtain⟨b1,b2⟩:=b
   exact⟨(p.1,b2)::rs,⟨zhb h.1,rfl,c⟩,.cons ⟨rfl,h.2⟩ q⟩
def tDisp(trs:S1 (TE×TE)):TE:=λ σ H Q=>∀p,H p=none→tPairs trs σ (ZX p RQ) λps H2=>H2 p=some RQ∧∃kvs:List (Key×V),ps=kvs.map (λkv=>(kV kv.1,kv.2))∧kvs.length≤15∧Q Tn (QA p (ID (zhp [] kvs)))
def pe_disp(h:Gf keys values trs)(aR:keys.all (·.isSome)=true)(hl:keys.length=values.length)(h0:keys≠[])(h15:keys.length≤15):Z9 (.Dict keys values pos) (tDisp trs):=by
 intro a5 s σ H Q I q
 have hn:=I.hok.fresh (Qe s.heap.objs.size)
 have I1:=I.laid (a:=s.heap.objs.size) (o:=.dK []) (h':=s.heap.push {cls:=.type "dict",data:=.dict #[]}) (t':=s.toks) (λ_ _ q=>WN q) Hx Am
 refine wpAny_Dict_walk (knd:=QY X.w) aR hl h0 h15 (thn (h a5 _ σ _ _ I1 (q _ hn)) λws s2 ⟨ps,H2,I2,rel,e,kvs,ep,lk,q2⟩=>?_)
 subst ep
 obtain⟨rs,c,rk⟩:=zhw (P:=X.prog) (w:=X.w) rel
 obtain⟨z,hd,vs0,r0,dd⟩:=dk_of I2.hok e
 cases r0
 refine⟨rs,c,dd,λh' eY hs=>⟨Hu,_,?_,rfl,q2⟩⟩
 have hz:(zhp [] kvs).length≤sizeLine:=by
  have h1:=ze3 kvs []
  rw[Um]at h1
  rw[sizeLine_eq];lia
 have he:∃q,h'.get? s.heap.objs.size=some q:=let⟨q,_,_,hq,_⟩:=eY;⟨q,hq⟩
 exact zgy I2 (by rw[e];exact True.intro) hs he (dk_new hz hd (rk.merge .nil) eY)
structure M1(X:Cx)(o:Expr)(m:Str)(apos:Pos)(e:Expr)(cpos:Pos):Prop where
 base:attributeBase o m X.env yM=eval o X.env
 few:((An (starEach [e] X.env)).all (λx=>!x.1)&&(backToKw cpos (keywordEach [] X.env)).all (λx=>x.1.isSome)
  && decide (([e]:List Expr).length+([]:List Keyword).length+(if([]:List Keyword).isEmpty then 0 else 1)<30))=true
 line:(apos.endLine==cpos.line)=true
 trees:backTo cpos (starEach [e] X.env)=[(false,C1)]
structure M2(X:Cx)(o:Expr)(m:Str)(apos:Pos)(e f:Expr)(cpos:Pos):Prop where
 base:attributeBase o m X.env yM=eval o X.env
 few:((An (starEach [e,f] X.env)).all (λx=>!x.1)&&(backToKw cpos (keywordEach [] X.env)).all (λx=>x.1.isSome)
  && decide (([e,f]:List Expr).length+([]:List Keyword).length+(if([]:List Keyword).isEmpty then 0 else 1)<30))=true
 line:(apos.endLine==cpos.line)=true
 trees:backTo cpos (starEach [e,f] X.env)=[(false,C1),(false,HX f)]
def IsD(H:Hp)(a:Nc):Prop:=(∃kvs,KF RU)∨∃kvs,KF TX
def isD_at(I:HP)(d:IsD H a) :
  s.TypeIs RV "dict" ∧ (∀b,Value.ref a=.ref b→∃ob,s.heap.get? b=some ob∧ob.dict=none)∧(a==sysModules)=false:=by
 rcases d with⟨kvs,e⟩ | ⟨kvs,e⟩
 ·obtain ⟨_,hd,vs,_,dd⟩:=JX e
  refine⟨dd.typeIs,λb q=>?_,hd⟩
  cases q
  obtain⟨ob,_,_,h1,h2,_⟩:=dd
  exact⟨ob,h1,h2.2.1⟩
 ·obtain ⟨_,hd,xs,_,dd⟩:=JY e
  refine⟨dd.typeIs,λb q=>?_,hd⟩
  cases q
  obtain⟨ob,_,_,h1,h2,_⟩:=dd
  exact⟨ob,h1,h2.2.1⟩
section
variable{X:Cx}{a5:Ni}{σ:St}{H:Hp}{s:Nj}{a:Nc}{y d:V}{u r:Value}{o:Option V}{A:Nq}{E:Nd}
def d_get1(hu:A.units+1<cLine)(I:HP)(g:Ag)(ry:YG u)(h:∀w' s',ZA H s'→RelV (o.getD .non) w'→Q w' s') :
  wpAny Hm A (call (.builtin "dict.get") [RV,u]) Q E s:=by
 rcases g with⟨kvs,k,e,ey,l⟩ | ⟨kvs,k,b,e,ey,eb,l⟩
 ·subst ey
  obtain⟨z,hd,vs,rel,dd⟩:=JX e
  refine call_meetsIn Ui dd.typeIs Jx (MJ _) (meets_dict_get Td a C2 hd) ⟨_,dd.mapOf,h _ _ Sg ?_⟩
  rw[l]
  exact(rel.val k).getD rfl
 ·subst ey
  cases(show u=Value.ref b from ry)
  obtain⟨z,hd,xs,rel,dd⟩:=JY e
  refine call_meetsIn Ui dd.typeIs Jx (MJ _) (meetsH_dict_get (CY Td) a b hd) ⟨S2,k,xs,Al,dd,h _ _ Sg ?_⟩
  rw[l]
  exact(rel.val k).getD rfl
def d_get2(hu:A.units+1<cLine)(I:HP)(g:Ag)(ry:YG u)(rd:RelV d r)(h:∀w' s',ZA H s'→RelV (o.getD d) w'→Q w' s') :
  wpAny Hm A (call (.builtin "dict.get") [RV,u,r]) Q E s:=by
 rcases g with⟨kvs,k,e,ey,l⟩ | ⟨kvs,k,b,e,ey,eb,l⟩
 ·subst ey
  obtain⟨z,hd,vs,rel,dd⟩:=JX e
  refine call_meetsIn Ui dd.typeIs Jx (V8 _) (meets_dict_get_default Td a C2 hd r) ⟨_,dd.mapOf,h _ _ Sg ?_⟩
  rw[l]
  exact(rel.val k).getD rd
 ·subst ey
  cases(show u=Value.ref b from ry)
  obtain⟨z,hd,xs,rel,dd⟩:=JY e
  refine call_meetsIn Ui dd.typeIs Jx (V8 _) (meetsH_dict_get_default (CY Td) a b hd r) ⟨S2,k,xs,Al,dd,h _ _ Sg ?_⟩
  rw[l]
  exact(rel.val k).getD rd
end
def tDGet1(td ty:TE):TE:=λ σ H Q=>td σ H λx H1=>∃a,x=.ref a∧IsD H1 a∧ty σ H1 λy H2=>∃o,DGet H2 a y o∧Q (o.getD .non) H2
def tDGet2(td ty tx:TE):TE:=λ σ H Q=>td σ H λx H1=>∃a,x=.ref a∧IsD H1 a∧ty σ H1 λy H2=>tx σ H2 λz H3=>∃o,DGet H3 a y o∧Q (o.getD z) H3
def tDPop1(td ty:TE):TE:=λ σ H Q=>td σ H λx H1=>∃a,x=.ref a∧IsD H1 a∧ty σ H1 λy H2=>∃kvs k v,H2 a=some RU∧y=kV k∧UU k=some v∧Q v (QA a (ID yO))
section
variable{X:Cx}{o e f:Expr}{apos cpos:Pos}{td ty tx:TE}
def pe_dget1(hu:X.A.units+1<cLine)(ho:CZ)(he:Z9 e ty)(m:M1 X o "get" apos e cpos):Z9 (.Call (.Attribute o "get" apos) [e] [] cpos) (tDGet1 td ty):=by
 intro a5 s σ H Q I h
 refine Y5 Ui PySem.F.type_dict_get (thn Sv λu s1 ⟨x,H1,I1,rx,a,ex,d,q1⟩=>?_)
 subst ex
 obtain rfl:u=Value.ref a:=rx
 obtain⟨t1,t2,_⟩:=Gg d
 refine⟨t1,t2,?_⟩
 rw[m.trees]
 refine Jf rfl (Kt (Wx (thn CW λiv s2 ⟨y,H2,I2,ry,ov,g,q2⟩=>Ux ?_)))
 exact d_get1 hu I2 g ry λw' s3 I3 bH=>⟨_,H2,I3,bH,q2⟩
def pe_dget2(hu:X.A.units+1<cLine)(ho:CZ)(he:Z9 e ty)(hf:Z9 f tx)(m:M2 X o "get" apos e f cpos):Z9 (.Call (.Attribute o "get" apos) [e,f] [] cpos) (tDGet2 td ty tx):=by
 intro a5 s σ H Q I h
 refine Y5 Ui PySem.F.type_dict_get (thn Sv λu s1 ⟨x,H1,I1,rx,a,ex,d,q1⟩=>?_)
 subst ex
 obtain rfl:u=Value.ref a:=rx
 obtain⟨t1,t2,_⟩:=Gg d
 refine⟨t1,t2,?_⟩
 rw[m.trees]
 refine Jf rfl (Kt (Wx (thn CW λiv s2 ⟨y,H2,I2,ry,q2⟩ =>
  Wx (thn (hf a5 s2 σ H2 _ I2 q2) λfv s3 ⟨z,H3,I3,rz,ov,g,q3⟩=>Ux ?_))))
 exact d_get2 hu I3 g ry rz λw' s4 I4 bH=>⟨_,H3,I4,bH,q3⟩
def pe_dpop1(ho:CZ)(he:Z9 e ty)(m:M1 X o "pop" apos e cpos):Z9 (.Call (.Attribute o "pop" apos) [e] [] cpos) (tDPop1 td ty):=by
 intro a5 s σ H Q I h
 refine Y5 PySem.F.slot_dict_pop PySem.F.type_dict_pop (thn Sv λu s1 ⟨x,H1,I1,rx,a,ex,d,q1⟩=>?_)
 subst ex
 obtain rfl:u=Value.ref a:=rx
 obtain⟨t1,t2,_⟩:=Gg d
 refine⟨t1,t2,?_⟩
 rw[m.trees]
 refine Jf rfl (Kt (Wx (thn CW λiv s2 ⟨y,H2,I2,ry,kvs,k,v,ea,ey,l,q2⟩=>Ux ?_)))
 subst ey
 exact d_pop I2 ea ry l HW λw' s3 I3 bH=>⟨v,_,I3,bH,q2⟩
end
section
variable{X:Cx}{a5:Ni}{σ:St}{H:Hp}{s:Nj}{a:Nc}{kvs:List (Key×V)}{A:Nq}{E:Nd}
end
section
variable{X:Cx}{a5:Ni}{σ:St}{H:Hp}{s:Nj}{a:Nc}{y:V}{u:Value}{A:Nq}{E:Nd}
end
end L2
namespace HT
open PySem PyProof.Rows
def eqAt_int(A:Nq)(s:Nj)(a:Int)(t:Tok)(c:Int)(u:Tok):∃e,UC (S8 a t) (S8 c u) e∧(e=true↔a=c) :=
 ⟨(a==c),DF t c u,Ha⟩
def rcLt_int(A:Nq)(s:Nj)(a:Int)(t:Tok)(c:Int)(u:Tok)(prog:Nk)(w:Nn)(E:Nd)(Q:Nd)(h:Q (.bool (decide (a<c))) s) :
  wpAny Hw A (yP (S8 a t) (S8 c u)) Q E s :=
 (PyProof.Rows.lt_int h:ZI (PV (S8 a t) (S8 c u)) Q E s)
section
open PySem.SeqAt
open PySem.AutoSeq1 (wpAny_loadPart')
open PySem.MeetsSeq PySem.MeetsSeq2 PySem.MeetsSeq3
end
section
variable{prog:Nk}{w:Nn}{A:Nq}{E:Nd}{s:Nj}
def sIx(n d:Nat):Option Int→Nat
 |none=>d
 |some v=>if v<0 then(v+(n:Int)).toNat else min v.toNat n
def sIx_nat(n d k:Nat):sIx n d (some (k:Int))=min k n:=by
 show(if(k:Int)<0 then((k:Int)+(n:Int)).toNat else min (k:Int).toNat n)=min k n
 rw[if_neg HI,Wy]
end
end HT
namespace L2
open PySem PySem.Spec PyProof.Rows
abbrev TO:=St→Hp→(Option Int→Hp→Prop)→Prop
def PO(X:Cx)(e:Option Expr)(t:TO):Prop :=
 ∀(a5:Ni) (s:Nj) (σ:St) (H:Hp) (Q:Option Int→Hp→Prop),ZA H s→t σ H Q →
  wpAny Hm X.A (evalPart e X.env) (λu s'=>∃o H',ZA H' s'∧IsPart u o∧Q o H') X.xe s
def tNoPart:TO:=λ_ H Q=>Q none H
inductive RPt(x:V)(R:Int→Prop):Prop
 |mk (i:Int) (e:x=.int i) (q:R i):RPt x R
def tPart(t:TE):TO:=λ σ H Q=>t σ H λx H1=>RPt x λi=>Q yQ H1
section
variable{X:Cx}{e:Expr}{te:TE}{lo hi:Option Expr}{tl th:TO}{pos p2:Pos}
def zdh:PO X none tNoPart:=by
 intro a5 s σ H Q I h
 rw[evalPart_none]
 exact wpAny_pure ⟨none,H,I,.none,h⟩
def zcd(h:Co):PO X (Hs e) (tPart te):=by
 intro a5 s σ H Q I hw
 rw[evalPart_some]
 refine thn (L0 _ hw) λu s1 ⟨x,H1,I1,r1,q1⟩=>?_
 obtain⟨i,rfl,q⟩:=q1
 obtain⟨t,rfl⟩:=r1
 exact⟨yQ,H1,I1,yK,q⟩
def SlR(X:Cx)(r:V→Option Int→Option Int→Hp→VK→Prop):Prop :=
 ∀(a5:Ni) (s:Nj) (σ:St) (H:Hp) (x:V) (v vl vu:Value) (lo hi:Option Int) (sl:Nc) (Q:VK),ZA H s→W6 v→s.heap.IsSliceOf sl vl vu .none→IsPart vl lo→IsPart vu hi→r x lo hi H Q →
  ∃T id,typeLookup Os "__getitem__" = pure (Hs LR)∧s.TypeIs v T∧ZE (xG v (Hi sl)) TK X.xe s
def tSl(r:V→Option Int→Option Int→Hp→VK→Prop)(te:TE)(tl th:TO):TE:=λ σ H Q=>te σ H λx H1=>tl σ H1 λl H2=>th σ H2 λu H3=>r x l u H3 Q
def zcm(hr:SlR X r)(he:Co)(hl:PO X lo tl)(hu:PO X hi th):Z9 (Lz e AF) (tSl r te tl th):=by
 intro a5 s σ H Q I h
 refine Subscript_ (thn RM λv s1 ⟨x,H1,I1,r1,q1⟩=>?_)
 refine wpAny_Slice (thn (hl a5 s1 σ H1 _ I1 q1) λvl s2 ⟨l,H2,I2,pl,q2⟩=>thn (hu a5 s2 σ H2 _ I2 q2) λvu s3 ⟨u,H3,I3,pu,q3⟩=>?_)
 rw[evalPart_none]
 refine wpAny_pure ?_
 have I4:ZA H3 {s3 with heap:=s3.heap.push {cls:=.type "slice",data:=.fields #[vl,vu,.none]}}:=I3.kept (t':=s3.toks) λb ob q=>WN q
 obtain⟨T,id,hT,ht,hg⟩:=hr a5 {s3 with heap:=s3.heap.push {cls:=.type "slice",data:=.fields #[vl,vu,.none]}} σ H3 x v vl vu l u s3.heap.objs.size Q I4 r1 (Heap.IsSliceOf.new ..) pl pu q3
 show ZE (subscriptTail e AF v AG) TK X.xe {s3 with heap:=s3.heap.push {cls:=.type "slice",data:=.fields #[vl,vu,.none]}}
 exact tail_any (ops:=[AG,v]) ht hT hg (by with_unfolding_all rfl)
def cutV(xs:List V)(lo hi:Option Int):List V:=(xs.drop (QU 0 lo)).take (QU xs.length hi-QU 0 lo)
def zbz(xs:List V)(lo hi:Option Int):(NN lo hi).length≤xs.length:=by
 unfold cutV
 rw[Zt,Xm]
 lia
end
end L2
namespace L2
open PySem PySem.Spec PyProof.Rows
def ixN(n:Nat)(i:Int):Option Nat:=if 0≤i then(if i<n then some i.toNat else none) else if -(n:Int)≤i then some (i+n).toNat else none
def atI{α:Type}(xs:List α)(i:Int):Option α:=(MS i).bind λj=>xs[j]?
def ixN_seq(h:ixN n i=some j):seqIndex? i n=some j∧j<n∧-(n:Int)≤i∧i<n:=by
 unfold ixN at h
 by_cases h0:0≤i
 ·rw [Si h0] at h
  by_cases h1:i<n
  ·rw [Si h1] at h
   have e:i.toNat=j:=Qn h
   exact⟨by rw[seqIndex_of h0 h1,e],HI,HI,h1⟩
  ·rw[if_neg h1]at h;cases h
 ·rw [Sb h0] at h
  by_cases h1:-(n:Int)≤i
  ·rw [Si h1] at h
   have e:(i+n).toNat=j:=Qn h
   exact⟨by rw[seqIndex_neg HI h1,e],HI,h1,HI⟩
  ·rw[if_neg h1]at h;cases h
def atI_get{α:Type}{xs:List α}{i:Int}{v:α}(h:atI xs i=some v):∃j,seqIndex? i xs.length=some j∧xs[j]?=some v∧j<xs.length∧-(xs.length:Int)≤i∧i<xs.length:=by
 unfold atI at h
 cases e:MS i with
 |none=>rw[e]at h;cases h
 |some j =>
  rw[e]at h
  obtain⟨h1,h2,h3,h4⟩:=ixN_seq e
  exact⟨j,h1,h,h2,h3,h4⟩
def zaw{α:Type}{xs:List α}{j:Nat}{v:α}(h:xs[j]?=some v):atI xs (j:Int)=some v:=by
 have hj:j<xs.length:=(LA h).1
 have e:MS (j:Int)=some j:=by
  unfold ixN
  rw[if_pos HI,if_pos (by exact zar9 ‹_›)];simp
 unfold atI;rw[e];exact h
def PlainIx(b:Expr):Prop:=∀o i,subscripted b false o i=operate [o,i] (xG o i)
def IxR(X:Cx)(r:R2):Prop :=
 ∀(value slice:Expr) (a5:Ni) (s:Nj) (σ:St) (H:Hp) (x y:V) (v u:Value) (Q:VK),ZA H s→W6 v→YG u→r x y H Q →
  subscripted slice false v u=operate [v,u] (xG v u)→ZE (subscriptTail value slice v u) TK X.xe s
def MtR(X:Cx)(id:String)(r:V→List V→Hp→VK→Prop):Prop :=
 ∀(a5:Ni) (s:Nj) (σ:St) (H:Hp) (x:V) (xs:List V) (v:Value) (us:Nl) (Q:VK),ZA H s→W6 v→WR us→r x xs H Q →
  wpAny Hm X.A (Fk (v::us)) TK X.xe s
section
variable{X:Cx}{a b:Expr}{ta tb:TE}{pos:Pos}
def zaz(hr:IxR X r)(ha:Ly)(hb:Ia)(hs:PlainIx b):Z9 (Lz a b) xD:=by
 intro a5 s σ H Q I h
 exact Subscript_ (NL h λv u s2 x y H2 I2 rx ry q=>hr a b a5 s2 σ H2 x y v u Q I2 rx ry q (hs _ _))
inductive RrIxL(K:Na)(x:V)(y:V)(H:Hp)(Q:VK):Prop
 |mk (p:_) (xs:_) (i:_) (v:_) (h0:x=.ref p) (h1:y=.int i) (h2:SqL K H p xs) (h3:atI xs i=some v) (h4:Q v H):RrIxL K x y H Q
def rIxL(K:Na):R2:=λx y H Q=>RrIxL K x y H Q
inductive RrIxT(K:Na)(x:V)(y:V)(H:Hp)(Q:VK):Prop
 |mk (p:_) (xs:_) (i:_) (v:_) (h0:x=.ref p) (h1:y=.int i) (h2:SqT K H p xs) (h3:atI xs i=some v) (h4:Q v H):RrIxT K x y H Q
def rIxT(K:Na):R2:=λx y H Q=>RrIxT K x y H Q
inductive RrIxS(x:V)(y:V)(H:Hp)(Q:VK):Prop
 |mk (z:_) (i:_) (c:_) (h0:x=.str z) (h1:y=.int i) (h2:z.length≤sizeLine) (h3:atI z.cps.toList i=some c) (h4:Q (.str ⟨#[c]⟩) H):RrIxS  x y H Q
def rIxS:R2:=λx y H Q=>RrIxS  x y H Q
def zat:IxR X (rIxL X.K):=by
 intro value slice a5 s σ H x y v u Q I rx ry h hs
 obtain⟨p,xs,i,z,rfl,rfl,hq,he,q⟩:=h
 cases rx
 obtain⟨t,rfl⟩:=ry
 obtain⟨a7,r,pl,hz⟩:=I.list hq
 obtain⟨j,h1,h2,h3,h4,h5⟩:=atI_get he
 obtain⟨w,ew,bH⟩:=r.get h2
 have hl:=r.length
 have hn:=zfr
 have fin:QF Q w s:=⟨z,H,I,bH,q⟩
 by_cases h0:0≤i
 ·have hj:i.toNat=j:=by
   rw[seqIndex_of h0 h5]at h1
   exact Qn h1
  exact item_listR pl.isList h0 HI (by rw[hj];simpa using ew) fin hs
 ·have hj:(i+(a7.toArray.size:Int)).toNat=j:=by
   rw[seqIndex_neg HI h4]at h1
   rw[Qy,←hl]
   exact Qn h1
  exact subscriptTail_builtinR (x:=w) pl.isList.typeIs slot_list_getitem.lookup
   (wpAny_getItem_list_neg (Q:=λr s'=>r=w∧QF Q r s') pl.isList HI (by rw[Qy]<;>lia) HI (by rw[hj];simpa using ew) ⟨rfl,fin⟩) hs
def zbs:IxR X (rIxT X.K):=by
 intro value slice a5 s σ H x y v u Q I rx ry h hs
 obtain⟨p,xs,i,z,rfl,rfl,hq,he,q⟩:=h
 cases rx
 obtain⟨t,rfl⟩:=ry
 obtain⟨a7,r,pl,hz⟩:=I.tuple hq
 obtain⟨j,h1,h2,h3,h4,h5⟩:=atI_get he
 obtain⟨w,ew,bH⟩:=r.get h2
 have hl:=r.length
 have hn:=zfr
 have fin:QF Q w s:=⟨z,H,I,bH,q⟩
 exact subscriptTail_builtinR (x:=w) pl.typeIs slot_tuple_getitem.lookup
  (getItem_tuple (j:=j) (Q:=λr s'=>r=w∧QF Q r s') pl HI HI (by rw[Qy,←hl];exact h1) (He ew) ⟨rfl,fin⟩) hs
def ix_str:IxR X rIxS:=by
 intro value slice a5 s σ H x y v u Q I rx ry h hs
 obtain⟨z,i,c,rfl,rfl,hz,he,q⟩:=h
 obtain⟨t,rfl⟩:=rx
 obtain⟨t',rfl⟩:=ry
 obtain⟨j,h1,h2,h3,h4,h5⟩:=atI_get he
 have hl:z.cps.toList.length=z.length:=by simp[Str.length]
 rw[hl]at h1 h4 h5
 have hn:=zfr
 exact tail_any (typeIs_str s z t) slot_str_getitem.lookup (getItem_str (c:=c) (by
  have e1:decide (i < -(2 ^ 63:Int))=false:=decide_eq_false HI
  have e2:decide (i≥2 ^ 63)=false:=decide_eq_false HI
  rw[e1,e2,Bool.or_false]) (by rw[h1];simpa using h2) ⟨Ts ⟨#[c]⟩,H,Sg,⟨_,rfl⟩,q⟩) hs
def mapSeq_set(a7:Nl)(n j:Nat)(u:Value):Obj.mapSeq (·.setIfInBounds j u) {cls:=.type "list",data:=.seq a7.toArray n}={cls:=.type "list",data:=.seq (a7.set j u).toArray n}:=by
 simp[Obj.mapSeq]
def Inv.lst{a5:Ni}{σ:St}{H:Hp}{s:Nj}{p:Nc}{xs:List V}(I:HP)(h:H p=some Tj) :
  ∃(a7:Nl) (n:Nat),WR a7∧s.heap.get? p=some {cls:=.type "list",data:=.seq a7.toArray n}∧xs.length≤sizeLine:=by
 obtain⟨z,a7,n,r,e⟩:=X1 h
 exact⟨a7,n,r,e,z⟩
def Inv.lstUpd{s:Nj}{xs ys:List V}{a7 its':Nl}{n n':Nat}{f:Obj→Obj}(I:HP)(h:H p=some Tj)(ho:s.heap.get? p=some {cls:=.type "list",data:=.seq a7.toArray n})(hf:f {cls:=.type "list",data:=.seq a7.toArray n}={cls:=.type "list",data:=.seq its'.toArray n'})(r:YM its')(hz:ys.length≤sizeLine)(t:Nat) :
  Inv X a5 σ (LS p ys) {s with heap:=s.heap.update p f,toks:=t}:=by
 have e:(s.heap.update p f).get? p=some {cls:=.type "list",data:=.seq its'.toArray n'}:=by
  rw[Uu f ho (by rw[hf]<;>rfl),hf]
 refine I.write (x:=p) (e:=p) (by rw[h];trivial) HW (λb u hb q=>(Vs AH).trans q) ⟨_,e⟩ ?_
 exact⟨hz,its',n',r,e⟩
inductive RrSetL(o:V)(i:V)(v:V)(H:Hp)(Q:Hp→Prop):Prop
 |mk (p:_) (xs:_) (k:_) (j:_) (h0:o=.ref p) (h1:i=.int k) (h2:H p=some (.lst xs)) (h3:ixN xs.length k=some j) (h4:Q (upd H p (.lst (xs.set j v)))):RrSetL  o i v H Q
def rSetL:V→V→V→Hp→(Hp→Prop)→Prop:=λo i v H Q=>RrSetL  o i v H Q
def set_list:PSet X rSetL:=by
 intro a5 s σ H o i v ov iv u Q I ro ri rv h
 obtain⟨p,xs,k,j,rfl,rfl,hp,hj,q⟩:=h
 cases ro
 obtain⟨t,rfl⟩:=ri
 obtain⟨a7,n,r,ho,hz⟩:=I.lst hp
 obtain⟨h1,h2,h3,h4⟩:=ixN_seq hj
 have hl:=r.length
 have hn:=zfr
 have I':ZA (LS p (xs.set j v)) {s with heap:=s.heap.update p (Obj.mapSeq (·.setIfInBounds j u))} :=
  I.lstUpd hp ho (mapSeq_set a7 n j u) (r.set rv j) (by rw[List.length_set];exact hz) s.toks
 by_cases h0:0≤k
 ·have hk:k.toNat=j:=by
   rw[seqIndex_of h0 h4]at h1
   exact Qn h1
  exact PySem.W.ki_setAt ho h0 HI (by rw[Qy,←hl];exact h4) (by rw[hk];exact⟨_,I',q⟩)
 ·have hk:(k+(a7.toArray.size:Int)).toNat=j:=by
   rw[seqIndex_neg HI h3]at h1
   rw[Qy,←hl]
   exact Qn h1
  exact PySem.W.ki_setBack ho HI (by rw[Qy,←hl];exact h3) HI (by rw[hk];exact⟨_,I',q⟩)
def slice_bounds(lo hi:Option Int)(n:Nat):(sliceBounds lo hi none n).1=((HT.sIx n 0 lo:Nat):Int)∧(sliceBounds lo hi none n).2.1=((HT.sIx n n hi:Nat):Int)∧(sliceBounds lo hi none n).2.2=1:=by
 refine⟨?_,?_,rfl⟩
 ·cases lo with
  |none=>simp[sliceBounds,HT.sIx]
  |some i =>
   simp only[sliceBounds,HT.sIx,Option.getD_none,show(1:Int)>0 by decide,if_true]
   by_cases h:i<0
   ·simp only[h,if_true]<;>lia
   ·simp only[h,if_false]<;>lia
 ·cases hi with
  |none=>simp[sliceBounds,HT.sIx]
  |some i =>
   simp only[sliceBounds,HT.sIx,Option.getD_none,show(1:Int)>0 by decide,if_true]
   by_cases h:i<0
   ·simp only[h,if_true]<;>lia
   ·simp only[h,if_false]<;>lia
def zh9(a7:Nl)(lo hi:Option Int):slicePick a7.toArray lo hi none=((a7.drop (Vt 0 lo)).take (Vt a7.length hi-Vt 0 lo)).toArray:=by
 obtain⟨h1,h2,h3⟩:=slice_bounds lo hi a7.toArray.size
 unfold slicePick
 rw[h1,h2,h3]
 simp only[sliceRange_one,pick_run,Qy]<;>rfl
inductive RrSlL(K:Na)(x:V)(lo:Option Int)(hi:Option Int)(H:Hp)(Q:VK):Prop
 |mk (a:_) (xs:_) (h0:x=.ref a) (h1:SqL K H a xs) (h2:∀p,H p=none→Q (.ref p) (upd H p (.lst (cutV xs lo hi)))):RrSlL K x lo hi H Q
def rSlL(K:Na):V→Option Int→Option Int→Hp→VK→Prop:=λx lo hi H Q=>RrSlL K x lo hi H Q
def zc5:SlR X (rSlL X.K):=by
 intro a5 s σ H x v vl vu lo hi sl Q I rx hs pl pu h
 obtain⟨a,xs,rfl,hx,q⟩:=h
 cases rx
 obtain⟨a7,r,ht,hz⟩:=I.list hx
 have ae:=r.length
 refine⟨"list",_,slot_list_getitem.lookup,ht.isList.typeIs,?_⟩
 refine KL hs pl pu .none Ha ?_ (by rw[Qy]<;>exact ze9 ‹_› ‹_›)
 rw[zh9,←ae]
 refine⟨Hu,_,I.laid (t':=s.toks) (o:=.lst (NN lo hi)) (λb ob q=>WN q) Hx ?_,rfl,yz⟩
 exact⟨Zg (zbz xs lo hi) hz,_,0,(r.drop (QU 0 lo)).take (QU xs.length hi-QU 0 lo),Ta⟩
def zdq:V→Bool
 |.non=>true
 |.bl _=>true
 |.int _=>true
 |.str _=>true
 |_=>false
def eqV:V→V→Bool
 |.non,.non=>true
 |.bl a,.bl b=>a==b
 |.bl a,.int b=>(if a then 1 else 0)==b
 |.int a,.bl b=>a==(if b then 1 else 0)
 |.int a,.int b=>a==b
 |.str a,.str b=>a==b
 |_,_=>false
def eqAt_V(ry:YG u)(rx:W6 v)(fy:zdq y=true)(fx:zdq x=true):UC u v (eqV y x):=by
 cases y with
 |non =>
  cases ry
  cases x with
  |non=>cases rx;exact SeqAt.EqAt.same _
  |bl b=>cases rx;exact SeqAt.EqAt.none_bool b
  |int b=>obtain⟨t,rfl⟩:=rx;exact SeqAt.EqAt.none_int b t
  |str b=>obtain⟨t,rfl⟩:=rx;exact SeqAt.EqAt.none_str b t
  |_=>exact absurd (show false=true from fx) Zi
 |bl a =>
  cases ry
  cases x with
  |non=>cases rx;exact SeqAt.EqAt.bool_none a
  |bl b=>cases rx;exact SeqAt.EqAt.bool_bool a b
  |int b=>obtain⟨t,rfl⟩:=rx;exact SeqAt.EqAt.bool_int a b t
  |str b=>obtain⟨t,rfl⟩:=rx;exact SeqAt.EqAt.bool_str a b t
  |_=>exact absurd (show false=true from fx) Zi
 |int a =>
  obtain⟨t',rfl⟩:=ry
  cases x with
  |non=>cases rx;exact SeqAt.EqAt.int_none a t'
  |bl b=>cases rx;exact SeqAt.EqAt.int_bool a t' b
  |int b=>obtain⟨t,rfl⟩:=rx;exact DF t' b t
  |str b=>obtain⟨t,rfl⟩:=rx;exact SeqAt.EqAt.int_str a t' b t
  |_=>exact absurd (show false=true from fx) Zi
 |str a =>
  obtain⟨t',rfl⟩:=ry
  cases x with
  |non=>cases rx;exact SeqAt.EqAt.str_none a t'
  |bl b=>cases rx;exact SeqAt.EqAt.str_bool a t' b
  |int b=>obtain⟨t,rfl⟩:=rx;exact SeqAt.EqAt.str_int a t' b t
  |str b=>obtain⟨t,rfl⟩:=rx;exact Je a t' b t
  |_=>exact absurd (show false=true from fx) Zi
 |_=>exact absurd (show false=true from fy) Zi
def eqU(x:V)(u:Value):Bool:=match u with
 |.none=>eqV .non x
 |.bool b=>eqV (.bl b) x
 |.int i _=>eqV OE x
 |.str z _=>eqV Pl x
 |_=>false
def eqU_of(r:YG u)(f:zdq y=true):eqU x u=eqV y x:=by
 cases y with
 |non=>cases r;rfl
 |bl b=>cases r;rfl
 |int i=>obtain⟨t,rfl⟩:=r;rfl
 |str z=>obtain⟨t,rfl⟩:=r;rfl
 |_=>exact absurd (show false=true from f) Zi
theorem zg4:∀{xs:List V} {us:Nl},WR us→xs.all zdq=true→us.any LD=xs.any λy=>eqV y x
 |_,_,.nil,_=>rfl
 |y::xs,u::us,.cons r t,f=>by
  rw[List.all_cons,Jk]at f
  rw[Kg,Kg,eqU_of r f.1,zg4 t f.2]
theorem zd9(rx:W6 v)(fx:zdq x=true):∀{xs:List V} {us:Nl},WR us→xs.all zdq=true→∀u∈us,UC u v (eqU x u)
 |_,_,.nil,_=>λu hu=>by cases hu
 |y::xs,u::us,.cons r t,f=>λu' hu=>by
  rw[List.all_cons,Jk]at f
  rcases Qh.mp hu with rfl | hu
  ·rw[eqU_of r f.1];exact eqAt_V r rx f.1 fx
  ·exact zd9 rx fx t f.2 u' hu
def inV(x:V)(xs:List V):Bool:=xs.any λy=>eqV y x
inductive RrIn(K:Na)(neg:Bool)(x:V)(y:V)(H:Hp)(Q:VK):Prop
 |mk (p:_) (xs:_) (h0:y=.ref p) (h1:(SqL K H p xs∨SqT K H p xs)) (h2:zdq x=true) (h3:xs.all zdq=true) (h4:Q (.bl (if neg then !inV x xs else inV x xs)) H):RrIn K neg x y H Q
def rIn(K:Na)(neg:Bool):R2:=λx y H Q=>RrIn K neg x y H Q
def op_in_seq:YX (compareOp .In) (rIn X.K false):=by
 intro a5 s σ H x y v u Q I rx ry h
 obtain⟨p,xs,rfl,hq,fx,fs,q⟩:=h
 cases ry
 rcases hq with hq | hq
 ·obtain ⟨a7,r,pl,hz⟩:=I.list hq
  refine SeqAt.in_listAt LD pl.isList (λw hw=>BL xI) ⟨.bl _,H,I,rfl,?_⟩
  rw[show a7.toArray.any LD=a7.any LD by simp,zg4 r fs]
  exact q
 ·obtain ⟨a7,r,pl,hz⟩:=I.tuple hq
  refine SeqAt.in_tupleAt LD pl (λw hw=>BL xI) ⟨.bl _,H,I,rfl,?_⟩
  rw[show a7.toArray.any LD=a7.any LD by simp,zg4 r fs]
  exact q
def zcp:YX (compareOp .NotIn) (rIn X.K true):=by
 intro a5 s σ H x y v u Q I rx ry h
 obtain⟨p,xs,rfl,hq,fx,fs,q⟩:=h
 cases ry
 rcases hq with hq | hq
 ·obtain ⟨a7,r,pl,hz⟩:=I.list hq
  refine SeqAt.notIn_listAt LD pl.isList (λw hw=>BL xI) ⟨.bl _,H,I,rfl,?_⟩
  rw[show a7.toArray.any LD=a7.any LD by simp,zg4 r fs]
  exact q
 ·obtain ⟨a7,r,pl,hz⟩:=I.tuple hq
  refine SeqAt.notIn_tupleAt LD pl (λw hw=>BL xI) ⟨.bl _,H,I,rfl,?_⟩
  rw[show a7.toArray.any LD=a7.any LD by simp,zg4 r fs]
  exact q
def za0:Y2 (.builtin "len") (λxs H Q=>Ex2 λp ys=>Aj3 (xs=[Tn]) (AI∨xJ) (Q Ez H)):=by
 intro a5 s σ H xs us Q I r h
 obtain⟨p,ys,rfl,hq,q⟩:=h
 obtain⟨u,rfl,rx⟩:=vals1 r
 cases rx
 have hn:=zfr
 rcases hq with hq | hq
 ·obtain ⟨a7,r',pl,hz⟩:=I.list hq
  have ae:=r'.length
  exact Calls.call_len_list pl.isList (by simp only[Qy]<;>lia) ⟨Ez,H,Sg,⟨s.toks+1,by rw[Qy,ae]⟩,q⟩
 ·obtain ⟨a7,r',pl,hz⟩:=I.tuple hq
  have ae:=r'.length
  exact len_tuple pl (by simp only[Qy]<;>lia) ⟨Ez,H,Sg,⟨s.toks+1,by rw[Qy,ae]⟩,q⟩
def call_len_str:Y2 (.builtin "len") (λxs H Q=>Ex1 λz=>Aj3 (xs=[Pl]) (z.length≤sizeLine) (Q (.int z.length) H)):=by
 intro a5 s σ H xs us Q I r h
 obtain⟨z,rfl,hz,q⟩:=h
 obtain⟨u,rfl,t,rfl⟩:=vals1 r
 have hn:=zfr
 exact len_str HI ⟨.int z.length,H,Sg,⟨_,rfl⟩,q⟩
def zc4:Y2 (.type "list") (λxs H Q=>Ex2 λp ys=>Aj3 (xs=[Tn]) (AI∨xJ) (∀l,H l=none→Q Sy (LS l ys))):=by
 intro a5 s σ H xs us Q I r h
 obtain⟨p,ys,rfl,hq,q⟩:=h
 obtain⟨u,rfl,rx⟩:=vals1 r
 cases rx
 have fin:∀(a7:Nl),YM a7→ys.length≤sizeLine→∀(h':Np) (c':Nat),(∀b o',s.heap.get? b=some o'→h'.get? b=some o') →
   h'.get? s.heap.objs.size=some {cls:=.type "list",dict:=none,data:=.seq a7.toArray c',slots:=#[]}→QF Q Hu {s with heap:=h'}:=λa7 r' hz h' c' kp e =>
  ⟨Hu,_,I.laid (t':=s.toks) kp Hx (show QJ _ h' _ (Hr ys) from⟨hz,a7,c',r',e⟩),rfl,yz⟩
 rcases hq with hq | hq
 ·obtain ⟨a7,r',pl,hz⟩:=I.list hq
  have ae:=r'.length
  obtain⟨o,ho,hc,n,hd⟩:=pl.isList
  exact call_list_seq p HW ho hc hd (λh' c' kp e=>fin a7 r' hz h' c' kp e) (by simp only[Qy]<;>exact ze9 ‹_› ‹_›)
 ·obtain ⟨a7,r',pl,hz⟩:=I.tuple hq
  have ae:=r'.length
  obtain⟨o,ho,hc,n,hd⟩:=pl
  exact call_list_seq p (SC rfl) ho hc hd (λh' c' kp e=>fin a7 r' hz h' c' kp e) (by simp only[Qy]<;>exact ze9 ‹_› ‹_›)
def zi8:Y2 (.type "tuple") (λxs H Q=>Ex2 λp ys=>Aj2 (xs=[Tn]) ((Aj2 AI (∀l,H l=none→Q Sy (ZX l Lv)))∨(Aj2 (Vr p ys) (Q Tn H)))):=by
 intro a5 s σ H xs us Q I r h
 obtain⟨p,ys,rfl,h⟩:=h
 obtain⟨u,rfl,rx⟩:=vals1 r
 cases rx
 rcases h with⟨hq,q⟩ | ⟨hq,q⟩
 ·obtain ⟨a7,r',pl,hz⟩:=I.list hq
  have ae:=r'.length
  refine call_tuple_list pl.isList (λh' kp=>?_) (by simp only[Qy]<;>exact ze9 ‹_› ‹_›)
  have I1:ZA H {s with heap:=h'}:=I.kept (t':=s.toks) kp
  have I2:ZA (ZX h'.objs.size Lv) {s with heap:=h'.push {cls:=.type "tuple",data:=.seq a7.toArray}} :=
   I1.laid (t':=s.toks) (λb o e=>WN e) Hx (show QJ _ _ _ Lv from⟨hz,a7,r',IsTup.new _ _⟩)
  exact⟨.ref h'.objs.size,_,I2,rfl,q _ TB⟩
 ·obtain ⟨a7,r',pl,hz⟩:=I.tuple hq
  exact call_tuple_same pl ⟨Tn,H,I,rfl,q⟩
def tyV(K:Na)(T:String)(x:V)(H:Hp):Prop:=match x with
 |.str _=>T = "str"
 |.int _=>T = "int"
 | .ref p=>(T = "list" ∧ ∃ xs,YE p xs)∨(T = "tuple" ∧ ∃ o,K.lookup p=some o∧o.cls=.type "tuple" ∧ o.dict=none) ∨
   (T = "dict" ∧ ((∃kvs,H p=some RU)∨∃kvs,H p=some TX))∨(T = "set" ∧ ∃S n,H p=some (.set S n))
 |_=>False
def tyV_is(I:HP)(r:W6 v)(ty:tyV X.K T x H) :
  s.TypeIs v T∧∀a,v=.ref a→∃ob,s.heap.get? a=some ob∧ob.dict=none:=by
 cases x with
 |str z =>
  obtain⟨t,rfl⟩:=r
  cases(show T = "str" from ty)
  exact⟨typeIs_str s z t,λ_ e=>nomatch e⟩
 |int i =>
  obtain⟨t,rfl⟩:=r
  cases(show T = "int" from ty)
  exact⟨typeIs_int s i t,λ_ e=>nomatch e⟩
 | ref p =>
  cases r
  rcases ty with⟨rfl,xs,hq⟩ | ⟨rfl,o,hk,hc,hd⟩ | ⟨rfl,hk⟩ | ⟨rfl,S,n,hk⟩
  ·obtain ⟨a7,_,pl,_⟩:=I.list hq
   refine⟨pl.isList.typeIs,λa e=>?_⟩
   cases e
   obtain⟨o,n,e,c,hd,_⟩:=pl
   exact⟨o,e,hd⟩
  ·refine ⟨⟨o,xr p,hc⟩,fun a e=>?_⟩
   cases e
   exact⟨o,xr _,hd⟩
  ·have z:∃ o,s.heap.get? p=some o∧o.ExactDict:=by
    rcases hk with⟨kvs,hk⟩ | ⟨kvs,hk⟩
    ·obtain ⟨_,_,_,_,o,_,_,e,ex,_⟩:=X1 hk
     exact⟨o,e,ex⟩
    ·obtain ⟨_,_,_,_,o,_,_,e,ex,_⟩:=X1 hk
     exact⟨o,e,ex⟩
   obtain⟨o,e,ex⟩:=z
   refine⟨⟨o,e,ex.1⟩,λa e2=>?_⟩
   cases e2
   exact⟨o,e,ex.2.1⟩
  ·obtain ⟨o,_,_,_,e,ex,_⟩:=X1 hk
   refine⟨⟨o,e,ex.1⟩,λa e2=>?_⟩
   cases e2
   exact⟨o,e,ex.2.1⟩
 |_=>exact False.elim ty
def tBM0(K:Na)(T:String)(r:V→List V→Hp→VK→Prop)(to:TE):TE:=λ σ H Q=>to σ H λx H1=>tyV K T x H1∧r x [] H1 Q
def tBM(K:Na)(T:String)(r:V→List V→Hp→VK→Prop)(to:TE)(t:TA):TE:=λ σ H Q=>to σ H λx H1=>tyV K T x H1∧t σ H1 λxs H2=>r x xs H2 Q
variable{o e:Expr}{es:Nt}{to:TE}{t:TA}{name:Str}{apos cpos:Pos}{T id:String}{r:V→List V→Hp→VK→Prop}
def pe_bm0(pa:PlainAttrs T)(slot:Slot T name id)(tE:typeOf LR=pure (.type "method_descriptor"))(hm:MtR X id r)(ho:Z9 o to)(gJ:attributeBase o name X.env yM=eval o X.env:=by rfl)(gb:(apos.endLine==cpos.line)=true:=by rfl):Z9 (.Call P8 [] [] cpos) (tBM0 X.K T r to):=by
 intro a5 s σ H Q I h
 refine wpAny_Call_method0_late gJ gb (thn Sv λv s1 ⟨x,H1,I1,r1,ty,q1⟩=>?_)
 obtain⟨h1,h2⟩:=tyV_is I1 r1 ty
 exact⟨T,id,pa,slot,tE,h1,h2,Jf rfl (PySem.evalArgs_none (hm a5 s1 σ H1 x [] v [] Q I1 r1 .nil q1))⟩
def zek(pa:PlainAttrs T)(slot:Slot T name id)(tE:typeOf LR=pure (.type "method_descriptor"))(hm:MtR X id r)(ho:Z9 o to)(ha:VX (e::es) t)(gJ:attributeBase o name X.env yM=eval o X.env:=by rfl)(uL:((An (starEach (e::es) X.env)).all (fun x=>!x.1) && (backToKw cpos (keywordEach [] X.env)).all (fun x=>x.1.isSome)
   && decide ((e::es).length+([]:List Keyword).length+(if([]:List Keyword).isEmpty then 0 else 1)<30))=true:=by rfl)(gb:(apos.endLine==cpos.line)=true:=by rfl)(hs:starEach (e::es) X.env=(false,C1)::starEach es X.env:=by rfl)(jX:(An Sr).any (·.1)=false:=by rfl) :
  PE X (.Call P8 (e::es) [] cpos) (tBM X.K T r to t):=by
 intro a5 s σ H Q I h
 refine wpAny_Call_method_late gJ uL gb rfl (thn Sv λv s1 ⟨x,H1,I1,r1,ty,q1⟩=>?_)
 obtain⟨h1,h2⟩:=tyV_is I1 r1 ty
 refine⟨T,id,pa,slot,tE,h1,h2,?_⟩
 have hA:=ha cpos a5 s1 σ H1 _ I1 q1
 rw[hs]at hA ⊢
 refine Jf (by show(false||(backTo cpos Sr).any (·.1))=false;rw[jX]<;>rfl) (Kt ?_)
 exact thn hA λus s2 ⟨vs,H2,I2,r2,q2⟩=>hm a5 s2 σ H2 x vs v us Q I2 r1 r2 q2
end
end L2
namespace L2
open PySem PySem.Spec PyProof.Rows
def MtM(X:Cx)(id:String)(r:V→List V→Hp→VK→Prop):Prop :=
 ∀(a5:Ni) (s:Nj) (σ:St) (H:Hp) (x:V) (xs:List V) (v:Value) (us:Nl) (Q:VK),ZA H s→W6 v→WR us→r x xs H Q →
  wpAny Hm X.A (Fk (v::us)) TK X.xe s
theorem Vals.one:∀{x:V} {us:Nl},Vals [x] us→∃u,us=[u]∧W6 u
 |_,_,.cons r .nil=>⟨_,rfl,r⟩
theorem Vals.zero:∀{us:Nl},Vals [] us→us=[]
 |_,.nil=>rfl
def Vals.dropLast{xs:List V}{us:Nl}(h:WR us):Vals xs.dropLast us.dropLast:=by
 induction h with
 |nil=>exact .nil
 |cons r t ih =>
  cases t with
  |nil=>exact .nil
  |cons q t'=>exact .cons r ih
def Vals.reverse{xs:List V}{us:Nl}(h:WR us):Vals xs.reverse us.reverse:=by
 induction h with
 |nil=>exact .nil
 |cons r t ih=>rw[List.reverse_cons,List.reverse_cons];exact Vals.append ih (Sa r)
def erase_last{α:Type}(l:List α):l.eraseIdx (l.length - 1)=l.dropLast:=by
 induction l with
 |nil=>rfl
 | cons a r ih =>
  cases r with
  |nil=>rfl
  | cons b r =>
   have e:(a::b::r).length-1=((b::r).length-1)+1:=by
    have h1:(a::b::r).length=r.length+2:=rfl
    have h2:(b::r).length=r.length+1:=rfl
    assumption
   rw[e,List.eraseIdx_cons_succ,ih]
   all_goals rfl
section
variable{X:Cx}{a5:Ni}{σ:St}{H:Hp}{s:Nj}{l b:Nc}{xs ys zs:List V}
def Inv.lset{a7 its':Nl}{n:Nat}{f:Array Value→Array Value}{t':Nat}(I:HP)(hH:H l=some Tj)(e:s.heap.get? l=some {cls:=.type "list",data:=.seq a7.toArray n})(hf:f a7.toArray=its'.toArray)(hv:YM its')(hz:ys.length≤sizeLine) :
  Inv X a5 σ (LS l ys) {s with heap:=s.heap.update l (Obj.mapSeq f),toks:=t'}:=by
 have q:=PySem.IsL.update e f
 rw[hf]at q
 refine I.write (x:=l) (e:=l) (by rw[hH];exact trivial) HW (λb' u hb hu=>(Yj s.heap (Obj.mapSeq f) AH).trans hu) ⟨_,q⟩ ?_
 exact⟨hz,its',_,hv,q⟩
def Inv.lnew(I:HP)(hv:YM a7)(hz:ys.length≤sizeLine) :
  Inv X a5 σ (Oq (Hr ys)) {s with heap:=s.heap.push {cls:=.type "list",data:=.seq a7.toArray},toks:=t'} :=
 I.laid (λ_ _ q=>WN q) Hx ⟨hz,a7,0,hv,Ta⟩
def Inv.fresh(I:HP):H s.heap.objs.size=none:=I.hok.fresh Hx
def Inv.lstM(I:HP)(hH:H l=some Tj):xs.length≤sizeLine∧∃(a7:Nl) (n:Nat),WR a7∧xs.length=a7.length∧s.heap.get? l=some {cls:=.type "list",data:=.seq a7.toArray n}:=by
 obtain⟨z,a7,n,r,e⟩:=I.hok l _ hH
 exact⟨z,a7,n,r,r.length,e⟩
end
section
variable{X:Cx}
inductive RrAppend(x:V)(vs:List V)(H:Hp)(Q:VK):Prop
 |mk (l:_) (xs:_) (y:_) (h0:x=.ref l) (h1:vs=[y]) (h2:H l=some (.lst xs)) (h3:xs.length<sizeLine) (h4:Q .non (upd H l (.lst (xs++[y])))):RrAppend  x vs H Q
def rAppend:V→List V→Hp→VK→Prop:=λx vs H Q=>RrAppend  x vs H Q
def zbv:MtM X "list.append" rAppend:=by
 intro a5 s σ H x vs v us Q I rx rv h
 obtain⟨l,xs,y,rfl,rfl,hH,hz,q⟩:=h
 cases rx
 obtain⟨u,rfl,ru⟩:=rv.one
 obtain⟨z,a7,n,r,hl,e⟩:=I.lstM hH
 refine call_meets F.slot_list_append ⟨_,e,rfl⟩ F.entry_list_append (BW _) (PySem.list_append l a7.toArray n u (by rw[Qy];exact ze9 ‹_› ‹_›)) ⟨e,?_⟩
 refine⟨.non,_,I.lset (its':=a7++[u]) hH e Ha (r.append (Sa ru)) ?_,rfl,q⟩
 rw[Qw,Uz]
 assumption
inductive RrPop(x:V)(vs:List V)(H:Hp)(Q:VK):Prop
 |mk (l:_) (xs:_) (y:_) (h0:x=.ref l) (h1:vs=[]) (h2:H l=some (.lst xs)) (h3:xs[xs.length-1]?=some y) (h4:Q y (upd H l (.lst xs.dropLast))):RrPop  x vs H Q
def rPop:V→List V→Hp→VK→Prop:=λx vs H Q=>RrPop  x vs H Q
def mt_pop:MtM X "list.pop" rPop:=by
 intro a5 s σ H x vs v us Q I rx rv h
 obtain⟨l,xs,y,rfl,rfl,hH,hy,q⟩:=h
 cases rx
 have hus:=rv.zero
 subst hus
 obtain⟨z,a7,n,r,hl,e⟩:=I.lstM hH
 obtain⟨u,hu,ru⟩:=r.get hy
 have cr:a7.toArray[a7.toArray.size-1]?=some u:=by
  show a7.toArray[a7.length-1]?=some u
  rw[←Uk,←hl]
  exact hu
 refine call_meets F.slot_list_pop ⟨_,e,rfl⟩ F.entry_list_pop (F.args_list_pop_1 _) (MeetsSeq.list_pop_last l a7.toArray n u cr (by rw[Qy];exact ze9 ‹_› ‹_›)) ⟨e,?_⟩
 refine⟨y,_,I.lset (its':=a7.dropLast) hH e ?_ r.dropLast ?_,ru,q⟩
 ·show a7.toArray.eraseIdxIfInBounds (a7.toArray.size - 1)=a7.dropLast.toArray
  rw[Qy,List.eraseIdxIfInBounds_toArray,erase_last]
 ·rw [List.length_dropLast]
  lia
inductive RrCat(x:V)(y:V)(H:Hp)(Q:VK):Prop
 |mk (l:_) (b:_) (xs:_) (zs:_) (h0:x=.ref l) (h1:y=.ref b) (h2:H l=some (.lst xs)) (h3:H b=some (.lst zs)) (h4:xs.length+zs.length≤sizeLine) (h5:∀p,H p=none→Q (.ref p) (upd H p (.lst (xs++zs)))):RrCat  x y H Q
def rCat:R2:=λx y H Q=>RrCat  x y H Q
def zgn:YX OG rCat:=by
 intro a5 s σ H x y v u Q I rx ry h
 obtain⟨l,b,xs,zs,rfl,rfl,hH,hB,hz,q⟩:=h
 cases rx
 cases ry
 obtain⟨z,a7,n,r,hl,e⟩:=I.lstM hH
 obtain⟨z2,aO,n2,r2,aw,e2⟩:=I.lstM hB
 refine PySem.P.add_list e e2 ?_ (by rw[Qy,Qy];lia)
 have ea:a7.toArray++aO.toArray=(a7++aO).toArray:=by simp
 rw[ea]
 exact⟨Hi _,_,I.lnew (t':=s.toks) (r.append r2) (by rw[Qw];assumption),rfl,q _ I.fresh⟩
end
section
variable{prog:Nk}{w:Nn}{A:Nq}{E:Nd}{s:Nj}
end
section
variable{X:Cx}
end
end L2
namespace Att
open PySem PySem.W PySem.Calls PyProof.Rows
def zgu:∀(ns:List Int) (vs:Nl),WellAll P h vs yR→KM ns:=by
 intro ns
 induction ns with
 |nil =>
  intro vs w
  rw[Xr]at w
  cases w
  exact .nil
 | cons n ns ih =>
  intro vs w
  rw[Qm]at w
  cases w with
  |cons a b =>
   cases a
   exact .cons _ _ (ih _ b)
def script_of{l:OpenLaw}{n:Nat}(hn:l.most=some n){P:Params}{h:Np}{args:List WData}{jB:Nl}(iw:l.row.toRowW.claim.pre args=true)(dw:WellAll P h jB args) :
  ∃a vs ns,jB=[xU a]∧args=[WData.list yR]∧h.get? a=some {cls:=.type "list",data:=.seq vs.toArray}∧KM ns∧ns.length≤n:=by
 have tN:WShape.hasAll [] args [.list .int]=true:=(pre_splitW iw).1
 have hc:l.pre.holds [] {args:=args}=true:=(pre_splitW iw).2
 obtain⟨d,r,rfl,h1,h2⟩:=hasAllW_cons tN
 obtain rfl:=hasAllW_nil h2
 obtain⟨xs,rfl,h3⟩:=hasW_list h1
 obtain⟨ns,rfl⟩:=items_int h3
 have ae:ns.length≤n:=by
  unfold OpenLaw.pre at hc
  have h4:(WTm.not (.lt (.lit (.int (n:Int))) (.len (.arg 0)))).holds [] {args:=[.list (ns.map .int)]}=true:=by
   have h4:=(holds_andW hc).1
   rw[hn]at h4
   exact h4
  have h5:=condW_of h4 (w_not (w_lt w_lit (w_len_list (w_arg rfl))))
  rw[Qa]at h5
  refine Nat.le_of_not_lt λq=>?_
  have q':(n:Int)<((ns.length:Nat):Int):=by exact zar9 ‹_›
  first
   |(rw[decide_eq_true q']at h5;exact absurd h5 (by decide))
   |(simp at h5;lia)
 cases dw with
 |cons w1 w2 =>
  cases w2
  cases w1 with
  |list ho aR=>exact⟨_,_,ns,rfl,rfl,ho,zgu ns _ aR,ae⟩
def post_true(l:OpenLaw)(args:List WData):l.row.toRowW.claim.post args To args=true :=
 postW_of (r:=l.row.toRowW) (X:=(true==true))
  (show WShape.has [] To .bool=true by first | rfl | decide | simp[WShape.has,WShape.arms,WShape.armsAll])
  (show(WTm.eq .res (.lit To)).value [] {args:=args,res:=some To,after:=args}=some (Ow (true==true)) from w_eq_bool (w_res rfl) w_lit) rfl
def attach_call{l:OpenLaw}{n:Nat}{q:Nk}{loose:Nh}{XP:(Str→Option Value)→Heap→Prop}{YP:World→Heap→Prop}{d:DefRec}(hn:l.most=some n)(pB:d.params.defaults=[])(call:∀ (w:Nn) (s₀ s₁:Nj) (mg mb:Ng) (fa:Nc) (o:Obj) (pm cd doc:Value) (a:Nc) (vs:Nl) (ns:List Int),
   Ground q loose [] XP w s₀ mg mb s₁.heap→YP w s₁.heap →
   s₁.heap.get? fa=some o→o.data=.func (docDef d.name d.params d.body d.scope pm cd doc)→s₁.heap.CodeRec cd d.name→mg d.name=some IE →
   s₁.heap.get? a=some {cls:=.type "list",data:=.seq vs.toArray}→KM ns→ns.length≤n→s₁.gens=#[] →
   codeAny (model l.prog w) callerA (.call IE ⟨[RV],[]⟩) (λr s'=>r=.ok (.ret To)∧OldK s₁.heap s'.heap∧s'.os=s₁.os∧AllBare s'.gens) s₁) :
  WalkO q loose XP YP l.row.toRowW d [] (λf vs=>NO vs):=by
 intro w s₀ s₁ mg mb G Y fa o pm cd doc dV kV ho hd aJ hD uq hg args jB as iw hlay hrd dw lS
 obtain rfl:dV=.none:=Dflts.none hD pB
 obtain rfl:kV=.none:=Dflts.noKw hD
 obtain⟨a,vs,ns,rfl,rfl,ki,gn,ae⟩:=script_of hn iw dw
 refine enter_call (codeAny_mono (call w s₀ s₁ mg mb fa o pm cd doc a vs ns G Y ho (fd_plain hd) aJ uq ki gn ae hg) λr s' hq=>?_)
 obtain⟨rfl,h2,h3,h4⟩:=hq
 exact⟨.inl ⟨To,To,[],rfl,λ_=>rfl,To,post_true l _,λ_=>⟨List.Pairwise.nil,λ_ hm=>(nomatch hm)⟩⟩,h2,h3,h4⟩
section
variable{prog:Nk}{w:Nn}{A:Nq}{E:Nd}{s:Nj}{K:Frag}
end
end Att
namespace L2
open PySem PySem.Spec PyProof.Rows
theorem vals_ints:∀{vs:Nl} {ns:List Int},KM ns→DZ vs
 |_,_,.nil=>.nil
 |_,_,.cons n t h=>.cons ⟨t,rfl⟩ (vals_ints h)
def Only(H:Hp):Prop:=∀b,H b=none∨∃o xs,H b=some (.frz o Tj)
def law_call{P:Nk}{w:Nn}{K:Na}{mg mb:Ng}{CX:CXT}{k:Nat}{fa a:Nc}{fd:Nw}{x:Str}{sp:Sp}{s₁:Nj}{vs:Nl}{ns:List Int}(KX:K.In s₁.heap)(oh:s₁.heap.Ns mainGlobals mg)(hb:s₁.heap.Ns builtinsNs mb)(hbb:∀x:Str,x ≠ "__name__" → mb x=bootBuiltins x)(uy:s₁.heap.NoLimit)(hg:s₁.gens=#[])(ha:s₁.heap.get? a=some {cls:=.type "list",data:=.seq vs.toArray})(hi:KM ns)(hl:ns.length≤sizeLine)(hr:U5 callerA)(F:∀base:Heap,K.In base→base.Ns mainGlobals mg→ZC CX k fa fd [x] sp)(pM:∀(s:Shared) (u:Value),Bc ⟨[u],[]⟩ [(x,u)])(bX:∀H:Hp,Only H→W0 LE→sp [RV] H (λv _=>v=.bl true) λ_ _ _=>False)(vd:∀H e s',CX [] H s₁ (λ_ _ _=>False) e s'→False) :
  codeAny CM callerA (.call IE ⟨[RV],[]⟩) (λr s'=>r=.ok (.ret To)∧OldK s₁.heap s'.heap∧s'.os=s₁.os∧AllBare s'.gens) s₁:=by
 have rv:=vals_ints hi
 have lenV:=hi.length
 have core:∀ H:Hp,Only H→W0 LE→WZ s₁.heap→(∀ b,H b≠none→b=a)→(H a≠none→K.lookup a=none) →
   codeAny CM callerA (.call IE ⟨[RV],[]⟩) (λr s'=>r=.ok (.ret To)∧OldK s₁.heap s'.heap∧s'.os=s₁.os∧AllBare s'.gens) s₁:=by
  intro H hO hS hok hA hK
  have base_of:∀{b:Nc} {o:Obj},s₁.heap.get? b=some o→H b=none→(Bn H).get? b=some o:=λe n=>hidT_get e n
  have noA:∀{b:Nc} {o:Obj} {es:Array DictEntry} {ep:Nat},s₁.heap.get? b=some o→o.data=.dict es ep→H b=none:=λ{b o es ep} e d=>by
   cases q:H b with
   |none=>rfl
   |some u =>
    have e':b=a:=hA b (by rw[q];simp)
    subst e'
    rw[ha]at e;cases e
    have d':Data.seq vs.toArray _=Data.dict es ep:=d
    cases d'
  have nsK:∀{b:Nc} {m:Ng},s₁.heap.Ns b m→(Bn H).Ns b m:=λ{b m} ⟨o,es,ep,e,d,r⟩=>⟨o,es,ep,base_of e (noA e d),d,r⟩
  have hKb:K.In (Bn H):=λb o e=>base_of (KX b o e) (by
   cases q:H b with
   |none=>rfl
   |some u =>
    have e':b=a:=hA b (by rw[q];simp)
    subst e'
    rw[hK (by rw[q];simp)]at e;cases e)
  have hM:Mod K mg (Bn H):=⟨hKb,nsK oh,⟨mb,nsK hb,hbb⟩,let⟨mc,h1,h2⟩:=uy;⟨mc,nsK h1,h2⟩⟩
  have e0:Env0 P w K mg (Bn H) callerA [] s₁ H:=⟨rfl,hM,λb o e=>of_hidT e,Kp (hidT_size _ _),trivial,λb hb=>absurd (show b∈([]:List Addr) from hb) Ha,hok,.of_eq hg⟩
  refine codeAny_mono ((F _ hKb (nsK oh)).run callerA [] s₁ H ⟨[RV],[]⟩ [RV] [RV] _ _ hr e0 (pM s₁ RV) (Sa rfl) (bX H hO hS)) λr s' h=>?_
  cases r with
  |error e=>exact(vd H e s' h).elim
  | ok fl =>
   cases fl with
   |next=>exact False.elim h
   |brk=>exact False.elim h
   |cont=>exact False.elim h
   | ret u =>
    obtain⟨v,H',os,bare,un,ug,r',q⟩:=h
    have q':v=.bl true:=q
    subst q'
    obtain rfl:u=Value.bool true:=r'
    refine⟨rfl,OldK.of_keep λb o e=>?_,os,bare⟩
    cases q:H b with
    |none=>exact un.keep b o e q (by intro z;exact absurd (show b∈([]:List Addr) from z) Ha) Ha
    | some u =>
     rcases hO b with z | ⟨ob,xs,z⟩
     ·rw[q]at z;cases z
     ·have z2:=un.frzs b ob _ z
      obtain⟨e1,_⟩:=hok b _ z
      obtain⟨e2,_⟩:=ug b _ z2
      rw[e]at e1;cases e1
      exact e2
 cases hk:K.lookup a with
 |some o =>
  have e:=KX a o hk
  rw[ha]at e
  cases e
  refine core (λ_=>none) (λ_=>.inl rfl) (SC ⟨_,vs.toArray,_,hk,rfl,rfl,rfl,by rw[Qy,lenV];exact hl,He rv⟩) (λb u z=>by have z':(none:Option HO)=some u:=z;cases z') (λb z=>absurd rfl z) λz=>absurd rfl z
 | none =>
  refine core (λb=>if b=a then some (.frz {cls:=.type "list",data:=.seq vs.toArray} (Hr LE)) else none) (λb=>?_) (RH (.inr ⟨{cls:=.type "list",data:=.seq vs.toArray},if_pos rfl⟩)) (λb u z=>?_) (λb z=>?_) λ_=>hk
  ·by_cases hb:b=a
   ·exact .inr ⟨_,_,Si hb⟩
   ·exact .inl (Sb hb)
  ·by_cases hb:b=a
   ·have z':=(Si hb).symm.trans z
    cases z'
    subst hb
    exact⟨ha,Hl Qa hl,vs,_,rv,ha⟩
   ·have z':=(Sb hb).symm.trans z
    cases z'
  ·by_cases hb:b=a
   ·exact hb
   ·exact absurd (Sb hb) z
end L2
namespace L2
open PySem PySem.Spec PyProof.Rows
def walk_of{l:PySem.W.OpenLaw}{n k:Nat}{q:Nk}{loose:Nh}{XP:(Str→Option Value)→Heap→Prop}{YP:World→Heap→Prop}{d:DefRec}{K:Params→PySem.W.Frag}{CX:World→CXT}{sp:World→Sp}{x:Str}(hn:l.most=some n)(bC:n≤sizeLine)(pB:d.params.defaults=[])(hr:U5 callerA)(hY:∀(w:World) (h:Heap),YP w h→(K w.params).In h)(F:∀ (w:Nn) (mg:Ng) (fa:Nc) (h:Np),(K w.params).In h→h.Ns mainGlobals mg→mg d.name=some IE →
   ∃fd:FuncData,(∀(s:Nj) (u:Value),Bc ⟨[u],[]⟩ [(x,u)]) ∧
    ∀base:Heap,(K w.params).In base→base.Ns mainGlobals mg→KN (CX w) k fa fd [x] (sp w))(bX:∀(w:Nn) (H:Hp) (a:Nc) (ns:List Int),ns.length≤n→Only H→SqL AJ H a LE→sp w [RV] H (λv _=>v=.bl true) λ_ _ _=>False)(vd:∀(w:World) (H:Hp) (s:Shared) (e:Value) (s':Shared),CX w [] H s (λ_ _ _=>False) e s'→False) :
  PySem.W.WalkO q loose XP YP l.row.toRowW d [] (λf vs=>NO vs):=by
 refine Att.attach_call hn pB λw s₀ s₁ mg mb fa o pm cd doc a vs ns G Y ho hd aJ uq ki gn ae hg=>?_
 have KX:=hY w _ Y
 obtain⟨fd,hb,hF⟩:=F w mg fa _ KX G.T.g uq
 exact law_call KX G.T.g G.T.b G.T.builtins G.T.nolimit hg ki gn (Zg ae bC) hr hF hb (λH hO hS=>bX w H a ns ae hO hS) λH e s'=>vd w H s₁ e s'
end L2
namespace L2
open PySem PySem.Spec PyProof.Rows
def inClass(s:Stmt)(j:Nat):Stmt:=match s with
 |.ClassDef _ _ _ body _ _ _ _ _ _ _=>body.getD j (.Pass ⟨0,0,0,0⟩)
 |_=>.Pass ⟨0,0,0,0⟩
def zdl(s:Stmt):Arguments:=match s with
 |.FunctionDef _ a _ _ _ _ _ _ _ _=>a
 |_=>{posonlyargs:=[],args:=[],vararg:=none,kwonlyargs:=[],kw_defaults:=[],kwarg:=none,defaults:=[]}
def zct(s:Stmt):List Stmt:=match s with
 |.FunctionDef _ _ b _ _ _ _ _ _ _=>b
 |_=>[]
def zai(s:Stmt):Scope:=match s with
 |.FunctionDef _ _ _ _ _ _ sc _ _ _=>sc
 |_=>{kind:=.function,names:=[],isGenerator:=false,isCoroutine:=false}
abbrev CX0:CXT:=λ_ _ _ _ _ _=>False
abbrev E0:XK:=λ_ _ _=>False
def zdi:zg7 CX0 X E0:=λ_ _ _ _ _ _ _ h=>h.elim
structure Fun(K:Na)(x qual:Str)(st:Stmt)(f:Nc)(fd:Nw):Prop where
 ex:∃(oc:Value) (od:Option Addr) (kV doc pm:Value) (an:Option Addr) (cdv ct:Value) (osl:Array TL),
  fd=W3 LF .none kV doc pm an cdv ct∧K.lookup f=some ⟨oc,od,.func fd,osl⟩∧BK cdv qual=true
 kp:YO LL=true
section
variable{P:Nk}{w:Nn}{K:Na}{mg:Ng}{base:Np}
def Fun.ok{x qual:Str}{st:Stmt}{f:Nc}{fd:Nw}{N ps:Nh}{k:Nat}{sp:Sp}(F:Ou)(S:Mg LF)(len:∀vs H Q E,sp vs H Q E→vs.length=ps.length)(cQ:∀ (cdv:Value) (A:Nq) (outer:List Env) (s:Nj) (H:Hp) (vs:List V) (Q:VK) (E:XK),U5 CG→sp vs H Q E →
   ∃t,PSs (JZ E).nox (zct st) t∧t {nx:=λ_ H'=>Q .non H',rt:=Q} OR H):ZB (k+1) f fd ps sp:=by
 obtain⟨oc,od,kV,doc,pm,an,cdv,ct,osl,rfl,lk,aJ⟩:=F.ex
 refine fn_of lk aJ S len λA outer s H vs Q E hr bX=>?_
 obtain⟨t,h,q⟩:=cQ cdv A outer s H vs Q E hr bX
 exact⟨t,h.nox,q⟩
def Fun.binds{x qual:Str}{st:Stmt}{f:Nc}{fd:Nw}{ps:Nh}(F:Ou)(h:∀(kV doc pm:Value) (an:Option Addr) (cdv ct:Value) (us:Nl),us.length=ps.length→bindArgs TD ⟨us,[]⟩=pure Lu):W7 fd ps []:=by
 obtain⟨oc,od,kV,doc,pm,an,cdv,ct,osl,rfl,lk,aJ⟩:=F.ex
 exact .all (h kV doc pm an cdv ct)
def fun_mk{x qual:Str}{st:Stmt}{f:Nc}{oc:Value}{od an:Option Addr}{osl:Array TL}{kV doc pm cdv ct:Value}(l:K.lookup f=some ⟨oc,od,.func TD,osl⟩)(c:BK cdv qual=true)(k:YO LL=true):QE x qual st f TD:=⟨⟨oc,od,kV,doc,pm,an,cdv,ct,osl,rfl,l,c⟩,k⟩
end
def zb6(hr:U5 A):A.units+1<cLine:=Js (Nat.add_le_add_left (by decide:1≤64) _) hr.units
section
variable{X:Cx}
def pv(i:Nat)(hN:X.N[i]?=some x:=by rfl)(hv:Xy x:=by first | exact Or.inl rfl | exact Or.inr IF | exact Or.inr TY)(hd:RN=false:=by decide)(aJ:(x==("__classdict__" : Str))=false:=by decide):Z9 Ee (tVar i):=pe_var hN hv hd aJ
end
def iteF{A B:Prop}(h:B):if false=true then A else B:=by
 rw[if_neg Zi]
 exact h
def iteT{A B:Prop}(h:A):if true=true then A else B:=by
 rw[if_pos rfl]
 exact h
def ite2{c A B:Prop}[Decidable c](h1:c→A)(h2:¬c→B):if c then A else B:=by
 by_cases h:c
 ·rw [Si h]
  exact h1 h
 ·rw [Sb h]
  exact h2 h
section
variable{κ:Type}[DecidableEq κ]
end
end L2
end
section
namespace L2
open PySem PySem.Spec PyProof.Rows
def clOf(sc:Scope)(env:Env):List (Str×Addr):=sc.names.foldl Rh []
theorem cl_fold:∀(l:S1 (Str×NameKind)) (cs:S1 (Str×Addr)),(∀y∈l,y.2=.free→∃c,env.cells.lookup y.1=some c) →
  (forIn l cs (fun (y:Str×NameKind) (r:S1 (Str×Addr))=>(do
   let(name,kind):=y
   if(kind==.free)=true then do
    let a ←cellOf env name
    pure (Tl ((name,a)::r))
   else pure (Tl r):Sem (ForInStep (S1 (Str×Addr))))))=(pure (l.foldl Rh cs):Sem (S1 (Str×Addr)))
 |[],cs,_=>rfl
 | (n,k)::r,cs,h=>by
  rw[List.forIn_cons]
  have ih:=λcs=>cl_fold (env:=env) r cs λy hy=>h y Ei
  by_cases hk:(k==NameKind.free)=true
  ·obtain ⟨c,hc⟩:=h (n,k) Qb OS
   have cP:env.cells.lookup n=some c:=hc
   have e:cellOf env n=pure c:=by unfold cellOf;rw[cP]
   rw[Jp]
   dsimp only
   rw[if_pos hk,if_pos hk,e,cP]
   exact ih _
  ·rw [Jp]
   dsimp only
   rw[if_neg hk,if_neg hk]
   exact ih _
def zb0(h:∀y∈sc.names,y.2=.free→∃c,env.cells.lookup y.1=some c):closureFor sc env=pure (WS env):=by
 unfold closureFor
 have e:=cl_fold (env:=env) sc.names [] h
 exact(congrArg (λt:Sem (S1 (Str×Addr))=>t >>= λcs=>pure cs) e).trans rfl
theorem clOf_in{env:Env}{x:Str}{c:Nc}:∀(l:S1 (Str×NameKind)) (cs:S1 (Str×Addr)),(∀y∈l,y.2=.free→∃c,env.cells.lookup y.1=some c)→(∀x c,cs.lookup x=some c→env.cells.lookup x=some c) →
  (l.foldl Rh cs).lookup x=some c→env.cells.lookup x=some c
 |[],cs,_,hc,e=>hc _ _ e
 | (n,k)::r,cs,h,hc,e=>by
  rw[Jp]at e
  refine clOf_in r _ (λy hy=>h y Ei) ?_ e
  by_cases hk:(k==NameKind.free)=true
  ·obtain ⟨a,ha⟩:=h (n,k) Qb OS
   have me:env.cells.lookup n=some a:=ha
   dsimp only
   rw[if_pos hk,me]
   intro x c q
   rw[Ue]at q
   cases hx:x==n with
   |true =>
    rw[hx]at q
    have q':a=c:=Qn q
    have:x=n:=by simpa using hx
    rw[this,←q'];exact me
   |false =>
    rw[hx]at q
    exact hc x c q
  ·dsimp only
   rw[if_neg hk]
   exact hc
theorem zi4{env:Env}{x:Str}:∀(l:S1 (Str×NameKind)) (cs:S1 (Str×Addr)),((x,NameKind.free)∈l∨∃c,cs.lookup x=some c) →
  ∃c,(l.foldl Rh cs).lookup x=some c
 |[],cs,h=>by
  rcases h with h | h
  ·exact absurd h Ha
  ·exact h
 | (n,k)::r,cs,h=>by
  rw[Jp]
  refine zi4 r _ ?_
  rcases h with h | ⟨c,h⟩
  ·rcases Qh.mp h with e | e
   ·obtain ⟨rfl,rfl⟩:=Jg e
    exact .inr ⟨(env.cells.lookup x).getD 0,by dsimp only;rw[if_pos HQ,List.lookup_cons];simp⟩
   ·exact .inl e
  ·refine .inr ?_
   dsimp only
   by_cases hk:(k==NameKind.free)=true
   ·rw [Si hk,Ue]
    cases hx:x==n with
    |true=>exact⟨wI⟩
    |false=>exact⟨c,h⟩
   ·rw[if_neg hk];exact⟨c,h⟩
structure Blk(X:Cx)(sc:Scope)(M:Nh)(ix:Nv):Prop where
 kind:sc.kind=.function
 nocell:∀y∈sc.names,y.2≠.cell
 names:∀y∈sc.names,y.2=.local→sc.names.lookup y.1=some .local
 frees:∀y∈sc.names,y.2=.free→X.env.scope.names.lookup y.1=some .cell∨X.env.scope.names.lookup y.1=some .free
 len:ix.length=M.length
 nd:M.Nodup
 caps:∀(j i:Nat) (x:Str),M[j]?=some x→ix[j]?=some yQ→X.N[i]?=some x∧sc.names.lookup x=some .free
def inner(ix:Nv)(σ:St):St:=ix.map λo=>match o with | none=>none | some i=>(σ[i]?).join
def zii{sc:Scope}{env:Env}{x:Str}{oz:Option Str}(hn:∀ y∈sc.names,y.2=.cell→oz=some y.1)(h:(Oi sc).names.lookup x=some .cell∨(Oi sc).names.lookup x=some .free):(x,NameKind.free)∈sc.names∨oz=some x:=by
 have key:∀k',k'=.cell∨k'=.free→(x,k')∈(Oi sc).names→(x,NameKind.free)∈sc.names∨oz=some x:=λk' oJ hm=>by
  obtain⟨⟨n,k⟩,hy,e⟩:=Qf.mp hm
  dsimp only at e
  by_cases hb:(k==NameKind.free&&env.scope.kind==.function&&env.kindOf n==some .cell)=true
  ·rw [Si hb] at e
   obtain⟨rfl,_⟩:=Jg e
   have hk:k=.free:=by
    have:=(Bool.and_eq_true_iff.mp (Bool.and_eq_true_iff.mp hb).1).1
    simpa using this
   rw[hk]at hy
   exact .inl hy
  ·rw [Sb hb] at e
   obtain⟨rfl,rfl⟩:=Jg e
   rcases oJ with q | q
   ·exact .inr (hn _ hy q)
   ·rw[q]at hy;exact .inl hy
 rcases h with h | h
 ·exact key _ HW (Wp h)
 ·exact key _ (SC rfl) (Wp h)
def ocl(oz:Option Str)(C:Nc)(cl:List (Str×Addr)):List (Str×Addr):=match oz with
 |none=>cl
 |some z=>(z,C+1)::cl
def och(oz:Option Str)(h:Np):Heap:=match oz with
 |none=>h
 |some _=>h.push {cls:=.type "cell",data:=.cell none}
structure BlkG(X:Cx)(sc:Scope)(oz:Option Str)(M:Nh)(ix:Nv):Prop where
 kind:sc.kind=.function
 own:∀y∈sc.names,y.2=.cell→oz=some y.1
 one:∀n cl,cellsFrom (n+1) sc.names cl=KO n cl
 psh:∀h,pushCells h sc.names=Fl h
 zc:∀z,oz=some z→sc.names.lookup z=some .cell
 names:∀y∈sc.names,y.2=.local→sc.names.lookup y.1=some .local
 frees:∀y∈sc.names,y.2=.free→X.env.scope.names.lookup y.1=some .cell∨X.env.scope.names.lookup y.1=some .free
 len:ix.length=M.length
 nd:M.Nodup
 caps:∀(j i:Nat) (x:Str),M[j]?=some x→ix[j]?=some yQ→X.N[i]?=some x∧sc.names.lookup x=some .free
theorem zi7:∀{l:List (Str×NameKind)} (_:∀y∈l,y.2≠.cell),(∀n cl,cellsFrom n l cl=cl)∧∀h,pushCells h l=h
 |[],_=>⟨Hq,λ_=>rfl⟩
 |(a,k)::t,h=>by
  obtain⟨h1,h2⟩:=zi7 λy hy=>h y Ei
  have hk:(k==NameKind.cell)=false:=beq_eq_false_iff_ne.mpr (h (a,k) Qb)
  exact⟨λn cl=>by unfold cellsFrom;rw[hk];exact h1 n cl,λg=>by unfold pushCells;rw[hk];exact h2 g⟩
def Blk.g{X:Cx}{sc:Scope}{M:Nh}{ix:Nv}(B:YA ix):BlkG X sc none M ix :=
 ⟨B.kind,λy hy h=>absurd h (B.nocell y hy),λn cl=>(zi7 B.nocell).1 _ cl,(zi7 B.nocell).2,λ_ h=>(by cases h),B.names,B.frees,B.len,B.nd,B.caps⟩
def ze8(X:Cx)(sc:Scope)(oz:Option Str)(M:Nh)(C:Nc)(a5:Ni)(ex:No)(s:Nj)(H:Hp):Cx :=
 {X with N:=M,s₀:=s,H₀:=H,env:=compEnvC sc (KO C Tg) C X.env,outer:=X.stack,ex:=ex,fn:=λx=>oz==some x,pn:=X.pn++a5,xe:=λ_ _=>False}
abbrev zb4(X:Cx)(sc:Scope)(M:Nh)(C:Nc)(a5:Ni)(ex:No)(s:Nj)(H:Hp):Cx:=ze8 X sc none M C a5 ex s H
section
variable{M:Model}{A:Nq}{E:Nd}{s:Nj}
def newEnv_own{sc:Scope}{g:Nc}{cl:List (Str×Addr)}{q:Str}{env:Env}{oz:Option Str}{Q:Env→Shared→Prop}(one:∀n cl,cellsFrom (n+1) sc.names cl=KO n cl)(psh:∀h,pushCells h sc.names=Fl h)(hQ:Q (newEnv sc s.heap.objs.size g (KO s.heap.objs.size cl) q none .none (Hs env) builtinsNs) {s with heap:=Fl (s.heap.push {cls:=.type "dict",data:=.dict #[]})}) :
  wpAny M A (newFunctionEnv sc g cl [] q none .none (Hs env)) Q E s:=by
 simp only[newFunctionEnv,Option.isSome_some,if_true]
 refine wpAny_bind (wpAny_alloc ?_)
 refine wpAny_bind (wpAny_layCells _ (λname kind cells=>by cases hkc:kind==NameKind.cell<;>simp[hkc]) _ _ _ _ ?_)
 rw[psh,show({s with heap:=s.heap.push {cls:=.type "dict",data:=.dict #[]}}:Shared).heap.objs.size=s.heap.objs.size+1 from Ws ..,one]
 exact wpAny_pure hQ
end
section
variable{X:Cx}{sc:Scope}{oz:Option Str}{M:Nh}{ix:Nv}{a5:Ni}{σ:St}{H:Hp}{s:Nj}
def BlkG.clos(B:XM ix)(I:HP):∀y∈sc.names,y.2=.free→∃c,X.env.cells.lookup y.1=some c:=λy hy hf =>
 I.ok.has y.1 (by rcases B.frees y hy hf with z | z;exact .inl z;exact .inr z)
def Blk.clos(B:YA ix)(I:HP):∀y∈sc.names,y.2=.free→∃c,X.env.cells.lookup y.1=some c:=B.g.clos I
def inv_blkG{ex:No}{s':Nj}{C:Nc}(B:XM ix)(I:HP)(hx:∀ b∈ex,WF b)(ad:∀ b∈ex,b < s.heap.objs.size)(hC:C=s.heap.objs.size)(hn:s'.heap.Ns C λ_=>none)(hz:∀z,oz=some z→s'.heap.IsCell (C+1) none)(hk:∀b o,s.heap.get? b=some o→s'.heap.get? b=some o)(hg:s'.gens=s.gens)(ho:s'.os=s.os):Inv Pn [] Oj H s':=by
 have cls:=B.clos I
 have cin:∀x c,(WS X.env).lookup x=some c→X.env.cells.lookup x=some c:=λx c e=>clOf_in sc.names [] cls (λ_ _ z=>by cases z) e
 have cne:∀x c,(WS X.env).lookup x=some c→c<s.heap.objs.size:=λx c e=>by
  obtain⟨v,q⟩:=JS (cin x c e)
  exact q.lt
 have zne:∀c:Addr,c<s.heap.objs.size→c≠C+1:=λc h e=>by
  rw[e,hC]at h;exact absurd (Kz h) Oo
 have zin:∀x c,(KO C Tg).lookup x=some c→(oz=some x∧c=C+1)∨oz≠some x∧(WS X.env).lookup x=some c:=λx c e=>by
  cases oz with
  |none=>exact .inr ⟨λz=>(by cases z),e⟩
  |some zn =>
   have e:((zn,C+1)::WS X.env).lookup x=some c:=e
   rw[Ue]at e
   cases q:x==zn with
   |true=>rw[q]at e;exact .inl ⟨by rw[eq_of_beq q],(Qn e).symm⟩
   |false=>rw[q]at e;exact .inr ⟨λz=>(by rw[Qn z,beq_self_eq_true]at q;cases q),e⟩
 have zout:∀x c,oz≠some x→(WS X.env).lookup x=some c→(KO C Tg).lookup x=some c:=λx c hx e=>by
  cases oz with
  |none=>exact e
  |some zn =>
   show((zn,C+1)::WS X.env).lookup x=_
   rw[Ue,beq_eq_false_iff_ne.mpr λz=>hx (by rw[z])];exact e
 refine⟨⟨I.ok.mod,?_,I.ok.glob,I.ok.blt,?_,λx y c h1 h2=>?_,λx hx=>?_,λx c h e=>?_,I.ok.hd,I.ok.frames,HW,λb hb=>?_,I.bs,?_,λb o e hb=>?_,λb hb=>?_,I.stack,I.stkFree⟩,
  ?_,?_,Un.kept hk,⟨_,hn,λj x v e1 e2 e3=>?_⟩,λx c e=>?_,?_,λx c e=>?_,λp hp=>?_,I.hok.kept hk,?_⟩
 ·show (relabel sc X.env).kind=.function
  exact B.kind
 ·show s.heap.objs.size≤C
  rw[hC];exact Qe _
 ·rcases zin x c h1 with ⟨a,b⟩ | ⟨_,a⟩ <;> rcases zin y c h2 with ⟨a',b'⟩ | ⟨_,a'⟩
  ·exact Qn (a.symm.trans a')
  ·exact absurd b (zne c (cne y c a'))
  ·exact absurd b' (zne c (cne x c a))
  ·exact I.ok.inj x y c (cin x c a) (cin y c a')
 ·by_cases q:oz=some x
  ·exact⟨C+1,by show(KO C Tg).lookup x=_;rw[q];show((x,C+1)::WS X.env).lookup x=_;rw[Ue,beq_self_eq_true]⟩
  ·obtain ⟨c,hc⟩:=zi4 (env:=X.env) sc.names [] (RH ((zii B.own hx).resolve_right q))
   exact⟨c,zout x c q hc⟩
 ·have h':oz=some x:=by
   have:(oz==some x)=true:=h
   exact eq_of_beq this
  rcases zin x c e with⟨_,b⟩ | ⟨b,_⟩
  ·show s.heap.objs.size≤c
   rw[b,hC];exact Uq _
  ·exact absurd h' b
 ·have:=ad b hb
  refine⟨λz=>?_,λx c e=>(zin x c e).elim (λq h=>zne b this (h.symm.trans q.2)) λe=>(hx b hb).2.2.2.2.1 x c (cin x c e.2)⟩
  have z':b=C:=z
  rw[z',hC]at this
  exact Yw _ this
 ·exact Dy I.sz
 ·rcases (hx b hb).2.2.2.1 with z | z
  ·exact MQ e z
  ·have h1:b < X.base.objs.size:=Qu e
   have h2:=I.ok.bsz
   have h3:X.s₀.heap.objs.size≤b:=z
   exact absurd (Zw h1 (Zg h2 h3)) Oo
 ·intro z
  rcases Qh.mp (Ff z) with q | q
  ·exact(hx b hb).2.1 q
  ·exact(hx b hb).2.2.1 q
 ·exact ho
 ·rw[hg];exact I.bare
 ·have hj:∃ i,ix[j]?=some yQ∧σ[i]?=some yL:=by
   unfold inner at e2
   rw[Qo]at e2
   cases q:ix[j]? with
   |none=>rw[q]at e2;cases e2
   | some o =>
    rw[q]at e2
    cases o with
    |none=>cases e2
    |some i =>
     have mw:(σ[i]?).join=some v:=Qn e2
     cases q2:σ[i]? with
     |none=>rw[q2]at mw;cases mw
     |some w=>rw[q2]at mw;exact⟨i,rfl,by rw[q2];exact congrArg some mw⟩
  obtain⟨i,hi,hσ⟩:=hj
  obtain⟨hN,bz⟩:=B.caps j i x e1 hi
  have hm:=Wp bz
  have dD:=B.frees (x,.free) hm rfl
  obtain⟨m,_,hl⟩:=I.loc
  obtain⟨u,ru,lk⟩:=hl i x v hN hσ (by rcases dD with z | z;exact .inr (RH z);exact .inr (SC z))
  refine⟨u,ru,.inr ?_⟩
  obtain⟨c,hc⟩:=zi4 (env:=X.env) sc.names [] (RH hm)
  have cP:=cin x c hc
  have lk2:s.heap.IsCell c (Hs u):=by
   rcases lk with⟨k,_⟩ | ⟨_,c',e',z⟩
   ·have k':X.env.scope.names.lookup x=some .local:=k
    rcases dD with q | q<;>(rw[show X.env.scope.names.lookup x=_ from q]at k';cases k')
   ·rw[cP]at e';cases e';exact z
  refine⟨?_,c,zout x c (λq=>by rw[B.zc x q]at bz;cases bz) hc,?_⟩
  ·have e3':Vis (relabel sc X.env) x:=e3
   rcases e3' with z | z | z
   ·exfalso
    have:=@lookup_relabel_local
    have dB:∀(l:List (Str×NameKind)),l.lookup x=some .free→(l.map λ(y:Str×NameKind)=>match y with | (n,k)=>if(k==NameKind.free&&X.env.scope.kind==.function&&X.env.kindOf n==some .cell) then(n,NameKind.cell) else(n,k)).lookup x≠some .local:=by
     intro l
     induction l with
     |nil=>intro h;cases h
     | cons y r ih =>
      obtain⟨n,k⟩:=y
      intro h
      rw[Ue]at h
      rw[Qm]
      dsimp only
      by_cases hb:(k==NameKind.free&&X.env.scope.kind==.function&&X.env.kindOf n==some .cell)=true
      ·rw [Si hb,Ue]
       cases hx:x==n with
       |true=>intro q;cases q
       |false=>rw[hx]at h;exact ih h
      ·rw [Sb hb,Ue]
       cases hx:x==n with
       |true =>
        rw[hx]at h
        intro q
        have h':k=NameKind.free:=Qn h
        have q':k=NameKind.local:=Qn q
        rw[h']at q';cases q'
       |false=>rw[hx]at h;exact ih h
    exact dB sc.names bz z
   ·exact .inl z
   ·exact .inr z
  ·obtain ⟨o,di,iN⟩:=lk2
   exact⟨o,hk c o di,iN⟩
 ·rcases zin x c e with ⟨a,b⟩ | ⟨_,b⟩
  ·rw[b];exact⟨none,hz x a⟩
  ·obtain ⟨v,o,di,iN⟩:=JS (cin x c b)
   exact⟨v,o,hk c o di,iN⟩
 ·show H C=none
  rw[hC]
  exact I.hok.fresh Hx
 ·rcases zin x c e with ⟨_,b⟩ | ⟨_,b⟩
  ·rw[b];exact I.hok.fresh (by rw[hC];exact Uq _)
  ·exact JW (cin x c b)
 ·have gZ:p∈X.pn++a5:=by
   have:p∈(X.pn++a5)++[]:=hp
   rwa[Zs]at this
  obtain⟨e,n,ne,nf,d⟩:=Bx gZ
  refine⟨hk _ _ e,n,?_,λz=>?_,d⟩
  ·intro z
   have z':p.1=C:=z
   have:=Qu e
   rw[z',hC]at this
   exact Yw _ this
  ·rcases Qh.mp (I.stkSub _ z) with q | q
   ·exact ne q
   ·exact nf q
 ·unfold inner
  rw[Qa]
  exact B.len
def inv_blk(B:YA ix)(I:HP)(hx:∀b∈ex,WF b)(ad:∀b∈ex,b<s.heap.objs.size)(hC:C=s.heap.objs.size)(hn:s'.heap.Ns C λ_=>none)(hk:∀b o,s.heap.get? b=some o→s'.heap.get? b=some o)(hg:s'.gens=s.gens)(ho:s'.os=s.os):Inv yS [] Oj H s':=inv_blkG B.g I hx ad hC hn (λ_ h=>by cases h) hk hg ho
def PTs(X:Cx)(ifs:Nt)(t:TT):Prop :=
 ∀(a5:Ni) (s:Nj) (σ:St) (H:Hp) (Q:Bool→Hp→Prop),ZA H s→t σ H Q →
  wpAny Hm X.A (forIn ifs true λc r=>if r=true then do let ok ←isTrue c X.env (HX c);pure (Tl ok) else pure (Tl r)) (Md Q) X.xe s
def tAll:TT:=λ_ H Q=>Q true H
def zcy:PTs X [] tAll:=λ_ _ _ H _ I h=>wpAny_tests_nil ⟨H,I,h⟩
def zci(h:VT c t):PTs X [c] t:=λa5 s σ H Q I q=>wpAny_tests_one (L0 Q q)
def compLoop_any{prog:Nk}{w:Nn}{A:Nq}{s:Nj}{elt target iter:Expr}{ifs:Nt}{scope:Scope}{pos:Pos}{it af:Value}{env:Env}{R:Nx}(I:Nat→Shared→Prop)(turn:∀ n s,I n s→wpAny (model prog w) A (pyNext it) (fun r s₁=>match r with
   |none=>R CN s₁
   | some v=>ZI Tv (fun _ s₁'=>ZI LN (fun _ s₂ =>
     wpAny Hw A Rg (λok s₃ =>
      if ok=true then ZI (CH elt) (λx s₄ =>
       wpAny Hw A (call (.builtin "list.append") [af,x]) (λ_ s₅=>∃m,m<n∧I m s₅) Re s₄) Re s₃
      else ∃m,m<n∧I m s₃) Re s₂) Re s₁') Re s₁) Re s)(n:Nat)(h:I n s):codeAny Hw A (Lg (.ListComp elt [⟨target,iter,ifs,0⟩] scope pos) 0 af) R s:=by
 refine codeAny_loop rfl I (λn s hI=>?_) n h
 show ZZ A ((PX (.ListComp elt [⟨target,iter,ifs,0⟩] scope pos) 0 af).onRaise (λx=>do noteFrame x env;theTreesLotGoes x)) _ _ s
 refine wpAny_noted ?_
 rw[compTurn_list]
 refine wpAny_bind (wpAny_standAt (wpAny_bind (UV (λr s₁ h₁=>?_) λ_ _ h'=>h'.elim)))
 cases r with
 |none=>exact wpAny_pure h₁
 | some v =>
  refine wpAny_bind (J6 (λ_ s₁' h₁'=>?_) λ_ _ h'=>h'.elim)
  refine wpAny_bind (BM (λ_ s₂ h₂=>wpAny_bind (J7 (λok s₃ h₃=>?_) λ_ _ h'=>h'.elim)) λ_ _ h'=>h'.elim)
  cases ok with
  |false=>exact wpAny_pure ⟨rfl,h₃⟩
  |true =>
   exact wpAny_bind (wpAny_bind (Xz (λx s₄ h₄=>wpAny_bind (V0 (λ_ s₅ h₅=>wpAny_pure (wpAny_pure ⟨rfl,h₅⟩)) λ_ _ h'=>h'.elim)) λ_ _ h'=>h'.elim))
def rLC(g:TG)(tc:TT)(te:TE)(Q:VK)(J:It)(τ:St)(H1:Hp):Prop:=∃W:Nat→Nat→List V→St→Hp→Prop,(∃m,W 0 m [] τ H1)∧∀i m ys τ H,W i m ys τ H →
 (K5 H∧∀D,H D=none→Q Th (LS D ys)) ∨
 (NJ H∧ys.length<sizeLine∧∀x H',By H'→g x τ H' λ τ2 H2=>tc τ2 H2 λb H3=>if b=true then te τ2 H3 λy H4=>∃m',m'<m∧W HN m' (ys++[y]) τ2 H4 else ∃m',m'<m∧W HN m' ys τ2 H3)
def tLC(ix:Nv)(wi:TI)(g:TG)(tc:TT)(te:TE):TE:=λ σ H Q=>wi σ H λJ H1=>BN H1
def lc_blockG{tg elt iter:Expr}{ifs:Nt}{pos:Pos}{g:TG}{tc:TT}{te:TE}{fp:No}{it:Nc}{tn:Nat→Heap→Prop}{J:It}{Q:VK}{RR:Value→Addr→Result→Shared→Prop}{E:Nd}(B:XM ix)(hc:X.calm=true)(hg:∀C ex s H,PG Pn tg g)(ht:∀C ex s H,PTs Pn ifs tc)(he:∀C ex s H,PE Pn elt te)(I:HP)(T:YR tn)(h0:O5)(hf:∀b∈fp,WF b)(q:BN H)(l4:Ry) :
  wpAny Hm X.A (newList []) (λaf s₃=>ZE Ro (λcenv s₄ =>
   codeAny Hm X.A (.compStart HZ 0 Tk af {cenv with scope:=relabel sc X.env}) L9 s₄) E s₃) E s:=by
 refine wpAny_newObj_type (newEnv_own B.one B.psh ?_)
 dsimp only
 generalize hD:s.heap.objs.size=D
 generalize dJ:s.heap.push {cls:=.type "list",dict:=none,data:=.seq ([]:List Value).toArray}=g2
 generalize oT:Fl (g2.push {cls:=.type "dict",data:=.dict #[]})=h₁
 have kp:∀(q:Np) (b:Nc) (o:Obj),q.get? b=some o→(Fl q).get? b=some o:=λq b o e=>by
  cases oz with
  |none=>exact e
  |some _=>exact WN e
 have hns₁:h₁.Ns g2.objs.size (λ_=>none):=oT▸(Heap.Ns.new g2 (.type "dict")).keeps λb o e=>kp _ b o e
 have hz₁:∀z,oz=some z→h₁.IsCell (g2.objs.size+1) none:=λz ez=>by
  have e:(g2.push {cls:=.type "dict",data:=.dict #[]}).objs.size=g2.objs.size+1:=Ws ..
  rw[←oT,←e,ez]
  exact⟨_,Ta,rfl⟩
 have hC:g2.objs.size=D+1:=by rw[←dJ,Ws,hD]
 have k2:∀b o,s.heap.get? b=some o→g2.get? b=some o:=λb o e=>by rw[←dJ];exact WN e
 have I3:ZA H {s with heap:=g2}:=I.kept (t':=s.toks) k2
 have HD:H D=none:=I.hok.fresh OT
 have fD:WF D:=I.fpOk OT HD
 have D2:g2.get? D=some {cls:=.type "list",dict:=none,data:=.seq ([]:List Value).toArray}:=by rw[←dJ,←hD];exact U9 rfl
 have k1:∀b o,g2.get? b=some o→h₁.get? b=some o:=λb o e=>oT▸kp _ b o C4
 have fpx:∀b∈D::fp,WF b:=λb hb=>by
  rcases Qh.mp hb with e | e
  ·rw[e];exact fD
  ·exact Fh e
 have fplt:∀b∈D::fp,b<g2.objs.size:=λb hb=>by
  rcases Qh.mp hb with e | e
  ·rw[e,hC];exact Wa _
  ·obtain ⟨o,q,_⟩:=W2 h0 b e
   exact Qu yT
 have fpD:D∉fp:=λhm=>by
  obtain⟨o,q,_⟩:=W2 h0 D hm
  have:=Qu q
  rw[hD]at this
  exact Yw _ this
 generalize ak:ze8 X sc oz M g2.objs.size a5 (D::fp) {s with heap:=g2} H=Y
 have IY:Y7 [] Oj H {s with heap:=h₁,toks:=s.toks+([]:List (Str×Value)).length}:=by
  rw[←ak]
  exact inv_blkG B I3 fpx fplt rfl hns₁ hz₁ k1 rfl rfl
 have Yg:=ak▸hg g2.objs.size (D::fp) {s with heap:=g2} H
 have Yt:=ak▸ht g2.objs.size (D::fp) {s with heap:=g2} H
 have Ye:=ak▸he g2.objs.size (D::fp) {s with heap:=g2} H
 have eP:Y.prog=X.prog:=by rw[←ak];rfl
 have eW:Y.w=X.w:=by rw[←ak];rfl
 have eK:Y.K=X.K:=by rw[←ak];rfl
 have eA:Y.A=X.A:=by rw[←ak];rfl
 have eC:Y.calm=true:=by rw[←ak];exact hc
 have eE:Y.env=compEnvC sc zU g2.objs.size X.env:=by rw[←ak];rfl
 have eX:Y.xe=λ_ _=>False:=by rw[←ak];rfl
 have eEx:Y.ex=D::fp:=by rw[←ak];rfl
 have eFs:Y.fs=frs X.stack:=by rw[←ak];rfl
 have ePn:Y.pn=X.pn++a5:=by rw[←ak];rfl
 have eL:Y.env.locals=g2.objs.size:=by rw[eE];rfl
 have qi:Y.H₀=H:=by rw[←ak];rfl
 have jz:Y.s₀={s with heap:=g2}:=by rw[←ak];rfl
 have fY:∀{H':Hp} {pl:Ni} {b:Nc},b∈D::fp→H' b=none→(∀p∈pl,p.1≠b)→KP pl H' b:=λ{H' pl b} hb hn hp=>by
  obtain⟨f0,f1,f2,f3,f4,f5⟩:=fpx b hb
  refine⟨hn,?_,?_,RH CO,DG CO |>.2,λp gZ=>?_⟩
  ·rw[eL];exact Zh zV
  ·rw [eFs]
   intro z
   rcases Qh.mp (DH z) with q | q
   ·exact f1 q
   ·exact f2 q
  ·rw [ePn] at gZ
   rcases Ql.mp gZ with z | z
   ·exact f5 p z
   ·exact hp p z
 obtain⟨W,⟨m0,w0⟩,turn⟩:=q
 have loop:∀ sN:Shared,sN={ s with heap:=h₁,toks:=s.toks+([]:List (Str×Value)).length } →
   codeAny Hm X.A (AK HZ Tk (CF zU)) EI sN:=by
  rintro sN rfl
  refine compLoop_any (λn s'=>Ex6 λi τ H' ys a7 k=>Aj7 (Y7 [] τ H' s') Cj (∀b∈D::fp,H' b=none) (s'.heap.get? D=some {cls:=.type "list",data:=.seq (a7:Nl).toArray k}) xK (ys.length≤sizeLine) C5) ?_ m0
   ⟨0,Oj,H,[],[],0,IY,WH h0 λb _ o e=>k1 b o Ej,λb hb=>(fpx b hb).1,k1 _ _ D2,.nil,SJ,w0⟩
  rintro n s5 ⟨i,τ,H5,ys,a7,k,I5,t5,n5,d5,v5,z5,w5⟩
  have oD:∀{s':Nj} {its':Nl} {k':Nat},s'.heap.get? D=some {cls:=.type "list",data:=.seq its'.toArray k'}→∀b∈[D],∃o,s'.heap.get? b=some o∧∀v,o.data≠.cell v:=λ{s' its' k'} e b hb=>by
   rw[Qc.mp hb]
   exact⟨_,e,λv z=>by cases z⟩
  have eZ:Y7 ([]++zbm [D] s5.heap) τ H5 s5:=I5.pinned (λb hb=>fY (by rw[Qc.mp hb];exact Qb) (n5 b (by rw[Qc.mp hb];exact Qb)) Ha) (oD d5)
  have pD:∀p∈zbm [D] s5.heap,p.1=D∧p.2={cls:=.type "list",data:=.seq a7.toArray k}:=λp hp=>by
   obtain⟨e1,e2⟩:=zdb hp
   have dq:p.1=D:=Qc.mp e1
   rw[dq,d5]at e2
   exact⟨dq,(Qn e2).symm⟩
  have fN:∀{H':Hp},(∀b∈fp,H' b=none)→∀b∈fp,KP ([]++zbm [D] s5.heap) H' b:=λhn b hb=>fY LG OH λp hp z=>by
   rw[Wz]at hp
   rw[(pD p hp).1]at z
   exact fpD (z▸hb)
  rcases BA w5 with⟨stop,qn⟩ | ⟨go,zl,step⟩
  ·have h6:=U' (fun _ _=>False) eZ (fN fun b hb=>n5 b LG) t5 stop
   rw[eA]at h6
   refine thn h6 λr s6 ⟨hr,I6⟩=>?_
   subst hr
   have d6:s6.heap.get? D=some {cls:=.type "list",data:=.seq a7.toArray k}:=by
    have hp:=zbb (fp:=[D]) SL d5
    exact(I6.pin (D,_) AL).1
   have H5D:H5 D=none:=n5 D Qb
   obtain⟨mL,nL,_⟩:=I6.loc
   rw[eL]at nL
   have CD:g2.objs.size≠D:=by rw[hC];exact Xj _
   refine l4 D _ mL ys H5 s6 ?_ yU nL ?_ (by rw[hC,hD];exact Wa _)
   ·have u6:=I6.base
    rw[eFs,eEx,qi,jz]at u6
    refine I3.call' (ch:=D::fp) (I6.os.trans (by rw[jz])) ⟨u6.keep,u6.slot,λb o e n hx=>?_,u6.there,λb xs e=>?_,λb o u e=>?_,λb ps e=>?_⟩ ?_ I6.bare λb hb=>?_
    ·rw[zaf (λz=>hx Ao)];exact u6.free b o e n hx
    ·rw[zaf Ek];exact u6.tups b xs e
    ·rw[zaf Ek];exact u6.frzs b o u e
    ·rw[zaf Ek];exact u6.tbls b ps e
    ·have iY:=I6.hok
     rw[eP,eW]at iY
     intro b u e
     by_cases hb:b=D
     ·subst hb
      rw[zab]at e
      cases e
      exact⟨z5,a7,k,v5,d6⟩
     ·rw [OL] at e
      exact(iY b u e).stay (λc v _ q=>q) (λc q=>by rw[zaf IG];exact q) λc xs q=>by rw[zaf IG];exact q
    ·obtain ⟨f0,f1,f2,f3,f4,f5⟩:=fpx b hb
     exact⟨f3,f1,f4,f5⟩
   ·rw [zaf CD]
    have:=I6.free
    rw[eL]at this
    exact this
  ·have h6:=JA (fun _ _=>False) eZ (fN fun b hb=>n5 b LG) t5 go
   rw[eA]at h6
   refine thn h6 λr s6 ⟨u,hr,h7⟩=>?_
   subst hr
   refine thn h7 λ_ s7 ⟨x,H7,I7,r7,y7,t7,n7⟩=>?_
   have lm:=BB xL
   have h8:=Yg _ s7 τ H7 x u _ lm r7 xM
   rw[eP,eW,eA,eX,eE]at h8
   refine thn h8 λ_ s8 ⟨τ8,H8,I8,q8⟩=>?_
   have h9:=Yt _ s8 τ8 H8 _ I8 q8
   rw[eP,eW,eA,eX,eE]at h9
   refine thn h9 λok s9 ⟨H9,I9,q9⟩=>?_
   have again:∀{τ':St} {H':Hp} {s':Nj},Y7 (([]++zbm [D] s5.heap)++Bm s7.heap) τ' H' s'→s'.heap.get? D=some {cls:=.type "list",data:=.seq a7.toArray k}∧H' D=none∧tn HN s'.heap∧∀b∈fp,H' b=none:=λ{τ' H' s'} I'=>by
    have pp:∀{b:Nc} {o:Obj},b∈fp→s7.heap.get? b=some o→s'.heap.get? b=some o∧H' b=none:=λ{b o} hb e =>
     let z:=I'.pin (b,o) TW
     ⟨z.1,z.2.1⟩
    have hp:=zbb (fp:=[D]) SL d5
    have z:=I'.pin (D,_) AA
    refine⟨z.1,z.2.1,WH t7 λb hb o e=>(pp hb e).1,λb hb=>?_⟩
    obtain⟨o,e,_⟩:=W2 t7 b hb
    exact(pp hb e).2
   have drop:∀{pl:Ni} {τ':St} {H':Hp} {s':Nj},Y7 pl τ' H' s'→Y7 [] τ' H' s':=λI'=>I'.pins_of Ha
   cases ok with
   |false =>
    rw[if_neg Hf]at q9 ⊢
    obtain⟨m',hm,w9⟩:=q9
    obtain⟨d9,H9D,t9,n9⟩:=again I9
    exact⟨m',hm,i+1,τ8,H9,ys,a7,k,drop I9,t9,λb hb=>(xC hb).elim (λe=>e▸H9D) (n9 b),d9,v5,z5,w9⟩
   | true =>
    rw[if_pos rfl]at q9 ⊢
    have i5:=Ye _ s9 τ8 H9 _ I9 q9
    rw[eP,eW,eA,eX,eE]at i5
    refine thn i5 λy da ⟨yv,i6,gM,lr,m',hm,se⟩=>?_
    obtain⟨lj,H10D,mG,sI⟩:=again gM
    refine call_meets F.slot_list_append ⟨_,lj,rfl⟩ F.entry_list_append (BW _) (KQ (by rw[Qy,←v5.length];assumption)) ⟨lj,?_⟩
    have q:=Fa (λa=>a.push y)
    have vt:yE=(a7++[y]).toArray:=by simp
    rw[vt]at q
    have kk:∀b o,b≠D→da.heap.get? b=some o→(da.heap.update D (Obj.mapSeq λa=>a.push y)).get? b=some o:=λb o hb e=>(Yj da.heap (Obj.mapSeq λa=>a.push y) AH).trans e
    obtain⟨g0,g1,g2',g3,g4,g5⟩:=fY (pl:=[]) (H':=i6) (b:=D) Qb H10D Ha
    have mB:=(drop gM).turned (h':=da.heap.update D (Obj.mapSeq λa=>a.push y)) (t':=da.toks) (it:=D) kk H10D g1 g3 g4 g5
    exact⟨m',hm,i+1,τ8,i6,ys++[yv],a7++[y],_,mB,WH mG λb hb o e=>kk b o (λz=>fpD (z▸hb)) e,λb hb=>(xC hb).elim (λe=>e▸H10D) (sI b),q,v5.append (Sa lr),
     by rw[Qw,Uz];assumption,se⟩
 exact codeAny_compStart_list IH (BO (WH h0 λb _ o e=>k1 b o Ej) IH)
def lc_block{tg elt iter:Expr}{ifs:Nt}{pos:Pos}{g:TG}{tc:TT}{te:TE}{fp:No}{it:Nc}{tn:Nat→Heap→Prop}{J:It}{Q:VK}{RR:Value→Addr→Result→Shared→Prop}{E:Nd}(B:YA ix)(hc:X.calm=true)(hg:∀C ex s H,UL g)(ht:∀C ex s H,YS tc)(he:∀C ex s H,UM elt te)(I:HP)(T:YR tn)(h0:O5)(hf:∀b∈fp,WF b)(q:BN H)(l4:Ry) :
  wpAny Hm X.A (newList []) (λaf s₃=>ZE Ro (λcenv s₄ =>
   codeAny Hm X.A (.compStart HZ 0 Tk af {cenv with scope:=relabel sc X.env}) L9 s₄) E s₃) E s:=lc_blockG B.g hc hg ht he I T h0 hf q l4
def Inv.letgo{C:Nc}{m:Ng}{h':Np}{s₀:Np}(I:HP)(hn:s.heap.Ns C m)(hC:H C=none)(ad:X.env.locals<s₀.objs.size)(bE:∀x c,X.env.cells.lookup x=some c→c<s₀.objs.size)(hp:∀p∈X.pn++a5,p.1<s₀.objs.size)(ap:X.s₀.heap.objs.size≤s₀.objs.size)(hc:s₀.objs.size<C)(hs:Heap.SameBut C s.heap h'):ZA H {s with heap:=h'} :=
 I.turned (t':=s.toks) (it:=C) (λb o hb e=>(Aj hb).trans e) hC (Yu (Wl ad hc)) (SC (Zg ap (Wo hc))) (λx c e=>Zh (Wl (bE x c e) hc)) λp q=>Zh (Wl (hp p q) hc)
def Inv.cl_lt(I:HP):∀x c,X.env.cells.lookup x=some c→c<s.heap.objs.size:=λx c e=>by
 obtain⟨v,q⟩:=JS e
 exact q.lt
def Inv.pin_lt(I:HP):∀p∈X.pn++a5,p.1<s.heap.objs.size:=λp hp=>Qu (Bx hp).1
def pe_lcC(B:XM ix)(hc:X.calm=true)(hi:CK)(hg:∀C a5 ex s H,PG Pn tg g)(ht:∀C a5 ex s H,PTs Pn ifs tc)(he:∀C a5 ex s H,PE Pn elt te)(hs:∀x,foldedSetIterable iter X.env x=pure x:=by intro _;rfl):Z9 HZ (Mi te):=by
 intro a5 s σ H Q I h
 rw[eval_ListComp]
 refine wpAny_comprehension_free (use:=none) rfl hs LQ B.kind B.names (thn SF λv s1 h1=>thn h1 λitv s2 h2=>?_)
 obtain⟨it,fp,tn,J,H2,e,I2,T,br,f2,q⟩:=h2
 subst e
 refine lc_blockG (RR:=λaf C=>compPost Hm X.A X.xe none TK af C) B hc (hg · a5) (ht · a5) (he · a5) I2 T br f2 q ?_
 intro D C m ys H' s' I' q' hn hC ad
 refine⟨m,hn,λh' bZ=>⟨Th,_,YH bZ,rfl,q'⟩⟩
def zff(B:YA ix)(hc:X.calm=true)(hi:CK)(hg:∀C a5 ex s H,UL g)(ht:∀C a5 ex s H,YS tc)(he:∀C a5 ex s H,UM elt te)(hs:∀x,foldedSetIterable iter X.env x=pure x:=by intro _;rfl):Z9 HZ (Mi te):=pe_lcC B.g hc hi hg ht he hs
def ps_lc(hN:X.N.Nodup)(aU:X.N[i]?=some y)(hy:X.env.scope.names.lookup y=some .local)(B:YA ix)(hc:X.calm=true)(hi:CK)(hg:∀C a5 ex s H,UL g)(ht:∀C a5 ex s H,YS tc)(he:∀C a5 ex s H,UM elt te)(lJ:swapsWith HZ (Hs Iq) spos.line X.env=pure true)(hs:∀x,foldedSetIterable iter X.env x=pure x:=by intro _;rfl):KH (.Assign [Iq] HZ spos) (tAsg (Mi te) OP):=by
 intro a5 s σ H D' I h
 rw[exec_Assign_Name_used _ _ _ _ lJ]
 refine wpAny_bind (wpAny_standAt (wpAny_bind ?_))
 show ZZ X.A (do let _ ←comprehension HZ sc X.env _ (newList []) false IA xN) _ _ s
 refine wpAny_bind (wpAny_mono (wpAny_comprehension_free (use:=some SI) (Q:=λ_ s'=>X0 D' .next s') rfl hs LQ B.kind B.names
  (thn SF λv s1 h1=>thn h1 λitv s2 h2=>?_)) (λ_ s' hq=>wpAny_pure (Sj hq)) λ_ _ e=>e)
 obtain⟨it,fp,tn,J,H2,e,I2,T,br,f2,q⟩:=h2
 subst e
 refine lc_block (RR:=λaf C=>compPost Hm X.A X.xe xN (λ_ s'=>X0 D' .next s') af C) B hc (hg · a5) (ht · a5) (he · a5) I2 T br f2 q ?_
 intro D C m ys H' s' I' q' hn hC ad
 show ZZ X.A zW _ _ s'
 refine wpAny_assign_Name (NR (v:=.ref D) rfl (λmJ vG ⟨a,sb,ha⟩=>?_) OU)
 have aC:C≠a:=by
  rcases ha with z | z
  ·rw[z];exact Yu (Wl I2.lt ad)
  ·exact Yu (Fb ad)
 have bC:=hn.sameBut sb aC
 exact⟨m,bC,λh' bZ=>⟨_,_,CJ,q'⟩⟩
end
end L2
end
section
namespace Tm
open PySem PyProof.Rows
def gallopT:Bool→Keyed→Array Keyed→Nat→Nat→Nat→StateT SortSt Sem (Option Nat):=sortPriv% PySem.Builtin.gallop
def mergeLoT:Array Keyed→Array Keyed→StateT SortSt Sem (Array Keyed):=sortPriv% PySem.Builtin.mergeLo
def mergeHiT:Array Keyed→Array Keyed→StateT SortSt Sem (Array Keyed):=sortPriv% PySem.Builtin.mergeHi
section
variable{σ α β:Type}{M:Model}{A:Nq}{E:Nd}{s:Nj}{Q:α→σ→Prop}{st:σ}{c:Prop}[Decidable c]
def zdj(h:∀Q0:α→σ→Prop,(∀r aa,Q r aa→Q0 r aa)→J0 m Q0 st):J0 m Q st:=h Q λ_ _ z=>z
def jp_if{f:Unit→β→StateT σ Sem α}(h:∀z,J0 (f () z) Q st):J0 (if c then f () x else f () y) Q st:=by
 split
 ·exact h _
 ·exact h _
def zau{x y:StateT σ Sem α}(h1:c→J0 x Q st)(h2:¬c→J0 y Q st):J0 (if c then x else y) Q st:=by
 split
 next z=>exact h1 z
 next z=>exact h2 z
end
section
variable{prog:Nk}{w:Nn}{A:Nq}{E:Nd}{s:Nj}{kd:SortKind}{a₀:Array Keyed}
def Cmp(prog:Nk)(w:Nn)(A:Nq)(E:Nd)(s:Nj)(kd:SortKind)(a₀:Array Keyed):Prop :=
 ∀(x y:Keyed) (st:SortSt) (Q:Option Bool→SortSt→Prop),x∈a₀.toList→y∈a₀.toList→kindOf st=kd→(∀b,Q (Hs b) st)→ZP (lt' x y) Q st
def Of(a₀ xs:Array Keyed):Prop:=∀(i:Nat) (p:Keyed),xs[i]?=some p→p∈a₀.toList
def za3{arr:Array Keyed}{i:Nat}{p:Keyed}{Q:Keyed→SortSt→Prop}{st:SortSt}(h:arr[i]?=some p)(q:Q p st):ZP (elem' arr i) Q st:=by
 rw[elem'_eq,h];exact wpS_pure q
def beyondT(left:Bool)(ky:Keyed)(arr:Array Keyed)(i:Nat):JE (Option Bool):=do
 let x ←elem' arr i
 if left=true then lt' x ky else do
  let r ←lt' ky x
  pure (r.map λz=>!z)
def wpS_beyond{left:Bool}{ky:Keyed}{arr:Array Keyed}{i:Nat}{Q:Option Bool→SortSt→Prop}{st:SortSt}(C:QX a₀)(hk:kindOf st=kd)(hO:X3 arr)(hy:ky∈a₀.toList)(hi:i<arr.size)(q:∀b,Q (Hs b) st):ZP (Fc i) Q st:=by
 have e:=getElem?_pos arr i hi
 unfold beyondT
 refine wpS_bind (za3 e ?_)
 have m:=hO _ _ e
 cases left with
 |true=>exact C _ _ _ _ m hy hk q
 |false=>exact wpS_bind (C _ _ _ _ hy m hk λb=>wpS_pure (q _))
def zcw{left:Bool}{ky:Keyed}{arr:Array Keyed}{base n hint:Nat}{Q:Option Nat→SortSt→Prop}{st:SortSt}(C:QX a₀)(hk:kindOf st=kd)(hO:X3 arr)(hy:ky∈a₀.toList)(hb:base+n≤arr.size)(hh:hint<n)(h:∀k,k≤n→Q (Hs k) st):ZP (gallopT left ky arr base n hint) Q st:=by
 have ask:∀{i:Nat} {Q':Option Bool→SortSt→Prop},i<n→(∀b,Q' (Hs b) st)→ZP (Fc (base+i)) Q' st:=λ{i Q'} hi q=>wpS_beyond C hk hO hy Hb q
 have last:∀(f:Nat→(Option II×Nat×Nat)→JE (ForInStep (Option II×Nat×Nat))) (lo hi:Nat),lo≤hi→hi≤n →
   (∀x l r Q',l≥r→Q' (ForInStep.done (none,l,r)) st→ZP (f x (none,l,r)) Q' st) →
   (∀x l r Q',¬l≥r→r≤n→Q' (Tl (none,l+(r-l)/2+1,r)) st→Q' (Tl (none,l,l+(r-l)/2)) st→ZP (f x (none,l,r)) Q' st) →
   wpS Hw A E s (forIn [:n] (none,lo,hi) f) (λc aa=>aa=st∧∃k,c=(none,k,k)∧k≤n) st:=by
  intro f lo hi h1 h2 f1 f2
  refine wpS_forRange (I:=λx c aa=>Aj2 (aa=st) (Ex2 λl r=>Aj4 (c=(none,l,r)) (l≤r) (r≤n) (r-l≤n-x))) ?step ?fin ?init
  case init=>exact⟨rfl,lo,hi,rfl,h1,h2,Hb⟩
  case fin =>
   rintro c aa ⟨rfl,l,r,rfl,a1,a2,a3⟩
   have:l=r:=by lia
   subst this
   exact⟨rfl,l,rfl,a2⟩
  case step =>
   rintro x c aa _ hx ⟨rfl,l,r,rfl,a1,a2,a3⟩
   by_cases eN:l≥r
   ·refine f1 x l r _ eN ?_
    have:l=r:=Nat.le_antisymm a1 eN
    subst this
    exact⟨rfl,l,rfl,a2⟩
   ·exact f2 x l r _ eN a2 ⟨rfl,_,_,rfl,Hb,a2,Hb⟩ ⟨rfl,_,_,rfl,Fj _,Hb,Hb⟩
 unfold gallopT
 refine wpS_bind (ask (i:=hint) hh λb0=>?_)
 cases b0 with
 | true =>
  refine wpS_bind (wpS_mono (wpS_forRange
   (I:=λx c aa=>Aj2 (aa=st) (Ex2 λla of=>Aj4 (c=(none,la,of)) (hint+la<n) (la<of) (x<of)))
   (Q:=λc aa=>Aj2 (aa=st) (Ex2 λla of=>Aj3 (c=(none,la,of)) (hint+la<n) (la<of))) ?step ?fin ?init) ?post)
  case init=>exact⟨rfl,0,1,rfl,hh,Hx,Hx⟩
  case fin =>
   rintro c aa ⟨rfl,la,of,rfl,a2,a3,a4⟩
   exact⟨rfl,la,of,rfl,a2,a3⟩
  case step =>
   rintro x c aa _ hx ⟨rfl,la,of,rfl,a2,a3,a4⟩
   dsimp only
   refine zau (λ_=>wpS_pure ⟨rfl,la,of,rfl,a2,a3⟩) λeN=>wpS_bind (ask (i:=hint+of) Hb λb=>?_)
   cases b with
   |true=>exact wpS_pure ⟨rfl,of,2*of+1,rfl,Hb,Hb,Hb⟩
   |false=>exact wpS_pure ⟨rfl,la,of,rfl,a2,a3⟩
  case post =>
   rintro c aa ⟨rfl,la,of,rfl,a2,a3⟩
   refine wpS_bind (wpS_mono (last _ (hint+la+1) (hint+min of (n-hint)) Hb Hb ?_ ?_) ?_)
   ·intro x l r Q' eN q
    exact zau (λ_=>wpS_pure q) λz=>absurd eN z
   ·intro x l r Q' eN hr q1 q2
    refine zau (λz=>absurd z eN) λ_=>wpS_bind (ask (i:=l+(r-l)/2) Hb λb=>?_)
    cases b with
    |true=>exact wpS_pure q1
    |false=>exact wpS_pure q2
   ·rintro c aa ⟨rfl,k,rfl,b1⟩
    exact wpS_pure (h k b1)
 | false =>
  refine wpS_bind (wpS_mono (wpS_forRange
   (I:=λx c aa=>Aj2 (aa=st) (Ex2 λla of=>Aj4 (c=(none,la,of)) (la≤hint) (la<of) (x<of)))
   (Q:=λc aa=>Aj2 (aa=st) (Ex2 λla of=>Aj3 (c=(none,la,of)) (la≤hint) (la<of))) ?step ?fin ?init) ?post)
  case init=>exact⟨rfl,0,1,rfl,SJ,Hx,Hx⟩
  case fin =>
   rintro c aa ⟨rfl,la,of,rfl,a2,a3,a4⟩
   exact⟨rfl,la,of,rfl,a2,a3⟩
  case step =>
   rintro x c aa _ hx ⟨rfl,la,of,rfl,a2,a3,a4⟩
   dsimp only
   refine zau (λ_=>wpS_pure ⟨rfl,la,of,rfl,a2,a3⟩) λeN=>wpS_bind (ask (i:=hint-of) Hb λb=>?_)
   cases b with
   |true=>exact wpS_pure ⟨rfl,la,of,rfl,a2,a3⟩
   |false=>exact wpS_pure ⟨rfl,of,2*of+1,rfl,Hb,Hb,Hb⟩
  case post =>
   rintro c aa ⟨rfl,la,of,rfl,a2,a3⟩
   refine wpS_bind (wpS_mono (last _ (hint+1-min of (hint+1)) (hint-la) Hb Hb ?_ ?_) ?_)
   ·intro x l r Q' eN q
    exact zau (λ_=>wpS_pure q) λz=>absurd eN z
   ·intro x l r Q' eN hr q1 q2
    refine zau (λz=>absurd z eN) λ_=>wpS_bind (ask (i:=l+(r-l)/2) Hb λb=>?_)
    cases b with
    |true=>exact wpS_pure q1
    |false=>exact wpS_pure q2
   ·rintro c aa ⟨rfl,k,rfl,b1⟩
    exact wpS_pure (h k b1)
end
section
variable{prog:Nk}{w:Nn}{A:Nq}{E:Nd}{s:Nj}{kd:SortKind}{a₀:Array Keyed}
variable{all out ra rb seg:List Keyed}
def Pm(all out ra rb:List Keyed):Prop:=(out++(ra++rb)).Perm all
def Pm.appA(j:Pm all out (seg++ra) rb):Pm all (out++seg) ra rb:=by
 unfold Pm at *
 rw[Qv,←Qv seg];exact j
def Pm.appB(j:Pm all out ra (seg++rb)):Pm all (out++seg) ra rb:=by
 unfold Pm at *
 rw[Qv]
 refine List.Perm.trans (Mj ?_) j
 rw[←Qv,←Qv]
 exact Wh.append_right _
def drop_cons{a:Array Keyed}{i:Nat}(h:i<a.size):a.toList.drop i=a[i]::a.toList.drop HN:=by
 rw[Zv (He h)];simp
def zdk{a:Array Keyed}{i:Nat}:(a.extract i a.size).toList=a.toList.drop i:=by
 simp[Qs]
def zgv{a:Array Keyed}{i k:Nat}(h:i+k≤a.size):(zZ i (i+k)).toList++a.toList.drop (i+k)=a.toList.drop i:=by
 rw[Array.toList_extract,Kw]
 have:i+k-i=k:=by lia
 rw[this,←List.drop_drop,Wg]
abbrev Pa(a b o:Array Keyed)(i k:Nat):Prop:=Pm Rq o.toList (a.toList.drop i) (b.toList.drop k)
variable{a b o:Array Keyed}{i k n:Nat}
def Pa.pushA(j:YY k)(h:i<a.size):UE (o.push a[i]) HN k:=by
 have:=Pm.appA (seg:=[a[i]]) (ra:=a.toList.drop HN) (by rw[Xv,←drop_cons h];exact j)
 rwa[←Kb]at this
def Pa.pushB(j:YY k)(h:k<b.size):UE (o.push b[k]) i (k+1):=by
 have:=Pm.appB (seg:=[b[k]]) (rb:=b.toList.drop (k+1)) (by rw[Xv,←drop_cons h];exact j)
 rwa[←Kb]at this
def Pa.runA(j:YY k)(h:i+n≤a.size):UE (o++a.extract i (i+n)) (i+n) k:=by
 have:=Pm.appA (seg:=(zZ i (i+n)).toList) (ra:=a.toList.drop (i+n)) (by rw[zgv h];exact j)
 show Pm _ (o++a.extract i (i+n)).toList _ _
 rw[Ys];exact this
def Pa.runB(j:YY k)(h:k+n≤b.size):UE (o++b.extract k (k+n)) i (k+n):=by
 have:=Pm.appB (seg:=(b.extract k (k+n)).toList) (rb:=b.toList.drop (k+n)) (by rw[zgv h];exact j)
 show Pm _ (o++b.extract k (k+n)).toList _ _
 rw[Ys];exact this
def Pa.end1(j:YY k):(o++a.extract i++b.extract k).toList.Perm Rq:=by
 rw[Ys,Ys,zdk,zdk,Qv];exact j
def Pa.end2(j:YY k):(o++b.extract k++a.extract i).toList.Perm Rq:=by
 rw[Ys,Ys,zdk,zdk,Qv]
 exact(Mj Wh).trans j
def SG(st aa:SortSt):Prop:=∃g,aa=K2 (RS st) g (z4 st)
def wpS_mergeLo{Q:Array Keyed→SortSt→Prop}{st:SortSt}(C:QX a₀)(hk:kindOf st=kd)(oa:X3 a)(ob:X3 b)(ha:0 < a.size)(hb:0 < b.size)(h:∀(res:Array Keyed) (aa:SortSt),res.toList.Perm Rq→FM aa→Q res aa):ZP (mergeLoT a b) Q st:=by
 have ia_:∀i (hi:i<a.size),a[i]∈a₀.toList:=λi hi=>oa i _ (getElem?_pos a i hi)
 have ib_:∀i (hi:i<b.size),b[i]∈a₀.toList:=λi hi=>ob i _ (getElem?_pos b i hi)
 have ea:∀i (hi:i<a.size),a[i]?=some a[i]:=λi hi=>getElem?_pos a i hi
 have eb:∀i (hi:i<b.size),b[i]?=some b[i]:=λi hi=>getElem?_pos b i hi
 have sgk:∀{aa},FM aa→kindOf aa=kd:=λ⟨g,e⟩=>by rw[e];exact hk
 unfold mergeLoT
 refine wpS_bind (wpS_lift (wpAny_rule ⟨rfl,?_⟩))
 refine wpS_bind (za3 (eb 0 hb) ?_)
 have j0:UE (#[b[0]]:Array Keyed) 0 1:=by
  have j:UE (#[]:Array Keyed) 0 0:=by show List.Perm _ _;simp
  exact j.pushB hb
 refine zau (λc1=>wpS_pure (h _ _ j0.end1 ⟨_,rfl⟩)) λc1=>zau (λc2=>wpS_pure (h _ _ j0.end2 ⟨_,rfl⟩)) λc2=>?_
 have vA:¬b.size=1:=λz=>c1 (by simp[z])
 have c2':¬a.size=1:=λz=>c2 (by simp[z])
 refine wpS_bind (wpS_get ?_)
 refine wpS_bind (wpS_mono (wpS_forRange
  (I:=λx c aa=>YT (Ex4 λo i k g=>Aj5 (c=(none,o,i,k,g)) (i+1<a.size) (k<b.size) yV (x≤i+k)))
  (Q:=λc aa=>YT RA) ?step ?fin ?init) ?post)
 case init=>exact⟨⟨wI⟩,_,0,1,wI,Hb,Hb,j0,Hb⟩
 case fin =>
  rintro c aa ⟨_,o,i,k,g,rfl,a1,a2,a3,a4⟩
  exfalso;lia
 case post =>
  rintro c aa ⟨g,res,r,rfl,m⟩
  exact wpS_pure (h res aa m g)
 case step =>
  rintro x c bu _ hx ⟨g1,o1,i1,k1,mg,rfl,a1,a2,a3,a4⟩
  dsimp -zeta only
  refine wpS_bind (wpS_mono (wpS_forRange
   (I:=λy c aa=>Aj2 (aa=bu) (Ex5 λo i k ac bc=>Aj5 (c=(none,o,i,k,ac,bc)) (i+1<a.size) (k<b.size) yV (i1+k1+y≤i+k)))
   (Q:=λc aa=>Aj2 (aa=bu) (RA∨Ex5 λo i k ac bc=>Aj5 (c=(none,o,i,k,ac,bc)) (i+1<a.size) (k<b.size) yV (i1+k1<i+k))) ?step1 ?fin1 ?init1) ?post1)
  case init1=>exact⟨rfl,o1,i1,k1,0,0,rfl,a1,a2,a3,Hx⟩
  case fin1 =>
   rintro c aa ⟨_,o,i,k,ac,bc,rfl,b1,b2,b3,b4⟩
   exfalso;lia
  case step1 =>
   rintro y c br _ hy ⟨rfl,o,i,k,ac,bc,rfl,b1,b2,b3,b4⟩
   have rX:i<a.size:=by lia
   dsimp -zeta only
   refine wpS_bind (za3 (eb k b2) (wpS_bind (za3 (ea i rX) (wpS_bind (C _ _ _ _ (ib_ k b2) (ia_ i rX) (sgk g1) λe=>?_)))))
   dsimp -zeta only
   refine zau (λ_=>?_) (λ_=>?_)
   ·refine wpS_bind (za3 (eb k b2) ?_)
    have j:=b3.pushB b2
    refine zau (λ_=>wpS_pure ⟨rfl,RH ⟨_,_,rfl,j.end1⟩⟩) λd1=>?_
    have qj:¬k+1=b.size:=λz=>d1 Ri
    exact zau (λ_=>wpS_pure ⟨rfl,SC ⟨_,i,k+1,_,_,rfl,b1,Hb,j,Hb⟩⟩) λ_=>wpS_pure ⟨rfl,_,i,k+1,_,_,rfl,b1,Hb,j,Hb⟩
   ·refine wpS_bind (za3 (ea i rX) ?_)
    have j:=b3.pushA rX
    refine zau (λ_=>wpS_pure ⟨rfl,RH ⟨_,_,rfl,j.end2⟩⟩) λd1=>?_
    have qj:¬i+1+1=a.size:=λz=>d1 Ri
    exact zau (λ_=>wpS_pure ⟨rfl,SC ⟨_,i+1,k,_,_,rfl,Hb,b2,j,Hb⟩⟩) λ_=>wpS_pure ⟨rfl,_,i+1,k,_,_,rfl,Hb,b2,j,Hb⟩
  case post1 =>
   rintro c br ⟨rfl,⟨res,r,rfl,m⟩ | ⟨o2,i2,k2,ac2,bc2,rfl,b1,b2,b3,b4⟩⟩
   ·exact wpS_pure ⟨g1,res,_,rfl,m⟩
   dsimp -zeta only
   refine wpS_bind (wpS_lift (wpAny_rule ⟨rfl,?_⟩))
   refine wpS_bind (wpS_mono (wpS_forRange
    (I:=λy c aa=>YT (Ex6 λo i k g ac bc=>Aj5 (c=(none,o,i,k,g,ac,bc)) (i+1<a.size) (k<b.size) yV (i2+k2≤i+k)))
    (Q:=λc aa=>YT (RA∨Ex6 λo i k g ac bc=>Aj5 (c=(none,o,i,k,g,ac,bc)) (i+1<a.size) (k<b.size) yV (i2+k2≤i+k))) ?step2 ?fin2 ?init2) ?post2)
   case init2=>exact⟨g1,o2,i2,k2,_,_,wI,b1,b2,b3,Hx⟩
   case fin2 =>
    rintro c aa ⟨g,o,i,k,g',ac,bc,rfl,c1,c2,c3,c4⟩
    exact⟨g,SC ⟨o,i,k,g',ac,bc,rfl,c1,c2,c3,c4⟩⟩
   case post2 =>
    rintro c ay ⟨g3,⟨res,r,rfl,m⟩ | ⟨o3,i3,k3,g',vD,vB,rfl,c1,c2,c3,c4⟩⟩
    ·exact wpS_pure ⟨g3,res,_,rfl,m⟩
    dsimp -zeta only
    refine wpS_bind (wpS_modify ?_)
    obtain⟨gg,e3⟩:=g3
    exact wpS_pure ⟨⟨_,by rw[e3]⟩,o3,i3,k3,_,rfl,c1,c2,c3,Hb⟩
   case step2 =>
    rintro y c ay _ hy ⟨g3,o3,i3,k3,mg3,vD,vB,rfl,c1,c2,c3,c4⟩
    refine zdj λQ0 bG=>?_
    dsimp -zeta only
    have sgm:∀g',FM (Lw g'):=λg'=>by
     obtain⟨g,e⟩:=g3
     exact⟨g',by rw[e]⟩
    extract_lets -underBinder +onlyGivenNames s1 out s2 ia s3 ib s4 mn s5 ac bc jp
    refine jp_if (f:=jp) λm'=>?_
    refine wpS_bind (wpS_modify ?_)
    refine wpS_bind (za3 (eb k3 c2) ?_)
    refine wpS_bind (zcw (base:=i3) (n:=a.size-i3) (hint:=0) C z6 oa (ib_ k3 c2) Hb Hb λk q1=>?_)
    dsimp -zeta only
    have jr:=c3.runA (n:=k) Hb
    extract_lets -underBinder +onlyGivenNames ac' jp2
    have h2:∀(n':Nat) (o':Array Keyed) (f1:n'+1<a.size),i3≤n'→UE o' n' k3→ZP (jp2 () o' n') Q0 xO:=by
     intro n' o' f1 f2 fJ
     have f0:n'<a.size:=by lia
     refine wpS_bind (za3 (eb k3 c2) ?_)
     have fK:=fJ.pushB c2
     refine zau (λ_=>wpS_pure (Lp ⟨Cw,RH ⟨_,_,rfl,fK.end1⟩⟩)) λd=>?_
     have d':¬k3+1=b.size:=λz=>d Ri
     refine wpS_bind (za3 (ea n' f0) ?_)
     refine wpS_bind (zcw (base:=k3+1) (n:=b.size-(k3+1)) (hint:=0) C z6 ob (ia_ n' f0) Hb Hb λk' r1=>?_)
     dsimp -zeta only
     have js:=fK.runB (n:=k') Hb
     extract_lets -underBinder +onlyGivenNames bc' jp3
     have h3:∀(m2:Nat) (o2:Array Keyed) (p1:m2<b.size),k3+1≤m2→UE o2 n' m2→ZP (jp3 () o2 m2) Q0 xO:=by
      intro m2 o2 p1 p2 pJ
      refine wpS_bind (za3 (ea n' f0) ?_)
      have pK:=pJ.pushA f0
      refine zau (λ_=>wpS_pure (Lp ⟨Cw,RH ⟨_,_,rfl,pK.end2⟩⟩)) λd=>?_
      have d2:¬n'+1+1=a.size:=λz=>d Ri
      exact zau (λ_=>wpS_pure (bG _ _ ⟨Cw,SC ⟨_,n'+1,m2,_,_,_,rfl,Hb,p1,pK,Hb⟩⟩)) λ_=>wpS_pure (Lp ⟨Cw,_,n'+1,m2,_,_,_,rfl,Hb,p1,pK,Hb⟩)
     refine zau (λkz=>?_) (λkz=>?_)
     ·refine zau (fun _=>wpS_pure (Lp ⟨Cw,RH ⟨_,_,rfl,js.end1⟩⟩)) fun d4=>?_
      have d4':¬k3+1+k'=b.size:=λz=>d4 Ri
      exact h3 (k3+1+k') _ Hb (Fj _) js
     ·exact h3 (k3+1) _ Hb Hx fK
    refine zau (λkz=>?_) (λkz=>?_)
    ·refine zau (fun _=>wpS_pure (Lp ⟨Cw,RH ⟨_,_,rfl,jr.end2⟩⟩)) fun d=>zau (fun _=>wpS_pure (Lp ⟨Cw,RH ⟨_,_,rfl,jr.end1⟩⟩)) fun e=>?_
     have d':¬i3+k+1=a.size:=λz=>d Ri
     have e':¬i3+k=a.size:=λz=>e Ri
     exact h2 (i3+k) _ Hb (Fj _) jr
    ·exact h2 i3 _ c1 Hx c3
end
section
variable{prog:Nk}{w:Nn}{A:Nq}{E:Nd}{s:Nj}{kd:SortKind}{a₀:Array Keyed}
variable{a b o:Array Keyed}{na nb at_:Nat}
def zf3:(zZ 0 n).toList=a.toList.take n:=by simp
def zf0{a:Array Keyed}{i n:Nat}(hi:i≤n)(h:n≤a.size):a.toList.take i++(zZ i n).toList=a.toList.take n:=by
 rw[Array.toList_extract,Kw]
 have e:a.toList.take i=(a.toList.take n).take i:=by rw[List.take_take];congr 1;lia
 have e2:(a.toList.drop i).take (n-i)=(a.toList.take n).drop i:=by rw[List.drop_take]
 rw[e,e2,Wg]
def Ph(a b o:Array Keyed)(na nb:Nat):Prop:=(a.toList.take na++(b.toList.take nb++o.toList)).Perm Rq
def mvA{t sg mI u r all:List Keyed}(h:((t++sg)++(u++r)).Perm all)(hs:mI.Perm sg):(t++(u++(r++mI))).Perm all:=by
 refine List.Perm.trans ?_ h
 rw[Qv,←Qv u]
 exact Mj ((Mj hs).trans Wh)
def mvB{t sg mI u r all:List Keyed}(h:(t++((u++sg)++r)).Perm all)(hs:mI.Perm sg):(t++(u++(r++mI))).Perm all:=by
 refine List.Perm.trans ?_ h
 rw[Qv]
 exact Mj (Mj ((Mj hs).trans Wh))
def Ph.runA(j:Ah)(hi:at_≤na)(h:na≤a.size):UF (o++(zZ at_ na).reverse) at_ nb:=by
 unfold Ph at *
 rw[←zf0 hi h]at j
 rw[Ys,Kk]
 exact mvA j (Ja _)
def Ph.runB(j:Ah)(hi:at_≤nb)(h:nb≤b.size):UF (o++(b.extract at_ nb).reverse) na at_:=by
 unfold Ph at *
 rw[←zf0 hi h]at j
 rw[Ys,Kk]
 exact mvB j (Ja _)
def Ph.pushA(j:UF o (na+1) nb)(h:na<a.size):UF (o.push a[na]) na nb:=by
 unfold Ph at *
 rw[Qi (He h)]at j
 rw[Kb]
 exact mvA j Ha
def Ph.pushB(j:UF o na (nb+1))(h:nb<b.size):UF (o.push b[nb]) na nb:=by
 unfold Ph at *
 rw[Qi (He h)]at j
 rw[Kb]
 exact mvB j Ha
def Ph.end1(j:Ah):(a.extract 0 na++b.extract 0 nb++o.reverse).toList.Perm Rq:=by
 rw[Ys,Ys,Kk,zf3,zf3,Qv]
 exact(Mj (Mj (Ja _))).trans j
def Ph.end2(j:Ah):(b.extract 0 nb++a.extract 0 na++o.reverse).toList.Perm Rq:=by
 rw[Ys,Ys,Kk,zf3,zf3]
 refine List.Perm.trans ?_ j
 rw[←Qv]
 exact(Wh).append (Ja _)
def wpS_mergeHi{Q:Array Keyed→SortSt→Prop}{st:SortSt}(C:QX a₀)(hk:kindOf st=kd)(oa:X3 a)(ob:X3 b)(ha:0 < a.size)(hb:0 < b.size)(h:∀(res:Array Keyed) (aa:SortSt),res.toList.Perm Rq→FM aa→Q res aa):ZP (mergeHiT a b) Q st:=by
 have ia_:∀i (hi:i<a.size),a[i]∈a₀.toList:=λi hi=>oa i _ (getElem?_pos a i hi)
 have ib_:∀i (hi:i<b.size),b[i]∈a₀.toList:=λi hi=>ob i _ (getElem?_pos b i hi)
 have ea:∀i (hi:i<a.size),a[i]?=some a[i]:=λi hi=>getElem?_pos a i hi
 have eb:∀i (hi:i<b.size),b[i]?=some b[i]:=λi hi=>getElem?_pos b i hi
 have sgk:∀{aa},FM aa→kindOf aa=kd:=λ⟨g,e⟩=>by rw[e];exact hk
 obtain⟨n0,r8⟩:∃n0,a.size=n0+1:=⟨a.size-1,Hb⟩
 have cJ:n0<a.size:=by lia
 have j0:UF (#[a[n0]]:Array Keyed) n0 b.size:=by
  have j:UF (#[]:Array Keyed) (n0+1) b.size:=by
   have e1:a.toList.take (n0+1)=a.toList:=Qs (by simp;lia)
   have e2:b.toList.take b.size=b.toList:=Qs Ha
   unfold Ph;rw[e1,e2];simp
  exact j.pushA cJ
 unfold mergeHiT
 refine wpS_bind (wpS_lift (wpAny_rule ⟨rfl,?_⟩))
 have e2:a.size-1=n0:=by lia
 simp -zeta only [e2]
 refine wpS_bind (za3 (ea n0 cJ) ?_)
 refine zau (λc1=>wpS_pure (h _ _ j0.end1 ⟨_,rfl⟩)) λc1=>zau (λc2=>wpS_pure (h _ _ j0.end2 ⟨_,rfl⟩)) λc2=>?_
 have vA:¬n0=0:=λz=>c1 (by simp[z])
 have c2':¬b.size=1:=λz=>c2 (by simp[z])
 refine wpS_bind (wpS_get ?_)
 obtain⟨n1,rfl⟩:∃n1,n0=n1+1:=⟨n0-1,Hb⟩
 obtain⟨m1,cb⟩:∃m1,b.size=m1+1+1:=⟨b.size-2,Hb⟩
 rw[cb]at j0
 refine wpS_bind (wpS_mono (wpS_forRange
  (I:=λx c aa=>YT (Ex4 λo i k g=>Aj5 (c=(none,i+1,k+1+1,o,g)) (i<a.size) (k+1<b.size) (UF o HN (k+1+1)) (i+k+x+4≤a.size+b.size)))
  (Q:=λc aa=>YT RA) ?step ?fin ?init) ?post)
 case init=>exact⟨⟨wI⟩,_,n1,m1,_,by rw[cb],Hb,Hb,j0,Hb⟩
 case fin =>
  rintro c aa ⟨_,o,i,k,g,rfl,a1,a2,a3,a4⟩
  exfalso;lia
 case post =>
  rintro c aa ⟨g,res,r,rfl,m⟩
  exact wpS_pure (h res aa m g)
 case step =>
  rintro x c bu _ hx ⟨g1,o1,i1,k1,mg,rfl,a1,a2,a3,a4⟩
  dsimp -zeta only
  refine wpS_bind (wpS_mono (wpS_forRange
   (I:=λy c aa=>Aj2 (aa=bu) (Ex5 λo i k ac bc=>Aj5 (c=(none,i+1,k+1+1,o,ac,bc)) (i<a.size) (k+1<b.size) (UF o HN (k+1+1)) (i+k+y≤i1+k1)))
   (Q:=λc aa=>Aj2 (aa=bu) (RA∨Ex5 λo i k ac bc=>Aj5 (c=(none,i+1,k+1+1,o,ac,bc)) (i<a.size) (k+1<b.size) (UF o HN (k+1+1)) (i+k<i1+k1))) ?step1 ?fin1 ?init1) ?post1)
  case init1=>exact⟨rfl,o1,i1,k1,0,0,rfl,a1,a2,a3,Hx⟩
  case fin1 =>
   rintro c aa ⟨_,o,i,k,ac,bc,rfl,b1,b2,b3,b4⟩
   exfalso;lia
  case step1 =>
   rintro y c br _ hy ⟨rfl,o,i,k,ac,bc,rfl,b1,b2,b3,b4⟩
   dsimp -zeta only
   refine wpS_bind (za3 (eb (k+1) b2) (wpS_bind (za3 (ea i b1) (wpS_bind (C _ _ _ _ (ib_ (k+1) b2) (ia_ i b1) (sgk g1) λe=>?_)))))
   dsimp -zeta only
   refine zau (λ_=>?_) (λ_=>?_)
   ·refine wpS_bind (za3 (ea i b1) ?_)
    have j:=b3.pushA b1
    refine zau (λ_=>wpS_pure ⟨rfl,RH ⟨_,_,rfl,j.end1⟩⟩) λd1=>?_
    have qj:¬i=0:=λz=>d1 Ri
    cases i with
    |zero=>exact absurd rfl qj
    |succ i'=>exact zau (λ_=>wpS_pure ⟨rfl,SC ⟨_,i',k,_,_,rfl,Hb,b2,j,Hb⟩⟩) λ_=>wpS_pure ⟨rfl,_,i',k,_,_,rfl,Hb,b2,j,Hb⟩
   ·refine wpS_bind (za3 (eb (k+1) b2) ?_)
    have j:=b3.pushB b2
    refine zau (λ_=>wpS_pure ⟨rfl,RH ⟨_,_,rfl,j.end2⟩⟩) λd1=>?_
    have qj:¬k+1=1:=λz=>d1 Ri
    cases k with
    |zero=>exact absurd rfl qj
    |succ k'=>exact zau (λ_=>wpS_pure ⟨rfl,SC ⟨_,i,k',_,_,rfl,b1,Hb,j,Hb⟩⟩) λ_=>wpS_pure ⟨rfl,_,i,k',_,_,rfl,b1,Hb,j,Hb⟩
  case post1 =>
   rintro c br ⟨rfl,⟨res,r,rfl,m⟩ | ⟨o2,i2,k2,ac2,bc2,rfl,b1,b2,b3,b4⟩⟩
   ·exact wpS_pure ⟨g1,res,_,rfl,m⟩
   dsimp -zeta only
   refine wpS_bind (wpS_lift (wpAny_rule ⟨rfl,?_⟩))
   refine wpS_bind (wpS_mono (wpS_forRange
    (I:=λy c aa=>YT (Ex6 λo i k g ac bc=>Aj5 (c=(none,i+1,k+1+1,o,g,ac,bc)) (i<a.size) (k+1<b.size) (UF o HN (k+1+1)) (i+k≤i2+k2)))
    (Q:=λc aa=>YT (RA∨Ex6 λo i k g ac bc=>Aj5 (c=(none,i+1,k+1+1,o,g,ac,bc)) (i<a.size) (k+1<b.size) (UF o HN (k+1+1)) (i+k≤i2+k2))) ?step2 ?fin2 ?init2) ?post2)
   case init2=>exact⟨g1,o2,i2,k2,_,_,wI,b1,b2,b3,Hx⟩
   case fin2 =>
    rintro c aa ⟨g,o,i,k,g',ac,bc,rfl,c1,c2,c3,c4⟩
    exact⟨g,SC ⟨o,i,k,g',ac,bc,rfl,c1,c2,c3,c4⟩⟩
   case post2 =>
    rintro c ay ⟨g3,⟨res,r,rfl,m⟩ | ⟨o3,i3,k3,g',vD,vB,rfl,c1,c2,c3,c4⟩⟩
    ·exact wpS_pure ⟨g3,res,_,rfl,m⟩
    dsimp -zeta only
    refine wpS_bind (wpS_modify ?_)
    obtain⟨gg,e3⟩:=g3
    exact wpS_pure ⟨⟨_,by rw[e3]⟩,o3,i3,k3,_,rfl,c1,c2,c3,Hb⟩
   case step2 =>
    rintro y c ay _ hy ⟨g3,o3,i3,k3,mg3,vD,vB,rfl,c1,c2,c3,c4⟩
    refine zdj λQ0 bG=>?_
    dsimp -zeta only
    have sgm:∀g',FM (Lw g'):=λg'=>by
     obtain⟨g,e⟩:=g3
     exact⟨g',by rw[e]⟩
    extract_lets -underBinder +onlyGivenNames s1 na s2 nb s3 out s4 mn s5 ac bc jp
    refine jp_if (f:=jp) λm'=>?_
    refine wpS_bind (wpS_modify ?_)
    refine wpS_bind (za3 (eb (k3+1) c2) ?_)
    refine wpS_bind (zcw (n:=i3+1) (hint:=i3) C z6 oa (ib_ (k3+1) c2) Hb Hb λrY q1=>?_)
    dsimp -zeta only
    have jr:=c3.runA (at_:=rY) q1 Hb
    extract_lets -underBinder +onlyGivenNames kk ac' jp2
    have h2:∀(n':Nat) (o':Array Keyed) (f1:n'<a.size),n'≤i3→UF o' (n'+1) (k3+1+1)→ZP (jp2 () (n'+1) o') Q0 xO:=by
     intro n' o' f1 f2 fJ
     refine wpS_bind (za3 (eb (k3+1) c2) ?_)
     have fK:=fJ.pushB c2
     refine zau (λ_=>wpS_pure (Lp ⟨Cw,RH ⟨_,_,rfl,fK.end2⟩⟩)) λd=>?_
     have d':¬k3+1=1:=λz=>d Ri
     refine wpS_bind (za3 (ea n' f1) ?_)
     refine wpS_bind (zcw (n:=k3+1) (hint:=k3) C z6 ob (ia_ n' f1) Hb Hb λql r1=>?_)
     dsimp -zeta only
     have js:=fK.runB (at_:=ql) r1 Hb
     extract_lets -underBinder +onlyGivenNames lB bc' jp3
     have h3:∀(m2:Nat) (o2:Array Keyed) (p1:m2+1<b.size),m2≤k3→UF o2 (n'+1) (m2+1+1)→ZP (jp3 () (m2+1+1) o2) Q0 xO:=by
      intro m2 o2 p1 p2 pJ
      refine wpS_bind (za3 (ea n' f1) ?_)
      have pK:=pJ.pushA f1
      refine zau (λ_=>wpS_pure (Lp ⟨Cw,RH ⟨_,_,rfl,pK.end1⟩⟩)) λd=>?_
      have d2:¬n'=0:=λz=>d Ri
      cases n' with
      |zero=>exact absurd rfl d2
      |succ t=>exact zau (λ_=>wpS_pure (bG _ _ ⟨Cw,SC ⟨_,t,m2,_,_,_,rfl,Hb,p1,pK,Hb⟩⟩)) λ_=>wpS_pure (Lp ⟨Cw,_,t,m2,_,_,_,rfl,Hb,p1,pK,Hb⟩)
     refine zau (λkz=>?_) (λkz=>?_)
     ·refine zau (fun _=>wpS_pure (Lp ⟨Cw,RH ⟨_,_,rfl,js.end2⟩⟩)) fun d4=>zau (fun _=>wpS_pure (Lp ⟨Cw,RH ⟨_,_,rfl,js.end1⟩⟩)) fun d5=>?_
      have d4':¬ql=1:=λz=>d4 Ri
      have d5':¬ql=0:=λz=>d5 Ri
      obtain⟨m2,e2⟩:∃m2,ql=m2+1+1:=⟨ql-2,Hb⟩
      have:=h3 m2 _ Hb Hb (by rw[←e2];exact js)
      rw[←e2]at this
      exact this
     ·obtain ⟨m2,e2⟩:∃ m2,k3=m2+1:=⟨k3 - 1,Hb⟩
      have:=h3 m2 _ Hb Hb (by rw[←e2];exact fK)
      rw[←e2]at this
      exact this
    refine zau (λkz=>?_) (λkz=>?_)
    ·refine zau (fun _=>wpS_pure (Lp ⟨Cw,RH ⟨_,_,rfl,jr.end1⟩⟩)) fun d=>?_
     have d':¬rY=0:=λz=>d Ri
     obtain⟨n',e1⟩:∃n',rY=n'+1:=⟨rY-1,Hb⟩
     have:=h2 n' _ Hb Hb (by rw[←e1];exact jr)
     rw[←e1]at this
     exact this
    ·exact h2 i3 _ c1 Hx c3
end
section
variable{prog:Nk}{w:Nn}{A:Nq}{E:Nd}{s:Nj}{kd:SortKind}{a₀:Array Keyed}{p:Array (Nat×Nat×Nat)}{lo:Nat}
structure Bs(kd:SortKind)(a₀:Array Keyed)(p:Array (Nat×Nat×Nat))(st:SortSt):Prop where
 kind:kindOf st=kd
 failed:failedOf st=none
 pend:pendingOf st=p
 perm:(S' st).Perm a₀
def Bs.size{st:SortSt}(B:QM st):(S' st).size=a₀.size:=B.perm.size_eq
def Bs.mem{st:SortSt}(B:QM st){i:Nat}(hi:i<a₀.size):∃q,(S' st)[i]?=some q∧q∈a₀.toList:=by
 have aU:i<(S' st).size:=by rw[B.size];exact hi
 exact⟨_,getElem?_pos _ i aU,(Yr.mp B.perm).mem_iff.mp Ha⟩
def zhe{st:SortSt}{i j:Nat}{Q:Option Bool→SortSt→Prop}(C:QX a₀)(B:QM st)(hi:i<a₀.size)(hj:j<a₀.size)(h:∀b,Q (Hs b) st):ZP (ltAt' i j) Q st:=by
 obtain⟨x,e1,m1⟩:=B.mem hi
 obtain⟨y,e2,m2⟩:=B.mem hj
 rw[ltAt'_eq]
 refine wpS_bind (wpS_get ?_)
 refine wpS_bind (za3 e1 (wpS_bind (za3 e2 ?_)))
 exact C x y st Q m1 m2 B.kind h
def Bs.mirror{st:SortSt}(B:QM st)(i j k:Nat):QM (setArr st (mirror AM i j k)):=⟨B.kind,B.failed,B.pend,(mirror_perm _ _ _ _).trans B.perm⟩
def Bs.bubble{st:SortSt}(B:QM st)(src d:Nat):QM (setArr st (bubble AM src d)):=⟨B.kind,B.failed,B.pend,(bubble_perm _ _ _).trans B.perm⟩
def wpS_binary{st:SortSt}{n ok:Nat}{Q:Bool→SortSt→Prop}(C:QX a₀)(hn:lo+n≤a₀.size)(B:QM st)(h:∀aa,QM aa→Q true aa):ZP (binarySort' lo n ok) Q st:=by
 rw[binarySort'_eq]
 refine wpS_bind (wpS_mono (wpS_forRange (I:=λk c aa=>Aj2 (c=(none,())) (QM aa)) (Q:=λc aa=>Aj2 (c=(none,())) (QM aa)) ?step (λ_ _ z=>z) ⟨rfl,B⟩) ?post)
 case post =>
  rintro c aa ⟨rfl,B'⟩
  exact wpS_pure (h aa B')
 case step =>
  rintro k c aa hak fk ⟨rfl,B'⟩
  refine wpS_bind (wpS_mono (wpS_forRange
   (I:=λx c dP=>Aj2 (dP=aa) (Ex2 λl r=>Aj4 (c=(none,l,r)) (l≤r) (r≤k) (r-l≤k-x)))
   (Q:=λc dP=>Aj2 (dP=aa) (Ex1 λl=>Aj2 (c=(none,l,l)) (l≤k))) ?is ?if_ ?ii) ?ip)
  case ii=>exact⟨rfl,0,k,rfl,SJ,Hx,Hx⟩
  case if_ =>
   rintro c dP ⟨rfl,l,r,rfl,b1,b2,b3⟩
   have:l=r:=by lia
   subst this
   exact⟨rfl,l,rfl,b2⟩
  case is =>
   rintro x c dP _ hx ⟨rfl,l,r,rfl,b1,b2,b3⟩
   dsimp only
   refine zau (λge=>?_) λge=>wpS_bind (zhe C B' Hb Hb λb=>?_)
   ·have:l=r:=Nat.le_antisymm b1 ge
    subst this
    exact wpS_pure ⟨rfl,l,rfl,b2⟩
   ·cases b with
    |true=>exact wpS_pure ⟨rfl,l,(l+r)/2,rfl,Hb,Hb,Hb⟩
    |false=>exact wpS_pure ⟨rfl,(l+r)/2+1,r,rfl,Hb,b2,Hb⟩
  case ip =>
   rintro c dP ⟨rfl,l,rfl,b2⟩
   show wpS _ _ _ _ (do moveDown' (lo+k) (lo+l);pure (Tl (none,()))) _ _
   rw[moveDown'_eq]
   exact wpS_bind (wpS_modify (wpS_pure ⟨rfl,B'.bubble _ _⟩))
def jp_rev{α:Type}{c:Prop}[Decidable c]{i j:Nat}{f:Unit→JE α}{Q:α→SortSt→Prop}{st:SortSt}(B:QM st)(h:∀aa,QM aa→ZP (f ()) Q aa):ZP (if c then reverseSlice' i j >>= f else f ()) Q st:=by
 split
 ·exact wpS_bind (wpS_reverse (h _ (B.mirror _ _ _)))
 ·exact h _ B
def wpS_count{st:SortSt}{nrem:Nat}{Q:Option Nat→SortSt→Prop}(C:QX a₀)(hn:lo+nrem≤a₀.size)(h1:1≤nrem)(B:QM st)(h:∀m aa,QM aa→1≤m→m≤nrem→Q (Hs m) aa):ZP (countRun' lo nrem) Q st:=by
 have asc:∀(f:Nat→(Option II×Nat)→JE (ForInStep (Option II×Nat))) (a:Nat) (bu:SortSt),1≤a→a≤nrem →
   (∀x y Q',1≤y→y<nrem→Q' (ForInStep.done (none,y)) bu→Q' (Tl (none,y+1)) bu→ZP (f x (none,y)) Q' bu) →
   wpS Hw A E s (forIn [a:nrem] (none,a) f) (λc aa=>Aj2 (aa=bu) (Ex1 λn=>Aj3 (c=(none,n)) (a≤n) (n≤nrem))) bu:=by
  intro f a bu a1 a2 hf
  refine wpS_forRange (I:=λx c aa=>Aj2 (aa=bu) (c=(none,x))) ?step ?fin ⟨rfl,rfl⟩
  case fin =>
   rintro c aa ⟨rfl,rfl⟩
   rw[show max a nrem=nrem by lia]
   exact⟨rfl,nrem,rfl,a2,Hx⟩
  case step =>
   rintro x c aa g1 g2 ⟨rfl,rfl⟩
   exact hf x x _ Hb g2 ⟨rfl,x,rfl,g1,Wo g2⟩ ⟨rfl,rfl⟩
 have two:∀{bu:SortSt},QM bu→∀{y:Nat},1≤y→y<nrem→lo+y<a₀.size∧lo+y-1<a₀.size:=λ_ y y1 y2=>⟨Hb,Hb⟩
 rw[countRun'_eq]
 refine wpS_bind (wpS_mono (asc _ 1 st Hx h1 ?_) ?_)
 ·intro x y Q' y1 y2 q1 q2
  refine wpS_bind (zhe C B (two B y1 y2).1 (two B y1 y2).2 λb=>?_)
  cases b with
  |true=>exact wpS_pure q1
  |false=>exact wpS_pure q2
 rintro c aa ⟨rfl,n,rfl,n1,n2⟩
 refine zdj λQ0 bG=>?_
 refine zau (λd=>wpS_pure z7) λd=>?_
 have d':n<nrem:=by have:¬n=nrem:=λz=>d Ri;lia
 extract_lets -underBinder +onlyGivenNames jp
 have oM:∀bu,QM bu→ZP (jp ()) Q0 bu:=by
  intro bu B1
  refine wpS_bind (wpS_lift (wpAny_rule ⟨rfl,?_⟩))
  refine wpS_bind (wpS_mono (wpS_forRange
   (I:=λx c br=>Ex1 λq=>Aj4 (c=(none,x,q)) (QM br) (2≤x) (x≤nrem))
   (Q:=λc br=>Ex2 λx q=>Aj4 (c=(none,x,q)) (QM br) (2≤x) (x≤nrem)) ?step ?fin ⟨0,rfl,B1,Hb,d'⟩) ?post)
  case fin =>
   rintro c br ⟨q,rfl,b1,b2,b3⟩
   exact⟨_,q,rfl,b1,b2,b3⟩
  case step =>
   rintro x c br x1 x2 ⟨q,rfl,b1,b2,b3⟩
   refine zdj λQ1 i4=>?_
   refine wpS_bind (zhe (i:=lo+x) (j:=lo+x-1) C b1 Hb Hb λe1=>?_)
   cases e1 with
   |true =>
    refine zau (λ_=>?_) (λz=>absurd rfl z)
    exact jp_rev b1 λay B3=>wpS_pure (i4 _ _ ⟨0,rfl,B3,Hb,x2⟩)
   |false =>
    refine zau (λz=>absurd z Hf) λ_=>wpS_bind (zhe (i:=lo+x-1) (j:=lo+x) C b1 Hb Hb λe2=>?_)
    cases e2 with
    |true=>exact zau (λ_=>wpS_pure (i4 _ _ ⟨x,q,rfl,b1,b2,b3⟩)) (λz=>absurd rfl z)
    |false=>exact zau (λz=>absurd z Hf) λ_=>wpS_pure (i4 _ _ ⟨q+1,rfl,b1,Hb,x2⟩)
  case post =>
   rintro c br ⟨x,q,rfl,b1,b2,b3⟩
   refine jp_rev b1 λay B3=>?_
   refine wpS_bind (wpS_reverse ?_)
   have B6:=B3.mirror lo (lo+x) ((lo+x-lo)/2)
   refine wpS_bind (wpS_mono (asc _ x _ Hb b3 ?_) ?_)
   ·intro z y Q' y1 y2 q1 q2
    refine wpS_bind (zhe C B6 (two B6 y1 y2).1 (two B6 y1 y2).2 λb=>?_)
    cases b with
    |true=>exact wpS_pure q1
    |false=>exact wpS_pure q2
   ·rintro c st6 ⟨rfl,m,rfl,m1,m2⟩
    exact wpS_pure (Lp (h m _ B6 Hb m2))
 refine zau (λd2=>?_) λd2=>oM _ B
 refine wpS_bind (zhe C B Hb Hb λe=>?_)
 cases e with
 |true=>exact zau (λ_=>wpS_pure z7) (λz=>absurd rfl z)
 |false=>exact zau (λz=>absurd z Hf) λ_=>wpS_bind (wpS_reverse (oM _ (B.mirror _ _ _)))
end
def PL:List (Nat×Nat×Nat)→Nat→Nat→Prop
 |[],off,tot=>off=tot
 |q::ps,off,tot=>q.1=off∧0<q.2.1∧PL ps (off+q.2.1) tot
def PL.split{gN:List (Nat×Nat×Nat)}{tot:Nat}:∀{db:List (Nat×Nat×Nat)} {off:Nat},PL (db++gN) off tot→∃mid,PL db off mid∧PL gN mid tot:=by
 intro db
 induction db with
 |nil=>intro off h;exact⟨off,rfl,h⟩
 |cons q ps ih =>
  intro off h
  obtain⟨mid,a,b⟩:=ih h.2.2
  exact⟨mid,⟨h.1,h.2.1,a⟩,b⟩
def PL.join{gN:List (Nat×Nat×Nat)}{mid tot:Nat}:∀{db:List (Nat×Nat×Nat)} {off:Nat},PL db off mid→PL gN mid tot→PL (db++gN) off tot:=by
 intro db
 induction db with
 |nil=>intro off a b;cases(show off=mid from a);exact b
 |cons q ps ih=>intro off a b;exact⟨a.1,a.2.1,ih a.2.2 b⟩
def PL.len{tot:Nat}:∀{ps:List (Nat×Nat×Nat)} {off:Nat},PL ps off tot→off+ps.length≤tot:=by
 intro ps
 induction ps with
 |nil=>intro off h;exact Kp h
 |cons q ps ih =>
  intro off h
  have:=ih h.2.2
  have:=h.2.1
  rw[Qz];lia
def put_back{sa:Nat}:∀ (l:List Keyed) (n:Nat) (arr:Array Keyed) (F M S:List Keyed),arr.toList=F++(M++S)→F.length=sa+n→M.length=l.length →
  ((l.zipIdx n).foldl (λ(a:Array Keyed) (q:Keyed×Nat)=>a.setIfInBounds (sa+q.2) q.1) arr).toList=F++(l++S):=by
 intro l
 induction l with
 |nil =>
  intro n arr F M S e _ hl
  have:M=[]:=List.length_eq_zero_iff.mp (He hl)
  rw[this]at e
  simpa using e
 | cons p l ih =>
  intro n arr F M S e hf hl
  cases M with
  |nil=>simp at hl
  | cons m M =>
   rw[List.zipIdx_cons,Jp]
   have e2:(arr.setIfInBounds (sa+n) p).toList=(F++[p])++(M++S):=by
    rw[Array.toList_setIfInBounds,e,←hf,MK Hx,Ko]
    simp
   rw[ih (n+1) _ (F++[p]) M S e2 (by rw[Qw];simp;lia) (He hl)]
   simp
section
variable{prog:Nk}{w:Nn}{A:Nq}{E:Nd}{s:Nj}{kd:SortKind}{a₀:Array Keyed}
structure Rn(kd:SortKind)(a₀:Array Keyed)(tot:Nat)(st:SortSt):Prop where
 kind:kindOf st=kd
 failed:failedOf st=none
 perm:(S' st).Perm a₀
 pend:PL (RS st).toList 0 tot
 le:tot≤a₀.size
def of_perm{xs:Array Keyed}(h:xs.Perm a₀):X3 xs:=λi p e=>by
 refine(Yr.mp h).mem_iff.mp ?_
 have:xs.toList[i]?=some p:=by simpa using e
 exact Yd this
def of_ext{xs:Array Keyed}(h:xs.Perm a₀)(i j:Nat):X3 (xs.extract i j):=λk p e=>by
 have e1:(xs.extract i j).toList[k]?=some p:=by rw[Uk];exact e
 have:=Yd e1
 rw[Array.toList_extract,Kw]at this
 exact(Yr.mp h).mem_iff.mp (IJ (Ut this))
def wpS_set{Q:PUnit→SortSt→Prop}{st aa:SortSt}(h:Q ⟨⟩ aa):ZP (set aa:JE PUnit) Q st:=by
 unfold wpS;rw[StateT.run_set];exact wpAny_pure ⟨rfl,h⟩
def zf5{i tot:Nat}{Q:Bool→SortSt→Prop}{st:SortSt}(C:QX a₀)(R:Q5 st)(hi:i+1 < (RS st).size)(h:∀aa,Q5 aa→(RS aa).size+1=(RS st).size→Q true aa):ZP (mergeAt' i) Q st:=by
 obtain⟨db,q1,q2,gN,hp,hl⟩:∃db q1 q2 gN,(RS st).toList=db++q1::q2::gN∧db.length=i:=by
  have h1:i<(RS st).toList.length:=by simp;lia
  have h2:i+1<(RS st).toList.length:=by simp;lia
  refine⟨(RS st).toList.take i,(RS st).toList[i],(RS st).toList[i+1],(RS st).toList.drop (i+2),?_,HH Zt⟩
  rw[←Zv h2,←Zv h1,Wg]
 have pr:=R.pend
 rw[hp]at pr
 obtain⟨sa,pr1,e1,hA,e2,hB,su⟩:=pr.split
 obtain⟨aE,na,pw⟩:=q1
 obtain⟨sb',nb,pw2⟩:=q2
 dsimp only at e1 hA e2 hB su
 subst e1 e2
 have x1:(RS st)[i]?=some (aE,na,pw):=by
  have:(RS st)[i]?=(RS st).toList[i]?:=by simp
  rw[this,hp,←hl];simp
 have x2:(RS st)[i+1]?=some (aE+na,nb,pw2):=by
  have:(RS st)[i+1]?=(RS st).toList[i+1]?:=by simp
  rw[this,hp,←hl];simp
 have hsz:aE+na+nb≤(S' st).size:=by
  have:=su.len
  have:=R.le
  rw[R.perm.size_eq];lia
 have oA:=of_perm R.perm
 have mem:∀j (hj:j<(S' st).size),(S' st)[j]∈a₀.toList:=λj hj=>oA j _ (getElem?_pos _ j hj)
 have fin:∀(aa:SortSt),kindOf aa=kd→failedOf aa=none→(S' aa).Perm a₀→pendingOf aa=((RS st).setIfInBounds i (aE,na+nb,pw)).eraseIdxIfInBounds HN→Q true aa:=by
  intro aa m3 m4 m5 m6
  have e:(RS aa).toList=db++(aE,na+nb,pw)::gN:=by
   rw[m6]
   have e1:((RS st).setIfInBounds i (aE,na+nb,pw)).toList=db++(aE,na+nb,pw)::(aE+na,nb,pw2)::gN:=by
    rw[Array.toList_setIfInBounds,hp,←hl,MK Hx,Ko]
    rfl
   rw[Array.toList_eraseIdxIfInBounds,e1,←hl,List.eraseIdx_append_of_length_le (Fj _)]
   simp
  refine h aa ⟨m3,m4,m5,?_,R.le⟩ ?_
  ·rw [e]
   exact pr1.join ⟨rfl,Nat.add_pos_left hA _,by rw[←Xb];exact su⟩
  ·rw[←Wr,←Wr,e,hp];simp;lia
 unfold mergeAt'
 refine wpS_bind (wpS_get ?_)
 rw[x1,x2]
 dsimp only
 refine wpS_bind (wpS_set ?_)
 have md:aE+na<(S' st).size:=by lia
 refine wpS_bind (za3 (getElem?_pos AM (aE+na) md) ?_)
 refine wpS_bind (zcw (arr:=arrOf st) (base:=aE) (n:=na) (hint:=0) C R.kind oA (mem _ md) Hb hA λk k1=>?_)
 refine zau (λc1=>wpS_pure Ic) λc1=>?_
 have vA:¬na-k=0:=λz=>c1 Ri
 have hla:aE+k+(na-k)-1<(S' st).size:=by lia
 refine wpS_bind (za3 (getElem?_pos AM (aE+k+(na-k)-1) hla) ?_)
 refine wpS_bind (zcw (arr:=arrOf st) (base:=aE+na) (n:=nb) (hint:=nb-1) C R.kind oA (mem _ hla) Hb Hb λm n1=>?_)
 refine zau (λc2=>wpS_pure Ic) λc2=>?_
 have c2':¬m=0:=λz=>c2 Ri
 have qm:(S' st).toList=(S' st).toList.take (aE+k)++((((S' st).extract (aE+k) (aE+na)).toList++((S' st).extract (aE+na) (aE+na+m)).toList)++(S' st).toList.drop (aE+na+m)):=by
  rw[←Qv,←Qv,zf0 Hb Hb,zf0 Hb Hb,Wg]
 have oX:=of_ext R.perm (aE+k) (aE+na)
 have oY:=of_ext R.perm (aE+na) (aE+na+m)
 have zX:0<((S' st).extract (aE+k) (aE+na)).size:=by rw[Array.size_extract];lia
 have zY:0<((S' st).extract (aE+na) (aE+na+m)).size:=by rw[Array.size_extract];lia
 have done:∀(res:Array Keyed) (aa:SortSt),res.toList.Perm (((S' st).extract (aE+k) (aE+na)).toList++((S' st).extract (aE+na) (aE+na+m)).toList)→SG (K2 (((RS st).setIfInBounds i (aE,na+nb,pw)).eraseIdxIfInBounds HN) (gallopOf st) (z4 st)) aa →
   wpS Hw A E s (do
    modify λz=>SortSt.mk' (kindOf z) (res.toList.zipIdx.foldl (λ(a:Array Keyed) (q:Keyed×Nat)=>a.setIfInBounds (aE+k+q.2) q.1) (S' z)) (RS z) (gallopOf z) (z4 z)
    let z ←get
    pure (z4 z).isNone) Q aa:=by
  intro res aa mg ⟨g,est⟩
  subst est
  refine wpS_bind (wpS_modify (wpS_bind (wpS_get ?_)))
  have oi:failedOf st=none:=R.failed
  show wpS _ _ _ _ (pure (z4 st).isNone) _ _
  rw[oi]
  refine wpS_pure (fin _ R.kind rfl ?_ rfl)
  have pb:=put_back (sa:=aE+k) res.toList 0 AM _ _ _ qm (by rw[Zt,Wr];lia) mg.length_eq.symm
  refine Yr.mpr (List.Perm.trans ?_ (Yr.mp R.perm))
  refine List.Perm.trans (List.Perm.of_eq pb) ?_
  conv=>rhs;rw[qm]
  exact Mj (MT mg)
 exact zau (λ_=>wpS_bind (wpS_mergeLo C R.kind oX oY zX zY done)) λ_=>wpS_bind (wpS_mergeHi C R.kind oX oY zX zY done)
def PL.congr:∀{ps lv:List (Nat×Nat×Nat)} {off:Nat},(ps.map λq=>(q.1,q.2.1))=(lv.map λq=>(q.1,q.2.1))→PL ps off tot→PL lv off tot:=by
 intro ps
 induction ps with
 |nil =>
  intro lv off e h
  cases lv with
  |nil=>exact h
  |cons q r=>cases e
 | cons q ps ih =>
  intro lv off e h
  cases lv with
  |nil=>cases e
  |cons q' r =>
   rw[Qm,Qm]at e
   obtain⟨e1,e2⟩:=List.cons.inj e
   obtain⟨e3,e4⟩:=Jg e1
   exact⟨e3.symm.trans h.1,e4▸h.2.1,ih e2 (e4▸h.2.2)⟩
def map_mod(f:Nat×Nat×Nat→Nat×Nat×Nat)(hf:∀q,((f q).1,(f q).2.1)=(q.1,q.2.1))(l:S1 (Nat×Nat×Nat))(i:Nat):((l.modify i f).map λq=>(q.1,q.2.1))=l.map λq=>(q.1,q.2.1):=by
 apply List.ext_getElem?
 intro k
 rw[Qo,Qo,List.getElem?_modify]
 cases l[k]? with
 |none=>simp
 |some q =>
  by_cases e:i=k
  ·simp[e];exact Jg (hf q)
  ·simp[e]
def Rn.mod{tot:Nat}{st:SortSt}(R:Q5 st)(i:Nat)(f:Nat×Nat×Nat→Nat×Nat×Nat)(hf:∀q,((f q).1,(f q).2.1)=(q.1,q.2.1)):Q5 (setPending st ((RS st).modify i f)) :=
 ⟨R.kind,R.failed,R.perm,by
  show PL ((RS st).modify i f).toList 0 tot
  rw[Array.toList_modify]
  exact R.pend.congr (map_mod f hf _ i).symm,R.le⟩
def zf4{st:SortSt}{Q:Unit→SortSt→Prop}(C:QX a₀)(hk:kindOf st=kd)(hf:failedOf st=none)(hp:(S' st).Perm a₀)(fZ:pendingOf st=#[])(h:∀aa,(S' aa).Perm a₀→failedOf aa=none→Q () aa):ZP sortRuns' Q st:=by
 have R0:Rn kd a₀ 0 st:=⟨hk,hf,hp,by rw[fZ];rfl,SJ⟩
 rw[sortRuns'_eq]
 refine wpS_bind (wpS_get ?_)
 dsimp -zeta only
 have hz:(S' st).size=a₀.size:=hp.size_eq
 rw[hz]
 refine wpS_bind (wpS_mono (wpS_forRange
  (I:=λx c aa=>Ex1 λtot=>Aj3 (c=(none,tot)) (Q5 aa) (x≤tot))
  (Q:=λc aa=>Ex1 λtot=>Aj3 (c=(none,tot)) (Q5 aa) (a₀.size≤tot)) ?step ?fin ⟨0,rfl,R0,SJ⟩) ?post)
 case fin =>
  rintro c aa ⟨tot,rfl,R,hx⟩
  exact⟨tot,rfl,R,Hb⟩
 case step =>
  rintro x c bu _ hx ⟨tot,rfl,R,hx2⟩
  refine zdj λQ0 bG=>?_
  refine zau (λc0=>wpS_pure (Lp ⟨tot,rfl,R,c0⟩)) λc0=>?_
  have B0:ML bu:=⟨R.kind,R.failed,rfl,R.perm⟩
  refine wpS_bind (wpS_count (lo:=tot) (nrem:=a₀.size-tot) C Hb Hb B0 λm br B2 m1 m2=>?_)
  dsimp -zeta only
  extract_lets -underBinder +onlyGivenNames n0 jp
  have oM:∀(n':Nat) (ay:SortSt),1≤n'→tot+n'≤a₀.size→ML ay→ZP (jp () n') Q0 ay:=by
   intro n' ay l1 l2 B3
   have R3:Q5 ay:=⟨B3.kind,B3.failed,B3.perm,by rw[B3.pend];exact R.pend,R.le⟩
   have push:∀bi,Q5 bi→Rn kd a₀ (tot+n') (setPending bi ((RS bi).push (tot,n',0))):=λbi R4 =>
    ⟨R4.kind,R4.failed,R4.perm,by show PL ((RS bi).push _).toList 0 _;rw[Kb];exact R4.pend.join ⟨rfl,l1,rfl⟩,l2⟩
   refine wpS_bind (wpS_get ?_)
   extract_lets -underBinder +onlyGivenNames jp2
   have oK:∀bi,Q5 bi→ZP (jp2 ()) Q0 bi:=λbi R4=>wpS_bind (wpS_modify (wpS_pure (Lp ⟨tot+n',rfl,push bi R4,Hb⟩)))
   cases(RS ay).back? with
   |none=>exact oK _ R3
   | some q =>
    obtain⟨s1,n1,o1⟩:=q
    refine wpS_bind (wpS_mono (wpS_forRange (I:=λ_ c bi=>Aj2 (c=(none,())) xP) (Q:=λc bi=>Aj2 (c=(none,())) xP) ?istep (λ_ _ z=>z) ⟨rfl,R3⟩) ?ipost)
    case istep =>
     rintro y c bi _ _ ⟨rfl,R4⟩
     refine zdj λQ1 i4=>wpS_bind (wpS_get ?_)
     dsimp only
     by_cases hs:(RS bi).size>1
     ·rw [Si hs,getElem?_pos (RS bi) ((RS bi).size - 2) Hb]
      refine zau (λ_=>wpS_pure (i4 _ _ ⟨rfl,R4⟩)) λ_=>wpS_bind (zf5 C R4 Hb λdO R5 _=>?_)
      exact zau (λz=>absurd z Hf) λ_=>wpS_pure (i4 _ _ ⟨rfl,R5⟩)
     ·rw [Sb hs]
      exact wpS_pure (i4 _ _ ⟨rfl,R4⟩)
    case ipost =>
     rintro c bi ⟨rfl,R4⟩
     exact wpS_bind (wpS_modify (oK _ (R4.mod _ _ λq=>rfl)))
  refine zau (λc1=>?_) λc1=>oM m br m1 Hb B2
  have vA:m<minRun' a₀.size a₀.size 0:=c1
  refine wpS_bind (wpS_lift (wpAny_rule ⟨rfl,?_⟩))
  refine wpS_bind (wpS_binary (lo:=tot) (n:=min (a₀.size-tot) (minRun' a₀.size a₀.size 0)) C Hb B2 λay B3=>?_)
  exact zau (λz=>absurd z Hf) λ_=>oM _ ay Hb Hb B3
 case post =>
  rintro c bu ⟨tot,rfl,R,hx⟩
  refine wpS_bind (wpS_mono (wpS_forRange (I:=λ_ c bi=>Aj2 (c=(none,())) xP) (Q:=λc bi=>Aj2 (c=(none,())) xP) ?istep (λ_ _ z=>z) ⟨rfl,R⟩) ?ipost)
  case istep =>
   rintro y c bi _ _ ⟨rfl,R4⟩
   refine zdj λQ1 i4=>wpS_bind (wpS_get ?_)
   dsimp only
   refine zau (λ_=>wpS_pure (i4 _ _ ⟨rfl,R4⟩)) λhs=>wpS_bind (zf5 C R4 ?_ λdO R5 _=>?_)
   ·repeat' split
    all_goals lia
   ·exact zau (λz=>absurd z Hf) λ_=>wpS_pure (i4 _ _ ⟨rfl,R5⟩)
  case ipost =>
   rintro c bi ⟨rfl,R4⟩
   exact wpS_pure (h bi R4.perm R4.failed)
end
end Tm
end
section
namespace Tm
open PySem PyProof.Rows PySem.W
section
variable{O:KeyOrd}{kf:Nat→O.α}{n:Nat}{s:Nj}{cmp:Nat→Nat→(Bool→Shared→Prop)→Shared→Prop}
def kk(kf:Nat→O.α)(p:Array Nat)(i:Nat):O.α:=kf AN
def kk_rev{p:Array Nat}{i j:Nat}(hj:j≤p.size)(k:Nat):kk kf (kas_rev p i j) k=if i≤k∧k<j then QR (i+j-1-k) else QR k:=by
 unfold kk kas_rev
 simp only[Ud,getElem?_mirror_all hj k]
 split<;>rfl
def kk_bub(hs:a<p.size)(hd:d≤a)(k:Nat):kk kf (bubble p a d) k=if k=a-d then QR a else if a-d<k∧k≤a then QR (k-1) else QR k:=by
 unfold kk
 simp only[Ud,getElem?_bubble hs d hd k]
 repeat' split
 all_goals rfl
def Up(kf:Nat→O.α)(p:Array Nat)(k:Nat):Prop:=∀i j,i≤j→j<k→NS (QR j)
def Dn(kf:Nat→O.α)(p:Array Nat)(k:Nat):Prop:=∀i j,i≤j→j<k→O.kle (QR j) yW
def Up.snoc{p:Array Nat}{a:Nat}(h1:1≤a)(h:X4 a)(e:O.kle (QR (a-1)) (QR a)):X4 (a+1):=λi j cZ hj=>by
 by_cases z:j<a
 ·exact h i j cZ z
 obtain rfl:j=a:=by lia
 by_cases z2:i=j
 ·subst z2;exact Kn _
 ·exact Jj (h i (j-1) Hb Hb) e
def Dn.snoc{p:Array Nat}{a:Nat}(h1:1≤a)(h:NT a)(e:O.kle (QR a) (QR (a-1))):NT (a+1):=λi j cZ hj=>by
 by_cases z:j<a
 ·exact h i j cZ z
 obtain rfl:j=a:=by lia
 by_cases z2:i=j
 ·subst z2;exact Kn _
 ·exact Jj e (h i (j-1) Hb Hb)
structure Ar(n:Nat)(p:Array Nat):Prop where
 sz:p.size=n
 lt:∀i,0<n→p.getD i 0<n
 pm:p.Perm zw
def Ar.of(h:p.Perm zw):XE p:=by
 have z:p.size=n:=by rw[h.size_eq];simp
 refine⟨z,λi h0=>?_,h⟩
 by_cases hi:i<p.size
 ·have:p[i]∈List.range n:=(Yr.mp h).mem_iff.mp Ha
  rw[Ud,getElem?_pos p i hi]
  exact Wk.mp this
 ·rw[Ud,getElem?_neg p i hi];exact h0
def Ar.rev{p:Array Nat}(h:XE p)(i j:Nat):XE (kas_rev p i j):=.of ((mirror_perm _ _ _ _).trans h.pm)
def Ar.bub(h:XE p)(i j:Nat):XE (bubble p i j):=.of ((bubble_perm _ _ _).trans h.pm)
variable(h0:0<n)(hc:∀i j C,i<n→j<n→C (O.blt (kf i) (kf j)) s→cmp i j C s)
include h0 hc
theorem t_ask{p:Array Nat}(P:XE p){α:Type}{i j:Nat}{k:Bool→KasT α}{Q:α→Shared→Prop}(h1:O.klt yW (QR j)→(k true).kasWp cmp Q s)(h2:O.kle (QR j) yW→(k false).kasWp cmp Q s):(KasT.ask AN (p.getD j 0) k).kasWp cmp Q s:=by
 refine hc _ _ _ (P.lt _ h0) (P.lt _ h0) ?_
 cases e:O.blt (kf AN) (kf (p.getD j 0)) with
 |true=>exact h1 e
 |false=>exact h2 e
theorem t_asc(P:XE p){Q:Nat→Shared→Prop}:∀(f a:Nat),1≤a→a+f≤n→X4 a→(∀m,a≤m→m≤a+f→X4 m→(m=a+f∨O.klt (QR m) (QR (m-1)))→Q m s)→(kas_asc p f a).kasWp cmp Q s
 |0,a,_,_,hs,h=>h a Hx Hx hs HW
 |f+1,a,h1,hn,hs,h=>BH (λe=>h a Hx Hb hs (SC e)) λe=>t_asc P f (a+1) Hb Hb (hs.snoc h1 e) λm h2 h3=>h m Hb Hb|>λq h4 h5=>q h4 (h5.imp Hb id)
theorem t_desc{Q:Array Nat×Nat×Nat→Shared→Prop}:∀(f:Nat) (p:Array Nat) (a q:Nat),XE p→1≤a→a+f≤n→NT a→q<a→(∀i,a-(q+1)≤i→i<a→QR i=QR (a-1))→(∀p' m q',XE p'→a≤m→m≤a+f→Dn kf p' m→q'<m→(∀i,m-(q'+1)≤i→i<m→XO i=XO (m-1))→Q (p',m,q') s)→(kas_desc f p a q).kasWp cmp Q s
 |0,p,a,q,P,_,_,hs,hq,he,h=>h p a q P Hx Hx hs hq he
 | f+1,p,a,q,P,h1,hn,hs,hq,he,h=>by
  have again:∀p',XE p'→Dn kf p' (a+1)→∀q'<a+1,(∀i,a+1-(q'+1)≤i→i<a+1→XO i=XO (a+1-1))→(kas_desc f p' (a+1) q').kasWp cmp Q s:=λp' P' bZ q' cw bo=>t_desc f p' (a+1) q' P' Hb Hb bZ cw bo λp2 m q2 P2 h3 h4=>h p2 m q2 P2 Hb Hb
  have one:∀(p':Array Nat) (i:Nat),a+1-(0+1)≤i→i<a+1→XO i=XO (a+1-1):=λp' i h2 h3=>by rw[show i=a+1-1 by lia]
  refine BH (λe=>?_) λe=>?_
  ·rw [EB]
   have same:∀k,kk kf (kas_rev p (a-(q+1)) a) k=QR k:=λk=>by
    rw[kk_rev (by rw[P.sz];lia)]
    split
    ·rw[he _ Hb Hb,he k Hb Hb]
    ·rfl
   split
   ·refine again _ (P.rev _ _) (fun i j cZ hj=>?_) 0 Hb (one _)
    rw[same,same]
    exact hs.snoc h1 (Ku e) i j cZ hj
   ·exact again _ P (hs.snoc h1 (Ku e)) 0 Hb (one _)
  ·rw [Sb Ha]
   refine BH (λe2=>?_) λe2=>?_
   ·rw[if_pos rfl];exact h p a q P Hx Hb hs hq he
   ·rw [Sb Ha]
    have eq:=KeyOrd.kle_antisymm e2 e
    refine again _ P (hs.snoc h1 e2) (q+1) Hb λi h2 h3=>?_
    rw[Nat.add_sub_cancel]
    by_cases z:i=a
    ·rw[z]
    ·rw[he i Hb Hb,eq]
theorem t_tail(P:XE p)(h1:1≤m)(hm:m≤n)(hs:NT m)(h:∀p' k,XE p'→1≤k→k≤n→Up kf p' k→Q (k,p') s):(kas_tail3 m n p).kasWp cmp Q s:=by
 unfold kas_tail3
 rw[Xe]
 refine t_asc h0 hc z8 _ m h1 Hb (λi j cZ hj=>?_) λk h2 h3 h4 _=>h _ k z8 Hb Hb h4
 rw[kk_rev (by rw[P.sz];lia),kk_rev (by rw[P.sz];lia),if_pos Hb,if_pos Hb]
 exact hs _ _ Hb Hb
theorem t_dpart(P:XE p)(hm:m+1≤n)(hs:NT (m+1))(h:∀p' k,XE p'→1≤k→k≤n→Up kf p' k→Q (k,p') s):(kas_descPart m n p).kasWp cmp Q s:=by
 unfold kas_descPart
 rw[Xe]
 refine t_desc h0 hc _ p (m+1) 0 P Hb Hb hs Hb (λi h2 h3=>by rw[show i=m+1-1 by lia]) λp' k q P' h2 h3 bZ hq he=>?_
 dsimp only
 split
 ·refine t_tail h0 hc (P'.rev _ _) Hb Hb (fun i j cZ hj=>?_) h
  have same:∀i,kk kf (kas_rev p' (k-(q+1)) k) i=XO i:=λi=>by
   rw[kk_rev (by rw[P'.sz];lia)]
   split
   ·rw[he _ Hb Hb,he i Hb Hb]
   ·rfl
  rw[same,same]
  exact bZ i j cZ hj
 ·exact t_tail h0 hc P' Hb Hb bZ h
theorem t_count(P:XE p){Q:Nat×Array Nat→Shared→Prop}(h:∀p' k,XE p'→1≤k→k≤n→Up kf p' k→Q (k,p') s):(kas_count n p).kasWp cmp Q s:=by
 unfold kas_count
 rw[Xe]
 refine t_asc h0 hc P _ 1 Hx Hb (λi j cZ hj=>by rw[show i=j by lia];exact Kn _) λm h1 h2 hs hor=>?_
 split
 ·exact h p m P h1 Hb hs
 rename_i az
 have ow:m≠n:=by simpa using az
 have ad:=hor.resolve_left Hb
 split
 ·refine BH (fun _=>?_) fun e=>?_
  ·rw[if_pos rfl];exact h p m P h1 Hb hs
  ·rw [Sb Ha]
   have all:∀k,k<m→QR k=QR (m-1):=λk hk=>KeyOrd.kle_antisymm (hs k (m-1) Hb Hb) (Jj e (hs 0 k Hb hk))
   have same:∀k,kk kf (kas_rev p 0 m) k=QR k:=λk=>by
    rw[kk_rev (by rw[P.sz];lia)]
    split
    ·rw[all _ Hb,all k Hb]
    ·rfl
   refine t_dpart h0 hc z8 Hb (Dn.snoc h1 (λi j cZ hj=>?_) (by rw[same,same];exact Ku ad)) h
   rw[same,same,all i Hb,all j hj]
   exact Kn _
 ·obtain rfl:m=1:=by lia
  exact t_dpart h0 hc P Hb (Dn.snoc Hx (λi j cZ hj=>by rw[show i=j by lia];exact Kn _) (Ku ad)) h
theorem t_place{k:Nat}(P:XE p)(hs:X4 k){Q:Nat→Shared→Prop}:∀(f l r:Nat),l≤r→r≤k→r-l≤f→(∀i,i<l→NS (QR k))→(∀i,r≤i→i<k→O.klt (QR k) yW)→(∀l,l≤k→(∀i,i<l→NS (QR k))→(∀i,l≤i→i<k→O.klt (QR k) yW)→Q l s)→(kas_place p k f l r).kasWp cmp Q s
 |0,l,r,h1,h2,h3,h4,h5,h=>h l Hb h4 λi q=>h5 i Hb
 | f+1,l,r,h1,h2,h3,h4,h5,h=>by
  unfold kas_place
  split
  ·exact h l Hb h4 λi q=>h5 i Hb
  ·refine BH (fun e=>?_) fun e=>?_
   ·rw [EB]
    exact t_place P hs f l _ Hb Hb Hb h4 (λi q1 q2=>KeyOrd.klt_of_klt_of_kle e (hs _ _ q1 q2)) h
   ·rw [Sb Ha]
    exact t_place P hs f _ r Hb h2 Hb (λi q=>Jj (hs i ((l+r)/2) Hb Hb) e) h5 h
theorem t_bin(h:∀p,XE p→X4 n→Q p s):∀(f:Nat) (p:Array Nat) (k:Nat),XE p→X4 k→k+f=n→(kas_bin f p k).kasWp cmp Q s
 |0,p,k,P,hs,e=>h p P (by rwa[←e])
 | f+1,p,k,P,hs,e=>by
  unfold kas_bin
  rw[Xe]
  refine t_place h0 hc P hs k 0 k Hb Hb Hb (λi q=>absurd q Hb) (λi q1 q2=>absurd q2 Hb) λl hl lS hhi=>t_bin h f _ (k+1) (P.bub _ _) (λi j cZ hj=>?_) Hb
  have hk:k<p.size:=by rw[P.sz];lia
  rw[kk_bub hk Hb,kk_bub hk Hb,show k-(k-l)=l by lia]
  repeat' split
  all_goals first
   |(exfalso;lia)
   |exact Kn _
   |exact lS _ (by lia)
   |exact Ku (hhi _ (by lia) (by lia))
   |exact hs _ _ (by lia) (by lia)
theorem t_sort(h:∀p,XE p→X4 n→Q p s):(kas_sort n).kasWp cmp Q s:=by
 unfold kas_sort
 rw[Xe]
 refine t_count h0 hc (.of E3) λp k P h1 h2 hs=>?_
 dsimp only
 split
 ·exact t_bin h0 hc h _ p _ P (by rwa[Nat.max_eq_left h1]) Hb
 ·exact h p P (by rwa[show k=n by lia]at hs)
end
open AutoSeq1 (wpAny_loadPart')
open MeetsSeq MeetsSeq2 MeetsSeq3 SeqRoads2
section
variable{prog:Nk}{w:Nn}{A:Nq}{E:Nd}{s:Nj}{R:List Value→Prop}{vs:Nl}
structure zcg(prog:Nk)(w:Nn)(A:Nq)(E:Nd)(s:Nj)(R:List Value→Prop)(vs:Nl):Prop where
 few:vs.length<2→R vs
 go:2≤vs.length→∃kd:SortKind,(∀Q:SortKind→Shared→Prop,Q kd s→ZI LO Q E s) ∧
  ∀Q:Unit→SortSt→Prop,(∀aa,(S' aa).Perm TZ→failedOf aa=none→R ((S' aa).toList.map (·.2))→Q () aa)→ZP sortRuns' Q (SortSt.mk' kd OV #[] 7 none)
def zd8(vs:Nl):(pairsOf vs).toList=vs.map λv=>(v,v):=by
 rw[pairsOf_toList]
 induction vs with
 |nil=>rfl
 |cons v r ih=>rw[Jt,Qm,ih]
def perm_back{l:List Keyed}{vs:Nl}(h:l.Perm (vs.map λv=>(v,v))):(EJ (·.2)).Perm vs:=by
 have:=h.map (·.2)
 rwa[Zj,show((λ(p:Keyed)=>p.2)∘λv=>(v,v))=id from rfl,List.map_id]at this
def cmp_of{kd:SortKind}(h:∀x y,x∈vs→y∈vs→∀(Q:Bool→Shared→Prop) (E':Value→Shared→Prop),(∀b,Q b s)→ZI OI Q E' s):QX TZ:=by
 intro x y st Q hx hy hk q
 rw[zd8]at hx hy
 obtain⟨v,hv,rfl⟩:=Qf.mp hx
 obtain⟨u,hu,rfl⟩:=Qf.mp hy
 rw[lt'_eq]
 refine wpS_bind (wpS_get ?_)
 rw[hk]
 refine wpS_bind (wpS_lift (wpAny_attempt (h v u hv hu _ _ λb=>⟨rfl,?_⟩)))
 exact wpS_pure (q b)
def zcg.any(h:2≤vs.length→∃kd:SortKind,(∀Q:SortKind→Shared→Prop,Q kd s→ZI LO Q E s)∧∀x y,x∈vs→y∈vs→∀(Q:Bool→Shared→Prop) (E':Nd),(∀b,Q b s)→ZI OI Q E' s):JF s (λ_=>True) vs :=
 ⟨fun _=>trivial,fun h2=>by
  obtain⟨kd,a1,a2⟩:=h h2
  exact⟨kd,a1,λQ q=>zf4 (cmp_of a2) rfl rfl E3 rfl λaa p1 p2=>q aa p1 p2 trivial⟩⟩
def zcg.ord{O:KeyOrd}{kv:Value→O.α}(h:2≤vs.length→∃ kd:SortKind,(∀ Q:SortKind→Shared→Prop,Q kd s→ZI LO Q E s)∧∀ x y,x∈vs→y∈vs→∀ (Q:Bool→Shared→Prop) (E':Nd),Q (O.blt (kv x) (kv y)) s→ZI OI Q E' s):JF s (fun ws=>vs.length < 64→ws.Pairwise fun x y=>O.kle (kv x) (kv y)) vs:=by
 refine⟨λh2 _=>?_,λh2=>?_⟩
 ·obtain _ | ⟨v,_ | ⟨v',r⟩⟩:=vs
  ·exact List.Pairwise.nil
  ·exact Xl _ _
  ·exact absurd h2 Ha
 obtain⟨kd,a1,a2⟩:=h h2
 refine⟨kd,a1,λQ q=>?_⟩
 by_cases rL:vs.length<64
 ·have at_:∀ i,i < vs.length→vs.getD i .none∈vs:=fun i hi=>by
   rw[Zf,Qd hi]
   exact Qr hi
  have st0:SortSt.mk' kd OV #[] 7 none=kas_st kd TZ (List.toArray (List.range vs.length)):=by
   unfold kas_st
   rw[←pairsOf_size vs,kas_range]
   rfl
  rw[st0]
  refine kas_runs (κ:=kd) (it:=pairsOf vs) (E:=E) (Q:=λr st s'=>s'=s∧Q r st) (G:=λp s'=>Aj3 (s'=s) (Ar vs.length p) (Up (O:=O) (λi=>kv IK) p vs.length)) h2 rL (λp aa s' hz ha hf ⟨hs,P,U⟩=>⟨hs,q aa ?_ hf λ_=>?_⟩) (t_sort (O:=O) (kf:=λi=>kv IK) Hb (λi j C hi hj hC=>?_) λp P U=>⟨rfl,P,U⟩)
  ·have:=(Yr.mp P.pm).map (kas_item TZ)
   rw[←Xp,←Xp,←pairsOf_size vs,kas_range]at this
   rw[ha]
   exact Yr.mpr this
  ·rw [ha,Xp,Zj,Us,Kv]
   intro i j hi hj cZ
   have e:∀k (hk:k<p.toList.length),kv ((kas_item TZ p.toList[k]).2)=kk (λi=>kv IK) p k:=λk hk=>by
    unfold kk
    rw[kas_item_eq,Ud,getElem?_pos p k OS]
    rfl
   show O.kle (kv _) (kv _)
   dsimp only[Function.comp]
   rw[e i hi,e j hj]
   exact U i j (Wo cZ) (by simpa[P.sz] using hj)
  ·unfold kas_cmp
   rw[kas_item_eq,kas_item_eq]
   exact a2 _ _ (at_ i hi) (at_ j hj) _ _ hC
 ·exact zf4 (cmp_of λx y hx hy Q' E' q'=>a2 x y hx hy Q' E' (q' _)) rfl rfl E3 rfl λaa p1 p2=>q aa p1 p2 λz=>absurd z rL
abbrev strO:KeyOrd:=strKind.toKeyOrd
def kvS(v:Value):List Nat:=(strOf v).cps.toList
def zev(hv:∀v∈vs,∃x t,v=.str x t):JF s (λws=>vs.length<64→ws.Pairwise λx y=>strO.kle (kvS x) (kvS y)) vs:=by
 refine .ord λh2=>⟨oneType',λQ q=>kas_kind (T:=.type "str") h2 (λv hm=>?_) Hf Hf q,λx y hx hy Q E' q=>?_⟩
 ·obtain ⟨x,t,rfl⟩:=hv v hm
  exact Looks.of_pure rfl
 ·obtain ⟨a,t,rfl⟩:=hv x hx
  obtain⟨b,u,rfl⟩:=hv y hy
  rw[keyLt'_oneType]
  exact oneLt_str q
def sort_list{a:Nc}{n:Nat}{P:Fin→Shared→Prop}(ho:s.heap.get? a=some (seqObj "list" vs.toArray n))(hz:vs.length≤sizeLine)(hS:∀s':Shared,(∀b o,b≠a→s.heap.get? b=some o→s'.heap.get? b=some o)→JF s' R vs)(h:∀ws:List Value,ws.Perm vs→R ws→P (.done IL) {s with heap:=sortedHeap s.heap a vs ws.toArray}) :
  wpAny Hw A (Builtin.«list.sort» ⟨[RV],[]⟩) P E s:=by
 have lt:a<s.heap.objs.size:=Qu ho
 rw[list_sort_plain]
 refine wpAny_bind (listItems_at ho rfl (SA (listUpdate_at ho rfl ?_ (hsz:=by simpa using hz) (hsz2:=by simp))))
 obtain⟨e1,k1⟩:∃e,(s.heap.update a (Obj.mapSeq λ_=>#[])).get? a=some (seqObj "list" #[] e):=⟨_,get?_update_seq ho λ_=>#[]⟩
 refine wpAny_bind (xQ k1 (wpAny_bind (wpAny_newTuple (SA (wpAny_newList (wpAny_holding ?_))))))
 show ZI _ P E {s with heap:=((s.heap.update a (Obj.mapSeq λ_=>#[])).push (seqObj "tuple" vs.toArray 0)).push (seqObj "list" #[] 0)}
 generalize hg:((s.heap.update a (Obj.mapSeq λ_=>#[])).push (seqObj "tuple" vs.toArray 0)).push (seqObj "list" #[] 0)=g
 have k6:g.get? a=some (seqObj "list" #[] e1):=by
  rw[←hg]
  exact WN (WN k1)
 have kk:∀b o,b≠a→s.heap.get? b=some o→g.get? b=some o:=λb o hb e=>by
  rw[←hg]
  exact WN (WN ((Yj s.heap _ AH).trans e))
 have eh:∀out,sortedHeap s.heap a vs out=g.update a (Obj.mapSeq λ_=>out):=λout=>by rw[←hg];rfl
 have S:=hS {s with heap:=g} kk
 dsimp only
 have fin:∀(l:Array Keyed),l.toList.Perm (vs.map λv=>(v,v))→R (l.toList.map (·.2))→P (.done IL) {s with heap:=g.update a (Obj.mapSeq λ_=>l.map (·.2))}:=λl p1 p2=>by
  have:=h _ (perm_back p1) p2
  rw[eh]at this
  rw[show l.map (·.2)=(l.toList.map (·.2)).toArray by rw[←Xp]]
  exact this
 have lz:vs.toArray.size=vs.length:=Qy
 have szOk:∀l:Array Keyed,l.toList.Perm (vs.map λv=>(v,v))→(EJ (·.2)).size≤sizeLine+1:=λl p1=>by
  rw[Array.size_map,←Wr,p1.length_eq,Qa];exact zar16 ‹_›
 by_cases few:vs.toArray.size<2
 ·rw [Si few,Si few]
  refine wpAny_bind (wpAny_pure ?_)
  rw[StateT.run_pure]
  have pr:(pairsOf vs).toList.Perm (vs.map λv=>(v,v)):=by rw[zd8]
  refine wpAny_bind (Sj (wpAny_bind (xQ k6 (SA (listUpdate_at k6 rfl ?_ (hsz:=by simp) (hsz2:=szOk (pairsOf vs) pr))))))
  simp only[bne_self_eq_false,Jw,if_false]
  refine wpAny_pure (fin TZ pr ?_)
  rw[zd8,Zj,show((λ(p:Keyed)=>p.2)∘λv=>(v,v))=id from rfl,List.map_id]
  exact S.few (by rw[←lz];exact few)
 ·rw [Sb few,Sb few]
  obtain⟨kd,ask,C⟩:=S.go Hb
  refine wpAny_bind (ask _ ?_)
  refine wpAny_bind (wpAny_mono (C (λ_ aa=>Aj3 ((S' aa).Perm TZ) (failedOf aa=none) (R ((S' aa).toList.map (·.2)))) λaa p1 p2 p3=>⟨p1,p2,p3⟩) ?_ λ_ _ e=>e)
  rintro⟨⟨⟩,aa⟩ s' ⟨rfl,p1,p2,p3⟩
  have pr:(S' aa).toList.Perm (vs.map λv=>(v,v)):=by rw[←zd8];exact Yr.mp p1
  dsimp only
  refine wpAny_bind (xQ k6 (SA (listUpdate_at k6 rfl ?_ (hsz:=by simp) (hsz2:=szOk (arrOf aa) pr))))
  rw[p2]
  simp only[bne_self_eq_false,Jw,if_false]
  exact wpAny_pure (fin _ pr p3)
def zfc{x:Value}{G:List Value→Prop}{R:List Value→List Value→Prop}{Q:Nd}(uT:∀(E':Nd) (R:List Value→Shared→Prop),(∀(g:Np) (tk:Nat) (vs:Nl),HK→s.heap.objs.size≤g.objs.size→G vs→R vs {s with heap:=g,toks:=tk})→ZJ A.in1 (collect x) R E' s)(hz:∀vs,G vs→vs.length≤sizeLine)(hS:∀vs,G vs→∀(A':Around) (E':Value→Shared→Prop) (s':Shared),A'.units≤A.units+8→(∀b o,s.heap.get? b=some o→s'.heap.get? b=some o)→Fd (R vs) vs)(h:∀(vs ws:Nl) (l:Nc) (g:Np) (tk e:Nat),G vs→ws.Perm vs→R vs ws→s.heap.objs.size≤l→HK→g.get? l=some (seqObj "list" ws.toArray e)→Q Sy {s with heap:=g,toks:=tk}) :
  wpAny Hw A (call (.builtin "sorted") [x]) Q E s:=by
 refine Calls.call_function_entry kind_sorted plain_sorted entry_sorted (args_sorted1 _) ?_
 unfold Builtin.«sorted»
 refine wpAny_bind (m:=checkCount "sorted" 1 1 _) (wpAny_pure (wpAny_bind (uT _ _ λg tk vs kg le hG=>?_)))
 have hzv:=hz vs hG
 refine wpAny_bind (wpAny_newList ?_ (hsz:=hzv))
 have o1:(g.push (seqObj "list" vs.toArray 0)).get? g.objs.size=some (seqObj "list" vs.toArray 0):=U9 rfl
 show ZZ _ _ _ _ {s with heap:=g.push (seqObj "list" vs.toArray 0),toks:=tk}
 refine wpAny_bind (wpAny_holding (wpAny_call_entry slot_list_sort ⟨_,o1,rfl⟩ entry_list_sort (sort_list (R:=R vs) o1 hzv (λs' k=>hS vs hG _ _ s' ?_ λb o e=>k b o (λz=>?_) (WN (kg b o e))) λws p1 p2=>⟨_,rfl,?_⟩) (args_list_sort _)))
 ·show A.units+1+1≤A.units+8
  lia
 ·have lt:b < g.objs.size:=Qu (kg b o e)
  rw[z]at lt
  exact absurd lt Oo
 ·obtain ⟨e,he⟩:=sortedHeap_at (out:=ws.toArray) o1
  refine wpAny_pure ⟨_,rfl,h vs ws _ _ _ e hG p1 p2 le (λb o q=>?_) he⟩
  have lt:b<g.objs.size:=Qu (kg b o q)
  rw[sortedHeap_old OW (by rw[size_push'];exact Jy lt)]
  exact WN (kg b o q)
def zgz{T:String}{r d:Nc}{n:Nat}{P:Nat→Value→Prop}{OK:Heap→Prop}{R:List Value→Shared→Prop}(K:KdlSrc prog w T r d n P OK)(hh:A.handled=none)(ok:OK s.heap)(hn:n≤sizeLine)(h:∀(g:Np) (tk:Nat) (af:Array Value),HK→s.heap.objs.size≤g.objs.size→ItemsOf P af n→R af.toList {s with heap:=g,toks:=tk}) :
  wpAny Hw A (collect (Hi r)) R E s:=by
 have there:=K.there _ ok
 unfold collect
 refine wpAny_bind (wpAny_runValue (codeAny_builtin entry_proto_collect' ?_))
 rw[Yy PySem.F.plain_proto_collect _]
 show ZZ A.in1 (newList [] >>= λl =>
  again (.builtin "list.__iadd__" ⟨[l,Hi r],[]⟩)) _ _ s
 refine wpAny_bind (wpAny_newObj_type (Sj ⟨plainId_quiet PySem.F.plain_list_iadd _,codeAny_builtin entry_list_iadd' ?_⟩))
 rw[Yy PySem.F.plain_list_iadd _]
 show ZZ A.in1 (Builtin.List.listExtendWith Hu
  (.ref r) Hu) _ _ _
 have ll:(s.heap.push {cls:=.type "list",data:=.seq ([]:List Value).toArray}).get? s.heap.objs.size=some {cls:=.type "list",data:=.seq #[]}:=U9 rfl
 refine wpAny_mono (kdl_extend (A:=A) (s:={s with heap:=s.heap.push {cls:=.type "list",data:=.seq ([]:List Value).toArray}})
  (R:=fun (q:Result) (s':Nj)=>∃ (g:Np) (tk:Nat) (af:Array Value) (c:Nat),q=.ok (.ret Hu)∧s'={ s with heap:=g,toks:=tk } ∧
   (∀b o,s.heap.get? b=some o→g.get? b=some o)∧g.get? s.heap.objs.size=some {cls:=.type "list",dict:=none,data:=.seq af c,slots:=#[]}∧ItemsOf P af n)
  K hh (K.keep _ _ ok λb _ o e=>WN e) s.heap.objs.size (Yu there.1) (Yu there.2) Hu 0 ll
  (λg tk af c hk hS ha=>⟨g,tk,af,c,rfl,rfl,λb o e=>hk b o Op C4,hS,ha⟩) hn) (λfin s' x=>?_) λe s' x=>?_
 ·cases fin with
  |done f =>
   obtain⟨g,tk,af,c,e,rfl,hk,hS,ha⟩:=x
   cases e
   show ZZ A (load s.heap.objs.size >>= _) _ _ _
   exact wpAny_bind Cg
  |again c1 =>
   refine⟨x.1,codeAny_mono x.2 λq s2 y=>?_⟩
   obtain⟨g,tk,af,c,rfl,rfl,hk,hS,ha⟩:=y
   show ZZ A (load s.heap.objs.size >>= _) _ _ _
   exact wpAny_bind Cg
 ·obtain ⟨_,_,_,_,e',_⟩:=x
  cases e'
def sorted_any{Q:Nd}(hl:s.heap.IsList l vs.toArray)(hz:vs.length≤sizeLine)(hS:∀(A':Around) (E':Value→Shared→Prop) (s':Shared),A'.units≤A.units+8→(∀b o,s.heap.get? b=some o→s'.heap.get? b=some o)→Fd R vs)(h:∀(ws:Nl) (l:Nc) (g:Np) (tk e:Nat),ws.Perm vs→R ws→s.heap.objs.size≤l→HK→g.get? l=some (seqObj "list" ws.toArray e)→Q Sy {s with heap:=g,toks:=tk}) :
  wpAny Hw A (call (.builtin "sorted") [Sy]) Q E s :=
 zfc (G:=λus=>us=vs) (R:=λ_=>R) (λE' R' hR=>collect_list hl (hR _ _ _ (λb o e=>(Vs (Zl Op)).trans C4) (by rw[Heap.size_update,size_push'];exact Uq _) rfl) hz) (λus e=>e▸hz) (λus e=>e▸hS) λus ws l g tk e e' p1 p2=>h ws l g tk e (e'▸p1) p2
end
def str_ext{a b:Str}(h:a.cps.toList=b.cps.toList):a=b:=by
 cases a;cases b
 exact congrArg _ (Array.toList_inj.mp h)
def str_ne{a b:Str}(h:¬a=b):¬a.cps.toList=b.cps.toList:=λq=>h (str_ext q)
def pairO(O P:KeyOrd):KeyOrd where
 α:=O.α×P.α
 blt a b:=O.blt a.1 b.1||(!Gh a.1&&P.blt a.2 b.2)
 irrefl a:=by rw[O.irrefl,P.irrefl];rfl
 trans a b c h1 h2:=by
  simp only[Jr,Jk,Jd]at *
  rcases h1 with h1 | ⟨n1,h1⟩
  ·rcases h2 with h2 | ⟨n2,h2⟩
   ·exact .inl (O.trans _ _ _ h1 h2)
   ·exact .inl (KeyOrd.klt_of_klt_of_kle h1 n2)
  ·rcases h2 with h2 | ⟨n2,h2⟩
   ·exact .inl (KeyOrd.klt_of_kle_of_klt n1 h2)
   ·exact .inr ⟨Jj n1 n2,P.trans _ _ _ h1 h2⟩
 negTrans a b c h:=by
  simp only[Jr,Jk,Jd]at *
  rcases h with h | ⟨n,h⟩
  ·rcases O.negTrans _ b.1 _ h with q | q
   ·exact .inl (RH q)
   ·exact .inr (RH q)
  ·cases e1:O.blt a.1 b.1 with
   |true=>exact .inl HW
   | false =>
    cases e2:Gh c.1 with
    |true=>exact .inr HW
    |false =>
     have n1:Gh a.1=false:=Jj (O:=O) (a:=a.1) (b:=c.1) (c:=b.1) n e2
     have n2:O.blt c.1 b.1=false:=Jj (O:=O) (a:=b.1) (b:=a.1) (c:=c.1) e1 n
     rcases P.negTrans _ b.2 _ h with q | q
     ·exact .inl (SC ⟨n1,q⟩)
     ·exact .inr (SC ⟨n2,q⟩)
 total a b h1 h2:=by
  simp only[Bool.or_eq_false_iff,Bool.and_eq_false_iff,Bool.not_eq_false']at *
  have e1:=O.total _ _ h1.1 h2.1
  obtain⟨a1,a2⟩:=a
  obtain⟨b1,b2⟩:=b
  simp only at e1 h1 h2
  subst e1
  have i:=O.irrefl a1
  rw[i]at h1 h2
  have p1:P.blt a2 b2=false:=h1.2.elim (λz=>by cases z) id
  have p2:P.blt b2 a2=false:=h2.2.elim (λz=>by cases z) id
  rw[P.total _ _ p1 p2]
def zis(h:Np):Value→List Value
 | .ref a=>match h.get? a with
  |some o=>match o.data with
   |.seq xs _=>xs.toList
   |_=>[]
  |none=>[]
 |_=>[]
def itemsAt_ref(e:h.get? a=some o)(d:o.data=.seq xs n):zis h RV=xs.toList:=by
 unfold zis
 dsimp only
 rw[e]
 dsimp only
 rw[d]
def kvP(h:Np)(v:Value):List Nat×List Nat:=(kvS ((zis h v).getD 0 .none),kvS ((zis h v).getD 1 .none))
def zfx(h:Np)(v:Value)(x:Str)(q:Value):Prop:=∃a o t n,v=.ref a∧h.get? a=some o∧o.cls=.type "tuple" ∧ o.data=.seq #[.str x t,q] n
def zfx.key(p:X5 q):kvP h v=(x.cps.toList,kvS q):=by
 obtain⟨a,o,t,n,rfl,e,c,d⟩:=p
 unfold kvP
 rw[itemsAt_ref e d]
 rfl
theorem katTups(k:∀b o,h.get? b=some o→s.get? b=some o):∀(vs:Nl),(∀v∈vs,∃x q,X5 q)→∃fs,KatTups s vs fs∧fs.length=vs.length∧∀f∈fs,∃x t,f=.str x t
 |[],_=>⟨[],.nil,rfl,λf hf=>by cases hf⟩
 |v::vs,hv=>by
  obtain⟨fs,h1,h2,h3⟩:=katTups k vs λu hu=>hv u (QZ hu)
  obtain⟨x,q,a,o,t,n,rfl,e,c,d⟩:=hv v Qb
  refine⟨.str x t::fs,.cons Ol c d rfl h1,by rw[Qz,Qz,h2],λf hf=>?_⟩
  rcases Qh.mp hf with z | z
  ·exact⟨x,t,z⟩
  ·exact h3 f z
section
variable{prog:Nk}{w:Nn}{A:Nq}{E:Nd}{s:Nj}{vs:Nl}{h:Np}
def kind_tups(k:∀b o,h.get? b=some o→s.heap.get? b=some o)(hv:∀v∈vs,∃x q,X5 q)(h2:2≤vs.length)(q:Q (tuples' true) s):ZI LO Q E s:=by
 obtain⟨fs,h1,h3,h4⟩:=katTups k vs hv
 refine kat_kind (T:=.type "str") h1 Hb (λf hf=>?_) Hf q
 obtain⟨x,t,rfl⟩:=h4 f hf
 exact Looks.of_pure rfl
def blt_p:(Fm strO).blt (x,y) (x',y')=if x=x' then decide (y<y') else decide (x<x'):=by
 show(decide (x<x')||(!decide (x'<x)&&decide (y<y')))=_
 split
 ·rename_i e
  subst e
  rw[decide_eq_false (Ww x)];rfl
 ·rename_i ne
  by_cases h1:x<x'
  ·rw[decide_eq_true h1];rfl
  ·rw[decide_eq_false h1,decide_eq_true (Ul λh2=>ne (strO.total _ _ (Su h1) (Su h2)))];rfl
def zeu(k:∀ b o,h.get? b=some o→s.heap.get? b=some o)(hv:∀ v∈vs,∃ x q,X5 q)(hd:∀ v∈vs,∀ u∈vs,∀ x p q,X5 p→zfx h u x q→v=u∨∃ y t y' t',p=.str y t∧q=.str y' t'):JF s (fun ws=>vs.length < 64→ws.Pairwise fun x y=>(Fm strO).kle (kvP h x) (kvP h y)) vs:=by
 refine .ord λh2=>⟨tuples' true,λQ q=>kind_tups k hv h2 q,λv v' hx hy Q E' q=>?_⟩
 have same:=hd v hx v' hy
 obtain⟨x,z,p⟩:=hv v hx
 obtain⟨x',z',p'⟩:=hv v' hy
 have P:=p
 have P':=p'
 rw[P.key,P'.key,blt_p]at q
 obtain⟨a,o,t,n,rfl,e,c,d⟩:=p
 obtain⟨a',o',t',n',rfl,e',c',d'⟩:=p'
 refine kat_lt Ol d (k _ _ e') d' ?_
 show KatLex _ _ _ _ _ _ [(Y' t,Value.str x' t'),(z,z')] 0 s
 refine kat_cons (wpAny_eqBool_str ?_)
 by_cases ex:x=x'
 ·subst ex
  rw[if_pos rfl]at q
  rw[decide_eq_true rfl]
  refine kat_yes (kat_cons ?_)
  rcases same x z z' P P' with e2 | ⟨y,u,y',u',rfl,rfl⟩
  ·cases e2
   rw[e]at e'
   cases e'
   rw[d]at d'
   have d2:(#[Y' t,z]:Array Value)=#[Y' t',z']:=by injection d'
   have d3:z=z':=by
    have:=congrArg (λa:Array Value=>a[1]?) d2
    simpa using this
   subst d3
   rw[decide_eq_false (Ww _)]at q
   exact SeqAt.EqAt.same z _ _ _ _ (kat_yes (kat_nil q))
  ·refine wpAny_eqBool_str ?_
   by_cases ey:y=y'
   ·subst ey
    rw[show kvS (DI u')=kvS (DI u) from rfl,decide_eq_false (Ww _)]at q
    rw[decide_eq_true rfl]
    exact kat_yes (kat_nil q)
   ·rw [Su ey]
    exact kat_no (kat_one _ _ (lt_str q))
 ·rw [Su ex]
  rw[if_neg (str_ne ex)]at q
  exact kat_no (oneLt_str q)
end
def lt_loopAt(l b:Nc)(xs ys:S1 (Str×Tok))(n n2:Nat)(k:Nat) :
  ∀ i:Nat,min xs.length ys.length - i=k→i≤min xs.length ys.length→Meets (Builtin.«list.__eq__.loop» ⟨[Sy,Ey,IB i,IB 0],[]⟩)
   (fun A R s=>s.heap.get? l=some { cls:=.type "list",data:=.seq (Om xs).toArray n }∧s.heap.get? b=some { cls:=.type "list",data:=.seq (Om ys).toArray n2 } ∧
    ∀z,R (C7 (Ow z)) s):=by
 have get:∀(zs:S1 (Str×Tok)) (i:Nat),(Om zs).toArray[((i:Nat):Int).toNat]?=zs[i]?.map λp=>Value.str p.1 p.2:=λzs i=>by
  simp[strValues]
 induction k with
 | zero =>
  intro i hk cY prog w A R s h
  obtain⟨hp,g,d,tk,os⟩:=s;obtain⟨hl,hb,h⟩:=h
  wp_walk using wpAny_loadPart' hl,wpAny_loadPart' hb
  rw[get,get]
  by_cases hx:i<xs.length
  ·have hy:ys[i]?=none:=by simp;lia
   rw[hy,Qd hx]
   dsimp only[Option.map_some,Option.map_none]
   wp_walk using wpAny_loadPart' hl,wpAny_loadPart' hb
   exact h _
  ·have gT:xs[i]?=none:=by simp;lia
   rw[gT]
   dsimp only[Option.map_some,Option.map_none]
   wp_walk using wpAny_loadPart' hl,wpAny_loadPart' hb
   exact h _
 | succ k ih =>
  intro i hk cY prog w A R s h
  obtain⟨hp,g,d,tk,os⟩:=s;obtain⟨hl,hb,h⟩:=h
  wp_walk using wpAny_loadPart' hl,wpAny_loadPart' hb
  have hx:i<xs.length:=by lia
  have hy:i<ys.length:=by lia
  rw[get,get,Qd hx,Qd hy]
  dsimp only[Option.map_some]
  have hc:((i:Int)+1)=((i+1:Nat):Int):=by push_cast;rfl
  refine wpAny_bind (wpAny_eqBool_str ?_)
  by_cases he:xs[i].1=ys[i].1
  ·rw [HY he]
   wp_walk
   rw[hc]
   exact⟨plainId_quiet plain_eq_loop _,codeAny_builtin entry_eq_loop (by
    rw[Gi _]
    exact ih HN HI HI prog w A R _ ⟨hl,hb,h⟩)⟩
  ·rw [Su he]
   wp_walk using wpAny_loadPart' hl,wpAny_loadPart' hb
   rw[get,get,Qd hx,Qd hy]
   dsimp only[Option.map_some]
   refine wpAny_bind (show ZZ _ (PV (Value.str xs[i].1 xs[i].2) (Value.str ys[i].1 ys[i].2)) _ _ _ from lt_str ?_)
   wp_walk
   exact h _
def list_ltAt(l b:Nc)(xs ys:S1 (Str×Tok))(n n2:Nat):Meets (Builtin.«list.__lt__» ⟨[Sy,Ey],[]⟩)
   (fun A R s=>s.heap.get? l=some { cls:=.type "list",data:=.seq (Om xs).toArray n }∧s.heap.get? b=some { cls:=.type "list",data:=.seq (Om ys).toArray n2 } ∧
    ∀z,R (C7 (Ow z)) s):=by
 intro prog w A R s h
 obtain⟨hp,g,d,tk,os⟩:=s;obtain⟨hl,hb,h⟩:=h
 have f3:=AutoSeq1.sub_list_list
 wp_walk using wpAny_loadPart' hl,wpAny_loadPart' hb
 exact⟨plainId_quiet plain_eq_loop _,codeAny_builtin entry_eq_loop (by
  rw[Gi _]
  exact lt_loopAt l b xs ys n n2 _ 0 rfl SJ prog w A R _ ⟨hl,hb,h⟩)⟩
section
variable{prog:Nk}{w:Nn}{A:Nq}{E:Nd}{s:Nj}
def zha{vs:Nl}{h:Np}(hu:A.units<cLine)(k:∀b o,h.get? b=some o→s.heap.get? b=some o)(hv:∀v∈vs,∃a xs n,v=.ref a∧h.get? a=some {cls:=.type "list",data:=.seq (Om xs).toArray n}):JF s (λ_=>True) vs:=by
 refine .any λh2=>⟨oneType',λQ q=>kas_kind (T:=.type "list") h2 (λv hm=>?_) Hf Hf q,λx y hx hy Q E' q=>?_⟩
 ·obtain ⟨a,xs,n,rfl,e⟩:=hv v hm
  exact(Looks.ld Ol).andThen .now
 ·obtain ⟨a,xs,n,rfl,e⟩:=hv x hx
  obtain⟨b,ys,m,rfl,e'⟩:=hv y hy
  rw[keyLt'_oneType,oneLt'_eq]
  simp only[if_true]
  refine wpAny_bind (wpAny_cRoomFor hu ?_)
  refine wpAny_bind (wpAny_callSpecialIfBound?_slot ⟨_,Ol,rfl⟩ F.slot_list_lt (call_meets F.slot_list_lt ⟨_,Ol,rfl⟩ F.entry_list_lt (F.args_list_lt_2 _ _) (list_ltAt a b xs ys n m) ⟨Ol,k _ _ e',λz=>?_⟩))
  exact wpAny_truthy_bool (q _)
end
end Tm
end
section
namespace L2
open PySem PySem.Spec PyProof.Rows
def zc3{K:Na}{a:Nc}{zs:Nh}{g:TG}{tb:TS}{D:Ends}{σ:St}{H:Hp}(Pv:Nat→St→Hp→Prop)(h0:CI)(hl:∀i σ H,i≤(zs.map V.str).length→Pv i σ H→W0 RT)(hs:∀i (hi:i<zs.length) σ H,Pv i σ H→g (.str zs[i]) σ H λ σ2 H2=>tb {D with nx:=Pv HN,ct:=Pv HN,bk:=D.nx} σ2 H2)(hd:∀σ H,Pv (zs.map V.str).length σ H→W1 H) :
  ∃W:Nat→Nat→St→Hp→Prop,(∃m,W 0 m σ H)∧∀i m σ H,W i m σ H →
   ((K7 a).stop i H∧W1 H)∨((K7 a).go i H∧∃N:St→Hp→Prop,Hy∧∀x H',(K7 a).yld i H x H'→g x σ H' λ σ2 H2=>tb {D with nx:=N,ct:=N,bk:=D.nx} σ2 H2) :=
 zbc Pv h0 hl (λi x σ H e p=>by
  have hi:i<zs.length:=by
   have:=(LA e).1
   rwa[Qa]at this
  rw[Qo,Qd hi]at e
  cases e
  exact hs i hi σ H p) hd
section
variable{X:Cx}
inductive RrIndex(x:V)(vs:List V)(H:Hp)(Q:VK):Prop
 |mk (l:Nc) (xs:List V) (y:V) (j:Nat) (h0:x=.ref l) (h1:vs=[y]) (h2:H l=some (.lst xs)) (h3:zdq y=true) (h4:xs.all zdq=true) (h5:(∃z,xs[j]?=some z∧eqV z y=true)) (h6:(∀m z,m<j→xs[m]?=some z→eqV z y=false)) (h7:Q (.int j) H):RrIndex x vs H Q
def rIndex:V→List V→Hp→VK→Prop:=λx vs H Q=>RrIndex x vs H Q
def ziq:MtM X "list.index" rIndex:=by
 intro a5 s σ H x vs v us Q I rx rv h
 obtain⟨l,xs,y,j,rfl,rfl,hH,fy,fs,⟨z,hz,ez⟩,dB,q⟩:=h
 cases rx
 obtain⟨u,rfl,ru⟩:=rv.one
 obtain⟨zz,a7,n,r,hl,e⟩:=I.lstM hH
 have hn:=zfr
 obtain⟨wv,hw,bH⟩:=r.get hz
 have hj:j<a7.length:=(LA hw).1
 have fl:∀{i:Nat} {a:V},xs[i]?=some a→zdq a=true:=λ{i a} q=>Uf.mp fs a (Yd q)
 refine call_meets F.slot_list_index ⟨_,e,rfl⟩ F.entry_list_index (F.args_list_index_2 _ _)
  (SeqAt.list_indexAt l a7.toArray n none #[] u (eqU y) j (He hj) HI ?_ ?_) ⟨e,λa ha=>zd9 ru fy r fs a (He ha),?_⟩
 ·have e1:a7[j]=wv:=by
   have:=Qd hj
   rw[this]at hw;exact Qn hw
  show eqU y (a7.toArray[j])=true
  rw[Kj,e1,eqU_of bH (fl hz)]
  exact ez
 ·intro m hm ad
  have oy:m<a7.length:=by simpa using hm
  have cb:m<xs.length:=by exact zar6 ‹_› ‹_›
  have gx:xs[m]?=some xs[m]:=Qd cb
  obtain⟨wm,hwm,rm⟩:=r.get gx
  have e1:a7[m]=wm:=by
   have:=Qd oy
   rw[this]at hwm;exact Qn hwm
  show eqU y (a7.toArray[m])=false
  rw[Kj,e1,eqU_of rm (fl gx)]
  exact dB m _ ad gx
 ·exact⟨HM j,H,Sg,⟨wI⟩,q⟩
theorem zf6:∀{zs:Nh} {a7:Nl},Ba a7→∃l:List (Str×Tok),a7=PySem.strValues l∧l.map (·.1)=zs
 |[],_,.nil=>⟨[],rfl,rfl⟩
 |z::zs,_,.cons r t=>by
  obtain⟨tk,rfl⟩:=r
  obtain⟨l,rfl,e⟩:=zf6 t
  exact⟨(z,tk)::l,rfl,by rw[Qm,e]⟩
def call_isi_str:Y2 (.builtin "isinstance") (λxs H Q=>Ex1 λz=>Aj2 (xs=[Pl,.ty "str"]) (Q Ti H)):=by
 intro a5 s σ H xs us Q I r h
 obtain⟨z,rfl,q⟩:=h
 obtain⟨u,w',rfl,⟨t,rfl⟩,e⟩:=vals2 r
 have e':w'=Value.type "str" := e
 subst e'
 exact IsiPair.str_str ⟨Ti,H,I,rfl,q⟩
def zfy{a5:Ni}{s:Nj}{σ:St}{H:Hp}{p:Nc}{ys:List V}(hc:X.calm=true)(I:HP)(hq:WO ys){Q:Nd}(h:∀ (a7:Nl) (It:Nc) (h1:Np),YM a7→Walks X.prog X.w X.A.in1 It [It,p] [It] a7.toArray.size (fun i v=>a7.toArray[i]?=some v) (fun i h=>h.IsListIter It p i∧h.IsList p a7.toArray)→(h1.IsListIter It p 0∧h1.IsList p a7.toArray)→(∀ b∈[It,p],b < h1.objs.size) →
   (∀(h':Np) (tk:Nat),(∀b o,b∉[It]→h1.get? b=some o→h'.get? b=some o)→ZA H {s with heap:=h',toks:=tk})→Q (Hi It) {s with heap:=h1}) :
  wpAny Hm X.A.in1 (OF Tn) Q X.xe s:=by
 obtain⟨a7,rv,pl,hz⟩:=I.list hq
 refine wpAny_pyIter_list pl.isList ?_
 have lt:p<s.heap.objs.size:=by obtain⟨o,n,e,_⟩:=pl;exact Qu e
 refine h a7 s.heap.objs.size _ rv (Walks.list (show X.A.in1.handled=none from I.ok.hd hc) _ _ OW _) ⟨⟨_,Ta,rfl,rfl⟩,?_⟩ (λb hb=>?_) λh' tk k=>I.kept (t':=tk) λb o e=>?_
 ·obtain ⟨o,e,r⟩:=pl.isList
  exact⟨o,C4,r⟩
 ·rcases Qh.mp hb with e | e
  ·rw[e];simp[Heap.push]
  ·rw[Qc.mp e];simp[Heap.push];exact Jy lt
 ·exact k b o (λz=>absurd (Qu e) (by rw[Qc.mp z];exact Yw _)) C4
theorem zei(ns:List Int):∀k,k≤ns.length→preSum (λi=>ns.getD i 0) k=(ns.take k).sum
 |0,_=>rfl
 |k+1,h=>by
  show preSum (λi=>ns.getD i 0) k+ns.getD k 0=_
  have hk:k<ns.length:=h
  rw[zei ns k (by exact Wo ‹_›),Qi hk,List.sum_append,List.sum_singleton]
  congr 1
  simp[List.getD,hk]
theorem zhf:∀{ns:List Int} {a7:Nl},DZ a7→∀(i:Nat) (v:Value),a7[i]?=some v→∃t,v=Value.int (ns.getD i 0) t
 |[],_,.nil,i,v,e=>by simp at e
 |n::ns,_,.cons r t,0,v,e=>by
  obtain⟨tk,rfl⟩:=r
  simp at e;subst e
  exact⟨tk,rfl⟩
 |n::ns,_,.cons r t,i+1,v,e=>by
  obtain⟨tk,h⟩:=zhf t i v Pb
  exact⟨tk,by rw[h];simp⟩
def sum_small{ns:List Int}(hb:∀n∈ns,0≤n∧n≤1000000):0≤ns.sum∧ns.sum≤1000000*(ns.length:Int):=by
 induction ns with
 |nil=>simp
 |cons a r ih =>
  have h1:=hb a Qb
  have h2:=ih λn hn=>hb n (QZ hn)
  rw[Zm,Qz]
  lia
def call_sum(hc:X.calm=true):Y2 (.builtin "sum") (λxs H Q=>Ex2 λ(p:Nc) (ns:List Int)=>Aj5 (xs=[Tn]) (WO LE) (ns.length≤1000000) (∀n∈ns,0≤n∧n≤1000000) (Q (.int ns.sum) H)):=by
 intro a5 s σ H xs us Q I r h
 obtain⟨p,ns,rfl,hq,hl,hb,q⟩:=h
 obtain⟨u,rfl,rx⟩:=vals1 r
 cases rx
 refine call_sum_walk (DJ hq λa7 It h1 rv W st lt keep=>⟨It,_,_,_,_,_,λi=>ns.getD i 0,rfl,W,st,lt,λi v e=>zhf rv i v Pb,λj hj=>?_,λh' tk t' k=>⟨.int ns.sum,H,Ml k,⟨t',?_⟩,q⟩⟩)
 ·have aw:=rv.length
  rw[Qa]at aw
  have oP:j<ns.length:=by rw[aw];simpa using hj
  have s1:=sum_small (ns:=ns.take (j+1)) λn hn=>hb n (Ut hn)
  rw[Zt]at s1
  have g:ns.getD j 0=ns[j]:=by simp[List.getD,oP]
  have g2:=hb _ (Qr oP)
  refine⟨?_,?_⟩
  ·show InLong (ns.getD j 0)
   rw[g];unfold InLong;lia
  ·rw [zei ns (j+1) oP]
   unfold InLong;lia
 ·have aw:=rv.length
  rw[Qa]at aw
  rw[Qy,zei ns _ HI,←aw,Qs Hx]
theorem zhg:∀{bs:List Bool} {a7:Nl},Vals (bs.map V.bl) a7→∀(i:Nat) (v:Value),a7[i]?=some v→v=Value.bool (bs.getD i true)
 |[],_,.nil,i,v,e=>by simp at e
 |n::ns,_,.cons r t,0,v,e=>by
  cases r
  simp at e;subst e
  rfl
 |n::ns,_,.cons r t,i+1,v,e=>by
  have h:=zhg t i v Pb
  rw[h];simp
def all_range(bs:List Bool):(List.range bs.length).all (λi=>bs.getD i true)=bs.all id:=by
 rw[Yp,Uf,Uf]
 constructor
 ·intro h x hx
  obtain⟨i,hi,e⟩:=Zx hx
  have:=h i (Wk.mpr hi)
  simp[List.getD,hi]at this
  rw[←e];exact this
 ·intro h i hi
  have aU:=Wk.mp hi
  simp[List.getD,aU]
  exact h _ AO
def call_all(hc:X.calm=true):Y2 (.builtin "all") (λxs H Q=>Ex2 λ(p:Nc) (bs:List Bool)=>Aj3 (xs=[Tn]) (WO (bs.map V.bl)) (Ap (bs.all id))):=by
 intro a5 s σ H xs us Q I r h
 obtain⟨p,bs,rfl,hq,q⟩:=h
 obtain⟨u,rfl,rx⟩:=vals1 r
 cases rx
 refine call_all_walk (DJ hq λa7 It h1 rv W st lt keep=>⟨It,_,_,_,_,_,λi=>bs.getD i true,rfl,W,st,λi v s' Q' E' e q'=>?_,λh' tk k=>⟨.bl (bs.all id),H,Ml k,?_,q⟩⟩)
 ·have e':=zhg rv i v Pb
  subst e'
  exact wpAny_truthy_bool q'
 ·have aw:=rv.length
  rw[Qa]at aw
  show Value.bool _=Value.bool _
  rw[Qy,←aw,all_range]
end
end L2
end
section
namespace L2
open PySem PySem.Spec PyProof.Rows Tm
def Vals.perm{ws us:Nl}(p:ws.Perm us):∀{ys:List V},YM us→∃zs,zs.Perm ys∧Vals zs ws:=by
 induction p with
 |nil=>intro ys r;cases r;exact⟨[],.nil,.nil⟩
 | cons x q ih =>
  intro ys r
  cases r with
  |cons r1 r2 =>
   obtain⟨zs,h1,h2⟩:=ih r2
   exact⟨_::zs,h1.cons _,Oh r1 h2⟩
 | swap x y l =>
  intro ys r
  cases r with
  |cons r1 r2 =>
   cases r2 with
   |cons r3 r4=>exact⟨_,List.Perm.swap ..,wB⟩
 |trans _ _ ih1 ih2 =>
  intro ys r
  obtain⟨zs,h1,h2⟩:=ih2 r
  obtain⟨jA,h3,h4⟩:=ih1 h2
  exact⟨jA,h3.trans h1,h4⟩
theorem Vals.pairwise{α:Type}{R:α→α→Prop}{kv:Value→α}{kV:V→α}:∀{zs:List V} {ws:Nl},Vals zs ws→(∀v∈zs,∀u,UO u→kv u=kV v)→ws.Pairwise (λa b=>R (kv a) (kv b))→zs.Pairwise λa b=>R (kV a) (kV b)
 |_,_,.nil,_,_=>.nil
 |v::zs,u::ws,.cons r t,hk,h=>by
  rw[Ju]at h ⊢
  refine⟨λb hb=>?_,Vals.pairwise t (λv hv=>hk v xR) h.2⟩
  obtain⟨i,hi,e⟩:=Zx hb
  obtain⟨x,hx,rx⟩:=Vals.get t (i:=i) (x:=b) (by rw[Qd hi,e])
  have:=h.1 x (Yd hx)
  rw[hk v Qb u r,hk b LG x rx]at this
  exact this
section
variable{X:Cx}
def zee{a5:Ni}{s:Nj}{σ:St}{H:Hp}{p:Nc}{ys:List V}{R:List Value→List Value→Prop}{Q:VK}(I:HP)(hq:WO ys)(hS:∀a7,YM a7→∀(A':Around) (E':Value→Shared→Prop) (s':Shared),A'.units≤X.A.units+8→(∀b o,s.heap.get? b=some o→s'.heap.get? b=some o)→zcg X.prog X.w A' E' s' (R a7) a7)(h:∀(l:Nc) (ws:List V) (a7 us:Nl),H l=none→ws.Perm ys→YM a7→Vals ws us→R a7 us→Q Sy (LS l ws)) :
  wpAny Hm X.A (call (.builtin "sorted") [Tn]) TK X.xe s:=by
 obtain⟨a7,r,pl,hz⟩:=I.list hq
 refine sorted_any pl.isList (by rw[←r.length];exact hz) (hS a7 r) λws l g tk e p1 p2 le k he=>?_
 obtain⟨zs,q1,q2⟩:=Vals.perm p1 r
 exact⟨Sy,_,I.laid (t':=tk) k le (show QJ _ g _ (Hr zs) from⟨by rw[q1.length_eq];exact hz,ws,e,q2,he⟩),rfl,h l zs a7 ws (Iw le) q1 r q2 p2⟩
def leS(x y:Str):Prop:=¬y.cps.toList<x.cps.toList
def txV:V→List Nat
 |.str x=>x.cps.toList
 |_=>[]
def strs_perm{ws:List V}{zs:Nh}(pm:ws.Perm RT):∃ts:List Str,ws=ts.map V.str∧ts.Perm zs:=by
 have a1:∀v∈ws,∃x,v=V.str x:=λv hv=>by
  obtain⟨x,_,e⟩:=Qf.mp yX
  exact⟨x,e.symm⟩
 have a2:∃ts:List Str,ws=ts.map V.str:=by
  clear pm
  induction ws with
  |nil=>exact⟨[],rfl⟩
  |cons v r ih =>
   obtain⟨ts,e⟩:=ih λv hv=>a1 v xR
   obtain⟨x,e2⟩:=a1 v Qb
   exact⟨x::ts,by rw[e,e2];rfl⟩
 obtain⟨ts,rfl⟩:=a2
 refine⟨ts,rfl,?_⟩
 have:=pm.map (λv=>match v with | .str x=>x | _=>Str.empty)
 rw[Zj,Zj]at this
 simpa[Function.comp_def] using this
def zfl{zs:Nh}{a7:Nl}(r:Ba a7):∀v∈a7,∃x t,v=.str x t:=λv hv=>by
 obtain⟨l,rfl,e⟩:=zf6 r
 obtain⟨pr,_,e2⟩:=Qf.mp hv
 exact⟨_,_,e2.symm⟩
def txV_str{zs:Nh}:∀v∈zs.map V.str,∀u,UO u→kvS u=txV v:=λv hv u ru=>by
 obtain⟨x,_,rfl⟩:=Qf.mp hv
 obtain⟨t,rfl⟩:=ru
 rfl
def strs_out{zs ts:Nh}{a7 us:Nl}(r:Ba a7)(r2:Vals (ts.map V.str) us)(p:a7.length<64→us.Pairwise λx y=>strO.kle (kvS x) (kvS y))(h:zs.length<64):ts.Pairwise leS:=by
 have p2:=Vals.pairwise (R:=λa b=>strO.kle a b) (kV:=txV) r2 txV_str (p (by rw[←r.length,Qa];exact h))
 rw[Us]at p2
 exact p2.imp of_decide_eq_false
def zcu:Y2 (.builtin "sorted") (λxs H Q=>Ex2 λ(p:Nc) (zs:Nh)=>Aj3 (xs=[Tn]) (WO RT) (∀(l:Nc) (ws:Nh),H l=none→ws.Perm zs→(zs.length<64→ws.Pairwise leS)→Q Sy (ZX l Rv))):=by
 intro a5 s σ H xs us Q I r h
 obtain⟨p,zs,rfl,hq,q⟩:=h
 obtain⟨u,rfl,rx⟩:=vals1 r
 cases rx
 refine zee I hq (λa7 r A' E' s' _ _=>zev (zfl r)) λl ws a7 us hl p1 r1 r2 p2=>?_
 obtain⟨ts,rfl,p3⟩:=strs_perm p1
 exact q l ts hl p3 (strs_out r1 r2 p2)
def zh4(I:HP)(e:H a=some (.tup [Ef,z])):∃q,RelV z q∧Fn RV x q:=by
 obtain⟨_,a7,r,o,e1,c,n,d⟩:=Vu e
 obtain⟨u,w',rfl,⟨t,rfl⟩,rz⟩:=vals2 r
 exact⟨w',rz,a,o,t,n,rfl,e1,c,d⟩
def vals_back(r:YM a7):∀v∈a7,∃b∈ys,RelV b v:=λv hv=>by
 obtain⟨i,hi,e⟩:=Zx hv
 have hl:=r.length
 have aq:i<ys.length:=by exact zar6 ‹_› ‹_›
 obtain⟨u,hu,ru⟩:=r.get (i:=i) (Qd aq)
 rw[Qd hi,e]at hu
 cases hu
 exact⟨_,PY,ru⟩
def zfz(a:X5 p)(b:zfx h v y q):x=y∧p=q:=by
 obtain⟨a,o,t,n,rfl,e,c,d⟩:=a
 obtain⟨a',o',t',n',e0,e',c',d'⟩:=b
 cases e0
 rw[e]at e'
 cases e'
 rw[d]at d'
 have d2:(#[Y' t,p]:Array Value)=#[DI t',q]:=by injection d'
 have d3:=congrArg (λa:Array Value=>a[0]?) d2
 have d4:=congrArg (λa:Array Value=>a[1]?) d2
 simp at d3 d4
 exact⟨d3.1,d4⟩
def rowV(H:Hp):V→List Nat
 |.ref a=>match H a with
  |some (.tup [x,_])=>txV x
  |_=>[]
 |_=>[]
def zez(e:H a=some (.tup [x,y])):Fo RV=txV x:=by
 unfold rowV;dsimp only;rw[e]
def zfw:Y2 (.builtin "sorted") (λxs H Q=>Ex2 λ(p:Nc) (ys:List V)=>Aj5 (xs=[Tn]) AI (∀v∈ys,∃a x z,v=.ref a∧H a=some (.tup [Ef,z])) (∀v∈ys,∀u∈ys,Fo v=Fo u→v=u) (∀(l:Nc) (ws:List V),H l=none→ws.Perm ys→(ys.length<64→ws.Pairwise λa b=>strO.kle (Fo a) (Fo b))→Q Sy (LS l ws))):=by
 intro a5 s σ H xs us Q I r h
 obtain⟨p,ys,rfl,hq,hy,hd,q⟩:=h
 obtain⟨u,rfl,rx⟩:=vals1 r
 cases rx
 have back:∀a7,YM a7→∀v∈a7,∃b∈ys,RelV b v∧∃a x z q,b=.ref a∧v=.ref a∧H a=some (.tup [Ef,z])∧Fn v x q:=λa7 r v hv=>by
  obtain⟨b,hb,rb⟩:=vals_back r v hv
  obtain⟨a,x,z,rfl,e2⟩:=hy b hb
  have rb':=rb
  cases rb
  obtain⟨q',_,T⟩:=zh4 I e2
  exact⟨_,hb,rb',a,x,z,q',rfl,rfl,e2,T⟩
 refine zee I hq (λa7 r A' E' s' _ k=>zeu k (λv hv=>?_) λv hv u hu x p q T T'=>?_) λl ws a7 us hl p1 r1 r2 p2=>q l ws hl p1 λrL=>?_
 ·obtain ⟨b,hb,rb,a,x,z,q,_,_,_,T⟩:=back a7 r v hv
  exact⟨x,q,T⟩
 ·obtain ⟨b,hb,rb,a,x1,z,q1,rfl,rfl,e1,T1⟩:=back a7 r v hv
  obtain⟨c,hc,rc,a',x2,z',q2,rfl,rfl,e2,T2⟩:=back a7 r u hu
  have h1:=(zfz T T1).1
  have h2:=(zfz T' T2).1
  subst h1
  subst h2
  have:=hd _ hb _ hc (by rw[zez e1,zez e2])
  cases this
  exact .inl rfl
 ·refine Vals.pairwise (R:=fun a b=>strO.kle a b) (kv:=fun u=>(Fp u).1) r2 (fun v hv u ru=>?_) ((p2 (by rw [← r1.length];exact rL)).imp fun h=>(Bool.or_eq_false_iff.mp h).1)
  obtain⟨a,x,z,rfl,e2⟩:=hy v (p1.mem_iff.mp hv)
  cases ru
  obtain⟨q',_,T⟩:=zh4 I e2
  rw[T.key,zez e2]
  rfl
def zfk(hu:X.A.units+8<cLine):Y2 (.builtin "sorted") (λxs H Q=>Ex2 λ(p:Nc) (ys:List V)=>Aj4 (xs=[Tn]) AI (∀v∈ys,∃a zs,v=.ref a∧H a=some (Hr (List.map V.str zs))) (∀(l:Nc) (ws:List V),H l=none→ws.Perm ys→Q Sy (LS l ws))):=by
 intro a5 s σ H xs us Q I r h
 obtain⟨p,ys,rfl,hq,hy,q⟩:=h
 obtain⟨u,rfl,rx⟩:=vals1 r
 cases rx
 refine zee I hq (λa7 r A' E' s' hA k=>zha (by exact Js ‹_› ‹_›) k λv hv=>?_) λl ws _ _ hl p1 _ _ _=>q l ws hl p1
 obtain⟨b,hb,ru⟩:=vals_back r v hv
 obtain⟨a,zs,rfl,e2⟩:=hy b hb
 cases ru
 obtain⟨_,aO,n,r2,e3⟩:=Vu e2
 obtain⟨l2,rfl,_⟩:=zf6 r2
 exact⟨a,l2,n,rfl,e3⟩
def dk_at{a5:Ni}{s:Nj}{σ:St}{H:Hp}{d:Nc}{kvs:List (Key×V)}(I:HP)(rd:Fq RU) :
  kvs.length≤sizeLine∧(d==sysModules)=false∧∃vs ep,UP vs∧s.heap.DictAt Td d vs ep∧vs.length=kvs.length:=by
 obtain⟨z,y,vs,r,hd⟩:=rd.ok I.hok
 obtain⟨ep,ha⟩:=hd.dictAt
 exact⟨z,y,vs,ep,r,ha,(Zy r).symm⟩
def KV.get{kvs:List (Key×V)}{vs:List (Key×Value)}(r:UP vs){i:Nat}(e:vs[i]?=some (k,x)):∃v,kvs[i]?=some (k,v)∧UO x:=by
 induction r generalizing i with
 |nil=>simp at e
 | cons h t ih =>
  cases i with
  |zero =>
   simp at e
   subst e
   exact⟨_,by simp;exact Wj h.1 rfl,h.2⟩
  |succ j =>
   obtain⟨v,h1,h2⟩:=ih (i:=j) Pb
   exact⟨v,He h1,h2⟩
def key_rel(h:(Bi w).is k v=true):VI v:=by
 rcases zbp h with⟨i,t,rfl,rfl⟩ | ⟨x,t,rfl,rfl⟩
 ·exact⟨t,rfl⟩
 ·exact⟨t,rfl⟩
def keys_vals{P:Nk}{w:Nn}{kvs:List (Key×V)}{vs:List (Key×Value)}{af:Array Value}(r:UP vs)(hl:vs.length=kvs.length)(h:ItemsOf (λi v=>∃k x,vs[i]?=some (k,x)∧(Bi w).is k v=true) af vs.length):Vals (kvs.map λp=>kV p.1) af.toList:=by
 have g:∀(i:Nat),i<kvs.length→∃v,af.toList[i]?=some v∧RelV (kV ((kvs.map Prod.fst).getD i (RH 0))) v:=λi hi=>by
  have aq:i<af.size:=by rw[h.1];exact zar6 ‹_› ‹_›
  have e:af[i]?=some af[i]:=by simp[aq]
  obtain⟨k,x,e1,e2⟩:=h.2 i _ e
  obtain⟨v',e3,_⟩:=KV.get r e1
  refine⟨af[i],Hl Uk e,?_⟩
  have e4:(kvs.map Prod.fst).getD i (RH 0)=k:=by
   rw[Zf,Qo,e3];rfl
  rw[e4]
  exact key_rel e2
 have hsz:af.toList.length=kvs.length:=by rw[Wr,h.1];exact hl
 clear h r hl
 generalize af.toList=l at g hsz
 induction kvs generalizing l with
 |nil =>
  have:l=[]:=List.length_eq_zero_iff.mp hsz
  subst this
  exact .nil
 | cons p t ih =>
  cases l with
  |nil=>cases hsz
  | cons u us =>
   refine .cons ?_ (ih us (λi hi=>?_) (He hsz))
   ·obtain ⟨v,e1,e2⟩:=g 0 Ha
    simp at e1
    subst e1
    exact e2
   ·obtain ⟨v,e1,e2⟩:=g HN xE
    exact⟨v,He e1,He e2⟩
def zc8(hc:X.calm=true):Y2 (.type "list") (λxs H Q=>Ex2 λ(d:Nc) (kvs:S1 (Key×V))=>Aj3 (xs=[El]) (Fq RU) (∀l,H l=none→Q Sy (ZX l (.lst (kvs.map λp=>kV p.1))))):=by
 intro a5 s σ H xs us Q I r h
 obtain⟨d,kvs,rfl,hq,q⟩:=h
 obtain⟨u,rfl,rx⟩:=vals1 r
 cases rx
 obtain⟨z,lo,vs,ep,rk,ha,hl⟩:=NU hq
 refine PySem.W.kdl_call zx S3 ha (Hl hl z) λh' tk af c k e hi=>?_
 have rv:=keys_vals rk hl hi
 exact⟨Hi _,_,I.laid (t':=tk) k Hx (show QJ _ h' _ (Hr _) from⟨Hl Qa z,af.toList,c,rv,by rw[e]⟩),rfl,yz⟩
def zdo(hc:X.calm=true):Y2 (.builtin "sorted") (λxs H Q=>Ex3 λ(d:Nc) (kvs:S1 (Key×V)) (zs:Nh)=>Aj4 (xs=[El]) (Fq RU) ((kvs.map λp=>kV p.1)=zs.map V.str) (∀(l:Nc) (ws:Nh),H l=none→ws.Perm zs→(zs.length<64→ws.Pairwise leS)→Q Sy (ZX l Rv))):=by
 intro a5 s σ H xs us Q I r h
 obtain⟨d,kvs,zs,rfl,hq,ez,q⟩:=h
 obtain⟨u,rfl,rx⟩:=vals1 r
 cases rx
 obtain⟨z,lo,vs,ep,rk,ha,hl⟩:=NU hq
 refine zfc (G:=λa7=>Ba a7) (λE' R hR=>zgz zx (show X.A.in1.handled=none from I.ok.hd hc) ha (Hl hl z) λg tk af k le hi=>hR g tk _ k le (ez▸keys_vals rk hl hi))
  (λa7 r=>by rw[←r.length,←ez,Qa];exact z) (λa7 r A' E' s' _ _=>zev (zfl r)) λa7 ws l g tk e r p1 p2 le k he=>?_
 obtain⟨jA,q1,q2⟩:=Vals.perm p1 r
 obtain⟨ts,rfl,p3⟩:=strs_perm q1
 refine⟨Sy,_,I.laid (t':=tk) k le (show QJ _ g _ (Hr _) from⟨?_,ws,e,q2,he⟩),rfl,q l ts (Iw le) p3 (strs_out r q2 p2)⟩
 rw[q1.length_eq,←ez,Qa];exact z
end
section
variable{X:Cx}{a5:Ni}{σ:St}{H:Hp}{s:Nj}
def Inv.freeze(I:HP)(hd:H d=some u)(ho:s.heap.get? d=some o)(mu:Mut (Hs u)):ZA (ZX d Pe) s:=by
 have ne:∀b,H b=none→b≠d:=λb e z=>by rw[z,hd]at e;cases e
 have nt:∀b xs,H b=some ST→b≠d:=λb xs e z=>by rw[z,hd]at e;cases e;exact mu
 have nf:∀b o' u',H b=some Te→b≠d:=λb o' u' e z=>by rw[z,hd]at e;cases e;exact mu
 have nb:∀b ps,H b=some Ai→b≠d:=λb ps e z=>by rw[z,hd]at e;cases e;exact mu
 have no:∀b a,H b=some EF→b≠d:=λb a e z=>by rw[z,hd]at e;cases e;exact mu
 refine I.un (h':=s.heap) (t':=s.toks) ⟨λb o e _ _ _=>e,λb o e _ _ _=>⟨o.slots,e⟩,λb o e n _=>by rw[zaf (ne b n)];exact n,λb o e _=>⟨o,e⟩,λb xs e=>by rw[zaf (nt b xs e)];exact e,
  λb o' u' e=>by rw[zaf (nf b o' u' e)];exact e,λb ps e=>⟨#[],by rw[zaf (nb b ps e),e];simp⟩⟩ λb v e=>?_
 by_cases hb:b=d
 ·subst hb
  rw[zab]at e
  cases e
  exact⟨ho,(XY u hd).stay (λc v _ q=>q) (λc q=>by rw[zaf Po];exact q) λc xs q=>by rw[zaf Ox];exact q⟩
 ·rw [OL] at e
  exact(XY v e).stay (λc v _ q=>q) (λc q=>by rw[zaf Po];exact q) λc xs q=>by rw[zaf Ox];exact q
def Inv.thaw(I:HP)(hd:H d=some Pe)(hx:∀o' u',X.H₀ d≠some Te):ZA (ZX d u) s:=by
 have ne:∀b,H b=none→b≠d:=λb e z=>by rw[z,hd]at e;cases e
 have nt:∀b xs,H b=some ST→b≠d:=λb xs e z=>by rw[z,hd]at e;cases e
 have nb:∀b ps,H b=some Ai→b≠d:=λb ps e z=>by rw[z,hd]at e;cases e
 have no:∀b a,H b=some EF→b≠d:=λb a e z=>by rw[z,hd]at e;cases e
 have B:=I.base
 refine⟨I.ok,I.os,I.bare,⟨B.keep,B.slot,λb o e n hx=>?_,B.there,λb xs e=>?_,λb o' u' e=>?_,λb ps e=>?_⟩,I.loc,I.cell,?_,λx c e=>?_,λp hp=>?_,λb v e=>?_,I.len⟩
 ·have:=B.free b o e n hx
  rw[zaf (ne b this)];exact this
 ·have:=B.tups b xs e
  rw[zaf (nt b xs this)];exact this
 ·have:=B.frzs b o' u' e
  have nd:b≠d:=λz=>hx o' u' (z▸e)
  rw[zaf nd];exact this
 ·obtain ⟨m,q⟩:=B.tbls b ps e
  exact⟨m,Ht (nb b _ q) q⟩
 ·rw[zaf (ne _ I.free)];exact I.free
 ·rw[zaf (ne c (JW e))];exact JW e
 ·obtain ⟨h1,h2,h3⟩:=Bx hp
  exact⟨h1,Ht (ne _ h2) h2,h3⟩
 ·by_cases hb:b=d
  ·subst hb
   rw[zab]at e
   cases e
   exact(show s.heap.get? b=some o∧QJ H s.heap b u from XY _ hd).2.stay (λc v _ q=>q) (λc q=>by rw[zaf Po];exact q) λc xs q=>by rw[zaf Ox];exact q
  ·rw [OL] at e
   exact(XY v e).stay (λc v _ q=>q) (λc q=>by rw[zaf Po];exact q) λc xs q=>by rw[zaf Ox];exact q
inductive Thaw(X:Cx)(R:Hp→Prop)(H':Hp):Prop
 |mk (d:Nc) (o:Obj) (u:HO) (h:H' d=some (.frz o u)) (n:∀o' u',X.H₀ d≠some (.frz o' u')) (q:R (upd H' d u)):Thaw X R H'
def tThaw(X:Cx)(t:TE):TE:=λ σ H Q=>t σ H λv H'=>Fr (Q v) H'
def pe_thaw(h:Z9 e t):Z9 e (tThaw X t):=by
 intro a5 s σ H Q I q
 refine thn (L0 _ q) λu s' ⟨v,H',I',r,d,o,w',e1,e2,e3⟩=>?_
 exact⟨v,_,KR e2,r,e3⟩
def sThaw(X:Cx)(t:TS):TS:=λD σ H=>t {nx:=λ σ' H'=>Fr (D.nx σ') H',rt:=λv H'=>Fr (D.rt v) H',bk:=λ σ' H'=>Fr (D.bk σ') H',ct:=λ σ' H'=>Fr (D.ct σ') H'} σ H
def zgf{st:Stmt}{t:TS}(h:KH st t):KH st (sThaw X t):=by
 intro a5 s σ H D I q
 refine thn (L0 _ q) λf s' z=>?_
 cases f with
 |next=>obtain⟨σ',H',I',d,o,w',e1,e2,e3⟩:=z;exact⟨σ',_,KR e2,e3⟩
 |brk=>obtain⟨σ',H',I',d,o,w',e1,e2,e3⟩:=z;exact⟨σ',_,KR e2,e3⟩
 |cont=>obtain⟨σ',H',I',d,o,w',e1,e2,e3⟩:=z;exact⟨σ',_,KR e2,e3⟩
 |ret u=>obtain⟨v,σ',H',I',r,d,o,w',e1,e2,e3⟩:=z;exact⟨v,σ',_,KR e2,r,e3⟩
def Itd(d:Nc)(o:Obj)(kvs:S1 (Key×V)):It :=
 ⟨λi H=>H d=some AQ∧i<kvs.length,λi H x H'=>H'=H∧∃p,kvs[i]?=some p∧x=kV p.1,λi H=>H d=some AQ∧kvs.length≤i⟩
def frz_at(I:HP)(e:H d=some AQ):s.heap.get? d=some o∧QJ H s.heap d RU:=I.hok d _ e
def zhv{h:Np}{kvs:List (Key×V)}{vs vs':List (Key×Value)}{ep ep':Nat}(ho:h.get? d=some o)(a:h.DictAt LY d vs ep)(o':Obj)(h':Np)(di:h'.get? d=some o):h'.DictAt LY d vs ep:=by
 obtain⟨q,es,e,r⟩:=a
 rw[ho]at e
 cases e
 exact⟨o,es,di,r⟩
theorem turn_dict{P:Nk}{w:Nn}{K:Na}{tg:Expr}{o:Obj}{kvs:List (Key×V)}{vs:List (Key×Value)}{ep:Nat}{h0:Np}(d it:Nc)(rk:UP vs)(hl:vs.length=kvs.length)(h00:h0.get? d=some o)(ll:h0.DictAt LY d vs ep) :
  Turn P w K tg (FQ kvs) [it] it (λi h=>h.IsKeyIter it d i vs.length ep) where
 mem:=by simp
 obj:=λi h st b hb=>by
  have e:b=it:=by simpa using hb
  subst e
  obtain⟨o,e,c,d⟩:=st
  exact⟨o,e,λv z=>by rw[d]at z;cases z⟩
 keep:=λi h h' st k=>st.at λo e=>k it Ha o e
 item:=by
  intro X hP hw hK hc i a5 s σ H E I hf st hg
  subst hP hw hK
  obtain⟨fz,hi⟩:=hg
  obtain⟨ho,_⟩:=frz_at I fz
  have DA:s.heap.DictAt Td d vs ep:=zhv (kvs:=kvs) (vs':=vs) (ep':=ep) h00 ll o s.heap ho
  obtain⟨f0,f1,f2,f3,f4,f5⟩:=X' Ha
  have aq:i<vs.length:=by exact zar6 ‹_› ‹_›
  obtain⟨v',e3,_⟩:=KV.get rk (i:=i) (k:=vs[i].1) (x:=vs[i].2) (Qd aq)
  refine wpAny_pyNext_dict_item st DA (k:=vs[i].1) (v:=vs[i].2) (Qd aq) λkey h' hk aa sb=>?_
  have I1:ZA H {s with heap:=h'}:=I.turned (t':=s.toks) (λb o hb e=>(OQ hb).trans e) f0 f1 f3 f4 f5
  obtain⟨o2,e,c,d2⟩:=id aa
  exact⟨key,rfl,go_of (s:={s with heap:=h'}) e c d2 Hf ⟨kV vs[i].1,H,I1,key_rel hk,⟨rfl,_,e3,rfl⟩,aa,λb hb=>(Fh hb).1⟩⟩
 done:=by
  intro X hP hw hK hc i a5 s σ H E I hf st hg
  subst hP hw hK
  obtain⟨fz,hi⟩:=hg
  obtain⟨ho,_⟩:=frz_at I fz
  have DA:s.heap.DictAt Td d vs ep:=zhv (kvs:=kvs) (vs':=vs) (ep':=ep) h00 ll o s.heap ho
  obtain⟨f0,f1,f2,f3,f4,f5⟩:=X' Ha
  exact wpAny_pyNext_dict_end S3 st DA (Kd Hb) λh' eb=>⟨rfl,I.turned (t':=s.toks) (λb o hb e=>eb b o hb e) f0 f1 f3 f4 f5⟩
 self:=λ_ _ _ _ _ st h=>wpAny_pyIter_keyiter st h
inductive RIDi(x:V)(H:Hp)(R:It→Hp→Prop):Prop
 |mk (d:Nc) (kvs:List (Key×V)) (e:x=.ref d) (h:H d=some (.dK kvs)) (q:∀o,R (Itd d o kvs) (upd H d (.frz o (.dK kvs)))):RIDi x H R
def iDict(td:TE):TI:=λ σ H R=>td σ H λx H1=>RIDi x H1 R
def zej{tg l:Expr}{tl:TE}(hl:P4):UK l (iDict tl):=by
 intro a5 s σ H R I h
 refine thn LU λv s1 ⟨x,H1,I1,r1,q1⟩=>?_
 obtain⟨d,kvs,e,hd,q⟩:=q1
 subst e
 cases r1
 obtain⟨z,lo,vs,ep,rk,ha,ae⟩:=dk_at I1 (RH hd)
 obtain⟨o,es,ho,r⟩:=id ha
 refine wpAny_pyIter_dict lo ha ?_
 have I2:=I1.freeze hd ho trivial
 have I3:ZA (QK d AQ) {s1 with heap:=s1.heap.push {cls:=.type "dict_keyiterator",data:=.fields #[El,ON,.int vs.length 0,S8 ep 0]}}:=I2.kept (t':=s1.toks) λb o e=>WN e
 refine⟨s1.heap.objs.size,[s1.heap.objs.size],_,_,wI,I3,turn_dict d _ rk ae ho ha,⟨_,Ta,rfl,rfl⟩,λb hb=>?_,q o⟩
 have e:b=s1.heap.objs.size:=by simpa using hb
 subst e
 exact I2.fpOk Hx (I2.hok.fresh Hx)
end
def for_dict{d:Nc}{o:Obj}{kvs:List (Key×V)}{g:TG}{tb:TS}{D:Ends}{σ:St}{H:Hp}(Pv:Nat→St→Hp→Prop)(h0:CI)(hl:∀i σ H,i≤kvs.length→Pv i σ H→H d=some AQ)(hs:∀i p σ H,kvs[i]?=some p→Pv i σ H→g (kV p.1) σ H λ σ2 H2=>tb {D with nx:=Pv HN,ct:=Pv HN,bk:=D.nx} σ2 H2)(hd:∀σ H,Pv kvs.length σ H→W1 H) :
  ∃W:Nat→Nat→St→Hp→Prop,(∃m,W 0 m σ H)∧∀i m σ H,W i m σ H →
   ((FQ kvs).stop i H∧W1 H)∨((FQ kvs).go i H∧∃N:St→Hp→Prop,Hy∧∀x H',(FQ kvs).yld i H x H'→g x σ H' λ σ2 H2=>tb {D with nx:=N,ct:=N,bk:=D.nx} σ2 H2):=by
 refine⟨λi m σ H=>m=kvs.length-i∧i≤kvs.length∧Pv i σ H,⟨kvs.length,Ha,SJ,h0⟩,?_⟩
 rintro i m σ H ⟨rfl,hi,p⟩
 have q:=hl i σ H hi p
 by_cases ad:i<kvs.length
 ·refine .inr ⟨⟨q,ad⟩,Pv HN,fun σ' H' p'=>⟨kvs.length - HN,Hz,rfl,ad,p'⟩,fun x H' y=>?_⟩
  obtain⟨e,pr,e2,rfl⟩:=y
  subst e
  exact hs i pr σ _ e2 p
 ·have e:i=kvs.length:=by exact zar3 ‹_› ‹_›
  subst e
  exact .inl ⟨⟨q,Hx⟩,OM⟩
end L2
end
section
namespace Enu
open PySem PyProof.Rows
open AutoSeq1 (wpAny_loadPart')
section
variable{prog:Nk}{w:Nn}{A:Nq}{E:Nd}{s:Nj}
def next_item(st:zh)(ht:Io)(hx:xs[i]?=some x)(hQ:∀g,g.IsTupleIter j t HN→Ds g→Q x {s with heap:=g}):ZI Id Q E s:=by
 obtain⟨o,ho,hc,hd⟩:=id st
 obtain⟨p,hp,_,k,hk⟩:=ht
 unfold Builtin.SmallTypes.nextOf
 refine wpAny_bind (wpAny_callSpecial?_slot (name:=Str.ofString "__next__") st.typeIs Jo (JV ?_ IM))
 show ZZ _ (field AR 0 >>= _) _ _ s
 refine wpAny_bind (BC (x:=.ref t) rfl ?_)
 show ZZ _ (if(Value.ref t==.none)=true then _ else _) _ _ s
 rw[if_neg (show ¬((Value.ref t==.none)=true) from Zi)]
 show ZZ _ (field AR 1 >>= _) _ _ s
 refine wpAny_bind (BC (x:=.int i 0) rfl ?_)
 show ZZ _ (seqItems? Ll >>= _) _ _ s
 refine wpAny_bind (DK ?_)
 simp only[Wy,hx]
 refine wpAny_bind (J1 Ha (wpAny_pure ⟨x,rfl,Sj (hQ _ ⟨_,ED,(Obj.cls_mapFields ..).trans hc,by rw[Xi hd];simp[rawInt]⟩ (Xa ..))⟩))
def next_end(hh:A.handled=none)(st:zh)(ht:Io)(hx:xs[i]?=none)(hE:∀g e,DL g→(∃o,g.get? e=some o∧o.cls=.type "StopIteration")→E (Hi e) {s with heap:=g}):ZI Id Q E s:=by
 obtain⟨o,ho,hc,hd⟩:=id st
 obtain⟨p,hp,_,k,hk⟩:=ht
 unfold Builtin.SmallTypes.nextOf
 refine wpAny_bind (wpAny_callSpecial?_slot (name:=Str.ofString "__next__") st.typeIs Jo (JV ?_ IM))
 show ZZ _ (field AR 0 >>= _) _ _ s
 refine wpAny_bind (BC (x:=.ref t) rfl ?_)
 show ZZ _ (if(Value.ref t==.none)=true then _ else _) _ _ s
 rw[if_neg (show ¬((Value.ref t==.none)=true) from Zi)]
 show ZZ _ (field AR 1 >>= _) _ _ s
 refine wpAny_bind (BC (x:=.int i 0) rfl ?_)
 show ZZ _ (seqItems? Ll >>= _) _ _ s
 refine wpAny_bind (DK ?_)
 simp only[Wy,hx]
 refine wpAny_bind (wpAny_rule (SA (J1 Ha ?_)))
 show ZZ _ (newExc (.type "StopIteration") [] >>= _) _ _ _
 refine wpAny_bind ?_
 simp only[newExc,newTuple]
 refine wpAny_bind (wpAny_newObj_type (wpAny_bind (m:=firstArgMember _ _) (wpAny_of_eq (a:=Value.none) (by first | rfl | (simp only[firstArgMember];rfl)) (wpAny_newObj_type ?_ (by size_fits)))) (by size_fits))
 simp only[raiseNew]
 refine wpAny_bind (wpAny_handled ?_)
 first | rw[show A.in1.handled=none from hh] | rw[hh]
 refine wpAny_bind (Sj (wpAny_throw (hE _ _ (((Xa ..).extBut.push _).push _) ⟨_,Ta,rfl⟩)))
theorem drawsT(hh:A.handled=none)(j t:Nc)(az:t≠j)(xs:Array Value) :
  Draws prog w A j [j,t] xs.size (λi v=>xs[i]?=some v) (λi h=>h.IsTupleIter j t i∧h.IsTuple t xs) where
 live:=λ_ _ st=>let⟨o,ho,_⟩:=st.1;⟨o,ho⟩
 frame:=λi h h' st k=>⟨st.1.at λo e=>k j Ha o e,let⟨o,e,r⟩:=st.2;⟨o,k t Ha o e,r⟩⟩
 item:=λi s Q E hi st hQ=>by
  refine next_item st.1 st.2 (x:=xs[i]) (by simp[hi]) λg a b=>?_
  obtain⟨o,e,r⟩:=st.2
  exact hQ _ g s.toks (by simp[hi]) ⟨a,o,(b.2 t az).trans e,r⟩ b
 done:=λs Q E st hE=>next_end hh st.1 st.2 Ha hE
def new_tuple(t:Nc)(xs:Array Value)(n:Nat)(dct:Option Addr)(sl:Array TL) :
  Meets (Builtin.«enumerate.__new__» ⟨[.type "enumerate",Ll],[]⟩) (λ_ R s=>s.heap.get? t=some {cls:=.type "tuple",dict:=dct,data:=.seq xs n,slots:=sl} ∧
   R (C7 (.ref (s.heap.push {cls:=.type "tuple_iterator",data:=.fields #[Ll,ON]}).objs.size))
    {s with heap:=(s.heap.push {cls:=.type "tuple_iterator",data:=.fields #[Ll,ON]}).push {cls:=.type "enumerate",data:=.fields #[.none,xu,Hu,IB 0,.none,.none]}}) :=
 .of_wp λprog w A R s h=>by
  obtain⟨hp,g,d,tk,os⟩:=s;obtain⟨hl,h⟩:=h
  have jP:=sub_enumerate
  have hL:Heap.IsTuple (Shared.heap ⟨hp,g,d,tk,os⟩) t xs:=⟨_,hl,rfl,n,rfl⟩
  wp_walk using wpAny_loadPart' hl
  refine wpAny_stack_any λst=>wpAny_pure ?_
  split
  ·rename_i c _ _ _ _ _
   cases(c==Value.type "enumerate")<;>(wp_walk using wpAny_loadPart' hl,wpAny_pyIter_tuple hL;exact⟨wI,h⟩)
  ·wp_walk using wpAny_loadPart' hl,wpAny_pyIter_tuple hL
   exact⟨wI,h⟩
def call_enum(hL:Io)(h:∀g,IsEnum g HU s.heap.objs.size 0 .none→g.IsTupleIter s.heap.objs.size t 0→g.objs.size=s.heap.objs.size+2→HK→Q (Hi (s.heap.objs.size+1)) {s with heap:=g}) :
  wpAny Hw A (call (.type "enumerate") [Ll]) Q E s:=by
 obtain⟨⟨c,dct,dt,sl⟩,hl,hc,n,hd⟩:=hL
 replace hc:c=.type "tuple" := hc
 replace hd:dt=.seq xs n:=hd
 subst hc hd
 refine callType_new F.called_enumerate Hf (F.typeCall_enumerate_1 _) (F.newCall_enumerate_1 _) (λobj=>F.args_object_init_2 obj _) F.entry_enumerate_new (new_tuple t xs n dct sl) ⟨hl,?_⟩
 have hz:(s.heap.push {cls:=.type "tuple_iterator",data:=.fields #[Ll,ON]}).objs.size=s.heap.objs.size+1:=Ws ..
 show _∧_
 rw[hz]
 have he:IsEnum ((s.heap.push {cls:=.type "tuple_iterator",data:=.fields #[Ll,ON]}).push {cls:=.type "enumerate",data:=.fields #[.none,xu,Hu,IB 0,.none,.none]}) HU s.heap.objs.size 0 .none:=by
  have q:=Za (s.heap.push {cls:=.type "tuple_iterator",data:=.fields #[Ll,ON]}) (o:={cls:=.type "enumerate",data:=.fields #[.none,xu,Hu,IB 0,.none,.none]}) rfl
  rw[hz]at q;exact q
 exact⟨⟨_,he,rfl⟩,h _ he ⟨_,WN Ta,rfl,rfl⟩ (by rw[Ws,hz]) λb o x=>WN (WN x)⟩
end
end Enu
namespace L2
open PySem PySem.Spec PyProof.Rows Enu
def Ite(a:Nc)(K:Na):It :=
 ⟨λi H=>∃xs,JT xs∧i<xs.length,λi H x H'=>∃y t,(∀xs,JT xs→xs[i]?=some y)∧H t=none∧x=.ref t∧H'=ZX t (.tup [OE,y]),λi H=>∃xs,JT xs∧xs.length≤i⟩
theorem turn_enum{P:Nk}{w:Nn}{K:Na}{elts:Nt}{kk:Nat}{pos:Pos}(a e j:Nc)(jq:e≠j)(haj:a≠j)(hae:e≠a) :
  Turn P w K (.Tuple elts kk pos) (Ite a K) [e,j] e (λi h=>(∃old,IsEnum h e j i old)∧h.IsTupleIter j a i) where
 mem:=by simp
 obj:=λi h st b hb=>by
  rcases Qh.mp hb with z | z
  ·subst z
   obtain⟨old,q⟩:=st.1
   exact⟨_,q,λv z=>by
    have z':Data.fields _=Data.cell v:=z
    cases z'⟩
  ·rw [CS z]
   obtain⟨o,q,c,d⟩:=st.2
   exact⟨o,q,λv z=>by rw[d]at z;cases z⟩
 keep:=λi h h' st k=>⟨let⟨old,q⟩:=st.1;⟨old,k e Ha _ q⟩,st.2.at λo q=>k j Ha o q⟩
 item:=by
  intro X hP hw hK hc i a5 s σ H E I hf st hg
  subst hP hw hK
  obtain⟨xs,hq,hi⟩:=hg
  obtain⟨a7,rv,p,hz⟩:=I.tuple hq
  have hl:=rv.length
  obtain⟨⟨old,he⟩,iJ⟩:=st
  have hh:X.A.in1.handled=none:=I.ok.hd hc
  refine wpAny_pyNext_enum_itemD (drawsT hh j a haj a7.toArray) he ⟨iJ,p⟩ (by simp;exact zar7 ‹_› ‹_›) jq (by simp[jq,hae]) λx g tk hP ho hs hT hsz hk=>⟨Hu,rfl,?_⟩
  have fr:∀b,b∈[e,j]→WF b:=hf
  obtain⟨e0,e1,e2,e3,e4,e5⟩:=hf e Ha
  obtain⟨j0,j1,j2,j3,j4,j5⟩:=hf j Ha
  have hHe:∀b u,H b=some u→b≠e∧b≠j:=λb u q=>⟨λz=>(by rw[z,e0]at q;cases q),λz=>(by rw[z,j0]at q;cases q)⟩
  have I1:ZA H {s with heap:=g,toks:=tk+1}:=by
   refine I.step (g':=s.gens) (d':=s.drawn) (ch:=[e,j]) (λb hb=>?_) (λb o _ _ hc q _=>hk b o (λz=>hc (by simp[z])) (λz=>hc (by simp[z])) q) (λb o _ _ hc q _=>⟨o.slots,hk b o (λz=>hc (by simp[z])) (λz=>hc (by simp[z])) q⟩) (λ_ _ _ _ n=>n)
    (λb o hc q=>⟨o,hk b o (λz=>hc (by simp[z])) (λz=>hc (by simp[z])) q⟩) (λ_ _ q=>q) (λ_ _ _ q=>q) (λb ps q=>⟨#[],by rw[q];simp⟩) (λm hm=>?_) (λb u q=>?_) I.bare
   ·rcases Qh.mp hb with z | z
    ·subst z;exact⟨e3,e1,e4,e5⟩
    ·rw[Qc.mp z];exact⟨j3,j1,j4,j5⟩
   ·obtain ⟨o,es,ep,q,r⟩:=hm
    exact⟨o,es,ep,hk _ o (Zl e1) (Zl j1) q,r⟩
   ·refine (XY u q).stay (fun c v hc z=>?_) (fun _ z=>z) fun _ _ z=>z
    have hcn:c≠e∧c≠j:=by
     rcases hc with rfl | hc
     ·exact hHe c u q
     ·exact hHe c _ hc
    exact hk c v hcn.1 hcn.2 z
  obtain⟨y,hy⟩:∃y,xs[i]?=some y:=⟨xs[i],Qd hi⟩
  obtain⟨u,hu,ru⟩:=rv.get hy
  have hP':a7[i]?=some x:=by simpa using hP
  rw[hu]at hP'
  have hux:u=x:=Qn hP'
  subst hux
  have hN:H s.heap.objs.size=none:=I.hok.fresh Hx
  refine wpAny_letOwnedTupleGo_enum ho λg' bo bZ=>?_
  have nT:s.heap.objs.size≠e:=Yu (Qu he)
  have nJ:s.heap.objs.size≠j:=by obtain⟨o,q,_⟩:=iJ;exact Yu (Qu q)
  have I2:ZA H {s with heap:=g',toks:=tk+1}:=Inv.turned (s:={s with heap:=g,toks:=tk+1}) (t':=tk+1) (it:=e) I1 (λb o hb q=>(bZ.2 b hb).trans q) e0 e1 e3 e4 e5
  have hT':g'.get? s.heap.objs.size=some {cls:=.type "tuple",data:=.seq #[S8 i tk,u]}:=(bZ.2 _ nT).trans hT
  have I3:ZA (Oq (.tup [HM i,y])) {s with heap:=g',toks:=tk+1}:=by
   refine⟨I2.ok,I2.os,I2.bare,⟨I2.base.keep,I2.base.slot,λb o q n hx=>?_,I2.base.there,λb zs q=>?_,λb o v q=>?_,λb ps q=>?_⟩,I2.loc,I2.cell,?_,λz c q=>?_,λpp hp=>?_,λb v q=>?_,I2.len⟩
   ·have lt:b < s.heap.objs.size:=Zw (Qu q) I.sz
    rw[zaf OW];exact I2.base.free b o q n hx
   ·have:=I2.base.tups b zs q
    rw[zaf (zac this hN)];exact this
   ·have:=I2.base.frzs b o v q
    rw[zaf (zac this hN)];exact this
   ·obtain ⟨m,z⟩:=I2.base.tbls b ps q
    exact⟨m,Ht (zy z hN) z⟩
   ·rw[zaf (Zh I.lt)];exact I2.free
   ·rw[zaf (Zh (I.cl_lt z c q))];exact I2.freeC z c q
   ·obtain ⟨h1,h2,h3⟩:=I2.pin pp hp
    exact⟨h1,Ht (Zh (I.pin_lt pp hp)) h2,h3⟩
   ·by_cases hb:b=s.heap.objs.size
    ·subst hb
     rw[zab]at q
     cases q
     exact⟨SD,[S8 i tk,u],Oh ⟨tk,rfl⟩ (Sa ru),_,hT',rfl,wI⟩
    ·rw [OL] at q
     exact(I2.hok b v q).stay (λc v _ z=>z) (λc z=>by rw[zaf (zy z hN)];exact z) λc zs z=>by rw[zaf (zy z hN)];exact z
  refine⟨Hu,_,I3,rfl,⟨y,_,λys hys=>by rw[I.tuple_inj hys hq];exact hy,hN,rfl,rfl⟩,⟨⟨u,He bo⟩,?_⟩,λb hb=>?_⟩
  ·exact hs.1.at λo q=>(bZ.2 j (Zl jq)).trans q
  ·rcases Qh.mp hb with z | z
   ·rw[z,zaf (Zl nT)];exact e0
   ·rw[Qc.mp z,zaf (Zl nJ)];exact j0
 done:=by
  intro X hP hw hK hc i a5 s σ H E I hf st hg
  subst hP hw hK
  obtain⟨xs,hq,hi⟩:=hg
  obtain⟨a7,rv,p,hz⟩:=I.tuple hq
  have hl:=rv.length
  obtain⟨⟨old,he⟩,iJ⟩:=st
  obtain⟨j0,j1,j2,j3,j4,j5⟩:=hf j Ha
  have hh:X.A.in1.handled=none:=I.ok.hd hc
  have hT:s.TypeIs (Hi e) "enumerate" := ⟨_,he,rfl⟩
  unfold pyNext
  refine wpAny_bind (yY (wpAny_callSpecial?_slot (name:=Str.ofString "__next__") hT F.slot_enumerate_next (wpAny_call_entry F.slot_enumerate_next hT F.entry_enumerate_next ?_ (F.args_enumerate_next_1 _))))
  show ZZ _ (field (Hi e) 2 >>= _) _ _ _
  refine wpAny_bind (wpAny_field he rfl (x:=.ref j) rfl (wpAny_bind (next_end hh iJ p (by simp;exact ze9 ‹_› ‹_›) λg x hg hx=>?_)))
  obtain⟨o,ho,hc⟩:=hx
  refine wpAny_bind (wpAny_isInstance (T := "StopIteration") (b:=true) ⟨o,ho,hc⟩ isSubtype_stop (wpAny_pure ⟨rfl,?_⟩))
  exact I.turned (t':=s.toks) (λb o hb q=>hg b o hb q) j0 j1 j3 j4 j5
 self:=λA i s Q E st h=>by
  obtain⟨⟨old,he⟩,_⟩:=st
  exact DM h
end L2
end
section
namespace L2
open PySem PySem.Spec PyProof.Rows Enu
section
variable{X:Cx}
def iEnum(K:Na)(ta:TA):TI:=λ σ H R=>ta σ H λvs H1=>∃a,vs=[RV]∧(∃xs,SqT K H1 a xs)∧R (Ite a K) H1
def pi_enum(hg:VU "enumerate")(hm:X.mg "enumerate" = none)(ha:VX [a] ta)(hs:starEach [a] X.env=[(false,HX a)]:=by rfl) :
  PI X (.Tuple elts kk tpos) (.Call (.Name "enumerate" p) [a] [] pos) (iEnum X.K ta):=by
 intro a5 s σ H R I h
 refine Call_ (Bz boot_enumerate (Wm (thn SW λus s1 ⟨vs,H1,I1,r1,q1⟩=>?_) hs rfl))
 obtain⟨t,e,⟨xs,hq⟩,q⟩:=q1
 subst e
 obtain⟨u,rfl,ru⟩:=vals1 r1
 cases ru
 obtain⟨a7,rv,pl,hz⟩:=I1.tuple hq
 have lt:t<s1.heap.objs.size:=by obtain⟨o,q,_⟩:=pl;exact Qu q
 refine call_enum pl λg he iJ hsz k=>DM ?_
 have I2:ZA H1 {s1 with heap:=g}:=I1.kept (t':=s1.toks) k
 refine⟨s1.heap.objs.size+1,[s1.heap.objs.size+1,s1.heap.objs.size],_,_,H1,rfl,I2,turn_enum t _ _ (Xj _) OW (Yu (Jy lt)),⟨⟨_,he⟩,iJ⟩,λb hb=>?_,q⟩
 have dk:s1.heap.objs.size≤b:=by
  rcases Qh.mp hb with z | z
  ·rw[z];exact Uq _
  ·rw[Qc.mp z];exact Qe _
 exact I1.fpOk dk (I1.hok.fresh dk)
def for_enum{K:Na}{a:Nc}{xs:List V}{g:TG}{tb:TS}{D:Ends}{σ:St}{H:Hp}(Pv:Nat→St→Hp→Prop)(h0:CI)(hl:∀i σ H,i≤xs.length→Pv i σ H→H a=some ST)(hs:∀i x t σ H,xs[i]?=some x→Pv i σ H→H t=none→g Ll σ (ZX t (.tup [OE,x])) λ σ2 H2=>tb {D with nx:=Pv HN,ct:=Pv HN,bk:=D.nx} σ2 H2)(hd:∀σ H,Pv xs.length σ H→W1 H) :
  ∃W:Nat→Nat→St→Hp→Prop,(∃m,W 0 m σ H)∧∀i m σ H,W i m σ H →
   ((Ite a K).stop i H∧W1 H)∨((Ite a K).go i H∧∃N:St→Hp→Prop,Hy∧∀x H',(Ite a K).yld i H x H'→g x σ H' λ σ2 H2=>tb {D with nx:=N,ct:=N,bk:=D.nx} σ2 H2):=by
 refine⟨λi m σ H=>m=xs.length-i∧i≤xs.length∧Pv i σ H,⟨xs.length,Ha,SJ,h0⟩,?_⟩
 rintro i m σ H ⟨rfl,hi,p⟩
 have q:=hl i σ H hi p
 by_cases ad:i<xs.length
 ·refine .inr ⟨⟨xs,Rk q,ad⟩,Pv HN,fun σ' H' p'=>⟨xs.length - HN,Hz,rfl,ad,p'⟩,fun x H' y=>?_⟩
  obtain⟨z,t,e1,e3,rfl,rfl⟩:=y
  exact hs i z t σ H (e1 xs (Rk q)) p e3
 ·have e:i=xs.length:=by exact zar3 ‹_› ‹_›
  subst e
  exact .inl ⟨⟨xs,Rk q,Hx⟩,OM⟩
def Its(x:Str):It:=⟨λi _=>i<x.cps.size,λi H v H'=>H'=H∧∃c,x.cps[i]?=some c∧v=.str ⟨#[c]⟩,λi _=>x.cps.size≤i⟩
theorem turn_str{P:Nk}{w:Nn}{K:Na}{tg:Expr}{x:Str}{t:Tok}(it:Nc):BE (Its x) [it] it (λi h=>h.IsStrIter it "str_ascii_iterator" x t i) where
 mem:=by simp
 obj:=λi h st b hb=>by
  rw[Qc.mp hb]
  obtain⟨o,e,c,d⟩:=st
  exact⟨o,e,λv z=>by rw[d]at z;cases z⟩
 keep:=λi h h' st k=>let⟨o,ho,r⟩:=st;⟨o,k it Ha o ho,r⟩
 item:=by
  intro X hP hw hK hc i a5 s σ H E I hf st hg
  subst hP hw hK
  obtain⟨f0,f1,f2,f3,f4,f5⟩:=X' Ha
  have hi:i<x.cps.size:=hg
  refine wpAny_pyNext_ascii_item st (c:=x.cps[i]) (by simp[hi]) λh' aa sb=>?_
  have I1:ZA H {s with heap:=h',toks:=s.toks+1}:=I.turned (λb o hb e=>(OQ hb).trans e) f0 f1 f3 f4 f5
  obtain⟨o,e,c,d⟩:=id aa
  exact⟨wI,go_of (s:={s with heap:=h',toks:=s.toks+1}) e c d Hf ⟨Ts ⟨#[x.cps[i]]⟩,H,I1,⟨wI⟩,⟨rfl,_,by simp[hi],rfl⟩,aa,λb hb=>(Fh hb).1⟩⟩
 done:=by
  intro X hP hw hK hc i a5 s σ H E I hf st hg
  subst hP hw hK
  obtain⟨f0,f1,f2,f3,f4,f5⟩:=X' Ha
  have hi:x.cps.size≤i:=hg
  exact wpAny_pyNext_ascii_end S3 st (by simp[hi]) λh' eb=>⟨rfl,I.turned (t':=s.toks) (λb o hb e=>eb b o hb e) f0 f1 f3 f4 f5⟩
 self:=λ_ _ _ _ _ st h=>wpAny_pyIter_striter_ascii st h
def iStr(tl:TE):TI:=λ σ H R=>tl σ H λv H1=>∃x:Str,v=.str x∧x.cps.all (· < 128)=true∧R (Its x) H1
def pi_str{tg l:Expr}{tl:TE}(hl:P4):UK l (iStr tl):=by
 intro a5 s σ H R I h
 refine thn LU λv s1 ⟨y,H1,I1,r1,q1⟩=>?_
 obtain⟨x,e,ha,q⟩:=q1
 subst e
 obtain⟨t,rfl⟩:=r1
 refine wpAny_pyIter_ascii ha ?_
 refine⟨s1.heap.objs.size,[s1.heap.objs.size],_,_,H1,rfl,I1.kept (t':=s1.toks) λb o e=>WN e,turn_str (t:=t) _,⟨_,Ta,rfl,rfl⟩,λb hb=>?_,q⟩
 rw[Qc.mp hb]
 exact Bl TB
def op_le_str:YX (compareOp .LtE) (λx y H Q=>Ex2 λi j=>Aj3 (x=.str i) (y=.str j) (Ap (!decide (j.cps.toList<i.cps.toList)))):=by
 intro a5 s σ H x y v u Q I rx ry h
 obtain⟨i,j,rfl,rfl,q⟩:=h
 obtain⟨t,rfl⟩:=rx
 obtain⟨t',rfl⟩:=ry
 exact PySem.P.le_str (Q3 rfl)
end
end L2
end
section
namespace L2
open PySem PySem.Spec PyProof.Rows
section
variable{X:Cx}{a5:Ni}{σ:St}{H:Hp}{s:Nj}
inductive RrNil(neg:Bool)(K:Na)(x:V)(y:V)(H:Hp)(Q:VK):Prop
 |mk (l:_) (b:_) (xs:_) (h0:x=.ref l) (h1:y=.ref b) (h2:SqL K H l xs) (h3:SqL K H b []) (h4:Q (.bl (if neg then !xs.isEmpty else xs.isEmpty)) H):RrNil neg K x y H Q
def rNil(neg:Bool)(K:Na):R2:=λx y H Q=>RrNil neg K x y H Q
def zdu(hu:X.A.units<cLine):YK (Gj X.K):=by
 intro a5 s σ H x y v u Q I rx ry h
 obtain⟨l,b,xs,rfl,rfl,h1,h2,q⟩:=h
 cases rx;cases ry
 obtain⟨a7,r,pl,_⟩:=I.list h1
 obtain⟨aO,r2,iW,_⟩:=I.list h2
 cases r2
 cases r with
 |nil=>exact SeqAt.RcNeAt.lists (e:=λ_=>true) pl.isList iW.isList rfl hu (λj h1 _=>by simp at h1) _ _ _ _ ⟨Iz,H,I,rfl,q⟩
 |cons a t=>exact SeqAt.RcNeAt.lists_lengths pl.isList iW.isList Ha hu _ _ _ _ ⟨Ti,H,I,rfl,q⟩
def op_mul_str:YX (binaryOp .Mult) (λx y H Q=>Ex2 λ(z:Str) (n:Nat)=>Aj5 (x=.str z) (y=.int n) (z.length≤1000) (n≤1000) (Q (Ts (Txt.mul z n)) H)):=by
 intro a5 s σ H x y v u Q I rx ry h
 obtain⟨z,n,rfl,rfl,h1,h2,q⟩:=h
 obtain⟨t,rfl⟩:=rx
 obtain⟨t',rfl⟩:=ry
 exact SB.mul (mulOk_of 1000 1000 h1 HI HI Hf Hf) λt' k=>⟨Ts _,H,Sg,⟨t',rfl⟩,q⟩
theorem argBest_lt:∀k,argBest bt k≤k
 |0=>Qe _
 |k+1=>by
  show(if bt (k+1) (Ln k)=true then k+1 else argBest bt k)≤k+1
  split
  ·exact Qe _
  ·exact Nat.le_succ_of_le (argBest_lt k)
theorem zdn(f:Nat→List Nat):∀k j,j≤k→¬f j<f (argBest (λi j=>decide (f i<f j)) k)
 |0,j,h=>by
  have:j=0:=by lia
  subst this
  exact Ww _
 | k+1,j,h=>by
  show ¬f j<f (if decide (f (k+1)<f (argBest (λi j=>decide (f i<f j)) k))=true then k+1 else argBest (λi j=>decide (f i<f j)) k)
  by_cases ad:f (k+1)<f (argBest (λi j=>decide (f i<f j)) k)
  ·rw [Si (HY ad)]
   by_cases hj:j=k+1
   ·subst hj;exact Ww _
   ·intro z
    exact zdn f k j HI (List.lt_trans z ad)
  ·rw [Sb (He ad)]
   by_cases hj:j=k+1
   ·subst hj;exact ad
   ·exact zdn f k j HI
def zja(hc:X.calm=true):Y2 (.builtin "min") (λxs H Q=>Ex2 λ(p:Nc) (zs:Nh)=>Aj4 (xs=[Tn]) (WO RT) (zs≠[]) (∀z∈zs,(∀y∈zs,leS z y)→Q Pl H)):=by
 intro a5 s σ H xs us Q I r h
 obtain⟨p,zs,rfl,hq,az,q⟩:=h
 obtain⟨u,rfl,rx⟩:=vals1 r
 cases rx
 have eF:0<zs.length:=Uv.mpr az
 refine call_min_walk (DJ hq λa7 It h1 rv W st lt keep=>⟨It,_,_,_,_,_,λi j=>decide ((SE i).cps.toList<(SE j).cps.toList),rfl,W,st,lt,?_,λi j vi vj s' Q' E' hi hj cw=>?_,λv h' tk hv k=>?_⟩)
 ·have:=rv.length
  rw[Qa]at this
  rw[Qy];exact zar7 ‹_› ‹_›
 ·have gs:∀ (i:Nat) (v:Value),a7.toArray[i]?=some v→∃ t,v=.str (SE i) t:=fun i v e=>by
   have e':a7[i]?=some v:=by simpa using e
   have hi:i<a7.length:=(LA e').1
   have hl:=rv.length
   rw[Qa]at hl
   have aq:i<zs.length:=by exact zar6 ‹_› ‹_›
   obtain⟨u,e2,t,e3⟩:=rv.get (i:=i) (x:=.str zs[i]) (by simp[aq])
   rw[e']at e2
   cases e2
   exact⟨t,by rw[e3];simp[List.getD,aq]⟩
  obtain⟨t1,rfl⟩:=gs i vi hi
  obtain⟨t2,rfl⟩:=gs j vj hj
  exact lt_str cw
 ·have hl:=rv.length
  rw[Qa]at hl
  have hk:=argBest_lt (bt:=λi j=>decide ((SE i).cps.toList<(SE j).cps.toList)) (a7.toArray.size-1)
  generalize hb:argBest (λi j=>decide ((SE i).cps.toList<(SE j).cps.toList)) (a7.toArray.size-1)=b at hv hk
  have bx:b<zs.length:=by rw[Qy]at hk;lia
  have aX:a7[b]?=some v:=by simpa using hv
  obtain⟨u,e2,t,e3⟩:=rv.get (i:=b) (x:=.str zs[b]) (by simp[bx])
  rw[aX]at e2
  cases e2
  refine⟨.str zs[b],H,Ml k,⟨t,e3⟩,q _ (Qr bx) λy hy=>?_⟩
  obtain⟨j,hj,ej⟩:=Zx hy
  have:=zdn (λi=>(SE i).cps.toList) (a7.toArray.size-1) j (by rw[Qy];lia)
  rw[hb]at this
  have g1:zs.getD b Str.empty=zs[b]:=by simp[List.getD,bx]
  have g2:zs.getD j Str.empty=y:=by simp[List.getD,hj,ej]
  rw[g1,g2]at this
  exact this
end
section
variable{X:Cx}
def zcs:Y2 (.type "dict") (λxs H Q=>Ex2 λ(d:Nc) (kvs:S1 (Key×V))=>Aj3 (xs=[El]) (Fq RU) (∀l,H l=none→Q Sy (ZX l RU))):=by
 intro a5 s σ H xs us Q I r h
 obtain⟨d,kvs,rfl,hq,q⟩:=h
 obtain⟨u,rfl,rx⟩:=vals1 r
 cases rx
 obtain⟨z,lo,vs,ep,rk,ha,hl⟩:=NU hq
 refine kt_call_dict lo ha.dictOf (Hl hl z) λh' hd sb=>?_
 have lt:d<s.heap.objs.size:=ha.lt_size
 have k:∀b o,s.heap.get? b=some o→h'.get? b=some o:=λb o e=>(sb.2 b Op).trans C4
 have nS:(s.heap.objs.size==sysModules)=false:=beq_eq_false_iff_ne.mpr (Yu I.big)
 exact⟨Hi _,_,I.laid (t':=s.toks) k Hx (show QJ _ h' _ RU from⟨z,nS,vs,rk,hd⟩),rfl,yz⟩
def eqV_self{x:V}(f:zdq x=true):eqV x x=true:=by
 cases x with
 |non=>rfl
 |bl b=>exact beq_self_eq_true b
 |int i=>exact beq_self_eq_true i
 |str z=>exact beq_self_eq_true z
 |_=>cases f
end
end L2
end
section
namespace SetT
open PySem PyProof.Rows PySem.Spec
section
variable{prog:Nk}{w:Nn}{A:Nq}{R:Nx}{I:Nc}{fp wr:No}{G:Array GenState→Array GenState→Prop}{n:Nat}{P:Nat→Value→Prop}{St:Nat→Shared→Prop}
def loop(W:WalksS prog w A.in1 I fp wr G n P St)(S:Nc)(eT:S∉fp)(zs:Nh)(hz:zs.length=n)(nd:zs.Nodup)(dX:∀i v,P i v→∃t,v=.str (SE i) t)(hb:n+1<scanBound) :
  ∀(k i:Nat) (s:Nj),n-i=k→i≤n→St i s→s.heap.SetOf AS S (λx=>decide (x∈zs.take i)) i →
   (∀s',Moved (S::wr) G s s'→s'.heap.SetOf AS S (λx=>decide (x∈zs.take n)) n→R (.ok IL) s')→codeAny Hw A (.builtin "set.update.loop" ⟨[Hi S,E4],[]⟩) R s:=by
 have l0:S∉wr:=λh=>eT z9
 have sub:∀b∈wr,b∈S::wr:=λb q=>QZ q
 intro k
 induction k with
 |zero =>
  intro i s hk hi ar hS hR
  obtain rfl:i=n:=by lia
  refine codeAny_builtin F.entry_set_update_loop ?_
  rw[Mm _]
  show ZZ A.in1 (pyNext E4 >>= _) _ _ s
  refine wpAny_bind (W.done s _ _ ar λs' hm=>(show ZZ A.in1 (ret Value.none) _ _ s' from wpAny_pure (hR s' (hm.mono sub) ?_)))
  obtain⟨o,es,ep,t,ho,rest⟩:=hS
  exact⟨o,es,ep,t,hm.heap S _ l0 ho,rest⟩
 | succ k ih =>
  intro i s hk hi ar hS hR
  have lt:i<n:=by lia
  refine codeAny_builtin F.entry_set_update_loop ?_
  rw[Mm _]
  show ZZ A.in1 (pyNext E4 >>= _) _ _ s
  refine wpAny_bind (W.item i s _ _ lt ar λv s' hP e7 hm=>?_)
  obtain⟨t,rfl⟩:=dX i v hP
  have aq:i<zs.length:=by exact zar6 ‹_› ‹_›
  have eg:zs.getD i Str.empty=zs[i]:=by simp[List.getD,aq]
  rw[eg]
  have dl:s'.heap.SetOf AS S (λx=>decide (x∈zs.take i)) i:=by
   obtain⟨o,es,ep,tb,ho,rest⟩:=hS
   exact⟨o,es,ep,tb,hm.heap S _ l0 ho,rest⟩
  show ZZ A.in1 (holding [Value.str zs[i] t] (setAdd S (.str zs[i] t)) >>= _) _ _ s'
  refine wpAny_bind (wpAny_holding ?_)
  unfold setAdd
  refine wpAny_holding (SA ((WJ w).pyHash (k:=zs[i]) (by simp[PySem.strKind,Value.isStrOf]) ?_))
  have nin:decide (zs[i]∈zs.take i)=false:=decide_eq_false λq=>by
   obtain⟨j,hj,e⟩:=Zx q
   rw[Zt]at hj
   rw[Jb]at e
   have:=(We nd).mp e
   lia
  refine wpAny_setAddHashed_of (knd:=WJ w) (k:=zs[i]) (by simp[PySem.strKind,Value.isStrOf]) rfl dl HI λg sb hS2=>?_
  have hSi:g.SetOf AS S (λx=>decide (x∈zs.take HN)) HN:=by
   refine SetOf_congr hS2 (λx=>?_) (by simp only[nin];simp)
   rw[Yp]
   simp only[Jr,decide_eq_true_eq]
   rw[Qi aq,Ql,Qc]
  refine wpAny_pure ⟨plainId_quiet F.plain_set_update_loop _,ih HN _ HI lt (W.frame _ s' _ _ e7 (by first | exact Qe _ | exact Uq _) λb q o e=>?_) hSi λs2 cb hS3=>hR s2 (Moved.trans W.gtrans ((hm.mono sub).then_heap (by first | exact Qe _ | exact Uq _) λb o q e=>?_) cb) hS3⟩
  ·rw[sb.2 b (λz:b=S=>eT (by rw[←z];exact q))];exact e
  ·rw[sb.2 b (λz:b=S=>q Ao)];exact e
end
section
variable{prog:Nk}{w:Nn}{A:Nq}{E:Nd}{s:Nj}
def call_set{l:Nc}{a7:Nl}{zs:Nh}{Q:Nd}(hh:A.handled=none)(hl:s.heap.IsList l a7.toArray)(hz:zs.length=a7.length)(nd:zs.Nodup)(dX:∀(i:Nat) (v:Value),a7[i]?=some v→∃t,v=.str (SE i) t)(hb:a7.length+1<scanBound)(h:∀(g:Np) (tk:Nat),g.SetOf AS s.heap.objs.size (λx=>decide (x∈zs)) zs.length→HK→Q Hu {s with heap:=g,toks:=tk}) :
  wpAny Hw A (call (.type "set") [Sy]) Q E s:=by
 obtain⟨c,tl,hmro⟩:=Wt.mro
 have hmade:=Wt.made
 have jP:=Wt.sub
 refine wpAny_call (codeAny_of_tree (show ZZ _ (callAny (.type "set") _) _ _ _ from wpAny_pure ⟨Code.quiet_builtin _ (by decide +kernel),codeAny_builtin PySem.F.entry_type_call ?_⟩))
 rw[Around.under_plain (weight_type_call_type "set" [Sy] []) rfl]
 have h1:=Wt.notType
 have h2:=Wt.canCreate
 have ma:=PySem.F.typeCall_set_1 Sy
 repeat(any_goals (first | assumption | wp_step))
 refine codeAny_mono (code_set_new_1 Sy (E:=E) (Q₁:=λobj s₁=>∃led:Bool,obj=.ref s.heap.objs.size∧s₁={s with heap:=s.heap.push {cls:=.type "set",dict:=none,data:=.set #[] 0 SV}}) λled=>⟨led,rfl,rfl⟩) λr s1 hr=>?_
 cases r with
 |error e=>exact hr
 | ok fl =>
  cases fl with
  | ret obj =>
   obtain⟨led,rfl,rfl⟩:=hr
   have hS:(s.heap.push {cls:=.type "set",dict:=none,data:=.set #[] 0 SV}).get? s.heap.objs.size=some {cls:=.type "set",dict:=none,data:=.set #[] 0 SV}:=U9 rfl
   have hT:Shared.TypeIs {s with heap:=s.heap.push {cls:=.type "set",dict:=none,data:=.set #[] 0 SV}} Hu "set" := ⟨_,hS,rfl⟩
   have hli:=Wt.init.lookup
   have hbi:=Wt.init.bind Hu
   repeat(any_goals (first | assumption | wp_step))
   refine codeAny_mono (codeAny_call_builtin (R:=wants (λr s₂=>r=.none∧∃g tk,s₂={s with heap:=g,toks:=tk}∧g.SetOf AS s.heap.objs.size (λx=>decide (x∈zs)) zs.length∧HK) E)
    Wt.init.plain PySem.F.entry_set_init (check_set_init_1 hT ?_)) λr2 s2 bB=>?_
   ·obtain ⟨ol,kh,bE,nl,lY⟩:=hl
    obtain⟨ocls,odict,odata,oslots⟩:=ol
    simp only at bE lY
    subst bE;subst lY
    have uf:(s.heap.push {cls:=.type "set",dict:=none,data:=.set #[] 0 SV}).get? l=some {cls:=.type "list",dict:=odict,data:=.seq a7.toArray nl,slots:=oslots}:=WN kh
    have hsls:=PySem.F.sub_list_set
    have hslf:=PySem.F.sub_list_frozenset
    have az:(Value.type "list" == Value.type "dict")=false:=by decide
    have aD:(s.heap.push {cls:=.type "set",dict:=none,data:=.set #[] 0 SV}).IsList l a7.toArray:=⟨_,uf,rfl,nl,rfl⟩
    unfold Builtin.«set.__init__» noKeywords Builtin.Frozenset.updateFrom
    generalize hPI:pyIter=PI
    wp_walk
    subst hPI
    refine wpAny_pyIter_list aD (SA (wpAny_runValue ?_))
    have hlS:l<s.heap.objs.size:=Qu kh
    have rj:A.in1.in1.in1.handled=none:=by simp[hh]
    have z1:(s.heap.push {cls:=.type "set",dict:=none,data:=.set #[] 0 SV}).objs.size=s.heap.objs.size+1:=Ws ..
    have ul:l≠(s.heap.push {cls:=.type "set",dict:=none,data:=.set #[] 0 SV}).objs.size:=by rw[z1];exact Zh (Jy hlS)
    have eT:s.heap.objs.size∉[(s.heap.push {cls:=.type "set",dict:=none,data:=.set #[] 0 SV}).objs.size,l]:=by
     rw[z1];simp only[Qh,List.not_mem_nil,or_false,not_or]
     exact⟨Zh AC,Yu hlS⟩
    refine loop ((Walks.list rj _ l ul a7.toArray).toS) s.heap.objs.size eT zs (Hl Qy hz) nd (λi v hv=>dX i v (He hv)) (Hl Qy hb) _ 0 _ rfl SJ ⟨⟨_,Ta,rfl,rfl⟩,(aD.push _)⟩ ?_ ?_
    ·exact SetOf_congr ((setObjOf_fresh (knd:=WJ w) led).setOf (WN hS) (by unfold scanBound;exact Nat.le_add_left _ _)) (λ_=>by simp) rfl
    ·intro s' hm dl
     obtain⟨g,g',d',sf,sA⟩:=s'
     have eg:g'=s.gens:=hm.gens
     have ed:d'=s.drawn:=hm.drawn
     have eo:sA=s.os:=hm.os
     subst eg;subst ed;subst eo
     show ZZ _ _ _ _ _
     refine wpAny_pure (show ZZ _ (ret Value.none) _ _ _ from wpAny_pure ⟨rfl,g,sf,rfl,?_,λb o e=>?_⟩)
     ·have e1:a7.toArray.size=zs.length:=by rw [Qy,hz]
      rw[e1,Qs Hx]at dl
      exact dl
     ·have md:b < s.heap.objs.size:=Qu e
      refine hm.heap b o ?_ (WN C4)
      rw[z1]
      simp only[Qh,List.not_mem_nil,or_false,not_or]
      exact⟨Zh md,Zh (Jy md)⟩
   ·cases r2 with
    |error e=>exact bB
    | ok fl2 =>
     cases fl2 with
     |ret r =>
      obtain⟨rfl,g,tk,rfl,dl,oJ⟩:=bB
      repeat(any_goals (first | assumption | wp_step))
      exact h _ _ dl oJ
     |_=>exact bB.elim
  |_=>exact hr.elim
end
end SetT
namespace L2
open PySem PySem.Spec PyProof.Rows
def setO(P:Nk)(w:Nn)(a:Nc)(zs:Nh):HO:=.ext λh=>h.SetOf (PySem.strKind P w) a (λx=>decide (x∈zs)) zs.length
section
variable{X:Cx}
def zi9(hc:X.calm=true):Y2 (.type "set") (λxs H Q=>Ex2 λ(p:Nc) (zs:Nh)=>Aj5 (xs=[Tn]) (WO RT) zs.Nodup (zs.length≤1000) (∀l,H l=none→Q Sy (ZX l (XA l zs)))):=by
 intro a5 s σ H xs us Q I r h
 obtain⟨p,zs,rfl,hq,nd,hz,q⟩:=h
 obtain⟨u,rfl,rx⟩:=vals1 r
 cases rx
 obtain⟨a7,rv,pl,_⟩:=I.list hq
 have hl:=rv.length
 rw[Qa]at hl
 refine SetT.call_set (zs:=zs) S3 pl.isList hl nd (λi v e=>?_) (by unfold scanBound;lia) λg tk hS k=>?_
 ·have hi:i < a7.length:=(LA e).1
  have aq:i<zs.length:=by exact zar6 ‹_› ‹_›
  obtain⟨u,e2,t,e3⟩:=rv.get (i:=i) (x:=.str zs[i]) (by simp[aq])
  rw[e]at e2
  cases e2
  exact⟨t,by rw[e3];simp[List.getD,aq]⟩
 ·refine ⟨Hi _,_,I.laid (t':=tk) k Hx (show QJ _ g _ (XA s.heap.objs.size zs) from ⟨hS,?_,fun h1 h2 p1 k1=>?_⟩),rfl,yz⟩
  ·obtain ⟨o,_,_,_,e,_⟩:=hS
   exact⟨o,e⟩
  ·obtain ⟨o,es,ep,t,e,rest⟩:=p1
   exact⟨o,es,ep,t,k1 o e,rest⟩
def zjd:Y2 (.builtin "len") (λxs H Q=>Ex2 λ(p:Nc) (zs:Nh)=>Aj4 (xs=[Tn]) (H p=some (XA p zs)) (zs.length≤1000) (Q (.int zs.length) H)):=by
 intro a5 s σ H xs us Q I r h
 obtain⟨p,zs,rfl,hq,hz,q⟩:=h
 obtain⟨u,rfl,rx⟩:=vals1 r
 cases rx
 obtain⟨⟨o,es,ep,t,ho,hex,hd,cg,hmem,hb,hf,hn⟩,_⟩:=(show QJ H s.heap p (XA p zs) from X1 hq)
 exact call_len_set ho hex hd hf (by rw[hn];lia) ⟨.int zs.length,H,Sg,⟨_,by rw[hn]⟩,q⟩
end
end L2
end
section
namespace DictR
open PySem PyProof.Rows PySem.Spec
def miss_keys:typeLookup (.type "list") "keys" = pure none:=am_miss_of_fast (by decide +kernel)
section
variable{prog:Nk}{w:Nn}{A:Nq}{E:Nd}{s:Nj}
def no_keys{a:Nc}{xs:Array Value}{k:Nat}{sl:Array TL}{Q:Option Value→Shared→Prop}(hx:s.heap.get? a=some {cls:=.type "list",dict:=none,data:=.seq xs k,slots:=sl})(hA:A.handled=none)(h:∀g tk,HK→Q none {s with heap:=g,toks:=tk}):ZI (getAttr? RV "keys") Q E s:=by
 obtain⟨hp,g,d,tk,os⟩:=s
 have hT:∀t',(⟨hp,g,d,t',os⟩:Shared).TypeIs RV "list" := λ_=>⟨_,hx,rfl⟩
 have f1:=sub_AttributeError
 have f3:=Xw.lookup
 have f4:=Xw.bind RV
 have f5:=am_list_getattr_none
 unfold getAttr? getAttrBy? getAttrBy
 repeat(any_goals (first | assumption | exact hT _ | ((with_reducible show ZZ _ (call (Value.builtin "list.__getattribute__") _ _) _ _ _);refine call_meets Xw (hT _) am_entry_list_getattribute (F.args_list_getattribute_2 _ _) (meets_getattribute_miss_list a xs k sl "keys" _ miss_keys (by decide +kernel) (by decide +kernel)) ⟨hx,hA,λh' sf e gT=>?_⟩) | wp_step))
 obtain⟨t',u',he⟩:=gT.there
 show ZZ _ (getattributeRaised _ _ _ _ _ _ _) _ _ _
 unfold getattributeRaised
 repeat(any_goals (first | assumption | wp_step))
 exact h h' sf gT.keeps
def zhu:entryFor table "dict.update.loop" = some Builtin.«dict.update.loop»:=entryFor_of_tree (by kernel_rfl)
def zd6:plainId "dict.update.loop" = true:=by decide +kernel
structure Row(K:Type) where
 a:Addr
 o:Obj
 k:K
 key:Value
 val:Value
 n:Nat
variable{K:Type}[DecidableEq K]{knd:KeyKind prog w K}
def RowAt(knd:KeyKind prog w K)(h:Np)(r:Row K):Prop:=h.get? r.a=some r.o∧r.o.cls=.type "tuple" ∧ r.o.data=.seq #[r.key,r.val] r.n∧knd.is r.k r.key=true
def stored_new{kvs:List (K×Value)}(h:k∉kvs.map (·.1)):stored kvs k v=kvs++[(k,v)]:=by
 unfold stored
 rw[if_neg]
 intro z
 obtain⟨p,hp,e⟩:=Yn.mp z
 exact h (La ⟨p,hp,of_decide_eq_true e⟩)
def loop{R:Nx}{I l:Nc}(hh:A.handled=none)(rows:S1 (Row K))(d:Nc)(uQ:d≠I)(lY:d≠l)(hlI:l≠I)(hr:∀ r∈rows,r.a≠d∧r.a≠I)(nd:(rows.map (·.k)).Nodup)(hz:rows.length≤sizeLine) :
  ∀(m i:Nat) (s:Nj),rows.length-i=m→i≤rows.length→s.heap.IsListIter I l i→s.heap.IsList l (rows.map λr=>Value.ref r.a).toArray→(∀r∈rows,Gk r)→s.heap.DictOf knd d ((xS i).map λr=>(r.k,r.val)) →
   (∀g tk,(∀b o,b≠d→b≠I→s.heap.get? b=some o→g.get? b=some o)→g.DictOf knd d (rows.map λr=>(r.k,r.val))→R (.ok IL) {s with heap:=g,toks:=tk}) →
   codeAny Hw A (.builtin "dict.update.loop" ⟨[El,E4,IB i,.none],[]⟩) R s:=by
 intro m
 induction m with
 |zero =>
  intro i s hm hi st hl hR hd hQ
  obtain rfl:i=rows.length:=by lia
  refine codeAny_builtin zhu ?_
  rw[Yy zd6 _]
  show ZZ A.in1 (pyNext E4 >>= _) _ _ s
  refine wpAny_bind (wpAny_pyNext_list_end (show A.in1.handled=none from hh) st hl Ha λg eb=>?_)
  show ZZ A.in1 (Builtin.Dict.addKeywords d [] >>= λ_=>ret Value.none) _ _ _
  refine wpAny_bind (show ZZ A.in1 (pure ()) _ _ _ from wpAny_pure (wpAny_pure (hQ g s.toks (λb o _ hb e=>eb b o hb e) ?_)))
  rw[Qs Hx]at hd
  exact hd.extBut eb uQ
 | succ m ih =>
  intro i s hm hi st hl hR hd hQ
  have lt:i<rows.length:=by lia
  obtain⟨e1,e2,e3,e4⟩:=hR rows[i] (Qr lt)
  obtain⟨n1,n2⟩:=hr rows[i] (Qr lt)
  refine codeAny_builtin zhu ?_
  rw[Yy zd6 _]
  show ZZ A.in1 (pyNext E4 >>= _) _ _ s
  refine wpAny_bind (MI hl (x:=.ref rows[i].a) (by simp[lt]) λg aa sb=>?_)
  have k1:∀b o,b≠I→s.heap.get? b=some o→g.get? b=some o:=λb o hb e=>(OQ hb).trans e
  have lZ:g.DictOf knd d ((xS i).map λr=>(r.k,r.val)):=hd.sameBut sb uQ
  refine wpAny_bind (wpAny_holding ?_)
  refine wpAny_bind (wpAny_tryCatch ?_)
  show ZZ A.in1 (Builtin.Dict.pairItems (.ref rows[i].a)) _ _ _
  unfold Builtin.Dict.pairItems
  refine wpAny_bind (wpAny_typeOf (T := "tuple") ⟨_,k1 _ _ n2 e1,e2⟩ ?_)
  rw[if_pos Hf]
  refine wpAny_bind (wpAny_seqItems (k1 _ _ n2 e1) e3 (wpAny_pure ?_))
  show ZZ A.in1 (holding [rows[i].key,rows[i].val] (dictSet d rows[i].key rows[i].val)) _ _ _
  have nk:rows[i].k∉((xS i).map λr=>(r.k,r.val)).map (·.1):=by
   rw[Zj]
   intro q
   obtain⟨r,ai,bB⟩:=Qf.mp q
   obtain⟨j,hj,ej⟩:=Zx ai
   rw[Zt]at hj
   rw[Jb]at ej
   have lV:j<rows.length:=by lia
   have:(rows.map (·.k))[j]'(He lV)=(rows.map (·.k))[i]'(He lt):=by
    rw[Zk,Zk,ej];exact bB
   have:=(We nd).mp this
   lia
  refine wpAny_holding (wpAny_dictSet_pairs (knd:=knd) e4 lZ (λg2 pF sb2=>?_) (by rw[Qa,Zt];lia))
  rw[stored_new nk]at pF
  have pE:g2.DictOf knd d ((xS HN).map λr=>(r.k,r.val)):=by
   rw[Qi lt,Qq];exact pF
  have k2:∀b o,b≠d→b≠I→s.heap.get? b=some o→g2.get? b=some o:=λb o hX bx e=>(sb2.2 b hX).trans (k1 b o bx e)
  have hc:((i:Int)+1)=((i+1:Nat):Int):=by push_cast;rfl
  refine wpAny_pure ⟨zG zd6,?_⟩
  rw[hc]
  refine ih HN _ HI lt ?_ ?_ (λr bj=>?_) pE λg3 tk3 k3 uR=>?_
  ·obtain ⟨o,q,z⟩:=aa
   exact⟨o,(sb2.2 I (Zl uQ)).trans q,z⟩
  ·obtain ⟨o,q,z⟩:=hl
   exact⟨o,k2 l o (Zl lY) hlI q,z⟩
  ·obtain ⟨q1,q2⟩:=hR r bj
   exact⟨k2 _ _ (hr r bj).1 (hr r bj).2 q1,q2⟩
  ·exact hQ g3 tk3 (λb o hX bx e=>k3 b o hX bx (k2 b o hX bx e)) uR
def call{l:Nc}{rows:List (Row K)}{Q:Nd}{xk:Nat}(hh:A.handled=none)(hl:s.heap.get? l=some {cls:=.type "list",data:=.seq (rows.map λr=>Value.ref r.a).toArray xk})(hR:∀r∈rows,Gk r)(nd:(rows.map (·.k)).Nodup)(hz:rows.length≤sizeLine)(h:∀g tk,g.DictOf knd s.heap.objs.size (rows.map λr=>(r.k,r.val))→HK→Q Hu {s with heap:=g,toks:=tk}) :
  wpAny Hw A (call (.type "dict") [Sy]) Q E s:=by
 refine callType_codes (Q₁:=λobj s₁=>obj=.ref s.heap.objs.size∧s₁={s with heap:=s.heap.push {cls:=.type "dict",data:=.dict #[]}}) PySem.F.kt_called_dict (PySem.F.kt_typeCall_dict_1 _) PySem.F.entry_dict_init (kt_code_dict_new _ ⟨rfl,rfl⟩) ?_
 rintro obj s₁ ⟨rfl,rfl⟩
 have cI:(s.heap.push {cls:=.type "dict",data:=.dict #[]}).DictOf knd s.heap.objs.size []:=Heap.DictOf.new s.heap
 refine⟨cI.typeIs,PySem.F.args_dict_init_2 _ _,?_⟩
 unfold Builtin.«dict.__init__»
 refine wpAny_bind ?_
 unfold Builtin.Dict.selfAndRest
 refine wpAny_bind (wpAny_notOrdered_dict cI.typeIs (show ZZ _ (pure (s.heap.objs.size,[xU l])) _ _ _ from wpAny_pure ?_))
 show ZZ _ (Builtin.Dict.updateFrom "dict.__init__" s.heap.objs.size Sy [] .none) _ _ _
 unfold Builtin.Dict.updateFrom
 have aD:(s.heap.push {cls:=.type "dict",data:=.dict #[]}).get? l=some {cls:=.type "list",data:=.seq (rows.map λr=>Value.ref r.a).toArray xk}:=WN hl
 refine wpAny_bind (wpAny_typeOf (T := "list") ⟨_,aD,rfl⟩ ?_)
 rw[if_pos Hf]
 refine wpAny_bind (no_keys aD (by first | exact hh | (show A.handled=none;exact hh)) λg tk kg=>?_)
 simp only[Option.isNone_none,if_true]
 refine wpAny_bind (wpAny_rule ?_)
 have ltl:l<s.heap.objs.size:=Qu hl
 have dg:g.DictOf knd s.heap.objs.size []:=by
  obtain⟨o,es,ep,q,z⟩:=cI
  exact⟨o,es,ep,kg _ _ q,z⟩
 have hlg:g.IsList l (rows.map λr=>Value.ref r.a).toArray:=⟨_,kg _ _ aD,rfl,xk,rfl⟩
 have ltd:s.heap.objs.size<g.objs.size:=by
  obtain⟨o,es,ep,q,z⟩:=dg
  exact Qu q
 have lts:∀b o,s.heap.get? b=some o→b≠s.heap.objs.size∧b≠g.objs.size:=λb o e=>⟨Op,Zh (Wl LP ltd)⟩
 refine wpAny_bind (wpAny_pyIter_list (s:={s with heap:=g,toks:=tk}) hlg (Sj ⟨zG zd6,?_⟩))
 refine loop (knd:=knd) (I:=g.objs.size) (l:=l) (by first | exact hh | (show A.handled=none;exact hh)) rows s.heap.objs.size (Zh ltd) (Yu ltl) (Zh (Wl ltl ltd)) (λr hr=>lts r.a r.o (hR r hr).1) nd hz _ 0 _ rfl SJ ⟨_,Ta,rfl,rfl⟩ ?_ (λr hr=>?_) ?_ λg2 tk2 k2 hd=>?_
 ·obtain ⟨o,q,z⟩:=hlg
  exact⟨o,WN q,z⟩
 ·obtain ⟨q1,q2⟩:=hR r hr
  exact⟨WN (kg _ _ (WN q1)),q2⟩
 ·exact dg.push _
 ·exact⟨rfl,h g2 tk2 hd λb o e=>k2 b o (lts b o e).1 (lts b o e).2 (WN (kg _ _ C4))⟩
end
end DictR
end
section
namespace L2
open PySem PySem.Spec PyProof.Rows
section
variable{X:Cx}
abbrev RowsAt(H:Hp):List Addr→List (Str×V)→Prop:=Paired λa p=>H a=some (.tup [.str p.1,p.2])
theorem rows_of(I:HP):∀{as:No} {ps:List (Str×V)},RowsAt H as ps →
  ∃rows:List (DictR.Row Key),rows.map (·.a)=as∧(∀r∈rows,DictR.RowAt Td s.heap r)∧rows.map (·.k)=ps.map (λp=>Sum.inr p.1)∧KV (ps.map λp=>((Sum.inr p.1:Key),p.2)) (rows.map λr=>(r.k,r.val))
 |_,_,.nil=>⟨[],rfl,λr hr=>(by cases hr),rfl,.nil⟩
 | a::as,p::ps,.cons h t=>by
  obtain⟨rows,e1,e2,e3,e4⟩:=rows_of I t
  obtain⟨_,a7,r,o,q,c,n,d⟩:=Vu h
  obtain⟨u,w',rfl,⟨tk,rfl⟩,rz⟩:=vals2 r
  refine⟨⟨a,o,Sum.inr p.1,.str p.1 tk,w',n⟩::rows,by rw[Qm,e1],λx hx=>?_,by rw[Qm,Qm,e3],.cons ⟨rfl,rz⟩ e4⟩
  rcases Qh.mp hx with z | z
  ·subst z
   exact⟨q,c,d,zgo _ _ _ _⟩
  ·exact e2 x z
def zhd(hc:X.calm=true):Y2 (.type "dict") (fun xs H Q=>Ex3 fun (p:Nc) (as:No) (ps:S1 (Str×V))=>Aj5 (xs=[Tn]) (H p=some Rz) (RowsAt H as ps) ((ps.map (·.1)).Nodup) (∀ l,H l=none→Q Sy (ZX l (.dK (ps.map fun p=>((Sum.inr p.1:Key),p.2)))))):=by
 intro a5 s σ H xs us Q I r h
 obtain⟨p,as,ps,rfl,hp,hr,nd,q⟩:=h
 obtain⟨u,rfl,rx⟩:=vals1 r
 cases rx
 obtain⟨hz,a7,n,rv,hl,e⟩:=I.lstM hp
 obtain⟨rows,e1,e2,e3,e4⟩:=rows_of I hr
 have eits:a7=rows.map λr=>Value.ref r.a:=by
  have dq:=e1
  clear hz hl e hp e4 e3 e2 hr e1 q
  induction rows generalizing as a7 with
  |nil=>subst dq;cases rv;rfl
  | cons r rs ih =>
   cases as with
   |nil=>cases dq
   | cons a as =>
    rw[Qm]at dq rv
    injection dq with h1 h2
    cases rv with
    |cons r1 r2 =>
     cases r1
     rw[Qm,h1,ih _ _ r2 h2]
 subst eits
 have ae:rows.length≤sizeLine:=by rw[Qa]at hz hl;rw[Qa]at hl;exact ze9 ‹_› ‹_›
 have ndk:(rows.map (·.k)).Nodup:=by
  rw[e3,show(λp:Str×V=>(Sum.inr p.1:Key))=(Sum.inr:Str→Key)∘(λp:Str×V=>p.1) from rfl,←Zj]
  exact List.Pairwise.map _ (λa b z q=>z O7) nd
 refine DictR.call (knd:=QY X.w) (rows:=rows) (xk:=n) S3 e e2 ndk ae λg tk hd k=>?_
 have nS:(s.heap.objs.size==sysModules)=false:=beq_eq_false_iff_ne.mpr (Yu I.big)
 refine⟨Hi _,_,I.laid (t':=tk) k Hx (show QJ _ g _ (ID _) from⟨?_,nS,_,e4,hd⟩),rfl,yz⟩
 have:=Zy e4
 rw[Qa,Qa]at this
 rw[Qa];lia
end
def eval_dc(kx vx gens scope pos):eval IN env=comprehension IN scope env (firstIterPos gens pos) newDict (firstAsync gens) (firstIter gens env):=rfl
def zi3{prog:Nk}{w:Nn}{A:Nq}{s:Nj}{kx vx target iter:Expr}{ifs:Nt}{scope:Scope}{pos:Pos}{it:Value}{D:Nc}{env:Env}{R:Nx}(I:Nat→Shared→Prop)(turn:∀ n s,I n s→wpAny (model prog w) A (pyNext it) (fun r s₁=>match r with
   |none=>R CN s₁
   | some v=>ZI Tv (fun _ s₁'=>ZI LN (fun _ s₂ =>
     wpAny Hw A Rg (λok s₃ =>
      if ok=true then ZI (CH kx) (λkv s₄=>ZI (CH vx) (λvv s₅ =>
       wpAny Hw A (dictSet D kv vv) (λ_ s₆=>∃m,m<n∧I m s₆) Re s₅) Re s₄) Re s₃
      else ∃m,m<n∧I m s₃) Re s₂) Re s₁') Re s₁) Re s)(n:Nat)(h:I n s):codeAny Hw A (AK (.DictComp kx vx [⟨target,iter,ifs,0⟩] scope pos) it env) R s:=by
 refine codeAny_loop rfl I (λn s hI=>?_) n h
 show ZZ A ((PX (.DictComp kx vx [⟨target,iter,ifs,0⟩] scope pos) 0 Th).onRaise (λx=>do noteFrame x env;theTreesLotGoes x)) _ _ s
 refine wpAny_noted ?_
 rw[compTurn_dict]
 refine wpAny_bind (wpAny_standAt (wpAny_bind (UV (λr s₁ h₁=>?_) λ_ _ h'=>h'.elim)))
 cases r with
 |none=>exact wpAny_pure h₁
 | some v =>
  refine wpAny_bind (J6 (λ_ s₁' h₁'=>?_) λ_ _ h'=>h'.elim)
  refine wpAny_bind (BM (λ_ s₂ h₂=>wpAny_bind (J7 (λok s₃ h₃=>?_) λ_ _ h'=>h'.elim)) λ_ _ h'=>h'.elim)
  cases ok with
  |false=>exact wpAny_pure ⟨rfl,h₃⟩
  |true =>
   exact wpAny_bind (wpAny_bind (Xz (λkv s₄ h₄=>wpAny_bind (wpAny_holding (V0 (λvv s₅ h₅=>wpAny_bind (wpAny_standAt (wpAny_holding (wpAny_mono h₅ (λ_ s₆ h₆=>wpAny_pure ⟨rfl,h₆⟩) λ_ _ h'=>h'.elim)))) λ_ _ h'=>h'.elim))) λ_ _ h'=>h'.elim))
section
variable{X:Cx}{sc:Scope}{M:Nh}{ix:Nv}{a5:Ni}{σ:St}{H:Hp}{s:Nj}
def rDC(g:TG)(tc:TT)(tk tv:TE)(Q:VK)(J:It)(τ:St)(H1:Hp):Prop:=∃W:Nat→Nat→List (Key×V)→St→Hp→Prop,(∃m,W 0 m [] τ H1)∧∀i m ys τ H,W i m ys τ H →
 (K5 H∧∀D,H D=none→Q Th (TC D ys)) ∨
 (NJ H∧ys.length<sizeLine∧∀x H',By H'→g x τ H' λ τ2 H2=>tc τ2 H2 λb H3=>if b=true then tk τ2 H3 λkv H4=>tv τ2 H4 λy H5=>∃k,kv=kV k∧∃m',m'<m∧W HN m' (putK ys k y) τ2 H5 else ∃m',m'<m∧W HN m' ys τ2 H3)
def tDC(ix:Nv)(wi:TI)(g:TG)(tc:TT)(tk tv:TE):TE:=λ σ H Q=>wi σ H λJ H1=>Mn H1
def dc_block{tg kx vx iter:Expr}{ifs:Nt}{pos:Pos}{g:TG}{tc:TT}{tk tv:TE}{fp:No}{it:Nc}{tn:Nat→Heap→Prop}{J:It}{Q:VK}{RR:Value→Addr→Result→Shared→Prop}{E:Nd}(B:YA ix)(hc:X.calm=true)(hg:∀C ex s H,UL g)(ht:∀C ex s H,YS tc)(hk:∀C ex s H,UM kx tk)(he:∀C ex s H,UM vx tv)(I:HP)(T:YR tn)(h0:O5)(hf:∀b∈fp,WF b)(q:Mn H)(l4:∀D C m ys H' s',ZA (YL D (ID ys)) s'→Q Th (YL D (ID ys))→s'.heap.Ns C m→YL D (ID ys) C=none→s.heap.objs.size<C→RR Th C CN s') :
  wpAny Hm X.A newDict (λaf s₃=>ZE Ro (λcenv s₄ =>
   codeAny Hm X.A (.compStart RP 0 Tk af {cenv with scope:=relabel sc X.env}) L9 s₄) E s₃) E s:=by
 refine wpAny_newObj_type (VJ (by intro y hy;simp at hy) (λh₁ hns₁ hsb₁=>?_) B.kind)
 dsimp only at hns₁ hsb₁ ⊢
 generalize hD:s.heap.objs.size=D at hns₁ hsb₁ ⊢
 generalize dJ:s.heap.push {cls:=.type "dict",dict:=none,data:=.dict #[]}=g2 at hns₁ hsb₁ ⊢
 have hC:g2.objs.size=D+1:=by rw[←dJ,Ws,hD]
 have k2:∀b o,s.heap.get? b=some o→g2.get? b=some o:=λb o e=>by rw[←dJ];exact WN e
 have I3:ZA H {s with heap:=g2}:=I.kept (t':=s.toks) k2
 have HD:H D=none:=I.hok.fresh OT
 have fD:WF D:=I.fpOk OT HD
 have D2:g2.get? D=some {cls:=.type "dict",dict:=none,data:=.dict #[]}:=by rw[←dJ,←hD];exact U9 rfl
 have nS:(D==sysModules)=false:=beq_eq_false_iff_ne.mpr (by rw[←hD];exact Yu I.big)
 have k1:∀b o,g2.get? b=some o→h₁.get? b=some o:=λb o e=>by
  have hb:b≠g2.objs.size:=Zh LP
  exact(hsb₁.2 b hb).trans C4
 have DN:h₁.DictOf Td D []:=by
  have q:g2.DictOf Td D []:=by rw[←dJ,←hD];exact Heap.DictOf.new s.heap
  obtain⟨o,es,ep,e,r⟩:=q
  exact⟨o,es,ep,k1 _ _ e,r⟩
 have fpx:∀b∈D::fp,WF b:=λb hb=>by
  rcases Qh.mp hb with e | e
  ·rw[e];exact fD
  ·exact Fh e
 have fplt:∀b∈D::fp,b<g2.objs.size:=λb hb=>by
  rcases Qh.mp hb with e | e
  ·rw[e,hC];exact Wa _
  ·obtain ⟨o,q,_⟩:=W2 h0 b e
   exact Qu yT
 have fpD:D∉fp:=λhm=>by
  obtain⟨o,q,_⟩:=W2 h0 D hm
  have:=Qu q
  rw[hD]at this
  exact Yw _ this
 generalize ak:Mo (D::fp) {s with heap:=g2} H=Y
 have IY:Y7 [] Oj H {s with heap:=h₁,toks:=s.toks+([]:List (Str×Value)).length}:=by
  rw[←ak]
  exact XH rfl
 have Yg:=ak▸hg g2.objs.size (D::fp) {s with heap:=g2} H
 have Yt:=ak▸ht g2.objs.size (D::fp) {s with heap:=g2} H
 have Yk:=ak▸hk g2.objs.size (D::fp) {s with heap:=g2} H
 have Ye:=ak▸he g2.objs.size (D::fp) {s with heap:=g2} H
 have eP:Y.prog=X.prog:=by rw[←ak];rfl
 have eW:Y.w=X.w:=by rw[←ak];rfl
 have eK:Y.K=X.K:=by rw[←ak];rfl
 have eA:Y.A=X.A:=by rw[←ak];rfl
 have eC:Y.calm=true:=by rw[←ak];exact hc
 have eE:Y.env=compEnvC sc Tg g2.objs.size X.env:=by rw[←ak];rfl
 have eX:Y.xe=λ_ _=>False:=by rw[←ak];rfl
 have eEx:Y.ex=D::fp:=by rw[←ak];rfl
 have eFs:Y.fs=frs X.stack:=by rw[←ak];rfl
 have ePn:Y.pn=X.pn++a5:=by rw[←ak];rfl
 have eL:Y.env.locals=g2.objs.size:=by rw[eE];rfl
 have qi:Y.H₀=H:=by rw[←ak];rfl
 have jz:Y.s₀={s with heap:=g2}:=by rw[←ak];rfl
 have fY:∀{H':Hp} {pl:Ni} {b:Nc},b∈D::fp→H' b=none→(∀p∈pl,p.1≠b)→KP pl H' b:=λ{H' pl b} hb hn hp=>by
  obtain⟨f0,f1,f2,f3,f4,f5⟩:=fpx b hb
  refine⟨hn,?_,?_,RH CO,DG CO |>.2,λp gZ=>?_⟩
  ·rw[eL];exact Zh zV
  ·rw [eFs]
   intro z
   rcases Qh.mp (DH z) with q | q
   ·exact f1 q
   ·exact f2 q
  ·rw [ePn] at gZ
   rcases Ql.mp gZ with z | z
   ·exact f5 p z
   ·exact hp p z
 obtain⟨W,⟨m0,w0⟩,turn⟩:=q
 have loop:∀ sN:Shared,sN={ s with heap:=h₁,toks:=s.toks+([]:List (Str×Value)).length } →
   codeAny Hm X.A (AK RP Tk (CF Tg)) EI sN:=by
  rintro sN rfl
  refine zi3 (λn s'=>Ex5 λi τ H' ys vs=>Aj7 (Y7 [] τ H' s') Cj (∀b∈D::fp,H' b=none) (s'.heap.DictOf Td D vs) (KV ys vs) (ys.length≤sizeLine) C5) ?_ m0
   ⟨0,Oj,H,[],[],IY,WH h0 λb _ o e=>k1 b o Ej,λb hb=>(fpx b hb).1,DN,.nil,SJ,w0⟩
  rintro n s5 ⟨i,τ,H5,ys,vs,I5,t5,n5,dd5,v5,z5,w5⟩
  obtain⟨o5,vo,vp,d5,rV⟩:=id dd5
  have nc5:∀v,o5.data≠.cell v:=λv z=>by
   obtain⟨_,q,_⟩:=rV
   rw[q]at z;cases z
  have oD:∀b∈[D],∃o,s5.heap.get? b=some o∧∀v,o.data≠.cell v:=λb hb=>by
   rw[Qc.mp hb]
   exact⟨_,d5,nc5⟩
  have eZ:Y7 ([]++zbm [D] s5.heap) τ H5 s5:=I5.pinned (λb hb=>fY (by rw[Qc.mp hb];exact Qb) (n5 b (by rw[Qc.mp hb];exact Qb)) Ha) oD
  have pD:∀p∈zbm [D] s5.heap,p.1=D∧p.2=o5:=λp hp=>by
   obtain⟨e1,e2⟩:=zdb hp
   have dq:p.1=D:=Qc.mp e1
   rw[dq,d5]at e2
   exact⟨dq,(Qn e2).symm⟩
  have fN:∀{H':Hp},(∀b∈fp,H' b=none)→∀b∈fp,KP ([]++zbm [D] s5.heap) H' b:=λhn b hb=>fY LG OH λp hp z=>by
   rw[Wz]at hp
   rw[(pD p hp).1]at z
   exact fpD (z▸hb)
  rcases BA w5 with⟨stop,qn⟩ | ⟨go,zl,step⟩
  ·have h6:=U' (fun _ _=>False) eZ (fN fun b hb=>n5 b LG) t5 stop
   rw[eA]at h6
   refine thn h6 λr s6 ⟨hr,I6⟩=>?_
   subst hr
   have d6:s6.heap.get? D=some o5:=by
    have hp:=zbb (fp:=[D]) SL d5
    exact(I6.pin (D,_) AL).1
   have H5D:H5 D=none:=n5 D Qb
   obtain⟨mL,nL,_⟩:=I6.loc
   rw[eL]at nL
   have CD:g2.objs.size≠D:=by rw[hC];exact Xj _
   refine l4 D _ mL ys H5 s6 ?_ yU nL ?_ (by rw[hC,hD];exact Wa _)
   ·have u6:=I6.base
    rw[eFs,eEx,qi,jz]at u6
    refine I3.call' (ch:=D::fp) (I6.os.trans (by rw[jz])) ⟨u6.keep,u6.slot,λb o e n hx=>?_,u6.there,λb xs e=>?_,λb o u e=>?_,λb ps e=>?_⟩ ?_ I6.bare λb hb=>?_
    ·rw[zaf (λz=>hx Ao)];exact u6.free b o e n hx
    ·rw[zaf Ek];exact u6.tups b xs e
    ·rw[zaf Ek];exact u6.frzs b o u e
    ·rw[zaf Ek];exact u6.tbls b ps e
    ·have iY:=I6.hok
     rw[eP,eW]at iY
     intro b u e
     by_cases hb:b=D
     ·subst hb
      rw[zab]at e
      cases e
      exact⟨z5,nS,vs,v5,o5,vo,vp,d6,rV⟩
     ·rw [OL] at e
      exact(iY b u e).stay (λc v _ q=>q) (λc q=>by rw[zaf IG];exact q) λc xs q=>by rw[zaf IG];exact q
    ·obtain ⟨f0,f1,f2,f3,f4,f5⟩:=fpx b hb
     exact⟨f3,f1,f4,f5⟩
   ·rw [zaf CD]
    have:=I6.free
    rw[eL]at this
    exact this
  ·have h6:=JA (fun _ _=>False) eZ (fN fun b hb=>n5 b LG) t5 go
   rw[eA]at h6
   refine thn h6 λr s6 ⟨u,hr,h7⟩=>?_
   subst hr
   refine thn h7 λ_ s7 ⟨x,H7,I7,r7,y7,t7,n7⟩=>?_
   have lm:=BB xL
   have h8:=Yg _ s7 τ H7 x u _ lm r7 xM
   rw[eP,eW,eA,eX,eE]at h8
   refine thn h8 λ_ s8 ⟨τ8,H8,I8,q8⟩=>?_
   have h9:=Yt _ s8 τ8 H8 _ I8 q8
   rw[eP,eW,eA,eX,eE]at h9
   refine thn h9 λok s9 ⟨H9,I9,q9⟩=>?_
   have again:∀{τ':St} {H':Hp} {s':Nj},Y7 (([]++zbm [D] s5.heap)++Bm s7.heap) τ' H' s'→s'.heap.get? D=some o5∧H' D=none∧tn HN s'.heap∧∀b∈fp,H' b=none:=λ{τ' H' s'} I'=>by
    have pp:∀{b:Nc} {o:Obj},b∈fp→s7.heap.get? b=some o→s'.heap.get? b=some o∧H' b=none:=λ{b o} hb e =>
     let z:=I'.pin (b,o) TW
     ⟨z.1,z.2.1⟩
    have hp:=zbb (fp:=[D]) SL d5
    have z:=I'.pin (D,_) AA
    refine⟨z.1,z.2.1,WH t7 λb hb o e=>(pp hb e).1,λb hb=>?_⟩
    obtain⟨o,e,_⟩:=W2 t7 b hb
    exact(pp hb e).2
   have drop:∀{pl:Ni} {τ':St} {H':Hp} {s':Nj},Y7 pl τ' H' s'→Y7 [] τ' H' s':=λI'=>I'.pins_of Ha
   cases ok with
   |false =>
    rw[if_neg Hf]at q9 ⊢
    obtain⟨m',hm,w9⟩:=q9
    obtain⟨d9,H9D,t9,n9⟩:=again I9
    exact⟨m',hm,i+1,τ8,H9,ys,vs,drop I9,t9,λb hb=>(xC hb).elim (λe=>e▸H9D) (n9 b),⟨o5,vo,vp,d9,rV⟩,v5,z5,w9⟩
   | true =>
    rw[if_pos rfl]at q9 ⊢
    have i5:=Yk _ s9 τ8 H9 _ I9 q9
    rw[eP,eW,eA,eX,eE]at i5
    refine thn i5 λkv da ⟨kw,i6,gM,lr,sr⟩=>?_
    have rM:=Ye _ da τ8 i6 _ gM sr
    rw[eP,eW,eA,eX,eE]at rM
    refine thn rM λy sm ⟨yv,H11,mB,r11,kk,ek,m',hm,w11⟩=>?_
    subst ek
    obtain⟨d11,H11D,t11,n11⟩:=again mB
    have vz:sm.heap.DictOf Td D vs:=⟨o5,vo,vp,d11,rV⟩
    have gm:(QY X.w).is kk kv=true:=by
     cases kk with
     |inl i=>obtain⟨t,rfl⟩:=lr;exact keyIs_int i t
     |inr x=>obtain⟨t,rfl⟩:=lr;exact keyIs_str x t
    refine wpAny_dictSet_pairs (knd:=QY X.w) gm vz (λh' iN sb=>?_) (by rw[←Zy v5];assumption)
    have kkp:∀b o,b≠D→sm.heap.get? b=some o→h'.get? b=some o:=λb o hb e=>(OQ hb).trans e
    obtain⟨g0,g1,g2',g3,g4,g5⟩:=fY (pl:=[]) (H':=H11) (b:=D) Qb H11D Ha
    have I12:=(drop mB).turned (h':=h') (t':=sm.toks+1) (it:=D) kkp H11D g1 g3 g4 g5
    refine⟨m',hm,i+1,τ8,H11,putK ys kk yv,stored vs kk y,I12,WH t11 λb hb o e=>kkp b o (λz=>fpD (z▸hb)) e,λb hb=>(xC hb).elim (λe=>e▸H11D) (n11 b),iN,v5.put kk r11,?_,w11⟩
    unfold putK
    split
    ·rw[Qa];exact z5
    ·rw[Qw,Uz];assumption
 exact codeAny_compStart_dict IH (BO (WH h0 λb _ o e=>k1 b o Ej) IH)
def pe_dc(B:YA ix)(hc:X.calm=true)(hi:CK)(hg:∀C a5 ex s H,UL g)(ht:∀C a5 ex s H,YS tc)(hk:∀C a5 ex s H,UM kx tk)(he:∀C a5 ex s H,UM vx tv)(hs:∀x,foldedSetIterable iter X.env x=pure x:=by intro _;rfl):Z9 RP (FR tv):=by
 intro a5 s σ H Q I h
 rw[eval_dc]
 refine wpAny_comprehension_free (use:=none) rfl hs LQ B.kind B.names (thn SF λv s1 h1=>thn h1 λitv s2 h2=>?_)
 obtain⟨it,fp,tn,J,H2,e,I2,T,br,f2,q⟩:=h2
 subst e
 refine dc_block (RR:=λaf C=>compPost Hm X.A X.xe none TK af C) B hc (hg · a5) (ht · a5) (hk · a5) (he · a5) I2 T br f2 q ?_
 intro D C m ys H' s' I' q' hn hC ad
 refine⟨m,hn,λh' bZ=>⟨Th,_,YH bZ,rfl,q'⟩⟩
def ps_dc(hN:X.N.Nodup)(aU:X.N[i]?=some y)(hy:X.env.scope.names.lookup y=some .local)(B:YA ix)(hc:X.calm=true)(hi:CK)(hg:∀C a5 ex s H,UL g)(ht:∀C a5 ex s H,YS tc)(hk:∀C a5 ex s H,UM kx tk)(he:∀C a5 ex s H,UM vx tv)(lJ:swapsWith RP (Hs Iq) spos.line X.env=pure true)(hs:∀x,foldedSetIterable iter X.env x=pure x:=by intro _;rfl):KH (.Assign [Iq] RP spos) (tAsg (FR tv) OP):=by
 intro a5 s σ H D' I h
 rw[exec_Assign_Name_used _ _ _ _ lJ]
 refine wpAny_bind (wpAny_standAt (wpAny_bind ?_))
 show ZZ X.A (do let _ ←comprehension RP sc X.env _ newDict false IA xN) _ _ s
 refine wpAny_bind (wpAny_mono (wpAny_comprehension_free (use:=some SI) (Q:=λ_ s'=>X0 D' .next s') rfl hs LQ B.kind B.names
  (thn SF λv s1 h1=>thn h1 λitv s2 h2=>?_)) (λ_ s' hq=>wpAny_pure (Sj hq)) λ_ _ e=>e)
 obtain⟨it,fp,tn,J,H2,e,I2,T,br,f2,q⟩:=h2
 subst e
 refine dc_block (RR:=λaf C=>compPost Hm X.A X.xe xN (λ_ s'=>X0 D' .next s') af C) B hc (hg · a5) (ht · a5) (hk · a5) (he · a5) I2 T br f2 q ?_
 intro D C m ys H' s' I' q' hn hC ad
 show ZZ X.A zW _ _ s'
 refine wpAny_assign_Name (NR (v:=.ref D) rfl (λmJ vG ⟨a,sb,ha⟩=>?_) OU)
 have aC:C≠a:=by
  rcases ha with z | z
  ·rw[z];exact Yu (Wl I2.lt ad)
  ·exact Yu (Fb ad)
 have bC:=hn.sameBut sb aC
 exact⟨m,bC,λh' bZ=>⟨_,_,CJ,q'⟩⟩
end
def compTurn_in(elt tg1 it1 target iter:Expr)(ifs:Nt)(scope:Scope)(pos:Pos)(it af:Value)(env:Env) :
  compTurn Hv 1 it af env=(do
   standAt iter.pos
   match ←pyNext it with
   |none=>pure (.done .next)
   | some v =>
    letOwnedTupleGo target it v
    assign target env v
    let mut ok:=true
    for c in ifs do
     if ok then ok ←isTrue c env (CH c)
    if ok then
     (do let _ ←call (.builtin "list.append") [af,←eval elt env])
    again AT):=by rfl
def compTurn_out(elt target iter dr bW:Expr)(ifs:Nt)(scope:Scope)(pos:Pos)(it af:Value)(env:Env) :
  compTurn HR 0 it af env=(do
   standAt iter.pos
   match ←pyNext it with
   |none=>pure (.done .next)
   |some v =>
    letOwnedTupleGo target it v
    assign target env v
    let x ←eval bW env
    standAt bW.pos
    let x ←foldedSetIterable bW env x
    let _ ←runOwn (zp HR (←holding [x] (OF x))) env
    again (Lg HR 0 af)):=by rfl
section
variable{prog:Nk}{w:Nn}{A:Nq}{s:Nj}{elt tg1 it1 target iter:Expr}{ifs:Nt}{scope:Scope}{pos:Pos}{it af:Value}{env:Env}{R:Nx}
def start_in(h0:codeAny Hw A AT R s)(h:ZI (OF it) (λsS s'=>codeAny Hw A (.compLoop Hv 1 sS af env) R s') Re s) :
  codeAny Hw A (zp Hv it) R s:=by
 refine codeAny_of_tree (show ZZ _ ((compStart Hv 1 it af env).onRaise (λx=>do noteFrame x env;standAt theWindowsPlace)) _ _ s from wpAny_notedAt ?_)
 unfold compStart
 show ZZ _ (ask >>= _) _ _ s
 refine wpAny_bind (wpAny_askSetting (wpAny_ite ?_))
 split
 ·first
   |exact wpAny_pure (And.intro rfl h0)
   |exact wpAny_bind (wpAny_pure (wpAny_pure (And.intro rfl h0)))
 ·refine wpAny_bind (wpAny_rule ?_)
  first
   |exact wpAny_bind (wpAny_standAt (wpAny_bind (wpAny_mono h (λsS s' h'=>wpAny_pure yZ) λ_ _ x=>x.elim)))
   |(show wpAny _ _ (standAt iter.pos >>= _) _ _ s;exact wpAny_bind (wpAny_standAt (wpAny_bind (wpAny_mono h (λsS s' h'=>wpAny_pure yZ) λ_ _ x=>x.elim))))
def loop_in(I:Nat→Shared→Prop)(turn:∀ n s,I n s→wpAny (model prog w) A (pyNext it) (fun r s₁=>match r with
   |none=>R CN s₁
   | some v=>ZI Tv (fun _ s₁'=>ZI LN (fun _ s₂ =>
     wpAny Hw A Rg (λok s₃ =>
      if ok=true then ZI (CH elt) (λx s₄=>ZI (call (.builtin "list.append") [af,x]) (λ_ s₅=>∃m,m<n∧I m s₅) Re s₄) Re s₃
      else ∃m,m<n∧I m s₃) Re s₂) Re s₁') Re s₁) Re s)(n:Nat)(h:I n s):codeAny Hw A AT R s:=by
 refine codeAny_loop rfl I (λn s hI=>?_) n h
 show ZZ A ((PX Hv 1 af).onRaise (λx=>do noteFrame x env;theTreesLotGoes x)) _ _ s
 refine wpAny_noted ?_
 rw[compTurn_in]
 refine wpAny_bind (wpAny_standAt (wpAny_bind (UV (λr s₁ h₁=>?_) λ_ _ h'=>h'.elim)))
 cases r with
 |none=>exact wpAny_pure h₁
 | some v =>
  refine wpAny_bind (J6 (λ_ s₁' h₁'=>?_) λ_ _ h'=>h'.elim)
  refine wpAny_bind (BM (λ_ s₂ h₂=>wpAny_bind (J7 (λok s₃ h₃=>?_) λ_ _ h'=>h'.elim)) λ_ _ h'=>h'.elim)
  cases ok with
  |false=>exact wpAny_pure ⟨rfl,h₃⟩
  |true =>
   exact wpAny_bind (wpAny_bind (Xz (λx s₄ h₄=>wpAny_bind (V0 (λ_ s₅ h₅=>wpAny_pure (wpAny_pure ⟨rfl,h₅⟩)) λ_ _ h'=>h'.elim)) λ_ _ h'=>h'.elim))
def loop_out(hs:∀x,foldedSetIterable bW env x=pure x)(I:Nat→Shared→Prop)(turn:∀ n s,I n s→wpAny (model prog w) A (pyNext it) (fun r s₁=>match r with
   |none=>R CN s₁
   | some v=>ZI Tv (fun _ s₁'=>ZI LN (fun _ s₂ =>
     wpAny Hw A (CH bW) (λx s₃=>ZI (OF x) (λj s₄=>codeAny Hw A (zp HR j) (λr s₅=>(∃f,r=.ok f)∧∃m,m<n∧I m s₅) s₄) Re s₃)
      (λ_ _=>False) s₂) Re s₁') Re s₁) Re s)(n:Nat)(h:I n s):codeAny Hw A (Lg HR 0 af) R s:=by
 refine codeAny_loop rfl I (λn s hI=>?_) n h
 show ZZ A ((PX HR 0 af).onRaise (λx=>do noteFrame x env;theTreesLotGoes x)) _ _ s
 refine wpAny_noted ?_
 rw[compTurn_out]
 refine wpAny_bind (wpAny_standAt (wpAny_bind (UV (λr s₁ h₁=>?_) λ_ _ h'=>h'.elim)))
 cases r with
 |none=>exact wpAny_pure h₁
 | some v =>
  refine wpAny_bind (J6 (λ_ s₁' h₁'=>?_) λ_ _ h'=>h'.elim)
  refine wpAny_bind (BM (λ_ s₂ h₂=>?_) λ_ _ h'=>h'.elim)
  refine wpAny_bind (J7 (λx s₃ h₃=>wpAny_bind (wpAny_standAt (wpAny_bind (wpAny_of_eq (hs x) (wpAny_bind (wpAny_holding (Xz (λj s₄ h₄=>wpAny_bind (wpAny_runOwn ?_)) λ_ _ h'=>h'.elim)))))))
   λ_ _ h'=>h'.elim)
  refine codeAny_mono (show codeAny Hw (A.mark none) _ _ s₄ from h₄) λr s₅ h₅=>?_
  obtain⟨⟨f,rfl⟩,h₆⟩:=h₅
  exact wpAny_pure ⟨rfl,h₆⟩
end
def rIn2(g:TG)(tc:TT)(te:TE)(Fin:List V→St→Hp→Prop)(J:It)(ys:List V)(τ:St)(H1:Hp):Prop:=∃W:Nat→Nat→List V→St→Hp→Prop,(∃m,W 0 m ys τ H1)∧∀i m ys τ H,W i m ys τ H →
 (K5 H∧Fin ys τ H) ∨
 (NJ H∧ys.length<sizeLine∧∀x H',By H'→g x τ H' λ τ2 H2=>tc τ2 H2 λb H3=>if b=true then te τ2 H3 λy H4=>∃m',m'<m∧W HN m' (ys++[y]) τ2 H4 else ∃m',m'<m∧W HN m' ys τ2 H3)
def in_loop{Y:Cx}{D:Nc}{P1:Ni}{elt tg1 it1 tg iter:Expr}{ifs:Nt}{sc:Scope}{pos:Pos}{g:TG}{tc:TT}{te:TE}{fp:No}{it:Nc}{tn:Nat→Heap→Prop}{J:It}{Fin:List V→St→Hp→Prop}{τ0:St}{H0:Hp}{s0:Nj}{qp:List V}{jG:Nl}{k0:Nat}(hc:Y.calm=true)(eX:Y.xe=λ_ _=>False)(Yg:PG Y tg g)(Yt:PTs Y ifs tc)(Ye:PE Y elt te)(T:Turn Y.prog Y.w Y.K tg J fp it tn)(fpD:D∉fp)(fD:∀{H':Hp},H' D=none→KP P1 H' D)(f2:∀{H':Hp} {b:Nc},b∈fp→H' b=none→KP P1 H' b)(I0:Y7 P1 τ0 H0 s0)(t0:tn 0 s0.heap)(n0:∀b∈D::fp,H0 b=none)(d0:s0.heap.get? D=some {cls:=.type "list",data:=.seq jG.toArray k0})(v0:Vals qp jG)(z0:qp.length≤sizeLine)(q:rIn2 g tc te Fin J qp τ0 H0){R:Nx}(hR:∀ys a7 k τ H' s',Y7 P1 τ H' s'→H' D=none→s'.heap.get? D=some {cls:=.type "list",data:=.seq (a7:Nl).toArray k}→YM a7→ys.length≤sizeLine→Fin ys τ H'→R CN s') :
  codeAny y6 Y.A (.compStart (.ListComp elt [⟨tg1,it1,[],0⟩,⟨tg,iter,ifs,0⟩] sc pos) 1 Tk Th Y.env) R s0:=by
 obtain⟨W,⟨m0,w0⟩,turn⟩:=q
 have loop:codeAny y6 Y.A (.compLoop (.ListComp elt [⟨tg1,it1,[],0⟩,⟨tg,iter,ifs,0⟩] sc pos) 1 Tk Th Y.env) R s0:=by
  refine loop_in (λn s'=>Ex6 λi τ H' ys a7 k=>Aj7 (Y7 P1 τ H' s') Cj (∀b∈D::fp,H' b=none) (s'.heap.get? D=some {cls:=.type "list",data:=.seq (a7:Nl).toArray k}) xK (ys.length≤sizeLine) C5) ?_ m0 ⟨0,τ0,H0,qp,jG,k0,I0,t0,n0,d0,v0,z0,w0⟩
  rintro n s5 ⟨i,τ,H5,ys,a7,k,I5,t5,n5,d5,v5,z5,w5⟩
  have oD:∀b∈[D],∃o,s5.heap.get? b=some o∧∀v,o.data≠.cell v:=λb hb=>by
   rw[Qc.mp hb]
   exact⟨_,d5,λv z=>by cases z⟩
  have eZ:Y7 (P1++zbm [D] s5.heap) τ H5 s5:=I5.pinned (λb hb=>by rw[Qc.mp hb];exact fD (n5 D Qb)) oD
  have pD:∀p∈zbm [D] s5.heap,p.1=D:=λp hp=>Qc.mp (zdb hp).1
  have fN:∀{H':Hp},(∀b∈fp,H' b=none)→∀b∈fp,KP (P1++zbm [D] s5.heap) H' b:=λhn b hb=>by
   obtain⟨f0,f1,f3,f4,f5,f6⟩:=f2 hb OH
   refine⟨f0,f1,f3,f4,f5,λp hp=>?_⟩
   rw[←Qv]at hp
   rcases Ql.mp hp with z | z
   ·exact f6 p z
   ·rw[pD p z];exact λe=>fpD (e▸hb)
  rcases BA w5 with⟨stop,qn⟩ | ⟨go,zl,step⟩
  ·refine thn (T.done Y rfl rfl rfl hc i _ s5 τ H5 (fun _ _=>False) eZ (fN fun b hb=>n5 b LG) t5 stop) fun r s6 ⟨hr,I6⟩=>?_
   subst hr
   have hp:=zbb (fp:=[D]) SL d5
   have z:=I6.pin (D,_) (WK AL)
   exact hR ys a7 k τ H5 s6 I6.unpinned (n5 D Qb) z.1 v5 z5 qn
  ·refine thn (T.item Y rfl rfl rfl hc i _ s5 τ H5 (fun _ _=>False) eZ (fN fun b hb=>n5 b LG) t5 go) fun r s6 ⟨u,hr,h7⟩=>?_
   subst hr
   refine thn h7 λ_ s7 ⟨x,H7,I7,r7,y7,t7,n7⟩=>?_
   have lm:=BB xL
   have h8:=Yg _ s7 τ H7 x u _ lm r7 xM
   rw[eX]at h8
   refine thn h8 λ_ s8 ⟨τ8,H8,I8,q8⟩=>?_
   have h9:=Yt _ s8 τ8 H8 _ I8 q8
   rw[eX]at h9
   refine thn h9 λok s9 ⟨H9,I9,q9⟩=>?_
   have again:∀{τ':St} {H':Hp} {s':Nj},Y7 ((P1++zbm [D] s5.heap)++Bm s7.heap) τ' H' s'→s'.heap.get? D=some {cls:=.type "list",data:=.seq a7.toArray k}∧H' D=none∧tn HN s'.heap∧∀b∈fp,H' b=none:=λ{τ' H' s'} I'=>by
    have pp:∀{b:Nc} {o:Obj},b∈fp→s7.heap.get? b=some o→s'.heap.get? b=some o∧H' b=none:=λ{b o} hb e =>
     let z:=I'.pin (b,o) TW
     ⟨z.1,z.2.1⟩
    have hp:=zbb (fp:=[D]) SL d5
    have z:=I'.pin (D,_) (WK (YF AL))
    refine⟨z.1,z.2.1,WH t7 λb hb o e=>(pp hb e).1,λb hb=>?_⟩
    obtain⟨o,e,_⟩:=W2 t7 b hb
    exact(pp hb e).2
   have drop:∀{τ':St} {H':Hp} {s':Nj},Y7 ((P1++zbm [D] s5.heap)++Bm s7.heap) τ' H' s'→Y7 P1 τ' H' s':=λI'=>I'.unpinned.unpinned
   cases ok with
   |false =>
    rw[if_neg Hf]at q9 ⊢
    obtain⟨m',hm,w9⟩:=q9
    obtain⟨d9,H9D,t9,n9⟩:=again I9
    exact⟨m',hm,i+1,τ8,H9,ys,a7,k,drop I9,t9,λb hb=>(xC hb).elim (λe=>e▸H9D) (n9 b),d9,v5,z5,w9⟩
   | true =>
    rw[if_pos rfl]at q9 ⊢
    have i5:=Ye _ s9 τ8 H9 _ I9 q9
    rw[eX]at i5
    refine thn i5 λy da ⟨yv,i6,gM,lr,m',hm,se⟩=>?_
    obtain⟨lj,H10D,mG,sI⟩:=again gM
    refine call_meets F.slot_list_append ⟨_,lj,rfl⟩ F.entry_list_append (BW _) (KQ (by rw[Qy,←v5.length];assumption)) ⟨lj,?_⟩
    have q:=Fa (λa=>a.push y)
    have vt:yE=(a7++[y]).toArray:=by simp
    rw[vt]at q
    have kk:∀b o,b≠D→da.heap.get? b=some o→(da.heap.update D (Obj.mapSeq λa=>a.push y)).get? b=some o:=λb o hb e=>(Yj da.heap (Obj.mapSeq λa=>a.push y) AH).trans e
    obtain⟨g0,g1,g2',g3,g4,g5⟩:=fD H10D
    have mB:=(drop gM).turned (h':=da.heap.update D (Obj.mapSeq λa=>a.push y)) (t':=da.toks) (it:=D) kk H10D g1 g3 g4 g5
    exact⟨m',hm,i+1,τ8,i6,ys++[yv],a7++[y],_,mB,WH mG λb hb o e=>kk b o (λz=>fpD (z▸hb)) e,λb hb=>(xC hb).elim (λe=>e▸H10D) (sI b),q,v5.append (Sa lr),
     by rw[Qw,Uz];assumption,se⟩
 exact start_in loop (BO t0 loop)
section
variable{X:Cx}{sc:Scope}{M:Nh}{ix:Nv}{a5:Ni}{σ:St}{H:Hp}{s:Nj}
def rLC2(g1:TG)(iU:TI)(g:TG)(tc:TT)(te:TE)(Q:VK)(J:It)(τ:St)(H1:Hp):Prop:=∃W:Nat→Nat→List V→St→Hp→Prop,(∃m,W 0 m [] τ H1)∧∀i m ys τ H,W i m ys τ H →
 (K5 H∧∀D,H D=none→Q Th (LS D ys)) ∨
 (NJ H∧∀x H',By H'→g1 x τ H' λ τ2 H2=>iU τ2 H2 λJ2 H3=>rIn2 g tc te (λmD τ' H'=>∃m',m'<m∧W HN m' mD τ' H') J2 ys τ2 H3)
def tLC2(ix:Nv)(wi:TI)(g1:TG)(iU:TI)(g:TG)(tc:TT)(te:TE):TE:=λ σ H Q=>wi σ H λJ H1=>Vv H1
def lc2_block{tg elt iter dr bW:Expr}{ifs:Nt}{pos:Pos}{g1:TG}{iU:TI}{g:TG}{tc:TT}{te:TE}{fp:No}{it:Nc}{tn:Nat→Heap→Prop}{J:It}{Q:VK}{RR:Value→Addr→Result→Shared→Prop}{E:Nd}(B:YA ix)(hc:X.calm=true)(uI:∀C ex s H,UL g1)(aq:∀C ex s H,PI yS dr bW iU)(cv:∀C x,foldedSetIterable bW P9 x=pure x)(hg:∀C ex s H,PG yS dr g)(ht:∀C ex s H,YS tc)(he:∀C ex s H,UM elt te)(I:HP)(T:YR tn)(h0:O5)(hf:∀b∈fp,WF b)(q:Vv H)(l4:Ry) :
  wpAny Hm X.A (newList []) (λaf s₃=>ZE Ro (λcenv s₄ =>
   codeAny Hm X.A (.compStart (.ListComp elt [⟨tg,iter,[],0⟩,⟨dr,bW,ifs,0⟩] sc pos) 0 Tk af {cenv with scope:=relabel sc X.env}) L9 s₄) E s₃) E s:=by
 refine wpAny_newObj_type (VJ (by intro y hy;simp at hy) (λh₁ hns₁ hsb₁=>?_) B.kind)
 dsimp only at hns₁ hsb₁ ⊢
 generalize hD:s.heap.objs.size=D at hns₁ hsb₁ ⊢
 generalize dJ:s.heap.push {cls:=.type "list",dict:=none,data:=.seq ([]:List Value).toArray}=g2 at hns₁ hsb₁ ⊢
 have hC:g2.objs.size=D+1:=by rw[←dJ,Ws,hD]
 have k2:∀b o,s.heap.get? b=some o→g2.get? b=some o:=λb o e=>by rw[←dJ];exact WN e
 have I3:ZA H {s with heap:=g2}:=I.kept (t':=s.toks) k2
 have HD:H D=none:=I.hok.fresh OT
 have fD:WF D:=I.fpOk OT HD
 have D2:g2.get? D=some {cls:=.type "list",dict:=none,data:=.seq ([]:List Value).toArray}:=by rw[←dJ,←hD];exact U9 rfl
 have k1:∀b o,g2.get? b=some o→h₁.get? b=some o:=λb o e=>by
  have hb:b≠g2.objs.size:=Zh LP
  exact(hsb₁.2 b hb).trans C4
 have fpx:∀b∈D::fp,WF b:=λb hb=>by
  rcases Qh.mp hb with e | e
  ·rw[e];exact fD
  ·exact Fh e
 have fplt:∀b∈D::fp,b<g2.objs.size:=λb hb=>by
  rcases Qh.mp hb with e | e
  ·rw[e,hC];exact Wa _
  ·obtain ⟨o,q,_⟩:=W2 h0 b e
   exact Qu yT
 have fpD:D∉fp:=λhm=>by
  obtain⟨o,q,_⟩:=W2 h0 D hm
  have:=Qu q
  rw[hD]at this
  exact Yw _ this
 generalize ak:Mo (D::fp) {s with heap:=g2} H=Y
 have IY:Y7 [] Oj H {s with heap:=h₁,toks:=s.toks+([]:List (Str×Value)).length}:=by
  rw[←ak]
  exact XH rfl
 have Yg1:=ak▸uI g2.objs.size (D::fp) {s with heap:=g2} H
 have Yi2:=ak▸aq g2.objs.size (D::fp) {s with heap:=g2} H
 have Yg:=ak▸hg g2.objs.size (D::fp) {s with heap:=g2} H
 have Yt:=ak▸ht g2.objs.size (D::fp) {s with heap:=g2} H
 have Ye:=ak▸he g2.objs.size (D::fp) {s with heap:=g2} H
 have eP:Y.prog=X.prog:=by rw[←ak];rfl
 have eW:Y.w=X.w:=by rw[←ak];rfl
 have eK:Y.K=X.K:=by rw[←ak];rfl
 have eA:Y.A=X.A:=by rw[←ak];rfl
 have eC:Y.calm=true:=by rw[←ak];exact hc
 have eE:Y.env=compEnvC sc Tg g2.objs.size X.env:=by rw[←ak];rfl
 have eX:Y.xe=λ_ _=>False:=by rw[←ak];rfl
 have eEx:Y.ex=D::fp:=by rw[←ak];rfl
 have eFs:Y.fs=frs X.stack:=by rw[←ak];rfl
 have ePn:Y.pn=X.pn++a5:=by rw[←ak];rfl
 have eL:Y.env.locals=g2.objs.size:=by rw[eE];rfl
 have qi:Y.H₀=H:=by rw[←ak];rfl
 have jz:Y.s₀={s with heap:=g2}:=by rw[←ak];rfl
 have fY:∀{H':Hp} {pl:Ni} {b:Nc},b∈D::fp→H' b=none→(∀p∈pl,p.1≠b)→KP pl H' b:=λ{H' pl b} hb hn hp=>by
  obtain⟨f0,f1,f2,f3,f4,f5⟩:=fpx b hb
  refine⟨hn,?_,?_,RH CO,DG CO |>.2,λp gZ=>?_⟩
  ·rw[eL];exact Zh zV
  ·rw [eFs]
   intro z
   rcases Qh.mp (DH z) with q | q
   ·exact f1 q
   ·exact f2 q
  ·rw [ePn] at gZ
   rcases Ql.mp gZ with z | z
   ·exact f5 p z
   ·exact hp p z
 obtain⟨W,⟨m0,w0⟩,turn⟩:=q
 have loop:∀ sN:Shared,sN={ s with heap:=h₁,toks:=s.toks+([]:List (Str×Value)).length } →
   codeAny Hm X.A (AK (.ListComp elt [⟨tg,iter,[],0⟩,⟨dr,bW,ifs,0⟩] sc pos) Tk (CF Tg)) EI sN:=by
  rintro sN rfl
  refine loop_out (cv _) (λn s'=>Ex6 λi τ H' ys a7 k=>Aj7 (Y7 [] τ H' s') Cj (∀b∈D::fp,H' b=none) (s'.heap.get? D=some {cls:=.type "list",data:=.seq (a7:Nl).toArray k}) xK (ys.length≤sizeLine) C5) ?_ m0
   ⟨0,Oj,H,[],[],0,IY,WH h0 λb _ o e=>k1 b o Ej,λb hb=>(fpx b hb).1,k1 _ _ D2,.nil,SJ,w0⟩
  rintro n s5 ⟨i,τ,H5,ys,a7,k,I5,t5,n5,d5,v5,z5,w5⟩
  have oD:∀{s':Nj} {its':Nl} {k':Nat},s'.heap.get? D=some {cls:=.type "list",data:=.seq its'.toArray k'}→∀b∈[D],∃o,s'.heap.get? b=some o∧∀v,o.data≠.cell v:=λ{s' its' k'} e b hb=>by
   rw[Qc.mp hb]
   exact⟨_,e,λv z=>by cases z⟩
  have eZ:Y7 ([]++zbm [D] s5.heap) τ H5 s5:=I5.pinned (λb hb=>fY (by rw[Qc.mp hb];exact Qb) (n5 b (by rw[Qc.mp hb];exact Qb)) Ha) (oD d5)
  have pD:∀p∈zbm [D] s5.heap,p.1=D∧p.2={cls:=.type "list",data:=.seq a7.toArray k}:=λp hp=>by
   obtain⟨e1,e2⟩:=zdb hp
   have dq:p.1=D:=Qc.mp e1
   rw[dq,d5]at e2
   exact⟨dq,(Qn e2).symm⟩
  have fN:∀{H':Hp},(∀b∈fp,H' b=none)→∀b∈fp,KP ([]++zbm [D] s5.heap) H' b:=λhn b hb=>fY LG OH λp hp z=>by
   rw[Wz]at hp
   rw[(pD p hp).1]at z
   exact fpD (z▸hb)
  rcases BA w5 with⟨stop,qn⟩ | ⟨go,step⟩
  ·have h6:=U' (fun _ _=>False) eZ (fN fun b hb=>n5 b LG) t5 stop
   rw[eA]at h6
   refine thn h6 λr s6 ⟨hr,I6⟩=>?_
   subst hr
   have d6:s6.heap.get? D=some {cls:=.type "list",data:=.seq a7.toArray k}:=by
    have hp:=zbb (fp:=[D]) SL d5
    exact(I6.pin (D,_) AL).1
   have H5D:H5 D=none:=n5 D Qb
   obtain⟨mL,nL,_⟩:=I6.loc
   rw[eL]at nL
   have CD:g2.objs.size≠D:=by rw[hC];exact Xj _
   refine l4 D _ mL ys H5 s6 ?_ yU nL ?_ (by rw[hC,hD];exact Wa _)
   ·have u6:=I6.base
    rw[eFs,eEx,qi,jz]at u6
    refine I3.call' (ch:=D::fp) (I6.os.trans (by rw[jz])) ⟨u6.keep,u6.slot,λb o e n hx=>?_,u6.there,λb xs e=>?_,λb o u e=>?_,λb ps e=>?_⟩ ?_ I6.bare λb hb=>?_
    ·rw[zaf (λz=>hx Ao)];exact u6.free b o e n hx
    ·rw[zaf Ek];exact u6.tups b xs e
    ·rw[zaf Ek];exact u6.frzs b o u e
    ·rw[zaf Ek];exact u6.tbls b ps e
    ·have iY:=I6.hok
     rw[eP,eW]at iY
     intro b u e
     by_cases hb:b=D
     ·subst hb
      rw[zab]at e
      cases e
      exact⟨z5,a7,k,v5,d6⟩
     ·rw [OL] at e
      exact(iY b u e).stay (λc v _ q=>q) (λc q=>by rw[zaf IG];exact q) λc xs q=>by rw[zaf IG];exact q
    ·obtain ⟨f0,f1,f2,f3,f4,f5⟩:=fpx b hb
     exact⟨f3,f1,f4,f5⟩
   ·rw [zaf CD]
    have:=I6.free
    rw[eL]at this
    exact this
  ·have h6:=JA (fun _ _=>False) eZ (fN fun b hb=>n5 b LG) t5 go
   rw[eA]at h6
   refine thn h6 λr s6 ⟨u,hr,h7⟩=>?_
   subst hr
   refine thn h7 λ_ s7 ⟨x,H7,I7,r7,y7,t7,n7⟩=>?_
   have lm:=BB xL
   have h8:=Yg1 _ s7 τ H7 x u _ lm r7 xM
   rw[eP,eW,eA,eX,eE]at h8
   refine thn h8 λ_ s8 ⟨τ8,H8,I8,q8⟩=>?_
   have h9:=Yi2 _ s8 τ8 H8 _ I8 q8
   rw[eP,eW,eA,eX,eE]at h9
   refine thn h9 λxv s9 i5=>thn i5 λjv da rM=>?_
   obtain⟨j,fp2,tn2,J2,i6,rfl,gM,T2,mG,vk,sr⟩:=rM
   have pp:∀{b:Nc} {o:Obj} {H':Hp} {τ':St} {s':Nj},Y7 ([]++Bm s7.heap) τ' H' s'→b∈fp→s7.heap.get? b=some o→s'.heap.get? b=some o∧H' b=none:=λ{b o H' τ' s'} I' hb e =>
    let z:=I'.pin (b,o) TW
    ⟨z.1,z.2.1⟩
   have o8:=zbb (fp:=[D]) SL d5
   have zD:=gM.pin (D,_) xT
   have vF:Y7 ([]++Bm s7.heap) τ8 i6 da:=gM.pins_of λp hp=>gM.pin p (WK (WK (by rwa[Wz]at hp)))
   have nfp:∀p∈Bm s7.heap,p.1≠D:=λp hp z=>fpD (z▸(zdb hp).1)
   have keepT:∀{H':Hp} {τ':St} {s':Nj},Y7 ([]++Bm s7.heap) τ' H' s'→tn HN s'.heap∧∀b∈fp,H' b=none:=λ{H' τ' s'} I'=>by
    refine⟨WH t7 λb hb o e=>(pp I' hb e).1,λb hb=>?_⟩
    obtain⟨o,e,_⟩:=W2 t7 b hb
    exact(pp I' hb e).2
   have res:=in_loop (Y:=Y) (D:=D) (P1:=[]++Bm s7.heap) (elt:=elt) (tg1:=tg) (it1:=iter) (iter:=bW) (sc:=sc) (pos:=pos) (R:=λr s₅=>(∃f,r=.ok f)∧∃m,m<n∧Ex6 λi τ H' ys a7 k=>Aj7 (Y7 [] τ H' s₅) (tn i s₅.heap) (∀b∈D::fp,H' b=none) (s₅.heap.get? D=some {cls:=.type "list",data:=.seq (a7:Nl).toArray k}) xK (ys.length≤sizeLine) (W i m ys τ H'))
    eC eX Yg Yt Ye T2 (λhm=>?_) (λ{H'} hn=>fY Qb hn λp hp=>nfp p (by rwa[Wz]at hp)) (λ{H' b} hb hn=>?_) vF mG (λb hb=>?_) zD.1 v5 z5 sr λmD its' k' τ' H' s' I' HD' d' v' z' fin=>?_
   ·rw [eP,eW,eA,eE] at res
    exact res
   ·have:=(vk D hm).2.2.2.2.2 (D,_) xT
    exact this rfl
   ·obtain ⟨f0,f1,f3,f4,f5,f6⟩:=vk b hb
    exact⟨hn,f1,f3,f4,f5,λp hp=>f6 p ((Ql.mp hp).elim (λz=>YF z) λz=>WK (WK (by rwa[Wz]at z)))⟩
   ·rcases Qh.mp hb with z | z
    ·rw[z];exact zD.2.1
    ·exact(vk b z).1
   ·obtain ⟨m',hm,w'⟩:=fin
    obtain⟨kt,kn⟩:=keepT I'
    exact⟨⟨wI⟩,m',hm,i+1,τ',H',mD,its',k',I'.pins_of Ha,kt,λb hb=>(xC hb).elim (λe=>e▸HD') (kn b),d',v',z',w'⟩
 exact codeAny_compStart_list IH (BO (WH h0 λb _ o e=>k1 b o Ej) IH)
def pe_lc2(B:YA ix)(hc:X.calm=true)(hi:CK)(uI:∀C a5 ex s H,UL g1)(aq:∀C a5 ex s H,PI yS dr bW iU)(hg:∀C a5 ex s H,PG yS dr g)(ht:∀C a5 ex s H,YS tc)(he:∀C a5 ex s H,UM elt te)(hs:∀x,foldedSetIterable iter X.env x=pure x:=by intro _;rfl)(cv:∀C x,foldedSetIterable bW P9 x=pure x:=by intro _ _;rfl):Z9 (.ListComp elt [⟨tg,iter,[],0⟩,⟨dr,bW,ifs,0⟩] sc pos) (tLC2 ix wi g1 iU g tc te):=by
 intro a5 s σ H Q I h
 rw[eval_ListComp]
 refine wpAny_comprehension_free (use:=none) rfl hs LQ B.kind B.names (thn SF λv s1 h1=>thn h1 λitv s2 h2=>?_)
 obtain⟨it,fp,tn,J,H2,e,I2,T,br,f2,q⟩:=h2
 subst e
 refine lc2_block (RR:=λaf C=>compPost Hm X.A X.xe none TK af C) B hc (uI · a5) (aq · a5) cv (hg · a5) (ht · a5) (he · a5) I2 T br f2 q ?_
 intro D C m ys H' s' I' q' hn hC ad
 refine⟨m,hn,λh' bZ=>⟨Th,_,YH bZ,rfl,q'⟩⟩
end
end L2
end
section
namespace RawD
open PySem PyProof.Rows PySem.W
def At(h:Np)(a:Nc)(es:Array DictEntry)(ep:Nat):Prop:=∃o,h.get? a=some o∧o.ExactDict∧o.data=.dict es ep
def At.typeIs{s:Nj}{a:Nc}{es:Array DictEntry}{ep:Nat}(x:At s.heap a es ep):s.TypeIs RV "dict" := let⟨o,e,c,_⟩:=x;⟨o,e,c.1⟩
def At.keep{h g:Np}{a:Nc}{es:Array DictEntry}{ep:Nat}(x:At h a es ep)(k:∀o,h.get? a=some o→g.get? a=some o):At g a es ep:=let⟨o,e,r⟩:=x;⟨o,k _ e,r⟩
section
variable{prog:Nk}{w:Nn}{A:Nq}{E:Nd}{s:Nj}{d:Nc}{es:Array DictEntry}{ep:Nat}
def iter{Q:Nd}(nS:(d==sysModules)=false)(m:Mp ep)(q:Q Hu {s with heap:=s.heap.push {cls:=.type "dict_keyiterator",data:=.fields #[El,ON,.int es.size 0,S8 ep 0]}}):ZI (OF El) Q E s:=by
 obtain⟨o,ho,hc,hd⟩:=id m
 refine wpAny_pyIter_slot m.typeIs F.slot_dict_iter (wpAny_call_entry F.slot_dict_iter m.typeIs F.entry_dict_iter ?_ (F.args_dict_iter_1 _))
 unfold Builtin.«dict.__iter__»
 refine wpAny_bind ?_
 unfold Builtin.Dict.dictSlotNone
 refine wpAny_bind (wpAny_notOrdered_dict m.typeIs (show ZZ _ (pure (xU d)) _ _ s from wpAny_pure ?_))
 show ZZ _ (Builtin.Dict.showsAll d >>= _) _ _ s
 unfold Builtin.Dict.showsAll
 rw[if_neg (Hl nS Zi)]
 refine wpAny_bind (Sj (wpAny_bind (wpAny_dictEntries ho hd (SA (wpAny_dictEpoch ho hd ?_)))))
 refine wpAny_bind (wpAny_newObj_type (Sj ⟨_,rfl, "dict_keyiterator",_,⟨_,Ta,rfl⟩,Ug.lookup,?_⟩))
 simpa[rawInt] using q
def item{j:Nc}{i:Nat}{Q:Option Value→Shared→Prop}(st:On)(m:Mp ep)(hi:i<es.size)(hQ:∀g,g.IsKeyIter j d HN es.size ep→Ds g→Q (some es[i].key) {s with heap:=g}):ZI (Ci j) Q E s:=by
 obtain⟨o,ho,hc,hd⟩:=id st
 obtain⟨od,oe,aJ,hV⟩:=id m
 unfold pyNext
 refine wpAny_bind (yY (wpAny_callSpecial?_slot (name:=Str.ofString "__next__") st.typeIs Ug (JM ?_ Ie)))
 refine wpAny_bind (zA (wpAny_bind ?_))
 first | refine wpAny_bind (WU (wpAny_pure ?_)) | refine wpAny_bind (YB (wpAny_pure ?_))
 refine wpAny_bind (DO ?_)
 have j':Builtin.Dict_items.ownsTuple "dict_keyiterator" = false:=by decide
 simp only[j',Jw,if_false]
 show ZZ _ (if(Value.ref d==.none)=true then _ else _) _ _ s
 rw[if_neg (show ¬((Value.ref d==.none)=true) from Zi)]
 refine wpAny_bind (zA (M3 ?_))
 rw[if_neg Ha]
 refine wpAny_bind (zA (Dt ?_))
 rw[if_neg Ha]
 refine wpAny_pure ?_
 simp only[show ¬((i:Int)<0) from by lia,if_false,Wy,Ky hi]
 refine wpAny_bind ?_
 first | refine wpAny_bind (WU (wpAny_pure ?_)) | refine wpAny_bind (YB (wpAny_pure ?_))
 refine wpAny_bind (wpAny_isOneOf_keyiter st.typeIs ?_)
 show ZZ _ (setField AR 1 (IB ((i:Int)+1)) >>= _) _ _ s
 refine wpAny_bind (J1 Ha ?_)
 have aa:(s.heap.update j (Obj.mapFields (·.setIfInBounds 1 (IB ((i:Int)+1))))).IsKeyIter j d HN es.size ep :=
  ⟨_,ED,(Obj.cls_mapFields ..).trans hc,by rw[Xi hd];simp[rawInt]⟩
 refine wpAny_bind (wpAny_holding (wpAny_bind (wpAny_isOneOf_keyiter (s:={s with heap:=s.heap.update j (Obj.mapFields (·.setIfInBounds 1 (IB ((i:Int)+1))))}) aa.typeIs ?_)))
 show ZZ _ (pure es[i].key) _ _ _
 exact wpAny_pure (wpAny_pure ⟨_,rfl,Sj (hQ _ aa (Xa ..))⟩)
def done{j:Nc}{i:Nat}{Q:Option Value→Shared→Prop}(hh:A.handled=none)(st:On)(m:Mp ep)(hi:es.size≤i)(hQ:∀g,DL g→Q none {s with heap:=g}):ZI (Ci j) Q E s:=by
 obtain⟨o,ho,hc,hd⟩:=id st
 obtain⟨od,oe,aJ,hV⟩:=id m
 unfold pyNext
 refine wpAny_bind (yY (wpAny_callSpecial?_slot (name:=Str.ofString "__next__") st.typeIs Ug (JM ?_ Ie)))
 refine wpAny_bind (zA (wpAny_bind ?_))
 first | refine wpAny_bind (WU (wpAny_pure ?_)) | refine wpAny_bind (YB (wpAny_pure ?_))
 refine wpAny_bind (DO ?_)
 have j':Builtin.Dict_items.ownsTuple "dict_keyiterator" = false:=by decide
 simp only[j',Jw,if_false]
 show ZZ _ (if(Value.ref d==.none)=true then _ else _) _ _ s
 rw[if_neg (show ¬((Value.ref d==.none)=true) from Zi)]
 refine wpAny_bind (zA (M3 ?_))
 rw[if_neg Ha]
 refine wpAny_bind (zA (Dt ?_))
 rw[if_neg Ha]
 refine wpAny_pure ?_
 simp only[show ¬((i:Int)<0) from by lia,if_false,Wy,Array.getElem?_eq_none hi]
 refine wpAny_bind ?_
 first | refine wpAny_bind (WU (wpAny_pure ?_)) | refine wpAny_bind (YB (wpAny_pure ?_))
 show ZZ _ (setField AR 0 .none >>= _) _ _ s
 refine wpAny_bind (J1 Ha ?_)
 show ZZ _ (newExc (.type "StopIteration") [] >>= _) _ _ _
 refine wpAny_bind ?_
 simp only[newExc,newTuple]
 refine wpAny_bind (wpAny_newObj_type (wpAny_bind (m:=firstArgMember _ _) (wpAny_of_eq (a:=Value.none) (by first | rfl | (simp only[firstArgMember];rfl)) (wpAny_newObj_type ?_ (by size_fits)))) (by size_fits))
 simp only[raiseNew]
 refine wpAny_bind (wpAny_handled ?_)
 first | rw[show A.in1.handled=none from hh] | rw[hh]
 refine wpAny_bind (Sj (wpAny_throw ?_))
 refine wpAny_bind (wpAny_isInstance (T := "StopIteration") (b:=true) ⟨_,Ta,rfl⟩ isSubtype_stop ?_)
 exact wpAny_pure (hQ _ (((Xa ..).extBut.push _).push _))
theorem src(nS:(d==sysModules)=false):KdlSrc prog w "dict" d d es.size (λi v=>∃e,es[i]?=some e∧v=e.key) (λh=>At h d es ep) where
 type:=λ_ m=>m.typeIs
 there:=λ_ m=>let⟨_,e,_⟩:=m;⟨LP,LP⟩
 keep:=λ_ _ m k=>m.keep λo e=>k d HW o e
 notList:=by decide
 notTuple:=by decide
 hint:=λ_ _ _ _ m q=>kdl_hint_dict m.typeIs q
 iter:=λA s hh m=>by
  have lt:d<s.heap.objs.size:=let⟨_,e,_⟩:=m;Qu e
  refine⟨_,λi h=>h.IsKeyIter s.heap.objs.size d i es.size ep∧At h d es ep,λ_ _ q=>iter nS m q,?_,⟨_,Ta,rfl,rfl⟩,m.keep λo e=>WN e⟩
  exact
   {sub:=fun b hb=>by simp at hb;simp [hb]
    frame:=λi h g st k=>⟨st.1.at λo e=>k _ Ha o e,st.2.keep λo e=>k d Ha o e⟩
    item:=λi s' Q E hi st hQ=>item st.1 st.2 hi λg a b=>hQ _ g s'.toks ⟨_,Ky hi,rfl⟩ ⟨a,st.2.keep λo e=>(b.2 d OW).trans e⟩ λc o hc e=>(b.2 c (λz=>hc (by simp[z]))).trans e
    done:=λs' Q E st hQ=>done hh st.1 st.2 Hx λg a=>hQ g s'.toks λc o hc e=>a c o (λz=>hc (by simp[z])) e
    self:=λ_ _ _ _ st q=>wpAny_pyIter_keyiter st.1 q}
end
end RawD
namespace L2
open PySem PySem.Spec PyProof.Rows Tm
def kP(q:Str×Str):List Key:=[OC,Sum.inr q.2]
abbrev zbu(H:Hp):List Addr→List (Str×Str)→Prop:=Paired λb r=>H b=some (.tup [xw,xx])
section
variable{X:Cx}
def zen{α β:Type}{R:α→β→Prop}{as cn:List α}(p:cn.Perm as):∀{bs:List β},J3 as bs→∃my,my.Perm bs∧J3 cn my:=by
 induction p with
 |nil=>intro bs r;cases r;exact⟨[],.nil,.nil⟩
 | cons x q ih =>
  intro bs r
  cases r with
  |cons r1 r2 =>
   obtain⟨zs,h1,h2⟩:=ih r2
   exact⟨_::zs,h1.cons _,Oh r1 h2⟩
 | swap x y l =>
  intro bs r
  cases r with
  |cons r1 r2 =>
   cases r2 with
   |cons r3 r4=>exact⟨_,List.Perm.swap ..,wB⟩
 |trans _ _ ih1 ih2 =>
  intro bs r
  obtain⟨zs,h1,h2⟩:=ih2 r
  obtain⟨jA,h3,h4⟩:=ih1 h2
  exact⟨jA,h3.trans h1,h4⟩
def pairs_mem{H:Hp}{as:No}{qs:Nu}(r:zbu H as qs){a:Nc}(ha:a∈as):∃r:Str×Str,H a=some (.tup [xw,xx]):=by
 induction r with
 |nil=>cases ha
 |cons h t ih =>
  rcases Qh.mp ha with zz | zz
  ·subst zz;exact⟨_,h⟩
  ·exact ih zz
def zhc(hc:X.calm=true):Y2 (.builtin "sorted") (fun xs H Q=>Ex3 fun (d:Nc) (kvs:S1 (List Key×V)) (qs:Nu)=>Aj4 (xs=[El]) (H d=some TX) (kvs.map (·.1)=qs.map kP) (∀ (l:Nc) (as:No) (ws:Nu),H l=none→ws.Perm qs→zbu H as ws→Q Sy (ZX l Rz))):=by
 intro a5 s σ H xs us Q I r h
 obtain⟨d,kvs,qs,rfl,hq,ek,q⟩:=h
 obtain⟨u,rfl,rx⟩:=vals1 r
 cases rx
 obtain⟨z,lo,ts,rk,o,es,ep,e1,e2,e3,e4,e5⟩:=(show QJ H s.heap d TX from I.hok d _ hq)
 have ll:RawD.At s.heap d es ep:=⟨o,e1,e2,e3⟩
 have ae:kvs.length=ts.length:=Zy rk
 have aH:es.size=ts.length:=by rw[←Wr,e4,Qa]
 have jj:zbu H (ts.map λt=>t.2.1) qs:=by
  clear e4 e5 aH ae ll z q hq
  induction rk generalizing qs with
  |nil =>
   cases qs with
   |nil=>exact .nil
   |cons a b=>cases ek
  | @cons p t ps ts' h1 t1 ih =>
   cases qs with
   |nil=>cases ek
   |cons a b =>
    rw[Qm,Qm]at ek
    injection ek with k1 k2
    refine .cons ?_ (ih _ k2)
    have:=h1.2.1
    rw[k1]at this
    exact this
 have nC:∀af:Array Value,ItemsOf (λi v=>∃e,es[i]?=some e∧v=e.key) af es.size→af.toList=(ts.map λt=>t.2.1).map Value.ref:=λaf hi=>by
  apply List.ext_getElem?
  intro i
  rw[Qo,Qo]
  by_cases ad:i<es.size
  ·have be:i < af.size:=by rw [hi.1];exact ad
   have a1:af[i]?=some af[i]:=Ky be
   obtain⟨e,h1,h2⟩:=hi.2 i _ a1
   rw[Uk,a1,h2]
   have h3:es.toList[i]?=some e:=by rw[Uk];exact h1
   rw[e4,Qo]at h3
   cases ht:ts[i]? with
   |none=>rw[ht]at h3;cases h3
   |some t =>
    rw[ht]at h3
    have h4:entryOfKey (CY Td) t=e:=Qn h3
    rw[←h4];rfl
  ·have a1:af.toList[i]?=none:=by rw [Uk];exact Array.getElem?_eq_none (by rw [hi.1];lia)
   have a2:ts[i]?=none:=Kd HI
   rw[a1,a2];rfl
 have hvr:∀as:List Addr,Vals EK (as.map Value.ref):=λas=>by
  induction as with
  |nil=>exact .nil
  |cons a r ih=>exact .cons rfl ih
 refine zfc (R:=λa7 ws=>a7.length<64→ws.Pairwise λx y=>(Fm strO).kle (Fp x) (Fp y)) (G:=λa7=>a7=(ts.map λt=>t.2.1).map Value.ref) (λE' R hR=>zgz (RawD.src lo) (show X.A.in1.handled=none from I.ok.hd hc) ll HI λg tk af k le hi=>hR g tk _ k le (nC af hi))
  (λa7 e=>by rw[e,Qa,Qa];exact ze9 ‹_› ‹_›) (λa7 e A' E' s' _ k=>?_) λa7 ws l g tk e r p1 p2 le k he=>?_
 ·have all:∀ v∈a7,∃ x y t,Fn v x (.str y t):=fun v hv=>by
   rw[e]at hv
   obtain⟨a,ha,rfl⟩:=Qf.mp hv
   obtain⟨rr,bj⟩:∃r:Str×Str,H a=some (.tup [xw,xx]):=pairs_mem jj ha
   obtain⟨q',⟨t,rfl⟩,T⟩:=zh4 I bj
   exact⟨_,_,t,T⟩
  refine zeu k (λv hv=>let⟨x,y,t,T⟩:=all v hv;⟨x,_,T⟩) λv hv u hu x p q T T'=>.inr ?_
  obtain⟨_,y,t,T1⟩:=all v hv
  obtain⟨_,y',t',T2⟩:=all u hu
  exact⟨y,t,y',t',(zfz T T1).2,(zfz T' T2).2⟩
 ·subst r
  obtain⟨as,rfl,p3⟩:∃as:List Addr,ws=as.map Value.ref∧as.Perm (ts.map λt=>t.2.1):=by
   have key:∀{ws:Nl} {bs:No},ws.Perm (bs.map Value.ref)→∃as:List Addr,ws=as.map Value.ref∧as.Perm bs:=λ{ws bs} pm=>by
    have a2:∃as:List Addr,ws=as.map Value.ref:=by
     have a1:∀v∈ws,∃a,v=Value.ref a:=λv hv=>by
      obtain⟨a,_,e⟩:=Qf.mp yX
      exact⟨a,e.symm⟩
     clear pm
     induction ws with
     |nil=>exact⟨[],rfl⟩
     |cons v r ih =>
      obtain⟨as,e⟩:=ih λv hv=>a1 v xR
      obtain⟨x,e2⟩:=a1 v Qb
      exact⟨x::as,by rw[e,e2];rfl⟩
    obtain⟨as,rfl⟩:=a2
    refine⟨as,rfl,?_⟩
    have:=pm.map (λv=>match v with | .ref a=>a | _=>0)
    rw[Zj,Zj]at this
    simpa[Function.comp_def] using this
   exact key p1
  obtain⟨qs',q1,q2⟩:=zen p3 jj
  refine⟨Sy,_,I.laid (t':=tk) k le (show QJ _ g _ (Hr _) from⟨?_,as.map Value.ref,e,hvr as,he⟩),rfl,q l as qs' (Iw le) q1 q2⟩
  rw[Qa,p3.length_eq,Qa];exact ze9 ‹_› ‹_›
end
end L2
end
section
set_option Elab.async false
set_option linter.all false
namespace L2
open PySem PySem.Spec PyProof.Rows
def fsk{N P:Nh}{sc:Scope}(a:sc.kind=.function:=by rfl)(b:sc.isCoroutine=false:=by rfl)(c:sc.isGenerator=false:=by rfl)(d:N.Nodup:=by decide +kernel)(e:N.take P.length=P:=by rfl)(f:∀x∈P,sc.names.lookup x=some .local∨sc.names.lookup x=some .cell:=by decide +kernel)(g:∀y∈sc.names,y.2≠.free:=by decide +kernel):zaj N P sc:=⟨a,b,c,d,e,f,g⟩
section
variable{X:Cx}
def zan(i:Nat){x:Str}{e:Expr}{te:TE}{pos aK:Pos}(hN:X.N.Nodup)(he:Co)(hi:X.N[i]?=some x:=by rfl)(hx:Y1 x:=by exact Or.inl rfl)(hs:swapsWith e (Hs Pj) pos.line X.env=pure false:=by rfl)(hf:X.fn x=true∨X.env.scope.names.lookup x=some .local:=by first | exact .inl rfl | exact .inr rfl | assumption) :
  PS X (.Assign [Pj] e pos) (tAsg te OP):=zgg hN hi hx he hs hf
def zam(i:Nat){x:Str}{pos:Pos}(hN:X.N.Nodup)(hi:X.N[i]?=some x:=by rfl)(hx:Y1 x:=by exact Or.inl rfl)(hf:X.fn x=true∨X.env.scope.names.lookup x=some .local:=by first | exact .inl rfl | exact .inr rfl | assumption):Fg OP:=pg_name hN hi hx hf
def zbo{o i:Expr}{td ty:TE}{pos:Pos}(hu:X.A.units+1<cLine)(ho:CZ)(hi:Ot)(hs:NoSl i:=by exact λ_ _=>rfl):Z9 zO (tDGet td ty):=pe_dget hu ho hi hs
end
end L2
namespace L2
open PySem PySem.Spec PyProof.Rows
def Fun.okL{P:Nk}{w:Nn}{K:Na}{mg:Ng}{base:Np}{x qual:Str}{st:Stmt}{f:Nc}{fd:Nw}{N ps:Nh}{k:Nat}{sp:Sp}(F:Ou)(S:Mg LF)(cQ:∀ (cdv:Value) (A:Nq) (outer:List Env) (s:Nj) (H:Hp) (vs:List V) (Q:VK) (E:XK),U5 CG→sp vs H Q E →
   ∃t,PSs (JZ E).nox (zct st) t∧t {nx:=λ_ H'=>Q .non H',rt:=Q} OR H)(len:∀vs H Q E,sp vs H Q E→vs.length=ps.length:=by intro _ _ _ _ h;cases h;subst_vars;rfl):ZB (k+1) f fd ps sp:=F.ok S len cQ
end L2
end
section
namespace L2
open PySem PySem.Spec PyProof.Rows
def chkB(sc:Scope)(M:Nh)(ix:Nv)(N:Nh)(S:Scope):Bool :=
 decide (sc.kind=.function)&&sc.names.all (λy=>decide (y.2≠.cell))&&sc.names.all (λy=>!decide (y.2=.local)||decide (sc.names.lookup y.1=some .local))&&sc.names.all (λy=>!decide (y.2=.free)||decide (S.names.lookup y.1=some .cell)||decide (S.names.lookup y.1=some .free)) &&
 decide (ix.length=M.length)&&decide M.Nodup&&(M.zip ix).all (λp=>match p.2 with
  |none=>true
  |some i=>decide (N[i]?=some p.1)&&decide (sc.names.lookup p.1=some .free))
def mkB{X:Cx}{sc S:Scope}{M N ps:Nh}{ix:Nv}(F:Mg S)(hN:X.N=N:=by exact rfl)(hS:X.env.scope=S:=by exact rfl)(h:chkB sc M ix N S=true:=by decide +kernel):YA ix:=by
 subst hN hS
 unfold chkB at h
 simp only[Jk,decide_eq_true_eq,Uf,Jr,Jd,decide_eq_false_iff_not]at h
 obtain⟨⟨⟨⟨⟨⟨h1,h2⟩,h3⟩,h4⟩,h5⟩,h6⟩,h7⟩:=h
 refine⟨h1,h2,λy hy e=>(h3 y hy).resolve_left λz=>z e,λy hy e=>?_,h5,h6,λj i x e1 e2=>?_⟩
 ·rcases h4 y hy with (z | z) | z
  ·exact absurd e z
  ·exact .inl z
  ·exact .inr z
 ·have:=h7 (x,yQ) (Yd (i:=j) (by rw [List.getElem?_zip_eq_some];exact ⟨e1,e2⟩))
  simpa using this
end L2
end
section
namespace K21
open PySem L2
abbrev qR:Str := "_law_rounds_here"
abbrev qP:Str := "_law_pot_here"
abbrev qM:Str := "_law_many"
abbrev qO:Str := "_law_other"
abbrev qS:Str := "_law_script"
abbrev qN:Str := "_law_names_here"
def top(i:Nat):Stmt:=PySem.Challenge.pw_fivehues_k51_whole_told_exchanges.main.body.getD i (.Pass ⟨0,0,0,0⟩)
def eOf:Stmt→Expr
 |.Assign _ e _=>e
 |.Return (some e) _=>e
 |.For _ e _ _ _=>e
 |.While e _ _ _=>e
 |_=>.Name "" ⟨0,0,0,0⟩
def aOf(i:Nat):Expr→Expr
 |.Call _ a _ _=>a.getD i (.Name "" ⟨0,0,0,0⟩)
 |.BinOp l _ r _=>[l,r].getD i l
 |.BoolOp _ a _=>a.getD i (.Name "" ⟨0,0,0,0⟩)
 |.Compare _ _ a _=>a.getD i (.Name "" ⟨0,0,0,0⟩)
 |e=>e
def scOf:Expr→Scope
 |.ListComp _ _ sc _=>sc
 |.DictComp _ _ _ sc _=>sc
 |_=>{kind:=.function,names:=[],isGenerator:=false,isCoroutine:=false}
abbrev sAt(s:Stmt)(i:Nat):Stmt:=(zct s).getD i (.Pass ⟨0,0,0,0⟩)
def Pot(H:Hp)(p:Nc)(b m:Int):Prop:=H p=some (.lst [HM b,HM m])∧0≤b∧0≤m∧m<2147483648
inductive IspTake(vs:List V)(H:Hp)(Q:VK):Prop
 |mk (p:Nc) (b m n:Int) (h0:vs=[.ref p,.int n]) (h1:Pot H p b m) (h2:0<n) (h3:n<1073741824) (h4:∀(d b' m':Int) (H':Hp),0≤d→d<n→Pot H' p b' m'→(∀c o,H c=some o→c≠p→H' c=some o)→Q (.int d) H'):IspTake vs H Q
def zf9:Sp:=λvs H Q _=>IspTake vs H Q
section
variable{P:Nk}{w:Nn}{K:Na}{mg:Ng}{base:Np}
end
end K21
end
section
namespace Wb
section
variable{α:Type}[DecidableEq α]
def nxt(zs:List α)(x:α):α:=zs.getD ((zs.idxOf x+1)%zs.length) x
def ins(zs:List α):Option α→α→List α
 |none,n=>n::zs
 |some c,n=>zs.take (zs.idxOf c+1)++n::zs.drop (zs.idxOf c+1)
abbrev Rs(α:Type):=List (α×List α)
def row(rs:Rs α)(x:α):List α:=((rs.find? λp=>decide (p.1=x)).map (·.2)).getD []
def za6(rs:Rs α)(x:α)(r:List α):Rs α:=rs.map λp=>if p.1=x then(p.1,r) else p
def stp(rs:Rs α)(s:α×α):α×α:=(s.2,nxt (Bo s.2) s.1)
end
end Wb
namespace K21
open PySem L2 Wb
def Keep(xs:No)(H H':Hp):Prop:=∀c o,H c=some o→c∉xs→H' c=some o
def Keep.refl:W9 H:=λ_ _ e _=>e
def Keep.trans(a:W9 H1)(b:Keep xs H1 H2):W9 H2:=λc o e n=>b c o (a c o e n) n
def Keep.sub(a:W9 H1)(h:∀x∈xs,x∈ys):Keep ys H H1:=λc o e n=>a c o e λz=>n (h c z)
def Keep.new(h:H l=none):W9 (ZX l o):=λc u e _=>by rw[zaf (XN h)];exact e
def Keep.wr(h:l∈xs):W9 (ZX l o):=λc u e n=>by rw[zaf (λz=>n (Hl z h))];exact e
abbrev Ent:=Str×List Str×Addr
abbrev eWV(es:List Ent):List (Key×V):=es.map λe=>Rr
structure RAt(H:Hp)(d:Nc)(es:List Ent):Prop where
 dc:H d=some Ra
 ro:∀e∈es,H e.2.2=some Ru
 nd:(es.map (·.1)).Nodup
def rsOf(es:List Ent):Rs Str:=es.map λe=>(e.1,e.2.1)
def RAt.keep(r:Vc es)(k:W9 H')(hd:d∉xs)(h:∀e∈es,e.2.2∉xs):RAt H' d es:=⟨zi,λe he=>k _ _ EL (h e he),r.nd⟩
def zb7{es:List Ent}(nd:(es.map (·.1)).Nodup){e:Ent}(h:e∈es):valV (es.map fun e=>Rr) Sf=some Tt:=by
 induction es with
 |nil=>cases h
 | cons a t ih =>
  rw[Qm,Qt]at nd
  rw[Qm]
  rcases Qh.mp h with z | z
  ·subst z;exact zcc rfl
  ·rw [zbl]
   ·exact ih nd.2 z
   ·intro q
    exact nd.1 (by rw[Wc q];exact Qf.mpr ⟨e,z,rfl⟩)
def val_out{es:List Ent}{x:Str}(h:x∉es.map (·.1)):valV (es.map λe=>Rr) EA=none:=by
 induction es with
 |nil=>rfl
 |cons a t ih =>
  rw[Qm,Qh,not_or]at h
  rw[Qm,zbl]
  ·exact ih h.2
  ·intro q;exact h.1 (Wc q).symm
def zay(nd:(es.map (·.1)).Nodup)(h:e∈es):ZK e.1=e.2.1:=by
 unfold row rsOf
 induction es with
 |nil=>cases h
 | cons a t ih =>
  rw[Qm,Qt]at nd
  rw[Qm]
  rcases Qh.mp h with z | z
  ·subst z;rw[Ub Ha];rfl
  ·rw [Uc]
   ·exact ih nd.2 z
   ·intro q
    exact nd.1 (by rw[of_decide_eq_true q];exact Qf.mpr ⟨e,z,rfl⟩)
def setE(es:List Ent)(x:Str)(r:Nh)(a:Nc):List Ent:=es.map λe=>if e.1=x then(e.1,r,a) else e
def zc6(es:List Ent)(x:Str)(r:Nh)(a:Nc):rsOf (U1 x r a)=za6 Lb x r:=by
 unfold rsOf setE za6
 rw[Zj,Zj]
 refine Yc λe _=>?_
 show(λe:Ent=>(e.1,e.2.1)) (if e.1=x then(e.1,r,a) else e)=if e.1=x then(e.1,r) else(e.1,e.2.1)
 by_cases h:e.1=x
 ·rw[if_pos h,if_pos h]
 ·rw[if_neg h,if_neg h]
def put_setE(h:x∈es.map (·.1)):Q9 RV=(U1 x r a).map λe=>Rr:=by
 unfold putK setE
 rw[if_pos]
 ·rw [Zj,Zj]
  refine Yc λe _=>?_
  show(if(Sum.inr e.1:Key)=Sum.inr x then((Sum.inr e.1:Key),Le a) else(Sf,O6))=(λe:Ent=>Rr) (if e.1=x then(e.1,r,a) else e)
  by_cases q:e.1=x
  ·rw[if_pos (by rw[q]),if_pos q]
  ·rw[if_neg (λz=>q (Wc z)),if_neg q]
 ·obtain ⟨e,he,rfl⟩:=Qf.mp h
  exact Yn.mpr ⟨_,La ⟨e,he,rfl⟩,Ha⟩
def put_new{es:List Ent}{x:Str}{r:Nh}{a:Nc}(h:x∉es.map (·.1)):Q9 RV=(es++[(x,r,a)]).map λe=>Rr:=by
 rw[FU (val_out h),Qq]
 rfl
def zca(es:List Ent)(x:Str)(r:Nh)(a:Nc):(U1 x r a).map (·.1)=es.map (·.1):=by
 unfold setE
 rw[Zj]
 refine Yc λe _=>?_
 show(if e.1=x then(e.1,r,a) else e).1=e.1
 split<;>rfl
def cut_to{xs:List V}{k:Nat}(h:k≤xs.length):NN none (some (k:Int))=xs.take k:=by
 unfold cutV
 have e1:QU 0 none=0:=rfl
 have e2:QU xs.length (some (k:Int))=k:=by rw[HT.sIx_nat];lia
 rw[e1,e2];simp
def zi1{xs:List V}{k:Nat}(h:k≤xs.length):NN (some (k:Int)) none=xs.drop k:=by
 unfold cutV
 have e1:QU 0 (some (k:Int))=k:=by rw[HT.sIx_nat];lia
 have e2:QU xs.length none=xs.length:=rfl
 rw[e1,e2,Qs (Rm Xm)]
def idx_lt{zs:Nh}{x:Str}(h:x∈zs):zs.idxOf x<zs.length:=List.idxOf_lt_length_iff.mpr h
def ziu{zs:Nh}{x:Str}(h:x∈zs):(∃ z,(zs.map V.str)[zs.idxOf x]?=some z∧eqV z Ef=true)∧∀ m z,m < zs.idxOf x→(zs.map V.str)[m]?=some z→eqV z Ef=false:=by
 refine⟨⟨Ef,?_,EU x⟩,λm z hm e=>?_⟩
 ·rw[Qo,Qd (idx_lt h),List.getElem_idxOf];rfl
 ·rw [Qo] at e
  have cb:m<zs.length:=Wl hm (idx_lt h)
  rw[Qd cb]at e
  cases e
  show(zs[m]==x)=false
  refine beq_eq_false_iff_ne.mpr λq=>?_
  have az:∀(l:Nh) (j:Nat) (hj:j<l.length),l[j]=x→l.idxOf x≤j:=by
   intro l
   induction l with
   |nil=>intro j hj;simp at hj
   | cons a t ih =>
    intro j hj e
    rw[List.idxOf_cons]
    cases j with
    |zero =>
     have e':a=x:=e
     rw[e'];simp
    | succ i =>
     have:=ih i (He hj) Pb
     by_cases h:a=x
     ·rw[h];simp
     ·have hb:(a == x)=false:=beq_eq_false_iff_ne.mpr h
      rw[hb];simp;assumption
  have:=az zs m cb q
  lia
def zce(zs:Nh):(zs.map V.str).all zdq=true:=by
 rw[Uf];intro v hv;obtain⟨x,_,rfl⟩:=Qf.mp hv;rfl
end K21
end
section
namespace K21
open PySem L2 Wb
def zbt:Option Str→V
 |none=>.non
 |some c=>.str c
section
variable{P:Nk}{w:Nn}{K:Na}{mg:Ng}{base:Np}
end
end K21
end
section
namespace Wb
section
variable{α:Type}[DecidableEq α]
def itr(rs:Rs α)(s:α×α):Nat→α×α
 |0=>s
 |n+1=>stp rs (J8 s n)
def IsSt(rs:Rs α)(s:α×α):Prop:=∃p∈rs,p.1=s.2∧s.1∈p.2
def Clo(rs:Rs α):Prop:=∀s,IsSt rs s→IsSt rs (stp rs s)
def run(rs:Rs α)(s:α×α)(n:Nat):List (α×α):=(Se n).map (J8 s)
def nodup_len{l m:List (α×α)}(nd:l.Nodup)(h:∀x∈l,x∈m):l.length≤m.length:=by
 induction l generalizing m with
 |nil=>exact Zc _
 |cons a t ih =>
  rw[Qt]at nd
  have ha:=h a Qb
  have:=ih (m:=m.erase a) nd.2 λx hx=>(List.mem_erase_of_ne (λe=>nd.1 (by rw[←e];exact hx))).mpr (h x Ca)
  rw[Ym ha]at this
  have hp:0<m.length:=Yl ha
  rw[Qz];lia
end
end Wb
namespace K21
open PySem L2 Wb
section
variable{P:Nk}{w:Nn}{K:Na}{mg:Ng}{base:Np}
def zbu.keep{H H':Hp}{as:No}{qs:Nu}(r:zbu H as qs)(k:∀b x y,H b=some (.tup [x,y])→H' b=some (.tup [x,y])):zbu H' as qs:=by
 induction r with
 |nil=>exact .nil
 |cons h t ih=>exact .cons (k _ _ _ h) ih
end
end K21
end
section
namespace Wb
section
variable{α:Type}[DecidableEq α]
structure Gen(G:Rs α→Prop):Prop where
 clo:∀rs,G rs→Clo rs
 nd:∀rs,G rs→(rs.map (·.1)).Nodup
 sub:∀rs,G rs→∀p∈rs,p.2.Nodup∧∀x∈p.2,x∈rs.map (·.1)
 sy:∀rs,G rs→∀p∈rs,∀x∈p.2,p.1∈Bo x
 nil:G []
 new:∀rs x,G rs→x∉rs.map (·.1)→G (rs++[(x,[])])
 leaf:∀rs x p c,G rs→x∉rs.map (·.1)→p∈rs→(∀y,c=some y→y∈p.2)→(c=none→p.2=[])→G (za6 (za6 (rs++[(x,[])]) p.1 AU) x [p.1])
 tie:∀rs c p n,G rs→p∈rs→c∈p.2→(J8 (c,p.1) n).2≠p.1→(J8 (c,p.1) n).2∉p.2 →
  G (za6 (Mq p.1 (Gm (J8 (c,p.1) n).2)) (J8 (c,p.1) n).2 (ins (Bo (J8 (c,p.1) n).2) (some (J8 (c,p.1) n).1) p.1))
def zb9{l m:List α}(nd:l.Nodup)(h:∀x∈l,x∈m):l.length≤m.length:=by
 induction l generalizing m with
 |nil=>exact Zc _
 |cons a t ih =>
  rw[Qt]at nd
  have ha:=h a Qb
  have:=ih (m:=m.erase a) nd.2 λx hx=>(List.mem_erase_of_ne (λe=>nd.1 (by rw[←e];exact hx))).mpr (h x Ca)
  rw[Ym ha]at this
  have hp:0<m.length:=Yl ha
  rw[Qz];lia
def Gen.rows{G:Rs α→Prop}(g:Gen G){rs:Rs α}(h:G rs):∀p∈rs,p.2.length≤rs.length:=λp hp=>by
 obtain⟨a,b⟩:=g.sub rs h p hp
 have:=zb9 a b
 rwa[Qa]at this
end
end Wb
namespace K21
open PySem L2 Wb
def zgh{H:Hp}{p a:Nc}{b m:Int}{zs:Nh}(h:M4 m)(ha:H a=some EX):a≠p:=za1 ha h.1 (by
 intro z
 have z':zs.map V.str=[HM b,HM m]:=by injection z
 cases zs with
 |nil=>cases z'
 |cons x t=>rw[Qm]at z';injection z' with z1 _;cases z1)
def pot_nd{H:Hp}{p d:Nc}{b m:Int}{kvs:List (Key×V)}(h:M4 m)(hd:H d=some RU):d≠p:=za1 hd h.1 Hg
def Pot.keep{H H':Hp}{p:Nc}{b m:Int}{xs:No}(h:M4 m)(k:W9 H')(hp:p∉xs):Mr b m:=⟨k _ _ h.1 hp,h.2⟩
def zbh{H H':Hp}{p:Nc}(h:∀c o,H c=some o→c≠p→H' c=some o):Keep [p] H H':=λc o e n=>h c o e λz=>n (by rw[z];exact Qc.mpr rfl)
section
variable{P:Nk}{w:Nn}{K:Na}{mg:Ng}{base:Np}
def zdy{x:Str}{zs:Nh}:inV Ef RT=decide (x∈zs):=by
 unfold inV
 rw[Yp,Yn,decide_eq_true_iff]
 constructor
 ·rintro ⟨v,hv,e⟩
  obtain⟨y,hy,rfl⟩:=Qf.mp hv
  have e':y=x:=eq_of_beq e
  rw[←e'];exact hy
 ·intro h
  exact⟨Ef,La ⟨x,h,rfl⟩,EU x⟩
def za7{c:Bool}{A B:Prop}(h:c=false)(b:B):if c=true then A else B:=by rw[h];exact iteF b
def zbf{c:Bool}{A B:Prop}(h:c=true)(a:A):if c=true then A else B:=by rw[h];exact iteT a
def zhm{X:Cx}{K:Na}(hK:X.K=K)(hu:X.A.units<cLine):YK (Gj K):=hK▸zdu hu
end
end K21
end
section
namespace K21
open PySem L2 Wb
def rat_new(R:Vc es)(hx:x∉es.map (·.1))(ha:H a=some y8) :
  RAt (TC d AV) d (es++[(x,r,a)]):=by
 refine⟨by rw[zab,put_new (r:=r) hx],λe he=>?_,?_⟩
 ·have key:∀ {b:Nc} {xs:List V},H b=some Tj→(ZX d (.dK (putK (es.map fun e=>Rr) EA RV))) b=some Tj:=fun {b xs} hb=>by
   rw[zaf (za1 hb R.dc Hg)];exact hb
  rcases Ql.mp he with z | z
  ·exact key (R.ro e z)
  ·rw[Qc.mp z];exact key ha
 ·rw [Qq,Ze]
  refine⟨R.nd,EC ⟨Ha,Zn⟩,λy hy z hz=>?_⟩
  have dU:z=x:=by simpa using hz
  rw[dU]
  exact λe=>hx (e▸hy)
def rat_set(R:Vc es)(hx:x∈es.map (·.1))(ha:H a=some y8) :
  RAt (TC d AV) d (U1 x r a):=by
 refine⟨by rw[zab,put_setE (r:=r) hx],λe he=>?_,by rw[zca];exact R.nd⟩
 have key:∀{b:Nc} {xs:List V},H b=some Tj→(TC d AV) b=some Tj:=λ{b xs} hb=>by
  rw[zaf (za1 hb R.dc Hg)];exact hb
 unfold setE at he
 obtain⟨e0,h0,rfl⟩:=Qf.mp he
 by_cases z:e0.1=x
 ·rw[if_pos z];exact key ha
 ·rw[if_neg z];exact key (R.ro e0 h0)
def ze4(es:List Ent):((eWV es).map λp=>kV p.1)=(es.map (·.1)).map V.str:=by
 rw[Zj,Zj];rfl
section
variable{P:Nk}{w:Nn}{K:Na}{mg:Ng}{base:Np}
end
def zfv(z:Str):Prop:=1≤z.length∧z.length≤8∧∀c∈z.cps.toList,97≤c∧c≤122
def zfq{α β:Type}{f:α→β}{l:List α}(h:(EJ f).Nodup):l.Nodup:=by
 induction l with
 |nil=>exact Zn
 |cons a t ih =>
  rw[Qm,Qt]at h
  exact Qt.mpr ⟨λz=>h.1 (La ⟨a,z,rfl⟩),ih h.2⟩
def zim{α β:Type}{f:α→β}{l:List α}(nd:l.Nodup)(h:∀a∈l,∀b∈l,f a=f b→a=b):(EJ f).Nodup:=by
 induction l with
 |nil=>exact Zn
 |cons a t ih =>
  rw[Qt]at nd
  rw[Qm,Qt]
  refine⟨λz=>?_,ih nd.2 λx hx y hy=>h x Ca y Ei⟩
  obtain⟨b,hb,e⟩:=Qf.mp z
  exact nd.1 (h b LG a Qb e▸hb)
def zdw{β:Type}{f:Nat→β}{n:Nat}(h:∀a,a<n→∀b,b<n→f a=f b→a=b):((Se n).map f).Nodup :=
 zim List.nodup_range λa ha b hb=>h a (Wk.mp ha) b (Wk.mp hb)
section
variable{P:Nk}{w:Nn}{K:Na}{mg:Ng}{base:Np}
end
def zao(k:W9 H')(h:H' l=none)(hx:l∉xs):H l=none:=by
 cases z:H l with
 |none=>rfl
 |some o=>rw[k _ _ z hx]at h;cases h
section
variable{P:Nk}{w:Nn}{K:Na}{mg:Ng}{base:Np}
end
end K21
end
section
namespace K21
open PySem L2 Wb Tm
def leS_anti(a b:Str)(h:leS a b)(g:leS b a):a=b:=by
 have e:a.cps.toList=b.cps.toList:=List.le_antisymm (IO h) (IO g)
 cases a;cases b
 congr 1
 exact Array.toList_inj.mp e
end K21
end
section
namespace K21
open PySem L2 Wb
abbrev sWeb:Stmt:=top 40
abbrev sPlaces:Stmt:=NV 1
structure TAt(H:Hp)(d:Nc)(es:List Ent):Prop where
 dc:H d=some Ra
 ro:∀e∈es,H e.2.2=some (.tup CQ)
 nd:(es.map (·.1)).Nodup
def TAt.keep(r:TAt H d es)(k:W9 H')(hd:d∉xs)(h:∀e∈es,e.2.2∉xs):TAt H' d es:=⟨zi,λe he=>k _ _ EL (h e he),r.nd⟩
structure WAt(H:Hp)(C x dx d:Nc)(es:List Ent):Prop where
 ob:H x=some (.ins C dx [("rounds",El)])
 ta:TAt H d es
def WAt.keep(r:WAt H C x dx d es)(k:W9 H')(hx:x∉xs)(hd:d∉xs)(h:∀e∈es,e.2.2∉xs):Y3 es :=
 ⟨k _ _ r.ob hx,r.ta.keep k hd h⟩
inductive IspPlaces(C:Nc)(vs:List V)(H:Hp)(Q:VK):Prop
 |mk (x dx d:Nc) (es:List Ent) (h0:vs=[.ref x]) (h1:WAt H C x dx d es) (h2:∀l,H l=none→Q (.ref l) (upd H l (.lst ((es.map (·.1)).map V.str)))):IspPlaces C vs H Q
def zh8(C:Nc):Sp:=λvs H Q _=>IspPlaces C vs H Q
def refs_perm(h:ws.Perm EK):∃cn:List Addr,ws=cn.map V.ref∧cn.Perm as:=by
 have key:∀ws:List V,(∀v∈ws,∃a,v=V.ref a)→∃cn:List Addr,ws=cn.map V.ref:=by
  intro ws
  induction ws with
  |nil=>intro _;exact⟨[],rfl⟩
  |cons v t ih =>
   intro hh
   obtain⟨a,rfl⟩:=hh v Qb
   obtain⟨cn,rfl⟩:=ih λv hv=>hh v xR
   exact⟨a::cn,rfl⟩
 obtain⟨cn,rfl⟩:=key ws λv hv=>by
  obtain⟨a,_,rfl⟩:=Qf.mp (h.mem_iff.mp hv)
  exact⟨a,rfl⟩
 refine⟨cn,rfl,?_⟩
 have:=h.map (λv:V=>match v with | .ref a=>a | _=>0)
 rw[Zj,Zj]at this
 have e:∀l:List Addr,l.map ((λv:V=>match v with | .ref a=>a | _=>0)∘V.ref)=l:=λl=>List.map_id l
 rw[e,e]at this
 exact this
section
variable{P:Nk}{w:Nn}{K:Na}{mg:Ng}{base:Np}
def scPlaces:zaj ["self"] ["self"] (zai sPlaces):=fsk
def ok_places(F:QE "places" "Web.places" sPlaces f fd)(cW:Mf C)(nW:NM "rounds")(av:mg "list" = none):ZB 1 f fd ["self"] (zh8 C):=by
 refine F.okL scPlaces Hj
 obtain⟨x,dx,d,es,rfl,wt,k⟩:=h
 have hx:=wt.ob
 have T:=wt.ta
 refine⟨_,zag (zaq (MU HQ av Wn (Rx ya))),?_⟩
 refine⟨wI,x,C,dx,_,wI,hx,cW,nW,rfl,d,wI,.inl T.dc,λl hl=>?_⟩
 rw[ze4]
 exact k l hl
end
def za5:∀{as:List α} {bs:List β},J3 as bs→∀{i:Nat} (hi:i<as.length),∃aq:i<bs.length,R as[i] bs[i]:=by
 intro as bs r
 induction r with
 |nil=>intro i hi;simp at hi
 | cons h t ih =>
  intro i hi
  cases i with
  |zero=>exact⟨Ha,h⟩
  |succ j =>
   obtain⟨a,b⟩:=ih (i:=j) xE
   exact⟨He a,b⟩
section
variable{P:Nk}{w:Nn}{K:Na}{mg:Ng}{base:Np}
end
end K21
end
section
namespace L2
open PySem
def ps_no:KH st (λ_ _ _=>False):=λ_ _ _ _ _ _ h=>h.elim
def pe_tyN(hg:VU x)(hm:X.mg x=none)(hv:bootBuiltins x=some Os)(hn:x ≠ "__name__" := by decide)(gB:RN=false:=by decide):Z9 Ee (tC (.ty T)):=by
 intro a5 s σ H Q I h
 exact Bz hv ⟨.ty T,H,I,rfl,h⟩ hn gB
end L2
namespace K21
open PySem L2 Wb
abbrev zig:Stmt:=top 34
inductive IspIsName(vs:List V)(H:Hp)(Q:VK):Prop
 |mk (z:Str) (h0:vs=[.str z]) (h1:zfv z) (h2:∀H',Keep [] H H'→Q (.bl true) H'):IspIsName vs H Q
def spIsName:Sp:=λvs H Q _=>IspIsName vs H Q
def nd1:(["sign"]:List Str).Nodup:=by decide +kernel
section
variable{P:Nk}{w:Nn}{K:Na}{mg:Ng}{base:Np}
def scIsName:zaj ["thing"] ["thing"] (zai zig):=fsk
def ok_isname(F:QE "is_name" "is_name" zig f fd)(hML:mg "MOST_LETTERS" = some (S8 8 tk))(kD:mg "isinstance" = none)(tL:mg "str" = none)(ae:mg "len" = none)(aR:mg "all" = none):ZB 1 f fd ["thing"] spIsName:=by
 refine F.okL scIsName Hj
 obtain⟨z,rfl,hz,k⟩:=h
 have hu:=zb6 hr
 have ap  := sizeLine_eq
 refine⟨_,zad (Tb (pt_not (pt_val (zal call_isi_str HQ kD PyProof.Rows.boot_isinstance (ZM (Rx (pe_tyN (T := "str") rfl tL PyProof.Rows.boot_str)))))))
  (zag (zaq (pe_and (pe_chain op_le op_le zah (zal call_len_str HQ ae Yi SM) (zgj (v:=.int 8) rfl hML ⟨tk,rfl⟩))
   (pe_one (Fs HQ aR PyProof.Rows.boot_all (zaa (zff (M:=["sign"]) (ix:=[none]) (mkB scIsName) rfl (pi_str R6) (λC a5 ex s H=>UN nd1)
      (λC a5 ex s H=>zcy) (λC a5 ex s H=>pe_chain op_le_str op_le_str pe_str R6 pe_str)) zae)))))),?_⟩
 obtain⟨sX,bK,lG⟩:=hz
 have hz1':1≤z.cps.size:=sX
 have hz2':z.cps.size≤8:=bK
 refine⟨wI,z,rfl,wI,WG ?_⟩
 refine⟨wI,z,rfl,(by show z.cps.size≤sizeLine;lia),_,wI,rfl,wI,zbf (HY (by show(1:Int)≤(z.cps.size:Int);exact zar9 ‹_›)) ?_⟩
 refine⟨_,wI,rfl,wI,zbf (HY (by show(z.cps.size:Int)≤8;lia)) ?_⟩
 have asc:z.cps.all (· < 128)=true:=by
  rw[Array.all_eq_true]
  intro i hi
  have:=lG z.cps[i] (by rw[Array.mem_toList_iff];exact Array.getElem_mem hi)
  exact decide_eq_true HI
 refine⟨wI,z,rfl,asc,λi m ys τ H1=>Aj5 (H1=H) (m=z.cps.size-i) (i≤z.cps.size) (ys=List.replicate i Lx) (Ex1 λx0=>τ=[x0]),⟨_,rfl,rfl,SJ,rfl,none,rfl⟩,?_⟩
 rintro i m ys τ H1 ⟨rfl,rfl,hi,rfl,x0,rfl⟩
 by_cases ad:i<z.cps.size
 ·refine .inr ⟨ad,by rw [Kc];lia,?_⟩
  rintro y H' ⟨rfl,c,hc,rfl⟩
  obtain⟨h1,h2⟩:=lG c (by rw[Array.mem_toList_iff];exact Array.mem_of_getElem? hc)
  have l1:(!decide ((⟨#[c]⟩:Str).cps.toList<("a" : Str).cps.toList))=true:=by
   rw[Jd,decide_eq_false_iff_not,show("a" : Str).cps.toList=[97] from by decide +kernel]
   show ¬[c]<[97]
   intro h
   have:=List.cons_lt_cons_iff.mp h
   rcases this with q | ⟨_,q⟩
   ·exact zar10 ‹_› ‹_›
   ·exact Ww _ q
  have l2:(!decide (("z" : Str).cps.toList<(⟨#[c]⟩:Str).cps.toList))=true:=by
   rw[Jd,decide_eq_false_iff_not,show("z" : Str).cps.toList=[122] from by decide +kernel]
   show ¬[122]<[c]
   intro h
   have:=List.cons_lt_cons_iff.mp h
   rcases this with q | ⟨_,q⟩
   ·exact zar10 ‹_› ‹_›
   ·exact Ww _ q
  refine⟨wI,_,wI,rfl,wI,zbf l1 ?_⟩
  refine⟨_,wI,rfl,_,?_,rfl,rfl,ad,?_,wI⟩
  ·exact zar1 ‹_›
  ·rw[l2,List.replicate_succ']
 ·have e:i=z.cps.size:=by exact zar3 ‹_› ‹_›
  subst e
  refine .inl ⟨Hx,λD hD=>?_⟩
  refine⟨D,MM true,rfl,Hk (by rw[zab,List.map_replicate]),?_⟩
  have:(MM true).all id=true:=by
   rw[Uf];intro b hb;exact(List.mem_replicate.mp hb).2
  rw[this]
  exact k _ (Ho hD)
end
end K21
end
section
namespace L2
open PySem
def lc_at(T:St→Prop)(ys:List V)(hl:ys.length=xs.length)(ha:W0 xs)(hn:xs.length≤sizeLine)(h0:T τ)(hs:∀(i:Nat) (hi:i<xs.length) (aU:i<ys.length),∀τ,T τ→∀k:V→St→Hp→Prop,(∀τ2,T τ2→k ys[i] τ2 H)→g xs[i] τ H λ τ2 H2=>te τ2 H2 λy H4=>k y τ2 H4)(q:∀D,H D=none→Q Th (LS D ys)):rLC g tAll te Q (K7 a) τ H:=by
 refine⟨λi m zs τ H1=>Aj5 (H1=H) (T τ) (m=xs.length-i) (i≤xs.length) (zs=ys.take i),⟨_,rfl,h0,rfl,SJ,rfl⟩,?_⟩
 rintro i m zs τ H1 ⟨rfl,ht,rfl,hi,rfl⟩
 by_cases ad:i<xs.length
 ·refine .inr ⟨⟨xs,xs[i],ha,Qd ad⟩,by rw [Zt];lia,?_⟩
  rintro x H' ⟨rfl,hx⟩
  have gT:=hx xs ha
  rw[Qd ad]at gT
  have qH:xs[i]=x:=Qn gT
  rw[←qH]
  refine hs i ad (by exact zar6 ‹_› ‹_›) τ ht (λy τ2 H4=>∃m',m'<xs.length-i∧Aj5 (H4=H') (T τ2) (m'=xs.length-HN) (i+1≤xs.length) (ys.take i++[y]=ys.take HN)) λ τ2 h2=>?_
  exact⟨_,Hz,rfl,h2,rfl,ad,by rw[Qi (by exact zar6 ‹_› ‹_›:i<ys.length)]⟩
 ·have e:i=xs.length:=by exact zar3 ‹_› ‹_›
  refine .inl ⟨⟨xs,ha,HI⟩,λD hD=>?_⟩
  rw[Qs HI]
  exact q D hD
end L2
namespace K21
open PySem L2 Wb
structure RwAt(H:Hp)(l:Nc)(as:No)(es:List Ent):Prop where
 ls:H l=some Rz
 ts:Paired (λa (e:Ent)=>H a=some (.tup [Rw,Tt])) as es
 ro:∀e∈es,H e.2.2=some Ru
def RwAt.keep(r:RwAt H l as es)(k:Rl H):RwAt H' l as es :=
 ⟨k _ _ r.ls Ha,Paired.imp' (λ_ _ h=>k _ _ h Ha) r.ts,λe he=>k _ _ EL Ha⟩
abbrev zf1:Stmt:=top 35
abbrev zec:Stmt:=top 36
abbrev zif:Stmt:=top 37
inductive zh0(vs:List V)(H:Hp)(Q:VK):Prop
 |mk (l:Nc) (as:No) (es:List Ent) (h0:vs=[.ref l]) (h1:RwAt H l as es) (h2:(∀e∈es,e.2.1.length≤100∧zfv e.1∧∀x∈e.2.1,zfv x)) (h3:∀H',Keep [] H H'→Q .non H'):zh0 vs H Q
def spNoNames:Sp:=λvs H Q _=>zh0 vs H Q
inductive IspTwice(vs:List V)(H:Hp)(Q:VK):Prop
 |mk (l:Nc) (as:No) (es:List Ent) (h0:vs=[.ref l]) (h1:RwAt H l as es) (h2:es.length≤60) (h3:(es.map (·.1)).Nodup) (h4:(∀e∈es,e.2.1.length≤100∧e.2.1.Nodup)) (h5:∀H',Keep [] H H'→Q .non H'):IspTwice vs H Q
def spTwice:Sp:=λvs H Q _=>IspTwice vs H Q
inductive IspOneWay(vs:List V)(H:Hp)(Q:VK):Prop
 |mk (l:Nc) (as:No) (es:List Ent) (h0:vs=[.ref l]) (h1:RwAt H l as es) (h2:(es.map (·.1)).Nodup) (h3:(∀e∈es,e.1∉e.2.1∧∀x∈e.2.1,∃e'∈es,e'.1=x∧e.1∈e'.2.1)) (h4:∀H',Keep [] H H'→Q .non H'):IspOneWay vs H Q
def spOneWay:Sp:=λvs H Q _=>IspOneWay vs H Q
section
variable{P:Nk}{w:Nn}{K:Na}{mg:Ng}{base:Np}
def zey:zaj ["rows", "place", "around", "thing"] ["rows"] (zai zf1):=fsk
def ok_nonames(F:QE "refuse_no_names" "refuse_no_names" zf1 f fd)(FN:QE "is_name" "is_name" zig fn fdn)(bN:W7 fdn ["thing"] [])(mN:mg "is_name" = some (Hi fn))(GN:ZB 1 fn fdn ["thing"] spIsName):ZB 2 f fd ["rows"] spNoNames:=by
 refine F.okL zey Hj
 obtain⟨l,as,es,rfl,R,hok,k⟩:=h
 have hu:=zb6 hr
 have ap  := sizeLine_eq
 refine⟨_,zag (Z4 xV (Cv (zam 1 zey.nd) (TH (Ms zey.nd)))
  (zag (Z4 (IP (Vd (za8 SH) Sc)) (M5 zey.nd)
   (zag (Tb (pt_not (pt_val (zc0 GN hr rfl mN FN.kp bN .nil zdi (QB zae))))))))),?_⟩
 refine⟨wI,l,rfl,⟨_,yc⟩,zbc (xs:=as.map V.ref) (λi σ H'=>Aj2 Pp (Ex3 λx1 x2 x3=>σ=[Es,x1,x2,x3])) ⟨Keep.refl,none,none,none,rfl⟩ (λi σ H' _ hh=>SqL.of (hh.1 _ _ R.ls Ha)) ?_ ?_⟩
 ·rintro i y σ H1 hx ⟨k1,x1,x2,x3,rfl⟩
  have hi:i<as.length:=by
   have:=(LA hx).1
   rwa[Qa]at this
  have ie:y=.ref as[i]:=by
   rw[Qo,Qd hi]at hx
   exact(Qn hx).symm
  subst ie
  obtain⟨aq,fC⟩:=za5 R.ts hi
  obtain⟨aP,cJ,bC⟩:=hok _ PY
  have fT:=k1 _ _ (R.ro _ PY) Ha
  refine⟨as[i],wI,Rk (k1 _ _ fC Ha),rfl,_,wI,_,wI,rfl,?_⟩
  refine⟨wI,EM,λq hq=>?_⟩
  have nq:es[i].2.2≠q:=zac fT hq
  refine⟨wI,q,es[i].2.2,_,wI,rfl,zab,(Ht nq fT),(by rw[Qa];show 1+_≤sizeLine;lia),λq2 cG=>?_⟩
  have k2:Keep [] H (upd (QK q (.lst [.str es[i].1])) q2 (Hr ([V.str es[i].1]++es[i].2.1.map V.str))):=(Lm IQ).trans (Ho cG)
  have jV:(upd (QK q (.lst [.str es[i].1])) q2 (Hr ([V.str es[i].1]++es[i].2.1.map V.str))) q2=some (Hr ((es[i].1::es[i].2.1).map V.str)):=zab
  generalize upd (QK q (.lst [.str es[i].1])) q2 (Hr ([V.str es[i].1]++es[i].2.1.map V.str))=H2 at k2 jV
  refine⟨q2,rfl,⟨_,Hk jV⟩,zbc (xs:=(es[i].1::es[i].2.1).map V.str) (λj σ H'=>Aj2 AW (Ex3 λx1 x2 x3=>σ=[Es,x1,x2,x3])) ⟨Keep.refl,_,_,_,rfl⟩ (λj σ H' _ hh=>SqL.of (yb jV)) ?_ ?_⟩
  ·rintro j y σ H3 hy ⟨k3,y1,y2,y3,rfl⟩
   obtain⟨z,hz,rfl⟩:=Qf.mp (Yd hy)
   have cT:zfv z:=by
    rcases Qh.mp hz with e | e
    ·rw[e];exact cJ
    ·exact bC z e
   refine⟨wI,z,rfl,cT,λH4 k4=>⟨_,rfl,WG ?_⟩⟩
   exact⟨TM k4,_,_,wI⟩
  ·rintro σ H3 ⟨k3,y1,y2,y3,rfl⟩
   exact⟨Tr k3,_,_,wI⟩
 ·rintro σ H1 ⟨k1,x1,x2,x3,rfl⟩
  exact k H1 k1
abbrev csTwA:Scope:=scOf (eOf (sAt zec 0))
abbrev csTwB:Scope:=scOf (aOf 1 (eOf (sAt zec 1)))
def csTwA_k:csTwA.kind=.function:=by rfl
def csTwA_c:∀y∈csTwA.names,y.2≠.cell:=by decide +kernel
def csTwA_n:∀y∈csTwA.names,y.2=.local→csTwA.names.lookup y.1=some .local:=by decide +kernel
def csTwA_f:∀y∈csTwA.names,y.2=.free→(zai zec).names.lookup y.1=some .cell∨(zai zec).names.lookup y.1=some .free:=by decide +kernel
def csTwB_k:csTwB.kind=.function:=by rfl
def csTwB_c:∀y∈csTwB.names,y.2≠.cell:=by decide +kernel
def csTwB_n:∀y∈csTwB.names,y.2=.local→csTwB.names.lookup y.1=some .local:=by decide +kernel
def csTwB_f:∀y∈csTwB.names,y.2=.free→(zai zec).names.lookup y.1=some .cell∨(zai zec).names.lookup y.1=some .free:=by decide +kernel
def ndPA:(["place", "around"]:List Str).Nodup:=by decide +kernel
def scTwice:zaj ["rows", "places", "names"] ["rows"] (zai zec):=fsk
def noB(h1:sc.kind=.function)(h2:∀y∈sc.names,y.2≠.cell)(h3:∀y∈sc.names,y.2=.local→sc.names.lookup y.1=some .local)(h4:∀y∈sc.names,y.2=.free→X.env.scope.names.lookup y.1=some .cell∨X.env.scope.names.lookup y.1=some .free)(h5:n=M.length)(h6:M.Nodup):YA (Gn none):=⟨h1,h2,h3,h4,by rw [Kc,h5],h6,fun j i x _ h=>by
   have:=Yd h
   have:=(List.mem_replicate.mp this).2
   cases this⟩
def pg_tupK(hK:X.K=K)(hc:X.calm=true)(h:FI es t)(hn:(Lo es).length=n:=by rfl)(ar:(Lo es).findIdx? (·.1)=none:=by rfl):NI (gTup K n t):=hK▸zco hc h hn ar
def ok_twice(F:QE "refuse_twice" "refuse_twice" zec f fd)(ae:mg "len" = none)(tO:mg "set" = none):ZB 1 f fd ["rows"] spTwice:=by
 refine F.okL scTwice Hj
 obtain⟨l,as,es,rfl,R,cg,aA,hok,k⟩:=h
 have hu:=zb6 hr
 have ap  := sizeLine_eq
 refine⟨_,zad (ps_lc (i:=1) (M:=["place", "around"]) (ix:=[none,none]) scTwice.nd rfl rfl (noB (n:=2) csTwA_k csTwA_c csTwA_n csTwA_f rfl ndPA) rfl xV
   (λC a5 ex s H=>pg_tupK (K:=K) (n:=2) rfl rfl Aa)
   (λC a5 ex s H=>zcy) RG rfl)
  (zag (Z4 (zas (Vd (za8 SH) (zff (M:=["place", "around"]) (ix:=[none,none]) (noB (n:=2) csTwB_k csTwB_c csTwB_n csTwB_f rfl ndPA) rfl xV
   (λC a5 ex s H=>pg_tupK (K:=K) (n:=2) rfl rfl Aa)
   (λC a5 ex s H=>zcy) (λC a5 ex s H=>pv 1)))) (Ms scTwice.nd)
   (zag (zbn (M6 (zal zjd HQ ae Yi (Rx (zbj (zi9 rfl) HQ tO PyProof.Rows.boot_set zo)))
    (U2 HQ ae Yi Sn) Sq) (zag ps_no) zap)))),?_⟩
 have aW:as.length=es.length:=Zy R.ts
 refine⟨wI,l,rfl,⟨_,yc⟩,lc_at (xs:=as.map V.ref) (λ τ=>∃x0 x1,τ=[x0,x1]) ((es.map (·.1)).map V.str) (by rw[Qa,Qa,Qa,aW]) yc (by rw[Qa];lia) ⟨none,none,rfl⟩ ?_ (λD hD=>?_)⟩
 ·rintro i hi aU τ ⟨x0,x1,rfl⟩ kk hk
  rw[Qa]at hi
  obtain⟨aq,fC⟩:=za5 R.ts hi
  rw[Zk]
  refine⟨as[i],wI,Rk fC,rfl,_,wI,_,wI,rfl,wI,?_⟩
  have e:((es.map (·.1)).map V.str)[i]=V.str es[i].1:=by rw[Zk,Zk]
  rw[e]at hk
  exact hk _ ⟨_,_,rfl⟩
 ·have k1:Keep [] H (ZX D Rt):=Keep.new hD
  have hD1:(ZX D Rt) D=some Rt:=zab
  generalize ZX D Rt=H1 at k1 hD1
  have R1:=R.keep k1
  refine⟨wI,EM,λq hq=>?_⟩
  have k2:Keep [] H1 (QK q (.lst [Th])):=Keep.new hq
  have cG:(QK q (.lst [Th])) q=some (.lst [Th]):=zab
  generalize QK q (.lst [Th])=H2 at k2 cG
  have R2:=R1.keep k2
  refine⟨wI,l,rfl,⟨_,SqL.of R2.ls⟩,lc_at (xs:=as.map V.ref) (λ τ=>∃x0 x1,τ=[x0,x1]) (es.map λe=>V.ref e.2.2) (by rw[Qa,Qa,aW]) (SqL.of R2.ls) (by rw[Qa];lia) ⟨none,none,rfl⟩ ?_ (λD2 dL=>?_)⟩
  ·rintro i hi aU τ ⟨x0,x1,rfl⟩ kk hk
   rw[Qa]at hi
   obtain⟨aq,fC⟩:=za5 R2.ts hi
   rw[Zk]
   refine⟨as[i],wI,Rk fC,rfl,_,wI,_,wI,rfl,wI,?_⟩
   rw[Zk]at hk
   exact hk _ ⟨_,_,rfl⟩
  ·have k3:Keep [] H2 (QA D2 (.lst (es.map fun e=>V.ref e.2.2))):=Keep.new dL
   have cz:(QA D2 (.lst (es.map λe=>V.ref e.2.2))) D2=some (.lst (es.map λe=>V.ref e.2.2)):=zab
   generalize QA D2 (.lst (es.map λe=>V.ref e.2.2))=H3 at k3 cz
   refine⟨q,D2,_,wI,rfl,zB cG,cz,(by rw[Qa];show 1+_≤sizeLine;lia),λq4 hq4=>?_⟩
   have k4:Keep [] H3 (QS q4 (.lst ([Le D]++es.map λe=>V.ref e.2.2))):=Keep.new hq4
   have jU:(QS q4 (.lst ([Le D]++es.map λe=>V.ref e.2.2))) q4=some (.lst ([Le D]++es.map λe=>V.ref e.2.2)):=zab
   generalize QS q4 (.lst ([Le D]++es.map λe=>V.ref e.2.2))=H4 at k4 jU
   have dR:Keep [] H H4:=((Lm k2).trans k3).trans k4
   refine⟨q4,rfl,⟨_,Hk jU⟩,zbc (xs:=[Le D]++es.map λe=>V.ref e.2.2) (λi σ H'=>Aj2 (Rl H4) (Ex2 λx1 x2=>σ=[Es,x1,x2])) ⟨Keep.refl,_,_,rfl⟩ (λi σ H' _ hh=>SqL.of (yb jU)) ?_ ?_⟩
   ·rintro i y σ H5 hy ⟨k5,x1,x2,rfl⟩
    obtain⟨a,zs,rfl,ha,cT,bJ⟩:∃(a:Nc) (zs:Nh),y=V.ref a∧H5 a=some EX∧zs.Nodup∧zs.length≤100:=by
     rcases Ql.mp (Yd hy) with z | z
     ·refine ⟨D,es.map (·.1),CS z,?_,aA,by rw [Qa];exact Zg cg Hf⟩
      exact k5 _ _ (k4 _ _ (zB (E7 hD1)) Ha) Ha
     ·obtain ⟨e,he,rfl⟩:=Qf.mp z
      exact⟨e.2.2,e.2.1,rfl,xc (dR _ _ (R.ro e he) Ha) Ha,(hok e he).2,(hok e he).1⟩
    refine⟨wI,a,zs,rfl,Hk ha,cT,HI,λt ht=>?_⟩
    have sH:a≠t:=zac ha ht
    refine⟨t,zs,rfl,zab,HI,wI,a,wI,SS (by rw[zaf sH];exact ha),_,wI,rfl,wI,za7 (Su (by rw[Qa];lia)) ?_⟩
    exact⟨CA TJ,_,wI⟩
   ·rintro σ H5 ⟨k5,x1,x2,rfl⟩
    exact k H5 (dR.trans k5)
end
end K21
end
section
namespace K21
open PySem L2 Wb
abbrev sLeast:Stmt:=top 39
inductive IspLeast(vs:List V)(H:Hp)(Q:VK):Prop
 |mk (a:Nc) (zs:Nh) (h0:vs=[.ref a]) (h1:H a=some (.lst (zs.map V.str))) (h2:zs.length≤100) (h3:∀(t:Nc) (j:Nat) (H':Hp),j≤zs.length→H' t=some (.tup ((zs.drop j++zs.take j).map V.str))→H t=none→Keep [] H H'→Q (.ref t) H'):IspLeast vs H Q
def spLeast:Sp:=λvs H Q _=>IspLeast vs H Q
def paired_map{α β γ:Type}{R:α→γ→Prop}{f:β→γ}:∀{as:List α} {bs:List β},Paired (λa b=>R a (f b)) as bs→J3 as (bs.map f):=by
 intro as bs r
 induction r with
 |nil=>exact .nil
 |cons h t ih=>exact .cons h ih
section
variable{P:Nk}{w:Nn}{K:Na}{mg:Ng}{base:Np}
def zex:zaj ["rows", "rounds", "one", "around", "other"] ["rows"] (zai zif):=fsk
def ok_oneway{f:Nc}{fd:Nw}(F:QE "refuse_one_way" "refuse_one_way" zif f fd)(aI:mg "dict" = none):ZB 1 f fd ["rows"] spOneWay:=by
 refine F.okL zex Hj
 obtain⟨l,as,es,rfl,R,aA,hok,k⟩:=h
 have hu:=zb6 hr
 have ap  := sizeLine_eq
 refine⟨_,zad (M7 zex.nd (zbj (zhd rfl) HQ aI Ua SM))
  (zag (Z4 xV (Cv (Ms zex.nd) (TH (M5 zex.nd)))
   (zag (Z4 (IP RX) (KB zex.nd)
    (zag (zC (PW.pt (pw_or (Bd Sd Sc Sq) (pw_or1 (NW Sc (pe_dget2 hu Rj Sd SN ⟨rfl,rfl,rfl,rfl⟩) rfl)))) (zag ps_no))))))),?_⟩
 have hps:(es.map λe:Ent=>(e.1,O6)).map (·.1)=es.map (·.1):=by rw[Zj];rfl
 refine⟨wI,l,as,es.map λe=>(e.1,O6),rfl,R.ls,paired_map R.ts,Hl hps aA,λd hd=>?_⟩
 have hpd:((es.map λe:Ent=>(e.1,O6)).map λp=>((Sum.inr p.1:Key),p.2))=eWV es:=by rw[Zj];rfl
 rw[hpd]
 have k1:Keep [] H (ZX d Ra):=Keep.new hd
 have lZ:(ZX d Ra) d=some Ra:=zab
 generalize ZX d Ra=H1 at k1 lZ
 have R1:=R.keep k1
 refine⟨wI,l,rfl,⟨_,SqL.of R1.ls⟩,zbc (xs:=as.map V.ref) (λi σ H'=>Aj2 xW (Ex3 λx2 x3 x4=>σ=[Es,Tf,x2,x3,x4])) ⟨Keep.refl,none,none,none,rfl⟩ (λi σ H' _ hh=>SqL.of (hh.1 _ _ R1.ls Ha)) ?_ ?_⟩
 ·rintro i y σ H2 hx ⟨k2,x2,x3,x4,rfl⟩
  have hi:i<as.length:=by
   have:=(LA hx).1
   rwa[Qa]at this
  have ie:y=.ref as[i]:=by
   rw[Qo,Qd hi]at hx
   exact(Qn hx).symm
  subst ie
  obtain⟨aq,fC⟩:=za5 R1.ts hi
  obtain⟨cJ,bC⟩:=hok _ PY
  have fT:=k2 _ _ (R1.ro _ PY) Ha
  refine⟨as[i],wI,Rk (E7 fC),rfl,_,wI,_,wI,rfl,?_⟩
  refine⟨wI,es[i].2.2,rfl,⟨_,Hk fT⟩,zbc (xs:=es[i].2.1.map V.str) (λj σ H'=>Aj2 AW (Ex1 λx4=>σ=[Es,Tf,Hs (.str es[i].1),Hs (.ref es[i].2.2),x4])) ⟨Keep.refl,_,rfl⟩ (λj σ H' _ hh=>SqL.of (yb fT)) ?_ ?_⟩
  ·rintro j y σ H3 hy ⟨k3,y4,rfl⟩
   obtain⟨z,hz,rfl⟩:=Qf.mp (Yd hy)
   obtain⟨e',bo,rq,ao⟩:=bC z hz
   have az:z≠es[i].1:=λq=>cJ (q▸hz)
   have pE:=k3 _ _ (E7 lZ) Ha
   refine⟨wI,wI,rfl,wI,za7 (decide_eq_false (λq=>az (by injection q))) ?_⟩
   refine⟨wI,wI,d,rfl,.inl ⟨_,RH pE⟩,wI,Lq,λq hq=>?_⟩
   have ndq:d≠q:=zac pE hq
   have uR:(QS q HL) d=some Ra:=by rw[zaf ndq];exact pE
   have lK:(QS q HL) e'.2.2=some (Hr (e'.2.1.map V.str)):=by
    have h3:=k3 _ _ (E7 (R1.ro e' bo)) Ha
    rw[zaf (zy h3 hq)];exact h3
   have dg:=DGet.k (k:=Sum.inr z) uR
   rw[←rq,zb7 aA bo,rq]at dg
   refine⟨_,dg,e'.2.2,wI,SS lK,rfl,xy,wI,?_⟩
   refine za7 (by rw[if_pos rfl,zdy,decide_eq_true ao];rfl) ?_
   exact⟨TM IQ,wI⟩
  ·rintro σ H3 ⟨k3,y4,rfl⟩
   exact⟨Tr k3,_,_,wI⟩
 ·rintro σ H2 ⟨k2,x2,x3,x4,rfl⟩
  exact k H2 (Lm k2)
def scLeast:zaj ["around", "at"] ["around"] (zai sLeast):=fsk
def ok_least(F:QE "from_least" "from_least" sLeast f fd)(ga:mg "min" = none)(jM:mg "tuple" = none):ZB 1 f fd ["around"] spLeast:=by
 refine F.okL scLeast Hj
 obtain⟨a,zs,rfl,ha,hz,k⟩:=h
 have ap  := sizeLine_eq
 refine⟨_,zad (M7 scLeast.nd (pe_ifExp (ze0 R6 (by intro _;rfl)) (Vx R6 (Rx (zal (zja rfl) HQ ga Xu SM))) zah))
  (zag (zaq (zbj zi8 HQ jM PyProof.Rows.boot_tuple (Rx (Vd (JG yd zdh) (JG zdh yd)))))),?_⟩
 have aN:(zs.map V.str).length=zs.length:=Qa ..
 refine⟨wI,_,RH ⟨_,Hk ha,rfl⟩,?_⟩
 by_cases sV:zs=[]
 ·refine za7 (by rw [sV];rfl) ?_
  have h0:0≤zs.length:=Zc _
  refine⟨wI,wI,wI,a,wI,Hk ha,λp1 h1=>?_⟩
  have n1:a≠p1:=zac ha h1
  refine⟨wI,wI,wI,a,wI,Hk (by rw[zaf n1];exact ha),λp2 h2=>?_⟩
  have fH:p1≠p2:=zac (o:=_) zab h2
  refine⟨p1,p2,_,wI,rfl,ye,zab,?_,λp3 h3=>?_⟩
  ·have q1:=Bp (Hs (0:Int)) none
   have q2:=Bp none (Hs (0:Int))
   rw[aN]at q1 q2
   show _+_≤sizeLine
   lia
  have ecut:YN (Hs (0:Int)) none++YN none (Hs (0:Int))=(zs.drop (0:Nat)++zs.take (0:Nat)).map V.str:=by
   show YN (Hs (((0:Nat)):Int)) none++YN none (Hs (((0:Nat)):Int))=_
   rw[zi1 (Hl aN h0),cut_to (Hl aN h0),Qq,Xc,Jn]
  rw[ecut]
  refine⟨p3,wI,.inl ⟨TQ,λt ht=>?_⟩⟩
  have kk:Keep [] H _:=(((Ho h1).trans OX).trans OY).trans (Keep.new (o:=.tup ((zs.drop (0:Nat)++zs.take (0:Nat)).map V.str)) ht)
  exact k t (0:Nat) _ h0 zab (zao (xs:=[]) (((Ho h1).trans OX).trans OY) ht Ha) kk
 ·refine zbf (by cases hh:zs with
   |nil=>exact absurd hh sV
   |cons _ _=>rfl) ?_
  refine⟨wI,RC ha,wI,a,zs,rfl,Hk ha,sV,λz cU _=>?_⟩
  obtain⟨i1,i2⟩:=ziu cU
  have hj:zs.idxOf z≤zs.length:=Wo (idx_lt cU)
  refine⟨a,_,_,wI,rfl,ha,rfl,xy,i1,i2,?_⟩
  refine⟨wI,wI,wI,a,wI,Hk ha,λp1 h1=>?_⟩
  have n1:a≠p1:=zac ha h1
  refine⟨wI,wI,wI,a,wI,Hk (by rw[zaf n1];exact ha),λp2 h2=>?_⟩
  have fH:p1≠p2:=zac (o:=_) zab h2
  refine⟨p1,p2,_,wI,rfl,ye,zab,?_,λp3 h3=>?_⟩
  ·have q1:=Bp (Hs (Tw:Int)) none
   have q2:=Bp none (Hs (Tw:Int))
   rw[aN]at q1 q2
   show _+_≤sizeLine
   lia
  have ecut:YN (Hs (Tw:Int)) none++YN none (Hs (Tw:Int))=(zs.drop Tw++zs.take Tw).map V.str:=by
   rw[zi1 Pq,cut_to Pq,Qq,Xc,Jn]
  rw[ecut]
  refine⟨p3,wI,.inl ⟨TQ,λt ht=>?_⟩⟩
  have kk:Keep [] H _:=(((Ho h1).trans OX).trans OY).trans (Keep.new (o:=.tup ((zs.drop Tw++zs.take Tw).map V.str)) ht)
  exact k t Tw _ hj zab (zao (xs:=[]) (((Ho h1).trans OX).trans OY) ht Ha) kk
end
end K21
end
section
namespace Wb
section lk
variable{β:Type}
def Lk(f:β→β):β→List β→β→Prop
 |s,[],e=>f s=e
 |s,x::t,e=>f s=x∧Mt x t e
def zhr:∀{A:List β} {s:β},Mt s (A++x::B) e↔Mt s A x∧Mt x B e:=by
 intro A
 induction A with
 |nil=>intro s;exact Iff.rfl
 |cons a t ih =>
  intro s
  show f s=a∧Mt a (t++x::B) e↔(f s=a∧Mt a t x)∧Mt x B e
  rw[ih,and_assoc]
def lk_congr:∀{t:List β} {s:β},(∀y,y=s∨y∈t→g y=f y)→Mt s t e→Lk g s t e:=by
 intro t
 induction t with
 |nil=>intro s h k;exact(h s HW).trans k
 |cons a t ih =>
  intro s h k
  refine⟨(h s HW).trans k.1,ih (λy hy=>h y (.inr ?_)) k.2⟩
  rcases hy with z | z
  ·rw[z];exact Qb
  ·exact QZ z
def Cyc(f:β→β)(c:List β):Prop:=∃s t,c=s::t∧Mt s t s
def zc7(h:Cyc f (A++x::B)):Mt x (B++A) x:=by
 obtain⟨s,t,e,k⟩:=h
 cases A with
 |nil =>
  cases e
  rw[Zs];exact k
 |cons a A' =>
  cases e
  obtain⟨k1,k2⟩:=zhr.mp k
  exact zhr.mpr ⟨k2,k1⟩
def ze7(h:∀y∈c,g y=f y)(k:Cyc f c):Cyc g c:=by
 obtain⟨s,t,e,k⟩:=k
 subst e
 exact⟨s,t,rfl,lk_congr (λy hy=>h y Cr) k⟩
end lk
section nx
variable{α:Type}[DecidableEq α]
def zbe{A B:List α}{w:α}(h:w∉A):(B++A++[w]).head?=some (nxt (A++w::B) w):=by
 have hi:(A++w::B).idxOf w=A.length:=by
  rw[List.idxOf_append,if_neg h,List.idxOf_cons_self];lia
 unfold nxt
 rw[hi,Qw,Qz]
 cases B with
 |nil =>
  have e:(A.length+1)%(A.length+(([]:List α).length+1))=0:=by simp
  rw[e]
  cases A with
  |nil=>rfl
  |cons a t=>rfl
 | cons b t =>
  have e:(A.length+1)%(A.length+((b::t).length+1))=A.length+1:=Nat.mod_eq_of_lt (by rw[Qz];lia)
  rw[e]
  have:(A++w::b::t).getD (A.length+1) w=b:=by
   rw[Zf,Kr (by exact Fj _)]
   have:A.length+1-A.length=1:=by lia
   rw[this];rfl
  rw[this];rfl
def zb2{zs:List α}{c:α}(h:c∈zs)(nd:zs.Nodup):∃A B,zs=A++c::B∧c∉A∧c∉B:=by
 obtain⟨A,B,e⟩:=Yq h
 refine⟨A,B,e,?_,?_⟩
 ·rw [e,Ze] at nd
  exact λz=>nd.2.2 _ z _ Qb rfl
 ·rw [e,Ze,Qt] at nd
  exact nd.2.1.1
def zdc{A B:List α}{c n:α}(h:c∉A):ins (A++c::B) (Hs c) n=A++c::n::B:=by
 have hi:(A++c::B).idxOf c=A.length:=by
  rw[List.idxOf_append,if_neg h,List.idxOf_cons_self];lia
 show(A++c::B).take ((A++c::B).idxOf c+1)++n::(A++c::B).drop ((A++c::B).idxOf c+1)=_
 rw[hi]
 have e1:(A++c::B).take (A.length+1)=A++[c]:=by
  rw[List.take_append,Qs (by exact Fj _)]
  have:A.length+1-A.length=1:=by lia
  rw[this];rfl
 have e2:(A++c::B).drop (A.length+1)=B:=by
  rw[List.drop_append,Yv (by exact Fj _)]
  have:A.length+1-A.length=1:=by lia
  rw[this];rfl
 rw[e1,e2,Qv];rfl
variable{zs:List α}{c n:α}
def zdx(hc:c∈zs)(nd:zs.Nodup){w:α}:w∈U3 n↔w=n∨w∈zs:=by
 obtain⟨A,B,rfl,h1,h2⟩:=NX nd
 rw[zdc h1]
 simp only[Ql,Qh]
 constructor
 ·rintro (h | h | h | h)
  ·exact .inr Pi
  ·exact .inr (SC Pi)
  ·exact .inl h
  ·exact .inr AX
 ·rintro (h | h | h | h)
  ·exact .inr (SC Pi)
  ·exact .inl h
  ·exact .inr Pi
  ·exact .inr AX
def zir(hc:c∈zs)(nd:zs.Nodup):(U3 n).length=zs.length+1:=by
 obtain⟨A,B,rfl,h1,h2⟩:=NX nd
 rw[zdc h1]
 simp only[Qw,Qz];lia
def nd_ins(hc:c∈zs)(nd:zs.Nodup)(hn:n∉zs):(U3 n).Nodup:=by
 obtain⟨A,B,rfl,h1,h2⟩:=NX nd
 rw[zdc h1]
 rw[Ze,Qt]at nd
 rw[Ql,Qh,not_or,not_or]at hn
 obtain⟨nA,⟨ncB,nB⟩,nAB⟩:=nd
 rw[Ze,Qt,Qt]
 refine⟨nA,⟨?_,hn.2.2,nB⟩,λa ha b hb=>?_⟩
 ·rw[Qh,not_or];exact⟨λe=>hn.2.1 e.symm,ncB⟩
 ·rcases Qh.mp hb with z | z
  ·rw[z];exact nAB a ha c Qb
  ·rcases Qh.mp z with y | y
   ·rw[y];exact λe=>hn.1 (e▸ha)
   ·exact nAB a ha b (QZ y)
def ze2(hc:c∈zs)(nd:zs.Nodup):Ft c=n:=by
 obtain⟨A,B,rfl,h1,h2⟩:=NX nd
 rw[zdc h1]
 have k:=zbe (B:=n::B) h1
 exact(Qn k).symm
def ze1(hc:c∈zs)(nd:zs.Nodup)(hn:n∉zs):Ft n=BX c:=by
 obtain⟨A,B,rfl,h1,h2⟩:=NX nd
 rw[zdc h1]
 rw[Ql,Qh,not_or,not_or]at hn
 have e:A++c::n::B=(A++[c])++n::B:=by rw[Qv];rfl
 have um:n∉A++[c]:=by
  rw[Ql,not_or,Qc];exact⟨hn.1,hn.2.1⟩
 have k1:=zbe (B:=B) um
 have k2:=zbe (B:=B) h1
 rw[←e]at k1
 refine Qn (k1.symm.trans (Eq.trans ?_ k2))
 cases B with
 |cons b t=>rfl
 |nil=>cases A with
  |nil=>rfl
  |cons a t=>rfl
def zdv(hc:c∈zs)(nd:zs.Nodup)(hn:n∉zs){w:α}(hw:w∈zs)(tt:w≠c):Ft w=BX w:=by
 obtain⟨A,B,rfl,h1,h2⟩:=NX nd
 rw[zdc h1]
 rw[Ze,Qt]at nd
 obtain⟨nA,⟨ncB,nB⟩,nAB⟩:=nd
 rw[Ql,Qh,not_or,not_or]at hn
 rcases Ql.mp hw with h | h
 ·obtain ⟨A1,A2,rfl,g1,g2⟩:=zb2 h nA
  have k1:=zbe (A:=A1) (B:=A2++c::n::B) g1
  have k2:=zbe (A:=A1) (B:=A2++c::B) g1
  rw[Qv,Wv,Qv,Wv]
  refine Qn (k1.symm.trans (Eq.trans ?_ k2))
  cases A2<;>rfl
 ·rcases Qh.mp h with z | z
  ·exact absurd z tt
  ·obtain ⟨B1,B2,rfl,g1,g2⟩:=zb2 z nB
   have hwA:w∉A:=λq=>nAB _ q _ (QZ z) rfl
   have dW:w≠n:=λq=>hn.2.2 (q▸z)
   have m1:w∉A++c::n::B1:=by
    simp only[Ql,Qh,not_or];exact⟨hwA,tt,dW,g1⟩
   have m2:w∉A++c::B1:=by
    simp only[Ql,Qh,not_or];exact⟨hwA,tt,g1⟩
   have k1:=zbe (B:=B2) m1
   have k2:=zbe (B:=B2) m2
   have e1:A++c::n::(B1++w::B2)=(A++c::n::B1)++w::B2:=by rw[Qv];rfl
   have e2:A++c::(B1++w::B2)=(A++c::B1)++w::B2:=by rw[Qv];rfl
   rw[e1,e2]
   refine Qn (k1.symm.trans (Eq.trans ?_ k2))
   cases B2 with
   |cons b t=>rfl
   |nil=>cases A<;>rfl
def nxt_rot(nd:zs.Nodup)(k:Nat){w:α}(hw:w∈zs):nxt (zs.drop k++zs.take k) w=BX w:=by
 obtain⟨A,B,rfl,h1,h2⟩:=zb2 hw nd
 have k2:=zbe (B:=B) h1
 by_cases hk:k≤A.length
 ·have e:(A++w::B).drop k++(A++w::B).take k=A.drop k++w::(B++A.take k):=by
   rw[List.drop_append,List.take_append]
   have:k-A.length=0:=by lia
   rw[this,Jz,Kq,Zs,Qv];rfl
  have k1:=zbe (A:=A.drop k) (B:=B++A.take k) (λz=>h1 (IJ z))
  rw[e]
  refine Qn (k1.symm.trans (Eq.trans ?_ k2))
  rw[Qv B,Wg]
 ·have e:(A++w::B).drop k++(A++w::B).take k=(B.drop (k - A.length - 1)++A)++w::B.take (k - A.length - 1):=by
   rw[List.drop_append,List.take_append,Yv HI,Qs HI]
   have:k-A.length=(k-A.length-1)+1:=by lia
   conv=>lhs;rw[this]
   rw[List.drop_succ_cons,List.take_succ_cons,Wz,Qv]
  have k1:=zbe (A:=B.drop (k-A.length-1)++A) (B:=B.take (k-A.length-1)) (λz=>by
   rcases Ql.mp z with y | y
   ·exact h2 (IJ y)
   ·exact h1 y)
  rw[e]
  refine Qn (k1.symm.trans (Eq.trans ?_ k2))
  rw[←Qv,Wg]
end nx
section
variable{α:Type}[DecidableEq α]
def st(r:α→List α)(s:α×α):α×α:=(s.2,nxt (r s.2) s.1)
inductive Conn(r:α→List α)(x:α):α→Prop
 |refl:Conn r x x
 |step {y z:α}:Conn r x y→z∈r y→Conn r x z
def Conn.trans{r:α→List α}{x y z:α}(a:WW y)(b:Conn r y z):WW z:=by
 induction b with
 |refl=>exact a
 |step _ h ih=>exact .step ih h
def Conn.mono(h:∀x y,y∈r x→y∈r' x)(a:WW y):YZ x y:=by
 induction a with
 |refl=>exact .refl
 |step _ hz ih=>exact .step ih (h _ _ hz)
def wt(ns:List α)(r:α→List α)(a9:α→α)(t:α):Int:=(ns.map λx=>if a9 x=t then 2+(if r x=[] then 2 else 0)-((r x).length:Int) else 0).sum
def ct(cs:wC (α×α))(a9:α→α)(t:α):Int:=(cs.map λc=>if(c.any λs=>decide (a9 s.1=t))=true then(2:Int) else 0).sum
structure Cert(ns:List α)(r:α→List α)(cs:List (List (α×α)))(a9:α→α):Prop where
 nd:ns.Nodup
 ro:∀x,x∉ns→r x=[]
 rn:∀x,(r x).Nodup
 ir:∀x,x∉r x
 sy:∀x y,y∈r x→x∈r y
 cf:cs.flatten.Nodup
 cm:∀s,s∈cs.flatten↔s.1∈r s.2
 cy:∀c∈cs,Cyc (st r) c
 ln:∀x∈ns,a9 x∈ns
 la:∀x y,y∈r x→a9 y=a9 x
 co:∀x∈ns,∀y∈ns,a9 x=a9 y→WW y
 eu:∀x∈ns,W4 (a9 x)+WX (a9 x)=4
variable{ns:List α}{r r':α→List α}{cs:List (List (α×α))}{a9:α→α}
def Cert.inn(C:QT a9){x y:α}(h:y∈r x):x∈ns:=Ul λz=>by rw[NY z]at h;cases h
def Cert.inn'(C:QT a9){x y:α}(h:y∈r x):y∈ns:=C.inn (C.sy x y h)
def zfb{g g':α→Int}:∀ {l:List α},l.Nodup→a∈l→(∀ x∈l,x≠a→g' x=g x)→(EJ g').sum=(EJ g).sum+(g' a - g a):=by
 intro l
 induction l with
 |nil=>intro _ h;cases h
 | cons b t ih =>
  intro nd h e
  rw[Qt]at nd
  rw[Qm,Qm,Zm,Zm]
  by_cases hb:b=a
  ·have:(t.map g').sum=(t.map g).sum:=by
    congr 1
    exact Yc λx hx=>e x Ca λz=>nd.1 (by rw[hb,←z];exact hx)
   rw[this,hb];lia
  ·have h':a∈t:=by
    rcases Qh.mp h with z | z
    ·exact absurd z.symm hb
    ·exact z
   rw[ih nd.2 h' λx hx=>e x Ca,e b Qb hb];lia
def zcl{β:Type}{g g':β→Int}{l:List β}(h:∀x∈l,g' x=g x):(EJ g').sum=(EJ g).sum:=by
 congr 1;exact Yc h
def zi6(C:QT a9){N R:List (S1 (α×α))}{c0 news:List (α×α)}(hR:∀c∈R,c∈cs)(cc:cs.flatten.Perm (c0++R.flatten))(hN:N.flatten.Perm (news++c0))(aA:news.Nodup)(dB:∀s∈news,s.1∉r s.2)(hmem:∀s:α×α,s.1∈r' s.2↔s∈news∨s.1∈r s.2)(pG:∀c∈N,UG c)(ar:∀s:α×α,s.1∈r s.2→s∉c0→st r' s=BQ s) :
  (N++R).flatten.Nodup∧(∀s,s∈(N++R).flatten↔s.1∈r' s.2)∧∀c∈N++R,UG c:=by
 have hp:(N++R).flatten.Perm (news++cs.flatten):=by
  rw[Wq]
  refine(MT hN).trans ?_
  rw[Qv]
  exact Mj cc.symm
 refine⟨?_,λs=>?_,λc hc=>?_⟩
 ·rw [hp.nodup_iff,Ze]
  exact⟨aA,C.cf,λa ha b hb e=>dB a ha (by rw[e];exact(IR b).mp hb)⟩
 ·rw[hp.mem_iff,Ql,hmem,C.cm]
 ·rcases Ql.mp hc with z | z
  ·exact pG c z
  ·refine ze7 (fun y hy=>?_) (Bq (hR c z))
   have hyR:y∈R.flatten:=Zu.mpr ⟨c,z,hy⟩
   refine ar y ((IR y).mp (cc.mem_iff.mpr (WK hyR))) λqG=>?_
   have:=cc.nodup_iff.mp C.cf
   rw[Ze]at this
   exact this.2.2 y qG y hyR rfl
def zd2{β:Type}{g:β→Int}:∀{l:List β},(∀x∈l,g x=0)→(EJ g).sum=0:=by
 intro l
 induction l with
 |nil=>intro _;rfl
 |cons a t ih =>
  intro h
  rw[Qm,Zm,h a Qb,ih λx hx=>h x Ca];rfl
def Cert.inc(C:QT a9){c:List (α×α)}(hc:c∈cs){s:α×α}(hs:s∈c):s.1∈r s.2:=(IR s).mp (yg ⟨c,hc,hs⟩)
def ct_lab{ah:α→α}{t:α}(h:∀c∈cs,∀s∈c,ah s.1=a9 s.1):ct cs ah t=WX t:=by
 refine zcl λc hc=>?_
 have:(c.any λs=>decide (ah s.1=t))=c.any λs=>decide (a9 s.1=t):=by
  rw[Yp,Yn,Yn]
  constructor
  ·rintro⟨s,hs,e⟩;exact⟨s,hs,by rwa[h c hc s hs]at e⟩
  ·rintro⟨s,hs,e⟩;exact⟨s,hs,by rw[h c hc s hs];exact e⟩
 rw[this]
def cert_new(C:QT a9){x:α}(hx:x∉ns){ah:α→α}(hl:∀y∈ns,ah y=a9 y)(bD:ah x=x):Cert (ns++[x]) r cs ah:=by
 have hrx:r x=[]:=NY hx
 have ne:∀{y},y∈ns→y≠x:=λ{y} hy e=>hx (e▸hy)
 have ao:∀c∈cs,∀s∈c,s.1∈ns:=λc hc s hs=>C.inn' (BR hs)
 have ma:∀t,ct cs ah t=WX t:=λt=>ct_lab λc hc s hs=>hl _ (ao c hc s hs)
 have lx:∀y∈ns,a9 y≠x:=λy hy e=>hx (e▸C.ln y hy)
 have uS:WX x=0:=zd2 λc hc=>if_neg λz=>by
  obtain⟨s,hs,e⟩:=Yn.mp z
  exact lx _ (ao c hc s hs) (LV e)
 have hw:∀t,wt (ns++[x]) r ah t=W4 t+if x=t then 4 else 0:=λt=>by
  unfold wt
  rw[Qq,List.sum_append,Qm,Xr,Zm,List.sum_nil]
  congr 1
  ·exact zcl λz hz=>by rw[hl z hz]
  ·rw[bD,hrx];simp
 refine⟨?_,λy hy=>C.ro y λz=>hy (YF z),C.rn,C.ir,C.sy,C.cf,C.cm,C.cy,λy hy=>?_,λy z hz=>?_,λy hy z hz e=>?_,λy hy=>?_⟩
 ·rw [Ze]
  exact⟨C.nd,EC ⟨Ha,Zn⟩,λa ha b hb=>by rw[Qc.mp hb];exact ne ha⟩
 ·rcases Ql.mp hy with h | h
  ·rw[hl y h];exact YF (C.ln y h)
  ·rw[Qc.mp h,bD];exact WK Qb
 ·rw[hl _ (C9 hz),hl _ (IS hz)];exact C.la y z hz
 ·rcases Ql.mp hy with h | h <;> rcases Ql.mp hz with g | g
  ·rw[hl _ h,hl _ g]at e;exact C.co y h z g e
  ·rw [hl _ h,CS g,bD] at e
   exact absurd e (lx y h)
  ·rw [hl _ g,CS h,bD] at e
   exact absurd e.symm (lx z g)
  ·rw[Qc.mp h,Qc.mp g];exact .refl
 ·rw [ma,hw]
  rcases Ql.mp hy with h | h
  ·rw [hl _ h,if_neg (fun z=>lx y h z.symm)]
   have:=C.eu y h;lia
  ·rw [CS h,bD,EB,uS]
   have:W4 x=0:=zd2 λz hz=>if_neg (lx z hz)
   rw[this];rfl
end
section
variable{β:Type}
def zf2:∀{t:List β},g s'=f s→(∀y∈t,g y=f y)→Mt s t e→Lk g s' t e:=by
 intro t
 cases t with
 |nil=>intro h _ k;exact h.trans k
 |cons a t =>
  intro h hh k
  exact⟨h.trans k.1,lk_congr (λy hy=>hh y Cr) k.2⟩
def lk_lab{γ:Type}{f:β→β}{lb:β→γ}{e:β}:∀{t:List β} {s:β},(∀y,y=s∨y∈t→lb (f y)=lb y)→Mt s t e→∀y∈t,lb y=lb s:=by
 intro t
 induction t with
 |nil=>intro s _ _ y hy;cases hy
 | cons a t ih =>
  intro s h k y hy
  have ha:lb a=lb s:=by rw[←k.1];exact h s HW
  rcases Qh.mp hy with z | z
  ·rw[z];exact ha
  ·rw [← ha]
   exact ih (λy hy=>h y xX) k.2 y z
def zik{l m:List Int}(h:l.Perm m):l.sum=m.sum:=by
 induction h with
 |nil=>rfl
 |cons x _ ih=>rw[Zm,Zm,ih]
 |swap x y l=>rw[Zm,Zm,Zm,Zm];lia
 |trans _ _ a b=>exact a.trans b
end
section
variable{α:Type}[DecidableEq α]{ns:List α}{r r':α→List α}{cs:List (List (α×α))}{a9 ah:α→α}
def ct_perm{cs':List (S1 (α×α))}(h:cs.Perm cs')(t:α):WX t=ct cs' a9 t:=zik (h.map _)
def zdz(c:S1 (α×α))(t:α):ct (c::cs) a9 t=(if(c.any λs=>decide (a9 s.1=t))=true then(2:Int) else 0)+WX t:=by
 unfold ct;rw[List.map_cons,List.sum_cons]
def Cert.one_lab(C:QT a9){c:List (α×α)}(hc:c∈cs){s u:α×α}(hs:s∈c)(hu:u∈c):a9 u.1=a9 s.1:=by
 obtain⟨A,B,rfl⟩:=Yq hs
 have k:=zc7 (C.cy _ hc)
 have hl:∀y,y=s∨y∈B++A→a9 (BQ y).1=a9 y.1:=λy hy=>by
  have cr:y∈A++s::B:=by
   rcases hy with z | z
   ·rw[z];exact hs
   ·rcases Ql.mp z with q | q
    ·exact WK (QZ q)
    ·exact YF q
  exact(C.la _ _ (BR cr)).symm
 rcases Ql.mp hu with z | z
 ·exact lk_lab (lb:=λy:α×α=>a9 y.1) hl k u (WK z)
 ·rcases Qh.mp z with q | q
  ·rw[q]
  ·exact lk_lab (lb:=λy:α×α=>a9 y.1) hl k u (YF q)
def zd1{c:List (α×α)}(h:∀s∈c,a9 s.1=u)(az:c≠[]):(c.any λs=>decide (a9 s.1=t))=decide (u=t):=by
 rw[Yp,Yn,decide_eq_true_iff]
 constructor
 ·rintro⟨s,hs,e⟩;rw[←h s hs];exact of_decide_eq_true e
 ·intro e
  cases c with
  |nil=>exact absurd rfl az
  |cons s _=>exact⟨s,Qb,HY ((h s Qb).trans e)⟩
def zb3(hc:c∈cs):cs.flatten.Perm (c++(cs.erase c).flatten):=by
 have:=List.Perm.flatten (Ki hc)
 rwa[Wf]at this
def zfu(C:QT a9)(hp:p∈ns)(hx:x∉ns)(h1:r' x=[p])(h3:∀ y,y≠x→y≠p→r' y=r y)(hm:∀ w,w∈r' p↔w=x∨w∈r p)(hn:(r' p).Nodup)(ae:(r' p).length=(r p).length+1)(hl:∀y∈ns,ah y=a9 y)(bD:ah x=a9 p)(hc:cs'.flatten.Nodup∧(∀s,s∈cs'.flatten↔s.1∈r' s.2)∧∀c∈cs',UG c)(ma:∀t,ct cs' ah t=WX t+if a9 p=t then(if r p=[] then 2 else 0) else 0):Cert (ns++[x]) r' cs' ah:=by
 have fg:p≠x:=λe=>hx (e▸hp)
 have hrx:r x=[]:=NY hx
 have ne:∀{y},y∈ns→y≠x:=λ{y} hy e=>hx (e▸hy)
 have sub:∀z y,y∈r z→y∈r' z:=λz y hy=>by
  by_cases hz:z=p
  ·rw[hz]at hy ⊢;exact(hm y).mpr OU
  ·rw[h3 z (ne (IS hy)) hz];exact hy
 have hw:∀t,wt (ns++[x]) r' ah t=W4 t-if a9 p=t then(if r p=[] then 2 else 0) else 0:=λt=>by
  unfold wt
  rw[Qq,List.sum_append,Qm,Xr,Zm,List.sum_nil,bD,h1]
  have e1:(ns.map λy=>if ah y=t then(2:Int)+(if r' y=[] then 2 else 0)-((r' y).length:Int) else 0).sum=(ns.map λy=>if a9 y=t then(2:Int)+(if r' y=[] then 2 else 0)-((r' y).length:Int) else 0).sum :=
   zcl λy hy=>by rw[hl y hy]
  rw[e1,zfb (g:=λy=>if a9 y=t then(2:Int)+(if r y=[] then 2 else 0)-((r y).length:Int) else 0) C.nd hp (λy hy bp=>by rw[h3 y (ne hy) bp])]
  have az:r' p≠[]:=λe=>by rw[e]at ae;simp at ae
  by_cases ht:a9 p=t
  ·simp only [ht,if_true,az,if_false,ae]
   by_cases nX:r p=[]
   ·simp[nX];lia
   ·simp[nX];lia
  ·simp only[ht,if_false];lia
 refine⟨?_,λy hy=>?_,λy=>?_,λy=>?_,λy z hz=>?_,hc.1,hc.2.1,hc.2.2,λy hy=>?_,λy z hz=>?_,λy hy z hz e=>?_,λy hy=>?_⟩
 ·rw [Ze]
  exact⟨C.nd,EC ⟨Ha,Zn⟩,λa ha b hb=>by rw[Qc.mp hb];exact ne ha⟩
 ·rw [Ql,not_or,Qc] at hy
  rw[h3 y hy.2 (λe=>hy.1 (e▸hp))];exact C.ro y hy.1
 ·by_cases cD:y=x
  ·rw[cD,h1];exact Qt.mpr ⟨Ha,Zn⟩
  ·by_cases bp:y=p
   ·rw[bp];exact hn
   ·rw[h3 y cD bp];exact C.rn y
 ·by_cases cD:y=x
  ·rw[cD,h1,Qc];exact Zl fg
  ·by_cases bp:y=p
   ·rw[bp,hm,not_or];exact⟨fg,C.ir p⟩
   ·rw[h3 y cD bp];exact C.ir y
 ·by_cases cD:y=x
  ·rw [cD,h1,Qc] at hz
   rw[hz,cD];exact(hm x).mpr HW
  ·by_cases bp:y=p
   ·rw [bp] at hz ⊢
    rcases(hm z).mp hz with q | q
    ·rw[q,h1];exact Qb
    ·exact sub z p (C.sy p z q)
   ·rw [h3 y cD bp] at hz
    exact sub z y (C.sy y z hz)
 ·rcases Ql.mp hy with h | h
  ·rw[hl y h];exact YF (C.ln y h)
  ·rw[Qc.mp h,bD];exact YF (C.ln p hp)
 ·by_cases cD:y=x
  ·rw [cD,h1,Qc] at hz
   rw[hz,cD,bD,hl p hp]
  ·by_cases bp:y=p
   ·rw [bp] at hz ⊢
    rcases(hm z).mp hz with q | q
    ·rw[q,bD,hl p hp]
    ·rw[hl _ (C9 q),hl p hp];exact Mu z q
   ·rw [h3 y cD bp] at hz
    rw[hl _ (C9 hz),hl _ (IS hz)];exact C.la y z hz
 ·have xp:YZ x p:=.step .refl (by rw [h1];exact Qb)
  rcases Ql.mp hy with h | h<;>rcases Ql.mp hz with g | g
  ·rw[hl _ h,hl _ g]at e;exact(C.co y h z g e).mono sub
  ·rw [hl _ h,CS g,bD] at e
   rw[Qc.mp g]
   exact .step ((C.co y h p hp e).mono sub) ((hm x).mpr HW)
  ·rw [hl _ g,CS h,bD] at e
   rw[Qc.mp h]
   exact xp.trans ((C.co p hp z g e).mono sub)
  ·rw[Qc.mp h,Qc.mp g];exact .refl
 ·have key:∀ u∈ns,wt (ns++[x]) r' ah (a9 u)+ct cs' ah (a9 u)=4:=fun u hu=>by
   rw[hw,ma]
   have:=C.eu u hu;lia
  rcases Ql.mp hy with h | h
  ·rw[hl _ h];exact key y h
  ·rw[Qc.mp h,bD];exact key p hp
def zil(p:α):nxt [p] p=p:=by
 unfold nxt
 simp
def leaf_mem(C:QT a9)(hp:p∈ns)(hx:x∉ns)(h1:r' x=[p])(h3:∀ y,y≠x→y≠p→r' y=r y)(hm:∀ w,w∈r' p↔w=x∨w∈r p) :
  ∀s:α×α,s.1∈r' s.2↔s∈[(x,p),(p,x)]∨s.1∈r s.2:=λs=>by
 obtain⟨a,b⟩:=s
 have fg:p≠x:=λe=>hx (e▸hp)
 show a∈r' b↔(a,b)∈[(x,p),(p,x)]∨a∈r b
 rw[Qh,Qc,Prod.mk.injEq,Prod.mk.injEq]
 by_cases rE:b=x
 ·subst rE
  rw[h1,C.ro b hx,Qc]
  constructor
  ·intro e;exact .inl (SC ⟨e,rfl⟩)
  ·rintro ((⟨_,e⟩ | ⟨e,_⟩) | e)
   ·exact absurd e.symm fg
   ·exact e
   ·cases e
 ·by_cases jw:b=p
  ·subst jw
   rw[hm]
   constructor
   ·rintro (e | e)
    ·exact .inl (RH ⟨e,rfl⟩)
    ·exact .inr e
   ·rintro ((⟨e,_⟩ | ⟨_,e⟩) | e)
    ·exact .inl e
    ·exact absurd e rE
    ·exact .inr e
  ·rw [h3 b rE jw]
   constructor
   ·exact .inr
   ·rintro ((⟨_,e⟩ | ⟨_,e⟩) | e)
    ·exact absurd e jw
    ·exact absurd e rE
    ·exact e
def leaf_nd(fg:p≠x):([(x,p),(p,x)]:List (α×α)).Nodup:=by
 rw[Qt,Qc]
 exact⟨λe=>fg (Jg e).1.symm,EC ⟨Ha,Zn⟩⟩
def leaf_no(C:QT a9)(hx:x∉ns):∀s∈([(x,p),(p,x)]:List (α×α)),s.1∉r s.2:=λs hs h=>by
 rcases Qh.mp hs with e | e
 ·rw[e]at h;exact hx (C9 h)
 ·rw[Qc.mp e]at h;exact hx (IS h)
def cert_leaf0(C:QT a9)(hp:p∈ns)(hx:x∉ns)(jR:r p=[])(h1:r' x=[p])(h2:r' p=[x])(h3:∀ y,y≠x→y≠p→r' y=r y)(hl:∀ y∈ns,ah y=a9 y)(bD:ah x=a9 p) :
  Cert (ns++[x]) r' ([(x,p),(p,x)]::cs) ah:=by
 have fg:p≠x:=λe=>hx (e▸hp)
 have hm:∀w,w∈r' p↔w=x∨w∈r p:=λw=>by rw[h2,jR,Qc];simp
 refine DP (by rw[h2];exact Qt.mpr ⟨Ha,Zn⟩) (by rw[h2,jR];rfl) hl bD ?_ λt=>?_
 ·refine zi6 (N:=[[(x,p),(p,x)]]) (R:=cs) (c0:=[]) (news:=[(x,p),(p,x)]) C (fun c h=>h) (by rw [Wz]) Ha (leaf_nd fg) (leaf_no C hx) (NZ hm) (fun c hc=>?_) fun s hs _=>?_
  ·rw [CS hc]
   refine⟨(x,p),[(p,x)],rfl,?_,?_⟩
   ·show (p,KS x)=(p,x)
    rw[h2,zil]
   ·show (x,nxt (r' x) p)=(x,p)
    rw[h1,zil]
  ·have tJ:s.2≠x:=fun e=>hx (e ▸ C.inn hs)
   have bX:s.2≠p:=λe=>by rw[e,jR]at hs;cases hs
   unfold st;rw[h3 s.2 tJ bX]
 ·rw [zdz,zd1 (u:=a9 p) (fun s hs=>?_) Ha]
  ·have:ct cs ah t=WX t:=ct_lab fun c hc s hs=>hl _ (C9 (BR hs))
   rw[this]
   simp only[decide_eq_true_eq,jR,if_true]
   lia
  ·rcases Qh.mp hs with e | e
   ·rw[e];exact bD
   ·rw[Qc.mp e];exact hl p hp
def cert_leaf(C:QT a9)(hp:p∈ns)(hx:x∉ns)(hc:c∈r p)(h1:r' x=[p])(h2:r' p=Fu x)(h3:∀ y,y≠x→y≠p→r' y=r y)(hl:∀ y∈ns,ah y=a9 y)(bD:ah x=a9 p) :
  ∃cs',Cert (ns++[x]) r' cs' ah:=by
 have fg:p≠x:=λe=>hx (e▸hp)
 have fM:x∉r p:=λh=>hx (C9 h)
 have hm:∀w,w∈r' p↔w=x∨w∈r p:=λw=>by rw[h2];exact zdx hc LH
 obtain⟨c1,aQ,bY⟩:=Zu.mp ((IR (c,p)).mpr hc)
 obtain⟨A,B,eU⟩:=Yq bY
 have k:=zc7 (eU▸C.cy c1 aQ)
 have old:∀y∈c1,y.1∈r y.2:=λy hy=>Mv hy
 have nd1:c1.Nodup:=by
  have:=(zb3 aQ).nodup_iff.mp C.cf
  rw[Ze]at this
  exact this.1
 have ar:∀s:α×α,s.1∈r s.2→s≠(c,p)→st r' s=BQ s:=λs hs az=>by
  have tJ:s.2≠x:=λe=>hx (e▸C.inn hs)
  by_cases bX:s.2=p
  ·unfold st
   rw[bX,h2]
   rw[bX]at hs
   rw[zdv hc LH fM hs (λe=>az (Wj e bX))]
  ·unfold st;rw[h3 s.2 tJ bX]
 have inBA:∀y∈B++A,y∈c1∧y≠(c,p):=λy hy=>by
  rw[eU]at nd1 ⊢
  rw[Ze,Qt]at nd1
  rcases Ql.mp hy with z | z
  ·exact⟨WK (QZ z),λe=>nd1.2.1.1 (e▸z)⟩
  ·exact⟨YF z,λe=>nd1.2.2 y z (c,p) Qb e⟩
 refine⟨[(c,p)::(p,x)::(x,p)::(B++A)]++cs.erase c1,DP (by rw[h2];exact Fv fM) (by rw[h2];exact zir hc LH) hl bD ?_ λt=>?_⟩
 ·refine zi6 (c0:=c1) (news:=[(x,p),(p,x)]) C (fun c h=>Uj h) (zb3 aQ) ?_ (leaf_nd fg) (leaf_no C hx) (NZ hm) (fun c' cP=>?_) fun s hs hn=>ar s hs fun e=>hn (e ▸ bY)
  ·rw [eU]
   refine Jl.mpr λa=>?_
   simp only[Wf,List.flatten_nil,Zs,Ka,Km,List.count_nil]
   lia
  ·rw [CS cP]
   refine⟨(c,p),wI,?_,?_,zf2 (f:=st r) (s:=(c,p)) ?_ (λy hy=>ar y (old y (inBA y hy).1) (inBA y hy).2) k⟩
   ·show (p,KS c)=(p,x)
    rw[h2,ze2 hc LH]
   ·show (x,nxt (r' x) p)=(x,p)
    rw[h1,zil]
   ·show (p,KS x)=(p,nxt (r p) c)
    rw[h2,ze1 hc LH fM]
 ·have az:r p≠[]:=Jv hc
  have e2:WX t=ct (c1::cs.erase c1) a9 t:=ct_perm (Ki aQ) t
  have e3:Go ah t=Go a9 t:=ct_lab λc h s hs=>hl _ (C9 (C.inc (Uj h) hs))
  have lc:∀s∈c1,a9 s.1=a9 p:=λs hs=>(V1 hs).trans (Mu c hc)
  rw[e2,zdz,Xv,zdz,e3,zd1 (u:=a9 p) lc (Jv bY),zd1 (u:=a9 p) (λs hs=>?_) Ha,if_neg az]
  ·simp
  ·rcases Qh.mp hs with e | hs
   ·rw[e];exact(hl _ (C9 hc)).trans (Mu c hc)
   ·rcases Qh.mp hs with e | hs
    ·rw[e];exact hl p hp
    ·rcases Qh.mp hs with e | hs
     ·rw[e];exact bD
     ·rw[hl _ (C9 (old s (inBA s hs).1))];exact lc s (inBA s hs).1
def cert_tie(C:QT a9)(aQ:c1∈cs)(bY:(c,p)∈c1)(cv:(a,o)∈c1)(je:o≠p)(dB:o∉r p)(h1:r' p=Fu o)(h2:r' o=ins (r o) y9 p)(h3:∀ y,y≠p→y≠o→r' y=r y) :
  ∃cs',Cert ns r' cs' a9:=by
 have hc:c∈r p:=Mv bY
 have ha:a∈r o:=Mv cv
 have hp:p∈ns:=C.inn hc
 have ho:o∈ns:=C.inn ha
 have qZ:p∉r o:=λh=>dB (C.sy o p h)
 have ku:∀w,w∈r' p↔w=o∨w∈r p:=λw=>by rw[h1];exact zdx hc LH
 have cb:∀w,w∈r' o↔w=p∨w∈r o:=λw=>by rw[h2];exact zdx ha EN
 have gh:a9 o=a9 p:=by
  rw[←C.la o a ha,←Mu c hc];exact V1 cv
 obtain⟨A,B,eU⟩:=Yq bY
 have k:=zc7 (eU▸C.cy c1 aQ)
 have old:∀y∈c1,y.1∈r y.2:=λy hy=>Mv hy
 have nd1:c1.Nodup:=by
  have:=(zb3 aQ).nodup_iff.mp C.cf
  rw[Ze]at this
  exact this.1
 have tP:(a,o)∈B++A:=by
  rw[eU]at cv
  rcases Ql.mp cv with z | z
  ·exact WK z
  ·rcases Qh.mp z with q | q
   ·exact absurd (Jg q).2 je
   ·exact YF q
 obtain⟨A2,B2,qa⟩:=Yq tP
 rw[qa]at k
 obtain⟨k1,k2⟩:=zhr.mp k
 have pm:c1.Perm ((c,p)::(A2++(a,o)::B2)):=by
  rw[eU,←qa]
  refine Jl.mpr λa=>?_
  simp only[Ka,Km]
  lia
 have fG:=pm.nodup_iff.mp nd1
 rw[Qt,Ze,Qt]at fG
 obtain⟨n1,n2,⟨n3,n4⟩,n5⟩:=fG
 have inA:∀y∈A2,y∈c1∧y≠(c,p)∧y≠(a,o):=λy hy=>⟨pm.mem_iff.mpr (QZ (YF hy)),λe=>n1 (e▸YF hy),λe=>n5 y hy (a,o) Qb e⟩
 have inB:∀y∈B2,y∈c1∧y≠(c,p)∧y≠(a,o):=λy hy=>⟨pm.mem_iff.mpr (QZ (WK Ei)),λe=>n1 (e▸WK Ei),λe=>n3 (e▸hy)⟩
 have ar:∀s:α×α,s.1∈r s.2→s≠(c,p)→s≠(a,o)→st r' s=BQ s:=λs hs cJ bC=>by
  by_cases bX:s.2=p
  ·unfold st
   rw[bX,h1]
   rw[bX]at hs
   rw[zdv hc LH dB hs (λe=>cJ (Wj e bX))]
  ·by_cases qV:s.2=o
   ·unfold st
    rw[qV,h2]
    rw[qV]at hs
    rw[zdv ha EN qZ hs (λe=>bC (Wj e qV))]
   ·unfold st;rw[h3 s.2 bX qV]
 have sub:∀z y,y∈r z→y∈r' z:=λz y hy=>by
  by_cases hz:z=p
  ·rw[hz]at hy ⊢;exact(ku y).mpr OU
  ·by_cases bK:z=o
   ·rw[bK]at hy ⊢;exact(cb y).mpr OU
   ·rw[h3 z hz bK];exact hy
 have hmem:∀s:α×α,s.1∈r' s.2↔s∈[(o,p),(p,o)]∨s.1∈r s.2:=λs=>by
  obtain⟨u,b⟩:=s
  show u∈r' b↔(u,b)∈[(o,p),(p,o)]∨u∈r b
  rw[Qh,Qc,Prod.mk.injEq,Prod.mk.injEq]
  by_cases jw:b=p
  ·subst jw
   rw[ku]
   constructor
   ·rintro (e | e)
    ·exact .inl (RH ⟨e,rfl⟩)
    ·exact .inr e
   ·rintro ((⟨e,_⟩ | ⟨_,e⟩) | e)
    ·exact .inl e
    ·exact absurd e.symm je
    ·exact .inr e
  ·by_cases uV:b=o
   ·subst uV
    rw[cb]
    constructor
    ·rintro (e | e)
     ·exact .inl (SC ⟨e,rfl⟩)
     ·exact .inr e
    ·rintro ((⟨_,e⟩ | ⟨e,_⟩) | e)
     ·exact absurd e jw
     ·exact .inl e
     ·exact .inr e
   ·rw [h3 b jw uV]
    constructor
    ·exact .inr
    ·rintro ((⟨_,e⟩ | ⟨_,e⟩) | e)
     ·exact absurd e jw
     ·exact absurd e uV
     ·exact e
 have nnd:([(o,p),(p,o)]:List (α×α)).Nodup:=by
  rw[Qt,Qc]
  exact⟨λe=>je (Jg e).1,EC ⟨Ha,Zn⟩⟩
 have bV:=zi6 (N:=[(c,p)::(p,o)::B2,(a,o)::(o,p)::A2]) (R:=cs.erase c1) (c0:=c1) (news:=[(o,p),(p,o)]) (r':=r') C (λc h=>Uj h) (zb3 aQ) (by
   refine List.Perm.trans ?_ (Mj pm.symm)
   refine Jl.mpr λa=>?_
   simp only[Wf,List.flatten_nil,Zs,Ka,Km,List.count_nil]
   lia) nnd (λs hs h=>by
    rcases Qh.mp hs with e | e
    ·rw[e]at h;exact dB h
    ·rw[Qc.mp e]at h;exact qZ h) hmem (λc' cP=>by
   rcases Qh.mp cP with e | e
   ·rw [e]
    refine⟨(c,p),wI,?_,zf2 (f:=st r) (s:=(a,o)) ?_ (λy hy=>ar y (old y (inB y hy).1) (inB y hy).2.1 (inB y hy).2.2) k2⟩
    ·show (p,KS c)=(p,o)
     rw[h1,ze2 hc LH]
    ·show (o,nxt (r' o) p)=(o,nxt (r o) a)
     rw[h2,ze1 ha EN qZ]
   ·rw [CS e]
    refine⟨(a,o),wI,?_,zf2 (f:=st r) (s:=(c,p)) ?_ (λy hy=>ar y (old y (inA y hy).1) (inA y hy).2.1 (inA y hy).2.2) k1⟩
    ·show (o,nxt (r' o) a)=(o,p)
     rw[h2,ze2 ha EN]
    ·show (p,KS o)=(p,nxt (r p) c)
     rw[h1,ze1 hc LH dB]) λs hs hn=>ar s hs (λe=>hn (e▸bY)) λe=>hn (e▸cv)
 refine⟨_,C.nd,λy hy=>?_,λy=>?_,λy=>?_,λy z hz=>?_,bV.1,bV.2.1,bV.2.2,C.ln,λy z hz=>?_,λy hy z hz e=>(C.co y hy z hz e).mono sub,λy hy=>?_⟩
 ·rw[h3 y (λe=>hy (e▸hp)) (λe=>hy (e▸ho))];exact C.ro y hy
 ·by_cases bp:y=p
  ·rw[bp,h1];exact Fv dB
  ·by_cases fI:y=o
   ·rw[fI,h2];exact nd_ins ha EN qZ
   ·rw[h3 y bp fI];exact C.rn y
 ·by_cases bp:y=p
  ·rw[bp,ku,not_or];exact⟨Zl je,C.ir p⟩
  ·by_cases fI:y=o
   ·rw[fI,cb,not_or];exact⟨je,C.ir o⟩
   ·rw[h3 y bp fI];exact C.ir y
 ·by_cases bp:y=p
  ·rw [bp] at hz ⊢
   rcases(ku z).mp hz with q | q
   ·rw[q];exact(cb p).mpr HW
   ·exact sub z p (C.sy p z q)
  ·by_cases fI:y=o
   ·rw [fI] at hz ⊢
    rcases(cb z).mp hz with q | q
    ·rw[q];exact(ku o).mpr HW
    ·exact sub z o (C.sy o z q)
   ·rw [h3 y bp fI] at hz
    exact sub z y (C.sy y z hz)
 ·by_cases bp:y=p
  ·rw [bp] at hz ⊢
   rcases(ku z).mp hz with q | q
   ·rw[q];exact gh
   ·exact Mu z q
  ·by_cases fI:y=o
   ·rw [fI] at hz ⊢
    rcases(cb z).mp hz with q | q
    ·rw[q];exact gh.symm
    ·exact C.la o z q
   ·rw [h3 y bp fI] at hz
    exact C.la y z hz
 ·have e2:WX AY=ct (c1::cs.erase c1) a9 AY:=ct_perm (Ki aQ) _
  have lc:∀s∈c1,a9 s.1=a9 p:=λs hs=>(V1 hs).trans (Mu c hc)
  have l1:∀s∈(c,p)::(p,o)::B2,a9 s.1=a9 p:=λs hs=>by
   rcases Qh.mp hs with e | hs
   ·rw[e];exact Mu c hc
   ·rcases Qh.mp hs with e | hs
    ·rw[e]
    ·exact lc s (inB s hs).1
  have l2:∀s∈(a,o)::(o,p)::A2,a9 s.1=a9 p:=λs hs=>by
   rcases Qh.mp hs with e | hs
   ·rw[e];exact(C.la o a ha).trans gh
   ·rcases Qh.mp hs with e | hs
    ·rw[e];exact gh
    ·exact lc s (inA s hs).1
  have ma:ct ([(c,p)::(p,o)::B2,(a,o)::(o,p)::A2]++cs.erase c1) a9 AY=WX AY+if a9 p=a9 y then 2 else 0:=by
   rw[e2,zdz,Wv,zdz,Wv,zdz,Wz,zd1 lc (Jv bY),zd1 l1 Ha,zd1 l2 Ha]
   simp only[decide_eq_true_eq]
   split<;>lia
  have hw:wt ns r' a9 AY=W4 AY-if a9 p=a9 y then 2 else 0:=by
   have ai:∀{zs:List α} {w n:α},w∈zs→zs.Nodup→ins zs (Hs w) n≠[]:=λ{zs w n} hw nd e=>by
    have:=zir (n:=n) hw nd
    rw[e]at this;simp at this
   unfold wt
   have s1:=zfb (g:=λx=>if a9 x=a9 y then(2:Int)+(if r x=[] then 2 else 0)-((r x).length:Int) else 0)
    (g':=λx=>if x=p then(if a9 p=a9 y then(2:Int)+(if r' p=[] then 2 else 0)-((r' p).length:Int) else 0) else if a9 x=a9 y then(2:Int)+(if r x=[] then 2 else 0)-((r x).length:Int) else 0) C.nd hp (λx _ hx=>if_neg hx)
   have s2:=zfb (g:=λx=>if x=p then(if a9 p=a9 y then(2:Int)+(if r' p=[] then 2 else 0)-((r' p).length:Int) else 0) else if a9 x=a9 y then(2:Int)+(if r x=[] then 2 else 0)-((r x).length:Int) else 0)
    (g':=fun x=>if a9 x=a9 y then (2:Int)+(if r' x=[] then 2 else 0) - ((r' x).length:Int) else 0) C.nd ho (fun x _ hx=>by
     by_cases fM:x=p
     ·rw[if_pos fM,fM]
     ·rw[if_neg fM,h3 x fM hx])
   rw[s2,s1]
   simp only[if_true,je,if_false,gh,h1,h2,ai hc LH,ai ha EN,zir hc LH,zir ha EN,Jv hc,Jv ha]
   by_cases ht:a9 p=a9 y
   ·simp only[ht,if_true];lia
   ·simp only[ht,if_false];lia
  rw[ma,hw]
  have:=C.eu y hy
  lia
end
section
variable{α:Type}[DecidableEq α]
def Good(rs:Rs α):Prop:=∃cs a9,Cert (rs.map (·.1)) yh cs a9
def zi0{β:Type}{f:β→β}{c:List β}(h:Cyc f c){s:β}(hs:s∈c):f s∈c:=by
 obtain⟨A,B,rfl⟩:=Yq hs
 have k:=zc7 h
 cases e:B++A with
 |nil =>
  rw[e]at k
  rw[show f s=s from k];exact hs
 |cons a t =>
  rw[e]at k
  rw[k.1]
  have:a∈B++A:=by rw[e];exact Qb
  rcases Ql.mp this with z | z
  ·exact WK (QZ z)
  ·exact YF z
variable{rs:Rs α}
def zfo(nd:(rs.map (·.1)).Nodup){p:α×List α}(h:p∈rs):Bo p.1=p.2:=by
 unfold row
 induction rs with
 |nil=>cases h
 | cons a t ih =>
  rw[Qm,Qt]at nd
  rcases Qh.mp h with z | z
  ·subst z;rw[Ub Ha];rfl
  ·rw [Uc]
   ·exact ih nd.2 z
   ·intro q
    exact nd.1 (by rw[of_decide_eq_true q];exact Qf.mpr ⟨p,z,rfl⟩)
def zgd(h:x∉rs.map (·.1)):Bo x=[]:=by
 unfold row
 rw[List.find?_eq_none.mpr]
 ·rfl
 ·intro p hp q
  exact h (of_decide_eq_true q▸Qf.mpr ⟨p,hp,rfl⟩)
def zit(nd:(rs.map (·.1)).Nodup){s:α×α}:IsSt rs s↔s.1∈Bo s.2:=by
 constructor
 ·rintro ⟨p,hp,e,h⟩
  rw[←e,zfo nd hp];exact h
 ·intro h
  by_cases hx:s.2∈rs.map (·.1)
  ·obtain ⟨p,hp,e⟩:=Qf.mp hx
   have e':p.1=s.2:=e
   rw[←e',zfo nd hp]at h
   exact⟨p,hp,e',h⟩
  ·rw[zgd hx]at h;cases h
def zby(x:α)(rr:List α):(Mq x rr).map (·.1)=rs.map (·.1):=by
 unfold za6
 rw[Zj]
 refine Yc λp _=>?_
 show(if p.1=x then(p.1,rr) else p).1=p.1
 split<;>rfl
def zbi{x:α}{rr:List α}(h:x∈rs.map (·.1)):row (Mq x rr) x=rr:=by
 unfold row za6
 induction rs with
 |nil=>cases h
 | cons a t ih =>
  rw[Qm]
  by_cases hx:a.1=x
  ·rw[if_pos hx,Ub (He hx)];rfl
  ·rw [yJ,Uc (He hx)]
   refine ih ?_
   rw[Qm]at h
   rcases Qh.mp h with z | z
   ·exact absurd z.symm hx
   ·exact z
def za9{x y:α}{rr:List α}(h:y≠x):row (Mq x rr) y=Bo y:=by
 unfold row za6
 induction rs with
 |nil=>rfl
 | cons a t ih =>
  rw[Qm]
  by_cases hy:a.1=y
  ·have hx:a.1≠x:=fun e=>h (hy ▸ e)
   rw[if_neg hx,Ub AZ,Ub AZ]
  ·have h1:(if a.1=x then (a.1,rr) else a).1=a.1:=by split <;> rfl
   rw[Uc (by rw[h1];simpa using hy),Uc AZ]
   exact ih
def row_snoc{x:α}(h:x∉rs.map (·.1)):row (rs++[(x,[])])=row rs:=by
 funext y
 unfold row
 rw[List.find?_append]
 cases e:rs.find? λp=>decide (p.1=y) with
 |some p=>rfl
 |none =>
  rw[Option.none_or]
  by_cases hy:x=y
  ·rw[Ub AZ];rfl
  ·rw[Uc AZ];rfl
theorem ze5:Gen (Good (α:=α)) where
 clo:=λrs ⟨cs,a9,C⟩ s hs=>by
  obtain⟨c,hc,h⟩:=Zu.mp ((IR s).mpr ((zit C.nd).mp hs))
  exact(zit C.nd).mpr ((IR _).mp (yg ⟨c,hc,zi0 wH h⟩))
 nd:=λrs ⟨cs,a9,C⟩=>C.nd
 sub:=λrs ⟨cs,a9,C⟩ p hp=>by
  have e:=DQ hp
  exact⟨e▸C.rn p.1,λx hx=>C.inn' (x:=p.1) (Hl e hx)⟩
 sy:=λrs ⟨cs,a9,C⟩ p hp x hx=>C.sy p.1 x (by rw[DQ hp];exact hx)
 nil:=by
  refine⟨[],id,⟨Zn,Hq,λ_=>Zn,λ_ h=>?_,λ_ _ h=>?_,Zn,λs=>⟨λh=>?_,λh=>?_⟩,λc h=>?_,λ_ h=>?_,λ_ _ h=>?_,λ_ h=>?_,λ_ h=>?_⟩⟩
  ·exact absurd h (by simp[row])
  ·exact absurd h (by simp[row])
  ·cases h
  ·exact absurd h (by simp[row])
  ·cases h
  ·cases h
  ·exact absurd h (by simp[row])
  ·cases h
  ·cases h
 new:=λrs x ⟨cs,a9,C⟩ hx=>by
  refine⟨cs,λy=>if y=x then x else a9 y,?_⟩
  rw[row_snoc hx,Qq]
  exact cert_new C hx (λy hy=>if_neg (λe:y=x=>hx (e▸hy))) EB
 leaf:=λrs x p c ⟨cs,a9,C⟩ hx hp hc hW=>by
  have lO:p.1∈rs.map (·.1):=Qf.mpr ⟨p,hp,rfl⟩
  have fg:p.1≠x:=λe=>hx (e▸lO)
  have e0:(za6 (za6 (rs++[(x,[])]) p.1 AU) x [p.1]).map (·.1)=rs.map (·.1)++[x]:=by rw[zby,zby,Qq];rfl
  have sZ:x∈(za6 (rs++[(x,[])]) p.1 AU).map (·.1):=by rw[zby,Qq];exact WK Qb
  have uc:p.1∈(rs++[(x,([]:List α))]).map (·.1):=by rw[Qq];exact YF lO
  have r1:row (za6 (za6 (rs++[(x,[])]) p.1 AU) x [p.1]) x=[p.1]:=zbi sZ
  have r2:row (za6 (za6 (rs++[(x,[])]) p.1 AU) x [p.1]) p.1=BP x:=by rw[za9 fg,zbi uc]
  have r3:∀y,y≠x→y≠p.1→row (za6 (za6 (rs++[(x,[])]) p.1 AU) x [p.1]) y=Bo y:=λy h1 h2=>by rw[za9 h1,za9 h2,row_snoc hx]
  have er:=DQ hp
  have hl:∀y∈rs.map (·.1),(λy=>if y=x then a9 p.1 else a9 y) y=a9 y:=λy hy=>if_neg (λe:y=x=>hx (e▸hy))
  have bD:(λy=>if y=x then a9 p.1 else a9 y) x=a9 p.1:=if_pos rfl
  unfold Good
  rw[e0]
  cases c with
  |none =>
   have h0:=hW rfl
   refine⟨_,_,cert_leaf0 C lO hx (er.trans h0) r1 ?_ r3 hl bD⟩
   rw[r2,h0];rfl
  |some y =>
   have hy:=hc y rfl
   obtain⟨cs',C'⟩:=cert_leaf C lO hx (c:=y) (Hl er hy) r1 (by rw[r2,er]) r3 hl bD
   exact⟨cs',_,C'⟩
 tie:=λrs c p n ⟨cs,a9,C⟩ hp hc h1 h2=>by
  have er:=DQ hp
  obtain⟨c1,aQ,bY⟩:=Zu.mp ((IR (c,p.1)).mpr (Hl er hc))
  have cv:∀n,J8 (c,p.1) n∈c1:=λn=>by
   induction n with
   |zero=>exact bY
   |succ n ih=>exact zi0 (C.cy c1 aQ) ih
  have jc:=cv n
  generalize J8 (c,p.1) n=q at h1 h2 jc
  have lO:p.1∈rs.map (·.1):=Qf.mpr ⟨p,hp,rfl⟩
  have nY:q.2∈rs.map (·.1):=C.inn (Mv jc)
  unfold Good
  rw[zby,zby]
  obtain⟨cs',C'⟩:=cert_tie (r':=row (za6 (Mq p.1 (Gm q.2)) q.2 (ins (Bo q.2) (some q.1) p.1))) C aQ bY (a:=q.1) (o:=q.2) jc h1 (Hl er h2)
   (by rw[za9 (Zl h1),zbi lO,er]) (by rw[zbi (Hl zby nY)]) (λy h3 h4=>by rw[za9 h4,za9 h3])
  exact⟨cs',a9,C'⟩
end
section
variable{α:Type}[DecidableEq α]{ns ly:List α}{r r':α→List α}{cs:List (List (α×α))}{a9:α→α}
def zih(zs:List α)(k:Nat):(zs.drop k++zs.take k).Perm zs:=by
 refine Wh.trans ?_
 rw[Wg]
def cert_turn(C:QT a9)(hn:ly.Perm ns)(hr:∀x,∃k,r' x=(r x).drop k++(r x).take k):Cert ly r' cs a9:=by
 have hp:∀x,(r' x).Perm (r x):=λx=>by obtain⟨k,e⟩:=hr x;rw[e];exact zih _ k
 have hm:∀{x y},y∈r' x↔y∈r x:=λ{x y}=>(hp x).mem_iff
 have ar:∀s:α×α,s.1∈r s.2→st r' s=BQ s:=λs hs=>by
  obtain⟨k,e⟩:=hr s.2
  unfold st;rw[e,nxt_rot (C.rn _) k hs]
 have hw:∀t,wt ly r' a9 t=W4 t:=λt=>by
  unfold wt
  rw[zik (hn.map _)]
  refine zcl λx _=>?_
  have h1:=(hp x).length_eq
  have h2:(r' x=[])=(r x=[]):=propext ⟨λe=>by rw[e]at h1;exact List.eq_nil_of_length_eq_zero h1.symm,λe=>by rw[e]at h1;exact List.eq_nil_of_length_eq_zero h1⟩
  simp only[h1,h2]
 refine⟨hn.nodup_iff.mpr C.nd,λx hx=>?_,λx=>(hp x).nodup_iff.mpr (C.rn x),λx h=>C.ir x (hm.mp h),λx y h=>hm.mpr (C.sy x y (hm.mp h)),C.cf,λs=>(IR s).trans hm.symm,λc hc=>?_,λx hx=>hn.mem_iff.mpr (C.ln x Ig),λx y h=>C.la x y (hm.mp h),λx hx y hy e=>?_,λx hx=>?_⟩
 ·have:=hp x
  rw[NY (λz=>hx (hn.mem_iff.mpr z))]at this
  exact List.Perm.eq_nil this
 ·exact ze7 (λy hy=>ar y (BR hy)) wH
 ·exact(C.co x Ig y (hn.mem_iff.mp hy) e).mono λ_ _ h=>hm.mpr h
 ·rw[hw];exact C.eu x Ig
end
end Wb
end
section
namespace K21
open PySem L2 Wb
abbrev sSteps:Stmt:=top 12
structure BAt(H:Hp)(b:Nc)(bs:List ((Str×Str)×Addr))(r:Nr):Prop where
 dc:H b=some (.dT (bs.map λe=>(A0,OO)))
 tp:∀e∈bs,H e.2=some (.tup [.str (BQ e.1).1,.str (BQ e.1).2])
 nd:(bs.map (·.1)).Nodup
def BAt.keep{H H':Hp}{b:Nc}{bs:List ((Str×Str)×Addr)}{r:Nr}{xs:No}(h:BAt H b bs r)(k:W9 H')(hb:b∉xs)(ht:∀e∈bs,e.2∉xs):BAt H' b bs r :=
 ⟨k _ _ h.dc hb,λe he=>k _ _ (h.tp e he) (ht e he),h.nd⟩
def kP_inj{s u:Str×Str}(h:kP s=kP u):s=u:=by
 unfold kP at h
 injection h with h1 h2
 injection h2 with h2 _
 exact Wj (Wc h1) (Wc h2)
def valT_out{bs:List ((Str×Str)×Addr)}{s:Str×Str}(h:s∉bs.map (·.1)):valV (bs.map λe=>(A0,OO)) yi=none:=by
 induction bs with
 |nil=>rfl
 |cons a t ih =>
  rw[Qm,Qh,not_or]at h
  rw[Qm,zbl]
  ·exact ih h.2
  ·intro q;exact h.1 (kP_inj q).symm
def valT_in{bs:List ((Str×Str)×Addr)}(nd:(bs.map (·.1)).Nodup){e:(Str×Str)×Addr}(h:e∈bs):valV (bs.map fun e=>(A0,OO)) A0=some (.ref e.2):=by
 induction bs with
 |nil=>cases h
 | cons a t ih =>
  rw[Qm,Qt]at nd
  rw[Qm]
  rcases Qh.mp h with z | z
  ·subst z;exact zcc rfl
  ·rw [zbl]
   ·exact ih nd.2 z
   ·intro q
    exact nd.1 (by rw[kP_inj q];exact Qf.mpr ⟨e,z,rfl⟩)
inductive IspSteps(vs:List V)(H:Hp)(Q:VK):Prop
 |mk (d:Nc) (es:List Ent) (h0:vs=[.ref d]) (h1:TAt H d es) (h2:es.length≤60) (h3:(∀e∈es,e.2.1.Nodup∧e.2.1.length≤100)) (h4:∀(b:Nc) (bs:List ((Str×Str)×Addr)) (H':Hp),BAt H' b bs (row (rsOf es))→(∀s,s∈bs.map (·.1)↔s.1∈row (rsOf es) s.2)→bs.length≤10000→H b=none→Keep [] H H'→Q (.ref b) H'):IspSteps vs H Q
def spSteps:Sp:=λvs H Q _=>IspSteps vs H Q
def pidx(n j:Nat):Nat:=if j=0 then n-1 else j-1
def atI_prev{zs:List V}{j:Nat}(hj:j<zs.length):atI zs ((j:Int)-1)=zs[XQ j]?:=by
 unfold pidx
 by_cases h:j=0
 ·subst h
  rw[if_pos rfl]
  unfold atI ixN
  have e1:¬(0:Int)≤RO-1:=by lia
  have e2:-(zs.length:Int)≤RO-1:=by lia
  rw[if_neg e1,if_pos e2]
  show zs[(RO-1+(zs.length:Int)).toNat]?=_
  congr 1;lia
 ·rw [Sb h]
  have e:(j:Int)-1=((j-1:Nat):Int):=by lia
  rw[e,zaw (Qd HI),Qd HI]
def idx_at{zs:Nh}(nd:zs.Nodup){i:Nat}(hi:i<zs.length):zs.idxOf zs[i]=i:=by
 have h1:zs.idxOf zs[i]<zs.length:=idx_lt IT
 have h2:zs[zs.idxOf zs[i]]=zs[i]:=List.getElem_idxOf h1
 exact(We nd).mp h2
def nxt_idx{zs:Nh}(nd:zs.Nodup){j:Nat}(hj:j<zs.length)(hp:XQ j<zs.length):BX zs[XQ j]=zs[j]:=by
 unfold nxt
 rw[idx_at nd hp]
 have e:(XQ j+1)%zs.length=j:=by
  unfold pidx
  by_cases h:j=0
  ·rw [Si h,h]
   have:zs.length-1+1=zs.length:=by lia
   rw[this,Nat.mod_self]
  ·rw [Sb h]
   have:j-1+1=j:=by lia
   rw[this,Nat.mod_eq_of_lt hj]
 rw[e,Zf,Qd hj];rfl
section
variable{P:Nk}{w:Nn}{K:Na}{mg:Ng}{base:Np}
def zfd:zaj ["rounds", "behind", "place", "around", "at", "to"] ["rounds"] (zai sSteps):=fsk
def ok_steps{f:Nc}{fd:Nw}(F:QE "steps_behind" "steps_behind" sSteps f fd)(pq:mg "enumerate" = none):ZB 1 f fd ["rounds"] spSteps:=by
 refine F.okL zfd Hj
 obtain⟨d,es,rfl,T,aH,hok,k⟩:=h
 have hu:=zb6 hr
 have ap  := sizeLine_eq
 refine⟨_,zad (M7 zfd.nd pe_dnewT)
  (zad (zgf (Z4 Pr (Ms zfd.nd)
   (zad (Br zfd.nd (QV Sc))
   (zag (Z4 (pi_enum rfl pq Tp) (Cv (KB zfd.nd) (TH (XB zfd.nd)))
    (zag (zb5 hu Rj (zbd (zaa (WI RX (Be Sd zah) Hq) Sn)) (zbd (ZW LI)) rfl)))))))
  (zag (zaq Rj))),?_⟩
 refine λb hb=>?_
 have nfz:∀o' u',H d≠some Te:=λo' u' z=>by rw[T.dc]at z;cases z
 have nbd:d≠b:=Mw hb
 have k1:Keep [] H (ZX b (.dT [])):=Keep.new hb
 have hX:BAt (ZX b (.dT [])) b [] RI:=⟨zab,λe he=>(by cases he),Zn⟩
 have T1:TAt (ZX b (.dT [])) d es:=M8 Ha RJ
 generalize ZX b (.dT [])=H1 at k1 hX T1
 have hbm:∀{H':Hp} {bs:List ((Str×Str)×Addr)},BAt H' b bs RI→b≠d:=λ_=>Zl nbd
 refine⟨_,rfl,d,_,rfl,T1.dc,λo=>for_dict (λi σ H'=>Aj4 (Ex4 λx2 x3 x4 x5=>σ=[Tf,Hc b,x2,x3,x4,x5]) (H' d=some OZ) (Keep [d,b] H1 H') (Ex1 λbs=>K3 (bs.length≤100*i) (∀s,s∈bs.map (·.1)↔s.2∈(E5 i).map (·.1)∧s.1∈ZK s.2)))
  ⟨⟨_,_,_,_,rfl⟩,zab,Sm,[],hX.keep (xs:=[d]) Sm (by simpa using Zl nbd) (λe he=>by cases he),SJ,λs=>⟨λh=>(by cases h),λh=>(by cases h.1)⟩⟩
  (λi σ H' _ hh=>hh.2) ?_ ?_⟩
 ·rintro i pr σ H2 u9 ⟨⟨x2,x3,x4,x5,rfl⟩,hz,k2,bs,bx,kS,bf⟩
  have hi:i<es.length:=by
   have:=(LA u9).1
   rwa[Qa]at this
  have g1:pr=((Sum.inr es[i].1:Key),V.ref es[i].2.2):=by
   rw[Qo,Qd hi]at u9
   exact(Qn u9).symm
  subst g1
  have bh:es[i]∈es:=Qr hi
  obtain⟨aA,hln⟩:=hok _ bh
  have jQ:ZK es[i].1=es[i].2.1:=zay T.nd bh
  have bM:=T1.ro _ bh
  have nrd:es[i].2.2≠d:=za1 bM T1.dc Hg
  have nrb:es[i].2.2≠b:=za1 bM hX.dc Hg
  have jS:=k2 _ _ bM (by simp[nrd,nrb])
  refine⟨wI,wI,d,.ref es[i].2.2,rfl,RH ⟨_,Sum.inr es[i].1,SC ⟨o,hz⟩,rfl,(zb7 T.nd bh).symm⟩,?_⟩
  have cI:es[i].1∉(E5 i).map (·.1):=by
   have h1:(es.map (·.1)).take HN=(es.map (·.1)).take i++[es[i].1]:=by
    rw[Qi (Hl Qa hi),Zk]
   have h2:((es.map (·.1)).take HN).Nodup:=VL T.nd
   rw[h1,Ze,←Jn]at h2
   exact λz=>h2.2.2 _ z _ SL rfl
  refine⟨_,rfl,es[i].2.2,rfl,⟨_,Rk jS⟩,for_enum (xs:=es[i].2.1.map V.str) (λj σ H'=>Aj4 (Ex2 λx4 x5=>σ=[Tf,Hc b,Hs (.str es[i].1),Hs (.ref es[i].2.2),x4,x5]) (H' d=some OZ) (Keep [d,b] H1 H') (Ex1 λbs=>K3 (bs.length≤100*i+j) (∀s,s∈bs.map (·.1)↔(s.2∈(E5 i).map (·.1)∧s.1∈ZK s.2)∨∃(m:Nat) (hm:m<j) (hp:pidx es[i].2.1.length m<es[i].2.1.length),s=(es[i].2.1[Rp m],es[i].1))))
   ⟨⟨_,_,rfl⟩,hz,k2,bs,bx,kS,fun s=>(bf s).trans ⟨.inl,fun h=>by
    rcases h with z | ⟨m,hm,_⟩
    ·exact z
    ·exact absurd hm (Kl m)⟩⟩ (λj σ H' _ hh=>hh.3 _ _ bM (by simp[nrd,nrb])) ?_ ?_⟩
  ·rintro j y t σ H3 hy ⟨⟨y4,y5,rfl⟩,lG,k3,mx,eR,pI,gj⟩ ht
   have hj:j<es[i].2.1.length:=by
    have:=(LA hy).1
    rwa[Qa]at this
   have ni:y=.str es[i].2.1[j]:=by
    rw[Qo,Qd hj]at hy
    exact(Qn hy).symm
   subst ni
   have ub:pidx es[i].2.1.length j<es[i].2.1.length:=by unfold pidx;split<;>lia
   have tV:=k3 _ _ bM (by simp[nrd,nrb])
   have k4:Keep [] H3 (QS t (.tup [HM j,.str es[i].2.1[j]])):=Keep.new ht
   refine⟨t,wI,Rk zab,rfl,_,wI,_,wI,rfl,?_⟩
   generalize QS t (.tup [HM j,.str es[i].2.1[j]])=H4 at k4
   refine⟨wI,wI,SD,λv hv=>?_⟩
   have k5:Keep [] H4 (Q7 v (.tup [.str es[i].1,.str es[i].2.1[j]])):=Keep.new hv
   have hv5:(Q7 v (.tup [.str es[i].1,.str es[i].2.1[j]])) v=some (.tup [.str es[i].1,.str es[i].2.1[j]]):=zab
   generalize Q7 v (.tup [.str es[i].1,.str es[i].2.1[j]])=H5 at k5 hv5
   have lD:Keep [] H3 H5:=k4.trans k5
   have tU:=lD _ _ tV Ha
   have eS:atI (es[i].2.1.map V.str) ((j:Int)-1)=some (.str es[i].2.1[yA]):=by
    rw[atI_prev (Hl Qa hj),Qa,Qo,Qd ub];rfl
   refine⟨wI,wI,wI,_,wI,rfl,es[i].2.2,_,_,wI,rfl,Rk tU,eS,wI,SD,λq hq=>?_⟩
   have k6:Keep [] H5 (QP q (.tup [.str es[i].2.1[yA],.str es[i].1])):=Keep.new hq
   have hq6:(QP q (.tup [.str es[i].2.1[yA],.str es[i].1])) q=some (.tup ((kP (es[i].2.1[yA],es[i].1)).map kV)):=zab
   generalize QP q (.tup [.str es[i].2.1[yA],.str es[i].1])=H6 at k6 hq6
   have sL:Keep [] H3 H6:=lD.trans k6
   have kU:BAt H6 b mx RI:=eR.keep sL Ha RJ
   have hv6:=k6 _ _ hv5 Ha
   have sW:=sL _ _ lG Ha
   refine⟨b,wI,DPut.t kU.dc hq6 (by rw[Qa];lia),?_⟩
   have gr:(es[i].2.1[yA],es[i].1)∉mx.map (·.1):=λz=>by
    rcases(gj _).mp z with⟨z1,_⟩ | ⟨m,hm,ua,e⟩
    ·exact cI z1
    ·have e1:=(Jg e).1
     have e2:=(We aA).mp e1
     unfold pidx at e2
     by_cases hj0:j=0
     ·lia
     ·rw [Sb hj0] at e2
      by_cases hJ:m=0
      ·rw[if_pos hJ]at e2;lia
      ·rw[if_neg hJ]at e2;lia
   have jW:putK (mx.map λe=>(A0,OO)) (kP (es[i].2.1[yA],es[i].1)) (Hi v)=(mx++[((es[i].2.1[yA],es[i].1),v)]).map λe=>(A0,OO):=by
    rw[FU (valT_out gr),Qq];rfl
   have ar:Bt (es[i].2.1[yA],es[i].1)=(es[i].1,es[i].2.1[j]):=by
    show(es[i].1,nxt (ZK es[i].1) es[i].2.1[yA])=_
    rw[jQ,nxt_idx aA hj ub]
   refine⟨⟨_,wI⟩,Ht nbd sW,(TM (sL.sub Ha)).trans Sm,_,⟨by rw[zab,jW],λe he=>?_,?_⟩,?_,λs=>?_⟩
   ·rcases Ql.mp he with z | z
    ·have:=kU.tp e z
     rw[zaf (za1 this kU.dc Hg)];exact this
    ·rw[Qc.mp z,ar,zaf (za1 hv6 kU.dc Hg)];exact hv6
   ·rw [Qq,Ze]
    refine⟨eR.nd,EC ⟨Ha,Zn⟩,λx hx y hy e=>?_⟩
    have cr:y=(es[i].2.1[yA],es[i].1):=by simpa using hy
    exact gr (by rw[←cr,←e];exact hx)
   ·rw[Qw];show _+1≤_;exact zar4 ‹_›
   ·rw [Qq,Ql,gj]
    constructor
    ·rintro ((z | ⟨m,hm,hp,e⟩) | z)
     ·exact .inl z
     ·exact .inr ⟨m,by exact zar16 ‹_›,hp,e⟩
     ·exact .inr ⟨j,by exact Qe _,ub,He z⟩
    ·rintro (z | ⟨m,hm,hp,e⟩)
     ·exact .inl (RH z)
     ·by_cases hmj:m < j
      ·exact .inl (SC ⟨m,hmj,hp,e⟩)
      ·have:m=j:=by lia
       subst this
       exact .inr (Hl e Qb)
  ·rintro σ H3 ⟨⟨y4,y5,rfl⟩,lG,k3,mx,eR,pI,gj⟩
   rw[Qa]at gj pI
   refine⟨⟨_,_,_,wI⟩,lG,k3,mx,eR,HI,λs=>(gj s).trans ?_⟩
   have aS:(E5 HN).map (·.1)=(E5 i).map (·.1)++[es[i].1]:=by rw[Qi hi,Qq];rfl
   rw[aS,Ql,Qc]
   constructor
   ·rintro (⟨z1,z2⟩ | ⟨m,hm,hp,e⟩)
    ·exact⟨RH z1,z2⟩
    ·rw[e];exact⟨SC rfl,by rw[jQ];exact Qr hp⟩
   ·rintro ⟨z1 | z1,z2⟩
    ·exact .inl ⟨z1,z2⟩
    ·refine .inr ?_
     rw[z1,jQ]at z2
     obtain⟨q,hq,e⟩:=Zx z2
     by_cases gf:q+1<es[i].2.1.length
     ·have fh:pidx es[i].2.1.length (q+1) < es[i].2.1.length:=by unfold pidx;rw [Sb HI];assumption
      refine⟨q+1,gf,fh,Wj ?_ z1⟩
      show s.1=es[i].2.1[Rp (q+1)]
      rw[←e];congr 1
     ·have fh:pidx es[i].2.1.length 0 < es[i].2.1.length:=by unfold pidx;rw [EB];lia
      refine⟨0,HI,fh,Wj ?_ z1⟩
      show s.1=es[i].2.1[Rp 0]
      rw[←e];congr 1
      unfold pidx;rw[if_pos rfl];lia
 ·rintro σ H2 ⟨⟨x2,x3,x4,x5,rfl⟩,hz,k2,bs,bx,kS,bf⟩
  rw[Qa]at bf kS
  rw[Qs Hx]at bf
  refine⟨d,o,_,hz,nfz,?_⟩
  have kf:Keep [] H (QA d Ra):=λc u ec _=>by
   have nc:c≠b:=WM hb
   by_cases aJ:c=d
   ·subst aJ
    rw[zab,←T.dc];exact ec
   ·rw [zaf aJ]
    exact k2 c u Ps (by simp[aJ,nc])
  refine⟨wI,k b bs _ (bx.keep (xs:=[d]) Sm (by simpa using Zl nbd) (λe he=>by simpa using za1 (bx.tp e he) hz Hg)) (λs=>?_) HI hb kf⟩
  rw[bf]
  constructor
  ·exact λh=>h.2
  ·intro h
   refine⟨?_,h⟩
   obtain⟨p,hp,e,_⟩:=(zit (rs:=rsOf es) (by unfold rsOf;rw[List.map_map];exact T.nd)).mpr h
   obtain⟨en,bv,rfl⟩:=Qf.mp hp
   exact Qf.mpr ⟨en,bv,e⟩
end
abbrev sFaces:Stmt:=top 13
def zdp(H:Hp)(a:Nc)(h:Str):Prop:=∃t:List Str,H a=some (Hr ((h::t).map V.str))
def zfi(es:List Ent):List Str:=(es.filter λe=>e.2.1.isEmpty).map (·.1)
inductive IspFaces(vs:List V)(H:Hp)(Q:VK):Prop
 |mk (d:Nc) (es:List Ent) (cs:List (List (Str×Str))) (a9:Ny) (h0:vs=[.ref d]) (h1:TAt H d es) (h2:es.length≤60) (h3:(∀e∈es,e.2.1.length≤100)) (h4:Cert (es.map (·.1)) (row (rsOf es)) cs a9) (h5:∀(l:Nc) (as:No) (hd hc:Nh) (cs':List (List (Str×Str))) (H':Hp),H' l=some (.lst (as.map V.ref))→as.length≤20000→Paired (zdp H') as hd→hd.Perm (zfi es++hc)→cs'.Perm cs→Paired (λh c=>∃s∈c,s.1=h) hc cs'→Keep [] H H'→Q Sy H'):IspFaces vs H Q
def spFaces:Sp:=λvs H Q _=>IspFaces vs H Q
def pt_truthK{X:Cx}{K:Na}{a:Expr}{ta:TE}(hK:X.K=K)(ha:Ly)(he:∀whole,isTrue a X.env whole=(do let v ←whole;standAt a.pos;holding [v] Pg)) :
  PT X a (λ σ H Q=>ta σ H λx H'=>RTr K x H' Q):=hK▸ze0 ha he
def ndF:(["place", "rounds"]:List Str).Nodup:=by decide +kernel
def valG_out{gs:Nu}{s:Str×Str}(h:s∉gs):valV (gs.map λs=>(yi,Lx)) yi=none:=by
 induction gs with
 |nil=>rfl
 |cons a t ih =>
  rw[Qh,not_or]at h
  rw[Qm,zbl]
  ·exact ih h.2
  ·intro q;exact h.1 (kP_inj q).symm
def valG_in{gs:Nu}{s:Str×Str}(h:s∈gs):valV (gs.map λs=>(yi,Lx)) yi=some Ti:=by
 induction gs with
 |nil=>cases h
 | cons a t ih =>
  rw[Qm]
  by_cases e:a=s
  ·exact zcc (by rw[e])
  ·rw [zbl (fun q=>e (kP_inj q))]
   rcases Qh.mp h with z | z
   ·exact absurd z.symm e
   ·exact ih z
def lk_get{β:Type}{f:β→β}{e:β}:∀{t:List β} {s:β},Mt s t e→∀k,k<(s::t).length→f ((s::t).getD k e)=(s::t).getD (k+1) e:=by
 intro t
 induction t with
 |nil =>
  intro s h k hk
  have:k=0:=by simp at hk;exact hk
  subst this;exact h
 | cons a t ih =>
  intro s h k hk
  cases k with
  |zero=>exact h.1
  |succ n =>
   have:=ih h.2 n OS
   simpa using this
def zdd{H H':Hp}{D g:Nc}{fa:No}{hd:Nh}{xs:No}(k:W9 H')(h:Paired (zdp H) fa hd)(hx:∀a (h:Str) (t:Nh),H a=some (Hr ((h::t).map V.str))→a∉xs):Fw hd :=
 Paired.imp' (λa h ⟨t,e⟩=>⟨t,k _ _ e (hx a h t e)⟩) h
def zax{α β:Type}{R:α→β→Prop}:∀{as cn:List α} {bs my:List β},J3 as bs→J3 cn my→J3 (as++cn) (bs++my):=by
 intro as cn bs my r r'
 induction r with
 |nil=>exact r'
 |cons h t ih=>exact .cons h ih
section
variable{P:Nk}{w:Nn}{K:Na}{mg:Ng}{base:Np}
def zdf:zaj ["rounds", "behind", "found", "gone", "first", "face", "step"] ["rounds"] (zai sFaces):=fsk
def ok_faces{f fs:Nc}{fd fds:Nw}(F:QE "faces_of" "faces_of" sFaces f fd)(FS:QE "steps_behind" "steps_behind" sSteps fs fds)(bS:W7 fds ["rounds"] [])(mS:mg "steps_behind" = some (Hi fs))(GS:ZB 1 fs fds ["rounds"] spSteps)(aB:mg "sorted" = none):ZB 2 f fd ["rounds"] spFaces:=by
 refine F.okL zdf Hj
 obtain⟨d,es,cs,a9,rfl,T,aH,aV,C,k⟩:=h
 have hu:=zb6 hr
 have im:(A.deeper (PyProof.Rows.envOfC "faces_of" (zai sFaces) s.heap.objs.size f cdv)).units+8<cLine:=Js (Nat.add_le_add_left (by decide:8≤64) _) hr.units
 have ap  := sizeLine_eq
 refine⟨_,zad (M7 zdf.nd (zc0 GS hr rfl mS FS.kp bS .nil zdi SM))
  (zad (zgf (ps_lc (i:=2) (M:=["place", "rounds"]) (ix:=[none,Hs 0]) zdf.nd rfl rfl (mkB zdf) rfl Pr (λC a5 ex s H=>UN ndF)
    (λC a5 ex s H=>zci (pt_not (pt_truthK (K:=K) rfl (Aq (by exact hu) R6) (by intro _;rfl)))) (λC a5 ex s H=>za8 SM) rfl))
  (zad (Br zdf.nd pe_dnewT)
  (zad (Z4 (zas (Cy (zhc rfl) SH)) (KB zdf.nd)
   (zad (XR zdf.nd SN)
   (zad (M9 zdf.nd Sd)
   (zad (Mx (A3 Tx RX)
    (zad (zb5 hu RX Tx pe_bl rfl)
    (zad (Cz So (zm 6))
    (zag (M9 zdf.nd (My Rj Tx))))))
   (zag (zbn (ze0 So (by intro _;rfl)) (zag (Cz Sc LI)) zap))))))
  (zag (zaq (Cy (zfk im) Sn)))))),?_⟩
 have am:∀e∈es,ZK e.1=e.2.1:=λe he=>zay T.nd he
 refine⟨wI,d,es,rfl,T,aH,λe he=>⟨am e he▸C.rn e.1,aV e he⟩,λb bs H1 hX bf kS hbfr k1=>?_⟩
 have T1:TAt H1 d es:=M8 Ha RJ
 have nfz:∀o' u',H d≠some Te:=λo' u' z=>by rw[T.dc]at z;cases z
 refine⟨_,rfl,d,_,rfl,T1.dc,λo=>⟨λi m ys τ H2=>Aj6 (m=es.length-i) (i≤es.length) (Ex1 λx0=>τ=[x0,Tf]) (H2 d=some OZ) (Keep [d] H1 H2) (Ex1 λ(as:No)=>Aj3 (ys=as.map V.ref) (as.length≤i) (yF (zdp H2) (zfi (E5 i)))),
  ⟨es.length,rfl,SJ,⟨none,rfl⟩,zab,SX,[],rfl,SJ,.nil⟩,?_⟩⟩
 rintro i m ys τ H2 ⟨rfl,hi,⟨x0,rfl⟩,hz,k2,fa,rfl,hU,lP⟩
 by_cases ad:i<es.length
 ·refine .inr ⟨⟨hz,by rw [Qa];exact ad⟩,by rw [Qa];lia,?_⟩
  rintro y H' ⟨rfl,pr,e1,rfl⟩
  have g1:pr=((Sum.inr es[i].1:Key),V.ref es[i].2.2):=by
   rw[Qo,Qd ad]at e1
   exact(Qn e1).symm
  subst g1
  have bh:es[i]∈es:=Qr ad
  have fe:=T1.ro _ bh
  have nri:es[i].2.2≠d:=za1 fe T1.dc Hg
  have jS:=k2 _ _ fe (He nri)
  have aS:es.take HN=es.take i++[es[i]]:=Qi ad
  refine⟨wI,wI,d,.ref es[i].2.2,rfl,RH ⟨_,Sum.inr es[i].1,SC ⟨o,hz⟩,rfl,(zb7 T.nd bh).symm⟩,_,SC (RH ⟨_,Rk jS,rfl⟩),?_⟩
  have rA:(es[i].2.1.map V.str).isEmpty=es[i].2.1.isEmpty:=by cases es[i].2.1<;>rfl
  cases hb:es[i].2.1.isEmpty with
  | false =>
   refine za7 (by rw[rA,hb];rfl) ⟨_,?_,rfl,ad,⟨_,rfl⟩,hz,k2,fa,rfl,by exact zar16 ‹_›,?_⟩
   ·exact zar1 ‹_›
   ·unfold zfi
    rw[aS,Yh,Zp (by rw[hb];decide),Yz,Zs];exact lP
  | true =>
   refine zbf (by rw[rA,hb];rfl) ⟨_,rfl,EM,λq hq=>⟨_,?_,rfl,ad,⟨_,rfl⟩,?_,Tr IQ,fa++[q],?_,?_,?_⟩⟩
   ·exact zar1 ‹_›
   ·rw[zaf (KU hq)];exact hz
   ·rw[Qq];rfl
   ·rw[Qw];show _+1≤_;exact zar4 ‹_›
   ·unfold zfi
    rw[aS,Yh,Zo (by rw[hb]),Yz,Qq]
    exact zax (zdd (D:=d) (g:=d) (xs:=[]) IQ lP (λ_ _ _ _=>by simp)) (Sa ⟨[],zab⟩)
 ·have ck:i=es.length:=by exact zar3 ‹_› ‹_›
  subst ck
  rw[Qs Hx]at lP
  refine .inl ⟨⟨hz,Rm Qa⟩,λD hD=>?_⟩
  have ndD:d≠D:=KU hD
  refine⟨d,o,_,yj,nfz,?_⟩
  have k3:Keep [] H1 (YC Ra):=λc u ec _=>by
   by_cases aJ:c=d
   ·subst aJ
    rw[zab,←T1.dc];exact ec
   ·have qh:=k2 c u ec (He aJ)
    rw[zaf aJ,zaf (zy qh hD)];exact qh
  have cz:(YC Ra) D=some yG:=by rw[zaf (Zl ndD)];exact zab
  have dh:Paired (zdp (YC Ra)) fa (zfi es):=Paired.imp' (λa h ⟨t,e⟩=>⟨t,by
   rw[zaf (za1 e hz Hg),zaf (XN hD)];exact e⟩) lP
  generalize YC Ra=H3 at k3 cz dh
  have eR:BAt H3 b bs RI:=hX.keep k3 Ha RJ
  refine λg hg=>?_
  have k4:Keep [] H3 (QS g (.dT [])):=Keep.new hg
  have hg4:(QS g (.dT [])) g=some (.dT []):=zab
  generalize QS g (.dT [])=H4 at k4 hg4
  have pN:BAt H4 b bs RI:=eR.keep k4 Ha RJ
  refine⟨wI,b,_,bs.map (·.1),rfl,pN.dc,(by rw[Zj,Zj];rfl),λl as ws hl ag pa=>?_⟩
  have k5:Keep [] H4 (Q7 l Rz):=Keep.new hl
  have cj:(Q7 l Rz) l=some Rz:=zab
  have iX:zbu (Q7 l Rz) as ws:=zbu.keep pa λc x y ec=>k5 _ _ ec Ha
  have nDl:D≠l:=zac (k4 _ _ cz Ha) hl
  generalize Q7 l Rz=H5 at k5 cj iX
  have lD:Keep [] H3 H5:=k4.trans k5
  have q5:=lD _ _ cz Ha
  have pd:=k5 _ _ hg4 Ha
  have jx:BAt H5 b bs RI:=pN.keep k5 Ha RJ
  have iD:Paired (zdp H5) fa (zfi es):=zdd (D:=d) (g:=d) lD dh (λ_ _ _ _=>by simp)
  have gR:Keep [] H H5:=(Lm k3).trans lD
  have nlg:l≠g:=za1 cj pd Hg
  have nDg:D≠g:=za1 q5 pd Hg
  have nbg:b≠g:=zac eR.dc hg
  have nbD:b≠D:=za1 jx.dc q5 Hg
  have aW:as.length=ws.length:=Zy iX
  have dw:ws.length≤10000:=by rw[ag.length_eq,Qa];exact kS
  have notDg:∀{H':Hp} {rS:No} {gs:Nu},H' D=some (Hr (rS.map V.ref))→H' g=some (.dT (gs.map λs=>(yi,Lx)))→∀a (h:Str) (t:Nh),H' a=some (Hr ((h::t).map V.str))→a≠D∧a≠g:=λ{H' rS gs} e1 e2 a h t e =>
   ⟨za1 e e1 (by
    intro z
    have z':(h::t).map V.str=rS.map V.ref:=by injection z
    cases rS with
    |nil=>cases z'
    |cons x u=>rw[Qm,Qm]at z';injection z' with z1 _;cases z1),za1 e e2 Hg⟩
  refine⟨l,rfl,⟨_,Hk cj⟩,zbc (xs:=as.map V.ref) (λi σ H'=>Aj3 (Ex3 λx4 x5 x6=>σ=[Tf,Hc b,Hc D,Hc g,x4,x5,x6]) (Keep [D,g] H5 H') (Ex5 λ(gs:Nu) (dn rem:wC (Str×Str)) (fa:No) (hc:Nh)=>Aj9 (H' g=some (.dT (gs.map λs=>(yi,Lx)))) gs.Nodup (∀s,s∈gs↔s∈dn.flatten) (cs.Perm (dn++rem)) (∀s∈ws.take i,s∈gs) (H' D=some yG) (Fw (zfi es++hc)) (Paired (λh c=>∃s∈c,s.1=h) hc dn) (fa.length≤100+i)))
   ⟨⟨_,_,_,rfl⟩,Keep.refl,[],[],cs,fa,[],pd,Zn,λs=>Iff.rfl,List.Perm.refl _,λs hs=>(by cases hs),q5,Hl Zs iD,.nil,Hb⟩
   (λi σ H' _ hh=>SqL.of (Ea cj (by simp[Zl nDl,nlg]))) ?_ ?_⟩
  ·rintro i y σ H6 hx ⟨⟨x4,x5,x6,rfl⟩,k6,gs,dn,rem,qe,dG,uH,uG,kE,fB,qJ,rK,iC,aJ,pi⟩
   have hi:i<as.length:=by
    have:=(LA hx).1
    rwa[Qa]at this
   have ie:y=.ref as[i]:=by
    rw[Qo,Qd hi]at hx
    exact(Qn hx).symm
   subst ie
   obtain⟨aq,kX⟩:=za5 iX hi
   have nag:as[i]≠g:=za1 kX pd Hg
   have naD:as[i]≠D:=za1 kX q5 Hg
   have pT:=k6 _ _ kX (by simp[nag,naD])
   have gU:ws[i]∈ws:=Qr aq
   have qW:ws[i].1∈ZK ws[i].2:=(bf _).mp (ag.mem_iff.mp gU)
   have hwt:∀{rO:Nu},(∀s∈gs,s∈rO)→ws[i]∈rO→∀s∈ws.take HN,s∈rO:=λ{rO} h1 h2 s hs=>by
    rw[Qi aq]at hs
    rcases Ql.mp hs with z | z
    ·exact h1 s (qJ s z)
    ·rw[Qc.mp z];exact h2
   refine⟨Lq,λfl gA=>?_⟩
   have k7:Keep [] H6 (WD fl HL):=Keep.new gA
   have ce:(WD fl HL) fl=some HL:=zab
   have nfD:fl≠D:=Zl (zy rK gA)
   have nfg:fl≠g:=Zl (zy uH gA)
   have nafl:as[i]≠fl:=zac pT gA
   generalize WD fl HL=H7 at k7 ce
   have oZ:=k7 _ _ uH Ha
   have vc:=k7 _ _ rK Ha
   have pS:=k7 _ _ pT Ha
   have gP:Keep [D,g] H5 H7:=k6.trans Oy
   have uW:BAt H7 b bs RI:=jx.keep gP (by simp[nbD,nbg]) λe he=>by
    have h1:=jx.tp e he
    simp[N3 q5 Hg,N3 pd Hg]
   have nbfl:b≠fl:=za1 uW.dc ce Hg
   have o7:Paired (zdp H7) qe (zfi es++dG):=zdd (D:=d) (g:=d) k7 iC (λ_ _ _ _=>by simp)
   refine⟨wI,?_⟩
   by_cases gq:ws[i]∈gs
   ·-- it is gone already
    refine⟨λm σ H'=>Aj2 (σ=[Tf,Hc b,Hc D,Hc g,Hs (.ref as[i]),Hc fl,Hs (.ref as[i])]) (H'=H7),⟨0,rfl,rfl⟩,?_⟩
    rintro m σ H' ⟨rfl,rfl⟩
    have dg:=DGet.t (k:=kP ws[i]) oZ pS
    rw[valG_in gq]at dg
    refine⟨wI,wI,g,wI,dg,wI,WG ?_⟩
    refine⟨wI,_,RH ⟨_,Hk ce,rfl⟩,WG ?_⟩
    exact⟨⟨_,_,wI⟩,gP,gs,dn,rem,qe,dG,oZ,uG,kE,fB,hwt (λ_ h=>h) gq,vc,o7,aJ,by exact zar16 ‹_›⟩
   ·-- a new cycle
    obtain⟨c,bV,nQ⟩:=Zu.mp ((C.cm ws[i]).mpr qW)
    obtain⟨A1,B1,eU⟩:=Yq nQ
    have lT:=zc7 (eU▸Bq bV)
    generalize hL:ws[i]::(B1++A1)=L
    have dI:L.Perm c:=by
     rw[←hL,eU]
     refine Jl.mpr λa=>?_
     simp only[Ka,Km];lia
    have cc:=(List.Perm.flatten fB).nodup_iff.mp C.cf
    rw[Wq,Ze]at cc
    have jt:c∈rem:=by
     rcases Ql.mp (fB.mem_iff.mp bV) with z | z
     ·exact absurd ((kE _).mpr (yg ⟨c,z,nQ⟩)) gq
     ·exact z
    have hLg:∀s∈L,s∉gs:=λs hs hg=>by
     exact absurd rfl (cc.2.2 s ((kE s).mp hg) s (yg ⟨c,jt,wG hs⟩))
    have pX:L.Nodup:=by
     rw[dI.nodup_iff]
     have:=(zb3 bV).nodup_iff.mp C.cf
     rw[Ze]at this
     exact this.1
    have pW:∀s∈L,s.1∈ZK s.2:=λs hs=>C.inc bV (wG hs)
    have hLpos:0<L.length:=by rw[←hL];simp
    have aR:gs++L |>.Nodup:=Ze.mpr ⟨uG,pX,λa ha b' dk e=>hLg b' dk (e▸ha)⟩
    have hsz:(gs++L).length≤10000:=by
     refine Zg (nodup_len aR (m:=bs.map (·.1)) λs hs=>?_) (Hl Qa kS)
     rcases Ql.mp hs with z | z
     ·obtain ⟨c',cP,bZ⟩:=Zu.mp ((kE s).mp z)
      exact(bf s).mpr (C.inc (fB.mem_iff.mpr (YF cP)) bZ)
     ·exact(bf s).mpr (pW s z)
    rw[Qw]at hsz
    have iM:∀k (hk:k<L.length),Bt L[k]=L.getD (k+1) ws[i]:=λk hk=>by
     have:=lk_get lT k (Hl hL hk)
     rw[hL,Zf,Qd hk]at this
     exact this
    refine⟨λm σ H'=>Ex2 λ(k:Nat) (t:Nc)=>Aj7 (m=L.length-k) (k≤L.length) (σ=[Tf,Hc b,Hc D,Hc g,Hs (.ref as[i]),Hc fl,Hc t]) (Keep [g,fl] H7 H') (H' g=some (EO k)) (H' fl=some (RE k)) (H' t=some (.tup [.str (L.getD k ws[i]).1,.str (L.getD k ws[i]).2])),
     ⟨_,0,as[i],rfl,SJ,rfl,Keep.refl,by rw[Kq,Zs];exact oZ,ce,by rw[←hL];exact pS⟩,?_⟩
    rintro m σ H8 ⟨k8,t,rfl,hk8,rfl,i8,oW,gy,df⟩
    have dg:=DGet.t (k:=kP (L.getD k8 ws[i])) oW df
    by_cases eI:k8<L.length
    ·have gC:L.getD k8 ws[i]=L[k8]:=by rw [Zf,Qd eI];rfl
     have aS:L.take (k8+1)=L.take k8++[L[k8]]:=Qi eI
     have cI:L[k8]∉gs++L.take k8:=λz=>by
      rcases Ql.mp z with q | q
      ·exact hLg _ (Qr eI) q
      ·have:=Yx (Ur (k8+1) L) pX
       rw[aS,Ze]at this
       exact this.2.2 _ q _ SL rfl
     rw[gC]at df dg
     rw[valG_out cI]at dg
     refine⟨wI,wI,g,wI,dg,wI,W8 ?_⟩
     refine⟨_,λ σ' H' z=>z,?_⟩
     have oB:(HV k8).length<sizeLine:=by
      rw[Qa,Qw,Zt];lia
     refine⟨wI,wI,g,wI,DPut.t (k:=kP L[k8]) oW df oB,?_⟩
     have jW:putK (HV k8) (kP L[k8]) Ti=(gs++L.take (k8+1)).map λs=>(yi,Lx):=by
      rw[FU (valG_out cI),aS,←Qv,Qq (l₂:=[L[k8]])];rfl
     rw[jW]
     have ntg:t≠g:=za1 df oW Hg
     have ntfl:t≠fl:=za1 df gy Hg
     have k9:Keep [g,fl] H7 (BI g (EO (k8+1))):=i8.trans Sm
     have hg9:(BI g (EO (k8+1))) g=some (EO (k8+1)):=zab
     have kG:(BI g (EO (k8+1))) fl=some (RE k8):=by rw[zaf nfg];exact gy
     have gX:(BI g (EO (k8+1))) t=some (.tup [.str L[k8].1,.str L[k8].2]):=by rw[zaf ntg];exact df
     generalize BI g (EO (k8+1))=H9 at k9 hg9 kG gX
     refine⟨wI,RC kG,wI,t,_,_,wI,rfl,Rk gX,zaw (j:=0) rfl,fl,_,wI,rfl,kG,(by rw[Qa,Qa,Zt];lia),?_⟩
     have hfe:((L.take k8).map (·.1)).map V.str++[V.str L[k8].1]=((L.take (k8+1)).map (·.1)).map V.str:=by rw[aS,Qq,Qq];rfl
     rw[hfe]
     have sQ:Keep [g,fl] H7 (Vy fl (RE (k8+1))):=k9.trans Sm
     have pe:(Vy fl (RE (k8+1))) g=some (EO (k8+1)):=by rw[zaf (Zl nfg)];exact hg9
     have jm:(Vy fl (RE (k8+1))) fl=some (RE (k8+1)):=zab
     have nM:(Vy fl (RE (k8+1))) t=some (.tup [.str L[k8].1,.str L[k8].2]):=by rw[zaf ntfl];exact gX
     generalize Vy fl (RE (k8+1))=i6 at sQ pe jm nM
     have kW:BAt i6 b bs RI:=uW.keep sQ (by simp[nbg,nbfl]) λe he=>by
      have h1:=uW.tp e he
      simp[N3 oZ Hg,N3 ce Hg]
     obtain⟨e,he,hee⟩:=Qf.mp ((bf L[k8]).mpr (pW _ (Qr eI)))
     have dg2:=DGet.t (k:=kP L[k8]) kW.dc nM
     rw[←hee,valT_in kW.nd he]at dg2
     have gW:=kW.tp e he
     rw[hee,iM k8 eI]at gW
     refine⟨wI,wI,b,wI,dg2,L.length-(k8+1),Hz,k8+1,e.2,rfl,eI,rfl,sQ,pe,jm,gW⟩
    ·have hk:k8=L.length:=by exact zar3 ‹_› ‹_›
     subst hk
     have gC:L.getD L.length ws[i]=ws[i]:=by rw[Zf,Kd Hx];rfl
     rw[Qs Hx]at oW gy dg
     have hwL:ws[i]∈L:=by rw[←hL];exact Qb
     rw[gC,valG_in (WK hwL)]at dg
     refine⟨wI,wI,g,wI,dg,wI,WG ?_⟩
     have az:((L.map (·.1)).map V.str).isEmpty=false:=by rw[←hL];rfl
     refine⟨wI,_,RH ⟨_,Hk gy,rfl⟩,zbf (by rw[az];rfl) ?_⟩
     have hD8:=i8 _ _ vc (by simp[nDg,Zl nfD])
     refine⟨wI,RC hD8,wI,D,_,wI,rfl,hD8,(by rw[Qa];lia),?_⟩
     have k9:Keep [D,g] H5 (BI D (.lst (qe.map V.ref++[Hi fl]))):=by
      refine Keep.trans (λc' u' ec cP=>?_) Sm
      have h7:=gP c' u' ec cP
      refine i8 c' u' h7 ?_
      have ncg:c'≠g:=λz=>cP (by simp[z])
      have ncf:c'≠fl:=λz=>by
       have:=k6 c' u' ec cP
       rw[z,gA]at this;cases this
      simp[ncg,ncf]
     refine⟨⟨_,_,wI⟩,k9,gs++L,dn++[c],rem.erase c,qe++[fl],dG++[ws[i].1],Ht (Zl nDg) oW,aR,λs=>?_,?_,hwt (λs hs=>YF hs) (WK hwL),by rw[zab,Qq];rfl,?_,zax aJ (Sa ⟨ws[i],nQ,rfl⟩),by rw[Qw];show _+1≤_;exact zar4 ‹_›⟩
     ·rw[Ql,kE,Wq,Ql,Wf,List.flatten_nil,Zs,dI.mem_iff]
     ·refine fB.trans ?_
      rw[Qv]
      exact Mj (Ki jt)
     ·rw [← Qv]
      refine zax (Paired.imp' (λa h ⟨t,e⟩=>⟨t,?_⟩) o7) (Sa ⟨(B1++A1).map (·.1),?_⟩)
      ·have n1:=notDg vc oZ a h t e
       have naf:a≠fl:=za1 e ce (by intro z;injection z with z;cases z)
       rw[zaf n1.1]
       exact i8 _ _ e (by simp[n1.2,naf])
      ·rw[zaf nfD,gy,←hL];rfl
  ·rintro σ H6 ⟨⟨x4,x5,x6,rfl⟩,k6,gs,dn,rem,qe,dG,uH,uG,kE,fB,qJ,rK,iC,aJ,pi⟩
   rw[Qa,aW,Qs Hx]at qJ
   have tW:rem=[]:=by
    cases rem with
    |nil=>rfl
    |cons c rem' =>
     have pH:c∈cs:=fB.mem_iff.mpr E8
     obtain⟨s0,t0,hW,_⟩:=Bq pH
     have ap:s0∈c:=by rw[hW];exact Qb
     have h1:s0∈ws:=ag.mem_iff.mpr ((bf s0).mpr (C.inc pH ap))
     have h2:=(kE s0).mp (qJ s0 h1)
     have h3:=(List.Perm.flatten fB).nodup_iff.mp C.cf
     rw[Wq,Ze]at h3
     exact absurd rfl (h3.2.2 s0 h2 s0 (yg ⟨c,Qb,ap⟩))
   rw[tW,Zs]at fB
   refine⟨wI,D,wI,Hk rK,λv hv=>?_,λl7 ws7 bd jY=>?_⟩
   ·obtain ⟨a,ha,rfl⟩:=Qf.mp hv
    obtain⟨j,hj,rfl⟩:=Zx ha
    obtain⟨_,t,e⟩:=za5 iC hj
    exact⟨_,wI,e⟩
   ·obtain ⟨as7,rfl,bm⟩:=refs_perm jY
    obtain⟨hd7,dz,cG⟩:=zen bm iC
    refine k l7 as7 hd7 dG dn _ zab (by rw[bm.length_eq];rw[Qa]at pi;lia) (Paired.imp' (λa h ⟨t,e⟩=>⟨t,Ht (XN bd) e⟩) cG) dz fB.symm aJ ?_
    refine(λc u ec _=>?_)
    have nD:c≠D:=λz=>by
     by_cases zd:c=d
     ·exact ndD (zd▸z)
     ·have h2:=k2 c u Ps (He zd)
      rw[z,hD]at h2;cases h2
    have nG:c≠g:=λz=>by
     have h1:=k3 c u Ps Ha
     rw[z,hg]at h1;cases h1
    have:=k6 c u (gR c u ec Ha) (by simp[nD,nG])
    rw[zaf (zac this bd)];exact this
end
abbrev zhj:Stmt:=top 14
abbrev zie:Stmt:=top 15
def marks(ks:Nh):List (Key×V):=ks.map λz=>((Sum.inr z:Key),Lx)
def zh3(h:x∉ks):valV (marks ks) EA=none:=by
 unfold marks
 induction ks with
 |nil=>rfl
 |cons a t ih =>
  rw[Qh,not_or]at h
  rw[Qm,zbl]
  ·exact ih h.2
  ·intro q;exact h.1 (Wc q).symm
def valM_in(h:x∈ks):valV (marks ks) EA=some Ti:=by
 unfold marks
 induction ks with
 |nil=>cases h
 | cons a t ih =>
  rw[Qm]
  by_cases e:a=x
  ·exact zcc (by rw[e])
  ·rw [zbl (fun q=>e O7)]
   rcases Qh.mp h with z | z
   ·exact absurd z.symm e
   ·exact ih z
def putM_new(h:x∉ks):V9 Ti=marks (ks++[x]):=by
 rw[FU (zh3 h)];unfold marks;rw[List.map_append];rfl
def putM_old(h:x∈ks):V9 Ti=marks ks:=by
 unfold putK marks
 rw[if_pos]
 ·rw [Zj]
  refine Yc λz _=>?_
  show(if(Sum.inr z:Key)=Sum.inr x then((Sum.inr z:Key),Lx) else(Ob,Lx))=_
  split<;>rfl
 ·exact Yn.mpr ⟨_,La ⟨x,h,rfl⟩,Ha⟩
def mkeys(ks:Nh):((marks ks).map λp=>kV p.1)=ks.map V.str:=by unfold marks;rw[List.map_map];rfl
inductive IspPiece(vs:List V)(H:Hp)(Q:VK):Prop
 |mk (d:Nc) (es:List Ent) (cs:List (List (Str×Str))) (a9:Ny) (x:Str) (h0:vs=[.ref d,.str x]) (h1:TAt H d es) (h2:es.length≤60) (h3:Cert (es.map (·.1)) (row (rsOf es)) cs a9) (h4:x∈es.map (·.1)) (h5:∀(l:Nc) (zs:Nh) (H':Hp),H' l=some (.lst (zs.map V.str))→zs.Nodup→zs.Pairwise leS→(∀y,y∈zs↔y∈es.map (·.1)∧a9 y=a9 x)→H l=none→Keep [] H H'→Q (.ref l) H'):IspPiece vs H Q
def spPiece:Sp:=λvs H Q _=>IspPiece vs H Q
def seqO(b:Bool)(xs:List V):HO:=bif b then .tup xs else .lst xs
structure GAt(b:Bool)(H:Hp)(d:Nc)(es:List Ent):Prop where
 dc:H d=some Ra
 ro:∀e∈es,H e.2.2=some (seqO b CQ)
 nd:(es.map (·.1)).Nodup
def GAt.keep(r:GAt b H d es)(k:W9 H')(hd:d∉xs)(h:∀e∈es,e.2.2∉xs):GAt b H' d es:=⟨zi,λe he=>k _ _ EL (h e he),r.nd⟩
def SqB(b:Bool)(K:Na)(H:Hp)(a:Nc)(xs:List V):Prop:=bif b then JT xs else W0 xs
def ItB(b:Bool)(K:Na)(a:Nc):It:=bif b then FJ a else K7 a
def SqB.of{b:Bool}{K:Na}{H:Hp}{a:Nc}{xs:List V}(h:H a=some (seqO b xs)):FV H a xs:=by
 cases b
 ·exact SqL.of h
 ·exact SqT.of h
def GAt.sq{b:Bool}{K:Na}{H:Hp}{d:Nc}{es:List Ent}{e:Ent}(r:GAt b H d es)(he:e∈es):FV H e.2.2 CQ:=SqB.of EL
def iB(b:Bool)(K:Na)(tl:TE):TI:=λ σ H R=>tl σ H λx H1=>RI1 x (λa=>∃xs,FV H1 a xs) λa=>R (FW a) H1
def pi_b(b:Bool){X:Cx}{tg l:Expr}{tl:TE}(hl:P4):UK l (iB b X.K tl):=by
 cases b
 ·exact zas hl
 ·exact pi_tup hl
def for_b(b:Bool){K:Na}{a:Nc}{xs:List V}{g:TG}{tb:TS}{D:Ends}{σ:St}{H:Hp}(Pv:Nat→St→Hp→Prop)(h0:CI)(hl:∀i σ H,i≤xs.length→Pv i σ H→FV H a xs)(hs:∀i x σ H,xs[i]?=some x→Pv i σ H→g x σ H λ σ2 H2=>tb {D with nx:=Pv HN,ct:=Pv HN,bk:=D.nx} σ2 H2)(hd:∀σ H,Pv xs.length σ H→W1 H) :
  ∃W:Nat→Nat→St→Hp→Prop,(∃m,W 0 m σ H)∧∀i m σ H,W i m σ H →
   ((FW a).stop i H∧W1 H)∨((FW a).go i H∧∃N:St→Hp→Prop,Hy∧∀x H',(FW a).yld i H x H'→g x σ H' λ σ2 H2=>tb {D with nx:=N,ct:=N,bk:=D.nx} σ2 H2):=by
 cases b
 ·exact zbc Pv h0 hl hs hd
 ·exact for_tup Pv h0 hl hs hd
inductive IspPieceG(b:Bool)(vs:List V)(H:Hp)(Q:VK):Prop
 |mk (d:Nc) (es:List Ent) (x:Str) (h0:vs=[.ref d,.str x]) (h1:GAt b H d es) (h2:es.length≤60) (h3:∀z y,y∈row (rsOf es) z→y∈es.map (·.1)) (h4:x∈es.map (·.1)) (h5:∀(l:Nc) (zs:Nh) (H':Hp),H' l=some (.lst (zs.map V.str))→zs.Nodup→zs.Pairwise leS→(∀y,y∈zs↔Conn (row (rsOf es)) x y)→H l=none→Keep [] H H'→Q (.ref l) H'):IspPieceG b vs H Q
def spPieceG(b:Bool):Sp:=λvs H Q _=>IspPieceG b vs H Q
section
variable{P:Nk}{w:Nn}{K:Na}{mg:Ng}{base:Np}
def zgb:zaj ["rounds", "start", "reached", "waiting", "place", "other"] ["rounds", "start"] (zai zhj):=fsk
def ok_pieceG(b:Bool){f:Nc}{fd:Nw}(F:QE "piece_from" "piece_from" zhj f fd)(aB:mg "sorted" = none):ZB 1 f fd ["rounds", "start"] (spPieceG b):=by
 refine F.okL zgb Hj
 obtain⟨d,es,x,rfl,T,aH,gH,hx,k⟩:=h
 have hu:=zb6 hr
 have ap  := sizeLine_eq
 refine⟨_,zad (Ve zgb.nd (pe_disp (pps_cons Rj pe_bl pps_nil) rfl rfl Hf Hf))
  (zad (Br zgb.nd (za8 SH))
  (zad (Mx (ze0 RX (by intro _;rfl))
   (zad (Bb zgb.nd (pe_bm0 Zr PySem.F.slot_list_pop PySem.F.type_list_pop mt_pop RX))
   (zag (Z4 (pi_b b (QV Sd)) (XB zgb.nd)
    (zag (zbn (A3 So Sc)
     (zad xZ
     (zag (Cz RX LI))) zap))))))
  (zag (zaq (Cy (zdo rfl) Sn))))),?_⟩
 have am:∀e∈es,ZK e.1=e.2.1:=λe he=>zay T.nd he
 refine λre bQ=>⟨_,rfl,zab,[(EA,Ti)],rfl,(by show 1≤15;decide),?_⟩
 have hJ:(zhp [] [((Sum.inr x:Key),Lx)])=marks [x]:=rfl
 rw[hJ]
 have kre:Keep [] H (upd xa re (ID (marks [x]))):=by rw[upd_upd];exact Keep.new bQ
 have eB:(upd xa re (ID (marks [x]))) re=some (ID (marks [x])):=zab
 generalize upd xa re (ID (marks [x]))=H1 at kre eB
 refine⟨wI,EM,λwa tu=>?_⟩
 have k2:Keep [] H (QK wa (.lst [Ef])):=kre.trans (Ho tu)
 have jJ:H wa=none:=zao (xs:=[]) kre tu Ha
 have nz:(QK wa (.lst [Ef])) wa=some (Hr ([x].map V.str)):=zab
 have lA:re≠wa:=zac eB tu
 have fW:(QK wa (.lst [Ef])) re=some (ID (marks [x])):=by rw[zaf lA];exact eB
 generalize QK wa (.lst [Ef])=H2 at k2 nz fW
 have T2:GAt b H2 d es:=T.keep k2 Ha RJ
 have sG:d≠re:=Mw bQ
 have ndw:d≠wa:=Mw jJ
 have rowne:∀e∈es,e.2.2≠re∧e.2.2≠wa:=λe he=>⟨zy (T.ro e he) bQ,zy (T.ro e he) jJ⟩
 refine⟨λm σ H'=>Aj3 (Ex2 λx4 x5=>σ=[Tf,Sx x,Hc re,Hc wa,x4,x5]) (Keep [re,wa] H2 H') (Ex2 λ(ks wl:Nh)=>Aj9 (H' re=some wb) (H' wa=some (Hr (wl.map V.str))) ks.Nodup wl.Nodup (∀z∈wl,z∈ks) (∀z∈ks,z∈es.map (·.1)∧N4 z) (x∈ks) (∀z∈ks,z∉wl→∀y∈ZK z,y∈ks) (m=es.length+wl.length-ks.length)),
  ⟨_,⟨none,none,rfl⟩,Keep.refl,[x],[x],fW,nz,EC ⟨Ha,Zn⟩,EC ⟨Ha,Zn⟩,λz h=>h,λz h=>(by rw[Qc.mp h];exact⟨hx,.refl⟩),Qb,λz h h'=>absurd h h',rfl⟩,?_⟩
 rintro m σ H3 ⟨⟨x4,x5,rfl⟩,k3,ks,wl,cF,jL,fk,dW,qI,jh,hxk,bE,rfl⟩
 have hkle:ks.length≤es.length:=by
  have:=zb9 fk (m:=es.map (·.1)) λz hz=>(jh z hz).1
  rwa[Qa]at this
 have nr:wl.length≤ks.length:=zb9 dW qI
 refine⟨wI,_,RH ⟨_,Hk jL,rfl⟩,?_⟩
 rcases List.eq_nil_or_concat wl with dw | ⟨ini,z,dw⟩
 ·-- all are reached
  subst dw
  refine WG ?_
  refine⟨wI,re,_,ks,rfl,RH cF,mkeys ks,λl zs hl ag au=>?_⟩
  have kf:Keep [] H H3:=λc u ec _=>k3 c u (k2 c u ec Ha) (by simp[WM bQ,WM jJ])
  refine k l zs _ zab (Ab fk) wc (λy=>?_) (yH kf hl) (kf.trans A4)
  rw[ag.mem_iff]
  constructor
  ·exact λh=>(jh y h).2
  ·intro hc
   induction hc with
   |refl=>exact hxk
   |step _ hz ih=>exact bE _ ih Ha _ hz
 ·rw [List.concat_eq_append] at dw
  subst dw
  refine zbf (by rw[Qq];cases ini<;>rfl) ?_
  refine⟨_,λ σ' H' zz=>zz,?_⟩
  have f8:z∈ks:=qI z E8
  obtain⟨en,bv,cT⟩:=Qf.mp (jh z f8).1
  have nh:en.1=z:=cT
  rw[Ze]at dW
  obtain⟨ao,_,uP⟩:=dW
  have hzi:z∉ini:=λq=>uP z q z Qb rfl
  have gf:((ini++[z]).map V.str)[((ini++[z]).map V.str).length-1]?=some Pl:=by
   rw[Qq,Qw,Kr Ha]
   simp
  have lY:((ini++[z]).map V.str).dropLast=ini.map V.str:=by rw[Qq];exact List.dropLast_concat
  refine⟨wI,RC jL,wa,_,wI,rfl,jL,gf,?_⟩
  rw[lY]
  have k4:Keep [re,wa] H2 (QS wa TN):=k3.trans Sm
  have ny:(QS wa TN) wa=some TN:=zab
  have fV:(QS wa TN) re=some wb:=by rw[zaf lA];exact cF
  generalize QS wa TN=H4 at k4 ny fV
  have T4:GAt b H4 d es:=T2.keep k4 (by simp[sG,ndw]) λe he=>by simp[(rowne e he).1,(rowne e he).2]
  have dg:DGet H4 d Pl Ih:=by
   have:=DGet.k (k:=Sum.inr en.1) T4.dc
   rw[zb7 T4.nd bv,nh]at this
   exact this
  have hrz:ZK z=en.2.1:=by rw[←nh];exact am en bv
  refine⟨_,rfl,_,rfl,d,_,rfl,dg,en.2.2,rfl,⟨_,GAt.sq T4 bv⟩,for_b b (xs:=en.2.1.map V.str) (λj σ H'=>Aj3 (Ex1 λx5=>σ=[Tf,Sx x,Hc re,Hc wa,Sx z,x5]) (Keep [re,wa] H2 H') (Ex1 λ(nw:Nh)=>Aj5 (H' re=some (Tq (ks++nw))) (H' wa=some (Hr ((ini++nw).map V.str))) ((ks++nw).Nodup) (∀y∈nw,y∈es.map (·.1)∧N4 y) (∀y∈en.2.1.take j,y∈ks++nw)))
   ⟨⟨_,rfl⟩,k4,[],Hl Zs fV,Hl Zs ny,Hl Zs fk,λy hy=>(by cases hy),λy hy=>(by cases hy)⟩
   (λj σ H' _ hh=>(SqB.of (Ea (T2.ro en bv) (by simp[(rowne en bv).1,(rowne en bv).2])))) ?_ ?_⟩
  ·rintro j y σ H5 hy ⟨⟨y5,rfl⟩,k5,nw,ci,il,dj,eG,fP⟩
   have hj:j<en.2.1.length:=by
    have:=(LA hy).1
    rwa[Qa]at this
   have ni:y=.str en.2.1[j]:=by
    rw[Qo,Qd hj]at hy
    exact(Qn hy).symm
   subst ni
   have nj:en.2.1[j]∈ZK z:=by rw[hrz];exact Qr hj
   have aS:en.2.1.take (j+1)=en.2.1.take j++[en.2.1[j]]:=Qi hj
   have hsz:(ks++nw).length≤es.length:=by
    have:=zb9 dj (m:=es.map (·.1)) λq hq=>by
     rcases Ql.mp hq with h | h
     ·exact(jh q h).1
     ·exact(eG q h).1
    rwa[Qa]at this
   have rW:=DGet.k (k:=Sum.inr en.2.1[j]) ci
   by_cases ao:en.2.1[j]∈ks++nw
   ·rw [valM_in ao] at rW
    refine⟨wI,wI,re,wI,rW,wI,WG ?_⟩
    refine⟨⟨wI⟩,k5,nw,ci,il,dj,eG,λq hq=>?_⟩
    rw[aS]at hq
    rcases Ql.mp hq with h | h
    ·exact fP q h
    ·rw[Qc.mp h];exact ao
   ·rw [zh3 ao] at rW
    refine⟨wI,wI,re,wI,rW,wI,W8 ?_⟩
    refine⟨wI,wI,re,wI,DPut.k (k:=Sum.inr en.2.1[j]) ci (by unfold marks;rw[List.length_map];lia),?_⟩
    rw[putM_new ao]
    have jK:(QP re (Tq (ks++nw++[en.2.1[j]]))) wa=some (Hr ((ini++nw).map V.str)):=by rw[zaf (Zl lA)];exact il
    have e9:(QP re (Tq (ks++nw++[en.2.1[j]]))) re=some (Tq (ks++nw++[en.2.1[j]])):=zab
    have k6:Keep [re,wa] H2 (QP re (Tq (ks++nw++[en.2.1[j]]))):=k5.trans Sm
    generalize QP re (Tq (ks++nw++[en.2.1[j]]))=H6 at jK e9 k6
    rw[Qw]at hsz
    rw[Qw,Qz,Um]at nr
    refine⟨wI,RC jK,wI,wa,_,wI,rfl,jK,(by rw[Qa,Qw];lia),?_⟩
    refine⟨⟨wI⟩,PK Sm,nw++[en.2.1[j]],by rw[zaf lA,←Qv];exact e9,by rw[zab,←Qv,Qq (l₂:=[en.2.1[j]])];rfl,?_,λq hq=>?_,λq hq=>?_⟩
    ·rw [← Qv,Ze]
     refine⟨dj,EC ⟨Ha,Zn⟩,λa ha b hb e=>?_⟩
     rw[Qc.mp hb]at e
     exact ao (e▸ha)
    ·rcases Ql.mp hq with h | h
     ·exact eG q h
     ·rw [CS h]
      exact⟨gH z _ nj,.step (jh z f8).2 nj⟩
    ·rw [aS] at hq
     rw[←Qv]
     rcases Ql.mp hq with h | h
     ·exact YF (fP q h)
     ·exact WK h
  ·rintro σ H5 ⟨⟨y5,rfl⟩,k5,nw,ci,il,dj,eG,fP⟩
   rw[Qa,Qs Hx]at fP
   have hsz:(ks++nw).length≤es.length:=by
    have:=zb9 dj (m:=es.map (·.1)) λq hq=>by
     rcases Ql.mp hq with h | h
     ·exact(jh q h).1
     ·exact(eG q h).1
    rwa[Qa]at this
   have f':=dj
   rw[Ze]at f'
   refine⟨es.length+(ini++nw).length-(ks++nw).length,?_,⟨_,wI⟩,k5,ks++nw,ini++nw,ci,il,dj,?_,?_,?_,YF hxk,?_,rfl⟩
   ·rw [Qw] at hsz
    rw[Qw,Qw,Qw,Qz,Um]
    rw[Qw,Qz,Um]at nr
    lia
   ·rw [Ze]
    refine⟨ao,f'.2.1,λa ha b hb e=>f'.2.2 a (qI a (YF ha)) b hb e⟩
   ·intro q hq
    rcases Ql.mp hq with h | h
    ·exact YF (qI q (YF h))
    ·exact WK h
   ·intro q hq
    rcases Ql.mp hq with h | h
    ·exact jh q h
    ·exact eG q h
   ·intro q hq nY y hy
    rw[Ql,not_or]at nY
    rcases Ql.mp hq with h | h
    ·by_cases hqz:q=z
     ·rw[hqz,hrz]at hy;exact fP y hy
     ·exact YF (bE q h (by rw[Ql,not_or,Qc];exact⟨nY.1,hqz⟩) y hy)
    ·exact absurd h nY.2
def ok_piece(F:QE "piece_from" "piece_from" zhj f fd)(aB:mg "sorted" = none):ZB 1 f fd ["rounds", "start"] spPiece :=
 (ok_pieceG true F aB).imp fun vs H Q E ⟨d,es,cs,a9,x,e,T,aH,C,hx,k⟩=>⟨d,es,x,e,⟨T.dc,T.ro,T.nd⟩,aH,fun z y h=>C.inn' h,hx,fun l zs H' h1 h2 h3 h4=>k l zs H' h1 h2 h3 fun y=>(h4 y).trans ⟨fun h=>by
  induction h with
  |refl=>exact⟨hx,rfl⟩
  |step _ nj ih=>exact⟨C9 nj,(C.la _ _ nj).trans ih.2⟩,λh=>C.co x hx y h.1 h.2.symm⟩⟩
end
def IsPiece(ns:Nh)(a9:Ny)(zs:Nh):Prop:=zs.Nodup∧∃s∈ns,∀y,y∈zs↔y∈ns∧a9 y=a9 s
structure InRow(ns:Nh)(zss:List (List Str)):Prop where
 so:∀zs∈zss,zs.Pairwise leS
 hd:zss.Pairwise λa b=>∀x∈a.head?,∀y∈b.head?,leS x y
 al:∀y∈ns,∃zs∈zss,y∈zs
def zg5(H:Hp)(a:Nc)(zs:Nh):Prop:=H a=some EX
inductive IspPieces(vs:List V)(H:Hp)(Q:VK):Prop
 |mk (d:Nc) (es:List Ent) (cs:List (List (Str×Str))) (a9:Ny) (h0:vs=[.ref d]) (h1:TAt H d es) (h2:es.length≤60) (h3:Cert (es.map (·.1)) (row (rsOf es)) cs a9) (h4:∀(l:Nc) (as:No) (zss:List (List Str)) (H':Hp),H' l=some (.lst (as.map V.ref))→Paired (zg5 H') as zss→(∀zs∈zss,IsPiece (es.map (·.1)) a9 zs)→InRow (es.map (·.1)) zss→Keep [] H H'→Q (.ref l) H'):IspPieces vs H Q
def spPieces:Sp:=λvs H Q _=>IspPieces vs H Q
section
variable{P:Nk}{w:Nn}{K:Na}{mg:Ng}{base:Np}
def zd3:zaj ["rounds", "found", "reached", "start", "piece", "place"] ["rounds"] (zai zie):=fsk
def ok_pieces(F:QE "pieces_of" "pieces_of" zie f fd)(FP:QE "piece_from" "piece_from" zhj fp fdp)(bP:W7 fdp ["rounds", "start"] [])(mP:mg "piece_from" = some (Hi fp))(GP:ZB 1 fp fdp ["rounds", "start"] spPiece)(aB:mg "sorted" = none):ZB 2 f fd ["rounds"] spPieces:=by
 refine F.okL zd3 Hj
 obtain⟨d,es,cs,a9,rfl,T,aH,C,k⟩:=h
 have hu:=zb6 hr
 have ap  := sizeLine_eq
 refine⟨_,zad (M7 zd3.nd SN)
  (zad (Ve zd3.nd zd7)
  (zad (Z4 (zas (Cy (zdo rfl) SM)) (M5 zd3.nd)
   (zag (zbn (A3 RX Sc)
    (zad (Bb zd3.nd (N5 bP .nil zdi (ZM Tp)))
    (zad (Cz Rj SO)
    (zag (Z4 (IP Sd) (XB zd3.nd)
     (zag xZ))))) zap)))
  (zag (zaq Rj)))),?_⟩
 refine⟨Lq,λfo dE re bQ=>?_⟩
 have fU:H re=none:=zao (xs:=[]) (Ho dE) bQ Ha
 have sF:fo≠re:=zac (o:=_) zab bQ
 have k1:Keep [] H (Ck fo re):=(Ho dE).trans (Ho bQ)
 have gw:(Ck fo re) fo=some HL:=by rw[zaf sF];exact zab
 have eB:(Ck fo re) re=some RQ:=zab
 generalize upd (ZX fo HL) re RQ=H1 at k1 gw eB
 have T1:TAt H1 d es:=M8 Ha RJ
 refine⟨wI,d,_,es.map (·.1),rfl,.inl T1.dc,ze4 es,λl ws hl ag au=>?_⟩
 replace au:=au Ce
 have k2:Keep [] H1 (QK l Rv):=Keep.new hl
 have aw:(QK l Rv) l=some Rv:=zab
 have nlf:l≠fo:=Zl (zy gw hl)
 generalize QK l Rv=H2 at k2 aw
 have kF:=k2 _ _ gw Ha
 have fW:=k2 _ _ eB Ha
 have nlr:l≠re:=za1 aw fW Hg
 have T2:TAt H2 d es:=T1.keep k2 Ha RJ
 have lB:Keep [] H H2:=k1.trans k2
 have ndf:d≠fo:=Mw dE
 have sG:d≠re:=Mw fU
 have dw:ws.length=es.length:=by rw[ag.length_eq,Qa]
 refine⟨l,rfl,⟨_,PH⟩,zc3 (zs:=ws) (λi σ H'=>Aj3 (Ex3 λx3 x4 x5=>σ=[Tf,Hc fo,Hc re,x3,x4,x5]) (Keep [fo,re] H2 H') (Ex3 λ(as:No) (zss:wC Str) (ks:Nh)=>Aj8 (H' fo=some Rz) (H' re=some wb) (yF (zg5 H') zss) (∀zs∈zss,IsPiece (es.map (·.1)) a9 zs) (as.length≤i) ks.Nodup (∀z∈ks,z∈es.map (·.1)) (Aj7 (∀a∈as,a≠fo) (∀y∈ws.take i,y∈ks) (∀y∈ks,∃zs∈zss,y∈zs) (∀zs∈zss,∀y∈zs,y∈ks) (∀zs∈zss,∀x∈zs.head?,x∈ws.take i) (zss.Pairwise λa b=>∀x∈a.head?,∀y∈b.head?,leS x y) (∀zs∈zss,zs.Pairwise leS))))
  ⟨⟨_,_,_,rfl⟩,Keep.refl,[],[],[],kF,fW,.nil,λzs h=>(by cases h),SJ,Zn,λz h=>(by cases h),λz h=>(by cases h),λz h=>(by cases h),λz h=>(by cases h),λz h=>(by cases h),λz h=>(by cases h),List.Pairwise.nil,λz h=>(by cases h)⟩ (λi σ H' _ hh=>SqL.of (Ea aw (by simp[nlf,nlr]))) ?_ ?_⟩
 ·rintro i hi σ H3 ⟨⟨x3,x4,x5,rfl⟩,k3,as,zss,ks,gv,cF,dh,jZ,uZ,fk,ji,iP,c1,c2,c6,c3,c4,c5⟩
  have dg:=DGet.k (k:=Sum.inr ws[i]) cF
  have T3:TAt H3 d es:=T2.keep k3 (by simp[ndf,sG]) λe he=>by
   have h1:=T.ro e he
   simp[zac h1 dE,zac h1 fU]
  by_cases ao:ws[i]∈ks
  ·rw [valM_in ao] at dg
   refine⟨wI,wI,re,wI,dg,wI,WG ?_⟩
   refine⟨⟨_,_,wI⟩,k3,as,zss,ks,gv,cF,dh,jZ,by exact zar16 ‹_›,fk,ji,iP,λy hy=>?_,c2,c6,λzs h x hx=>Ut (i:=i) (by rw[List.take_take,Nat.min_eq_left (Uq i)];exact c3 zs h x hx),c4,c5⟩
   rw[Qi hi]at hy
   rcases Ql.mp hy with h | h
   ·exact c1 y h
   ·rw[Qc.mp h];exact ao
  ·rw [zh3 ao] at dg
   refine⟨wI,wI,re,wI,dg,wI,W8 ?_⟩
   have ij:=ag.mem_iff.mp IT
   refine⟨wI,wI,d,es,cs,a9,ws[i],rfl,T3,aH,C,ij,λp zs H4 bU cT sU cU ud k4=>?_⟩
   obtain⟨jE,uA⟩:∃jE,jE=ks:=⟨_,rfl⟩
   rw[←uA]at cF fk ji ao c1 c2 c6
   have gu:=k4 _ _ gv Ha
   have fV:=k4 _ _ cF Ha
   have npf:p≠fo:=Zl (zy gv ud)
   have npr:p≠re:=za1 bU fV Hg
   refine⟨wI,RC gu,wI,fo,_,wI,rfl,gu,(by rw[Qa];lia),?_⟩
   have k5:Keep [fo,re] H2 (Q7 fo (.lst (as.map V.ref++[Tn]))):=(TM Oz).trans Sm
   have ph:(Q7 fo (.lst (as.map V.ref++[Tn]))) fo=some (Hr ((as++[p]).map V.ref)):=by rw[zab,Qq];rfl
   have ci:(Q7 fo (.lst (as.map V.ref++[Tn]))) re=some (Tq jE):=by rw[zaf (Zl sF)];exact fV
   have aT:(Q7 fo (.lst (as.map V.ref++[Tn]))) p=some EX:=by rw[zaf npf];exact bU
   have iD:Paired (zg5 (Q7 fo (.lst (as.map V.ref++[Tn])))) (as++[p]) (zss++[zs]):=by
    refine zax ?_ (Sa aT)
    have:∀{as:No} {zss:List (S1 Str)},Paired (zg5 H3) as zss→(∀a∈as,a≠fo)→Paired (zg5 (Q7 fo (.lst (as.map V.ref++[Tn])))) as zss:=λ{as zss} r ha=>by
     have h2:∀(L:List V),Paired (zg5 (A5 fo L)) as zss:=λL=>by
      induction r with
      |nil=>exact .nil
      |cons h t ih=>exact .cons (by unfold zg5;rw[zaf (ha _ List.mem_cons_self)];exact k4 _ _ h Ha) (ih λa h=>ha a (ND h))
     exact h2 _
    exact this dh iP
   have pO:∀a∈as++[p],a≠fo:=λa ha=>by
    rcases Ql.mp ha with h | h
    ·exact iP a h
    ·rw[Qc.mp h];exact npf
   generalize Q7 fo (.lst (as.map V.ref++[Tn]))=H5 at k5 ph ci aT iD
   refine⟨_,rfl,p,rfl,⟨_,Hk aT⟩,zbc (xs:=zs.map V.str) (λj σ H'=>Aj3 (Ex1 λx5=>σ=[Tf,Hc fo,Hc re,Hs (.str ws[i]),zj,x5]) (Keep [re] H5 H') (Ex1 λ(ks:Nh)=>Aj4 (H' re=some wb) ks.Nodup (∀z∈ks,z∈es.map (·.1)) (∀z,z∈ks↔z∈jE∨z∈zs.take j)))
    ⟨⟨_,rfl⟩,Keep.refl,jE,ci,fk,ji,λz=>⟨.inl,λh=>h.elim id λh=>(by cases h)⟩⟩ (λj σ H' _ hh=>SqL.of (Ea aT (He npr))) ?_ ?_⟩
   ·rintro j y σ H6 hy ⟨⟨y5,rfl⟩,k6,jD,e9,gk,gl,cK⟩
    have hj:j<zs.length:=by
     have:=(LA hy).1
     rwa[Qa]at this
    obtain⟨z,hz,rfl,ez⟩:∃z,z∈zs∧y=V.str z∧z=zs[j]:=by
     rw[Qo,Qd hj]at hy
     exact⟨zs[j],Qr hj,(Qn hy).symm,rfl⟩
    have step:∀q,(q∈jD∨q=z)↔q∈jE∨q∈zs.take (j+1):=λq=>by
     rw[cK,Qi hj,Ql,Qc,ez,or_assoc]
    have hsz:jD.length≤es.length:=by
     have:=zb9 gk gl
     rwa[Qa]at this
    refine⟨wI,wI,re,wI,DPut.k (k:=Sum.inr z) e9 (by unfold marks;rw[List.length_map];lia),⟨wI⟩,PK Sm,?_⟩
    by_cases f8:z∈jD
    ·exact⟨jD,by rw[zab,putM_old f8],gk,gl,λq=>by rw[←step q];exact⟨.inl,λh=>h.elim id λe=>e▸f8⟩⟩
    ·refine ⟨jD++[z],by rw [zab,putM_new f8],?_,fun q hq=>?_,fun q=>by rw [← step q,Ql,Qc]⟩
     ·rw [Ze]
      refine⟨gk,EC ⟨Ha,Zn⟩,λa ha b hb e=>?_⟩
      rw[Qc.mp hb]at e
      exact f8 (e▸ha)
     ·rcases Ql.mp hq with h | h
      ·exact gl q h
      ·rw[Qc.mp h];exact((cU z).mp hz).1
   ·rintro σ H6 ⟨⟨y5,rfl⟩,k6,jD,e9,gk,gl,cK⟩
    rw[Qa,Qs Hx]at cK
    have np:ws[i]∈zs:=(cU _).mpr ⟨ij,rfl⟩
    have jk:zs.head?=some ws[i]:=by
     cases sT:zs with
     |nil=>rw[sT]at np;cases np
     | cons m t =>
      have hmz:m∈zs:=by rw[sT];exact Qb
      obtain⟨ow,jg⟩:=(cU m).mp hmz
      obtain⟨j,hj,ej⟩:=Zx (ag.mem_iff.mpr ow)
      have h1:leS m ws[i]:=by
       rw[sT]at np sU
       rcases Qh.mp np with q | q
       ·rw[q];exact λz=>Ww _ z
       ·exact(Ju.mp sU).1 _ q
      have cZ:i≤j:=Nat.le_of_not_lt λad=>by
       have hJ:m∈jE:=c1 m (by rw[←ej,←Jb (j:=i) (h:=by rw[Zt];lia)];exact Qr _)
       obtain⟨jA,dU,uo⟩:=c2 m hJ
       obtain⟨_,s,_,hs⟩:=jZ jA dU
       exact ao (c6 jA dU _ ((hs _).mpr ⟨ij,jg.symm.trans ((hs m).mp uo).2⟩))
      have h2:leS ws[i] m:=by
       rcases Nat.lt_or_eq_of_le cZ with q | q
       ·rw[←ej];exact Kv.mp au i j hi hj q
       ·subst q;rw[ej];exact λz=>Ww _ z
      rw[leS_anti _ _ h1 h2];rfl
    have tk:ws.take HN=ws.take i++[ws[i]]:=Qi hi
    refine⟨⟨_,_,wI⟩,CA LW,as++[p],zss++[zs],jD,k6 _ _ ph (He sF),e9,Paired.imp' (λa zs h=>k6 _ _ h (by simpa using za1 h ci Hg)) iD,λq hq=>?_,by rw[Qw];show _+1≤_;exact zar4 ‹_›,gk,gl,pO,λy hy=>?_,λy hy=>?_,λq hq y hy=>?_,λq hq x hx=>?_,?_,λq hq=>?_⟩
    ·rcases Ql.mp hq with h | h
     ·exact jZ q h
     ·rw[Qc.mp h];exact⟨cT,ws[i],ij,cU⟩
    ·rw [tk] at hy
     rcases Ql.mp hy with h | h
     ·exact(cK y).mpr (RH (c1 y h))
     ·rw[Qc.mp h];exact(cK _).mpr (SC np)
    ·rcases (cK y).mp hy with h | h
     ·obtain ⟨z,hz,ni⟩:=c2 y h
      exact⟨z,YF hz,ni⟩
     ·exact⟨zs,E8,h⟩
    ·rcases Ql.mp hq with h | h
     ·exact(cK y).mpr (RH (c6 q h y hy))
     ·rw[Qc.mp h]at hy;exact(cK y).mpr OU
    ·rw [tk]
     rcases Ql.mp hq with h | h
     ·exact YF (c3 q h x hx)
     ·rw [CS h,jk] at hx
      rw[←Qn hx];exact WK Qb
    ·rw [List.pairwise_append]
     refine⟨c4,Xl _ _,λa ha b hb x hx y hy=>?_⟩
     rw[Qc.mp hb,jk]at hy
     rw[←Qn hy]
     obtain⟨j,hj,ej⟩:=Zx (c3 a ha x hx)
     rw[Zt]at hj
     rw[←ej,Jb]
     exact Kv.mp au j i Hb hi Hb
    ·rcases Ql.mp hq with h | h
     ·exact c5 q h
     ·rw[Qc.mp h];exact sU
 ·rintro σ H3 ⟨⟨x3,x4,x5,rfl⟩,k3,as,zss,ks,gv,cF,dh,jZ,uZ,fk,ji,iP,c1,c2,c6,c3,c4,c5⟩
  rw[Qa,Qs Hx]at c1
  refine⟨wI,k fo as zss H3 gv dh jZ ⟨c5,c4,λy hy=>c2 y (c1 y (ag.mem_iff.mpr hy))⟩ λc u ec _=>k3 c u (lB c u ec Ha) (by simp[WM dE,WM fU])⟩
end
end K21
end
section
namespace L2
open PySem
def zep(T:St→Prop)(q:V→Bool)(ha:W0 xs)(hn:xs.length≤sizeLine)(h0:T τ)(hs:∀x∈xs,∀τ,T τ→∀(k1:V→St→Hp→Prop) (k0:St→Hp→Prop),(q x=true→∀τ2,T τ2→k1 x τ2 H)→(q x=false→∀τ2,T τ2→k0 τ2 H)→g x τ H λ τ2 H2=>tc τ2 H2 λb H3=>if b=true then te τ2 H3 λy H4=>k1 y τ2 H4 else k0 τ2 H3)(hq:∀D,H D=none→Q Th (LS D (xs.filter q))):rLC g tc te Q (K7 a) τ H:=by
 refine⟨λi m ys τ H1=>Aj5 (H1=H) (T τ) (m=xs.length-i) (i≤xs.length) (ys=(Pc i).filter q),⟨_,rfl,h0,rfl,SJ,rfl⟩,?_⟩
 rintro i m ys τ H1 ⟨rfl,ht,rfl,hi,rfl⟩
 by_cases ad:i<xs.length
 ·have hU:((Pc i).filter q).length≤i:=XS (by rw [Zt];lia)
  refine .inr ⟨⟨xs,xs[i],ha,Qd ad⟩,HI,?_⟩
  rintro x H' ⟨rfl,hx⟩
  have gT:=hx xs ha
  rw[Qd ad]at gT
  have qH:xs[i]=x:=Qn gT
  have aS:xs.take HN=xs.take i++[x]:=by rw[Qi ad,qH]
  refine hs x (qH▸Qr ad) τ ht (λy τ2 H4=>∃m',m'<xs.length-i∧Aj5 (H4=H') (T τ2) (m'=xs.length-HN) (i+1≤xs.length) ((Pc i).filter q++[y]=(Pc HN).filter q))
   (λ τ2 H4=>∃m',m'<xs.length-i∧Aj5 (H4=H') (T τ2) (m'=xs.length-HN) (i+1≤xs.length) ((Pc i).filter q=(Pc HN).filter q)) (λtX τ2 h2=>?_) λtX τ2 h2=>?_
  ·exact⟨_,Hz,rfl,h2,rfl,ad,by rw[aS,Yh,Zo tX,Yz]⟩
  ·exact⟨_,Hz,rfl,h2,rfl,ad,by rw[aS,Yh,Zp (by rw[tX];decide),Yz,Zs]⟩
 ·have e:i=xs.length:=by exact zar3 ‹_› ‹_›
  subst e
  refine .inl ⟨⟨xs,ha,Hx⟩,λD hD=>?_⟩
  rw[Qs Hx]
  exact hq D hD
end L2
namespace K21
open PySem L2 Wb
def sum_filter{α:Type}{p:α→Bool}{f:α→Int}:∀l:List α,(l.map λx=>if p x=true then f x else 0).sum=((l.filter p).map f).sum:=by
 intro l
 induction l with
 |nil=>rfl
 |cons a t ih =>
  rw[Qm,Zm,ih]
  by_cases h:p a=true
  ·rw[if_pos h,Zo h,Qm,Zm]
  ·rw[if_neg h,Zp h];lia
def sum_parts{α:Type}{f:α→List Str}:∀l:List α,(l.map λx=>(2:Int)+(if f x=[] then 2 else 0)-((f x).length:Int)).sum=2*(l.length:Int)+2*((l.filter λx=>(f x).isEmpty).length:Int)-(((l.map λx=>(f x).length).sum:Nat):Int):=by
 intro l
 induction l with
 |nil=>rfl
 |cons a t ih =>
  rw[Qm,Zm,ih,Qm,Zm,Qz]
  by_cases h:f a=[]
  ·rw[Zo (by rw[h];rfl),Qz,if_pos h];lia
  ·rw[Zp (by rw[List.isEmpty_iff];exact h),if_neg h];lia
def sum_twos{α:Type}{p:α→Bool}:∀l:List α,(l.map λx=>if p x=true then(2:Int) else 0).sum=2*((l.filter p).length:Int):=by
 intro l
 induction l with
 |nil=>rfl
 |cons a t ih =>
  rw[Qm,Zm,ih]
  by_cases h:p a=true
  ·rw[if_pos h,Zo h,Qz];lia
  ·rw[if_neg h,Zp h];lia
def iso_eq{es:List Ent}(nd:(es.map (·.1)).Nodup):zfi es=(es.map (·.1)).filter λx=>(ZK x).isEmpty:=by
 unfold zfi
 rw[Uo]
 congr 1
 exact Jc λe he=>by
  show e.2.1.isEmpty=(ZK e.1).isEmpty
  rw[KW he]
def piece_count{es:List Ent}{cs cs':List (S1 (Str×Str))}{a9:Ny}(C:Cert (es.map (·.1)) RI cs a9){zs hd hc:Nh}(hz:IsPiece (es.map (·.1)) a9 zs)(hh:hd.Perm (zfi es++hc))(kN:cs'.Perm cs)(hp:Paired (fun h c=>∃ s∈c,s.1=h) hc cs') :
  2*zs.length+2*(hd.filter λh=>decide (h∈zs)).length=(zs.map λx=>(ZK x).length).sum+4:=by
 obtain⟨cT,s,hs,cU⟩:=hz
 have heu:=C.eu s hs
 have p1:((es.map (·.1)).filter λx=>decide (a9 x=a9 s)).Perm zs:=(Ji (Yx Uw C.nd) cT).mpr λy=>by
  rw[Zd,decide_eq_true_iff,cU]
 have e1:wt (es.map (·.1)) RI a9 (a9 s)=2*(zs.length:Int)+2*((zs.filter λx=>(ZK x).isEmpty).length:Int)-(((zs.map λx=>(ZK x).length).sum:Nat):Int):=by
  unfold wt
  have:=sum_filter (p:=λx=>decide (a9 x=a9 s)) (f:=λx=>(2:Int)+(if ZK x=[] then 2 else 0)-((ZK x).length:Int)) (es.map (·.1))
  simp only[decide_eq_true_eq]at this
  rw[this,zik (p1.map _),sum_parts]
 have e2:WX (a9 s)=2*((cs.filter λc=>c.any λu=>decide (a9 u.1=a9 s)).length:Int):=sum_twos _
 have e3:(hd.filter λh=>decide (h∈zs)).length=((zfi es).filter λh=>decide (h∈zs)).length+(hc.filter λh=>decide (h∈zs)).length:=by
  rw[(hh.filter _).length_eq,Yh,Qw]
 have e4:((zfi es).filter λh=>decide (h∈zs)).length=(zs.filter λx=>(ZK x).isEmpty).length:=by
  refine List.Perm.length_eq ((Ji ?_ (Yx Uw cT)).mpr λy=>?_)
  ·rw [iso_eq C.nd]
   exact Yx Uw (Yx Uw C.nd)
  ·rw [iso_eq C.nd,Zd,Zd,Zd,decide_eq_true_iff]
   exact⟨λ⟨⟨_,a⟩,b⟩=>⟨b,a⟩,λ⟨a,b⟩=>⟨⟨((cU y).mp a).1,b⟩,a⟩⟩
 have e5:(hc.filter λh=>decide (h∈zs)).length=(cs'.filter λc=>c.any λu=>decide (a9 u.1=a9 s)).length:=by
  have ao:∀c∈cs',c∈cs:=λc h=>kN.mem_iff.mp h
  clear kN e3 e4 hh
  induction hp with
  |nil=>rfl
  | cons h t ih =>
   rename_i h0 c0 _ _
   have iht:=ih λc hc=>ao c (QZ hc)
   obtain⟨u,hu,rfl⟩:=h
   have hW:=ao c0 Qb
   have hun:u.1∈es.map (·.1):=C.inn' (C.inc hW hu)
   by_cases hz:u.1∈zs
   ·have hl:=((cU _).mp hz).2
    have iQ:(c0.any λu=>decide (a9 u.1=a9 s))=true:=Yn.mpr ⟨u,hu,HY hl⟩
    rw[Zo O0,Zo (p:=λc:List (Str×Str)=>c.any λu=>decide (a9 u.1=a9 s)) iQ,Qz,Qz,iht]
   ·rw [Zp O0,Zp,iht]
    intro q
    obtain⟨v,hv,e⟩:=Yn.mp q
    exact hz ((cU _).mpr ⟨hun,(C.one_lab hW hv hu).trans (LV e)⟩)
 have e6:=(kN.filter λc=>c.any λu=>decide (a9 u.1=a9 s)).length_eq
 lia
def ix_listK(hK:X.K=K):IxR X (rIxL K):=hK▸zat
def zfg(hK:X.K=K):YX (compareOp .In) (rIn K false):=hK▸op_in_seq
def zdm(hK:X.K=K):Y2 (.builtin "len") (λxs H Q=>Ex2 λp ys=>Aj3 (xs=[Tn]) (YE p ys∨SqT K H p ys) (Q Ez H)):=hK▸za0
abbrev sFlat:Stmt:=top 38
inductive IspFlat(vs:List V)(H:Hp)(Q:VK):Prop
 |mk (d:Nc) (es:List Ent) (cs:List (List (Str×Str))) (a9:Ny) (h0:vs=[.ref d]) (h1:TAt H d es) (h2:es.length≤60) (h3:(∀e∈es,e.2.1.length≤100)) (h4:Cert (es.map (·.1)) (row (rsOf es)) cs a9) (h5:∀H',Keep [] H H'→Q .non H'):IspFlat vs H Q
def spFlat:Sp:=λvs H Q _=>IspFlat vs H Q
def ndFB:(["face", "piece"]:List Str).Nodup:=by decide +kernel
def inPc(H:Hp)(zs:Nh):V→Bool
 |.ref a=>match H a with
  |some (.lst (.str h::_))=>decide (h∈zs)
  |_=>false
 |_=>false
def inPc_ref(e:zdp H a h):inPc H zs RV=decide (h∈zs):=by
 obtain⟨t,e⟩:=e
 show(match H a with | some (.lst (.str h::_))=>decide (h∈zs) | _=>false)=_
 rw[e];rfl
def filt_len(r:yF (zdp H) hd):((as.map V.ref).filter (inPc H zs)).length=(hd.filter λh=>decide (h∈zs)).length:=by
 induction r with
 |nil=>rfl
 |cons h t ih =>
  rename_i a b _ _
  rw[Qm]
  have e:=inPc_ref (zs:=zs) h
  by_cases hz:b∈zs
  ·rw[Zo (by rw[e];simpa using hz),Zo O0,Qz,Qz,ih]
  ·rw[Zp (by rw[e];simpa using hz),Zp O0,ih]
def sum_cast(ns:List Nat):(ns.map λn:Nat=>(n:Int)).sum=((ns.sum:Nat):Int):=by
 induction ns with
 |nil=>rfl
 |cons a t ih=>rw[Qm,Zm,Zm,ih];lia
section
variable{P:Nk}{w:Nn}{K:Na}{mg:Ng}{base:Np}
def zfn:zaj ["rounds", "found", "piece", "many_places", "many_ties", "many_faces"] ["rounds"] (zai sFlat):=fsk
def ok_flat(F:QE "refuse_not_flat" "refuse_not_flat" sFlat f fd)(FF:QE "faces_of" "faces_of" sFaces ff fdf)(bF:W7 fdf ["rounds"] [])(mF:mg "faces_of" = some (Hi ff))(GF:ZB 2 ff fdf ["rounds"] spFaces)(FP:QE "pieces_of" "pieces_of" zie fp fdp)(bP:W7 fdp ["rounds"] [])(mP:mg "pieces_of" = some (Hi fp))(GP:ZB 2 fp fdp ["rounds"] spPieces)(ae:mg "len" = none)(tK:mg "sum" = none):ZB 3 f fd ["rounds"] spFlat:=by
 refine F.okL zfn Hj
 obtain⟨d,es,cs,a9,rfl,T,aH,aV,C,k⟩:=h
 have hu:=zb6 hr
 have ap  := sizeLine_eq
 refine⟨_,zad (M7 zfn.nd (N6 bF .nil zdi SM))
  (zag (Z4 (IP (N5 bP .nil zdi SM)) (pg_name (i:=2) zfn.nd rfl TY)
   (zad (Br zfn.nd (Cs Sn))
   (zad (Bb zfn.nd (za2 op_fdiv (zal (call_sum rfl) HQ tK PyProof.Rows.boot_sum (zaa (zff (M:=["place", "rounds"]) (ix:=[none,Hs 0]) (mkB zfn) rfl (IP Sc) (λC a5 ex s H=>UN ndF) (λC a5 ex s H=>zcy)
      (λC a5 ex s H=>zal (zdm (K:=K) rfl) HQ (by exact ae) Yi (Rx (Aq (by exact hu) (pv 0))))) zae)) zah))
   (zad (XR zfn.nd (U2 HQ ae Yi (zaa (zff (M:=["face", "piece"]) (ix:=[none,Hs 2]) (mkB zfn) rfl (IP Rj) (λC a5 ex s H=>UN ndFB)
      (λC a5 ex s H=>zci (zar (zfg (K:=K) rfl) (zaz (ix_listK (K:=K) rfl) R6 zah Hq) Rj rfl)) RG) zae)))
   (zag (Tb (BS (WV RX So) (Ed Sd) Sq))))))))  ,?_⟩
 refine⟨wI,d,es,cs,a9,rfl,T,aH,aV,C,λfo fas hd hc cs' H1 gw hfal hhd hhp kN fB k1=>?_⟩
 have T1:TAt H1 d es:=M8 Ha RJ
 refine⟨wI,d,es,cs,a9,rfl,T1,aH,C,λl as zss H2 aw lP jZ _ k2=>?_⟩
 have T2:TAt H2 d es:=T1.keep k2 Ha RJ
 have kF:=k2 _ _ gw Ha
 have uD:Paired (zdp H2) fas hd:=zdd (D:=d) (g:=d) k2 hhd (λ_ _ _ _=>by simp)
 refine⟨l,rfl,⟨_,PH⟩,zbc (xs:=as.map V.ref) (λi σ H'=>Aj2 AW (Ex4 λx2 x3 x4 x5=>σ=[Tf,Hc fo,x2,x3,x4,x5])) ⟨Keep.refl,_,_,_,_,rfl⟩ (λi σ H' _ hh=>SqL.of (yb aw)) ?_ ?_⟩
 ·rintro i y σ H3 hx ⟨k3,x2,x3,x4,x5,rfl⟩
  have hi:i<as.length:=by
   have:=(LA hx).1
   rwa[Qa]at this
  have ie:y=.ref as[i]:=by
   rw[Qo,Qd hi]at hx
   exact(Qn hx).symm
  subst ie
  obtain⟨aq,fC⟩:=za5 lP hi
  have qY:=jZ _ PY
  have kO:=piece_count C qY hhp kN fB
  generalize zss[i]=zs at fC qY kO
  have iR:H3 as[i]=some EX:=k3 _ _ fC Ha
  have jH:∀z∈zs,∃e∈es,e.1=z:=λz hz=>by
   obtain⟨_,s,_,hm⟩:=qY
   exact Qf.mp ((hm z).mp hz).1
  have bJ:zs.length≤100:=by
   have:=zb9 qY.1 (m:=es.map (·.1)) λz hz=>by
    obtain⟨e,he,rfl⟩:=jH z hz
    exact Qf.mpr ⟨e,he,rfl⟩
   rw[Qa]at this
   lia
  refine⟨wI,as[i],wI,SS iR,?_⟩
  have T3:TAt H3 d es:=T2.keep k3 Ha RJ
  refine⟨wI,as[i],rfl,⟨_,Hk iR⟩,lc_at (xs:=zs.map V.str) (λ τ=>∃x0,τ=[x0,Tf]) ((zs.map λx=>((ZK x).length:Int)).map V.int) (by rw[Qa,Qa,Qa]) (Hk iR) (by rw[Qa];lia) ⟨none,rfl⟩ ?_ (λD hD=>?_)⟩
  ·rintro j hj oP τ ⟨x0,rfl⟩ kk hk
   rw[Qa]at hj
   rw[Zk]
   obtain⟨en,bv,dC⟩:=jH _ (Qr hj)
   have dg:DGet H3 d (.str zs[j]) Ih:=by
    have:=DGet.k (k:=Sum.inr en.1) T3.dc
    rw[zb7 T3.nd bv,dC]at this
    exact this
   refine⟨wI,wI,d,wI,dg,en.2.2,wI,SC (Rk (T3.ro en bv)),?_⟩
   have e:((zs.map λx=>((ZK x).length:Int)).map V.int)[j]=V.int ((en.2.1.map V.str).length:Int):=by
    rw[Zk,Zk,←dC,zay T3.nd bv,Qa]
   rw[e]at hk
   exact hk _ ⟨_,rfl⟩
  ·have k4:Keep [] H3 (QS D (.lst ((zs.map fun x=>((ZK x).length:Int)).map V.int))):=Keep.new hD
   have mh:(QS D (.lst ((zs.map λx=>((ZK x).length:Int)).map V.int))) D=some (.lst ((zs.map λx=>((ZK x).length:Int)).map V.int)):=zab
   generalize QS D (.lst ((zs.map λx=>((ZK x).length:Int)).map V.int))=H4 at k4 mh
   refine⟨D,wI,Hk mh,by rw[Qa];lia,λn hn=>?_,?_⟩
   ·obtain ⟨z,hz,rfl⟩:=Qf.mp hn
    obtain⟨en,bv,dC⟩:=jH z hz
    have h1:=aV en bv
    rw[←dC,zay T3.nd bv]
    lia
   ·have nO:(zs.map fun x=>((ZK x).length:Int)).sum=(((zs.map fun x=>(ZK x).length).sum:Nat):Int):=by
     rw[←sum_cast,Zj];rfl
    rw[nO]
    refine⟨_,wI,rfl,⟨Hf,Hf⟩,?_⟩
    have gu:=k4 _ _ (zB kF) Ha
    have v1:=k4 _ _ iR Ha
    have oR:Paired (zdp H4) fas hd:=zdd (D:=d) (g:=d) (TM k4) uD (λ_ _ _ _=>by simp)
    refine⟨wI,fo,rfl,⟨_,Hk gu⟩,zep (xs:=fas.map V.ref) (λ τ=>∃x0,τ=[x0,Hs (.ref as[i])]) (inPc H4 zs) (Hk gu) (by rw[Qa];lia) ⟨none,rfl⟩ ?_ (λD2 dL=>?_)⟩
    ·rintro x hx τ ⟨x0,rfl⟩ kk1 kk0 iH oI
     obtain⟨a,ha,rfl⟩:=Qf.mp hx
     obtain⟨j,hj,rfl⟩:=Zx ha
     obtain⟨lV,eS⟩:=za5 oR hj
     have ao:=inPc_ref (zs:=zs) eS
     obtain⟨t,et⟩:=eS
     refine⟨wI,fas[j],_,_,wI,rfl,Hk et,zaw (j:=0) rfl,wI,as[i],wI,SS v1,rfl,zce zs,wI,?_⟩
     cases hb:decide (hd[j]∈zs) with
     |true=>exact zbf (show inV _ _=true by rw[zdy];exact hb) ⟨_,rfl,iH (ao.trans hb) _ ⟨_,rfl⟩⟩
     |false=>exact za7 (show inV _ _=false by rw[zdy];exact hb) (oI (ao.trans hb) _ ⟨_,rfl⟩)
    ·have k5:Keep [] H4 (A5 D2 ((fas.map V.ref).filter (inPc H4 zs))):=Keep.new dL
     refine⟨D2,wI,SS zab,?_⟩
     rw[filt_len oR]
     refine⟨wI,wI,_,wI,rfl,wI,_,wI,rfl,rfl,wI,za7 ?_ ?_⟩
     ·rw [Bool.not_eq_false',decide_eq_true_iff]
      refine congrArg V.int ?_
      rw[Qa]
      lia
     ·exact⟨(TM k4).trans k5,_,_,_,wI⟩
 ·rintro σ H3 ⟨k3,x2,x3,x4,x5,rfl⟩
  exact k H3 ((Lm k2).trans k3)
end
end K21
end
section
namespace K21
open PySem L2 Wb
abbrev sInit:Stmt:=NV 0
abbrev Turned:List Ent→List Ent→Prop:=Paired λt e=>t.1=e.1∧∃k,t.2.1=e.2.1.drop k++e.2.1.take k
inductive IspInit(C:Nc)(vs:List V)(H:Hp)(Q:VK):Prop
 |mk (x dx l:Nc) (as:No) (es:List Ent) (cs:List (List (Str×Str))) (a9:Ny) (h0:vs=[.ref x,.ref l]) (h1:H x=some (.ins C dx [])) (h2:RwAt H l as es) (h3:es.length≤40) (h4:(∀e∈es,zfv e.1)) (h5:Cert (es.map (·.1)) (row (rsOf es)) cs a9) (h6:∀(d:Addr) (ts ax:List Ent) (H':Hp),WAt H' C x dx d ts→ax.Perm es→Turned ts ax→Keep [x] H H'→Q .non H'):IspInit C vs H Q
def spInit(C:Nc):Sp:=λvs H Q _=>IspInit C vs H Q
def zcn(h:M' es):ts.map (·.1)=es.map (·.1):=by
 induction h with
 |nil=>rfl
 |cons h t ih=>rw[Qm,Qm,h.1,ih]
def zhh(h:M' es)(ht:t∈ts):∃e∈es,t.1=e.1∧∃k,t.2.1=e.2.1.drop k++e.2.1.take k:=by
 induction h with
 |nil=>cases ht
 | cons h _ ih =>
  rcases Qh.mp ht with z | z
  ·subst z;exact⟨_,Qb,h⟩
  ·obtain ⟨e,he,r⟩:=ih z
   exact⟨e,QZ he,r⟩
def zfa(h:M' ax)(hp:ax.Perm es)(nd:(es.map (·.1)).Nodup):∀x,∃k,row (Lh ts) x=(ZK x).drop k++(ZK x).take k:=λx=>by
 have fG:(ts.map (·.1)).Nodup:=by rw[zcn h];exact(hp.map _).nodup_iff.mpr nd
 by_cases hx:x∈ts.map (·.1)
 ·obtain ⟨t,ht,rfl⟩:=Qf.mp hx
  obtain⟨e,he,e1,k,e2⟩:=zhh h ht
  refine⟨k,?_⟩
  rw[zay fG ht,e1,KW (hp.mem_iff.mp he),e2]
 ·refine ⟨0,?_⟩
  have hx2:x∉es.map (·.1):=λz=>hx (by rw[zcn h];exact(hp.map _).mem_iff.mpr z)
  have n1:x∉(Lh ts).map (·.1):=by unfold rsOf;rw[List.map_map];exact hx
  have n2:x∉(Lh es).map (·.1):=by unfold rsOf;rw[List.map_map];exact hx2
  rw[zgd n1,zgd n2];rfl
abbrev csInit:Scope:=scOf (eOf (sAt sInit 3))
def csInit_k:csInit.kind=.function:=by rfl
def csInit_c:∀y∈csInit.names,y.2≠.cell:=by decide +kernel
def csInit_n:∀y∈csInit.names,y.2=.local→csInit.names.lookup y.1=some .local:=by decide +kernel
def csInit_f:∀y∈csInit.names,y.2=.free→(zai sInit).names.lookup y.1=some .cell∨(zai sInit).names.lookup y.1=some .free:=by decide +kernel
section
variable{P:Nk}{w:Nn}{K:Na}{mg:Ng}{base:Np}
def scInit:zaj ["self", "rows", "rounds"] ["self", "rows"] (zai sInit):=fsk
def ok_init(F:QE "__init__" "Web.__init__" sInit f fd)(cW:Mf C)(nW:NM "rounds")(FN:QE "refuse_no_names" "refuse_no_names" zf1 fn fdn)(bN:W7 fdn ["rows"] [])(mN:mg "refuse_no_names" = some (Hi fn))(GN:ZB 2 fn fdn ["rows"] spNoNames)(FT:QE "refuse_twice" "refuse_twice" zec ft fdt)(bT:W7 fdt ["rows"] [])(mT:mg "refuse_twice" = some (Hi ft))(GT:ZB 1 ft fdt ["rows"] spTwice)(FO:QE "refuse_one_way" "refuse_one_way" zif fo fdo)(bO:W7 fdo ["rows"] [])(mO:mg "refuse_one_way" = some (Hi fo))(GO:ZB 1 fo fdo ["rows"] spOneWay)(FL:QE "from_least" "from_least" sLeast fl fdl)(bL:W7 fdl ["around"] [])(mL:mg "from_least" = some (Hi fl))(GL:ZB 1 fl fdl ["around"] spLeast)(FF:QE "refuse_not_flat" "refuse_not_flat" sFlat ff fdf)(bF:W7 fdf ["rounds"] [])(mF:mg "refuse_not_flat" = some (Hi ff))(GF:ZB 3 ff fdf ["rounds"] spFlat)(aB:mg "sorted" = none):ZB 4 f fd ["self", "rows"] (spInit C):=by
 refine F.okL scInit Hj
 obtain⟨x,dx,l,as,es,cs,a9,rfl,hx,R,aH,hok,Ct,k⟩:=h
 have hu:=zb6 hr
 have ai:BJ _:=hr.mono Hf
 have bB:N7 _:=hr.mono Hf
 have ap  := sizeLine_eq
 refine⟨_,zad (zbg (zc0 GN bB rfl mN FN.kp bN .nil zdi SH))
  (zad (zbg (zc0 GT ai rfl mT FT.kp bT .nil zdi SH))
  (zad (zbg (zc0 GO ai rfl mO FO.kp bO .nil zdi SH))
  (zad (ps_dc (i:=2) (M:=["place", "around"]) (ix:=[none,none]) scInit.nd rfl rfl (noB (n:=2) csInit_k csInit_c csInit_n csInit_f rfl ndPA) rfl
    (zas (Cy zfw SH))
    (λC a5 ex s H=>pg_tupK (K:=K) (n:=2) rfl rfl Aa)
    (λC a5 ex s H=>zcy) RG (λC a5 ex s H=>zc0 GL (by exact ai) rfl (by exact mL) FL.kp bL .nil zdi SH) rfl)
  (zad (zbg (N6 bF .nil zdi Sn))
  (zag (ps_fld R6 Sc rfl)))))),?_⟩
 have aA:(es.map (·.1)).Nodup:=Ct.nd
 have am:∀e∈es,ZK e.1=e.2.1:=λe he=>zay aA he
 have aZ:∀e∈es,e.2.1.Nodup:=λe he=>am e he▸Ct.rn e.1
 have fQ:∀e∈es,∀y∈e.2.1,y∈es.map (·.1):=λe he y hy=>Ct.inn' (x:=e.1) (by rw[am e he];exact hy)
 have aV:∀e∈es,e.2.1.length≤40:=λe he=>by
  have:=zb9 (aZ e he) (fQ e he)
  rw[Qa]at this
  exact Zg ‹_› ‹_›
 refine⟨wI,l,as,es,rfl,R,λe he=>⟨Zg (aV e he) Hf,hok e he,λy hy=>?_⟩,λH1 k1=>?_⟩
 ·obtain ⟨e',bo,rfl⟩:=Qf.mp (fQ e he y hy)
  exact hok e' bo
 have R1:=R.keep k1
 refine⟨wI,l,as,es,rfl,R1,HI,aA,λe he=>⟨Zg (aV e he) Hf,aZ e he⟩,λH2 k2=>?_⟩
 have R2:=R1.keep k2
 refine⟨wI,l,as,es,rfl,R2,aA,λe he=>⟨?_,λy hy=>?_⟩,λH3 k3=>?_⟩
 ·rw[←am e he];exact Ct.ir e.1
 ·obtain ⟨e',bo,cr⟩:=Qf.mp (fQ e he y hy)
  have nn:e'.1=y:=cr
  refine⟨e',bo,nn,?_⟩
  rw[←am e' bo,nn]
  exact Ct.sy e.1 y (by rw[am e he];exact hy)
 have R3:=R2.keep k3
 have gS:Keep [] H H3:=(Lm k2).trans k3
 have aW:as.length=es.length:=Zy R3.ts
 refine⟨wI,l,wI,SqL.of R3.ls,λv hv=>?_,λv hv u hu e=>?_,λl2 wsV aw ag au=>?_⟩
 ·obtain ⟨a,ha,rfl⟩:=Qf.mp hv
  obtain⟨i,hi,rfl⟩:=Zx ha
  obtain⟨aq,h⟩:=Gp hi
  exact⟨_,_,wI,h⟩
 ·obtain ⟨a,ha,rfl⟩:=Qf.mp hv
  obtain⟨b,hb,rfl⟩:=Qf.mp hu
  obtain⟨i,hi,rfl⟩:=Zx ha
  obtain⟨j,hj,rfl⟩:=Zx hb
  obtain⟨aq,h1⟩:=Gp hi
  obtain⟨lV,h2⟩:=Gp hj
  rw[zez h1,zez h2]at e
  have e':es[i].1=es[j].1:=by
   have q:es[i].1.cps.toList=es[j].1.cps.toList:=e
   generalize es[i].1=a1 at q ⊢
   generalize es[j].1=a2 at q ⊢
   cases a1;cases a2
   congr 1
   exact Array.toList_inj.mp q
  have e2:(es.map (·.1))[i]'(Hl Qa aq)=(es.map (·.1))[j]'(Hl Qa lV):=by rw[Zk,Zk];exact e'
  have:=(We aA).mp e2
  subst this
  rfl
 ·obtain ⟨dN,rfl,cX⟩:=refs_perm ag
  obtain⟨ax,fZ,tG⟩:=zen cX R3.ts
  have k4:Keep [] H3 (QS l2 Cb):=Keep.new aw
  have cx:(QS l2 Cb) l2=some Cb:=zab
  generalize QS l2 Cb=H4 at k4 cx
  have nF:Paired (λa (e:Ent)=>H4 a=some (.tup [Rw,Tt])) dN ax:=Paired.imp' (λ_ _ h=>k4 _ _ h Ha) tG
  have fS:∀e∈ax,H4 e.2.2=some Ru:=λe he=>k4 _ _ (R3.ro e (xb he)) Ha
  have oq:(ax.map (·.1)).Nodup:=(fZ.map _).nodup_iff.mpr aA
  have pR:dN.length=ax.length:=Zy nF
  have kJ:ax.length=es.length:=fZ.length_eq
  refine⟨l2,rfl,⟨_,Hk cx⟩,λi m ys τ H'=>Aj5 (m=ax.length-i) (i≤ax.length) (Ex2 λx0 x1=>τ=[x0,x1]) (Rl H4) (Ex1 λ(ts:List Ent)=>Aj3 (ys=(eWV ts)) (∀e∈ts,H' e.2.2=some (.tup CQ)) (M' (ax.take i))),
   ⟨ax.length,rfl,SJ,⟨none,none,rfl⟩,Keep.refl,[],rfl,λe he=>(by cases he),.nil⟩,?_⟩
  rintro i m ys τ H5 ⟨rfl,hi,⟨x0,x1,rfl⟩,k5,ts,rfl,gW,jN⟩
  by_cases ad:i<ax.length
  ·have lH:=zcn jN
   have jO:ts.length≤i:=by
    have:=congrArg List.length lH
    rw[Qa,Qa,Zt]at this
    lia
   refine .inr ⟨⟨_,.ref dN[i],IU,by rw[Qo,Qd (by exact zar6 ‹_› ‹_›)];rfl⟩,by rw[Qa];lia,?_⟩
   rintro v H6 ⟨rfl,hv⟩
   have aX:=hv _ IU
   rw[Qo,Qd (by exact zar6 ‹_› ‹_›)]at aX
   obtain rfl:V.ref dN[i]=v:=Qn aX
   obtain⟨aq,fC⟩:=za5 nF (by exact zar6 ‹_› ‹_›:i<dN.length)
   have bh:ax[i]∈ax:=Qr ad
   have fT:=k5 _ _ (fS _ bh) Ha
   have oo:ax[i].1∉ts.map (·.1):=by
    rw[lH]
    have h1:(ax.map (·.1)).take HN=(ax.map (·.1)).take i++[ax[i].1]:=by
     rw[Qi (Hl Qa ad),Zk]
    have h2:((ax.map (·.1)).take HN).Nodup:=VL oq
    rw[h1,Ze,←Jn]at h2
    exact λz=>h2.2.2 _ z _ SL rfl
   refine⟨dN[i],wI,Rk (xc fC Ha),rfl,_,wI,_,wI,rfl,wI,wI,ax[i].2.2,ax[i].2.1,rfl,fT,Zg (aV _ (xb bh)) Hf,λt j H7 hj qK htfr k7=>?_⟩
   refine⟨Sum.inr ax[i].1,rfl,ax.length-HN,Hz,rfl,ad,⟨_,wI⟩,CA k7,ts++[(ax[i].1,ax[i].2.1.drop j++ax[i].2.1.take j,t)],put_new (r:=ax[i].2.1.drop j++ax[i].2.1.take j) oo,λe he=>?_,?_⟩
   ·rcases Ql.mp he with z | z
    ·exact k7 _ _ (gW e z) Ha
    ·rw[Qc.mp z];exact qK
   ·rw [Qi ad]
    exact zax jN (.cons ⟨rfl,j,rfl⟩ .nil)
  ·have ck:i=ax.length:=by exact zar3 ‹_› ‹_›
   subst ck
   rw[Qs Hx]at jN
   refine .inl ⟨⟨_,IU,by rw[Qa,pR];exact Qe _⟩,λd hd=>?_⟩
   have k6:Keep [] H5 (QP d wd):=Keep.new hd
   have pC:(QP d wd) d=some wd:=zab
   generalize QP d wd=H6 at k6 pC
   have lH:=zcn jN
   have T6:TAt H6 d ts:=⟨pC,λe he=>k6 _ _ (gW e he) Ha,Hl lH oq⟩
   have jO:ts.length=es.length:=by
    have:=congrArg List.length lH
    rw[Qa,Qa,fZ.length_eq]at this
    exact this
   have C6:Cert (ts.map (·.1)) (Pt ts) cs a9:=cert_turn Ct (by rw[lH];exact fZ.map _) (zfa jN fZ aA)
   refine⟨wI,d,ts,cs,a9,rfl,T6,HI,λe he=>?_,C6,λH7 k7=>?_⟩
   ·obtain ⟨e',bo,_,kk,e2⟩:=zhh jN he
    rw[e2,(zih _ kk).length_eq]
    exact Zg (aV e' (xb bo)) Hf
   ·have k07:Keep [] H H7:=(((gS.trans k4).trans k5).trans k6).trans k7
    have tj:=k07 _ _ hx Ha
    have T7:TAt H7 d ts:=T6.keep k7 Ha RJ
    have nxd:d≠x:=za1 T7.dc tj Hg
    refine⟨wI,wI,x,C,dx,[],rfl,tj,cW,nW,Hf,?_⟩
    refine k d ts ax _ ⟨zab,T7.keep (xs:=[x]) Sm (He nxd) λe he=>by simpa using za1 (T7.ro e he) tj Hg⟩ fZ jN ((k07.sub Ha).trans Sm)
end
end K21
end
section
namespace L2
open PySem PySem.Spec PyProof.Rows
inductive Cal(P:Nk)(w:Nn)(K:Na)(mg:Ng)(base:Np)(x:Str)(ps:Nh)(k:Nat)(sp:Sp):Prop
 |mk {f:Nc} {fd:Nw} {st:Stmt} (F:Fun K x x st f fd) (b:Binds K fd ps []) (m:mg x=some (.ref f)) (G:FnOk P w K mg base CX0 k f fd ps sp):Cal P w K mg base x ps k sp
def pcl(T:Cal X.prog X.w X.K X.mg X.base x ps k sp)(hr:U5 X.A)(ha:VX (e::es) t)(hg:VU x:=by exact rfl)(gB:RN=false:=by decide)(he:starEach (e::es) X.env=(false,C1)::starEach es X.env:=by rfl)(ba:(Cf Sr).any (·.1)=false:=by rfl) :
  PE X (.Call Pk (e::es) [] pos) (tCall sp [] E0 t):=by
 obtain⟨F,b,m,G⟩:=T
 exact zc0 G hr hg m F.kp b .nil zdi ha gB he ba
section
variable{X:Cx}
def pair_eq{q r:Str×Str}:((Se 2).all (λj=>if j=0 then q.1==r.1 else q.2==r.2)&&true)=decide (q=r):=by
 rw[show List.range 2=[0,1] from rfl,Yp]
 simp[Prod.ext_iff]
def pair_at{A:Nq}{s:Nj}{l b:Nc}{q r:Str×Str}{t1 t2 t3 t4:Tok}(h:A.units<cLine)(p:s.heap.IsTuple l #[.str q.1 t1,.str q.2 t2])(p2:s.heap.IsTuple b #[.str r.1 t3,.str r.2 t4]):SeqAt.RcAt A s Sy Ey (decide (q=r)):=by
 rw[←pair_eq]
 refine SeqAt.RcAt.tuples (e:=λj=>if j=0 then q.1==r.1 else q.2==r.2) p p2 h λj j1 j2=>?_
 have sR:j<2:=by simpa using j1
 match j,sR with
 |0,_=>exact Je q.1 t1 r.1 t3
 |1,_=>exact Je q.2 t2 r.2 t4
def op_ne_pairsS(hu:X.A.units<cLine):YK (λx y H Q=>Ex4 λ(a b:Nc) (q r:Str×Str)=>Aj5 (x=.ref a) (y=.ref b) (H a=some (.tup [Oc,.str q.2])) (H b=some (.tup [xw,xx])) (Ap (!decide (q=r)))):=by
 intro a5 s σ H x y v u Q I rx ry h
 obtain⟨a,b,q,r,rfl,rfl,ha,hb,k⟩:=h
 cases rx;cases ry
 obtain⟨_,a7,r1,p⟩:=Vu ha
 obtain⟨_,aO,r2,p2⟩:=XY _ hb
 obtain⟨u1,u2,rfl,⟨t1,rfl⟩,⟨t2,rfl⟩⟩:=vals2 r1
 obtain⟨w1,w2,rfl,⟨t3,rfl⟩,⟨t4,rfl⟩⟩:=vals2 r2
 refine SeqAt.RcNeAt.tuples (e:=λj=>if j=0 then q.1==r.1 else q.2==r.2) p p2 hu (λj j1 j2=>?_) _ _ _ _ ⟨.bl (!decide (q=r)),H,I,?_,k⟩
 ·have sR:j < 2:=by simpa using j1
  match j,sR with
  |0,_=>exact Je q.1 t1 r.1 t3
  |1,_=>exact Je q.2 t2 r.2 t4
 ·show Value.bool _=Value.bool _
  congr 1
  rw[←pair_eq];rfl
end
end L2
namespace K21
open PySem L2 Wb
abbrev sCell:Stmt:=top 42
abbrev sPot:Stmt:=top 43
abbrev sTake:Stmt:=top 44
abbrev sBehind:Stmt:=top 46
abbrev sFace:Stmt:=top 47
inductive zh1(vs:List V)(H:Hp)(Q:VK):Prop
 |mk (a:Nc) (zs:Nh) (x:Str) (h0:vs=[.ref a,.str x]) (h1:H a=some (.lst (zs.map V.str))) (h2:x∈zs) (h3:zs.length≤900) (h4:Q (.str (nxt zs x)) H):zh1 vs H Q
def spBehindS:Sp:=λvs H Q _=>zh1 vs H Q
structure RF(H:Hp)(d:Nc)(es:List Ent):Prop where
 dc:Fq Ra
 nd:(es.map (·.1)).Nodup
 ro:∀e∈es,H e.2.2=some Ru
def RF.get(R:Fx es)(he:e∈es):BF d Rw xf:=.inl ⟨_,Sf,R.dc,rfl,(zb7 R.nd he).symm⟩
def RF.keep(R:Fx es)(k:Rl H):RF H' d es :=
 ⟨R.dc.imp (λe=>k _ _ e Ha) λ⟨o,e⟩=>⟨o,CP e⟩,R.nd,λe he=>k _ _ (R.ro e he) Ha⟩
def RF.inn{d:Nc}(R:Fx es)(h:a∈es.map (·.1)):∃e∈es,e.1=a∧BF d (Ts a) xf:=by
 obtain⟨e,he,ea⟩:=Qf.mp h
 have ea':e.1=a:=ea
 subst ea'
 exact⟨e,he,rfl,R.get he⟩
structure Rnd(r:Nr)(s:Str×Str)(L:Nu):Prop where
 cy:∃t,L=s::t∧Vz s t s
 nd:L.Nodup
 al:∀u∈L,u.1∈r u.2
def rnd_of{ns:Nh}{r:Nr}{cs:List (S1 (Str×Str))}{a9:Ny}(C:QT a9){s:Str×Str}(hs:s.1∈r s.2):∃L,Rnd r s L:=by
 obtain⟨c,bV,nQ⟩:=Zu.mp ((IR s).mpr hs)
 obtain⟨A1,B1,eU⟩:=Yq nQ
 have lT:=zc7 (eU▸Bq bV)
 have dI:(s::(B1++A1)).Perm c:=by
  rw[eU]
  refine Jl.mpr λa=>?_
  simp only[Ka,Km];lia
 refine⟨s::(B1++A1),⟨wI,lT⟩,?_,λu hu=>C.inc bV (wG hu)⟩
 rw[dI.nodup_iff]
 have:=(zb3 bV).nodup_iff.mp C.cf
 rw[Ze]at this
 exact this.1
inductive IspStepsS(vs:List V)(H:Hp)(Q:VK):Prop
 |mk (d:Nc) (es:List Ent) (cs:List (List (Str×Str))) (a9:Ny) (s:Str×Str) (h0:vs=[.ref d,.str s.1,.str s.2]) (h1:RF H d es) (h2:s.1∈row (rsOf es) s.2) (h3:Cert (es.map (·.1)) (row (rsOf es)) cs a9) (h4:es.length≤40)
  (h6:∀(t:Nc) (ps:No) (L:Nu) (H':Hp),H t=none→H' t=some (Hr (ps.map V.ref))→zbu H' ps L→X9 s L→L.length≤1600→(∀a∈ps,H a=none)→Keep [] H H'→Q Ll H'):IspStepsS vs H Q
def zh7:Sp:=λvs H Q _=>IspStepsS vs H Q
def steps_len{es:List Ent}{r:Nr}{cs:List (S1 (Str×Str))}{a9:Ny}(C:Cert (es.map (·.1)) r cs a9)(h:es.length≤40){L:Nu}(nd:L.Nodup)(al:∀u∈L,u.1∈r u.2):L.length≤1600:=by
 have jP:∀u∈L,u∈(es.map (·.1)).flatMap λx=>(es.map (·.1)).map λy=>(x,y):=λu hu=>by
  have h1:=al u hu
  refine List.mem_flatMap.mpr ⟨u.1,C9 h1,La ⟨u.2,IS h1,rfl⟩⟩
 have:=nodup_len nd jP
 rw[List.length_flatMap]at this
 simp only[Qa,List.map_const',List.sum_replicate_nat]at this
 have h2:es.length*es.length≤40*40:=Nat.mul_le_mul h h
 lia
section
variable{P:Nk}{w:Nn}{K:Na}{mg:Ng}{base:Np}
def scBehind:zaj ["_law_around", "_law_place"] ["_law_around", "_law_place"] (zai sBehind):=fsk
def ok_behindS(F:QE "_law_behind" "_law_behind" sBehind f fd)(ae:mg "len" = none):ZB 1 f fd ["_law_around", "_law_place"] spBehindS:=by
 refine F.okL scBehind Hj
 obtain⟨a,zs,x,rfl,ha,hx,hz,k⟩:=h
 have hu:=zb6 hr
 refine⟨_,zag (zaq (QI R6 (X6 (Ed (Vx R6 SH))
  (U2 HQ ae Yi SM)) Hq)),?_⟩
 obtain⟨i1,i2⟩:=ziu hx
 have eF:0<zs.length:=Yl hx
 have hm:(zs.idxOf x+1)%zs.length<zs.length:=DR eF
 have g:(zs.map V.str)[(zs.idxOf x+1)%zs.length]?=some (Ts (BX x)):=by
  rw[Qo,Qd hm]
  unfold nxt
  simp[List.getD,hm]
 have e1:((zs.idxOf x:Nat):Int)+1=((zs.idxOf x+1:Nat):Int):=by lia
 have g2:atI RT ((((zs.idxOf x:Nat):Int)+1)%((zs.map V.str).length:Int))=some (Ts (BX x)):=by
  rw[e1,Qa,←Int.natCast_emod]
  exact zaw g
 refine⟨wI,wI,RC ha,wI,a,_,_,wI,rfl,ha,rfl,zce zs,i1,i2,_,wI,rfl,wI,a,wI,SS ha,_,wI,rfl,?_,a,_,_,wI,rfl,Hk ha,g2,k⟩
 rw[Qa];exact zar9 ‹_›
def scFace:zaj [qR, "_law_p", "_law_q", "_law_found", "_law_here"] [qR, "_law_p", "_law_q"] (zai sFace):=fsk
def ok_face(F:QE "_law_face" "_law_face" sFace f fd)(GB:ZF "_law_behind" ["_law_around", "_law_place"] 1 spBehindS) :
  FnOk P w K mg base CX0 2 f fd [qR, "_law_p", "_law_q"] zh7:=by
 refine F.okL scFace Hj
 obtain⟨d,es,cs,a9,sp,rfl,R,ar,C,aH,k⟩:=h
 have hu:=zb6 hr
 refine⟨_,zad (Br scFace.nd (za8 (Rx (zbd (ZV zo)))))
  (zad (Bb scFace.nd (zbd (ZW (Rx (O1 GB (zaa (QV zq) SH))))))
  (zad (Mx (zar (op_ne_pairsS (Wl AC hu)) Sd (QI RX zah (fun _ _=>rfl)) rfl)
   (zad (Cz RX SO)
   (zag (Bb scFace.nd (zbd (zaa (S0 Sd) (zaa (O1 GB (zaa (QV (S0 Sd)) (zm 4))) zae)))))))
  (zag (zaq RX)))),?_⟩
 obtain⟨L,⟨lt,eL,lT⟩,nd,al⟩:=rnd_of C ar
 have hLb:=steps_len C aH nd al
 have dI:0<L.length:=by rw[eL];simp
 have iM:∀k (hk:k<L.length),Bt L[k]=L.getD (k+1) sp:=λk hk=>by
  have:=lk_get lT k (by rw[←eL];exact hk)
  rw[←eL,Zf,Qd hk]at this
  exact this
 have rn:∀e∈es,e.2.1.length≤900:=λe he=>by
  have h1:e.2.1.Nodup:=by have:=C.rn e.1;rw[JH he]at this;exact this
  have:∀y∈e.2.1,y∈es.map (·.1):=λy hy=>C.inn' (x:=e.1) (by rw[JH he];exact hy)
  have:=zb9 h1 this
  rw[Qa]at this
  lia
 have at':∀{H':Hp},RF H' d es→∀q:Str×Str,q.1∈ZK q.2→∃e∈es,DGet H' d (.str q.2) xf∧H' e.2.2=some Ru∧q.1∈e.2.1∧Bt q=(q.2,Gq q.1):=λ{H'} R' q hq=>by
  obtain⟨e,he,ee,g⟩:=R'.inn (IS hq)
  have hr:=JH he
  rw[ee]at hr
  exact⟨e,he,g,R'.ro e he,by rw[←hr];exact hq,by show(q.2,nxt (ZK q.2) q.1)=_;rw[hr]⟩
 have i0:∀x y:V,atI [x,y] RO=some x:=λx y=>zaw rfl
 have i1:∀x y:V,atI [x,y] ((1:Nat):Int)=some y:=λx y=>zaw rfl
 have ap  := sizeLine_eq
 refine⟨wI,wI,SD,λt0 tI=>⟨EM,λl hl=>?_⟩⟩
 have k1:Keep [] H (upd (ZX t0 (.tup [EZ,E1])) l (.lst [we])):=(Ho tI).trans A4
 have ntl:t0≠l:=zac (o:=_) zab hl
 have dZ:(upd (ZX t0 (.tup [EZ,E1])) l (.lst [we])) t0=some (.tup [EZ,E1]):=by rw[zaf ntl];exact zab
 have aD:(upd (ZX t0 (.tup [EZ,E1])) l (.lst [we])) l=some (.lst [we]):=zab
 have fl:H l=none:=zao (xs:=[]) (Ho tI) hl Ha
 generalize upd (ZX t0 (.tup [EZ,E1])) l (.lst [we])=H1 at k1 dZ aD
 have R1:=R.keep k1
 obtain⟨e,he,g1,g2,g3,g5⟩:=at' R1 sp ar
 refine⟨wI,wI,wI,d,wI,g1,wI,_,e.2.1,sp.1,rfl,g2,g3,rn e he,SD,λt ht=>?_⟩
 have h0:L[0]'(dI)=sp:=by
  have:L[0]?=some sp:=by rw[eL];rfl
  exact(Qx.mp this).2
 have e5:[V.str sp.2,wx (Gq sp.1)]=[V.str (EY 1).1,V.str (EY 1).2]:=by rw[←iM 0 dI,h0,g5]
 rw[e5]
 have nlt:l≠t:=zac aD ht
 have pf:∀{a:Nc},H1 a=none→H a=none:=λ{a} h=>Fy h Ha
 refine⟨λm σ H2=>Ex3 λ(n:Nat) (t:Nc) (as:No)=>Aj9 (m=L.length-n) (n<L.length) (σ=[Tf,Hs EZ,Hs E1,Es,Hc t]) (Keep [l] H1 H2) (H2 l=some (Hr ((t0::as).map V.ref))) (zbu H2 (t0::as) (L.take (n+1))) (H2 t=some (.tup [.str (EY (n+1)).1,.str (EY (n+1)).2])) (as.length=n) (Aj2 (∀a∈t0::as,H a=none) (H t=none)),
  ⟨_,0,t,[],rfl,dI,rfl,TJ,Ht nlt aD,?_,zab,rfl,λa ha=>by rw[Qc.mp ha];exact tI,pf ht⟩,?_⟩
 ·rw [show L.take (0+1)=[sp] by rw [eL];rfl]
  exact .cons (Ht (zy dZ ht) dZ) .nil
 rintro m σ H2 ⟨n,t,as,rfl,hn,rfl,k2,aw,pa,cu,aW,lW,hft⟩
 have tH:=k2 _ _ dZ (He ntl)
 refine⟨wI,wI,l,_,_,wI,rfl,PH,(show atI ((t0::as).map V.ref) RO=some we from zaw rfl),t,t0,EY (n+1),sp,rfl,rfl,cu,tH,wI,?_⟩
 by_cases bw:n+1=L.length
 ·have hL:L.getD (n+1) sp=sp:=by rw [Zf,Kd Hb];rfl
  refine za7 (by rw[decide_eq_true hL];rfl) ?_
  rw[Qs Hb]at pa
  exact⟨wI,k l (t0::as) L H2 fl aw pa ⟨⟨lt,eL,lT⟩,nd,al⟩ hLb lW λc o ec _=>k2 c o (k1 _ _ ec Ha) (by simpa using WM fl)⟩
 ·have cJ:n+1 < L.length:=by lia
  have gC:L.getD (n+1) sp=L[n+1]:=by rw[Zf,Qd cJ];rfl
  rw[gC]at cu ⊢
  have az:L[n+1]≠sp:=λz=>by
   rw[←h0]at z
   have:=(We (h₀:=cJ) (h₁:=dI) nd).mp z
   lia
  refine zbf (by rw[decide_eq_false az];rfl) ?_
  have sE:t≠l:=za1 cu aw Hg
  refine⟨_,λ σ' H' z=>z,?_⟩
  refine⟨wI,RC aw,wI,l,_,wI,rfl,aw,by rw[Qa,Qz];lia,?_⟩
  have k3:Keep [l] H1 (wf l ((t0::as).map V.ref++[Le t])):=k2.trans SX
  have nK:(wf l ((t0::as).map V.ref++[Le t])) t=some (.tup [.str L[n+1].1,.str L[n+1].2]):=by rw[zaf sE];exact cu
  have aP:(wf l ((t0::as).map V.ref++[Le t])) l=some (Hr ((t0::(as++[t])).map V.ref)):=by rw[zab,←Wv,Qq];rfl
  have lw:zbu (wf l ((t0::as).map V.ref++[Le t])) (t0::(as++[t])) (L.take (n+1+1)):=by
   rw[Qi cJ,←Wv]
   refine zax (zbu.keep pa λb x y eb=>?_) (Sa nK)
   rw[zaf (za1 eb aw Hg)];exact eb
  generalize QA l (Hr ((t0::as).map V.ref++[Le t]))=H3 at k3 nK aP lw
  have R3:RF H3 d es:=⟨R1.dc.imp (λz=>k3 _ _ z (by simpa using za1 z aD (by intro q;cases q))) λ⟨o,z⟩=>⟨o,k3 _ _ z (by simpa using za1 z aD (by intro q;cases q))⟩,R1.nd,λe he=>k3 _ _ (R1.ro e he) (by simpa using V2 fl)⟩
  obtain⟨e,he,g1,g2,g3,g5⟩:=at' R3 L[n+1] (al _ (Qr cJ))
  refine⟨wI,t,_,_,wI,rfl,Rk nK,Ld,wI,wI,t,_,_,wI,rfl,Rk nK,Ld,d,wI,g1,wI,t,_,_,wI,rfl,Rk nK,LX,_,e.2.1,L[n+1].1,rfl,g2,g3,rn e he,SD,λt' qQ=>?_⟩
  have e6:[V.str L[n+1].2,wx (Gq L[n+1].1)]=[V.str (EY (n+1+1)).1,V.str (EY (n+1+1)).2]:=by rw[←iM (n+1) cJ,g5]
  rw[e6]
  have nl':l≠t':=zac aP qQ
  have ft':H t'=none:=pf (zao k3 qQ (by simpa using Zl nl'))
  refine⟨L.length-(n+1),Hb,n+1,t',as++[t],rfl,cJ,rfl,TM (Ho qQ),Ht nl' aP,zbu.keep lw λb x y eb=>by rw[zaf (zy eb qQ)];exact eb,zab,by rw[Qw,aW];rfl,λa ha=>?_,ft'⟩
  rw[←Wv]at ha
  rcases Ql.mp ha with z | z
  ·exact lW a z
  ·rw[Qc.mp z];exact hft
inductive IspCell(K:Na)(vs:List V)(H:Hp)(Q:VK):Prop
 |mk (a:Nc) (ns:List Int) (j:Nat) (h0:vs=[.ref a,.int j]) (h1:SqL K H a (ns.map V.int)) (h3:∀c:Int,Q (.int c) H):IspCell K vs H Q
def spCell(K:Na):Sp:=λvs H Q _=>IspCell K vs H Q
inductive IspPot(vs:List V)(H:Hp)(Q:VK):Prop
 |mk (c:Int) (h0:vs=[.int c]) (h3:∀(l:Nc) (b m:Int) (H':Hp),H l=none→Pot H' l b m→Keep [] H H'→Q (.ref l) H'):IspPot vs H Q
def spPot:Sp:=λvs H Q _=>IspPot vs H Q
def scCell:zaj [qS, "_law_k"] [qS, "_law_k"] (zai sCell):=fsk
def ok_cell(F:QE "_law_cell" "_law_cell" sCell f fd)(ae:mg "len" = none):ZB 1 f fd [qS, "_law_k"] xg:=by
 refine F.okL scCell Hj
 obtain⟨a,ns,j,rfl,hS,k⟩:=h
 refine⟨_,zad (zC (M6 Rj (Cs SM) Sq) (zag (zaq (S9 R6 Rj)))) (zag (zaq zah)),?_⟩
 refine⟨wI,wI,a,wI,RH hS,_,wI,rfl,wI,?_⟩
 refine ite2 (λad=>?_) (λ_=>k _)
 have uw:(j:Int)<((ns.map V.int).length:Int):=of_decide_eq_true ad
 have lV:j<ns.length:=by rw[Qa]at uw;lia
 have g:(ns.map V.int)[j]?=some (.int ns[j]):=by rw[Qo,Qd lV];rfl
 exact⟨wI,wI,a,_,_,wI,rfl,hS,zaw g,k _⟩
def scPot:zaj ["_law_cell_here"] ["_law_cell_here"] (zai sPot):=fsk
def ok_pot(F:QE "_law_pot" "_law_pot" sPot f fd)(ut:mg "max" = none)(v2:mg "abs" = none):ZB 1 f fd ["_law_cell_here"] spPot:=by
 refine F.okL scPot Hj
 obtain⟨c,rfl,k⟩:=h
 refine⟨_,zag (zaq (za8 (zaa (zal (call_max2 rfl) HQ ut PyProof.Rows.boot_max (Q4 (Rx (Be (pv 0) yk))))
    (zaa (Ed (X6 (zal call_abs HQ v2 PyProof.Rows.boot_abs SM) zah)) zae)))),?_⟩
 refine⟨wI,_,wI,rfl,⟨Hf,Hf,Hf⟩,_,wI,rfl,_,wI,wI,wI,_,wI,rfl,(by show(0:Int)<2147483563;decide),_,wI,rfl,SD,λl hl=>?_⟩
 have h1:0≤(if c<0 then -c else c)%2147483563:=Xs _ Hf
 have h2:(if c<0 then -c else c)%2147483563<2147483563:=Ks _ Hf
 refine k l _ _ _ hl ⟨zab,?_,Hb,Hb⟩ A4
 split<;>lia
def scTake:zaj [qP,qM, "_law_digit"] [qP,qM] (zai sTake):=fsk
def ok_take(F:QE "_law_take" "_law_take" sTake f fd)(dm:mg "divmod" = none):ZB 1 f fd [qP,qM] zf9:=by
 refine F.okL scTake Hj
 obtain⟨p,b,m,n,rfl,⟨hp,hb,hm,cb⟩,hn,bC,k⟩:=h
 have i0:atI [S7 b,S7 m] RO=some (HM b):=zaw rfl
 have i1:atI [S7 b,S7 m] ((1:Nat):Int)=some (HM m):=zaw rfl
 refine⟨_,zad (zbn (Gr OA zah Sq)
   (zad (zcz (zal zg2 HQ dm PyProof.Rows.boot_divmod (zaa (QI R6 zah (fun _ _=>rfl)) SH)) (Cv (FX set_list) (TH (Ms scTake.nd))))
    (zag Pw)) zap)
   (zad (zcz (X6 (Ed (Vf OA zah)) zah) (FX set_list))
   (zag (zaq (X6 (za2 op_fdiv (X6 (Vf OA OA) zah) zah) Rj)))),?_⟩
 refine⟨wI,p,_,_,wI,rfl,Hk hp,i0,_,wI,rfl,wI,?_⟩
 refine ite2 (λeF=>?_) (λhneg=>?_)
 ·have md:0 < b:=of_decide_eq_true eF
  refine⟨wI,p,_,_,wI,rfl,Hk hp,i0,wI,b,n,rfl,⟨hn,bC⟩,λt ht=>?_⟩
  have npt:p≠t:=zac hp ht
  refine⟨t,wI,Rk zab,rfl,_,wI,wI,p,_,0,0,rfl,rfl,(Ht npt hp),rfl,_,wI,rfl,wI,?_⟩
  refine k (b%n) (b/n) m _ (Xs _ Hb) (Ks _ hn) ⟨zab,Int.ediv_nonneg hb Hb,hm,cb⟩ λc o e hc=>?_
  rw[zaf hc,zaf (XN ht)]
  exact e
 ·have i1':∀ x:Int,atI [S7 b,S7 x] ((1:Nat):Int)=some (HM x):=fun x=>zaw rfl
  have r0:0≤(m*39373+7919)%2147483629:=Xs _ Hf
  have r1:(m*39373+7919)%2147483629<2147483629:=Ks _ Hf
  refine⟨wI,p,_,_,wI,rfl,Hk hp,i1,_,wI,rfl,RH ⟨HI,HI⟩,_,wI,rfl,_,wI,rfl,(by show(0:Int)<2147483629;decide),wI,p,_,1,1,rfl,rfl,hp,rfl,?_⟩
  refine⟨wI,p,_,_,wI,rfl,TQ,i1' _,wI,p,_,_,wI,rfl,TQ,i1' _,_,wI,rfl,RH ⟨HI,HI⟩,_,wI,rfl,(by show(0:Int)<2147483563;decide),_,wI,rfl,⟨Hf,Hf⟩,wI,_,wI,rfl,hn,?_⟩
  refine k _ b ((m*39373+7919)%2147483629) _ (Xs _ Hb) (Ks _ hn) ⟨zab,hb,r0,Hb⟩ λc o e hc=>?_
  rw[zaf hc]
  exact e
end
end K21
end
section
namespace L2
open PySem PySem.Spec PyProof.Rows
def zgt(P:St→Hp→Prop)(h:∀D':Ends,(∀σ H,P σ H→D'.nx σ H)→t D' σ H)(hD:∀σ H,P σ H→u D σ H):tSeq t u D σ H:=h {D with nx:=u D} hD
end L2
namespace K21
open PySem L2 Wb
abbrev sPut:Stmt:=top 48
inductive IspPut(vs:List V)(H:Hp)(Q:VK):Prop
 |mk (d:Nc) (es:List Ent) (e1 e2:Ent) (c1 c2:Option Str) (h0:vs=[.ref d,.str e1.1,zbt c1,.str e2.1,zbt c2]) (h1:RAt H d es) (h2:e1∈es) (h2':e2∈es) (az:e1.1≠e2.1) (h3:(∀x,c1=some x→x∈e1.2.1)) (h3':(∀x,c2=some x→x∈e2.2.1)) (h4:∀e∈es,e.2.1.length≤900) (h5:es.length≤900)
  (h6:∀(a1 a2:Nc) (H':Hp),RAt H' d (UT a2)→Keep [d] H H'→Q .non H'):IspPut vs H Q
def spPut:Sp:=λvs H Q _=>IspPut vs H Q
def PutI(d:Nc)(es:List Ent)(e1 e2:Ent)(c1 c2:Option Str)(H:Hp)(a1 a2:Nc):Nat→Prop
 |0=>Vc es
 |1=>Vc (zF c1)
 |_=>Vc (UT a2)
def mem_setE(h:e∈es)(hx:e.1≠x):e∈U1 x r a:=by
 unfold setE
 exact Qf.mpr ⟨e,h,by rw[if_neg hx]⟩
section
variable{P:Nk}{w:Nn}{K:Na}{mg:Ng}{base:Np}
def scPut:zaj [qR, "_law_one_here", "_law_corner_of",qO, "_law_after", "_law_place", "_law_corner", "_law_new", "_law_row", "_law_at"] [qR, "_law_one_here", "_law_corner_of",qO, "_law_after"] (zai sPut):=fsk
def ok_put(F:QE "_law_put" "_law_put" sPut f fd):ZB 1 f fd [qR, "_law_one_here", "_law_corner_of",qO, "_law_after"] spPut:=by
 refine F.okL scPut Hj
 obtain⟨d,es,e1,e2,c1,c2,rfl,R,bw,eO,az,aQ,bq,hl,aH,k⟩:=h
 have hu:=zb6 hr
 have ap:=sizeLine_eq
 refine⟨_,zag (Z4 (pi_tup (zbd (zaa (zbd (ZV (ZW Tp))) (Rx (zbd (QB (QH SH))))))) (Cv (XB scPut.nd) (zak (XC scPut.nd) (TH (zam 7 scPut.nd))))
  (zad (zan 8 scPut.nd (QV So))
  (zad (zan 9 scPut.nd zah)
  (zad (zC (ER Tx) (zag (zan 9 scPut.nd (Ed (Vx (pv 8) Cl)))))
  (zag (MX So (Vd (Vd (FY Em zdh (zcd (pv 9))) Px) (FY Em (zcd (pv 9)) zdh)) rfl)))))),?_⟩
 refine⟨wI,wI,wI,Py,λt1 dZ=>?_⟩
 have k1:Keep [] H (ZX t1 (.tup [Tc,zbt c1,TF])):=Keep.new dZ
 have g1:(ZX t1 (.tup [Tc,zbt c1,TF])) t1=some (.tup [Tc,zbt c1,TF]):=zab
 generalize ZX t1 (.tup [Tc,zbt c1,TF])=H1 at k1 g1
 refine⟨wI,wI,wI,Py,λt2 cu=>⟨SD,λq hq=>?_⟩⟩
 have k2:Keep [] H1 (QK t2 (.tup [TF,zbt c2,Tc])):=Keep.new cu
 have g2:(QK t2 (.tup [TF,zbt c2,Tc])) t2=some (.tup [TF,zbt c2,Tc]):=zab
 generalize QK t2 (.tup [TF,zbt c2,Tc])=H2 at k2 g2 hq
 have k3:Keep [] H2 (QA q (.tup [Hi t1,Hi t2])):=Keep.new hq
 have qX:(QA q (.tup [Hi t1,Hi t2])) q=some (.tup [Hi t1,Hi t2]):=zab
 generalize QA q (.tup [Hi t1,Hi t2])=H3 at k3 qX
 have dS:Keep [] H H3:=(Lm k2).trans k3
 have g13:=(Tr k3) _ _ g1 Ha
 have g23:=k3 _ _ g2 Ha
 have R3:RAt H3 d es:=R.keep dS Ha λ_ _=>by simp
 have ndq:q≠d:=za1 qX R3.dc Hg
 have nd1:t1≠d:=za1 g13 R3.dc Hg
 have fG:t2≠d:=za1 g23 R3.dc Hg
 refine⟨q,rfl,⟨_,Rk qX⟩,for_tup (xs:=[Hi t1,Hi t2]) (λi σ H'=>Aj2 (Ex5 λx5 x6 x7 x8 x9=>σ=[Tf,Hs Tc,Ec c1,Hs TF,Ec c2,x5,x6,x7,x8,x9]) (Aj2 (Keep [d] H3 H') (Ex2 λa1 a2=>VA i)))
  ⟨⟨_,_,_,_,_,rfl⟩,Keep.refl,0,0,R3⟩ (λi σ H' _ hh=>SqT.of (hh.2.1 _ _ qX (He ndq))) ?_ ?_⟩
 ·rintro i v σ H4 hv ⟨⟨x5,x6,x7,x8,x9,rfl⟩,k4,a1,a2,hR⟩
  obtain⟨t,cR,e,c,n,rfl,ht,R4,he,hc,cg,hesl,fin⟩:∃(t:Nc) (cR:List Ent) (e:Ent) (c:Option Str) (n:Str),v=.ref t∧H4 t=some (.tup [Rw,zbt c,Ts n])∧RAt H4 d cR∧e∈cR∧(∀x,c=some x→x∈e.2.1)∧e.2.1.length≤900∧cR.length≤900 ∧
    ∀(a:Nc) (H':Hp),RAt H' d (setE cR e.1 (VM n) a)→Ex2 λa1 a2=>VA HN:=by
   match i,hv,hR with
   |0,hv,hR=>exact⟨t1,es,e1,c1,e2.1,(Qn hv).symm,k4 _ _ g13 (He nd1),hR,bw,aQ,hl e1 bw,aH,λa H' r=>⟨a,0,r⟩⟩
   |1,hv,hR=>exact⟨t2,_,e2,c2,e1.1,(Qn hv).symm,k4 _ _ g23 (He fG),hR,mem_setE eO (Zl az),bq,hl e2 eO,by unfold setE;rw[List.length_map];exact aH,λa H' r=>⟨a1,a,r⟩⟩
   |n+2,hv,hR=>cases hv
  clear hv hR
  have am:=R4.ro e he
  refine⟨t,wI,Rk ht,rfl,_,wI,_,wI,_,wI,rfl,wI,wI,d,wI,(zb7 R4.nd he▸DGet.k (k:=Sum.inr e.1) R4.dc),?_⟩
  show tSeq (UQ (zer 9)) _ _ _ _
  refine zgt (λ σ' H'=>Aj2 (σ'=[Tf,Hs Tc,Ec c1,Hs TF,Ec c2,LT,Ec c,Sx n,xf,RZ 0]) (H4=H')) (λD' bA=>bA _ _ ⟨rfl,rfl⟩) ?_
  rintro σ' H' ⟨rfl,rfl⟩
  dsimp only
  refine zgt (λ σ' H'=>Aj2 (Ex1 λj:Nat=>Aj3 (σ'=[Tf,Hs Tc,Ec c1,Hs TF,Ec c2,LT,Ec c,Sx n,xf,RZ j]) (j≤e.2.1.length) (VM n=e.2.1.take j++n::e.2.1.drop j)) (H4=H')) (λD' bA=>?_) ?_
  ·cases c with
   |none=>exact⟨wI,wI,iteF (bA _ _ ⟨⟨0,rfl,SJ,rfl⟩,rfl⟩)⟩
   |some x =>
    have hx:=hc x rfl
    obtain⟨i1,i2⟩:=ziu hx
    refine⟨wI,wI,iteT ⟨wI,RC am,wI,e.2.2,_,_,wI,rfl,am,rfl,xy,i1,i2,_,wI,rfl,bA _ _ ⟨⟨e.2.1.idxOf x+1,?_,idx_lt hx,rfl⟩,rfl⟩⟩⟩
    have e1:((e.2.1.idxOf x+1:Nat):Int)=(e.2.1.idxOf x:Int)+1:=by lia
    rw[e1];rfl
  rintro σ' H' ⟨⟨j,rfl,hj,ei⟩,rfl⟩
  have aN:(e.2.1.map V.str).length=e.2.1.length:=Qa ..
  refine⟨wI,wI,wI,e.2.2,wI,Hk am,λp1 h1=>?_⟩
  refine⟨wI,EM,λp2 h2=>?_⟩
  have fH:p1≠p2:=zac (o:=_) zab h2
  refine⟨p1,p2,_,wI,rfl,ye,zab,?_,λp3 h3=>?_⟩
  ·have:=XF none (some (j:Int))
   rw[aN]at this
   show _+1≤sizeLine
   lia
  generalize dJ:upd (A5 p1 (Y0 none (some (j:Int)))) p2 (.lst [Ts n])=H5 at h3 ⊢
  have k5:Keep [] H4 H5:=by rw[←dJ];exact(Ho h1).trans OX
  have jd:=k5 _ _ am Ha
  have n3:e.2.2≠p3:=zac jd h3
  refine⟨wI,wI,wI,e.2.2,wI,Hk (by rw[zaf n3];exact jd),λp4 h4=>?_⟩
  have n34:p3≠p4:=zac (o:=_) zab h4
  refine⟨p3,p4,_,wI,rfl,(Ht n34 zab),zab,?_,λp5 h5=>?_⟩
  ·have q1:=XF none (some (j:Int))
   have q2:=XF (some (j:Int)) none
   rw[aN]at q1 q2
   rw[Qw]
   show _+1+_≤sizeLine
   lia
  generalize hH4:upd (wg p3 (Y0 none (some (j:Int))++[Ts n])) p4 (Hr (Y0 (some (j:Int)) none))=H6 at h5 ⊢
  have k6:Keep [] H4 H6:=by rw[←hH4];exact(CA OY).trans O2
  have pC:=k6 _ _ R4.dc Ha
  have nd5:d≠p5:=zac pC h5
  refine⟨wI,wI,d,wI,DPut.k (k:=Sum.inr e.1) (Ht nd5 pC) Ce,?_⟩
  have gm:e.1∈cR.map (·.1):=Qf.mpr ⟨e,he,rfl⟩
  have el:Y0 none (some (j:Int))++[wx n]++Y0 (some (j:Int)) none=(VM n).map V.str:=by
   rw[cut_to Pq,zi1 Pq,ei,Qq,Qm,Jn,Xc,Qv]
   rfl
  refine⟨⟨_,_,_,_,wI⟩,λx o ex nx=>?_,fin p5 _ ⟨?_,λe' bo=>?_,by rw[zca];exact R4.nd⟩⟩
  ·have nxd:x≠d:=fun z=>nx (by rw [z];exact Qc.mpr rfl)
   have e4:=k4 x o ex nx
   rw[zaf nxd,zaf (zy (k6 _ _ e4 Ha) h5)]
   exact k6 _ _ e4 Ha
  ·rw[zab,put_setE (r:=VM n) gm]
  ·unfold setE at bo
   obtain⟨e0,h0,rfl⟩:=Qf.mp bo
   by_cases z:e0.1=e.1
   ·rw [Si z]
    rw[zaf (Zl nd5),zab,el]
   ·rw [Sb z]
    have r0:=R4.ro e0 h0
    have nd0:e0.2.2≠d:=za1 r0 R4.dc Hg
    rw[zaf nd0,zaf (zy (k6 _ _ r0 Ha) h5)]
    exact k6 _ _ r0 Ha
 ·rintro σ H4 ⟨⟨x5,x6,x7,x8,x9,rfl⟩,k4,a1,a2,hR⟩
  exact k a1 a2 H4 hR λc o ec nc=>k4 c o (dS c o ec Ha) nc
end
end K21
end
section
namespace Wb
section
variable{α:Type}[DecidableEq α]
theorem itr_front(rs:Rs α)(s:α×α):∀n,J8 s (n+1)=J8 (stp rs s) n
 |0=>rfl
 |n+1=>congrArg (stp rs) (itr_front rs s n)
theorem lk_itr:∀{t:List (α×α)} {s:α×α},Lk (st yh) s t e→run rs s (t.length+1)=s::t
 |[],s,k=>rfl
 |y::t,s,k=>by
  have h1:=lk_itr k.2
  have hs:stp rs s=y:=k.1
  unfold run at h1 ⊢
  rw[Qz,List.range_succ_eq_map,Qm,Zj,←h1]
  refine congrArg (s::·) (Yc λn _=>?_)
  show J8 s (n+1)=_
  rw[itr_front,hs]
end
end Wb
namespace K21
open PySem L2 Wb
abbrev sCross:Stmt:=top 50
structure DrE(H:Hp)(d:Nc)(es:List Ent):Prop where
 ra:Vc es
 gd:Good Lb
 few:es.length≤16
def zbq(es:List Ent):(Lh es).map (·.1)=es.map (·.1):=by
 unfold rsOf;rw[List.map_map];rfl
def DrE.k0(r:N8 es)(k:Rl H):YU es:=⟨r.ra.keep k Ha λ_ _=>by simp,r.gd,r.few⟩
def DrE.pot(r:N8 es)(h:M4 m)(k:Keep [p] H H'):YU es :=
 ⟨r.ra.keep k (by simpa using pot_nd h r.ra.dc) λe he=>by simpa using zgh h (r.ra.ro e he),r.gd,r.few⟩
def DrE.cert(r:N8 es):∃cs a9,Cert (es.map (·.1)) RI cs a9:=by
 obtain⟨cs,a9,C⟩:=r.gd
 rw[zbq]at C
 exact⟨cs,a9,C⟩
def DrE.row(r:N8 es):∀e∈es,e.2.1.length≤16:=λe he=>by
 have:=ze5.rows r.gd (e.1,e.2.1) (La ⟨e,he,rfl⟩)
 rw[show(Lh es).length=es.length from Qa ..]at this
 exact Zg this r.few
def DrE.rf(r:N8 es):Fx es:=⟨.inl r.ra.dc,r.ra.nd,r.ra.ro⟩
inductive IspCross(vs:List V)(H:Hp)(Q:VK):Prop
 |mk (p d:Nc) (b m:Int) (es:List Ent) (h0:vs=[.ref d,.ref p]) (h1:Pot H p b m) (h2:DrE H d es) (h3:∀(b' m':Int) (aj:List Ent) (H':Hp),Pot H' p b' m'→DrE H' d aj→aj.map (·.1)=es.map (·.1)→Keep [d,p] H H'→Q .non H'):IspCross vs H Q
def zga:Sp:=λvs H Q _=>IspCross vs H Q
def rnd_itr(R:Rnd yh s L)(hu:u∈L)(hv:v∈L):∃n,J8 u n=v:=by
 obtain⟨t,rfl,k⟩:=R.cy
 obtain⟨A,B,e⟩:=Yq hu
 have c:Cyc (st yh) (A++u::B):=⟨s,t,e.symm,k⟩
 have kl:=zc7 c
 have aX:v∈u::(B++A):=by
  rw[e]at hv
  rcases Ql.mp hv with z | z
  ·exact QZ (WK z)
  ·rcases Qh.mp z with y | y
   ·rw[y];exact Qb
   ·exact QZ (YF y)
 rw[←lk_itr kl]at aX
 obtain⟨n,_,e2⟩:=Qf.mp aX
 exact⟨n,e2⟩
def good_tie(G:Good Lb)(R:X9 s L)(hu:u∈L)(hv:v∈L)(nd:(es.map (·.1)).Nodup)(h1:e1∈es)(h2:e2∈es)(q1:e1.1=u.2)(q2:e2.1=v.2)(az:v.2≠u.2)(og:v.2∉e1.2.1) :
  Good (Lh (YW a2)):=by
 obtain⟨n,hn⟩:=rnd_itr R hu hv
 rw[zc6,zc6]
 have aY:u.1∈e1.2.1:=by
  have:=R.al u hu
  rw[←q1,KW h1]at this;exact this
 have hs:u=(u.1,e1.1):=Wj rfl q1.symm
 have key:=ze5.tie Lb u.1 (e1.1,e1.2.1) n G (La ⟨e1,h1,rfl⟩) aY (by rw[←hs,hn,q1];exact az) (by rw[←hs,hn];exact og)
 rw[←hs,hn,←q2,KW h2]at key
 exact key
def ndCr:(["_law_place",qR]:List Str).Nodup:=by decide +kernel
def some_ok(R:RAt H0 d es)(aH:es.length≤16)(nfz:∀ o' u',X.H₀ d≠some Te)(fin:∀(D:Nc) (G:Nh) (H':Hp),H' D=some Lr→(∀y,y∈G→∃e∈es,e.1=y∧e.2.1≠[])→G.length≤16→Keep [] H0 H'→D'.nx ((some El::σ).set 2 (Hc D)) H') :
  sThaw X (tAsg (tLC [none,Hs 0] (iDict (tVar 0)) (zer 0) (tTest (tOp (Gj K) (tDGet (tVar 1) (tVar 0)) (tLst tNil))) (tVar 0)) (zer 2)) D' (some El::σ) H0:=by
 have ap:=sizeLine_eq
 refine⟨_,rfl,d,_,rfl,R.dc,λo=>⟨λi m ys τ H1=>Aj6 (m=es.length-i) (i≤es.length) (ys=((E5 i).filter λe=>!e.2.1.isEmpty).map (λe=>V.str e.1)) (Ex1 λx=>τ=[x,Tf]) (H1 d=some OZ) (Keep [d] H0 H1),
  ⟨es.length,Ha,SJ,rfl,⟨none,rfl⟩,zab,SX⟩,?_⟩⟩
 rintro i m1 ys τ H1 ⟨rfl,hi,rfl,⟨x0,rfl⟩,hz,k1⟩
 by_cases ad:i<es.length
 ·refine .inr ⟨⟨hz,by rw [Qa];exact ad⟩,?_,?_⟩
  ·have h1:(((E5 i).filter fun e=>!e.2.1.isEmpty).map (fun e=>V.str e.1)).length≤es.length:=by
    rw[Qa]
    exact XS (by rw[Zt];lia)
   lia
  ·rintro x H' ⟨rfl,pr,e1,rfl⟩
   have g1:pr=((Sum.inr es[i].1:Key),V.ref es[i].2.2):=by
    rw[Qo,Qd ad]at e1
    exact(Qn e1).symm
   subst g1
   have bh:es[i]∈es:=Qr ad
   have fe:=R.ro _ bh
   have nri:es[i].2.2≠d:=za1 fe R.dc Hg
   have bM:=k1 _ _ fe (He nri)
   refine⟨wI,wI,d,.ref es[i].2.2,rfl,RH ⟨_,Sum.inr es[i].1,SC ⟨o,hz⟩,rfl,(zb7 R.nd bh).symm⟩,Lq,λq hq=>?_⟩
   have nq:es[i].2.2≠q:=zac bM hq
   have nqd:d≠q:=KU hq
   refine⟨es[i].2.2,q,wI,rfl,Hk (by rw[zaf nq];exact bM),TQ,wI,?_⟩
   have iG:Keep [d] H0 (YL q HL):=k1.trans IQ
   have bK:(YL q HL) d=some OZ:=by rw[zaf nqd];exact hz
   have aS:es.take HN=es.take i++[es[i]]:=Qi ad
   have rA:(es[i].2.1.map V.str).isEmpty=es[i].2.1.isEmpty:=by cases es[i].2.1<;>rfl
   rw[if_pos rfl,rA]
   by_cases hb:es[i].2.1.isEmpty=true
   ·rw [hb]
    refine iteF ⟨_,?_,rfl,ad,?_,⟨_,rfl⟩,bK,iG⟩
    ·exact zar1 ‹_›
    ·rw[aS,Yh,Zp (by rw[hb];decide),Yz,Zs]
   ·have dk:es[i].2.1.isEmpty=false:=by simpa using hb
    rw[dk]
    refine iteT ⟨_,rfl,_,?_,rfl,ad,?_,⟨_,rfl⟩,bK,iG⟩
    ·exact zar1 ‹_›
    ·rw [aS,Yh,Zo (by rw [dk];decide),Yz,Qq]
     rfl
 ·have ck:i=es.length:=by exact zar3 ‹_› ‹_›
  subst ck
  refine .inl ⟨⟨hz,Rm Qa⟩,λD hD=>?_⟩
  have ndD:d≠D:=KU hD
  rw[Qs Hx]
  refine⟨d,o,_,yj,nfz,?_⟩
  have hDm:((es.filter λe=>!e.2.1.isEmpty).map λe=>V.str e.1)=((es.filter λe=>!e.2.1.isEmpty).map (·.1)).map V.str:=by rw[Zj];rfl
  rw[hDm]
  have hG:∀y,y∈(es.filter λe=>!e.2.1.isEmpty).map (·.1)→∃e∈es,e.1=y∧e.2.1≠[]:=λy hy=>by
   obtain⟨e,he,ee⟩:=Qf.mp hy
   rw[Zd]at he
   exact⟨e,he.1,ee,by simpa using he.2⟩
  have l9:((es.filter λe=>!e.2.1.isEmpty).map (·.1)).length≤16:=by
   rw[Qa];exact XS aH
  generalize(es.filter λe=>!e.2.1.isEmpty).map (·.1)=G at hG l9
  have k2:Keep [] H0 (JB Ra):=λc u ec _=>by
   by_cases aJ:c=d
   ·subst aJ
    rw[zab,←R.dc];exact ec
   ·have qh:=k1 c u ec (He aJ)
    rw[zaf aJ,zaf (zy qh hD)];exact qh
  have dL:(JB Ra) D=some Lr:=by rw[zaf (Zl ndD)];exact zab
  generalize JB Ra=H2 at k2 dL
  exact fin D G H2 dL hG l9 k2
section
variable{P:Nk}{w:Nn}{K:Na}{mg:Ng}{base:Np}
def zeh:zaj [qR,qP, "_law_some", "_law_p", "_law_face_here", "_law_first", "_law_second"] [qR,qP] (zai sCross):=fsk
def ok_cross(F:QE "_law_crossed" "_law_crossed" sCross f fd)(GT:ZF "_law_take" [qP,qM] 1 zf9)(GF:ZF "_law_face" [qR, "_law_p", "_law_q"] 2 zh7)(GI:ZF "_law_put" [qR, "_law_one_here", "_law_corner_of",qO, "_law_after"] 1 spPut)(ae:mg "len" = none):ZB 3 f fd [qR,qP] zga:=by
 refine F.okL zeh (λcdv A outer s0 H0 vs Q E hr h=>?_)
 obtain⟨p,d,b,m,es,rfl,hp,D0,kq⟩:=h
 have R:=D0.ra
 have aH:=D0.few
 have hu:=zb6 hr
 have dY:=Kz hu
 have ai:BJ _:=hr.mono Hf
 have ap:=sizeLine_eq
 have i0:∀x y:V,atI [x,y] RO=some x:=λx y=>zaw rfl
 have i1:∀x y:V,atI [x,y] ((1:Nat):Int)=some y:=λx y=>zaw rfl
 refine⟨_,zad (zgf (ps_lc (i:=2) (M:=["_law_place",qR]) (ix:=[none,Hs 0]) zeh.nd rfl rfl (mkB zeh) rfl Pr (λC a5 ex s H=>UN ndCr)
    (λC a5 ex s H=>zci (zar (zhm (K:=K) rfl dY) (Aq (by exact hu) R6) SN Sq)) RG rfl))
  (zag (zbn (Vg Sc SN Sq)
   (zad (Br zeh.nd (S9 Sc (Oe zo)))
   (zad (Bb zeh.nd (pcl GF hr (ZM (QB (zaa Od zae)))))
   (zad (XR zeh.nd xh)
   (zad (M9 zeh.nd xh)
   (zag (zbn (PW.pt (zhl (BS (WI So zah (fun _ _=>rfl)) (WI Tx zah (fun _ _=>rfl)) Sq) (zge (NW (WI Tx zah (fun _ _=>rfl)) (QV (WI So zah (fun _ _=>rfl))) rfl))))
    (zag (zbg (Gs (ZM (Og So (S0 (pv 6)) (zm 6)))))) zap))))))
   zap)),?_⟩
 have nfz:∀o' u',H0 d≠some Te:=λo' u' z=>by rw[R.dc]at z;cases z
 refine zgt (λ σ' H2=>Ex2 λ(D:Nc) (G:Nh)=>Aj5 (σ'=[Tf,zj,Hc D,none,none,none,none]) (H2 D=some Lr) (∀y,y∈G→∃e∈es,e.1=y∧e.2.1≠[]) (G.length≤16) (Keep [] H0 H2)) (λD' bA=>some_ok R aH nfz λD G H' a b c k=>bA _ _ ⟨D,G,rfl,a,b,c,k⟩) ?_
 rintro σ' H2 ⟨D,G,rfl,dL,hG,l9,k2⟩
 dsimp only
 have D2:=D0.k0 k2
 have cX:=hp.keep k2 Ha
 have none':∀(b1 m1:Int) (H1:Hp),Pot H1 p b1 m1→DrE H1 d es→Keep [p] H0 H1→Q .non H1:=λb1 m1 H1 gY D1 k1=>kq b1 m1 es H1 gY D1 rfl (k1.sub Ha)
 refine⟨wI,Lq,λq hq=>?_⟩
 have nDq:D≠q:=zac dL hq
 refine⟨D,q,wI,rfl,Hk (by rw[zaf nDq];exact dL),TQ,wI,?_⟩
 have k3:Keep [] H2 (QA q HL):=Keep.new hq
 have cz:=(zaf (o:=.lst []) nDq).trans dL
 generalize QA q HL=H3 at k3 cz
 have D3:=D2.k0 k3
 have cH:=cX.keep k3 Ha
 have dS:=k2.trans k3
 rw[if_pos rfl]
 cases G with
 |nil=>exact WG IV
 | cons g0 gt =>
  refine W8 ?_
  generalize va:g0::gt=G at cz hG l9
  have hGp:0<G.length:=by rw[←va];simp
  have aN:(G.map V.str).length=G.length:=Qa ..
  refine⟨wI,wI,wI,D,wI,SS cz,p,b,m,wI,cH,E9,E9,λj4 b4 m4 H4 lh qb bU jF=>?_⟩
  obtain⟨j4,rfl⟩:=Zq lh
  rw[aN]at qb
  have oO:j4<G.length:=by lia
  have k4:=zbh jF
  have mh:=k4 _ _ cz (by simpa using zgh cH cz)
  have D4:=D3.pot cH k4
  have dR:Keep [p] H0 H4:=(dS.sub Ha).trans k4
  refine⟨D,_,_,wI,rfl,Hk mh,zaw (by rw[Qo,Qd oO];rfl),?_⟩
  obtain⟨e0,cO,vq,kr⟩:=hG G[j4] (Qr oO)
  rw[←vq]
  have g4:Du Ii:=zb7 D4.ra.nd cO▸DGet.k (k:=Sum.inr e0.1) D4.ra.dc
  have fS:=D4.ra.ro e0 cO
  have tT:=D4.row e0 cO
  have jR:0<e0.2.1.length:=Uv.mpr kr
  have cM:(e0.2.1.map V.str).length=e0.2.1.length:=Qa ..
  refine⟨wI,wI,wI,wI,d,wI,g4,wI,wI,wI,d,wI,g4,e0.2.2,wI,SS fS,p,b4,m4,wI,bU,HH cM,HH cM,λj5 b5 m5 H5 lg mq aT gO=>?_⟩
  obtain⟨j5,rfl⟩:=Zq lg
  rw[cM]at mq
  have oN:j5<e0.2.1.length:=by lia
  have k5:=zbh gO
  have D5:=D4.pot bU k5
  have fR:=D5.ra.ro e0 cO
  have gR:=dR.trans k5
  refine⟨e0.2.2,_,_,wI,rfl,Hk fR,zaw (by rw[Qo,Qd oN];rfl),?_⟩
  obtain⟨cs,a9,C⟩:=D5.cert
  have o4:e0.2.1[j5]∈ZK e0.1:=by rw[JH cO];exact Qr oN
  refine⟨d,es,cs,a9,(e0.1,e0.2.1[j5]),rfl,D5.rf,UH o4,C,Hb,λl6 ps L H6 fl6 cN mK RL v8 _ k6=>?_⟩
  have ba:=Zy mK
  have dI:0<L.length:=by obtain⟨t,e,_⟩:=RL.cy;rw[e];simp
  have bn:=aT.keep k6 Ha
  have D6:=D5.k0 k6
  have gQ:=gR.trans LW
  have eJ:(ps.map V.ref).length=ps.length:=Qa ..
  have nlp:l6≠p:=za1 cN bn.1 (by
   intro z
   injection z with z
   rcases ps with _ | ⟨_,_⟩<;>cases z)
  refine⟨wI,wI,wI,l6,wI,SS cN,p,b5,m5,wI,bn,HH eJ,HH eJ,λj7 b7 m7 H7 mj mi bm iZ=>?_⟩
  obtain⟨j7,rfl⟩:=Zq mj
  rw[eJ]at mi
  have hj7:j7<ps.length:=by lia
  have k7:=zbh iZ
  have D7:=Gu k7
  have gP:=gQ.trans k7
  have bd:=k7 _ _ cN IW
  have qu:zbu H7 ps L:=zbu.keep mK λc x y ec=>k7 _ _ ec (by simpa using za1 ec bn.1 Hg)
  refine⟨l6,_,_,wI,rfl,Hk bd,zaw (by rw[Qo,Qd hj7];rfl),?_⟩
  refine⟨wI,wI,wI,l6,wI,SS bd,p,b7,m7,wI,bm,HH eJ,HH eJ,λj8 b8 m8 H8 vf h81 c9 i8=>?_⟩
  obtain⟨j8,rfl⟩:=Zq vf
  rw[eJ]at h81
  have rh:j8<ps.length:=by lia
  have k8:=zbh i8
  have D8:=D7.pot bm k8
  have i9:=gP.trans k8
  have lU:=k8 _ _ bd IW
  have pa8:zbu H8 ps L:=zbu.keep qu λc x y ec=>k8 _ _ ec (by simpa using za1 ec bm.1 Hg)
  refine⟨l6,_,_,wI,rfl,Hk lU,zaw (by rw[Qo,Qd rh];rfl),?_⟩
  obtain⟨h7,ja⟩:=za5 pa8 hj7
  obtain⟨h8,fO⟩:=za5 pa8 rh
  have mu:L[j7]∈L:=Qr h7
  have mv:L[j8]∈L:=Qr h8
  generalize L[j7]=u at ja mu
  generalize L[j8]=v at fO mv
  obtain⟨e1,bw,q1⟩:=Qf.mp (IS (RL.al u mu))
  obtain⟨e2,eO,q2⟩:=Qf.mp (IS (RL.al v mv))
  have cC:e1.1=u.2:=q1
  have dQ:e2.1=v.2:=q2
  refine⟨wI,ps[j7],_,_,wI,rfl,Rk ja,Ld,wI,ps[j8],_,_,wI,rfl,zH,Ld,rfl,wI,?_⟩
  by_cases c1:u.2=v.2
  ·exact za7 (by show(!decide (V.str u.2=V.str v.2))=false;rw[c1,decide_eq_true rfl];rfl) PZ
  refine zbf (by show(!decide (V.str u.2=V.str v.2))=true;rw[decide_eq_false (λz=>c1 (by injection z))];rfl) ?_
  have g8:DGet H8 d (.str u.2) Ij:=cC▸(N9 bw▸DGet.k (k:=Sum.inr e1.1) D8.ra.dc)
  refine⟨wI,ps[j8],_,_,wI,rfl,zH,Ld,wI,wI,ps[j7],_,_,wI,rfl,Rk ja,Ld,d,wI,g8,e1.2.2,wI,wD,rfl,xy,wI,?_⟩
  rw[zdy]
  by_cases c2:v.2∈e1.2.1
  ·exact za7 (by rw[decide_eq_true c2];rfl) PZ
  refine zbf (by rw[decide_eq_false c2];rfl) ?_
  have qx:u.1∈e1.2.1:=by have:=RL.al u mu;rw[←cC,JH bw]at this;exact this
  have qw:v.1∈e2.2.1:=by have:=RL.al v mv;rw[←dQ,JH eO]at this;exact this
  refine⟨wI,wI,ps[j7],_,_,wI,rfl,Rk ja,Ld,wI,ps[j7],_,_,wI,rfl,Rk ja,LX,wI,ps[j8],_,_,wI,rfl,zH,Ld,wI,ps[j8],_,_,wI,rfl,zH,LX,d,es,e1,e2,some u.1,some v.1,by rw[cC,dQ];rfl,D8.ra,bw,eO,λz=>c1 (by rw[←cC,z,dQ]),λy z=>by rw[←Qn z];exact qx,λy z=>by rw[←Qn z];exact qw,λe he=>VB Hf,Hb,λa1 a2 H9 R9 k9=>?_⟩
  refine kq b8 m8 _ H9 (c9.keep k9 (by simpa using Zl (pot_nd c9 D8.ra.dc))) ⟨R9,good_tie D8.gd RL mu mv C.nd bw eO cC dQ (Zl c1) c2,by unfold setE;rw[List.length_map,List.length_map];exact aH⟩ (by rw[zca,zca]) ((i9.sub Ha).trans ES)
end
end K21
end
section
namespace K21
open PySem L2 Wb
abbrev sFilled:Stmt:=top 51
def rnd_tie{es:List Ent}{e1 e2:Ent}{u v:Str×Str}{a1 a2:Nc}{X rest:Nu}(nd:(es.map (·.1)).Nodup)(aZ:∀ e∈es,e.2.1.Nodup)(R:X9 u (u::(X++v::rest)))(h1:e1∈es)(h2:e2∈es)(q1:e1.1=u.2)(q2:e2.1=v.2)(az:v.2≠u.2)(og:v.2∉e1.2.1)(qT:u.2∉e2.2.1) :
  Rnd (Pt (YW a2)) u (u::([(u.2,v.2)]++rest)):=by
 have r1:ZK e1.1=e1.2.1:=KW h1
 have r2:ZK e2.1=e2.2.1:=KW h2
 have hu:u.1∈e1.2.1:=by have:=R.al u Qb;rw[←q1,r1]at this;exact this
 have hvL:v∈u::(X++v::rest):=QZ E8
 have hv:v.1∈e2.2.1:=by have:=R.al v hvL;rw[←q2,r2]at this;exact this
 have fH:e1.1≠e2.1:=λz=>az (by rw[←q1,z,q2])
 have iH:e1.1∈(Lh es).map (·.1):=by rw[zbq];exact Qf.mpr ⟨e1,h1,rfl⟩
 have iG:e2.1∈(Lh es).map (·.1):=by rw[zbq];exact Qf.mpr ⟨e2,h2,rfl⟩
 rw[zc6,zc6]
 have g1:QL u.2=JN e2.1:=by rw[←q1,za9 fH,zbi iH]
 have g2:QL v.2=JO e1.1:=by rw[←q2,zbi (Hl zby iG)]
 have g0:∀y,y≠u.2→y≠v.2→QL y=ZK y:=λy a b=>by rw[za9 (q2▸b),za9 (q1▸a)]
 generalize row (za6 (za6 Lb e1.1 (JN e2.1)) e2.1 (JO e1.1))=r' at g1 g2 g0
 have nd1:=aZ e1 h1
 have fG:=aZ e2 h2
 have nu:u∉X++v::rest:=(Qt.mp R.nd).1
 have qv:=(Ze.mp (Qt.mp R.nd).2).2.1
 have nv:v∉rest:=(Qt.mp qv).1
 have nur:u∉rest:=λz=>nu (WK (QZ z))
 have aW:∀y∈rest,y.1∈ZK y.2:=λy hy=>R.al y (QZ (WK Ei))
 have lu:ZK u.2=e1.2.1:=q1▸r1
 have f7:ZK v.2=e2.2.1:=q2▸r2
 have uj:e2.1∉e1.2.1:=q2▸og
 have nN:e1.1∉e2.2.1:=q1▸qT
 have dB:∀y:Str×Str,y.1∈ZK y.2→y≠(u.2,v.2):=λy hy z=>by
  rw[z]at hy
  exact qT (f7▸hy)
 obtain⟨t,et,kt⟩:=R.cy
 have et':X++v::rest=t:=(List.cons.inj et).2
 rw[←et']at kt
 refine⟨⟨wI,?_,zf2 (f:=st RI) (s:=v) ?_ (λy hy=>?_) (zhr.mp kt).2⟩,?_,λy hy=>?_⟩
 ·show (u.2,nxt (r' u.2) u.1)=(u.2,v.2)
  rw[g1,ze2 hu nd1,q2]
 ·show (v.2,nxt (r' v.2) u.2)=(v.2,nxt (ZK v.2) v.1)
  rw[g2,f7,←q1,ze1 hv fG nN]
 ·show (y.2,nxt (r' y.2) y.1)=(y.2,nxt (ZK y.2) y.1)
  have cr:=aW y hy
  congr 1
  by_cases a:y.2=u.2
  ·rw [a] at cr ⊢
   rw[lu]at cr ⊢
   rw[g1]
   exact zdv hu nd1 uj cr λb=>nur ((Wj b a:y=u)▸hy)
  ·by_cases c:y.2=v.2
   ·rw [c] at cr ⊢
    rw[f7]at cr ⊢
    rw[g2]
    exact zdv hv fG nN cr λb=>nv ((Wj b c:y=v)▸hy)
   ·rw[g0 _ a c]
 ·refine Qt.mpr ⟨fun z=>?_,Qt.mpr ⟨fun z=>dB _ (aW _ z) rfl,(Qt.mp qv).2⟩⟩
  rcases Qh.mp z with y | y
  ·exact dB u (R.al u Qb) y
  ·exact nur y
 ·have grow:∀ z:Str×Str,z.1∈ZK z.2→z.1∈r' z.2:=fun z hz=>by
   by_cases a:z.2=u.2
   ·rw [a] at hz ⊢
    rw[g1,zdx hu nd1];exact .inr (lu▸hz)
   ·by_cases c:z.2=v.2
    ·rw [c] at hz ⊢
     rw[g2,zdx hv fG];exact .inr (f7▸hz)
    ·rw[g0 _ a c];exact hz
  rcases Qh.mp hy with z | z
  ·rw[z];exact grow u (R.al u Qb)
  ·rcases Qh.mp z with y' | y'
   ·rw [y']
    show u.2∈r' v.2
    rw[g2,zdx hv fG];exact .inl q1.symm
   ·exact grow y (aW y y')
inductive IspFilled(vs:List V)(H:Hp)(Q:VK):Prop
 |mk (d:Nc) (es:List Ent) (h0:vs=[.ref d]) (h2:DrE H d es) (h3:∀(aj:List Ent) (H':Hp),DrE H' d aj→aj.map (·.1)=es.map (·.1)→Keep [d] H H'→Q .non H'):IspFilled vs H Q
def spFilled:Sp:=λvs H Q _=>IspFilled vs H Q
def Grow(es aj:List Ent):Prop:=aj.map (·.1)=es.map (·.1)∧∀x y,y∈ZK x→y∈row (Lh aj) x
def Grow.refl:Grow es es:=⟨rfl,λ_ _ h=>h⟩
def Grow.trans(h:Grow a b)(k:Grow b c):Grow a c:=⟨k.1.trans h.1,λx y z=>k.2 x y (h.2 x y z)⟩
def grow_tie(nd:(es.map (·.1)).Nodup)(aZ:∀e∈es,e.2.1.Nodup)(h1:e1∈es)(h2:e2∈es)(fH:e1.1≠e2.1)(m1:c1∈e1.2.1)(m2:c2∈e2.2.1) :
  Grow es (setE (zF (Hs c1)) e2.1 (ins e2.2.1 (Hs c2) e1.1) a2):=by
 refine⟨by rw[zca,zca],λx y h=>?_⟩
 rw[zc6,zc6]
 have iH:e1.1∈(Lh es).map (·.1):=by rw[zbq];exact Qf.mpr ⟨e1,h1,rfl⟩
 have iG:e2.1∈(Lh es).map (·.1):=by rw[zbq];exact Qf.mpr ⟨e2,h2,rfl⟩
 by_cases a:x=e2.1
 ·rw [a] at h ⊢
  rw[KW h2]at h
  rw[zbi (Hl zby iG),zdx m2 (aZ e2 h2)]
  exact .inr h
 ·rw [za9 a]
  by_cases b:x=e1.1
  ·rw [b] at h ⊢
   rw[KW h1]at h
   rw[zbi iH,zdx m1 (aZ e1 h1)]
   exact .inr h
  ·rw[za9 b];exact h
def cut_from2(g:α→V)(xs:List α)(k:Nat):cutV (Iu g) (some (k:Int)) none=(xs.drop k).map g:=by
 rw[Xc]
 unfold cutV
 have e1:HT.sIx (Iu g).length 0 (some (k:Int))=min k (Iu g).length:=by rw[HT.sIx_nat]
 have e2:HT.sIx (Iu g).length (Iu g).length none=(Iu g).length:=rfl
 rw[e1,e2]
 by_cases h:k≤(Iu g).length
 ·rw[Nat.min_eq_left h,Qs (Rm Xm)]
 ·rw[Nat.min_eq_right Hb,Ko,Kq,Yv Hb]
section
variable{P:Nk}{w:Nn}{K:Na}{mg:Ng}{base:Np}
def zd4:zaj [qR, "_law_place",qO, "_law_face_here", "_law_first", "_law_second"] [qR] (zai sFilled):=fsk
def ok_filled(F:QE "_law_filled" "_law_filled" sFilled f fd)(GF:ZF "_law_face" [qR, "_law_p", "_law_q"] 2 zh7)(GI:ZF "_law_put" [qR, "_law_one_here", "_law_corner_of",qO, "_law_after"] 1 spPut)(av:mg "list" = none):ZB 3 f fd [qR] spFilled:=by
 refine F.okL zd4 (λcdv A outer s0 H0 vs Q E hr h=>?_)
 obtain⟨d,es,rfl,D0,kq⟩:=h
 have hu:=zb6 hr
 have ai:BJ _:=hr.mono Hf
 have ap:=sizeLine_eq
 have i0:∀x y:V,atI [x,y] RO=some x:=λx y=>zaw rfl
 have i1:∀x y:V,atI [x,y] ((1:Nat):Int)=some y:=λx y=>zaw rfl
 refine⟨_,zag (Z4 (IP (MU HQ av Wn SM)) (zam 1 zd4.nd)
  (zag (Z4 (IP (wF (Rx (QV Rj)))) (Ms zd4.nd)
   (zad (Br zd4.nd (LZ GF hr Sn))
   (zad (Bb zd4.nd (S9 RX zah))
   (zag (Z4 (IP (FY RX (zcd zah) zdh)) (XB zd4.nd)
    (zag (zbn (PW.pt (zhl (BS (WI Sd zah (fun _ _=>rfl)) (WI So zah (fun _ _=>rfl)) Sq) (zge (NW (WI So zah (fun _ _=>rfl)) (QV (WI Sd zah (fun _ _=>rfl))) rfl))))
     (zag (zbg (Gs (ZM (Og Sd (S0 So) (zm 5)))))) zap))))))))),?_⟩
 refine⟨wI,d,wI,.inl D0.ra.dc,λl1 aD=>?_⟩
 rw[ze4]
 have nd1:l1≠d:=Zl (zac D0.ra.dc aD)
 have k1:Keep [] H0 (N' l1 Rt):=Keep.new aD
 have g1:(N' l1 Rt) l1=some Rt:=zab
 generalize N' l1 Rt=H1 at k1 g1
 refine⟨l1,rfl,⟨_,Hk g1⟩,zc3 (zs:=es.map (·.1)) (λi σ H'=>Aj3 (Ex5 λx1 x2 x3 x4 x5=>σ=[Tf,x1,x2,x3,x4,x5]) (Keep [d] H1 H') (Ex1 λaj:List Ent=>DS (aj.map (·.1)=es.map (·.1))))
  ⟨⟨_,_,_,_,_,rfl⟩,Keep.refl,es,D0.k0 k1,rfl⟩ (λi σ H' _ hh=>SqL.of (Ea g1 (He nd1))) ?_ ?_⟩
 ·rintro i hi σ H2 ⟨⟨x1,x2,x3,x4,x5,rfl⟩,k2,ax,D2,n2⟩
  have ba:(es.map (·.1))[i]'(hi)∈ax.map (·.1):=by rw[n2];exact Qr hi
  generalize(es.map (·.1))[i]'(hi)=pl at ba
  obtain⟨e,he,rfl,g2⟩:=D2.rf.inn ba
  refine⟨wI,wI,d,wI,g2,e.2.2,wI,SS (D2.ra.ro e he),λl3 aP=>?_⟩
  have qv:l3≠d:=Zl (zac D2.ra.dc aP)
  have k3:Keep [] H2 (QA l3 Ru):=Keep.new aP
  have g3:(QA l3 Ru) l3=some Ru:=zab
  generalize QA l3 Ru=H3 at k3 g3
  refine⟨l3,rfl,⟨_,Hk g3⟩,zc3 (zs:=e.2.1) (λj σ H'=>Aj3 (Ex4 λx2 x3 x4 x5=>σ=[Tf,LT,x2,x3,x4,x5]) (Keep [d] H3 H') (Ex1 λaj:List Ent=>DS (Grow ax aj)))
   ⟨⟨_,_,_,_,rfl⟩,Keep.refl,ax,D2.k0 k3,Grow.refl⟩ (λi σ H' _ hh=>SqL.of (Ea g3 (He qv))) ?_ ?_⟩
  ·rintro j hj σ H4 ⟨⟨x2,x3,x4,x5,rfl⟩,k4,dM,D4,rQ⟩
   have hot:e.2.1[j]∈row (Lh ax) e.1:=by rw[zay D2.ra.nd he];exact Qr hj
   generalize e.2.1[j]=ot at hot
   obtain⟨cs,a9,C⟩:=D4.cert
   have h4:=D4.few
   refine⟨wI,wI,wI,d,dM,cs,a9,(e.1,ot),rfl,D4.rf,UH (rQ.2 _ _ hot),C,Hb,λl6 ps L H6 fl6 cN mK RL v8 _ k6=>?_⟩
   have D6:=D4.k0 k6
   have ba:=Zy mK
   have dI:0<L.length:=by obtain⟨t,z,_⟩:=RL.cy;rw[z];simp
   have fh:0<ps.length:=by lia
   have nl6:l6≠d:=za1 cN D6.ra.dc Hg
   refine⟨wI,l6,_,_,wI,rfl,Hk cN,zaw (by rw[Qo,Qd fh];rfl),?_⟩
   refine⟨wI,wI,l6,wI,Hk cN,λl7 bd=>?_⟩
   have nl7:l7≠d:=Zl (zac D6.ra.dc bd)
   have k7:Keep [] H6 (IX l7 (UR (some (2:Int)) none)):=Keep.new bd
   have g7:(IX l7 (UR (some (2:Int)) none)) l7=some (Hr (UR (some (2:Int)) none)):=zab
   generalize WD l7 (Hr (UR (some (2:Int)) none))=H7 at k7 g7
   have ec:UR (Hs (2:Int)) none=(ps.drop 2).map V.ref:=cut_from2 V.ref ps 2
   rw[ec]at g7
   have D7:=D6.k0 k7
   have qu:zbu H7 ps L:=zbu.keep mK λc x y ec=>k7 _ _ ec Ha
   obtain⟨t,eL,kt⟩:=RL.cy
   have ja:H7 ps[0]=some (.tup [Rw,Ts ot]):=by
    obtain⟨h7,z⟩:=za5 qu fh
    rw[show L[0]=(e.1,ot) by simp[eL]]at z
    exact z
   have nps:∀{c:Nc} {x y:V},H7 c=some (.tup [x,y])→c∉[d]:=λhc=>by simpa using za1 hc D7.ra.dc Hg
   refine⟨l7,rfl,⟨_,Hk g7⟩,zbc (xs:=(ps.drop 2).map V.ref) (λn σ H'=>Aj3 (Ex1 λx5=>σ=[Tf,LT,Sx ot,Hc l6,Hs (.ref ps[0]),x5]) (Keep [d] H7 H') (Ex2 λ(aj:List Ent) (X:Nu)=>Aj3 (YU aj) (Grow dM aj) (Fe (e.1,ot) ((e.1,ot)::(X++L.drop (n+2))))))
    ⟨⟨_,rfl⟩,Keep.refl,dM,t.take 1,D7,Grow.refl,?_⟩ (λi σ H' _ hh=>SqL.of (Ea g7 (He nl7))) ?_ ?_⟩
   ·rw[eL,List.drop_succ_cons,Wg,←eL];exact RL
   ·rintro n x σ H8 hx ⟨⟨x5,rfl⟩,k8,fE,X,D8,rP,R8⟩
    have bC:n<(ps.drop 2).length:=by have:=(LA hx).1;rwa[Qa]at this
    have hn:n+2<ps.length:=by rw[Xm]at bC;lia
    rw[Qo,List.getElem?_drop,Nat.add_comm 2 n,Qd hn]at hx
    cases hx
    obtain⟨hL,hv7⟩:=za5 qu hn
    have fO:=k8 _ _ hv7 (nps hv7)
    have im:=k8 _ _ ja (nps ja)
    have eD:L.drop (n+2)=L[n+2]::L.drop (n+1+2):=Zv hL
    rw[eD]at R8
    generalize L[n+2]=v at fO R8
    obtain⟨cs8,lab8,C8⟩:=D8.cert
    have mv:v∈(e.1,ot)::(X++v::L.drop (n+1+2)):=QZ E8
    obtain⟨e1,bw,q1⟩:=Qf.mp (C8.inn (R8.al _ Qb))
    obtain⟨e2,eO,q2⟩:=Qf.mp (C8.inn (R8.al v mv))
    have cC:e1.1=ot:=q1
    have dQ:e2.1=v.2:=q2
    have skip:Ex2 λ(aj:List Ent) (X:Nu)=>Aj3 (DrE H8 d aj) (Grow dM aj) (Fe (e.1,ot) ((e.1,ot)::(X++L.drop (n+1+2)))):=⟨fE,X++[v],D8,rP,Hl Qv R8⟩
    refine⟨wI,ps[0],_,_,wI,rfl,Rk im,Ld,wI,ps[n+2],_,_,wI,rfl,zH,Ld,rfl,wI,?_⟩
    by_cases c1:ot=v.2
    ·exact za7 (by show(!decide (V.str ot=V.str v.2))=false;rw[c1,decide_eq_true rfl];rfl) ⟨⟨_,rfl⟩,k8,skip⟩
    refine zbf (by show(!decide (V.str ot=V.str v.2))=true;rw[decide_eq_false (λz=>c1 (by injection z))];rfl) ?_
    have g8:DGet H8 d (Ts ot) Ij:=cC▸(N9 bw▸DGet.k (k:=Sum.inr e1.1) D8.ra.dc)
    refine⟨wI,ps[n+2],_,_,wI,rfl,zH,Ld,wI,wI,ps[0],_,_,wI,rfl,Rk im,Ld,d,wI,g8,e1.2.2,wI,wD,rfl,xy,wI,?_⟩
    rw[zdy]
    by_cases c2:v.2∈e1.2.1
    ·exact za7 (by rw[decide_eq_true c2];rfl) ⟨⟨_,rfl⟩,k8,skip⟩
    refine zbf (by rw[decide_eq_false c2];rfl) ?_
    have qx:e.1∈e1.2.1:=by have:=R8.al _ Qb;rw[show(e.1,ot).2=e1.1 from cC.symm,VC bw]at this;exact this
    have qw:v.1∈e2.2.1:=by have:=R8.al v mv;rw[←dQ,VC eO]at this;exact this
    have fH:e1.1≠e2.1:=λz=>c1 (by rw[←cC,z,dQ])
    have aZ:∀e∈fE,e.2.1.Nodup:=λe he=>by have:=C8.rn e.1;rw[VC he]at this;exact this
    have qT:ot∉e2.2.1:=λz=>c2 (by
     have:=C8.sy e2.1 ot (by rw[VC eO];exact z)
     rw[←cC,VC bw,dQ]at this;exact this)
    have h8:=D8.few
    refine⟨wI,wI,ps[0],_,_,wI,rfl,Rk im,Ld,wI,ps[0],_,_,wI,rfl,Rk im,LX,wI,ps[n+2],_,_,wI,rfl,zH,Ld,wI,ps[n+2],_,_,wI,rfl,zH,LX,d,fE,e1,e2,some e.1,some v.1,by rw[cC,dQ];rfl,D8.ra,bw,eO,fH,λy z=>by rw[←Qn z];exact qx,λy z=>by rw[←Qn z];exact qw,λe he=>VB Hf,Hb,λa1 a2 H9 R9 k9=>?_⟩
    refine⟨⟨wI⟩,k8.trans k9,_,[(ot,v.2)],⟨R9,good_tie (u:=(e.1,ot)) D8.gd R8 Qb mv C8.nd bw eO cC dQ (Zl c1) c2,by unfold setE;rw[List.length_map,List.length_map];exact h8⟩,rP.trans (grow_tie C8.nd aZ bw eO fH qx qw),?_⟩
    exact rnd_tie (u:=(e.1,ot)) C8.nd aZ R8 bw eO cC dQ (Zl c1) c2 qT
   ·rintro σ H8 ⟨⟨x5,rfl⟩,k8,fE,X,D8,rP,R8⟩
    refine⟨⟨_,_,_,wI⟩,?_,fE,D8,rQ.trans rP⟩
    exact((SQ (k6.sub Ha)).trans Oy).trans k8
  ·rintro σ H4 ⟨⟨x2,x3,x4,x5,rfl⟩,k4,dM,D4,rQ⟩
   exact⟨⟨_,_,_,_,wI⟩,(Tr (k3.sub Ha)).trans k4,dM,D4,rQ.1.trans n2⟩
 ·rintro σ H2 ⟨⟨x1,x2,x3,x4,x5,rfl⟩,k2,ax,D2,n2⟩
  exact kq ax H2 D2 n2 ((k1.sub Ha).trans k2)
end
abbrev sGrown:Stmt:=top 49
def set_comm{rs:Rs Str}{x y:Str}{a b:Nh}(h:x≠y):za6 (Mq x a) y b=za6 (Mq y b) x a:=by
 unfold za6
 rw[Zj,Zj]
 refine Yc λp _=>?_
 show(if(if p.1=x then(p.1,a) else p).1=y then((if p.1=x then(p.1,a) else p).1,b) else(if p.1=x then(p.1,a) else p))=(if(if p.1=y then(p.1,b) else p).1=x then((if p.1=y then(p.1,b) else p).1,a) else(if p.1=y then(p.1,b) else p))
 by_cases p1:p.1=x
 ·by_cases p2:p.1=y
  ·exact absurd (p1.symm.trans p2) h
  ·simp[p1,p2,h,Zl h]
 ·by_cases p2:p.1=y
  ·simp[p1,p2,h,Zl h]
  ·simp[p1,p2]
inductive IspGrown(vs:List V)(H:Hp)(Q:VK):Prop
 |mk (p nl:Nc) (b m:Int) (ns:Nh) (h0:vs=[.ref p,.ref nl]) (h1:Pot H p b m) (h2:H nl=some (.lst (ns.map V.str))) (hn:ns.Nodup) (hl:ns.length≤16)
  (h3:∀(d:Nc) (b' m':Int) (aj:List Ent) (H':Hp),H d=none→Mr b' m'→YU aj→aj.map (·.1)=ns→Keep [p] H H'→Q El H'):IspGrown vs H Q
def spGrown:Sp:=λvs H Q _=>IspGrown vs H Q
section
variable{P:Nk}{w:Nn}{K:Na}{mg:Ng}{base:Np}
def zeg:zaj [qP, "_law_names_here",qR, "_law_name", "_law_some",qO, "_law_corner"] [qP, "_law_names_here"] (zai sGrown):=fsk
def ok_grown(F:QE "_law_grown" "_law_grown" sGrown f fd)(GT:ZF "_law_take" [qP,qM] 1 zf9)(GI:ZF "_law_put" [qR, "_law_one_here", "_law_corner_of",qO, "_law_after"] 1 spPut)(ae:mg "len" = none)(av:mg "list" = none):ZB 2 f fd [qP, "_law_names_here"] spGrown:=by
 refine F.okL zeg (λcdv A outer s0 H0 vs Q E hr h=>?_)
 obtain⟨p,nl,b,m,ns,rfl,hp,lR,hnn,hnn2,kq⟩:=h
 have hu:=zb6 hr
 have dY:=Kz hu
 have ai:BJ _:=hr.mono Hf
 have ap:=sizeLine_eq
 refine⟨_,zad (Ve zeg.nd zd7)
  (zad (Z4 (IP Rj) (M5 zeg.nd)
   (zad (Bb zeg.nd (MU HQ av Wn Sn))
   (zad (UW RX SN rfl)
   (zag (zbn (PW.pt (zhl (Vg Sd SN Sq) (zge (Gr CC zah Sq))))
    (zad (XR zeg.nd (QI Sd (QO (ZM (Rx (Cs SO)))) Hq))
    (zad (M9 zeg.nd zc9)
    (zad (zbn (Vg (My Sc So) SN Sq)
     (zag (M9 zeg.nd (S9 (My Sc So) (QO (ZM (zaa (Cs (Rx (My zq (pv 5)))) zae)))))) zap)
    (zag (zbg (Gs (ZW (QB (Da wj)))))))))
    zap)))))
  (zag Pw)),?_⟩
 intro d hd
 have k1:Keep [] H0 (N' d RQ):=Keep.new hd
 have g1:(N' d RQ) d=some RQ:=zab
 generalize N' d RQ=H1 at k1 g1
 have gY:=hp.keep k1 Ha
 have ko:=k1 _ _ lR Ha
 have npl:nl≠p:=zgh gY ko
 have ndl:nl≠d:=zac lR hd
 have npd:p≠d:=zac hp.1 hd
 have D1:DrE H1 d []:=⟨⟨g1,λe he=>(by cases he),Zn⟩,ze5.nil,SJ⟩
 have uk:(ns.map V.str).length=ns.length:=Qa ..
 refine⟨_,rfl,nl,rfl,⟨_,Hk ko⟩,zc3 (zs:=ns) (λi σ H'=>Aj3 (Ex4 λx3 x4 x5 x6=>σ=[zj,Hc nl,Tf,x3,x4,x5,x6]) (Keep [p,d] H1 H') (Ex3 λ(aj:List Ent) (b' m':Int)=>YD (aj.map (·.1)=ns.take i)))
  ⟨⟨_,_,_,_,rfl⟩,Keep.refl,[],b,m,D1,gY,rfl⟩ (λi σ H' _ hh=>SqL.of (Ea ko (by simp;exact⟨npl,ndl⟩))) ?_ ?_⟩
 ·rintro i hi σ H2 ⟨⟨x3,x4,x5,x6,rfl⟩,k2,es,b2,m2,D2,cX,n2⟩
  have hx:ns[i]∉es.map (·.1):=by
   rw[n2]
   intro z
   obtain⟨j,hj,ej⟩:=List.mem_take_iff_getElem.mp z
   have:=(We (h₀:=by lia) (h₁:=hi) hnn).mp ej
   lia
  have aS:ns.take HN=ns.take i++[ns[i]]:=Qi hi
  have cg:es.length<16:=by
   have:=congrArg List.length n2
   rw[Qa,Zt]at this
   lia
  generalize ns[i]=x at hx aS
  refine⟨wI,d,wI,.inl D2.ra.dc,λl hl=>?_⟩
  rw[ze4]
  refine⟨Lq,λa ha=>?_⟩
  have nla:l≠a:=zac (o:=_) zab ha
  have aP:(upd As a HL) l=some Rt:=by rw[zaf nla];exact zab
  have hZ:(upd As a HL) a=some (Hr (([]:List Str).map V.str)):=zab
  have k3:Keep [] H2 (upd As a HL):=(Ho hl).trans (Ho ha)
  generalize upd As a HL=H3 at aP hZ k3
  have D3:=D2.k0 k3
  have cH:=cX.keep k3 Ha
  refine⟨wI,wI,d,wI,DPut.k (k:=Sum.inr x) D3.ra.dc Ce,?_⟩
  have R4:=rat_new D3.ra hx hZ
  have k4:Keep [d] H3 (QS d (ID AV)):=Keep.wr Qb
  have nld:l≠d:=za1 aP D3.ra.dc Hg
  generalize QS d (ID AV)=H4 at R4 k4
  have cx:=k4 _ _ aP (He nld)
  have bU:=cH.keep k4 (He npd)
  have cE:rsOf (es++[(x,[],a)])=rsOf es++[(x,[])]:=by unfold rsOf;rw[List.map_append];rfl
  have hxr:x∉(Lh es).map (·.1):=by rw[zbq];exact hx
  have D4:DrE H4 d (es++[(x,[],a)]):=⟨R4,by rw[cE];exact ze5.new _ _ D3.gd hxr,by rw[Qw];show _+1≤16;lia⟩
  have dR:Keep [p,d] H1 H4:=(Tr (k3.sub Ha)).trans Oz
  have nm:(es++[(x,([]:List Str),a)]).map (·.1)=ns.take HN:=by rw[aS,←n2,Qq];rfl
  refine⟨wI,Lq,λq hq=>?_⟩
  have nlq:l≠q:=zac cx hq
  refine⟨l,q,wI,rfl,Hk (by rw[zaf nlq];exact cx),TQ,wI,?_⟩
  have k5:Keep [] H4 (Q7 q HL):=Keep.new hq
  have cj:=(zaf (o:=.lst []) nlq).trans cx
  generalize Q7 q HL=H5 at k5 cj
  have D5:=D4.k0 k5
  have aT:=bU.keep k5 Ha
  have gR:=dR.trans Cq
  rw[if_pos rfl]
  by_cases r8:es=[]
  ·refine za7 (by rw[r8];rfl) ⟨⟨_,_,_,_,rfl⟩,gR,_,b2,m2,D5,aT,nm⟩
  refine zbf (by cases es with | nil=>exact absurd rfl r8 | cons _ _=>rfl) ?_
  refine⟨wI,p,b2,m2,8,rfl,aT,Hf,Hf,λd6 b6 m6 H6 vg h61 bn mU=>?_⟩
  have k6:=zbh mU
  have D6:=D5.pot aT k6
  have cN:=k6 _ _ cj (by simpa using zgh aT cj)
  have gQ:=gR.trans LW
  refine⟨_,wI,rfl,wI,?_⟩
  refine ite2 (λ_=>?_) (λ_=>⟨⟨_,_,_,_,rfl⟩,gQ,_,b6,m6,D6,bn,nm⟩)
  have eF:0<es.length:=Uv.mpr r8
  have aN:((es.map (·.1)).map V.str).length=es.length:=by rw[Qa,Qa]
  refine⟨wI,wI,wI,l,wI,SS cN,p,b6,m6,wI,bn,E9,E9,λj7 b7 m7 H7 mj mi bm iZ=>?_⟩
  obtain⟨j,rfl⟩:=Zq mj
  have hj:j<es.length:=by rw[aN]at mi;lia
  have k7:=zbh iZ
  have bd:=k7 _ _ cN (by simpa using zgh bn cN)
  have D7:=Gu k7
  have gP:=gQ.trans Oy
  refine⟨l,_,_,wI,rfl,Hk bd,zaw (by rw[Qo,Qo,Qd hj];rfl),?_⟩
  have jq:es[j]∈es:=Qr hj
  generalize es[j]=e at jq
  have kK:e∈es++[(x,([]:List Str),a)]:=YF jq
  have hx4:(x,([]:List Str),a)∈es++[(x,([]:List Str),a)]:=WK Qb
  have nex:e.1≠x:=λq=>hx (q▸Qf.mpr ⟨e,jq,rfl⟩)
  have g7:=DGet.k (k:=Sum.inr e.1) D7.ra.dc
  rw[zb7 D7.ra.nd kK]at g7
  have hr7:=D7.ra.ro e kK
  have aV:=D7.row e kK
  have tR:(e.2.1.map V.str).length=e.2.1.length:=Qa ..
  show tSeq (tAsg (tC V.non) (zer 6)) _ _ _ _
  refine zgt (λ σ' H'=>Aj2 (σ'=[zj,Hc nl,Tf,Sx x,Es,LT,some .non]) (H7=H')) (λD' bA=>bA _ _ ⟨rfl,rfl⟩) ?_
  rintro σ' H' ⟨rfl,rfl⟩
  dsimp only
  refine zgt (λ σ' H'=>Ex3 λ(c:Option Str) (b8 m8:Int)=>Aj6 (σ'=[zj,Hc nl,Tf,Sx x,Es,LT,Ec c]) (∀y,c=some y→y∈e.2.1) (c=none→e.2.1=[]) (YU (es++[(x,[],a)])) (Mr b8 m8) (Keep [p,d] H1 H')) (λD' bA=>?_) ?_
  ·refine ⟨_,rfl,_,rfl,d,_,rfl,g7,Lq,fun q hq=>?_⟩
   have nq:e.2.2≠q:=zac hr7 hq
   refine⟨e.2.2,q,wI,rfl,Hk (by rw[zaf nq];exact hr7),TQ,wI,?_⟩
   have k8:Keep [] H7 (US q HL):=Keep.new hq
   have D8:=D7.k0 k8
   have c9:=bm.keep k8 Ha
   have i9:=gP.trans (k8.sub Ha)
   generalize US q HL=H8 at D8 c9 i9
   rw[if_pos rfl]
   by_cases h0:e.2.1=[]
   ·exact za7 (by rw[h0];rfl) (bA _ _ ⟨none,b7,m7,rfl,λy z=>(by cases z),λ_=>h0,D8,c9,i9⟩)
   ·refine zbf (by revert h0;cases e.2.1 with | nil=>exact fun h0=>absurd rfl h0 | cons _ _=>exact fun _=>rfl) ?_
    have g8:=DGet.k (k:=Sum.inr e.1) D8.ra.dc
    rw[N9 kK]at g8
    have hr8:=D8.ra.ro e kK
    have jR:0<e.2.1.length:=Uv.mpr h0
    refine⟨wI,wI,d,wI,g8,wI,wI,wI,d,wI,g8,e.2.2,wI,SS hr8,p,b7,m7,wI,c9,HH tR,HH tR,λj9 b9 m9 H9 ve h91 o9 qy=>?_⟩
    obtain⟨j9,rfl⟩:=Zq ve
    have uC:j9<e.2.1.length:=by rw[tR]at h91;lia
    have k9:=zbh qy
    have D9:=D8.pot c9 k9
    refine⟨e.2.2,_,_,wI,rfl,Hk (D9.ra.ro e kK),zaw (by rw[Qo,Qd uC];rfl),bA _ _ ⟨some e.2.1[j9],b9,m9,rfl,λy z=>by rw[←Qn z];exact Qr uC,λz=>(by cases z),D9,o9,i9.trans ES⟩⟩
  rintro σ' H8 ⟨c,b8,m8,rfl,hc,hW,D8,c9,i9⟩
  refine⟨wI,wI,wI,wI,d,_,(x,[],a),e,none,c,rfl,D8.ra,hx4,kK,Zl nex,λy z=>(by cases z),hc,λe he=>VB Hf,by have:=D8.few;lia,λa1 a2 H9 R9 k9=>?_⟩
  refine⟨⟨_,_,_,wI⟩,i9.trans ES,_,b8,m8,⟨R9,?_,by unfold setE;rw[List.length_map,List.length_map];exact D8.few⟩,c9.keep k9 (He npd),by rw[zca,zca];exact nm⟩
  rw[zc6,zc6,cE,set_comm (Zl nex)]
  exact ze5.leaf Lb x (e.1,e.2.1) c D3.gd hxr (La ⟨e,jq,rfl⟩) hc hW
 ·rintro σ H2 ⟨⟨x3,x4,x5,x6,rfl⟩,k2,es,b2,m2,D2,cX,n2⟩
  rw[Qs (Rm uk)]at n2
  exact⟨wI,kq d b2 m2 es H2 hd cX D2 n2 λc o ec nc=>k2 c o LJ (by simp;exact⟨He nc,WM hd⟩)⟩
end
end K21
end
section
namespace Wb
section
variable{α:Type}[DecidableEq α]
def zgw{A B:List α}{n:α}(h:n∉A):(A++n::B).erase n=A++B:=by
 rw[List.erase_append_right _ h,List.erase_cons_head]
def nxt_erase{zs:List α}(nd:zs.Nodup){n w:α}(hn:n∈zs)(hw:w∈zs)(dW:w≠n):nxt (zs.erase n) w=if BX w=n then BX n else BX w:=by
 obtain⟨A,B,rfl,hA,hB⟩:=zb2 hw nd
 have k1:=zbe (B:=B) hA
 rw[Ze,Qt]at nd
 obtain⟨nA,⟨_,nB⟩,nAB⟩:=nd
 rcases Ql.mp hn with h | h
 ·obtain ⟨A1,A2,rfl,h1,h2⟩:=zb2 h nA
  have e0:(A1++n::A2)++w::B=A1++n::(A2++w::B):=by rw[Qv];rfl
  have hw':w∉A1++A2:=λz=>hA (by
   rcases Ql.mp z with q | q
   ·exact YF q
   ·exact WK (QZ q))
  have k2:=zbe (B:=B) hw'
  have e1:((A1++n::A2)++w::B).erase n=(A1++A2)++w::B:=by rw[e0,zgw h1,Qv]
  have k3:=zbe (B:=A2++w::B) h1
  rw[←e0]at k3
  rw[e1]
  cases B with
  |cons b t =>
   have q1:=Qn k1;have q2:=Qn k2
   rw[if_neg (λz=>nAB n h n (QZ (by rw[q1.trans z];exact Qb)) rfl)]
   exact q2.symm.trans q1
  | nil =>
   cases A1 with
   |cons a t =>
    have q1:=Qn k1;have q2:=Qn k2
    rw[if_neg (λz=>h1 (by rw[q1.trans z];exact Qb))]
    exact q2.symm.trans q1
   |nil =>
    have q1:=Qn k1
    rw[if_pos q1.symm]
    refine Qn (k2.symm.trans (Eq.trans ?_ k3))
    cases A2<;>rfl
 ·have h':n∈B:=by
   rcases Qh.mp h with z | z
   ·exact absurd z.symm dW
   ·exact z
  obtain⟨B1,B2,rfl,h1,h2⟩:=zb2 h' nB
  have um:n∉A:=λz=>nAB n z n h rfl
  have hm:n∉A++w::B1:=by
   simp only[Ql,Qh,not_or];exact⟨um,λz=>dW z.symm,h1⟩
  have e0:A++w::(B1++n::B2)=(A++w::B1)++n::B2:=by rw[Qv];rfl
  have e1:(A++w::(B1++n::B2)).erase n=A++w::(B1++B2):=by rw[e0,zgw hm,Qv];rfl
  have k2:=zbe (B:=B1++B2) hA
  have k3:=zbe (B:=B2) hm
  rw[←e0]at k3
  rw[e1]
  cases B1 with
  |cons b t =>
   have q1:=Qn k1;have q2:=Qn k2
   rw[if_neg (λz=>h1 (by rw[q1.trans z];exact Qb))]
   exact q2.symm.trans q1
  |nil =>
   have q1:=Qn k1
   rw[if_pos q1.symm]
   refine Qn (k2.symm.trans (Eq.trans ?_ k3))
   cases B2 with
   |cons b t=>rfl
   |nil=>cases A<;>rfl
def nxt_self{zs:List α}(nd:zs.Nodup)(hw:w∈zs)(h:BX w=w):zs=[w]:=by
 obtain⟨A,B,rfl,hA,hB⟩:=zb2 hw nd
 have k:=zbe (B:=B) hA
 rw[h]at k
 cases B with
 |cons b t=>exact absurd (by rw[←Qn k];exact Qb) hB
 |nil =>
  cases A with
  |nil=>rfl
  |cons a t=>exact absurd (by rw[←Qn k];exact Qb) hA
structure Web(ns:List α)(r:α→List α)(cs:List (List (α×α))):Prop where
 nd:ns.Nodup
 ro:∀x,x∉ns→r x=[]
 rn:∀x,(r x).Nodup
 ir:∀x,x∉r x
 sy:∀x y,y∈r x→x∈r y
 cf:cs.flatten.Nodup
 cm:∀s,s∈cs.flatten↔s.1∈r s.2
 cy:∀c∈cs,Cyc (st r) c
def vl(r:α→List α)(x:α):Int:=2+(if r x=[] then 2 else 0)-((r x).length:Int)
def tot(ns:List α)(r:α→List α)(cs:wC (α×α)):Int:=(ns.map (vl r)).sum+2*(cs.length:Int)
structure Flat(ns:List α)(r:α→List α)(cs:List (List (α×α))):Prop extends Web ns r cs where
 fl:∀T:List α,(∀t∈T,t∈ns)→T.Pairwise (λx y=>¬WW y)→4*(T.length:Int)≤BY r cs
def Conn.symm{r:α→List α}(sy:∀x y,y∈r x→x∈r y)(h:WW y):Conn r y x:=by
 induction h with
 |refl=>exact .refl
 |step a hz ih=>exact Conn.trans (.step .refl (sy _ _ hz)) ih
variable{ns:List α}{r r':α→List α}{cs:List (List (α×α))}
def Web.inn(C:JI cs)(h:y∈r x):x∈ns:=Ul λz=>by rw[NY z]at h;cases h
structure Less(r r':α→List α)(v u:α):Prop where
 tie:u∈r v
 one:r' v=(r v).erase u
 two:r' u=(r u).erase v
 els:∀x,x≠v→x≠u→r' x=r x
section del
variable{v u:α}(C:Web ns r cs)(L:Less r r' v u)
include C L
theorem del_ne:v≠u:=λe=>C.ir u (by have:=L.tie;rwa[e]at this)
theorem zcf(s:α×α):s.1∈r' s.2↔s.1∈r s.2∧s≠(v,u)∧s≠(u,v):=by
 obtain⟨a,b⟩:=s
 have f9:=Mz L
 by_cases hb:b=v
 ·subst hb
  show a∈r' b↔a∈r b∧_
  rw[L.one,(C.rn b).mem_erase_iff]
  constructor
  ·rintro ⟨h1,h2⟩
   exact⟨h2,λe=>f9 Ss,λe=>h1 SR⟩
  ·rintro ⟨h1,h2,h3⟩
   exact⟨λe=>h3 (by rw[e]),h1⟩
 ·by_cases bx:b=u
  ·subst bx
   show a∈r' b↔a∈r b∧_
   rw[L.two,(C.rn b).mem_erase_iff]
   constructor
   ·rintro ⟨h1,h2⟩
    exact⟨h2,λe=>h1 SR,λe=>hb Ss⟩
   ·rintro ⟨h1,h2,h3⟩
    exact⟨λe=>h2 (by rw[e]),h1⟩
  ·show a∈r' b↔a∈r b∧_
   rw[L.els b hb bx]
   exact⟨λh=>⟨h,λe=>bx Ss,λe=>hb Ss⟩,λh=>h.1⟩
theorem del_st{s:α×α}(hs:s.1∈r' s.2):st r' s=if BQ s=(v,u) then BQ (u,v) else if BQ s=(u,v) then BQ (v,u) else BQ s:=by
 have hm:=(JJ s).mp hs
 obtain⟨a,b⟩:=s
 have f9:=Mz L
 obtain⟨ha,cJ,bC⟩:=hm
 by_cases hb:b=v
 ·subst hb
  have uX:a≠u:=λe=>bC (by rw[e])
  have k:=Fz L.tie ha uX
  show(b,FA a)=if(b,YV a)=(b,u) then(b,YV u) else if(b,YV a)=(u,b) then _ else(b,YV a)
  rw[L.one,k]
  by_cases h:YV a=u
  ·rw[if_pos h,if_pos (by rw[h])]
  ·rw[if_neg h,if_neg (λe=>h Ss),if_neg (λe=>f9 SR)]
 ·by_cases bx:b=u
  ·subst bx
   have uX:a≠v:=λe=>cJ (by rw[e])
   have k:=Fz Ik ha uX
   show(b,FA a)=if(b,YV a)=(v,b) then _ else if(b,YV a)=(b,v) then(b,YV v) else(b,YV a)
   rw[L.two,k,if_neg (λe=>hb SR)]
   by_cases h:YV a=v
   ·rw[if_pos h,if_pos (by rw[h])]
   ·rw[if_neg h,if_neg (λe=>h Ss)]
  ·show (b,FA a)=if (b,YV a)=(v,u) then _ else if (b,YV a)=(u,v) then _ else (b,YV a)
   rw[if_neg (λe=>hb SR),if_neg (λe=>bx SR),L.els b hb bx]
theorem del_web(hp:cs.flatten.Perm ((v,u)::(u,v)::cs'.flatten))(hc:∀c∈cs',UG c):Web ns r' cs':=by
 have f9:=Mz L
 have nd:=hp.nodup_iff.mp C.cf
 rw[Qt,Qt,Qh,not_or]at nd
 refine⟨C.nd,λx hx=>?_,λx=>?_,λx h=>?_,λx y h=>?_,nd.2.2,λs=>?_,hc⟩
 ·have hv:x≠v:=fun e=>hx (by rw [e];exact C.inn L.tie)
  have hu:x≠u:=λe=>hx (by rw[e];exact C.inn Ik)
  rw[L.els x hv hu,NY hx]
 ·by_cases h1:x=v
  ·rw[h1,L.one];exact(C.rn v).erase _
  ·by_cases h2:x=u
   ·rw[h2,L.two];exact(C.rn u).erase _
   ·rw[L.els x h1 h2];exact C.rn x
 ·exact C.ir x ((JJ (x,x)).mp h).1
 ·obtain ⟨h1,h2,h3⟩:=(JJ (y,x)).mp h
  exact(JJ (x,y)).mpr ⟨C.sy x y h1,λe=>h3 (by cases e;rfl),λe=>h2 (by cases e;rfl)⟩
 ·rw [zcf C L,← C.cm,hp.mem_iff,Qh,Qh]
  constructor
  ·intro h
   exact⟨AX,λe=>nd.1.2 (e▸h),λe=>nd.2.1 (e▸h)⟩
  ·rintro ⟨h | h | h,h2,h3⟩
   ·exact absurd h h2
   ·exact absurd h h3
   ·exact h
theorem del_tot:BY r' cs'=BY r cs+2+(if r' v=[] then 2 else 0)+(if r' u=[] then 2 else 0)+2*((cs'.length:Int)-(cs.length:Int)):=by
 have f9:=Mz L
 have hv:=C.inn L.tie
 have hu:=C.inn Ik
 have e1:=zfb (g:=vl r) (g':=λx=>if x=v then KC v else Db x) C.nd hv λx _ h=>if_neg h
 have e2:=zfb (g:=λx=>if x=v then KC v else Db x) (g':=vl r') C.nd hu λx _ h=>by
  show KC x=if x=v then KC v else Db x
  by_cases hx:x=v
  ·rw[if_pos hx,hx]
  ·rw[if_neg hx];unfold vl;rw[L.els x hx h]
 have a1:(if v=v then KC v else Db v)=KC v:=if_pos rfl
 have a2:(if u=v then KC v else Db u)=Db u:=if_neg λe=>f9 e.symm
 have l1:=Ym L.tie
 have l2:=Ym Ik
 have p1:=Yl L.tie
 have p2:=Yl Ik
 have n1:r v≠[]:=λe=>by have:=L.tie;rw[e]at this;cases this
 have n2:r u≠[]:=λe=>by have:=UH L.tie;rw[e]at this;cases this
 have b1:KC v=Db v+1+(if r' v=[] then 2 else 0):=by
  unfold vl;rw[if_neg n1];rw[←L.one]at l1;rw[l1];lia
 have b2:KC u=Db u+1+(if r' u=[] then 2 else 0):=by
  unfold vl;rw[if_neg n2];rw[←L.two]at l2;rw[l2];lia
 unfold tot
 rw[e2,e1]
 show(_+((if v=v then KC v else Db v)-Db v))+(KC u-(if u=v then KC v else Db u))+_=_
 rw[a1,a2,b1,b2];lia
theorem del_conn(h:WW y):YZ x y∨(YZ x v∧YZ u y)∨(YZ x u∧YZ v y):=by
 induction h with
 |refl=>exact .inl .refl
 | @step y z a hz ih =>
  by_cases h1:(z,y)=(v,u)
  ·cases h1
   rcases ih with h | ⟨h,_⟩ | ⟨h,_⟩
   ·exact .inr (SC ⟨h,.refl⟩)
   ·exact .inl h
   ·exact .inr (SC ⟨h,.refl⟩)
  ·by_cases h2:(z,y)=(u,v)
   ·cases h2
    rcases ih with h | ⟨h,_⟩ | ⟨h,_⟩
    ·exact .inr (RH ⟨h,.refl⟩)
    ·exact .inr (RH ⟨h,.refl⟩)
    ·exact .inl h
   ·have dU:z∈r' y:=(JJ (z,y)).mpr ⟨hz,h1,h2⟩
    rcases ih with h | ⟨h,k⟩ | ⟨h,k⟩
    ·exact .inl (.step h dU)
    ·exact .inr (RH ⟨h,.step k dU⟩)
    ·exact .inr (SC ⟨h,.step k dU⟩)
end del
end
section
variable{α:Type}[DecidableEq α]{ns:List α}{r r':α→List α}{cs:List (List (α×α))}
def Web.iso(C:JI cs)(h:p∈r q):(r q).erase p=[]↔BQ (p,q)=(q,p):=by
 constructor
 ·intro e
  have l:=Ym h
  rw[e]at l
  have p1:=Yl h
  obtain⟨a,ha⟩:=List.length_eq_one_iff.mp (show(r q).length=1 by simp at l;lia)
  rw[ha]at h
  have:p=a:=Qc.mp h
  show(q,nxt (r q) p)=_
  rw[ha,this,zil]
 ·intro e
  have:=nxt_self (C.rn q) h Ss
  rw[this,List.erase_cons_head]
section del
variable{v u:α}(C:Web ns r cs)(L:Less r r' v u)
include C L
theorem lk_del:∀{t:List (α×α)} {s:α×α},Vz s t x→(∀y,y=s∨y∈t→y.1∈r' y.2)→Lk (st r') s t (if x=(v,u) then BQ (u,v) else if x=(u,v) then BQ (v,u) else x):=by
 intro t
 induction t with
 |nil=>intro s k h;rw[←show BQ s=x from k];exact FB yf
 |cons a t ih =>
  intro s k h
  refine⟨?_,ih k.2 λy hy=>h y xX⟩
  have ha:=((JJ a).mp (h a (SC Qb))).2
  rw[FB yf,k.1,if_neg ha.1,if_neg ha.2]
theorem rest_cyc(hc:c∈cs)(h1:(v,u)∉c)(h2:(u,v)∉c):UG c:=by
 refine ze7 (λy hy=>?_) wH
 have hn:=zi0 wH hy
 have cr:y.1∈r' y.2:=(JJ y).mpr ⟨(IR y).mp (yg ⟨c,hc,hy⟩),λe=>h1 (e▸hy),λe=>h2 (e▸hy)⟩
 rw[FB cr,if_neg (show BQ y≠(v,u) from λe=>h1 (by rw[←e];exact hn)),if_neg (show BQ y≠(u,v) from λe=>h2 (by rw[←e];exact hn))]
theorem lk_conn(sy:∀x y,y∈r' x→x∈r' y):∀{t:List (α×α)} {s:α×α},Vz s t x→(∀y,y=s∨y∈t→y.1∈r' y.2)→YZ s.1 x.1:=by
 intro t
 induction t with
 |nil=>intro s k h;rw[←show BQ s=x from k];exact .step .refl (sy _ _ yf)
 |cons a t ih =>
  intro s k h
  refine Conn.trans (.step .refl (sy _ _ yf)) ?_
  have:=ih k.2 λy hy=>h y xX
  rwa[show a.1=s.2 by rw[←k.1];rfl]at this
end del
def filter_one{T:List α}{R:α→α→Prop}{P:α→Bool}(h:T.Pairwise fun x y=>¬ R x y)(hR:∀ x y,P x=false→P y=false→R x y):T.length≤(T.filter P).length+1:=by
 induction T with
 |nil=>exact Zc _
 | cons a t ih =>
  rw[Ju]at h
  by_cases ha:P a=true
  ·rw [Zo ha]
   have:=ih h.2
   rw[Qz,Qz];lia
  ·rw [Zp ha]
   have:t.filter P=t:=List.filter_eq_self.mpr λy hy=>by
    cases e:P y with
    |true=>rfl
    |false=>exact absurd (hR a y (He ha) e) (h.1 y hy)
   rw[this];exact Qe _
def web_less(C:JI cs)(L:XT u):∃ cs',Web ns r' cs'∧(BY r' cs'=BY r cs∧YZ u v∨BY r' cs'=BY r cs+4):=by
 have f9:=Mz L
 have ur:v∈r u:=UH L.tie
 have az:((u,v):α×α)≠(v,u):=λe=>f9 Ss
 obtain⟨c,hc,fA⟩:=Zu.mp ((IR (v,u)).mpr ur)
 obtain⟨P,Q,ecq⟩:=Yq fA
 have k0:Vz (v,u) (Q++P) (v,u):=zc7 (ecq▸Bq hc)
 have pc:c.Perm ((v,u)::(Q++P)):=by
  rw[ecq];exact Xk.trans ((Wh).cons _)
 by_cases hb:(u,v)∈c
 ·have dk:(u,v)∈Q++P:=by
   rcases Qh.mp (pc.mem_iff.mp hb) with z | z
   ·exact absurd z az
   ·exact z
  obtain⟨A,B,eAB⟩:=Yq dk
  rw[eAB]at k0 pc
  obtain⟨kA,kB⟩:=zhr.mp k0
  have qt:c.Perm ((v,u)::(u,v)::(A++B)):=pc.trans (Xk.cons _)
  let N:List (S1 (α×α)):=(if A=[] then[] else[A])++(if B=[] then[] else[B])
  have hN:N.flatten=A++B:=by
   show((if A=[] then[] else[A])++(if B=[] then[] else[B])).flatten=_
   rw[Wq]
   congr 1
   ·by_cases h:A=[]
    ·rw[if_pos h,h];rfl
    ·rw[if_neg h];simp
   ·by_cases h:B=[]
    ·rw[if_pos h,h];rfl
    ·rw[if_neg h];simp
  have hp:cs.flatten.Perm ((v,u)::(u,v)::(N++cs.erase c).flatten):=by
   rw[Wq,hN]
   refine(zb3 hc).trans ((qt.append_right _).trans ?_)
   exact List.Perm.refl _
  have nd:=hp.nodup_iff.mp C.cf
  have ao:∀y,y∈(N++cs.erase c).flatten→y.1∈r' y.2:=λy hy=>by
   rw[Qt,Qt,Qh,not_or]at nd
   exact(JJ y).mpr ⟨(IR y).mp Ac,λe=>nd.1.2 (e▸hy),λe=>nd.2.1 (e▸hy)⟩
  have eM:∀y∈A,y.1∈r' y.2:=λy hy=>ao y (by rw[Wq,hN];exact YF (YF hy))
  have gp:∀y∈B,y.1∈r' y.2:=λy hy=>ao y (by rw[Wq,hN];exact YF (WK hy))
  have cA:∀a t,A=a::t→UG A:=λa t e=>by
   subst e
   have k:=MA kA.2 λy hy=>eM y Cr
   rw[if_neg az,if_pos rfl,kA.1]at k
   exact⟨a,t,rfl,k⟩
  have cB:∀a t,B=a::t→UG B:=λa t e=>by
   subst e
   have k:=MA kB.2 λy hy=>gp y Cr
   rw[if_pos rfl,kB.1]at k
   exact⟨a,t,rfl,k⟩
  have pG:∀d∈N++cs.erase c,UG d:=λd hd=>by
   rcases Ql.mp hd with z | z
   ·rcases Ql.mp z with y | y
    ·cases A with
     |nil=>rw[if_pos rfl]at y;cases y
     |cons a t =>
      rw[if_neg yl]at y
      rw[Qc.mp y];exact cA a t rfl
    ·cases B with
     |nil=>rw[if_pos rfl]at y;cases y
     |cons a t =>
      rw[if_neg yl]at y
      rw[Qc.mp y];exact cB a t rfl
   ·rw [Qt,Qt,Qh,not_or] at nd
    have hf:∀y∈d,y∈(N++cs.erase c).flatten:=λy hy=>Zu.mpr ⟨d,hd,hy⟩
    exact rest_cyc C L (Uj z) (λy=>nd.1.2 ym) (λy=>nd.2.1 ym)
  have W:=del_web C L hp pG
  have iA:r' u=[]↔A=[]:=by
   rw[L.two,C.iso ur]
   constructor
   ·intro e
    cases A with
    |nil=>rfl
    |cons a t =>
     have ha:a=(u,v):=kA.1.symm.trans e
     have:=((JJ a).mp (eM a Qb)).2.2
     exact absurd ha this
   ·intro e;subst e;exact kA
  have iB:r' v=[]↔B=[]:=by
   rw[L.one,C.iso L.tie]
   constructor
   ·intro e
    cases B with
    |nil=>rfl
    |cons a t =>
     have ha:a=(v,u):=kB.1.symm.trans e
     have:=((JJ a).mp (gp a Qb)).2.1
     exact absurd ha this
   ·intro e;subst e;exact kB
  have ht:BY r' (N++cs.erase c)=BY r cs+4:=by
   rw[del_tot C L (cs':=N++cs.erase c)]
   have lc:=Ym hc
   have lp:=Yl hc
   have ln:N.length=(if A=[] then 0 else 1)+(if B=[] then 0 else 1):=by
    show((if A=[] then[] else[A])++(if B=[] then[] else[B])).length=_
    rw[Qw]
    congr 1
    ·by_cases h:A=[]
     ·rw[if_pos h,if_pos h];rfl
     ·rw[if_neg h,if_neg h];rfl
    ·by_cases h:B=[]
     ·rw[if_pos h,if_pos h];rfl
     ·rw[if_neg h,if_neg h];rfl
   rw[Qw,ln,lc]
   by_cases hA:A=[]
   ·by_cases hB:B=[]
    ·rw[if_pos (iA.mpr hA),if_pos (iB.mpr hB),if_pos hA,if_pos hB];lia
    ·rw[if_pos (iA.mpr hA),if_neg (λz=>hB (iB.mp z)),if_pos hA,if_neg hB];lia
   ·by_cases hB:B=[]
    ·rw[if_neg (λz=>hA (iA.mp z)),if_pos (iB.mpr hB),if_neg hA,if_pos hB];lia
    ·rw[if_neg (λz=>hA (iA.mp z)),if_neg (λz=>hB (iB.mp z)),if_neg hA,if_neg hB];lia
  exact⟨N++cs.erase c,W,SC ht⟩
 ·obtain ⟨c2,bq,pA⟩:=Zu.mp ((IR (u,v)).mpr L.tie)
  have bV:c2≠c:=λe=>hb (e▸pA)
  have kR:c2∈cs.erase c:=(List.mem_erase_of_ne bV).mpr bq
  obtain⟨P2,Q2,qg⟩:=Yq pA
  have k2:Vz (u,v) (Q2++P2) (u,v):=zc7 (qg▸C.cy c2 bq)
  have qt:c2.Perm ((u,v)::(Q2++P2)):=by
   rw[qg];exact Xk.trans ((Wh).cons _)
  generalize hA:Q++P=A at k0 pc
  generalize hB:Q2++P2=B at k2 qt
  have hp:cs.flatten.Perm ((v,u)::(u,v)::((A++B)::(cs.erase c).erase c2).flatten):=by
   rw[Wf]
   refine(zb3 hc).trans ((pc.append_right _).trans ?_)
   rw[Wv]
   refine List.Perm.cons _ ?_
   refine((zb3 kR).append_left A).trans ?_
   refine((qt.append_right _).append_left A).trans ?_
   rw[Wv]
   refine Xk.trans ?_
   rw[Qv]
  have nd:=hp.nodup_iff.mp C.cf
  have ao:∀y,y∈((A++B)::(cs.erase c).erase c2).flatten→y.1∈r' y.2:=λy hy=>by
   rw[Qt,Qt,Qh,not_or]at nd
   exact(JJ y).mpr ⟨(IR y).mp Ac,λe=>nd.1.2 (e▸hy),λe=>nd.2.1 (e▸hy)⟩
  have eM:∀y∈A,y.1∈r' y.2:=λy hy=>ao y (by rw[Wf];exact YF (YF hy))
  have gp:∀y∈B,y.1∈r' y.2:=λy hy=>ao y (by rw[Wf];exact YF (WK hy))
  have nA:∃a t,A=a::t:=by
   cases A with
   |nil =>
    have:=congrArg Prod.fst (show BQ (v,u)=(v,u) from k0)
    exact absurd this.symm f9
   |cons a t=>exact⟨a,t,rfl⟩
  have nB:∃a t,B=a::t:=by
   cases B with
   |nil =>
    have:=congrArg Prod.fst (show BQ (u,v)=(u,v) from k2)
    exact absurd this f9
   |cons a t=>exact⟨a,t,rfl⟩
  obtain⟨a,tA,rfl⟩:=nA
  obtain⟨b,tB,rfl⟩:=nB
  have pG:∀d∈((a::tA)++(b::tB))::(cs.erase c).erase c2,UG d:=λd hd=>by
   rcases Qh.mp hd with z | z
   ·have k:=MA k0.2 fun y hy=>eM y Cr
    have k':=MA k2.2 λy hy=>gp y Cr
    rw[if_pos rfl,k2.1]at k
    rw[if_neg az,if_pos rfl,k0.1]at k'
    rw[z]
    exact⟨a,tA++b::tB,rfl,zhr.mpr ⟨k,k'⟩⟩
   ·rw [Qt,Qt,Qh,not_or] at nd
    have hf:∀y∈d,y∈(((a::tA)++(b::tB))::(cs.erase c).erase c2).flatten:=λy hy=>Zu.mpr ⟨d,hd,hy⟩
    exact rest_cyc C L (Uj (Uj z)) (λy=>nd.1.2 ym) (λy=>nd.2.1 ym)
  have W:=del_web C L hp pG
  have nu:r' u≠[]:=λe=>by
   rw[L.two,C.iso ur]at e
   have ha:a=(u,v):=k0.1.symm.trans e
   exact((JJ a).mp (eM a Qb)).2.2 ha
  have nv:r' v≠[]:=λe=>by
   rw[L.one,C.iso L.tie]at e
   have ha:b=(v,u):=k2.1.symm.trans e
   exact((JJ b).mp (gp b Qb)).2.1 ha
  have gF:YZ u v:=by
   have:=lk_conn C L W.sy k0.2 λy hy=>eM y Cr
   rwa[←k0.1]at this
  refine⟨_,W,RH ⟨?_,gF⟩⟩
  rw[del_tot C L,if_neg nu,if_neg nv]
  have lc:=Ym hc
  have lc2:=Ym kR
  have lp:=Yl hc
  have lp2:=Yl kR
  rw[Qz,lc2,lc]
  lia
def zhx{v u:α}(C:JI cs)(L:XT u)(sy:∀x y,y∈r' x→x∈r' y){T:List α}(lN:T.Pairwise λx y=>¬YZ x y):∃T':List α,(∀t∈T',t∈T)∧T'.Pairwise (λx y=>¬WW y)∧T.length≤T'.length+1:=by
 let P:α→Bool:=λx=>@decide (¬YZ x v) Sh
 have hP:∀x,P x=false→YZ x v:=λx e=>by
  have:=@of_decide_eq_false _ Sh e
  exact Classical.not_not.mp this
 refine⟨T.filter P,λt ht=>(Pf ht).1,?_,filter_one (P:=P) lN λx y hx hy=>Conn.trans (hP x hx) (Dc (hP y hy))⟩
 refine Xd ?_ (lN.filter P)
 intro x y hx hy sY hc
 have px:¬YZ x v:=@of_decide_eq_true _ Sh (Pf hx).2
 have py:¬YZ y v:=@of_decide_eq_true _ Sh (Pf hy).2
 rcases del_conn C L hc with h | ⟨h,_⟩ | ⟨_,h⟩
 ·exact sY h
 ·exact px h
 ·exact py (Dc h)
def back_less(C:JI cs)(L:XT u)(sy:∀x y,y∈r' x→x∈r' y)(h:YZ u v)(hc:WW y):YZ x y:=by
 rcases del_conn C L hc with z | ⟨z1,z2⟩ | ⟨z1,z2⟩
 ·exact z
 ·exact(z1.trans (Dc h)).trans z2
 ·exact(z1.trans h).trans z2
def flat_less{v u:α}(F:FZ r cs)(L:XT u):∃cs',FZ r' cs':=by
 obtain⟨cs',W,⟨ht,gF⟩ | ht⟩:=web_less F.toWeb L
 ·refine ⟨cs',W,fun T hT lN=>?_⟩
  rw[ht]
  exact F.fl T hT (lN.imp λ{x y} h hc=>h (back_less F.toWeb L W.sy gF hc))
 ·refine ⟨cs',W,fun T hT lN=>?_⟩
  obtain⟨T',h1,h2,h3⟩:=zhx F.toWeb L W.sy lN
  have:=F.fl T' (λt ht=>hT t (h1 t ht)) h2
  rw[ht]
  lia
def conn_iso(hr:r x=[])(h:WW y):y=x:=by
 induction h with
 |refl=>rfl
 |step _ hz ih=>rw[ih,hr]at hz;cases hz
def sum_one{L:List α}(nd:L.Nodup){a:α}(h:a∈L)(k:Int):(L.map λl=>if a=l then k else 0).sum=k:=by
 have:=zfb (g:=λ_=>(0:Int)) (g':=λl=>if a=l then k else 0) nd h λx _ hx=>if_neg λe=>hx e.symm
 rw[this,zd2 λ_ _=>rfl,if_pos rfl];lia
def zf7{β:Type}(f g:β→Int):∀l:List β,(l.map λx=>f x+g x).sum=(EJ f).sum+(EJ g).sum:=by
 intro l
 induction l with
 |nil=>rfl
 |cons a t ih=>rw[Qm,Qm,Qm,Zm,Zm,Zm,ih];lia
def sum_exch{β:Type}{L:List α}(nd:L.Nodup)(f:β→α)(g:β→Int):∀{xs:List β},(∀x∈xs,f x∈L)→(L.map λl=>(xs.map λx=>if f x=l then g x else 0).sum).sum=(Iu g).sum:=by
 intro xs
 induction xs with
 |nil=>intro _;exact zd2 λ_ _=>rfl
 |cons a t ih =>
  intro h
  rw[Qm,Zm,←ih λx hx=>h x Ca,←sum_one nd (h a Qb) (g a),←zf7]
  refine zcl λl _=>?_
  rw[Qm,Zm]
def labels(a9:α→α):∀ ns:List α,∃ L:List α,L.Nodup∧(∀ x∈ns,a9 x∈L)∧∀ l∈L,∃ x∈ns,a9 x=l:=by
 intro ns
 induction ns with
 |nil=>exact⟨[],Zn,(by intro x h;cases h),(by intro x h;cases h)⟩
 | cons a t ih =>
  obtain⟨L,h1,h2,h3⟩:=ih
  by_cases h:a9 a∈L
  ·refine ⟨L,h1,fun x hx=>?_,fun l hl=>?_⟩
   ·rcases Qh.mp hx with z | z
    ·rw[z];exact h
    ·exact h2 x z
   ·obtain ⟨x,hx,e⟩:=h3 l hl
    exact⟨x,Ca,e⟩
  ·refine ⟨a9 a::L,EC ⟨h,h1⟩,fun x hx=>?_,fun l hl=>?_⟩
   ·rcases Qh.mp hx with z | z
    ·rw[z];exact Qb
    ·exact QZ (h2 x z)
   ·rcases Qh.mp hl with z | z
    ·exact⟨a,Qb,z.symm⟩
    ·obtain ⟨x,hx,e⟩:=h3 l z
     exact⟨x,Ca,e⟩
def cert_flat{a9:α→α}(C:QT a9):FZ r cs:=by
 refine⟨⟨C.nd,C.ro,C.rn,C.ir,C.sy,C.cf,C.cm,C.cy⟩,λT hT hp=>?_⟩
 obtain⟨L,h1,h2,h3⟩:=labels a9 ns
 have e1:(L.map λl=>W4 l).sum=(ns.map (vl r)).sum:=Dv h2
 have e2:(L.map λl=>WX l).sum=2*(cs.length:Int):=by
  have key:∀D:List (S1 (α×α)),(∀c∈D,c∈cs)→(L.map λl=>F' l).sum=2*(D.length:Int):=by
   intro D
   induction D with
   |nil=>intro _;exact zd2 λ_ _=>rfl
   | cons c D ih =>
    intro h
    have hc:=h c Qb
    obtain⟨s,t,rfl,_⟩:=Bq hc
    have ha:a9 s.1∈L:=h2 _ (C9 (BR Qb))
    have hs:∀l∈L,ct ((s::t)::D) a9 l=(if a9 s.1=l then 2 else 0)+F' l:=λl _=>by
     rw[zdz,zd1 (λu hu=>C.one_lab hc Qb hu) yl]
     congr 1
     by_cases e:a9 s.1=l
     ·rw[if_pos e,if_pos (HY e)]
     ·rw[if_neg e,if_neg (λz=>e (LV z))]
    rw[zcl hs,zf7,sum_one h1 ha,ih λd hd=>h d (QZ hd),Qz];lia
  exact key cs λ_ h=>h
 have e3:(L.map λl=>W4 l+WX l).sum=4*(L.length:Int):=by
  have:∀M:List α,(∀l∈M,l∈L)→(M.map λl=>W4 l+WX l).sum=4*(M.length:Int):=by
   intro M
   induction M with
   |nil=>intro _;rfl
   |cons a t ih =>
    intro h
    obtain⟨x,hx,e⟩:=h3 a (h a Qb)
    rw[Qm,Zm,ih λl hl=>h l (QZ hl),←e,C.eu x hx,Qz];lia
  exact this L λ_ h=>h
 rw[zf7,e1,e2]at e3
 have nd:(T.map a9).Nodup:=Us.mpr (Xd (λ{x y} hx hy h e=>h (C.co x (hT x hx) y (hT y hy) e)) hp)
 have:=nd.length_le_of_subset (l₂:=L) λl hl=>by
  obtain⟨x,hx,rfl⟩:=Qf.mp hl
  exact h2 x (hT x hx)
 rw[Qa]at this
 unfold tot
 lia
end
section
variable{α:Type}[DecidableEq α]{ns:List α}{r r':α→List α}{cs:List (List (α×α))}{a9:α→α}
def cutR(r:α→List α)(v u:α):α→List α:=λx=>if x=v then(r v).erase u else if x=u then(r u).erase v else r x
def cut_less(C:JI cs){v u:α}(h:u∈r v):Less r (cutR r v u) v u :=
 have f9:v≠u:=λe=>C.ir u (by rw[e]at h;exact h)
 ⟨h,EB,(Sb (Zl f9)).trans EB,λx h1 h2=>(Sb h1).trans (Sb h2)⟩
def sum_lt{f g:α→Nat}:∀ {l:List α},(∀ x∈l,f x≤g x)→(∃ a∈l,f a < g a)→(EJ f).sum < (EJ g).sum:=by
 intro l
 induction l with
 |nil=>rintro _ ⟨a,h,_⟩;cases h
 | cons b t ih =>
  rintro h ⟨a,ha,hl⟩
  rw[Qm,Qm,Zm,Zm]
  have h1:=h b Qb
  have h2:(t.map f).sum≤(t.map g).sum:=by
   clear ih hl ha
   induction t with
   |nil=>exact Qe _
   |cons c t ih2 =>
    rw[Qm,Qm,Zm,Zm]
    have:=h c Ha
    have:=ih2 (λx hx=>h x (by rcases Qh.mp hx with z | z<;>simp[z]))
    lia
  rcases Qh.mp ha with z | z
  ·subst z;lia
  ·have:=ih (fun x hx=>h x Ca) ⟨a,z,hl⟩
   lia
def genus:∀ (n:Nat) {r:α→List α} {cs:List (S1 (α×α))},JI cs→(ns.map fun x=>(r x).length).sum=n→∃ T:List α,(∀ t∈T,t∈ns)∧T.Pairwise (fun x y=>¬ Conn r x y)∧BY r cs≤4*(T.length:Int):=by
 intro n
 induction n using Nat.strongRecOn with
 | ind n ih =>
  intro r cs C hn
  by_cases h:∃v u,u∈r v
  ·obtain ⟨v,u,h⟩:=h
   have L:=cut_less C h
   obtain⟨cs',W,hh⟩:=web_less C L
   have cY:∀x∈ns,(cutR r v u x).length≤(r x).length:=λx _=>by
    unfold cutR
    by_cases e1:x=v
    ·rw[if_pos e1,e1];exact List.length_erase_le ..
    ·rw [Sb e1]
     by_cases e2:x=u
     ·rw[if_pos e2,e2];exact List.length_erase_le ..
     ·rw[if_neg e2];exact Qe _
   have ad:(ns.map λx=>(cutR r v u x).length).sum<n:=by
    rw[←hn]
    refine sum_lt cY ⟨v,IS h,?_⟩
    rw[L.one,Ym h]
    have:=Yl h
    lia
   obtain⟨T,h1,h2,h3⟩:=ih _ ad W rfl
   rcases hh with⟨ht,gF⟩ | ht
   ·exact⟨T,h1,h2.imp λ{x y} h hc=>h (back_less C L W.sy gF hc),by rw[←ht];exact h3⟩
   ·obtain ⟨T',g1,g2,g3⟩:=zhx C L W.sy h2
    exact⟨T',λt ht=>h1 t (g1 t ht),g2,Hb⟩
  ·have hr:∀ x,r x=[]:=fun x=>by
    cases e:r x with
    |nil=>rfl
    |cons a t=>exact absurd ⟨x,a,Hl e Qb⟩ h
   have kN:cs=[]:=by
    cases cs with
    |nil=>rfl
    |cons c t =>
     obtain⟨s,t',rfl,_⟩:=Bq Qb
     have:=(IR s).mp (by rw[Wf];exact YF Qb)
     rw[hr]at this
     cases this
   refine⟨ns,λt h=>h,C.nd.imp λ{x y} h hc=>h (conn_iso (hr x) hc).symm,?_⟩
   have:∀l:List α,(EJ (vl r)).sum=4*(l.length:Int):=by
    intro l
    induction l with
    |nil=>rfl
    |cons a t ih2 =>
     rw[Qm,Zm,ih2,Qz]
     unfold vl
     rw[if_pos (hr a),hr a,Um]
     lia
   unfold tot
   rw[kN,this,Um]
   lia
def Web.inc(C:JI cs){c:List (α×α)}(hc:c∈cs){s:α×α}(hs:s∈c):s.1∈r s.2:=(IR s).mp (yg ⟨c,hc,hs⟩)
def Web.one_lab(C:JI cs)(la:∀ x y,y∈r x→a9 y=a9 x){c:List (α×α)}(hc:c∈cs){s u:α×α}(hs:s∈c)(hu:u∈c):a9 u.1=a9 s.1:=by
 obtain⟨A,B,rfl⟩:=Yq hs
 have k:=zc7 (C.cy _ hc)
 have hl:∀y,y=s∨y∈B++A→a9 (BQ y).1=a9 y.1:=λy hy=>by
  have cr:y∈A++s::B:=by
   rcases hy with z | z
   ·rw[z];exact hs
   ·rcases Ql.mp z with q | q
    ·exact WK (QZ q)
    ·exact YF q
  exact(la _ _ (BR cr)).symm
 rcases Ql.mp hu with z | z
 ·exact lk_lab (lb:=λy:α×α=>a9 y.1) hl k u (WK z)
 ·rcases Qh.mp z with q | q
  ·rw[q]
  ·exact lk_lab (lb:=λy:α×α=>a9 y.1) hl k u (YF q)
def sum_filter(p:β→Bool)(f:β→Int):∀l:List β,((l.filter p).map f).sum=(l.map λx=>if p x=true then f x else 0).sum:=by
 intro l
 induction l with
 |nil=>rfl
 |cons a t ih =>
  rw[Qm,Zm]
  by_cases h:p a=true
  ·rw[Zo h,if_pos h,Qm,Zm,ih]
  ·rw[Zp h,if_neg h,ih];lia
theorem ziy(p:List β→Bool):∀cs:List (List β),(cs.filter p).flatten.Sublist cs.flatten
 |[]=>List.Sublist.refl _
 | c::t=>by
  by_cases h:p c=true
  ·rw [Zo h,Wf,Wf]
   exact List.Sublist.append (List.Sublist.refl _) (ziy p t)
  ·rw [Zp h,Wf]
   exact(ziy p t).trans (List.sublist_append_right _ _)
def sum_two(p:β→Bool)(l:List β):(l.map λc=>if p c=true then(2:Int) else 0).sum=2*((l.filter p).length:Int):=by
 rw[←sum_filter p λ_=>2]
 induction l.filter p with
 |nil=>rfl
 |cons a t ih=>rw[Qm,Zm,ih,Qz];lia
def piece_le(C:JI cs)(la:∀ x y,y∈r x→a9 y=a9 x)(co:∀ x∈ns,∀ y∈ns,a9 x=a9 y→WW y)(t:α):W4 t+WX t≤4:=by
 let rt:α→List α:=λx=>if a9 x=t then r x else[]
 have r1:∀{x},a9 x=t→rt x=r x:=λh=>if_pos h
 have r0:∀{x},¬a9 x=t→rt x=[]:=λh=>if_neg h
 have rm:∀{x y},y∈rt x↔y∈r x∧a9 x=t:=λ{x y}=>by
  by_cases h:a9 x=t
  ·rw[r1 h];exact⟨λz=>⟨z,h⟩,λz=>z.1⟩
  ·rw[r0 h];exact⟨λz=>(by cases z),λz=>absurd z.2 h⟩
 have iQ:∀{c},c∈cs→(c.any λs=>decide (a9 s.1=t))=true→∀s∈c,a9 s.2=t:=λ{c} hc h s hs=>by
  obtain⟨q,hq,e⟩:=Yn.mp h
  rw[←la _ _ (BR hs),C.one_lab la hc hq hs]
  exact of_decide_eq_true e
 have W:Web (ns.filter λx=>decide (a9 x=t)) rt (cs.filter λc=>c.any λs=>decide (a9 s.1=t)):=by
  refine⟨C.nd.filter _,λx hx=>?_,λx=>?_,λx h=>C.ir x (rm.mp h).1,λx y h=>?_,Yx (ziy _ cs) C.cf,λs=>?_,λc hc=>?_⟩
  ·by_cases h:a9 x=t
   ·rw [r1 h]
    exact C.ro x λz=>hx (yn ⟨z,HY h⟩)
   ·exact r0 h
  ·by_cases h:a9 x=t
   ·rw[r1 h];exact C.rn x
   ·rw[r0 h];exact Zn
  ·obtain ⟨h1,h2⟩:=rm.mp h
   exact rm.mpr ⟨UH h1,(la _ _ h1).trans h2⟩
  ·rw [rm]
   constructor
   ·intro h
    obtain⟨c,hc,hs⟩:=Zu.mp h
    obtain⟨h1,h2⟩:=Zd.mp hc
    exact⟨C.inc h1 hs,iQ h1 h2 s hs⟩
   ·rintro ⟨h1,h2⟩
    obtain⟨c,hc,hs⟩:=Zu.mp ((IR s).mpr h1)
    exact Zu.mpr ⟨c,yn ⟨hc,Yn.mpr ⟨s,hs,HY ((la _ _ h1).trans h2)⟩⟩,hs⟩
  ·obtain ⟨h1,h2⟩:=Zd.mp hc
   refine ze7 (λy hy=>?_) (Bq h1)
   show(y.2,nxt (rt y.2) y.1)=(y.2,nxt (r y.2) y.1)
   rw[r1 (iQ h1 h2 y hy)]
 have e1:((ns.filter λx=>decide (a9 x=t)).map (vl rt)).sum=W4 t:=by
  rw[sum_filter]
  refine zcl λx _=>?_
  by_cases h:a9 x=t
  ·rw [Si (HY h),Si h]
   unfold vl
   rw[r1 h]
  ·rw[if_neg (He h),if_neg h]
 have e2:=sum_two (λc:List (α×α)=>c.any λs=>decide (a9 s.1=t)) cs
 obtain⟨T,h1,h2,h3⟩:=genus _ W rfl
 unfold tot at h3
 rw[e1,←e2]at h3
 have hl:T.length≤1:=by
  match T,h1,h2 with
  |[],_,_=>exact Zc _
  |[_],_,_=>exact Qe _
  | a::b::T',h1,h2 =>
   obtain⟨a1,a2⟩:=Zd.mp (h1 a Qb)
   obtain⟨b1,b2⟩:=Zd.mp (h1 b Ha)
   have a2:=of_decide_eq_true a2
   have b2:=of_decide_eq_true b2
   have key:∀{y},Conn r a y→Conn rt a y∧a9 y=t:=λ{y} h=>by
    induction h with
    |refl=>exact⟨.refl,a2⟩
    |step _ hz ih=>exact⟨.step ih.1 (rm.mpr ⟨hz,ih.2⟩),(la _ _ hz).trans ih.2⟩
   exact absurd (key (co a a1 b b1 (a2.trans b2.symm))).1 ((Ju.mp h2).1 b Qb)
 have:W4 t+WX t≤4*(T.length:Int):=h3
 lia
def tot_sum(C:JI cs)(la:∀ x y,y∈r x→a9 y=a9 x){L:List α}(h1:L.Nodup)(h2:∀ x∈ns,a9 x∈L):(L.map fun l=>W4 l+WX l).sum=BY r cs:=by
 have e1:(L.map λl=>W4 l).sum=(ns.map (vl r)).sum:=Dv h2
 have e2:(L.map λl=>WX l).sum=2*(cs.length:Int):=by
  have key:∀D:List (S1 (α×α)),(∀c∈D,c∈cs)→(L.map λl=>F' l).sum=2*(D.length:Int):=by
   intro D
   induction D with
   |nil=>intro _;exact zd2 λ_ _=>rfl
   | cons c D ih =>
    intro h
    have hc:=h c Qb
    obtain⟨s,t,rfl,_⟩:=Bq hc
    have ha:a9 s.1∈L:=h2 _ (IS (UH (BR Qb)))
    have hs:∀l∈L,ct ((s::t)::D) a9 l=(if a9 s.1=l then 2 else 0)+F' l:=λl _=>by
     rw[zdz,zd1 (λu hu=>C.one_lab la hc Qb hu) yl]
     congr 1
     by_cases e:a9 s.1=l
     ·rw[if_pos e,if_pos (HY e)]
     ·rw[if_neg e,if_neg (λz=>e (LV z))]
    rw[zcl hs,zf7,sum_one h1 ha,ih λd hd=>h d (QZ hd),Qz];lia
  exact key cs λ_ h=>h
 rw[zf7,e1,e2]
 rfl
def all_four{g:α→Int}:∀ {L:List α},(∀ l∈L,g l≤4)→4*(L.length:Int)≤(L.map g).sum→∀ l∈L,g l=4:=by
 intro L
 induction L with
 |nil=>intro _ _ l hl;cases hl
 | cons a t ih =>
  intro h hs l hl
  rw[Qm,Zm,Qz]at hs
  have ha:=h a Qb
  have ht:(t.map g).sum≤4*(t.length:Int):=by
   clear ih hs hl ha
   induction t with
   |nil=>exact Int.le_refl _
   |cons b t ih =>
    rw[Qm,Zm,Qz]
    have:=h b Ha
    have:=ih λx hx=>h x (by rcases Qh.mp hx with z | z<;>simp[z])
    lia
  rcases Qh.mp hl with z | z
  ·rw[z];lia
  ·exact ih (λx hx=>h x Ca) Hb l z
def flat_cert(F:FZ r cs):∃a9,QT a9:=by
 have C:=F.toWeb
 let f:α→Option α:=λx=>ns.find? λy=>@decide (WW y) Sh
 have hf:∀{x},x∈ns→∃y,f x=some y∧y∈ns∧WW y:=λ{x} hx=>by
  cases e:f x with
  |none=>exact absurd (@decide_eq_true _ Sh (Conn.refl (r:=r) (x:=x))) (List.find?_eq_none.mp e x hx)
  |some y =>
   have h:=List.find?_some (p:=λy=>@decide (WW y) Sh) e
   exact⟨y,rfl,List.mem_of_find?_eq_some e,@of_decide_eq_true _ Sh h⟩
 have hs:∀{x y},WW y→f x=f y:=λ{x y} h=>by
  show ns.find? _=ns.find? _
  congr 1
  funext z
  congr 1
  exact propext ⟨λq=>(h.symm C.sy).trans q,λq=>h.trans q⟩
 let a9:α→α:=λx=>(f x).getD x
 have hl:∀{x},x∈ns→a9 x∈ns∧WW (a9 x):=λ{x} hx=>by
  obtain⟨y,e,h1,h2⟩:=hf hx
  show(f x).getD x∈ns∧WW ((f x).getD x)
  rw[e];exact⟨h1,h2⟩
 have he:∀{x y},x∈ns→y∈ns→WW y→a9 x=a9 y:=λ{x y} hx hy h=>by
  obtain⟨z,e,_⟩:=hf hy
  show(f x).getD x=(f y).getD y
  rw[hs h,e];rfl
 have la:∀x y,y∈r x→a9 y=a9 x:=λx y h=>(he (IS h) (IS (UH h)) (.step .refl h)).symm
 have co:∀x∈ns,∀y∈ns,a9 x=a9 y→WW y:=λx hx y hy e=>by
  have h1:=(hl hx).2
  rw[e]at h1
  exact h1.trans ((hl hy).2.symm C.sy)
 obtain⟨L,h1,h2,h3⟩:=labels a9 ns
 have hL:∀l∈L,l∈ns∧a9 l=l:=λl hl'=>by
  obtain⟨x,hx,e⟩:=h3 l hl'
  obtain⟨a,b⟩:=hl hx
  refine⟨e▸a,?_⟩
  have:=he hx a b
  rw[e]at this
  exact this.symm
 have fl:=F.fl L (λl h=>(hL l h).1) (Xd (λ{x y} hx hy sY hc=>sY (by
  have:=he (hL x hx).1 (hL y hy).1 hc
  rwa[(hL x hx).2,(hL y hy).2]at this)) h1)
 rw[←tot_sum C la h1 h2]at fl
 have four:=all_four (λl _=>piece_le C la co l) fl
 exact⟨a9,C.nd,C.ro,C.rn,C.ir,C.sy,C.cf,C.cm,C.cy,λx hx=>(hl hx).1,la,co,λx hx=>four _ (h2 x hx)⟩
def cert_less(C:QT a9)(L:XT u):∃cs' ah,Cert ns r' cs' ah:=by
 obtain⟨cs',F⟩:=flat_less (cert_flat C) L
 obtain⟨ah,C'⟩:=flat_cert F
 exact⟨cs',ah,C'⟩
end
section
variable{α:Type}[DecidableEq α]
def good_less{rs r1:Rs α}{u v:α}(G:Good rs)(h:u∈Bo v)(hn:r1.map (·.1)=rs.map (·.1))(hv:row r1 v=(Bo v).erase u)(hu:row r1 u=(Bo u).erase v)(ho:∀y,y≠v→y≠u→row r1 y=Bo y):Good r1:=by
 obtain⟨cs,a9,C⟩:=G
 obtain⟨cs',ah,C'⟩:=cert_less C (v:=v) (u:=u) (r':=row r1) ⟨h,hv,hu,ho⟩
 exact⟨cs',ah,Hl hn C'⟩
end
end Wb
namespace K21
open PySem L2 Wb
abbrev sUntied:Stmt:=top 53
def ndUb:(["_law_place",qO]:List Str).Nodup:=by decide +kernel
def ndUc:(["_law_place", "_law_one_here"]:List Str).Nodup:=by decide +kernel
def zht{l:Nh}{x:Str}(nd:l.Nodup):(l.map V.str).filter (λv=>!decide (v=V.str x))=(l.erase x).map V.str:=by
 rw[nd.erase_eq_filter,Uo]
 congr 1
 refine Jc λa _=>?_
 show(!decide (V.str a=V.str x))=(a != x)
 by_cases h:a=x
 ·rw[h,decide_eq_true rfl,bne_self_eq_false];rfl
 ·rw [decide_eq_false (fun z=>h (by injection z))]
  exact(bne_iff_ne.mpr h).symm
section
variable{P:Nk}{w:Nn}{K:Na}{mg:Ng}{base:Np}
def zde:zaj [qR,qP, "_law_some", "_law_one_here",qO] [qR,qP] (zai sUntied):=fsk
def ok_untied(F:QE "_law_untied" "_law_untied" sUntied f fd)(GT:ZF "_law_take" [qP,qM] 1 zf9)(ae:mg "len" = none):ZB 2 f fd [qR,qP] zga:=by
 refine F.okL zde (λcdv A outer s0 H0 vs Q E hr h=>?_)
 obtain⟨p,d,b,m,es,rfl,hp,D0,kq⟩:=h
 have R:=D0.ra
 have aH:=D0.few
 have hu:=zb6 hr
 have dY:=Kz hu
 have ai:BJ _:=hr.mono Hf
 have ap:=sizeLine_eq
 refine⟨_,zad (zgf (ps_lc (i:=2) (M:=["_law_place",qR]) (ix:=[none,Hs 0]) zde.nd rfl rfl (mkB zde) rfl Pr (λC a5 ex s H=>UN ndCr)
    (λC a5 ex s H=>zci (zar (zhm (K:=K) rfl dY) (Aq (by exact hu) R6) SN Sq)) RG rfl))
  (zag (zbn (Vg Sc SN Sq)
   (zad (zgg (i:=3) zde.nd rfl TY (S9 Sc (Oe zo)))
   (zad (zgg (i:=4) zde.nd rfl TY Od)
   (zad (MX RX (zff (M:=["_law_place",qO]) (ix:=[none,Hs 4]) (mkB zde) rfl (IP (QV RX)) (λC a5 ex s H=>UN ndUb)
     (λC a5 ex s H=>zci (BS R6 Rj Sq)) RG) rfl)
   (zag (MX Sd (zff (M:=["_law_place", "_law_one_here"]) (ix:=[none,Hs 3]) (mkB zde) rfl (IP (QV Sd)) (λC a5 ex s H=>UN ndUc)
     (λC a5 ex s H=>zci (BS R6 Rj Sq)) RG) rfl)))))
   zap)),?_⟩
 have nfz:∀o' u',H0 d≠some Te:=λo' u' z=>by rw[R.dc]at z;cases z
 refine zgt (λ σ' H2=>Ex2 λ(D:Nc) (G:Nh)=>Aj5 (σ'=[Tf,zj,Hc D,none,none]) (H2 D=some Lr) (∀y,y∈G→∃e∈es,e.1=y∧e.2.1≠[]) (G.length≤16) (Keep [] H0 H2)) (λD' bA=>some_ok R aH nfz λD G H' a b c k=>bA _ _ ⟨D,G,rfl,a,b,c,k⟩) ?_
 rintro σ' H2 ⟨D,G,rfl,dL,hG,l9,k2⟩
 dsimp only
 have D2:=D0.k0 k2
 have cX:=hp.keep k2 Ha
 have none':∀(b1 m1:Int) (H1:Hp),Pot H1 p b1 m1→DrE H1 d es→Keep [p] H0 H1→Q .non H1:=λb1 m1 H1 gY D1 k1=>kq b1 m1 es H1 gY D1 rfl (k1.sub Ha)
 refine⟨wI,Lq,λq hq=>?_⟩
 have nDq:D≠q:=zac dL hq
 refine⟨D,q,wI,rfl,Hk (by rw[zaf nDq];exact dL),TQ,wI,?_⟩
 have k3:Keep [] H2 (QA q HL):=Keep.new hq
 have cz:=(zaf (o:=.lst []) nDq).trans dL
 generalize QA q HL=H3 at k3 cz
 have D3:=D2.k0 k3
 have cH:=cX.keep k3 Ha
 have dS:=k2.trans k3
 rw[if_pos rfl]
 cases G with
 |nil=>exact WG IV
 | cons g0 gt =>
  refine W8 ?_
  generalize va:g0::gt=G at cz hG l9
  have hGp:0<G.length:=by rw[←va];simp
  have aN:(G.map V.str).length=G.length:=Qa ..
  refine⟨wI,wI,wI,D,wI,SS cz,p,b,m,wI,cH,E9,E9,λj4 b4 m4 H4 lh qb bU jF=>?_⟩
  obtain⟨j4,rfl⟩:=Zq lh
  rw[aN]at qb
  have oO:j4<G.length:=by lia
  have k4:=zbh jF
  have mh:=k4 _ _ cz (by simpa using zgh cH cz)
  have D4:=D3.pot cH k4
  have dR:Keep [p] H0 H4:=(dS.sub Ha).trans k4
  refine⟨D,_,_,wI,rfl,Hk mh,zaw (by rw[Qo,Qd oO];rfl),?_⟩
  obtain⟨e0,cO,vq,kr⟩:=hG G[j4] (Qr oO)
  rw[←vq]
  have g4:Du Ii:=zb7 D4.ra.nd cO▸DGet.k (k:=Sum.inr e0.1) D4.ra.dc
  have fS:=D4.ra.ro e0 cO
  have tT:=D4.row e0 cO
  have jR:0<e0.2.1.length:=Uv.mpr kr
  have cM:(e0.2.1.map V.str).length=e0.2.1.length:=Qa ..
  refine⟨wI,wI,d,wI,g4,wI,wI,wI,d,wI,g4,e0.2.2,wI,SS fS,p,b4,m4,wI,bU,HH cM,HH cM,λj5 b5 m5 H5 lg mq aT gO=>?_⟩
  obtain⟨j5,rfl⟩:=Zq lg
  rw[cM]at mq
  have oN:j5<e0.2.1.length:=by lia
  have k5:=zbh gO
  have D5:=D4.pot bU k5
  have fR:=D5.ra.ro e0 cO
  have gR:=dR.trans k5
  refine⟨e0.2.2,_,_,wI,rfl,Hk fR,zaw (by rw[Qo,Qd oN];rfl),?_⟩
  obtain⟨cs,a9,C⟩:=D5.cert
  have hJ:e0.2.1[j5]∈e0.2.1:=Qr oN
  have o4:e0.2.1[j5]∈ZK e0.1:=by rw[JH cO];exact hJ
  generalize e0.2.1[j5]=ot at hJ o4
  obtain⟨e1,bw,q1⟩:=Qf.mp (C9 o4)
  have cC:e1.1=ot:=q1
  subst cC
  have aZ:∀e∈es,e.2.1.Nodup:=λe he=>by have:=C.rn e.1;rw[JH he]at this;exact this
  have n01:e0.1≠e1.1:=λz=>by
   have:=C.ir e0.1
   rw[JH cO]at this
   exact this (z▸hJ)
  have ndp:p≠d:=Zl (pot_nd aT D5.ra.dc)
  have g5:DGet H5 d (.str e0.1) Ii:=zb7 D5.ra.nd cO▸DGet.k (k:=Sum.inr e0.1) D5.ra.dc
  refine⟨wI,wI,d,wI,g5,e0.2.2,rfl,⟨_,Hk fR⟩,zep (xs:=e0.2.1.map V.str) (λ τ=>∃x0,τ=[x0,Hs Tc]) (λv=>!decide (v=V.str e1.1)) (Hk fR) (HH cM) ⟨none,rfl⟩ ?_ (λl6 cN=>?_)⟩
  ·rintro x hx τ ⟨x0,rfl⟩ kk1 kk0 iH oI
   obtain⟨a,ha,rfl⟩:=Qf.mp hx
   refine⟨wI,wI,rfl,wI,?_⟩
   show if(!decide (V.str a=V.str e1.1))=true then _ else _
   cases hb:(!decide (V.str a=V.str e1.1)) with
   |true=>exact W8 ⟨_,rfl,iH hb _ ⟨_,rfl⟩⟩
   |false=>exact WG (oI hb _ ⟨_,rfl⟩)
  rw[zht (aZ e0 cO)]
  have k6:Keep [] H5 (wg l6 ((e0.2.1.erase e1.1).map V.str)):=Keep.new cN
  have g6:(wg l6 ((e0.2.1.erase e1.1).map V.str)) l6=some (Hr ((e0.2.1.erase e1.1).map V.str)):=zab
  generalize QP l6 (Hr ((e0.2.1.erase e1.1).map V.str))=H6 at k6 g6
  have D6:=D5.k0 k6
  have bn:=aT.keep k6 Ha
  refine⟨wI,wI,d,wI,DPut.k (k:=Sum.inr e0.1) D6.ra.dc Ce,?_⟩
  have R7:=rat_set D6.ra (La ⟨e0,cO,rfl⟩) g6
  have k7:Keep [d] H6 (WD d wn):=Keep.wr Qb
  generalize WD d wn=H7 at R7 k7
  have bm:=bn.keep k7 (He ndp)
  have kM:e1∈U1 e0.1 E6 l6:=mem_setE bw (Zl n01)
  have g7:DGet H7 d Tc Ij:=zb7 R7.nd kM▸DGet.k (k:=Sum.inr e1.1) R7.dc
  have nU:=R7.ro e1 kM
  have hrl1:=D6.row e1 bw
  have ux:(e1.2.1.map V.str).length=e1.2.1.length:=Qa ..
  refine⟨wI,wI,d,wI,g7,e1.2.2,rfl,⟨_,Hk nU⟩,zep (xs:=e1.2.1.map V.str) (λ τ=>∃x0,τ=[x0,Hs (.str e0.1)]) (λv=>!decide (v=V.str e0.1)) (Hk nU) (HH ux) ⟨none,rfl⟩ ?_ (λl8 lU=>?_)⟩
  ·rintro x hx τ ⟨x0,rfl⟩ kk1 kk0 iH oI
   obtain⟨a,ha,rfl⟩:=Qf.mp hx
   refine⟨wI,wI,rfl,wI,?_⟩
   show if(!decide (V.str a=V.str e0.1))=true then _ else _
   cases hb:(!decide (V.str a=V.str e0.1)) with
   |true=>exact W8 ⟨_,rfl,iH hb _ ⟨_,rfl⟩⟩
   |false=>exact WG (oI hb _ ⟨_,rfl⟩)
  rw[zht (aZ e1 bw)]
  have k8:Keep [] H7 (US l8 (Hr ((e1.2.1.erase e0.1).map V.str))):=Keep.new lU
  have g8:(US l8 (Hr ((e1.2.1.erase e0.1).map V.str))) l8=some (Hr ((e1.2.1.erase e0.1).map V.str)):=zab
  generalize US l8 (Hr ((e1.2.1.erase e0.1).map V.str))=H8 at k8 g8
  have R8:RAt H8 d _:=R7.keep k8 Ha λ_ _=>by simp
  have c9:=bm.keep k8 Ha
  refine⟨wI,wI,d,wI,DPut.k (k:=Sum.inr e1.1) R8.dc (by unfold setE;rw[List.length_map,List.length_map];lia),?_⟩
  have R9:=rat_set R8 (La ⟨e1,kM,rfl⟩) g8
  have k9:Keep [d] H8 (BI d (.dK (putK ((U1 e0.1 E6 l6).map λe=>Rr) (Sum.inr e1.1) (Hi l8)))):=Keep.wr Qb
  generalize BI d (.dK (putK ((U1 e0.1 E6 l6).map λe=>Rr) (Sum.inr e1.1) (Hi l8)))=H9 at R9 k9
  refine kq b5 m5 _ H9 (c9.keep k9 (He ndp)) ⟨R9,?_,by unfold setE;rw[List.length_map,List.length_map];exact aH⟩ (by rw[zca,zca]) (((((gR.sub Ha).trans LW).trans Oy).trans (k8.sub Ha)).trans ES)
  rw[zc6,zc6]
  have h0n:e0.1∈(Lh es).map (·.1):=by rw[zbq];exact Qf.mpr ⟨e0,cO,rfl⟩
  have h1n:e1.1∈(Lh es).map (·.1):=by rw[zbq];exact Qf.mpr ⟨e1,bw,rfl⟩
  refine good_less D5.gd (v:=e0.1) (u:=e1.1) o4 (by rw[zby,zby]) ?_ ?_ λy h1 h2=>by rw[za9 h2,za9 h1]
  ·rw[za9 n01,zbi h0n,JH cO]
  ·rw[zbi (Hl zby h1n),JH bw]
end
end K21
end
section
namespace L2
open PySem PySem.Spec PyProof.Rows
section
variable{M:Model}{A:Nq}{E:Nd}{s:Nj}{B:Np}{env:Env}{outer:List Env}{L e:Nc}{cls a0:Value}{R:Obj→Prop}{Q:Unit→Shared→Prop}
end
section
variable{P:Nk}{w:Nn}{K:Na}{mg:Ng}{base:Np}{N ps:Nh}{qual:Str}{scope:Scope}{f:Nc}{cd:Value}{A:Nq}{outer:List Env}{s:Nj}{H:Hp}{E:XK}
end
section
variable{X:Cx}{CX:CXT}{k:Nat}{f C:Nc}{fd:Nw}{ps:Nh}{sp:Sp}{dvs:List V}{ds:Nl}{E:St→XK}{x m:Str}{p pos apos:Pos}{e o:Expr}{es:Nt}{ta:TE}{t:TA}
end
section
variable{X:Cx}{a5:Ni}{σ:St}{H:Hp}{s:Nj}{E:Nd}{a:Nc}
end
end L2
end
section
namespace L2
open PySem PySem.Spec PyProof.Rows PySem.W PySem.Builtin PySem.Builtin.ObjectAttr PySem.Builtin.Getset_descriptor
section
variable{prog:Nk}{w:Nn}{A:Nq}{E:Nd}{s:Nj}{K:Na}{x D:Nc}
end
section
variable{X:Cx}
end
section
variable{X:Cx}{k:Nat}{f:Nc}{fd:Nw}{ps:Nh}{sp:Sp}{dvs:List V}{ds:Nl}{x:Str}{p pos:Pos}{e:Expr}{es:Nt}{t:TA}
end
end L2
end
section
namespace L2
open PySem PySem.Spec PyProof.Rows
section
variable{X:Cx}
end
end L2
end
section
namespace K21
open PySem L2 Wb
abbrev sNames:Stmt:=top 45
abbrev iV(n:Nat):V:=.int (n:Int)
abbrev qwe:Str := "qwertyuiopasdfghjklzxcvbnm"
def qL(i:Nat):Nat:=qwe.cps.toList.getD i 0
def bitF:Nat→Nat→List Nat
 |0,_=>[]
 |f+1,n=>if n=0 then[] else FC ((n-1)/2)++[(n-1)%2]
theorem bitF_zero:∀f,FC 0=[]
 |0=>rfl
 |_+1=>rfl
def bit_nd:((Se 42).map λi=>bitF i i).Nodup:=by decide +kernel
def bit_ok:∀i<42,(bitF i i).length≤8∧(1≤i→1≤(bitF i i).length)∧∀c∈bitF i i,c<2:=by decide +kernel
def stepS:List Nat:=[1,3,5,7,9,11]
def qL_ok:∀i<26,97≤qL i∧qL i≤122:=by decide +kernel
def qL_nd:((Se 26).map qL).Nodup:=by decide +kernel
def qL_inj{a b:Nat}(ha:a<26)(hb:b<26)(h:qL a=qL b):a=b:=by
 refine(We (h₀:=by rw[Qa,Yo];exact ha) (h₁:=by rw[Qa,Yo];exact hb) qL_nd).mp ?_
 rw[Zk,Zk,Uh,Uh]
 exact h
def qwe_len:qwe.length=26:=by decide +kernel
def str_len(z:Str):z.cps.toList.length=z.length:=by simp[Str.length]
def zi2(a b:Str):(a++b).cps.toList=a.cps.toList++b.cps.toList:=by
 show(a.cps++b.cps).toList=_
 simp
def app_len(a b:Str):(a++b).length=a.length+b.length:=by
 rw[←str_len,←str_len,←str_len,zi2,Qw]
def qL_at{x:Nat}(h:x<26):KY (x:Int)=some (qL x):=by
 refine zaw ?_
 have hl:qwe.cps.toList.length=26:=by rw[str_len];exact qwe_len
 unfold qL
 rw[Zf,Qd Hb];rfl
def step_inj{s b a c:Nat}(hs:s∈stepS)(ha:a<26)(hc:c<26)(h:(b+s*a)%26=(b+s*c)%26):a=c:=by
 simp[stepS]at hs
 rcases hs with rfl | rfl | rfl | rfl | rfl | rfl<;>lia
def wrd(b s n:Nat):List Nat:=(bitF n n).map λd=>qL ((b+s*d)%26)
theorem zhq:∀{l m:List Nat},(∀x∈l,∀y∈m,f x=f y→x=y)→l.map f=m.map f→l=m
 |[],[],_,_=>rfl
 |[],_::_,_,h=>by cases h
 |_::_,[],_,h=>by cases h
 |x::l,y::m,i,h=>by
  rw[Qm,Qm]at h
  injection h with h1 h2
  rw[i x Qb y Qb h1,zhq (λa ha c hc=>i a (QZ ha) c (QZ hc)) h2]
def wrd_inj{b s m n:Nat}(hs:s∈stepS)(hm:m<42)(hn:n<42)(h:Dd m=Dd n):m=n:=by
 have e:bitF m m=bitF n n:=zhq (λx hx y hy z=>by
  have h1:=(bit_ok m hm).2.2 x hx
  have h2:=(bit_ok n hn).2.2 y hy
  exact step_inj (b:=b) hs Hb Hb (qL_inj A6 A6 z)) h
 refine(We (h₀:=by rw[Qa,Yo];exact hm) (h₁:=by rw[Qa,Yo];exact hn) bit_nd).mp ?_
 rw[Zk,Zk,Uh,Uh]
 exact e
def wrd_ok{b s n:Nat}(hn:n<42)(h1:1≤n):1≤(Dd n).length∧(Dd n).length≤8∧∀c∈Dd n,97≤c∧c≤122:=by
 unfold wrd
 rw[Qa]
 refine⟨(bit_ok n hn).2.1 h1,(bit_ok n hn).1,λc hc=>?_⟩
 obtain⟨d,_,rfl⟩:=Qf.mp hc
 exact qL_ok _ A6
theorem mul_cps(c:Nat):∀n:Nat,n≤8→(Txt.mul (⟨#[c]⟩:Str) (n:Int)).cps.toList=Gn c
 |0,_=>rfl
 |1,_=>rfl
 |2,_=>rfl
 |3,_=>rfl
 |4,_=>rfl
 |5,_=>rfl
 |6,_=>rfl
 |7,_=>rfl
 |8,_=>rfl
 |n+9,h=>by lia
inductive IspNames(vs:List V)(H:Hp)(Q:VK):Prop
 |mk (p:Nc) (b m:Int) (n:Nat) (h0:vs=[.ref p,iV n]) (h1:Pot H p b m) (h2:n≤16) (h3:∀(l:Nc) (zs:Nh) (b' m':Int) (H':Hp),H' l=some (.lst (zs.map V.str))→zs.length=n→zs.Nodup→(∀z∈zs,zfv z)→Pot H' p b' m'→H l=none→Keep [p] H H'→Q (.ref l) H'):IspNames vs H Q
def spNames:Sp:=λvs H Q _=>IspNames vs H Q
section
variable{P:Nk}{w:Nn}{K:Na}{mg:Ng}{base:Np}
def zch:zaj [qP,qM, "_law_letters", "_law_step", "_law_begin", "_law_found", "_law_k", "_law_word", "_law_number", "_law_digit", "_law_sign"] [qP,qM] (zai sNames):=fsk
def ok_names(F:QE "_law_names" "_law_names" sNames f fd)(GT:ZF "_law_take" [qP,qM] 1 zf9)(aG:mg "range" = none)(dm:mg "divmod" = none):ZB 2 f fd [qP,qM] spNames:=by
 refine F.okL zch Hn
 obtain⟨p,b,m,n,rfl,hp,hn,k⟩:=h
 have ap:=sizeLine_eq
 have ai:BJ _:=hr.mono Hf
 refine⟨_,zad (Ve zch.nd pe_str)
  (zad (Br zch.nd (QI (za8 (Q4 (Q4 (Q4 (Q4 (Q4 SY)))))) CC Hq))
  (zad (Bb zch.nd CC)
  (zad (XR zch.nd SN)
  (zad (zbn (Bd CC zah Sq)
   (zad (Z4 (U7 SH) (XC zch.nd)
    (zad (Nz zch.nd pe_str)
    (zad (zan 8 zch.nd (Ed (WV Sd Tx)))
    (zad (Mx (Gr Em zah Sq)
     (zad (zcz (zal zg2 HQ dm PyProof.Rows.boot_divmod (zaa (Be Em zah) SY)) (Cv (zam 8 zch.nd) (TH (zam 9 zch.nd))))
     (zag (Nz zch.nd (za2 zho (FD Sc (X6 (WV Sd (Vf RX (pv 9))) zah) Hq) En)))))
    (zag (Cz So (U6 zae)))))))
   (zag IZ)) zap)
  (zad (Z4 (U7 SH) (XC zch.nd)
   (zad (zan 10 zch.nd (FD pe_str CC Hq))
   (zag (Cz So (Rx (za2 zho (FD zq (X6 (WV Pu (Vf Pz Tx)) zah) Hq) (za2 op_mul_str (pv 10) (QO wo))))))))
  (zag IZ)))))),?_⟩
 refine⟨(Hd 6),λq hq=>?_⟩
 have k1:Keep [] H (ZX q (.lst [HM 1,HM 3,HM 5,HM 7,HM 9,HM 11])):=Keep.new hq
 have dz:(ZX q (.lst [HM 1,HM 3,HM 5,HM 7,HM 9,HM 11])) q=some (.lst [HM 1,HM 3,HM 5,HM 7,HM 9,HM 11]):=zab
 have nqp:q≠p:=Zl (zac hp.1 hq)
 generalize ZX q (.lst [HM 1,HM 3,HM 5,HM 7,HM 9,HM 11])=H1 at k1 dz
 have gY:=hp.keep k1 Ha
 refine⟨wI,p,b,m,6,rfl,gY,Hf,Hf,λd2 b2 m2 H2 h20 h21 cX kp2=>?_⟩
 have cG:=kp2 _ _ dz nqp
 have k2:Keep [p] H H2:=(k1.sub Ha).trans (zbh kp2)
 obtain⟨st,eS,ar⟩:∃st:Nat,atI [S7 1,S7 3,S7 5,S7 7,S7 9,S7 11] d2=some (iV st)∧st∈stepS:=by
  obtain⟨jn,rfl⟩:=Zq h20
  have hj:jn<6:=by lia
  have:∀j:Fin 6,∃bb∈stepS,[S7 1,S7 3,S7 5,S7 7,S7 9,S7 11][j.1]?=some (iV bb):=by decide
  obtain⟨bb,h1,h2⟩:=this ⟨jn,hj⟩
  exact⟨bb,zaw h2,h1⟩
 have hst2:st≤11:=by
  have:∀x∈stepS,x≤11:=by decide
  exact this st ar
 refine⟨q,_,_,iV st,rfl,rfl,Hk cG,eS,?_⟩
 refine⟨wI,p,b2,m2,26,rfl,cX,Hf,Hf,λd3 b3 m3 H3 h30 h31 cH sJ=>?_⟩
 obtain⟨bg,rfl⟩:=Zq h30
 have hbg:bg<26:=by lia
 have k3:=k2.trans (zbh sJ)
 refine⟨Lq,λl hl=>?_⟩
 have nlp:l≠p:=Zl (zac cH.1 hl)
 have flH:H l=none:=zao k3 hl IW
 have k4:Keep [p] H (QS l HL):=k3.trans A4
 have bU:Pot (QS l HL) p b3 m3:=cH.keep (xs:=[]) A4 Ha
 have cx:(QS l HL) l=some (Hr (([]:List Str).map V.str)):=zab
 generalize QS l HL=H4 at k4 bU cx
 refine⟨wI,p,b3,m3,3,rfl,bU,Hf,Hf,λd5 b5 m5 H5 lg mq aT gO=>?_⟩
 have k5:=k4.trans (zbh gO)
 have cj:=gO _ _ cx nlp
 refine⟨rfl,wI,?_⟩
 have oh:∀{zs:Nh} {i:Nat},zs.length=i→i<n→(zs.map V.str).length<sizeLine:=λh1 h2=>by rw[Qa];lia
 refine ite2 (λ_=>?_) (λ_=>?_)
 ·refine ⟨_,rfl,(n:Int),rfl,Hb,Hb,?_⟩
  rw[Wy]
  refine zcq (lo:=0) (λi σ H'=>Aj4 (Ex5 λx6 x7 x8 x9 iT=>σ=[zj,Ew n,Sx qwe,Ew st,Ew bg,Es,x6,x7,x8,x9,iT]) (Keep [p] H H') (Mr b5 m5) (Ex1 λzs:List Str=>Aj2 (H' l=some EX) (zs.map (·.cps.toList)=(Se i).map (λk=>Gv (bg+k+1)))))
   ⟨⟨_,_,_,_,_,rfl⟩,k5,aT,[],cj,rfl⟩ ?_ ?_
  ·rintro i σ H7 hi ⟨⟨x6,x7,x8,x9,iT,rfl⟩,k7,bm,zs,bd,cS⟩
   have bJ:zs.length=i:=by
    have:=congrArg List.length cS
    rwa[Qa,Qa,Yo]at this
   refine⟨wI,wI,_,wI,rfl,_,wI,rfl,?_⟩
   have e8:(bg:Int)+(0+(i:Int))+1=((bg+i+1:Nat):Int):=by lia
   rw[e8]
   refine⟨λm σ H'=>Ex3 λ(c f:Nat) (z:Str)=>Aj7 (m=c) (Ex1 λx9=>σ=[zj,Ew n,Sx qwe,Ew st,Ew bg,Es,RZ (0+(i:Int)),Sx z,Ew c,x9,iT]) (Rl H7) (c≤f) ((FC c).map (λd=>qL ((bg+st*d)%26))++z.cps.toList=Gv (bg+i+1)) (z.length+c≤bg+i+1) True,
    ⟨bg+i+1,bg+i+1,bg+i+1, "",rfl,⟨_,rfl⟩,Keep.refl,Hx,by show _++[]=_;rw[Zs];rfl,by show 0+_≤_;lia,trivial⟩,?_⟩
   rintro m σ H8 ⟨c,f,z,rfl,⟨x9,rfl⟩,k8,hcf,he,hzl2,_⟩
   refine⟨wI,_,wI,rfl,wI,?_⟩
   by_cases h0:m=0
   ·subst h0
    refine za7 (Su Hb) ?_
    rw[bitF_zero]at he
    refine⟨wI,RC (k8 _ _ bd Ha),wI,l,_,wI,rfl,k8 _ _ bd Ha,oh bJ hi,?_⟩
    refine⟨⟨_,_,_,_,wI⟩,λc u ec hc=>by rw[zaf (WM flH)];exact k8 _ _ (k7 c u ec hc) Ha,(bm.keep k8 Ha).keep (xs:=[l]) Sm (by simpa using Zl nlp),zs++[z],by rw[zab,Qq];rfl,?_⟩
    rw[Qq,cS,List.range_succ,Qq,Qm,Qm,←he];rfl
   ·refine zbf (HY Hb) ?_
    cases f with
    |zero=>lia
    | succ f =>
     have e1:(m:Int)-1=((m-1:Nat):Int):=by lia
     have e2:((m:Int)-1)/2=(((m-1)/2:Nat):Int):=by lia
     have e3:((m:Int)-1)%2=(((m-1)%2:Nat):Int):=by lia
     have cb:(m-1)%2<2:=DR Hf
     refine⟨_,λ σ' H' z=>z,?_⟩
     refine⟨wI,_,wI,rfl,_,wI,⟨Hf,Hf⟩,λt ht=>?_⟩
     rw[e2,e3]
     have ig:(bg+st*((m-1)%2))%26<26:=DR Hf
     have eS:KY (((bg:Int)+(st:Int)*(((m-1)%2:Nat):Int))%26)=some (qL ((bg+st*((m-1)%2))%26)):=by
      rw[←Int.natCast_mul,←Int.natCast_add]
      exact qL_at ig
     refine⟨t,wI,Rk zab,rfl,_,wI,_,wI,rfl,?_⟩
     refine⟨wI,wI,wI,wI,_,wI,rfl,RH ⟨Hb,Hb⟩,_,wI,rfl,_,wI,rfl,Hf,_,_,wI,rfl,by rw[qwe_len];lia,eS,wI,_,wI,rfl,by show 1+z.length≤sizeLine;lia,?_⟩
     refine⟨(m-1)/2,Hb,(m-1)/2,f,wI,⟨wI⟩,k8.trans TJ,Hb,?_,?_,trivial⟩
     ·rw [← he,zi2]
      show(FC _).map _++([_]++_)=(if m=0 then[] else FC ((m-1)/2)++[(m-1)%2]).map _++_
      rw[if_neg h0,Qq,Qv];rfl
     ·rw [app_len]
      show 1+z.length+(m-1)/2≤_
      lia
  ·rintro σ H7 ⟨⟨x6,x7,x8,x9,iT,rfl⟩,k7,bm,zs,bd,cS⟩
   have bJ:zs.length=n:=by
    have:=congrArg List.length cS
    rwa[Qa,Qa,Yo]at this
   refine⟨wI,k l zs b5 m5 H7 bd bJ ?_ (λz hz=>?_) bm flH k7⟩
   ·refine zfq (f:=fun z:Str=>z.cps.toList) ?_
    rw[cS]
    exact zdw λa ha c hc h=>by
     have:=wrd_inj ar Hb Hb h
     lia
   ·have:z.cps.toList∈(Se n).map (fun k=>Gv (bg+k+1)):=by rw [← cS];exact Qf.mpr ⟨z,hz,rfl⟩
    obtain⟨j,hj,e⟩:=Qf.mp this
    have oP:j<n:=Wk.mp hj
    have:=wrd_ok (b:=bg) (s:=st) (n:=bg+j+1) Hb Hb
    rw[e]at this
    exact⟨by rw[←str_len];exact this.1,by rw[←str_len];exact this.2.1,this.2.2⟩
 ·refine ⟨_,rfl,(n:Int),rfl,Hb,Hb,?_⟩
  rw[Wy]
  refine zcq (lo:=0) (λi σ H'=>Aj3 (Ex5 λx6 x7 x8 x9 iT=>σ=[zj,Ew n,Sx qwe,Ew st,Ew bg,Es,x6,x7,x8,x9,iT]) (Keep [p] H H') (Ex3 λ(zs:Nh) (b' m':Int)=>Aj4 (H' l=some EX) (zs.map (λz=>z.cps.toList.headD 0)=(Se i).map (λk=>qL ((bg+st*k)%26))) (∀z∈zs,zfv z) (Mr b' m')))
   ⟨⟨_,_,_,_,_,rfl⟩,k5,[],b5,m5,cj,rfl,λz hz=>(by cases hz),aT⟩ ?_ ?_
  ·rintro i σ H7 hi ⟨⟨x6,x7,x8,x9,iT,rfl⟩,k7,zs,b7,m7,bd,cS,hok,bm⟩
   have bJ:zs.length=i:=by
    have:=congrArg List.length cS
    rwa[Qa,Qa,Yo]at this
   refine⟨wI,p,b7,m7,2,rfl,bm,Hf,Hf,λd8 b8 m8 H8 vf h81 c9 i8=>?_⟩
   obtain⟨j8,rfl⟩:=Zq vf
   have rh:j8<2:=by lia
   have uY:atI ("ab" : Str).cps.toList (j8:Int)=some (97+j8):=by
    refine zaw ?_
    have:∀j:Fin 2,("ab" : Str).cps.toList[j.1]?=some (97+j.1):=by decide +kernel
    exact this ⟨j8,rh⟩
   refine⟨_,_,wI,rfl,Hf,uY,?_⟩
   have lU:=i8 _ _ bd nlp
   have ig:(bg+st*i)%26<26:=DR Hf
   have eS:KY (((bg:Int)+(st:Int)*(0+(i:Int)))%26)=some (qL ((bg+st*i)%26)):=by
    rw[Int.zero_add,←Int.natCast_mul,←Int.natCast_add]
    exact qL_at ig
   refine⟨wI,RC lU,wI,wI,wI,wI,_,wI,rfl,RH ⟨Hb,Hb⟩,_,wI,rfl,_,wI,rfl,Hf,_,_,wI,rfl,by rw[qwe_len];lia,eS,wI,wI,p,b8,m8,8,rfl,c9,Hf,Hf,λd9 b9 m9 H9 ve h91 o9 qy=>?_⟩
   obtain⟨j9,rfl⟩:=Zq ve
   have uC:j9<8:=by lia
   have hl9:=qy _ _ lU nlp
   have hmc:=mul_cps (97+j8) j9 Hb
   have jg:(Txt.mul (⟨#[97+j8]⟩:Str) (j9:Int)).length=j9:=by rw[←str_len,hmc,Kc]
   refine⟨_,j9,rfl,rfl,by show 1≤1000;decide,Hb,_,wI,rfl,by rw[jg];show 1+j9≤sizeLine;lia,l,_,wI,rfl,hl9,oh bJ hi,?_⟩
   have k9:=(k7.trans (zbh i8)).trans (zbh qy)
   refine⟨⟨_,_,_,_,wI⟩,λc u ec hc=>by rw[zaf (WM flH)];exact k9 c u ec hc,zs++[(⟨#[qL ((bg+st*i)%26)]⟩:Str)++Txt.mul (⟨#[97+j8]⟩:Str) (j9:Int)],b9,m9,by rw[zab,Qq];rfl,?_,λz hz=>?_,o9.keep (xs:=[l]) Sm (by simpa using Zl nlp)⟩
   ·rw[Qq,cS,List.range_succ,Qq,Qm,Qm,zi2];rfl
   ·rcases Ql.mp hz with y | y
    ·exact hok z y
    ·rw [CS y]
     have h1:=qL_ok _ ig
     refine⟨by rw[app_len];show 1≤1+_;lia,by rw[app_len,jg];show 1+j9≤8;lia,λc hc=>?_⟩
     rw[zi2,hmc]at hc
     rcases Ql.mp hc with y | y
     ·rw[show c=qL ((bg+st*i)%26) from Qc.mp y];exact h1
     ·rw[List.eq_of_mem_replicate y];lia
  ·rintro σ H7 ⟨⟨x6,x7,x8,x9,iT,rfl⟩,k7,zs,b7,m7,bd,cS,hok,bm⟩
   have bJ:zs.length=n:=by
    have:=congrArg List.length cS
    rwa[Qa,Qa,Yo]at this
   refine⟨wI,k l zs b7 m7 H7 bd bJ ?_ hok bm flH k7⟩
   refine zfq (f:=λz:Str=>z.cps.toList.headD 0) ?_
   rw[cS]
   exact zdw λa ha c hc h=>step_inj (b:=bg) ar Hb Hb (qL_inj A6 A6 h)
end
end K21
end
section
namespace Wb
section
variable{α β:Type}[DecidableEq α][DecidableEq β]{ns:List α}{r:α→List α}{cs:List (List (α×α))}{f:α→β}
theorem idx_map(hf:∀x y,f x=f y→x=y)(w:α):∀zs:List α,(zs.map f).idxOf (f w)=zs.idxOf w
 |[]=>rfl
 |a::t=>by
  rw[Qm,List.idxOf_cons,List.idxOf_cons,idx_map hf w t]
  by_cases h:a=w
  ·rw[h,beq_self_eq_true,beq_self_eq_true]
  ·rw[beq_eq_false_iff_ne.mpr h,beq_eq_false_iff_ne.mpr λe=>h (De e)]
def nxt_map(hf:∀x y,f x=f y→x=y)(zs:List α)(w:α):nxt (zs.map f) (f w)=f (BX w):=by
 unfold nxt
 rw[idx_map hf,Qa,Zf,Zf,Qo]
 cases zs[(zs.idxOf w+1)%zs.length]?<;>rfl
def lk_map{γ δ:Type}{F:γ→γ}{G:δ→δ}{g:γ→δ}{e:γ}:∀{t:List γ} {s:γ},(∀y,y=s∨y∈t→G (g y)=g (F y))→Lk F s t e→Lk G (g s) (t.map g) (g e):=by
 intro t
 induction t with
 |nil=>intro s h k;exact(h s HW).trans (congrArg g k)
 |cons a t ih =>
  intro s h k
  exact⟨(h s HW).trans (congrArg g k.1),ih (λy hy=>h y xX) k.2⟩
def cert_map(hf:∀x y,f x=f y→x=y){a:α}(C:Cert ns r cs λ_=>a){r':β→List β}(hr:∀x,r' (f x)=(r x).map f)(nX:∀y,(∀x,y≠f x)→r' y=[])(ha:a∈ns) :
  Cert (ns.map f) r' (cs.map λc=>c.map λs=>(zI,zJ)) λ_=>f a:=by
 have hm:∀{y z},z∈r' y→∃x w,y=f x∧z=f w∧w∈r x:=λ{y z} h=>by
  by_cases hy:∃x,y=f x
  ·obtain ⟨x,rfl⟩:=hy
   rw[hr]at h
   obtain⟨w,hw,rfl⟩:=Qf.mp h
   exact⟨x,w,rfl,rfl,hw⟩
  ·rw [nX y fun x e=>hy ⟨x,e⟩] at h
   cases h
 have hb:∀{x w},w∈r x→f w∈r' (f x):=λh=>by rw[hr];exact Qf.mpr ⟨_,h,rfl⟩
 have hg:∀s t:α×α,(zI,zJ)=(f t.1,f t.2)→s=t:=λs t e=>Wj (De SR) (De Ss)
 have ow:∀{l:List α},l.Nodup→(EJ f).Nodup:=λnd=>Us.mpr (nd.imp λh e=>h (De e))
 have hU:(cs.map λc=>c.map λs=>(zI,zJ)).flatten=cs.flatten.map λs=>(zI,zJ):=List.map_flatten.symm
 refine⟨ow C.nd,λy hy=>?_,λy=>?_,λy h=>?_,λx y h=>?_,?_,λs=>?_,λc hc=>?_,λx hx=>Qf.mpr ⟨a,ha,rfl⟩,λ_ _ _=>rfl,λx hx y hy _=>?_,λx hx=>?_⟩
 ·cases e:r' y with
  |nil=>rfl
  |cons z t =>
   obtain⟨x,w,rfl,_,hw⟩:=hm (y:=y) (z:=z) (Hl e Qb)
   exact absurd (La ⟨x,IS hw,rfl⟩) hy
 ·by_cases hy:∃ x,y=f x
  ·obtain ⟨x,rfl⟩:=hy
   rw[hr];exact ow (C.rn x)
  ·rw[nX y λx e=>hy ⟨x,e⟩];exact Zn
 ·obtain ⟨x,w,e1,e2,hw⟩:=hm h
  have:=De (e1.symm.trans e2)
  subst this
  exact C.ir _ hw
 ·obtain ⟨a,w,rfl,rfl,hw⟩:=hm h
  exact hb (UH hw)
 ·rw [hU]
  exact Us.mpr (C.cf.imp λh e=>h (hg _ _ e))
 ·rw [hU]
  constructor
  ·intro h
   obtain⟨t,ht,rfl⟩:=Qf.mp h
   exact hb ((IR t).mp ht)
  ·intro h
   obtain⟨x,w,e1,e2,hw⟩:=hm h
   exact Qf.mpr ⟨(w,x),(IR (w,x)).mpr hw,Wj e2.symm e1.symm⟩
 ·obtain ⟨c0,hW,rfl⟩:=Qf.mp hc
  obtain⟨s,t,rfl,k⟩:=C.cy c0 hW
  refine⟨(zI,zJ),wI,lk_map (g:=λs:α×α=>(zI,zJ)) (λy _=>?_) k⟩
  show(f y.2,nxt (r' (f y.2)) (f y.1))=(f y.2,f (nxt (r y.2) y.1))
  rw[hr,nxt_map hf]
 ·obtain ⟨x0,hx0,rfl⟩:=Qf.mp hx
  obtain⟨y0,qG,rfl⟩:=Qf.mp hy
  have:=C.co x0 hx0 y0 qG rfl
  clear hy qG
  induction this with
  |refl=>exact .refl
  |step _ hz ih=>exact .step ih (hb hz)
 ·have e1:wt (ns.map f) r' (fun _=>f a) (f a)=wt ns r (fun _=>a) a:=by
   unfold wt
   rw[Zj]
   refine zcl λx _=>?_
   show(if f a=f a then _ else _)=_
   rw[if_pos rfl,if_pos rfl,hr,Qa]
   simp only[List.map_eq_nil_iff]
  have e2:ct (cs.map λc=>c.map λs=>(zI,zJ)) (λ_=>f a) (f a)=ct cs (λ_=>a) a:=by
   unfold ct
   rw[Zj]
   refine zcl λc _=>?_
   show(if(List.any (c.map λs=>(zI,zJ)) λs=>decide (f a=f a))=true then _ else _)=_
   rw[List.any_map]
   simp only[Function.comp_def,decide_true]
  rw[e1,e2]
  exact C.eu a ha
end
end Wb
end
section
namespace Wb
open PySem
def bk(n j:Nat):Nat:=if j=0 then n-1 else j-1
def trR(m i:Nat):List Nat :=
 if i < 2*m then
  (if i%2=0 then[2*m,2*Vh (i/2),i+1,2*((i/2+1)%m)+1,2*((i/2+1)%m)]
    else[2*m+1,2*((i/2+1)%m)+1,i-1,2*Vh (i/2),2*Vh (i/2)+1])
 else if i=2*m then(Se m).map (2*·)
 else((Se m).map λk=>2*k+1).reverse
def trF(m:Nat)(i:Fin (2*m+2)):List (Fin (2*m+2)):=(JP i.1).filterMap λk=>if h:k<2*m+2 then some ⟨k,h⟩ else none
def trT(m:Nat):List (Fin (2*m+2)×Fin (2*m+2)×Fin (2*m+2)):=(List.finRange (2*m+2)).flatMap λa=>(VN a).filterMap λb=>if a<b∧a<nxt (VN b) a then some (a,b,nxt (VN b) a) else none
def trC(m:Nat):List (S1 (Fin (2*m+2)×Fin (2*m+2))):=(trT m).map λt=>[(t.1,t.2.1),(t.2.1,t.2.2),(t.2.2,t.1)]
def tr0(m:Nat):Fin (2*m+2):=⟨0,Hb⟩
structure TrOk(m:Nat):Prop where
 lo:∀i<2*m+2,∀k∈JP i,k<2*m+2
 cyc:∀t∈trT m,FE (t.1,t.2.1)=(t.2.1,t.2.2)∧FE (t.2.1,t.2.2)=(t.2.2,t.1)∧FE (t.2.2,t.1)=(t.1,t.2.1)
 rn:∀x,(VN x).Nodup
 ir:∀x,x∉VN x
 sy:∀x,∀y∈VN x,x∈VN y
 cf:(trC m).flatten.Nodup
 cm:∀s∈(trC m).flatten,s.1∈VN s.2
 mc:∀x,∀y∈VN x,(y,x)∈(trC m).flatten
 eu:wt (List.finRange (2*m+2)) (trF m) (λ_=>tr0 m) (tr0 m)+ct (trC m) (λ_=>tr0 m) (tr0 m)=4
 up:∀x:Fin (2*m+2),x.1=0∨∃y∈VN x,y<x
def tr_cert(h:TrOk m):Cert (List.finRange (2*m+2)) (trF m) (trC m) λ_=>tr0 m:=by
 have con:∀n,∀x:Fin (2*m+2),x.1<n→DT x:=by
  intro n
  induction n with
  |zero=>intro x hx;cases hx
  |succ n ih =>
   intro x hx
   rcases h.up x with z | ⟨y,hy,ad⟩
   ·rw[show x=tr0 m from Fin.ext z];exact .refl
   ·exact .step (ih y (Zw ad (Nat.le_of_lt_succ hx))) (h.sy x y hy)
 have qk:∀x:Fin (2*m+2),DT x:=λx=>con _ x AC
 refine⟨List.nodup_finRange _,λx hx=>absurd (List.mem_finRange x) hx,h.rn,h.ir,λx y=>h.sy x y,h.cf,λs=>⟨h.cm s,λz=>h.mc s.2 s.1 z⟩,λc hc=>?_,λ_ _=>List.mem_finRange _,λ_ _ _=>rfl,λx _ y _ _=>((qk x).symm λa b=>h.sy a b).trans (qk y),λ_ _=>h.eu⟩
 obtain⟨t,ht,rfl⟩:=Qf.mp hc
 obtain⟨h1,h2,h3⟩:=h.cyc t ht
 exact⟨_,wI,h1,h2,h3⟩
def tr_ok(h3:3≤m)(h7:m≤7):TrOk m:=by
 have:m=3∨m=4∨m=5∨m=6∨m=7:=by lia
 rcases this with rfl | rfl | rfl | rfl | rfl <;>
  exact⟨by decide +kernel,by decide +kernel,by decide +kernel,by decide +kernel,by decide +kernel,by decide +kernel,by decide +kernel,by decide +kernel,by decide +kernel,by decide +kernel⟩
def tr_good{m:Nat}(h3:3≤m)(h7:m≤7){nm:Nat→Str}(inj:∀i j,i<2*m+2→j<2*m+2→nm i=nm j→i=j) :
  Good ((Se (2*m+2)).map λi=>(nm i,(JP i).map nm)):=by
 have h:=tr_ok h3 h7
 have hf:∀x y:Fin (2*m+2),nm x.1=nm y.1→x=y:=λx y e=>Fin.ext (inj _ _ x.2 y.2 e)
 have hn:((Se (2*m+2)).map λi=>(nm i,(JP i).map nm)).map (·.1)=(List.finRange (2*m+2)).map λx=>nm x.1:=by
  rw[Zj]
  refine Xn Ha λi h1 h2=>?_
  simp
 have aA:(((Se (2*m+2)).map λi=>(nm i,(JP i).map nm)).map (·.1)).Nodup:=by
  rw[hn]
  exact Us.mpr ((List.nodup_finRange _).imp λne e=>ne (De e))
 refine⟨_,_,hn▸cert_map (f:=λx:Fin (2*m+2)=>nm x.1) hf (tr_cert h) (λx=>?_) (λy hy=>?_) (List.mem_finRange _)⟩
 ·have hmem:(nm x.1,(JP x.1).map nm)∈(Se (2*m+2)).map fun i=>(nm i,(JP i).map nm):=Qf.mpr ⟨x.1,Wk.mpr x.2,rfl⟩
  rw[zfo aA hmem]
  show(JP x.1).map _=(List.filterMap _ _).map _
  have lS:=h.lo x.1 x.2
  generalize JP x.1=ks at lS
  induction ks with
  |nil=>rfl
  |cons a t ih =>
   have ha:=lS a Qb
   rw[List.filterMap_cons,dif_pos ha,Qm,Qm,ih λk hk=>lS k (QZ hk)]
 ·refine zgd fun z=>?_
  rw[hn]at z
  obtain⟨x,_,e⟩:=Qf.mp z
  exact hy x e.symm
end Wb
end
section
namespace L2
open PySem PySem.Spec PyProof.Rows
section
variable{X:Cx}
end
section
variable{X:Cx}{a5:Ni}{σ:St}{H:Hp}{s:Nj}
end
section
variable{prog:Nk}{w:Nn}{A:Nq}{E:Nd}{s:Nj}
def rev_no_len:typeLookup (.type "list_reverseiterator") "__len__" = pure none:=by rw[typeLookup_type,builtinLookup_eq_fast];kernel_rfl
def rev_hint:typeLookup (.type "list_reverseiterator") "__length_hint__" = pure (Hs (.builtin "list_reverseiterator.__length_hint__")):=by rw[typeLookup_type,builtinLookup_eq_fast];kernel_rfl
def hint_rev(hT:s.TypeIs (Hi r) "list_reverseiterator")(h:Q false s):ZI (Builtin.List.listLengthHint (Hi r)) Q E s:=by
 unfold Builtin.List.listLengthHint
 refine wpAny_bind (KK rev_no_len ?_)
 show ZZ A (specialOf (xU r) (Str.ofString "__length_hint__") >>= _) _ _ _
 refine wpAny_bind (KK rev_hint ?_)
 generalize hid:("list_reverseiterator.__length_hint__" : String)=id0
 wp_delta
 rw[show splitId id0=some ("list_reverseiterator", "__length_hint__") from by subst hid;decide +kernel]
 subst hid
 refine wpAny_bind (wpAny_isInstance (T := "list_reverseiterator") (b:=true) hT (by rw[isSubtype_type];kernel_rfl) ?_)
 refine wpAny_ite_split (λkY=>absurd kY Hf) (λ_=>?_)
 refine wpAny_ite_split (λ_=>?_) (λkY=>absurd (by decide +kernel) kY)
 refine wpAny_ite_split (λkY=>absurd kY Hf) (λ_=>?_)
 exact wpAny_pure h
def zjb(hh:A.handled=none)(iJ:s.heap.IsRevIter I l ((items.size:Int)-1))(hl:s.heap.IsList l items)(az:l≠I)(hn:items.size≤sizeLine)(hQ:∀h' tk af c',(∀b o,b≠I→s.heap.get? b=some o→h'.get? b=some o)→h'.get? s.heap.objs.size=some {cls:=.type "list",dict:=none,data:=.seq af c',slots:=#[]}→ItemsOf (λi v=>items[items.size-1-i]?=some v) af items.size→Q Hu {s with heap:=h',toks:=tk}) :
  wpAny Hw A (call (.type "list") [E4]) Q E s:=by
 have W:=Walks.listRev (prog:=prog) (w:=w) (A:=A.in1.in1) hh I l az items
 refine callType_codes (Q₁:=λobj s₁=>obj=.ref s.heap.objs.size∧s₁={s with heap:=s.heap.push {cls:=.type "list",data:=.seq #[]}}) PySem.F.called_list (PySem.F.typeCall_list_1 _) PySem.F.entry_list_init
  (code_list_new _ ⟨rfl,rfl⟩) λobj s₁ h₁=>?_
 obtain⟨rfl,rfl⟩:=h₁
 have hS:(s.heap.push {cls:=.type "list",data:=.seq #[]}).get? s.heap.objs.size=some {cls:=.type "list",data:=.seq #[]}:=U9 rfl
 have hSI:s.heap.objs.size≠I:=by obtain⟨o,e,_⟩:=iJ;exact Yu LP
 have hSl:s.heap.objs.size≠l:=by obtain⟨o,e,_⟩:=hl;exact Yu LP
 have eT:s.heap.objs.size∉[I,l]:=by simp;exact⟨hSI,hSl⟩
 refine⟨⟨_,hS,rfl⟩,PySem.F.args_list_init_2 _ _,?_⟩
 show ZZ _ (do let old ←Builtin.List.listItems Hu;Builtin.List.listUpdate Hu (λ_=>#[]);letGo old.toList.reverse;Bh E4 .none) _ _ _
 refine wpAny_bind ?_
 unfold Builtin.List.listItems
 refine wpAny_bind (JQ (wpAny_pure ?_))
 show ZZ _ (updateSeq s.heap.objs.size (λ_=>#[]) >>= λ_=>letGo (#[]:Array Value).toList.reverse >>= λ_=>Bh E4 .none) _ _ _
 refine wpAny_bind (wpAny_updateSeq hS rfl ?_)
 have hS₂:=Uu (Obj.mapSeq (λ_=>(#[]:Array Value))) hS rfl
 have oth:∀b o,s.heap.get? b=some o→((s.heap.push {cls:=.type "list",data:=.seq #[]}).update s.heap.objs.size (Obj.mapSeq (λ_=>(#[]:Array Value)))).get? b=some o :=
  λb o e=>(Vs (Yu LP)).trans C4
 refine wpAny_bind (wpAny_letGo ?_)
 generalize(s.heap.push {cls:=.type "list",data:=.seq #[]}).update s.heap.objs.size (Obj.mapSeq (λ_=>(#[]:Array Value)))=h2 at hS₂ oth
 have iI:h2.IsRevIter I l ((items.size:Int)-1):=iJ.at λo e=>oth I o e
 have aw:h2.IsList l items:=hl.at λo e=>oth l o e
 unfold Builtin.List.listExtendWith
 refine wpAny_bind (wpAny_typeOf (T := "list_reverseiterator") iI.typeIs ?_)
 have h1:Builtin.List.listSameRef Hu E4=false:=by simp[Builtin.List.listSameRef,hSI]
 have e1:(Value.type "list_reverseiterator" == Value.type "list")=false:=by decide
 have e2:(Value.type "list_reverseiterator" == Value.type "tuple")=false:=by decide
 simp only[h1,e1,e2,Bool.or_false,Jw,if_false]
 refine wpAny_bind (wpAny_pyIter_revIter iI ?_)
 refine wpAny_bind (xi (hint_rev iI.typeIs ?_))
 refine wpAny_ite_split (λkY=>absurd kY Hf) (λ_=>?_)
 refine wpAny_pure ⟨plainId_quiet PySem.F.plain_extend_loop _,codeAny_extend_loopS W.toS hn s.heap.objs.size eT .none items.size 0 _ #[] _ rfl SJ ⟨SJ,He iI,aw⟩ hS₂ (ItemsOf.nil _) λs' vC c' hm dl iS=>?_⟩
 rw[Moved.eq_with hm]
 refine⟨rfl,hQ s'.heap s'.toks vC c' (λb o hb e=>hm.heap b o (λhmem=>?_) (oth b o e)) dl iS⟩
 rcases Qh.mp hmem with e' | hmem
 ·exact absurd (Qu e) (by rw[e'];exact Yw _)
 ·exact hb (Qc.mp hmem)
end
section
variable{X:Cx}
def tRev(K:Na)(t:TE):TE:=λ σ H Q=>t σ H λv H1=>Ex2 λl xs=>Aj3 (v=.ref l) (SqL K H1 l xs) (∀p,H1 p=none→Q Tn (QK p Oa))
def pe_rev(hc:X.calm=true)(hg:VU "list")(hm:X.mg "list" = none)(uJ:VU "reversed")(oy:X.mg "reversed" = none)(he:Z9 e t)(h1:starEach [e] X.env=[(false,C1)]:=by rfl)(h2:starEach [.Call (.Name "reversed" p2) [e] [] q2] X.env=[(false,HX (.Call (.Name "reversed" p2) [e] [] q2))]:=by rfl) :
  PE X (.Call (.Name "list" p1) [.Call (.Name "reversed" p2) [e] [] q2] [] q1) (tRev X.K t):=by
 intro a5 s σ H Q I h
 refine Call_ (Bz boot_list (Wm (rest:=[]) ?_ h2 rfl))
 rw[h2]
 show ZZ _ (spliced ((false,HX (.Call (.Name "reversed" p2) [e] [] q2))::[])) _ _ s
 refine Wx (Call_ (MN (Wm (rest:=[]) ?_ h1 rfl)))
 rw[h1]
 show ZZ _ (spliced ((false,C1)::[])) _ _ s
 refine Wx (thn RM λu s1 ⟨v,H1,I1,r1,l,xs,ev,hq,q⟩=>Ux ?_)
 subst ev
 cases r1
 obtain⟨a7,rv,pl,hz⟩:=I1.list hq
 have ae:=rv.length
 have hl:=pl.isList
 have lt:l<s1.heap.objs.size:=by obtain⟨o,z,_⟩:=hl;exact Qu z
 refine call_reversed_list hl (Ux ?_)
 have hsz:(s1.heap.push (revObj l ((a7.toArray.size:Int)-1))).objs.size=s1.heap.objs.size+1:=Ws ..
 refine zjb (s:={s1 with heap:=s1.heap.push (revObj l ((a7.toArray.size:Int)-1))}) (I:=s1.heap.objs.size) (l:=l) (items:=a7.toArray) (I1.ok.hd hc) ⟨_,Ta,rfl,rfl⟩ (hl.at λo z=>WN z) OW (by simp;lia) λh' tk af c' kp hn iS=>?_
 have mV:∀b o,s1.heap.get? b=some o→h'.get? b=some o:=λb o z=>kp b o (Zh (Qu z)) (WN z)
 have hf:H1 (s1.heap.push (revObj l ((a7.toArray.size:Int)-1))).objs.size=none:=I1.hok.fresh (by rw[hsz];exact Uq _)
 have eacc:af=a7.reverse.toArray:=by
  refine Array.ext (by simpa using iS.1) λi hi aU=>?_
  have:=iS.2 i af[i] (by simp[hi])
  have hil:i<a7.length:=by simpa using aU
  simp only[List.getElem?_toArray,Qy]at this
  rw[Qd Hb]at this
  show af[i]=a7.reverse[i]'(He aU)
  rw[List.getElem_reverse]
  exact(Qn this).symm
 subst eacc
 exact⟨Hi _,_,I1.laid (t':=tk) mV (by rw[hsz];exact Uq _) (show QJ _ h' _ Oa from⟨Hl Jm hz,a7.reverse,c',rv.reverse,hn⟩),rfl,q _ hf⟩
def gTwo(K:Na)(t:TGs):TG:=λv σ H Q=>Ex3 λ(a:Nc) (x y:V)=>Aj3 (v=.ref a) (W0 [x,y]) (t [x,y] σ H Q)
def draw_two(ne:a≠it)(hi:s.heap.IsListIter it a 0)(hl:s.heap.IsList a #[u1,u2])(q:∀h',h'.IsListIter it a 2→Heap.SameBut it s.heap h'→Q [u1,u2] {s with heap:=h'}):K6 A (draw Tk 2) Q E s:=by
 apply wpAny_bind (m:=pyNext Tk)
 apply wpAny_pyNext_list_item hi hl (x:=u1) rfl
 intro h1 i1 s1
 have l1:h1.IsList a #[u1,u2]:=hl.extBut s1.extBut ne
 apply wpAny_bind
 apply wpAny_holding
 apply wpAny_bind (m:=pyNext Tk)
 apply wpAny_pyNext_list_item (s:={s with heap:=h1}) i1 l1 (x:=u2) rfl
 intro h2 i2 s2
 apply wpAny_bind
 apply wpAny_holding
 apply wpAny_pure
 apply wpAny_pure
 apply wpAny_pure
 exact q h2 i2 (s1.trans s2)
def pg_two(hc:X.calm=true)(h:FI [e1,e2] t)(hn:(assignEach [e1,e2] X.env).length=2:=by rfl)(ar:(assignEach [e1,e2] X.env).findIdx? (·.1)=none:=by rfl):PG X (.Tuple [e1,e2] k pos) (gTwo X.K t):=by
 intro a5 s σ H v u Q I r ⟨a,x,y,z,hq,hw⟩
 subst z
 cases r
 obtain⟨a7,rv,hp,_⟩:=I.list hq
 have rv':=rv
 obtain⟨u1,u2,rfl,_,_⟩:=vals2 rv'
 have hl:s.heap.IsList a #[u1,u2]:=hp.isList
 have ne:a≠s.heap.objs.size:=by
  obtain⟨o,ho,_⟩:=hl
  exact Zh (Qu ho)
 rw[assign_Tuple]
 apply wpAny_bind
 apply wpAny_standAt
 unfold unpack
 rw[hn,ar]
 apply wpAny_bind
 apply wpAny_holding
 unfold unpackItems
 apply wpAny_bind
 unfold notIterableAtAll
 apply wpAny_bind
 apply wpAny_specialOf hl.typeIs slot_list_iter.lookup
 apply wpAny_pure
 rw[if_neg Ha]
 apply wpAny_bind
 apply wpAny_holding
 apply wpAny_pyIter_list hl
 have lp:(s.heap.push {cls:=.type "list_iterator",data:=.fields #[RV,ON]}).IsList a #[u1,u2]:=hl.push _
 apply wpAny_bind
 apply wpAny_holding
 apply draw_two ne ⟨_,Ta,rfl,rfl⟩ lp
 intro h1 i1 s1
 rw[if_neg Ha]
 apply wpAny_bind
 apply wpAny_holding
 apply KI i1 (lp.extBut s1.extBut ne) rfl
 intro h2 x2
 rw[if_neg Ha]
 apply wpAny_pure
 have I1:ZA H {s with heap:=h2}:=I.kept (t':=s.toks) λb o e=>by
  have nb:=Zh LP
  exact x2 b o nb (s1.extBut b o nb C4)
 exact h a5 _ σ H [x,y] _ Q I1 rv hw
end
end L2
end
section
namespace K21
open PySem L2 Wb
abbrev sRings:Stmt:=top 52
def ordP(m i:Nat):Nat:=if i<2*m then(if i%2=0 then i/2 else m+i/2) else i
def nmP(zs:Nh)(m i:Nat):Str:=zs.getD (FG i) ""
def cut_mid{xs:List V}{a b:Nat}(h:a≤b)(hb:b≤xs.length):NN (some (a:Int)) (some (b:Int))=(xs.drop a).take (b-a):=by
 unfold cutV
 have e1:QU 0 (some (a:Int))=a:=by rw[HT.sIx_nat];lia
 have e2:QU xs.length (some (b:Int))=b:=by rw[HT.sIx_nat];lia
 rw[e1,e2]
def nm_inn(h:k<m):Z0 (2*k)=zs.getD k "" := by
 unfold nmP ordP
 rw[if_pos Hb,if_pos Hb,show 2*k/2=k by lia]
def nm_out(h:k<m):Z0 (2*k+1)=zs.getD (m+k) "" := by
 unfold nmP ordP
 rw[if_pos Hb,if_neg Hb,show(2*k+1)/2=k by lia]
def nm_cap(h:2*m≤i):Z0 i=zs.getD i "" := by
 unfold nmP ordP
 rw[if_neg Hb]
def tr_inn(h:k<m):JP (2*k)=[2*m,2*Vh k,2*k+1,2*((k+1)%m)+1,2*((k+1)%m)]:=by
 unfold trR
 rw[if_pos Hb,if_pos Hb,show 2*k/2=k by lia]
def tr_out(h:k<m):JP (2*k+1)=[2*m+1,2*((k+1)%m)+1,2*k,2*Vh k,2*Vh k+1]:=by
 unfold trR
 rw[if_pos Hb,if_neg Hb,show(2*k+1)/2=k by lia,Nat.add_sub_cancel]
def ord_lt(h7:m≤7)(h:i<2*m+2):FG i<16:=by
 unfold ordP
 split<;>(try split)<;>lia
def ord_inj(hi:i<2*m+2)(hj:j<2*m+2)(h:FG i=FG j):i=j:=by
 unfold ordP at h
 split at h<;>split at h<;>(try split at h)<;>(try split at h)<;>lia
def nm_inj(nd:zs.Nodup)(hz:zs.length=16)(h7:m≤7)(hi:i<2*m+2)(hj:j<2*m+2)(h:Z0 i=Z0 j):i=j:=by
 have h1:=Gw hi
 have h2:=Gw hj
 unfold nmP at h
 rw[Zf,Zf,Qd Hb,Qd Hb]at h
 exact ord_inj hi hj ((We nd).mp h)
def innP(zs:Nh)(m:Nat):List Str:=(Se m).map λk=>Z0 (2*k)
def outP(zs:Nh)(m:Nat):List Str:=(Se m).map λk=>Z0 (2*k+1)
def inn_cut(h:m≤zs.length):(zs.map V.str).take m=(BZ m).map V.str:=by
 unfold innP
 refine Xn (by simp;lia) λi h1 h2=>?_
 have hi:i<m:=by rw[Qa,Qa,Yo]at h2;exact h2
 rw[Jb,Zk,Zk,Zk,Uh,nm_inn hi,Zf,Qd Hb]
 rfl
def out_cut(h:2*m≤zs.length):((zs.map V.str).drop m).take m=(B4 m).map V.str:=by
 unfold outP
 refine Xn (by simp;lia) λi h1 h2=>?_
 have hi:i<m:=by rw[Qa,Qa,Yo]at h2;exact h2
 rw[Jb,List.getElem_drop,Zk,Zk,Zk,Uh,nm_out hi,Zf,Qd Hb]
 rfl
def cap_cut(h:2*m+2≤zs.length):((zs.map V.str).drop (2*m)).take 2=[Rc (2*m),Rc (2*m+1)]:=by
 rw[nm_cap Hx,nm_cap (Uq _),Zf,Zf,Qd Hb,Qd Hb]
 rw[Zv Ce,Zv Ce,Zk,Zk]
 rfl
def at_rg(h:k<m):atI (((Se m).map f).map V.str) (k:Int)=some (Ts (f k)):=by
 refine zaw ?_
 rw[Qo,Qo,List.getElem?_range h]
 rfl
def at_rg'(h:k<m):atI (((Se m).map f).map V.str) ((k:Int)-1)=some (Ts (f (Vh k))):=by
 have hl:(((Se m).map f).map V.str).length=m:=by rw[Qa,Qa,Yo]
 rw[atI_prev (Hl hl h),hl]
 have hb:pidx m k<m:=by unfold pidx;split<;>lia
 rw[Qo,Qo,List.getElem?_range hb]
 rfl
inductive TrI(zs:Nh)(m:Nat)(H3:Hp)(d:Nc)(c:Nat)(H':Hp):Prop
 |mk (es:List Ent) (ra:RAt H' d es) (rs:rsOf es=(List.range c).map λi=>(Z0 i,(JP i).map PB)) (kp:Keep [d] H3 H'):UX H3 d c H'
def TrI.k0(h:yB)(k:Keep [] H' H2):UX H3 d c H2:=by
 obtain⟨es,ra,rs,kp⟩:=h
 exact⟨es,ra.keep k Ha RJ,rs,kp.trans (k.sub Ha)⟩
def TrI.kp(h:yB):Keep [d] H3 H':=by
 obtain⟨_,_,_,kp⟩:=h
 exact kp
def TrI.put(h:yB)(nd:zs.Nodup)(hz:zs.length=16)(h7:m≤7)(hc:c<2*m+2)(ha:H' a=some (Hr (((JP c).map PB).map V.str))) :
  ∃kv:List (Key×V),H' d=some (ID kv)∧kv.length≤16∧UX H3 d (c+1) (YL d (ID (putK kv (Sw (Z0 c)) RV))):=by
 obtain⟨es,ra,rs,kp⟩:=h
 have bv:es.length=c:=by
  have:=congrArg List.length rs
  unfold rsOf at this
  rw[Qa,Qa,Yo]at this;exact this
 have hxn:Z0 c∉es.map (·.1):=λz=>by
  rw[←zbq,rs,Zj]at z
  obtain⟨i,hi,e⟩:=Qf.mp z
  have aU:=Wk.mp hi
  have:=nm_inj nd hz h7 Hb hc e
  lia
 refine⟨_,ra.dc,Ce,es++[(Z0 c,(JP c).map PB,a)],rat_new ra hxn ha,?_,kp.trans Sm⟩
 rw[List.range_succ,Qq,←rs]
 unfold rsOf
 rw[Qq];rfl
inductive IspRings(vs:List V)(H:Hp)(Q:VK):Prop
 |mk (l:Nc) (zs:Nh) (m:Nat) (h0:vs=[.ref l,.int (m:Int)]) (h1:H l=some (.lst (zs.map V.str))) (hn:zs.Nodup) (hl:zs.length=16) (h3:3≤m) (h7:m≤7)
  (h3:∀(d:Nc) (aj:List Ent) (H':Hp),H d=none→YU aj→(∀x∈aj.map (·.1),x∈zs)→Keep [] H H'→Q El H'):IspRings vs H Q
def spRings:Sp:=λvs H Q _=>IspRings vs H Q
section
variable{P:Nk}{w:Nn}{K:Na}{mg:Ng}{base:Np}
def zds:zaj [qN,qM,qR, "_law_inner", "_law_outer", "_law_top", "_law_ground", "_law_k", "_law_ahead"] [qN,qM] (zai sRings):=fsk
def ok_rings(F:QE "_law_two_rings" "_law_two_rings" sRings f fd)(aG:mg "range" = none)(av:mg "list" = none)(jT:mg "reversed" = none):ZB 1 f fd [qN,qM] spRings:=by
 refine F.okL zds Hn
 obtain⟨l,zs,m,rfl,hl,aA,bJ,h3,h7,kq⟩:=h
 have hu:=zb6 hr
 have ap:=sizeLine_eq
 refine⟨_,zad (Ve zds.nd zd7)
  (zad (Br zds.nd (JG zdh yd))
  (zad (Bb zds.nd (JG yd (zcd yo)))
  (zad (zcz (JG (zcd yo) (zcd (Ed yo))) (pg_two rfl (zak (XB zds.nd) (TH (XC zds.nd)))))
  (zad (Z4 (U7 SH) (zam 7 zds.nd)
   (zad (zan 8 zds.nd (X6 (Ed (pv 7)) Rj))
   (zad (UW (S9 RX En) (za8 (QG (wE RX yp Sd Em Pz))) rfl)
   (zag (UW (S9 Sd En) (za8 (W5 (wE Sd Em RX yp Pu))) rfl)))))
  (zad (UW So (wF Tp) rfl)
  (zad (UW Tx (pe_rev rfl HQ av HQ jT Sd) rfl)
  (zag Pw))))))),?_⟩
 intro d hd
 have aN:(zs.map V.str).length=16:=by rw[Qa,bJ]
 have k1:Keep [] H (ZX d RQ):=Keep.new hd
 have g1:(ZX d RQ) d=some RQ:=zab
 generalize ZX d RQ=H1 at k1 g1
 have aD:=k1 _ _ hl Ha
 refine⟨wI,wI,wI,l,wI,Hk aD,λia hia=>?_⟩
 rw[cut_to E9,inn_cut Hb]
 have k2:Keep [] H1 (QK ia (Hr ((BZ m).map V.str))):=Keep.new hia
 have g2:(QK ia (Hr ((BZ m).map V.str))) ia=some (Hr ((BZ m).map V.str)):=zab
 generalize QK ia (Hr ((BZ m).map V.str))=H2 at k2 g2
 have aw:=k2 _ _ aD Ha
 have em:(2:Int)*(m:Int)=((2*m:Nat):Int):=by lia
 refine⟨wI,wI,wI,wI,_,wI,rfl,RH ⟨Hb,Hb⟩,wI,l,wI,PH,λoa hoa=>?_⟩
 rw[em,cut_mid Hb E9,show 2*m-m=m by lia,out_cut Hb]
 have k3:Keep [] H2 (wf oa ((B4 m).map V.str)):=Keep.new hoa
 have g3:(wf oa ((B4 m).map V.str)) oa=some (Hr ((B4 m).map V.str)):=zab
 generalize QA oa (Hr ((B4 m).map V.str))=H3 at k3 g3
 have aP:=k3 _ _ aw Ha
 refine⟨wI,wI,_,wI,rfl,RH ⟨Hb,Hb⟩,wI,wI,_,wI,rfl,RH ⟨Hb,Hb⟩,_,wI,rfl,wI,l,wI,Hk aP,λca hca=>?_⟩
 rw[em,show((2*m:Nat):Int)+2=((2*m+2:Nat):Int) by lia,cut_mid Hb E9,show 2*m+2-2*m=2 by lia,cap_cut Hb]
 refine⟨ca,_,wI,TQ,_,wI,_,wI,rfl,?_⟩
 have k4:Keep [] H3 (QS ca (.lst [Rc (2*m),Rc (2*m+1)])):=Keep.new hca
 generalize QS ca (.lst [Rc (2*m),Rc (2*m+1)])=H4 at k4
 have gi:H4 ia=some (Hr ((BZ m).map V.str)):=(TM k4) _ _ g2 Ha
 have go:H4 oa=some (Hr ((B4 m).map V.str)):=k4 _ _ g3 Ha
 have dR:Keep [] H1 H4:=(Tr k3).trans k4
 have gd:H4 d=some RQ:=dR _ _ g1 Ha
 have T0:UX H4 d 0 H4:=⟨[],⟨gd,λe he=>(by cases he),Zn⟩,rfl,Keep.refl⟩
 have nid:ia∉[d]:=by simpa using za1 gi gd Hg
 have nod:oa∉[d]:=by simpa using za1 go gd Hg
 refine⟨wI,(m:Int),rfl,Hb,Hb,?_⟩
 rw[Wy]
 refine zcq (lo:=0) (λi σ H'=>Aj2 (Ex2 λx7 x8=>σ=[Es,Hs (.int (m:Int)),Tf,Hc ia,Hc oa,Sx (Z0 (2*m)),Sx (Z0 (2*m+1)),x7,x8]) (UX H4 d (2*i) H'))
  ⟨⟨_,_,rfl⟩,T0⟩ ?_ ?_
 ·rintro i σ H5 hi ⟨⟨x7,x8,rfl⟩,T5⟩
  have e0:(0:Int)+(i:Int)=(i:Int):=Int.zero_add _
  rw[e0]
  have eon:((i:Int)+1)%(m:Int)=((HN%m:Nat):Int):=by simp
  have lQ:HN%m<m:=DR Hb
  refine⟨wI,_,wI,rfl,wI,_,wI,rfl,(by show(0:Int)<m;lia),?_⟩
  rw[eon]
  have ri:=tr_inn hi
  have ro:=tr_out hi
  generalize(i+1)%m=on at lQ ri ro
  have gi5:=Gx gi nid
  have go5:=Gx go nod
  refine⟨wI,wI,wI,_,wI,rfl,ia,_,_,wI,rfl,Hk gi5,at_rg' hi,wI,wI,oa,_,_,wI,rfl,Hk go5,xz,wI,wI,oa,_,_,wI,rfl,Hk go5,at_rg lQ,wI,wI,ia,_,_,wI,rfl,Hk gi5,at_rg lQ,(Hd 5),λa6 h6=>?_⟩
  have T6:UX H4 d (2*i) (QP a6 (.lst [Rc (2*m),Rc (2*Vh i),Rc (2*i+1),Rc (2*on+1),Rc (2*on)])):=T5.k0 (Ho h6)
  have g6:(QP a6 (.lst [Rc (2*m),Rc (2*Vh i),Rc (2*i+1),Rc (2*on+1),Rc (2*on)])) a6=some (Hr (((JP (2*i)).map PB).map V.str)):=by rw[zab,ri];rfl
  generalize QP a6 (.lst [Rc (2*m),Rc (2*Vh i),Rc (2*i+1),Rc (2*on+1),Rc (2*on)])=H6 at T6 g6
  obtain⟨kv,dv,kl,T7⟩:=T6.put aA bJ h7 Hb g6
  refine⟨wI,wI,wI,ia,_,_,wI,rfl,Hk (T6.kp _ _ gi nid),xz,d,wI,DPut.k (k:=Sum.inr (Z0 (2*i))) dv Hb,?_⟩
  generalize WD d (Il kv (2*i) a6)=H7 at T7
  have gi7:=Gy gi nid
  have go7:=Gy go nod
  refine⟨wI,wI,wI,oa,_,_,wI,rfl,Hk go7,at_rg lQ,wI,wI,ia,_,_,wI,rfl,Hk gi7,xz,wI,wI,_,wI,rfl,ia,_,_,wI,rfl,Hk gi7,at_rg' hi,wI,wI,_,wI,rfl,oa,_,_,wI,rfl,Hk go7,at_rg' hi,(Hd 5),λa8 h8=>?_⟩
  have T8:UX H4 d (2*i+1) (US a8 (.lst [Rc (2*m+1),Rc (2*on+1),Rc (2*i),Rc (2*Vh i),Rc (2*Vh i+1)])):=T7.k0 (Ho h8)
  have g8:(US a8 (.lst [Rc (2*m+1),Rc (2*on+1),Rc (2*i),Rc (2*Vh i),Rc (2*Vh i+1)])) a8=some (Hr (((JP (2*i+1)).map PB).map V.str)):=by rw[zab,ro];rfl
  generalize US a8 (.lst [Rc (2*m+1),Rc (2*on+1),Rc (2*i),Rc (2*Vh i),Rc (2*Vh i+1)])=H8 at T8 g8
  obtain⟨kv8,vw,kl8,T9⟩:=T8.put aA bJ h7 Hb g8
  refine⟨wI,wI,wI,oa,_,_,wI,rfl,Hk (T8.kp _ _ go nod),xz,d,wI,DPut.k (k:=Sum.inr (Z0 (2*i+1))) vw Hb,?_⟩
  exact⟨⟨_,wI⟩,by rw[show 2*HN=2*i+1+1 by lia];exact T9⟩
 ·rintro σ H5 ⟨⟨x7,x8,rfl⟩,T5⟩
  have rt:JP (2*m)=(Se m).map (2*·):=by unfold trR;rw[if_neg Hb,if_pos rfl]
  have rg:JP (2*m+1)=((Se m).map λk=>2*k+1).reverse:=by unfold trR;rw[if_neg Hb,if_neg Hb]
  refine⟨wI,ia,wI,SS (Gx gi nid),λa6 h6=>?_⟩
  have T6:UX H4 d (2*m) (wg a6 ((BZ m).map V.str)):=T5.k0 (Ho h6)
  have g6:(wg a6 ((BZ m).map V.str)) a6=some (Hr (((JP (2*m)).map PB).map V.str)):=by rw[zab,rt];unfold innP;rw[List.map_map,List.map_map,List.map_map];rfl
  generalize QP a6 (Hr ((BZ m).map V.str))=H6 at T6 g6
  obtain⟨kv,dv,kl,T7⟩:=T6.put aA bJ h7 Hb g6
  refine⟨wI,wI,d,wI,DPut.k (k:=Sum.inr (Z0 (2*m))) dv Hb,?_⟩
  generalize WD d (Il kv (2*m) a6)=H7 at T7
  refine⟨wI,oa,wI,Hk (Gy go nod),λa8 h8=>?_⟩
  have T8:UX H4 d (2*m+1) (US a8 (.lst ((B4 m).map V.str).reverse)):=T7.k0 (Ho h8)
  have g8:(US a8 (.lst ((B4 m).map V.str).reverse)) a8=some (Hr (((JP (2*m+1)).map PB).map V.str)):=by
   rw[zab,rg,List.map_reverse,List.map_reverse];unfold outP;rw[List.map_map,List.map_map,List.map_map];rfl
  generalize US a8 (.lst ((B4 m).map V.str).reverse)=H8 at T8 g8
  obtain⟨kv8,vw,kl8,T9⟩:=T8.put aA bJ h7 Hb g8
  refine⟨wI,wI,d,wI,DPut.k (k:=Sum.inr (Z0 (2*m+1))) vw Hb,?_⟩
  generalize BI d (Il kv8 (2*m+1) a8)=H9 at T9
  obtain⟨es,ra,rs,kp⟩:=T9
  have bv:es.length=2*m+2:=by
   have:=congrArg List.length rs
   unfold rsOf at this
   rw[Qa,Qa,Yo]at this;exact this
  refine⟨wI,kq d es H9 hd ⟨ra,?_,Hb⟩ (λx hx=>?_) λc o ec _=>kp c o (dR c o LJ Ha) (by simpa using WM hd)⟩
  ·rw [rs]
   exact tr_good h3 h7 λi j hi hj e=>nm_inj aA bJ h7 hi hj e
  ·rw [← zbq,rs,Zj] at hx
   obtain⟨i,hi,rfl⟩:=Qf.mp hx
   have aU:=Gw (Wk.mp hi)
   show zs.getD (FG i) "" ∈ zs
   rw[Zf,Qd Hb]
   exact Qr _
end
abbrev sRounds:Stmt:=top 54
inductive IspRounds(K:Na)(vs:List V)(H:Hp)(Q:VK):Prop
 |mk (a:Nc) (ns:List Int) (mo:Nat) (h0:vs=[.ref a,.int (mo:Int)]) (h1:SqL K H a (ns.map V.int)) (h2:1≤mo) (h3:mo≤16)
  (h4:∀(d:Nc) (aj:List Ent) (H':Hp),H d=none→YU aj→(∀x∈aj.map (·.1),zfv x)→Keep [] H H'→Q El H'):Gz Q
def spRounds(K:Na):Sp:=λvs H Q _=>Gz Q
section
variable{P:Nk}{w:Nn}{K:Na}{mg:Ng}{base:Np}
def zc2:zaj [qS, "_law_most",qP,qN, "_law_way",qR, "_law_k"] [qS, "_law_most"] (zai sRounds):=fsk
def ok_rounds(F:QE "_law_rounds" "_law_rounds" sRounds f fd)(GP:ZF "_law_pot" ["_law_cell_here"] 1 spPot)(GC:ZF "_law_cell" [qS, "_law_k"] 1 xg)(GT:ZF "_law_take" [qP,qM] 1 zf9)(GN:ZF "_law_names" [qP,qM] 2 spNames)(GR:ZF "_law_two_rings" [qN,qM] 1 spRings)(GU:ZF "_law_untied" [qR,qP] 2 zga)(GG:ZF "_law_grown" [qP,qN] 2 spGrown)(GX:ZF "_law_crossed" [qR,qP] 3 zga)(GL:ZF "_law_filled" [qR] 3 spFilled)(aG:mg "range" = none):ZB 4 f fd [qS, "_law_most"] (spRounds K):=by
 refine F.okL zc2 Hn
 obtain⟨a,ns,mo,rfl,hS,ku,cb,kq⟩:=h
 have ap:=sizeLine_eq
 have ai:BJ _:=hr.mono Hf
 have bB:N7 _:=hr.mono Hf
 refine⟨_,zad (Ve zc2.nd (GA (Rx (FH ai wo))))
  (zad (Br zc2.nd (pcl GN bB (ZW SY)))
  (zad (Bb zc2.nd (QO (ZW SY)))
  (zad (zbn (Bd Sd zah Sq)
   (zad (XR zc2.nd (pcl GR ai (QB (Rx (WV zah (QO (ZW SY)))))))
   (zad (Z4 (U7 (Df zae)) (XC zc2.nd)
    (zag (zbg (pcl GU bB wp))))
   (zag IZ))) zap)
  (zad (XR zc2.nd (pcl GG bB (zE (FY Pz zdh (zcd (WV zah (QO (ZW SH))))))))
  (zad (Z4 (U7 (Df zae)) (XC zc2.nd)
    (zag (zbg (O1 GX wp))))
  (zad (zC (Bd Sd zah Sq) (zag (zbg (O1 GL LI))))
  (zag IZ))))))),?_⟩
 refine⟨wI,a,ns,0,rfl,hS,λc=>⟨c,rfl,λp b m H1 fh gY k1=>?_⟩⟩
 refine⟨wI,p,b,m,16,rfl,gY,Hf,λnl zs b2 m2 H2 om bJ ng mZ cX fnl k2=>?_⟩
 refine⟨wI,p,b2,m2,4,rfl,cX,Hf,Hf,λwy b3 m3 H3 h30 h31 cH sJ=>?_⟩
 have k3:=zbh sJ
 have nlp:nl≠p:=zgh cX om
 have oj:=k3 _ _ om IW
 have dS:Keep [] H H3:=λc o ec _=>by
  have ncp:c∉[p]:=by simpa using WM fh
  exact k3 c o (k2 c o LJ ncp) ncp
 have newp:∀{H4:Hp},Keep [p] H3 H4→Keep [] H H4:=λk c o ec _=>k c o (dS c o ec Ha) (by simpa using WM fh)
 refine⟨wI,rfl,wI,?_⟩
 refine ite2 (λ_=>?_) (λ_=>?_)
 ·refine ⟨_,rfl,_,rfl,p,b3,m3,5,rfl,cH,Hf,Hf,fun d4 b4 m4 H4 lh qb bU jF=>?_⟩
  obtain⟨j4,rfl⟩:=Zq lh
  have k4:=zbh jF
  have km:=k4 _ _ oj IW
  refine⟨_,wI,rfl,nl,zs,3+j4,rfl,km,ng,bJ,Hb,Hb,λd es H5 fd5 D5 nsub k5=>?_⟩
  have aT:=bU.keep k5 Ha
  have npd:p≠d:=zac bU.1 fd5
  refine⟨wI,p,b4,m4,5,rfl,aT,Hf,Hf,λd6 b6 m6 H6 vg h61 bn mU=>?_⟩
  have k6:=zbh mU
  have D6:=D5.pot aT k6
  have gQ:Keep [] H H6:=newp ((SQ Cq).trans k6)
  have fd:H d=none:=zao (newp k4) fd5 Ha
  refine⟨d6,rfl,Hb,Hb,?_⟩
  refine zcq (lo:=0) (λi σ H'=>Aj3 (Ex1 λx6=>σ=[Hc a,Hs (.int (mo:Int)),zj,Hc nl,RZ wy,Tf,x6]) (Keep [d,p] H6 H') (Ex3 λ(aj:List Ent) (b' m':Int)=>YD (aj.map (·.1)=es.map (·.1))))
   ⟨⟨_,rfl⟩,Keep.refl,es,b6,m6,D6,bn,rfl⟩ ?_ ?_
  ·rintro i σ H7 hi ⟨⟨x6,rfl⟩,k7,qf,b7,m7,D7,bm,n7⟩
   refine⟨wI,wI,p,d,b7,m7,qf,rfl,bm,D7,λb8 m8 fE H8 c9 D8 n8 k8=>?_⟩
   exact⟨⟨wI⟩,k7.trans k8,fE,b8,m8,D8,c9,n8.trans n7⟩
  ·rintro σ H7 ⟨⟨x6,rfl⟩,k7,qf,b7,m7,D7,bm,n7⟩
   refine⟨wI,kq d qf H7 fd D7 (λx hx=>mZ x (nsub x (n7▸hx))) λc o ec _=>k7 c o (gQ c o ec Ha) ?_⟩
   simp
   exact⟨WM fd,WM fh⟩
 ·refine ⟨_,rfl,_,rfl,_,rfl,_,rfl,p,b3,m3,mo,rfl,cH,Hb,Hb,fun d4 b4 m4 H4 lh qb bU jF=>?_⟩
  obtain⟨j4,rfl⟩:=Zq lh
  have k4:=zbh jF
  have km:=k4 _ _ oj IW
  refine⟨_,wI,rfl,wI,nl,wI,Hk km,λl5 cj=>?_⟩
  have aN:(zs.map V.str).length=16:=by rw[Qa,bJ]
  rw[show(1:Int)+(j4:Int)=((1+j4:Nat):Int) from rfl,cut_to E9,←Jn]
  have k5:Keep [] H4 (Q7 l5 (Hr ((PF (1+j4)).map V.str))):=Keep.new cj
  have g5:(Q7 l5 (Hr ((PF (1+j4)).map V.str))) l5=some (Hr ((PF (1+j4)).map V.str)):=zab
  generalize Q7 l5 (Hr ((PF (1+j4)).map V.str))=H5 at k5 g5
  have aT:=bU.keep k5 Ha
  refine⟨p,l5,b4,m4,PF (1+j4),rfl,aT,g5,ng.sublist (Ur _ _),HH Zt,λd b6 m6 es H6 fd6 bn D6 n6 k6=>?_⟩
  have npd:p≠d:=zac aT.1 fd6
  have gR:Keep [] H H5:=newp (SQ Cq)
  have fd:H d=none:=zao gR fd6 Ha
  have gQ:Keep [] H H6:=newp ((SQ Cq).trans k6)
  refine⟨wI,p,b6,m6,25,rfl,bn,Hf,Hf,λd7 b7 m7 H7 mj mi bm iZ=>?_⟩
  have k7:=zbh iZ
  have D7:=Gu k7
  have gP:Keep [] H H7:=λc o ec _=>k7 c o (gQ c o ec Ha) (by simpa using WM fh)
  refine⟨d7,rfl,Hb,Hb,?_⟩
  have fin:∀(aj:List Ent) (H':Hp),YU aj→aj.map (·.1)=es.map (·.1)→Keep [d,p] H7 H'→Q El H':=λaj H' D' n' k'=>by
   refine kq d aj H' fd D' (λx hx=>mZ x (Ut (n6▸n'▸hx))) λc o ec _=>k' c o (gP c o ec Ha) ?_
   simp
   exact⟨WM fd,WM fh⟩
  refine zcq (lo:=0) (λi σ H'=>Aj3 (Ex1 λx6=>σ=[Hc a,Hs (.int (mo:Int)),zj,Hc nl,RZ wy,Tf,x6]) (Keep [d,p] H7 H') (Ex3 λ(aj:List Ent) (b' m':Int)=>YD (aj.map (·.1)=es.map (·.1))))
   ⟨⟨_,rfl⟩,Keep.refl,es,b7,m7,D7,bm,rfl⟩ ?_ ?_
  ·rintro i σ H8 hi ⟨⟨x6,rfl⟩,k8,fE,b8,m8,D8,c9,n8⟩
   refine⟨wI,wI,p,d,b8,m8,fE,rfl,c9,D8,λb9 m9 vm H9 o9 D9 n9 k9=>?_⟩
   exact⟨⟨wI⟩,k8.trans k9,vm,b9,m9,D9,o9,n9.trans n8⟩
  ·rintro σ H8 ⟨⟨x6,rfl⟩,k8,fE,b8,m8,D8,c9,n8⟩
   refine⟨wI,rfl,wI,?_⟩
   refine ite2 (λ_=>?_) (λ_=>?_)
   ·refine⟨wI,d,fE,rfl,D8,λvm H9 D9 n9 k9=>⟨_,rfl,fin vm H9 D9 (n9.trans n8) (k8.trans ES)⟩⟩
   ·exact⟨wI,fin fE H8 D8 n8 k8⟩
end
abbrev sRows:Stmt:=top 55
def zjc(hK:X.K=K):Y2 (.type "list") (λxs H Q=>Ex2 λp ys=>Aj3 (xs=[Tn]) ((YE p ys)∨( SqT K H p ys)) (∀l,H l=none→Q Sy (LS l ys))):=hK▸zc4
inductive IspRows(vs:List V)(H:Hp)(Q:VK):Prop
 |mk (d:Nc) (es:List Ent) (h0:vs=[.ref d]) (h2:DrE H d es)
  (h3:∀(l:Nc) (as:No) (cR:List Ent) (H':Hp),RwAt H' l as cR→rsOf cR=rsOf es→H l=none→Keep [] H H'→Q Sy H'):IspRows vs H Q
def spRows:Sp:=λvs H Q _=>IspRows vs H Q
section
variable{P:Nk}{w:Nn}{K:Na}{mg:Ng}{base:Np}
def scRows:zaj [qR] [qR] (zai sRows):=fsk
def ok_rows(F:QE "_law_rows" "_law_rows" sRows f fd)(av:mg "list" = none):ZB 1 f fd [qR] spRows:=by
 refine F.okL scRows Hj
 obtain⟨d,es,rfl,D0,kq⟩:=h
 have R:=D0.ra
 have aH:=D0.few
 have hu:=zb6 hr
 have ap:=sizeLine_eq
 refine⟨_,zag (zaq (pe_thaw (zff (M:=["_law_place",qR]) (ix:=[none,Hs 0]) (mkB scRows) rfl Pr (λC a5 ex s H=>UN ndCr)
    (λC a5 ex s H=>zcy) (λC a5 ex s H=>zbd (ZM (zaa (zbj (zjc (K:=K) rfl) HQ (by exact av) Wn (Rx (Aq (by exact hu) (pv 0)))) zae)))))),?_⟩
 have nfz:∀o' u',H d≠some Te:=λo' u' z=>by rw[R.dc]at z;cases z
 have aN:(eWV es).length=es.length:=Qa ..
 refine⟨_,rfl,d,_,rfl,R.dc,λo=>⟨λi m ys τ H'=>Ex2 λ(as:No) (cR:List Ent)=>Aj9 (m=es.length-i) (i≤es.length) (ys=as.map V.ref) (Ex1 λx=>τ=[x,Tf]) (H' d=some OZ) (Paired (λa (e:Ent)=>H' a=some (.tup [Rw,Tt])) as cR) (∀e∈cR,H' e.2.2=some Ru) (rsOf cR=rsOf (E5 i)) (Keep [d] H H'),
  ⟨es.length,[],[],Ha,SJ,rfl,⟨none,rfl⟩,zab,.nil,λe he=>(by cases he),rfl,SX⟩,?_⟩⟩
 rintro i m1 ys τ H1 ⟨as,cR,rfl,hi,rfl,⟨x0,rfl⟩,hz,aS,jQ,cE,k1⟩
 have cg:cR.length=i:=by
  have:=congrArg List.length cE
  unfold rsOf at this
  rw[Qa,Qa,Zt]at this;lia
 have aW:as.length=i:=by rw[Zy aS,cg]
 by_cases ad:i<es.length
 ·refine .inr ⟨⟨hz,by rw [aN];exact ad⟩,by rw [Qa];lia,?_⟩
  rintro x H' ⟨rfl,pr,e1,rfl⟩
  have g1:pr=((Sum.inr es[i].1:Key),V.ref es[i].2.2):=by
   rw[Qo,Qd ad]at e1
   exact(Qn e1).symm
  subst g1
  have bh:es[i]∈es:=Qr ad
  have tk:es.take HN=es.take i++[es[i]]:=Qi ad
  generalize es[i]=e at bh tk
  have fe:=R.ro e bh
  have bM:=k1 _ _ fe (by simpa using za1 fe R.dc Hg)
  refine⟨Rw,rfl,wI,Rw,rfl,d,Tt,rfl,RH ⟨_,Sum.inr e.1,SC ⟨o,hz⟩,rfl,(zb7 R.nd bh).symm⟩,e.2.2,wI,SS bM,λq hq=>⟨SD,λt ht=>?_⟩⟩
  have k2:Keep [] H' (WP (.tup [Rw,Hi q])):=(Ho hq).trans TJ
  have cu:(WP (.tup [Rw,Hi q])) t=some (.tup [Rw,Hi q]):=zab
  have cG:(WP (.tup [Rw,Hi q])) q=some Ru:=by rw[zaf (zac (o:=_) zab ht)];exact zab
  generalize WP (.tup [Rw,Hi q])=H2 at k2 cu cG
  refine⟨_,Hz,as++[t],cR++[(e.1,e.2.1,q)],rfl,ad,by rw[Qq];rfl,⟨wI⟩,E7 hz,zax (Paired.imp' (λa p h=>k2 _ _ h Ha) aS) (Sa cu),λe' bo=>?_,?_,Lm (k2.sub Ha)⟩
  ·rcases Ql.mp bo with z | z
   ·exact k2 _ _ (jQ e' z) Ha
   ·rw[Qc.mp z];exact cG
  ·rw [tk]
   unfold rsOf at cE ⊢
   rw[Qq,Qq,cE];rfl
 ·have ck:i=es.length:=by exact zar3 ‹_› ‹_›
  subst ck
  refine .inl ⟨⟨hz,Rm aN⟩,λD hD=>?_⟩
  rw[Qs Hx]at cE
  have ndD:d≠D:=KU hD
  refine⟨d,o,_,yj,nfz,?_⟩
  have tk:∀{c:Nc} {u:HO},H1 c=some u→c≠d→(upd (QK D Rz) d Ra) c=some u:=λh n=>by rw[zaf n,zaf (zy h hD)];exact h
  have lW:H D=none:=Fy hD (by simpa using Zl ndD)
  refine kq D as cR _ ⟨Ht (Zl ndD) zab,Paired.imp' (λa e h=>tk h Ad) aS,λe he=>tk (jQ e he) (za1 (jQ e he) hz Hg)⟩ cE lW λc u ec _=>?_
  by_cases aJ:c=d
  ·subst aJ
   rw[zab,←R.dc];exact ec
  ·exact tk (k1 c u ec (He aJ)) aJ
end
end K21
end
section
namespace L2
open PySem PySem.Spec PyProof.Rows
section
variable{prog:Nk}{w:Nn}
end
section
variable{X:Cx}{i o:Expr}{ty td:TE}
end
end L2
namespace L2
end L2
namespace K21
open PySem L2 Wb
structure HAt(H:Hp)(u:Nc)(hs:List (Str×Int)):Prop where
 dc:H u=some A7
 nd:(hs.map (·.1)).Nodup
def zes{hs:List HS}{x:Str}(h:x∉hs.map (·.1)):valV RD EA=none:=by
 induction hs with
 |nil=>rfl
 |cons a t ih =>
  rw[Qm,Qh,not_or]at h
  rw[Qm,zbl]
  ·exact ih h.2
  ·intro q;exact h.1 (Wc q).symm
def zcb{hs:List HS}(nd:(hs.map (·.1)).Nodup){e:Str×Int}(h:e∈hs):valV (hs.map fun e=>Hh) Sf=some (.int e.2):=by
 induction hs with
 |nil=>cases h
 | cons a t ih =>
  rw[Qm,Qt]at nd
  rw[Qm]
  rcases Qh.mp h with z | z
  ·subst z;exact zcc rfl
  ·rw [zbl]
   ·exact ih nd.2 z
   ·intro q
    exact nd.1 (by rw[Wc q];exact Qf.mpr ⟨e,z,rfl⟩)
def HAt.keep{H H':Hp}{u:Nc}{hs:List HS}{xs:No}(h:Dg hs)(k:W9 H')(hu:u∉xs):B5 u hs:=⟨k _ _ h.dc hu,h.nd⟩
def hueV(hs:List HS)(z:Str):V:=(valV RD Ob).getD .non
def hueV_is(hs:List HS)(z:Str):B7 z=.non∨∃v,B7 z=.int v:=by
 unfold hueV
 induction hs with
 |nil=>exact .inl rfl
 |cons a t ih =>
  rw[Qm]
  by_cases h:a.1=z
  ·rw[h,zcc rfl];exact .inr ⟨_,rfl⟩
  ·rw[zbl (λq=>h O7)];exact ih
def HAt.new{H:Hp}{u:Nc}{hs:List HS}(h:Dg hs){x:Str}(v:Int)(hx:x∉hs.map (·.1)):HAt (TC u (putK RD EA (HM v))) u (hs++[(x,v)]):=by
 refine⟨by rw[zab,FU (zes hx),Qq];rfl,?_⟩
 rw[Qq,Ze]
 refine⟨h.nd,EC ⟨Ha,Zn⟩,λy hy z hz e=>?_⟩
 have dU:z=x:=by simpa using hz
 exact hx (by rw[←dU,←e];exact hy)
end K21
namespace K21
open PySem L2 Wb
inductive IspPieceL(vs:List V)(H:Hp)(Q:VK):Prop
 |mk (d:Nc) (es:List Ent) (x:Str) (h0:vs=[.ref d,.str x]) (h1:RAt H d es) (h2:es.length≤60) (h3:∀z y,y∈row (rsOf es) z→y∈es.map (·.1)) (h4:x∈es.map (·.1)) (h5:∀(l:Nc) (zs:Nh) (H':Hp),H' l=some (.lst (zs.map V.str))→zs.Nodup→zs.Pairwise leS→(∀y,y∈zs↔Conn (row (rsOf es)) x y)→H l=none→Keep [] H H'→Q (.ref l) H'):IspPieceL vs H Q
def spPieceL:Sp:=λvs H Q _=>IspPieceL vs H Q
section
variable{P:Nk}{w:Nn}{K:Na}{mg:Ng}{base:Np}
def ok_pieceL(F:QE "piece_from" "piece_from" zhj f fd)(aB:mg "sorted" = none):ZB 1 f fd ["rounds", "start"] spPieceL :=
 (ok_pieceG false F aB).imp λvs H Q E ⟨d,es,x,e,T,r1,r2,r3,r4⟩=>⟨d,es,x,e,⟨T.dc,T.ro,T.nd⟩,r1,r2,r3,r4⟩
end
end K21
namespace K21
open PySem L2 Wb
structure HF(H:Hp)(u:Nc)(hs:List (Str×Int)):Prop where
 dc:H u=some A7∨∃o,H u=some (Tu A7)
 nd:(hs.map (·.1)).Nodup
def HF.get(h:HF H u hs)(k:Key):BF u (kV k) (valV RD k):=.inl ⟨_,k,h.dc,rfl,rfl⟩
def HF.keep(h:HF H u hs)(k:Rl H):HF H' u hs:=⟨h.dc.imp (λe=>k _ _ e Ha) λ⟨o,e⟩=>⟨o,CP e⟩,h.nd⟩
def tw(hs:List HS)(h0 o:Int)(y:Str):Bool:=inV (B7 y) [S7 h0,S7 o]
def r2(es:List Ent)(hs:List HS)(h0 o:Int)(z:Str):List Str:=(ZK z).filter (Bu h0 o)
end K21
namespace L2
open PySem PySem.Spec PyProof.Rows
def pi_lstK{X:Cx}{K:Na}{tg l:Expr}{tl:TE}(hK:X.K=K)(hl:P4):UK l (iList K tl):=hK▸zas hl
def or_no{t u:TT}{A B:TS}{D:Ends}{σ:St}{H:Hp}(ht:∀k:Bool→Hp→Prop,k false H→t σ H k)(hu:∀k:Bool→Hp→Prop,k false H→u σ H k)(q:B D σ H):tIfS (tOr t u) A B D σ H :=
 ht _ (by
  show if(false=true) then _ else u σ H (λb H1=>if b=true then A D σ H1 else B D σ H1)
  exact iteF (hu _ (iteF q)))
end L2
namespace K21
open PySem L2 Wb
abbrev zid:Stmt:=NV 2
abbrev zhk:Stmt:=top 17
def vltOf:Expr→Expr
 |.DictComp _ e _ _ _=>e
 |e=>e
def valH_is(hs:List HS)(z:Str):valV RD Ob=none∨∃n,valV RD Ob=some (HM n):=by
 induction hs with
 |nil=>exact .inl rfl
 |cons a t ih =>
  rw[Qm]
  by_cases h:a.1=z
  ·rw[h,zcc rfl];exact .inr ⟨_,rfl⟩
  ·rw[zbl (λq=>h O7)];exact ih
def conn_two{es fs:List Ent}{hs:List HS}{h o:Int}{s:Str}{ws:Nh}(gU:ws=(es.map (·.1)).filter (Bu h o))(gH:∀ z y,y∈ZK z→y∈es.map (·.1))(ap:s∈ws)(hf:∀z,row (Lh fs) z=if z∈ws then(ZK z).filter λy=>decide (y∈ws) else[])(y:Str):Conn (Pt fs) s y↔Dw y:=by
 constructor
 ·intro c
  induction c with
  |refl=>exact .refl
  | @step z y _ hz ih =>
   rw[hf]at hz
   split at hz
   ·have:=Zd.mp hz
    have hy:=of_decide_eq_true this.2
    rw[gU]at hy
    exact .step ih (yn ⟨this.1,(Pf hy).2⟩)
   ·cases hz
 ·intro c
  suffices Conn (Pt fs) s y∧y∈ws from this.1
  induction c with
  |refl=>exact⟨.refl,ap⟩
  |@step z y _ hz ih =>
   have:=Zd.mp hz
   have hy:y∈ws:=by rw[gU];exact Zd.mpr ⟨gH z y this.1,this.2⟩
   exact⟨.step ih.1 (by rw[hf,if_pos ih.2];exact Zd.mpr ⟨this.1,HY hy⟩),hy⟩
inductive zhz(C:Nc)(vs:List V)(H:Hp)(Q:VK):Prop
 |mk (x dx d:Nc) (es:List Ent) (e:Ent) (h0:vs=[.ref x,.str e.1]) (h1:WAt H C x dx d es) (h2:e∈es) (h3:∀l,H l=none→Q (.ref l) (upd H l (.lst (e.2.1.map V.str)))):zhz C vs H Q
def zdr(C:Nc):Sp:=λvs H Q _=>zhz C vs H Q
inductive IspChain(C:Nc)(vs:List V)(H:Hp)(Q:VK):Prop
 |mk (x dx d u:Nc) (es:List Ent) (hs:List (Str×Int)) (s:Str) (h o:Int) (h0:vs=[.ref x,.ref u,.str s,.int o]) (h1:WAt H C x dx d es) (h2:es.length≤40) (h2':∀e∈es,e.2.1.length≤100) (h3:∀z y,y∈row (rsOf es) z→y∈es.map (·.1)) (h4:HF H u hs) (h5:(s,h)∈hs) (h6:s∈es.map (·.1)) (h8:o≠h) (h9:0≤o)
  (h7:∀(l:Nc) (zs:Nh) (H':Hp),H' l=some EX→zs.Nodup→zs.Pairwise leS→(∀y,y∈zs↔Dw y)→H l=none→Keep [] H H'→Q Sy H'):IspChain C vs H Q
def spChain(C:Nc):Sp:=λvs H Q _=>IspChain C vs H Q
def ndA:(["place", "hues", "two"]:List Str).Nodup:=by decide +kernel
abbrev csB:Scope:=scOf wq
def ndB:(["place", "web", "within"]:List Str).Nodup:=by decide +kernel
abbrev csD:Scope:=scOf (vltOf wq)
def csD_f{env:Env}(h:env.scope=zai zhk):∀y∈csD.names,y.2=.free→(Oi csB).names.lookup y.1=some .cell∨(Oi csB).names.lookup y.1=some .free:=by
 unfold relabel Env.kindOf
 rw[h]
 decide +kernel
def csD_l:csD.names.lookup ("within" : Str)=some NameKind.free:=by decide +kernel
def ndD:(["beside", "within"]:List Str).Nodup:=by decide +kernel
section
variable{P:Nk}{w:Nn}{K:Na}{mg:Ng}{base:Np}
def scRoundOf:zaj ["self", "place"] ["self", "place"] (zai zid):=fsk
def ok_roundof(F:QE "round_of" "Web.round_of" zid f fd)(cW:Mf C)(nW:NM "rounds")(av:mg "list" = none):ZB 1 f fd ["self", "place"] A8:=by
 refine F.okL scRoundOf Hj
 obtain⟨x,dx,d,es,e,rfl,wt,he,k⟩:=h
 have hu:=zb6 hr
 refine⟨_,zad (Tb (A3 Rj ya))
  (zag (zaq (wF (Rx (My ya Rj))))),?_⟩
 have g:=DGet.k (k:=Sum.inr e.1) wt.ta.dc
 rw[zb7 wt.ta.nd he]at g
 refine⟨wI,wI,x,C,dx,_,wI,wt.ob,cW,nW,rfl,d,wI,g,wI,WG ?_⟩
 exact⟨wI,x,C,dx,_,wI,wt.ob,cW,nW,rfl,wI,d,wI,g,e.2.2,wI,SC (Rk (wt.ta.ro e he)),k⟩
def zfe:zaj ["web", "hues", "start", "other", "two", "within", "rounds"] ["web", "hues", "start", "other"] (zai zhk):=fsk
def ok_chain(F:QE "chain" "chain" zhk f fd)(cW:Mf C)(nW:NM "rounds")(mP:Vi "places" fp)(bP:W7 fdp ["self"] [])(GP:ZB 1 fp fdp ["self"] (zh8 C))(mR:Vi "round_of" fr)(bR:W7 fdr ["self", "place"] [])(GR:ZB 1 fr fdr ["self", "place"] A8)(GF:ZF "piece_from" ["rounds", "start"] 1 spPieceL) :
  FnOk P w K mg base CX0 2 f fd ["web", "hues", "start", "other"] (spChain C):=by
 refine F.okL zfe Hn
 obtain⟨x,dx,d,u,es,hs,s,h0,o,rfl,wt,aH,aV,gH,hh,tN,jc,hoh,ho,k⟩:=h
 have hu:=zb6 hr
 have ai:BJ _:=hr.mono Hf
 have ap  := sizeLine_eq
 refine⟨_,zad (Tb (PW.pt (pw_or (A3 Sc Rj) (pw_or1 (A3 Sc ya)))))
  (zad (Tb (PW.pt (pw_or (Bd RX (My Rj Sc) Sq) (pw_or1 (M6 RX zah Sq)))))
  (zad (zgg (i:=4) zfe.nd rfl TY (zbd (zaa (My Rj Sc) Tp)))
  (zad (zgg (i:=5) zfe.nd rfl TY (zff (M:=["place", "hues", "two"]) (ix:=[none,xq,Hs 4]) (mkB zfe) rfl (IP (pe_meth0 (pl:=_) R6 cW mP GP ai bP .nil zdi)) (λC a5 ex s H=>UN ndA)
      (λC a5 ex s H=>zci (PW.pt (zhl (Ch (by exact hu) R6) (zge (zar (zfg (K:=K) rfl) (Aq (by exact hu) R6) Sc rfl))))) RG))
  (zad (ps_dc (i:=6) (M:=["place", "web", "within"]) (ix:=[none,Hs 0,Hs 5]) zfe.nd rfl rfl (mkB zfe) rfl (IP So) (fun C a5 ex s H=>UN ndB)
      (λC a5 ex s H=>zcy) RG
      (fun C a5 ex s H=>zff (M:=["beside", "within"]) (ix:=[none,Hs 2]) ⟨by rfl,by decide +kernel,by decide +kernel,csD_f rfl,rfl,ndD,fun j i x h1 h2=>by
       match j,h1,h2 with
       |0,_,h2=>cases h2
       |1,h1,h2=>cases h1;cases h2;exact⟨rfl,csD_l⟩
       |n+2,h1,_=>cases h1⟩ rfl (pi_lstK (K:=K) rfl (zgi (pl:=_) Rj cW mR GR (by exact ai) bR .nil zdi SM)) (λC a5 ex s H=>UN ndD)
       (λC a5 ex s H=>zci (zar (zfg (K:=K) rfl) R6 Rj rfl)) RG) rfl)
  (zag (zaq (VD (W5 Sn)))))))),?_⟩
 have aA:=wt.ta.nd
 obtain⟨en,bv,uO⟩:=Qf.mp jc
 have pz:en.1=s:=uO
 have dX:valV RD (Sw s)=some Au:=BT tN
 have g1:∀{H':Hp},HF H' u hs→DGet H' u (Ts s) (RZ h0):=λ{H'} hh'=>by
  have:=hh'.get (Sw s)
  rwa[dX]at this
 have g2:BF d (Ts s) Ih:=by
  have:=DGet.k (k:=Sum.inr en.1) wt.ta.dc
  rw[zb7 aA bv,pz]at this
  exact this
 have tF:Bu h0 o s=true:=by
  unfold tw hueV
  rw[dX]
  show(_||_)=true
  rw[Jr]
  exact .inl (EU h0)
 refine or_no (λk hk=>⟨_,rfl,_,rfl,u,_,rfl,g1 hh,_,rfl,hk⟩) (λk hk=>⟨_,rfl,_,rfl,x,C,dx,_,_,rfl,wt.ob,cW,nW,rfl,d,_,rfl,g2,_,rfl,hk⟩) ?_
 dsimp only[tNext]
 refine or_no (λk hk=>⟨_,rfl,_,rfl,_,rfl,u,_,rfl,g1 hh,rfl,_,rfl,?_⟩) (λk hk=>⟨_,rfl,_,_,rfl,rfl,_,rfl,?_⟩) ?_
 ·rw[decide_eq_false (λe=>hoh (by injection e))];exact hk
 ·rw[decide_eq_false Hb];exact hk
 refine⟨wI,wI,u,wI,g1 hh,wI,SD,λtp gW=>?_⟩
 have k1:Keep [] H (ZX tp (.tup [Au,PP])):=Keep.new gW
 have dZ:(ZX tp (.tup [Au,PP])) tp=some (.tup [Au,PP]):=zab
 generalize ZX tp (.tup [Au,PP])=H1 at k1 dZ
 have sd:∀{H':Hp},Keep [] H H'→Y3 es:=λkk=>wt.keep kk Ha Ha λ_ _=>by simp
 refine⟨wI,x,dx,wI,(sd k1).ob,rfl,x,dx,d,es,rfl,sd k1,λpl ba=>⟨pl,rfl,⟨_,TQ⟩,?_⟩⟩
 have k2:Keep [] H (QK pl Rt):=k1.trans (Ho ba)
 have o6:(QK pl Rt) pl=some Rt:=zab
 have cu:(QK pl Rt) tp=some (.tup [Au,PP]):=by rw[zaf (zy dZ ba)];exact dZ
 generalize QK pl Rt=H2 at k2 o6 cu
 have uF:HF H2 u hs:=hh.keep k2
 refine zep (xs:=(es.map (·.1)).map V.str) (λ τ=>∃x0,τ=[x0,some (.ref u),some (.ref tp)]) (λv=>match v with | .str z=>tw hs h0 o z | _=>false) (SqL.of o6) (by rw[Qa,Qa];lia) ⟨none,rfl⟩ ?_ (λwi hwi=>?_)
 ·rintro v hv τ ⟨x0,rfl⟩ q1 q0 h1 rN
  obtain⟨z,hz,rfl⟩:=Qf.mp hv
  have gz:=uF.get Ob
  refine⟨wI,wI,u,wI,gz,wI,?_⟩
  rcases valH_is hs z with hn | ⟨n,hn⟩
  ·rw [hn]
   exact iteF (iteF (rN (by show Bu h0 o z=false;unfold tw hueV;rw[hn];rfl) _ ⟨_,rfl⟩))
  ·rw [hn] at gz ⊢
   refine iteT ⟨_,rfl,_,rfl,u,_,rfl,gz,_,rfl,tp,_,rfl,SC (Rk cu),rfl,rfl,_,rfl,?_⟩
   have e2:(if false=true then !Vj [Au,PP] else Vj [Au,PP])=Bu h0 o z:=by unfold tw hueV;rw[hn];rfl
   rw[e2]
   cases nE:Bu h0 o z with
   |false=>exact iteF (rN nE _ ⟨_,rfl⟩)
   |true=>exact iteT ⟨_,rfl,h1 nE _ ⟨_,rfl⟩⟩
 have ew:((es.map (·.1)).map V.str).filter (λv=>match v with | .str z=>tw hs h0 o z | _=>false)=((es.map (·.1)).filter (tw hs h0 o)).map V.str:=Uo
 rw[ew]
 obtain⟨ws,gU⟩:∃ws,ws=(es.map (·.1)).filter (Bu h0 o):=⟨_,rfl⟩
 rw[←gU]
 have dW:ws.Nodup:=gU▸Yx Uw aA
 have hwe:∀z∈ws,z∈es.map (·.1):=λz hz=>by rw[gU]at hz;exact(Pf hz).1
 have dw:ws.length≤es.length:=by
  have:=zb9 dW hwe
  rwa[Qa]at this
 have lJ:s∈ws:=by rw[gU];exact Zd.mpr ⟨jc,tF⟩
 have k3:Keep [] H (QA wi Rv):=k2.trans (Ho hwi)
 have jI:(QA wi Rv) wi=some Rv:=zab
 generalize QA wi Rv=H3 at k3 jI
 refine⟨wI,wi,rfl,⟨_,Hk jI⟩,?_⟩
 refine⟨λi m ys τ H'=>Aj5 (m=ws.length-i) (i≤ws.length) (∃x0,τ=[x0,zk,Hc wi]) (Rl H3) (Ex1 λ(fs:List Ent)=>Aj4 (ys=eWV fs) (rsOf fs=(ws.take i).map λz=>(z,(ZK z).filter λy=>decide (y∈ws))) (∀e∈fs,H' e.2.2=some Ru) (∀e∈fs,H3 e.2.2=none)),
  ⟨_,rfl,SJ,⟨none,rfl⟩,λ_ _ e _=>e,[],rfl,rfl,λe he=>(by cases he),λe he=>(by cases he)⟩,?_⟩
 rintro i m ys τ H4 ⟨rfl,hi,⟨x0,rfl⟩,k4,fs,rfl,cE,fT,lW⟩
 have jf:fs.map (·.1)=ws.take i:=by
  rw[←zbq,cE,Zj]
  exact List.map_id _
 have hU:fs.length=i:=by
  have:=congrArg List.length jf
  rw[Qa,Zt]at this;lia
 have ik:=k4 _ _ jI Ha
 by_cases ad:i<ws.length
 ·refine .inr ⟨⟨_,_,Hk ik,by rw [Qo,Qd ad];rfl⟩,by rw [Qa,hU];lia,?_⟩
  rintro v H4 ⟨rfl,hv⟩
  have aX:=hv _ (Hk ik)
  rw[Qo,Qd ad]at aX
  have tz:v=.str ws[i]:=(Qn aX).symm
  subst tz
  have hzw:ws[i]∈ws:=Qr ad
  obtain⟨e,he,rq⟩:=Qf.mp (hwe _ hzw)
  have pk:e.1=ws[i]:=rq
  have w4:=sd (TM k4)
  have tk:ws.take HN=ws.take i++[ws[i]]:=Qi ad
  have hzf:ws[i]∉fs.map (·.1):=by
   rw[jf]
   have:(ws.take HN).Nodup:=VL dW
   rw[tk,Ze]at this
   exact λz=>this.2.2 _ z _ SL rfl
  have bQ:ZK ws[i]=e.2.1:=by rw[←pk];exact zay aA he
  have cg:=aV e he
  refine⟨wI,wI,x,dx,wI,w4.ob,rfl,wI,x,dx,d,es,e,by rw[pk];rfl,w4,he,λl hl=>⟨l,rfl,⟨_,TQ⟩,?_⟩⟩
  have k5:Keep [] H4 (Q7 l Ru):=Keep.new hl
  have cj:(Q7 l Ru) l=some Ru:=zab
  generalize Q7 l Ru=H5 at k5 cj
  have tq:=k5 _ _ ik Ha
  refine zep (xs:=e.2.1.map V.str) (λ τ=>∃x0,τ=[x0,some (.ref wi)]) (λv=>match v with | .str z=>decide (z∈ws) | _=>false) (SqL.of cj) (by rw[Qa];lia) ⟨none,rfl⟩ ?_ (λq hq=>?_)
  ·rintro v hv τ ⟨x0,rfl⟩ q1 q0 h1 rN
   obtain⟨z,hz,rfl⟩:=Qf.mp hv
   refine⟨wI,wI,wi,wI,SS tq,rfl,xy,wI,?_⟩
   have e2:(if false=true then !inV Pl (ws.map V.str) else inV Pl (ws.map V.str))=decide (z∈ws):=zdy
   rw[e2]
   cases hb:decide (z∈ws) with
   |false=>exact iteF (rN hb _ ⟨_,rfl⟩)
   |true=>exact iteT ⟨_,rfl,h1 hb _ ⟨_,rfl⟩⟩
  ·have eq:(e.2.1.map V.str).filter (fun v=>match v with | .str z=>decide (z∈ws) | _=>false)=(e.2.1.filter fun z=>decide (z∈ws)).map V.str:=Uo
   rw[eq]
   refine⟨Sum.inr ws[i],rfl,ws.length-HN,Hb,rfl,ad,⟨wI⟩,(SQ k5).trans IQ,fs++[(ws[i],e.2.1.filter λz=>decide (z∈ws),q)],put_new (r:=e.2.1.filter λz=>decide (z∈ws)) hzf,?_,λe' bo=>?_,λe' bo=>?_⟩
   ·rw [tk,Qq,← cE,← bQ]
    unfold rsOf
    rw[Qq];rfl
   ·rcases Ql.mp bo with z | z
    ·have:=k5 _ _ (fT e' z) Ha
     rw[zaf (zac this hq)];exact this
    ·rw[Qc.mp z];exact zab
   ·rcases Ql.mp bo with z | z
    ·exact lW e' z
    ·rw[Qc.mp z];exact Ga hq Ha
 ·have e:i=ws.length:=by lia
  subst e
  rw[Qs Hx]at cE jf
  refine .inl ⟨⟨_,Hk ik,Rm Qa⟩,λdd hV=>?_⟩
  have RF:RAt (Q7 dd (EQ fs)) dd fs:=⟨zab,λe he=>by rw[zaf (zy (fT e he) hV)];exact fT e he,Hl jf dW⟩
  have kf:Keep [] H (Q7 dd (EQ fs)):=(TM k4).trans (Ho hV)
  generalize Q7 dd (EQ fs)=H6 at RF kf
  have hfz:∀z,row (Lh fs) z=if z∈ws then(ZK z).filter λy=>decide (y∈ws) else[]:=λz=>by
   by_cases hz:z∈ws
   ·rw [Si hz]
    have hmem:(z,(ZK z).filter λy=>decide (y∈ws))∈rsOf fs:=by rw[cE];exact Qf.mpr ⟨z,hz,rfl⟩
    exact zfo (p:=(z,(ZK z).filter λy=>decide (y∈ws))) (by rw[zbq,jf];exact dW) hmem
   ·rw [Sb hz]
    exact zgd (by rw[zbq,jf];exact hz)
  refine⟨wI,wI,dd,fs,s,rfl,RF,Hb,λz y hy=>?_,Hl jf lJ,λl zs H7 bd cT cS cU fl k7=>k l zs H7 bd cT cS (λy=>(cU y).trans (conn_two gU gH lJ hfz y)) (yH kf fl) (kf.trans k7)⟩
  rw[hfz]at hy
  split at hy
  ·rw[jf];exact of_decide_eq_true (Pf hy).2
  ·cases hy
end
end K21
namespace K21
open PySem L2 Wb
abbrev sExIn:Stmt:=top 18
def ex(zs:Nh)(a b:Int)(hs:List HS):List HS:=hs.map λe=>(e.1,if e.1∈zs then(if e.2=a then b else a) else e.2)
def ziz(zs:Nh)(a b:Int)(hs:List HS):(GJ hs).map (·.1)=hs.map (·.1):=by
 unfold ex;rw[List.map_map];rfl
def ex_nil(a b:Int)(hs:List HS):ex [] a b hs=hs:=by
 unfold ex
 rw[Yc (g:=id) λe _=>by simp]
 exact List.map_id _
def ex_put(nd:(hs.map (·.1)).Nodup)(he:e∈hs) :
  putK ((GJ hs).map λe=>Hh) Sf (HM (if e.2=a then b else a))=(ex (zs++[e.1]) a b hs).map λe=>Hh:=by
 unfold putK
 rw[if_pos]
 ·unfold ex
  rw[Zj,Zj,Zj]
  refine Yc λq hq=>?_
  show(if(Sum.inr q.1:Key)=Sum.inr e.1 then((Sum.inr q.1:Key),S7 (if e.2=a then b else a)) else(OC,S7 (if q.1∈zs then(if q.2=a then b else a) else q.2)))=(OC,S7 (if q.1∈zs++[e.1] then(if q.2=a then b else a) else q.2))
  by_cases h:q.1=e.1
  ·have hqe:q=e:=by
    obtain⟨i,hi,rfl⟩:=Zx hq
    obtain⟨j,hj,rfl⟩:=Zx he
    have:i=j:=(We (h₀:=by rw[Qa];exact hi) (h₁:=by rw[Qa];exact hj) nd).mp (by rw[Zk,Zk];exact h)
    subst this;rfl
   subst hqe
   rw[if_pos rfl,if_pos E8]
  ·rw [if_neg fun z=>h (Wc z)]
   by_cases hz:q.1∈zs
   ·rw[if_pos hz,if_pos (YF hz)]
   ·rw[if_neg hz,if_neg λz=>by
     rcases Ql.mp z with y | y
     ·exact hz y
     ·exact h (CS y)]
 ·rw [Yn]
  unfold ex
  rw[Zj]
  exact⟨_,La ⟨e,he,rfl⟩,Ha⟩
inductive IspExIn(vs:List V)(H:Hp)(Q:VK):Prop
 |mk (u l:Nc) (hs:List (Str×Int)) (zs:Nh) (a b:Int) (h0:vs=[.ref u,.ref l,.int a,.int b]) (h1:HF H u hs) (h2:H l=some (.lst (zs.map V.str))) (h3:∀z∈zs,z∈hs.map (·.1)) (h3':hs.length≤40)
  (h4:∀(t:Nc) (H':Hp),H t=none→B5 t (GJ hs)→Keep [] H H'→Q Ll H'):IspExIn vs H Q
def spExIn:Sp:=λvs H Q _=>IspExIn vs H Q
section
variable{P:Nk}{w:Nn}{K:Na}{mg:Ng}{base:Np}
def scExIn:zaj ["hues", "places", "one", "other", "told", "place"] ["hues", "places", "one", "other"] (zai sExIn):=fsk
def ok_exin(F:QE "exchanged_in" "exchanged_in" sExIn f fd)(aI:mg "dict" = none):ZB 1 f fd ["hues", "places", "one", "other"] spExIn:=by
 refine F.okL scExIn Hj
 obtain⟨u,l,hs,zs,a,b,rfl,hh,hl,hzh,iL,k⟩:=h
 have hu:=zb6 hr
 have ap  := sizeLine_eq
 refine⟨_,zad (Bb scExIn.nd (OB SM))
  (zad (Z4 (IP Rj) (XB scExIn.nd)
   (zag (zb5 hu Sd So (pe_ifExp (Bd (QV So) Sc Sq) RX Sc) rfl)))
  (zag (zaq Sd))),?_⟩
 refine⟨wI,u,wI,hh.dc,λt ht=>?_⟩
 have k1:Keep [] H (TC t RD):=Keep.new ht
 have dZ:HAt (TC t RD) t (ex (PF 0) a b hs):=⟨by rw[zab,Kq,ex_nil],by rw[ziz];exact hh.nd⟩
 generalize ZX t A7=H1 at k1 dZ
 refine⟨_,rfl,l,rfl,⟨_,Hk (k1 _ _ hl Ha)⟩,zbc (xs:=zs.map V.str) (λi σ H'=>Aj3 (Ex1 λx5=>σ=[CL,Es,RZ a,RZ b,Hc t,x5]) (B5 t (Bv a b hs)) Pp)
  ⟨⟨_,rfl⟩,dZ,k1⟩ (λi σ H' _ q=>SqL.of (q.3 _ _ hl Ha)) ?_ ?_⟩
 ·rintro i v σ H2 hv ⟨⟨x5,rfl⟩,cu,k2⟩
  have hi:i<zs.length:=by
   have:=(LA hv).1
   rwa[Qa]at this
  have tz:v=.str zs[i]:=by
   rw[Qo,Qd hi]at hv
   exact(Qn hv).symm
  subst tz
  obtain⟨e,he,ez⟩:=Qf.mp (hzh _ IT)
  have mr:e.1=zs[i]:=ez
  have tk:zs.take HN=zs.take i++[e.1]:=by rw[mr];exact Qi hi
  have hg:=(hh.keep k2).get Sf
  rw[BT he]at hg
  rw[←mr]
  have fin:∀v,v=(if e.2=a then b else a)→Aj3 (Ex1 λx5=>[Hs (Le u),Es,RZ a,RZ b,Hc t,LT]=[Hs (Le u),Es,RZ a,RZ b,Hc t,x5]) (HAt (QA t (.dK (putK ((Bv a b hs).map λe=>Hh) Sf (HM v)))) t (ex (PF HN) a b hs)) (Keep [] H (QA t (.dK (putK ((Bv a b hs).map λe=>Hh) Sf (HM v))))):=λv hv=>by
   subst hv
   refine⟨⟨wI⟩,⟨by rw[zab,ex_put hh.nd he,tk],by rw[ziz];exact hh.nd⟩,λc w' ec _=>?_⟩
   rw[zaf (WM ht)];exact k2 c w' ec Ha
  have ae:((Bv a b hs).map λe=>Hh).length<sizeLine:=by
   unfold ex;rw[List.length_map,List.length_map];lia
  refine⟨wI,wI,u,wI,hg,wI,rfl,wI,?_⟩
  by_cases rC:e.2=a
  ·rw [Ty rC]
   exact iteT ⟨_,rfl,_,rfl,_,rfl,t,_,rfl,DPut.k (k:=Sum.inr e.1) cu.dc ae,fin b (by rw[if_pos rC])⟩
  ·rw [decide_eq_false (fun q=>rC (by injection q))]
   exact iteF ⟨_,rfl,_,rfl,_,rfl,t,_,rfl,DPut.k (k:=Sum.inr e.1) cu.dc ae,fin a (by rw[if_neg rC])⟩
 ·rintro σ H2 ⟨⟨x5,rfl⟩,cu,k2⟩
  rw[Qa,Qs Hx]at cu
  exact⟨wI,k t H2 ht cu k2⟩
end
end K21
end
section
namespace HT
open PySem PyProof.Rows
inductive Alike:List Value→List Value→Bool→Prop
 |nil:Alike [] [] false
 |int {a t c u vs ws b}:Alike vs ws b→Alike (.int a t::vs) (.int c u::ws) (if a=c then b else decide (a<c))
 |str {x y:Str} {t u vs ws b}:Alike vs ws b→Alike (.str x t::vs) (.str y u::ws) (if x=y then b else decide (x.cps.toList<y.cps.toList))
def Alike.length(h:Alike vs ws b):vs.length=ws.length:=by
 induction h with
 |nil=>rfl
 |int _ ih=>rw[Qz,Qz,ih]
 |str _ ih=>rw[Qz,Qz,ih]
section
open PySem.SeqAt
open PySem.AutoSeq1 (wpAny_loadPart')
open PySem.MeetsSeq PySem.MeetsSeq2 PySem.MeetsSeq3
def zg9(l b:Nc)(items items2:Array Value)(n n2:Nat)(dd vy:Option Addr)(sl sk:Array TL)(B:Bool)(hi:Vk B) :
  Meets (Builtin.«tuple.__lt__» ⟨[Sy,Ey],[]⟩) (λ_ R s=>s.heap.get? l=some {cls:=.type "tuple",dict:=dd,data:=.seq items n,slots:=sl}∧s.heap.get? b=some {cls:=.type "tuple",dict:=vy,data:=.seq items2 n2,slots:=sk}∧R (C7 (Ow B)) s) :=
 .of_wp λprog w A R s h=>by
  obtain⟨hp,g,d,tk,os⟩:=s;obtain⟨hl,hb,h⟩:=h
  have f2:=AutoSeq1.sub_tuple_tuple
  have z1:items.size=items2.size:=by have:=hi.length;simpa using this
  wp_walk using wpAny_loadPart' hl,wpAny_loadPart' hb,wpAny_forIn_list _ (λrest b s'=>b.1=none∧s'=⟨hp,g,d,tk,os⟩∧∃(vs ws:Nl) (B':Bool),rest=vs.zip ws∧Alike vs ws B'∧R (C7 (Ow B')) ⟨hp,g,d,tk,os⟩) _
  case turn =>
   rintro⟨y,x⟩ rest b s' ⟨dk,rfl,vs,ws,B',hz,ha,hR⟩
   cases ha with
   |nil=>rw[List.zip_nil_left]at hz;cases hz
   | @int a t c u vs ws B2 me =>
    rw[Jt]at hz
    injection hz with cD hrest
    injection cD with hy hx
    subst hy hx
    obtain⟨e,he,oQ⟩:=eqAt_int A.in1 ⟨hp,g,d,tk,os⟩ a t c u
    refine wpAny_bind (he prog w _ _ ?_)
    cases e with
    |true =>
     rw[if_pos (oQ.mp rfl)]at hR
     wp_walk
     exact⟨rfl,rfl,_,_,_,hrest,me,hR⟩
    |false =>
     rw[if_neg (λq=>absurd (oQ.mpr q) Zi)]at hR
     have fe:=rcLt_int A.in1 ⟨hp,g,d,tk,os⟩ a t c u prog w
     wp_walk using fe
     exact⟨wI,He hR⟩
   | @str x' y' t u vs ws B2 me =>
    rw[Jt]at hz
    injection hz with cD hrest
    injection cD with hy hx
    subst hy hx
    have he:=Je (A:=A.in1) (s:=⟨hp,g,d,tk,os⟩) x' t y' u
    refine wpAny_bind (he prog w _ _ ?_)
    by_cases e:x'=y'
    ·rw [Si e] at hR
     rw[show(x'==y')=true from beq_iff_eq.mpr e]
     wp_walk
     exact⟨rfl,rfl,_,_,_,hrest,me,hR⟩
    ·rw [Sb e] at hR
     rw[show(x'==y')=false from beq_eq_false_iff_ne.mpr e]
     have fe:∀(E:Nd) (Q:Nd) (h:Q (.bool (decide (x'.cps.toList<y'.cps.toList))) ⟨hp,g,d,tk,os⟩),ZJ A.in1 (yP (.str x' t) (.str y' u)) Q E ⟨hp,g,d,tk,os⟩:=λE Q h=>(PyProof.Rows.lt_str h:ZJ A.in1 (PV (.str x' t) (.str y' u)) Q E ⟨hp,g,d,tk,os⟩)
     wp_walk using fe
     exact⟨wI,He hR⟩
  case fin =>
   rintro⟨b1,b2⟩ s' ⟨dk,rfl,vs,ws,B',hz,ha,hR⟩
   simp only at dk
   subst dk
   have hv:B'=decide (items.size<items2.size):=by
    cases ha with
    |nil=>exact(Su Hb).symm
    |int _=>rw[Jt]at hz;cases hz
    |str _=>rw[Jt]at hz;cases hz
   rw[hv]at hR
   wp_walk
   exact⟨wI,by simpa[Builtin.Tuple.tupleCompareSizes] using hR⟩
  case h =>
   exact⟨rfl,rfl,items.toList,items2.toList,B,rfl,hi,h⟩
end
section
variable{prog:Nk}{w:Nn}{A:Nq}{E:Nd}{s:Nj}
def lt_tupA(hl:NF l items)(hb:NF b items2)(hi:Vk B)(hu:A.units<cLine)(h:Q (Ow B) s):ZI (PV Sy Ey) Q E s:=by
 obtain⟨⟨cls,dd,data,sl⟩,ho,hc,n,hd⟩:=id hl
 obtain⟨⟨cls2,vy,data2,sk⟩,dA,bq,n2,pF⟩:=id hb
 simp only at hc hd bq pF
 subst hc hd bq pF
 exact richCompare_meets_room (op:=.Lt) ⟨_,ho,rfl⟩ ⟨_,dA,rfl⟩ PySem.F.slot_tuple_lt PySem.F.entry_tuple_lt (PySem.F.args_tuple_lt_2 _ _) (zg9 l b items items2 n n2 dd vy sl sk B hi)
  ⟨ho,dA,show Value.bool B≠Value.notImplemented∧Q (Ow B) s from⟨(λx=>nomatch x),h⟩⟩ hu
end
end HT
namespace PySem
section
variable{prog:Nk}{w:Nn}{A:Nq}{R:Nx}{I:Nc}{fp wr:No}{n:Nat}{P:Nat→Value→Prop}{St:Nat→Heap→Prop}
abbrev KpT(wr:No)(S:Nc)(h0 h:Np):Prop:=∀b o,b∉wr→b≠S→h0.get? b=some o→h.get? b=some o
abbrev CmpT(prog:Nk)(w:Nn)(A:Nq)(wr:No)(S:Nc)(h0:Np)(P:Nat→Value→Prop)(bt:Nat→Nat→Bool):Prop :=
 ∀i j vi vj (s:Nj) (Q E:Nd),BD s.heap→P i vi→P j vj→Q (Ow (bt i j)) s→ZI (yP vi vj) Q E s
def minT_go(W:JU St)(bt:Nat→Nat→Bool)(h0:Np)(S:Nc)(gG:V' bt)(eT:S∉fp):∀ (k j:Nat) (s:Nj) (vb:Value) (c:Nat),n - (j+1)=k→j+1≤n→St (j+1) s.heap→P (Ln j) vb →
  s.heap.get? S=some {cls:=.type "list",dict:=none,data:=.seq #[vb,vb] c,slots:=#[]}→BD s.heap→(∀v h' tk,P (Ln (n-1)) v→BD h'→R (C7 v) {s with heap:=h',toks:=tk}) →
  codeAny Hw A (.builtin "min.loop" ⟨[E4,.none,Hi S],[]⟩) R s:=by
 have l0:S∉wr:=λh=>eT z9
 have nm:(toString "min" ++ toString ".loop" : String) = "min.loop" := by decide
 intro k
 induction k with
 | zero =>
  intro j s vb c hk hj ar hb hS kp hR
  have e:j+1=n:=by lia
  refine codeAny_builtin F.entry_min_loop (by
   rw[Yy Uy _]
   refine(show ZZ _ (seqItems? (Hi S) >>= _) _ _ _ from wpAny_bind (JQ ?_))
   refine(show ZZ _ (tryCatch (Ci I) _ >>= _) _ _ _ from wpAny_bind (wpAny_tryCatch (W.done s _ _ (e▸ar) λh' tk q=>?_)))
   refine(show ZZ _ (updateSeq S (λ_=>#[]) >>= _) _ _ _ from wpAny_bind (wpAny_updateSeq (q S _ l0 hS) rfl (SA (wpAny_letGo (wpAny_pure ?_)))))
   exact hR vb _ tk (by rw[←e];exact hb) λb o hw hs z=>(Vs (Zl hs)).trans ww)
 | succ k ih =>
  intro j s vb c hk hj ar hb hS kp hR
  have lt:j+1<n:=by lia
  refine codeAny_builtin F.entry_min_loop (by
   rw[Yy Uy _]
   refine(show ZZ _ (seqItems? (Hi S) >>= _) _ _ _ from wpAny_bind (JQ ?_))
   refine(show ZZ _ (tryCatch (Ci I) _ >>= _) _ _ _ from wpAny_bind (wpAny_tryCatch (W.item (j+1) s _ _ lt ar λv h' tk hP e7 q=>?_)))
   have dl:=q S _ l0 hS
   have mV:BD h':=λb o hw hs z=>q b o hw (Di z)
   refine(show ZZ _ (tryCatch (holding [v,v] (richCompare .Lt v vb >>= _)) _ >>= _) _ _ _ from wpAny_bind (wpAny_tryCatch (xi (SA (gG (j+1) (argBest bt j) v vb _ _ _ mV hP hb ?_)))))
   refine wpAny_bind (xi (wpAny_truthy_bool (SA (wpAny_letGo (wpAny_pure ?_)))))
   cases hq:bt (j+1) (Ln j) with
   | true =>
    rw[if_pos rfl]
    refine wpAny_bind (Dj (SA (wpAny_letGo ?_)))
    rw[nm]
    have gI:argBest bt (j+1)=j+1:=if_pos hq
    exact wpAny_pure ⟨plainId_quiet Uy _,ih (j+1) _ v _ Hb lt (MY e7 λb hf o z=>(Vs (λh:S=b=>eT (Hl h hf))).trans z) (Hl gI hP) (Uu _ dl rfl)
     (λb o hw hs z=>(Vs (Zl hs)).trans (mV b o hw hs z)) λv' qc fF p z=>hR v' qc fF p z⟩
   |false =>
    rw[if_neg Zi]
    refine wpAny_bind (wpAny_letGo ?_)
    rw[nm]
    have gI:argBest bt (j+1)=argBest bt j:=if_neg (by rw[hq];decide)
    exact wpAny_pure ⟨zG Uy,ih (j+1) _ vb c Hb lt e7 (Hl gI hb) dl mV λv' qc fF p z=>hR v' qc fF p z⟩)
def minT_first(W:JU St)(bt:Nat→Nat→Bool)(h0:Np)(S:Nc)(gG:V' bt)(eT:S∉fp)(hn:0<n)(ar:St 0 s.heap)(hS:s.heap.get? S=some {cls:=.type "list",dict:=none,data:=.seq #[] c,slots:=#[]})(kp:BD s.heap)(hR:∀v h' tk,P (Ln (n-1)) v→BD h'→R (C7 v) {s with heap:=h',toks:=tk}) :
  codeAny Hw A (.builtin "min.loop" ⟨[E4,.none,Hi S],[]⟩) R s:=by
 have l0:S∉wr:=λh=>eT z9
 have nm:(toString "min" ++ toString ".loop" : String) = "min.loop" := by decide
 refine codeAny_builtin F.entry_min_loop (by
  rw[Yy Uy _]
  refine(show ZZ _ (seqItems? (Hi S) >>= _) _ _ _ from wpAny_bind (JQ ?_))
  refine(show ZZ _ (tryCatch (Ci I) _ >>= _) _ _ _ from wpAny_bind (wpAny_tryCatch (W.item 0 s _ _ hn ar λv h' tk hP e7 q=>?_)))
  have dl:=q S _ l0 hS
  refine(show ZZ _ (updateSeq S (λ_=>#[v,v]) >>= _) _ _ _ from wpAny_bind (Dj ?_))
  rw[nm]
  exact wpAny_pure ⟨plainId_quiet Uy _,minT_go W bt h0 S gG eT _ 0 _ v _ rfl hn (MY e7 λb hf o z=>(Vs (λh:S=b=>eT (Hl h hf))).trans z) hP (Uu _ dl rfl)
   (λb o hw hs z=>(Vs (Zl hs)).trans ww) λv' qc fF p z=>hR v' qc fF p z⟩)
end
section
variable{prog:Nk}{w:Nn}{A:Nq}{E:Nd}{s:Nj}
def call_minT(h:ZJ A.in1 (OF x) (λit s₂=>∃I fp wr n P St bt,it=.ref I∧JU St∧St 0 s₂.heap∧(∀b∈fp,b<s₂.heap.objs.size)∧0<n ∧
   CmpT prog w A.in1 wr s₂.heap.objs.size s₂.heap P bt∧∀v h' tk,P (Ln (n-1)) v→(∀b o,b∉wr→s₂.heap.get? b=some o→h'.get? b=some o)→Q v {s₂ with heap:=h',toks:=tk}) E s) :
  wpAny Hw A (call (.builtin "min") [x]) Q E s:=by
 have nm:(toString "min" ++ toString ".loop" : String) = "min.loop" := by decide
 refine call_function_tree F.kind_min F.plain_min F.entry_min (F.args_min1 _) (show ZZ _ (Builtin.Builtins.bindParams "min" ["key", "default"] 0 ⟨[],[]⟩ >>= _) _ _ _ from wpAny_bind (wpAny_of_eq (show Builtin.Builtins.bindParams "min" ["key", "default"] 0 ⟨[],[]⟩=pure [none,none] from rfl) (SA (wpAny_pure ?_))))
 refine wpAny_bind (NE (λit s₂ ⟨I,fp,wr,n,P,St,bt,e,W,ar,hfp,hn,gG,hQ⟩=>?_) λ_ _ e=>e)
 subst e
 refine wpAny_bind (wpAny_newObj_type ?_)
 rw[nm]
 exact wpAny_pure ⟨plainId_quiet Uy _,minT_first W bt s₂.heap s₂.heap.objs.size gG (λhm=>Yw _ (hfp _ hm)) hn (MY ar λb _ o e=>WN e) Ta (λb o _ _ z=>WN z)
  λv h' tk hP hk=>hQ v h' tk hP λb o hw e=>hk b o hw Op e⟩
end
end PySem
end
section
namespace L2
open PySem PySem.Spec PyProof.Rows
def ltK(k l:Nat×Str):Bool:=if(k.1:Int)=(l.1:Int) then(if k.2=l.2 then false else decide (k.2.cps.toList<l.2.cps.toList)) else decide ((k.1:Int)<(l.1:Int))
def leK(k l:Nat×Str):Prop:=k.1<l.1∨k.1=l.1∧leS k.2 l.2
def ltK_irrefl(k:Nat×Str):ltK k k=false:=by unfold ltK;rw[if_pos rfl,if_pos rfl]
def ltK_iff:ltK k l=true↔k.1<l.1∨k.1=l.1∧k.2.cps.toList<l.2.cps.toList:=by
 unfold ltK
 by_cases h:(k.1:Int)=(l.1:Int)
 ·have h':k.1=l.1:=by lia
  rw[if_pos h]
  by_cases h2:k.2=l.2
  ·rw [Si h2,h2]
   refine⟨λz=>(by cases z),λz=>?_⟩
   rcases z with z | z
   ·lia
   ·exact absurd z.2 (Ww _)
  ·rw [Sb h2,decide_eq_true_eq]
   exact⟨λz=>.inr ⟨h',z⟩,λz=>z.elim (λy=>by lia) (·.2)⟩
 ·rw [Sb h,decide_eq_true_eq]
  exact⟨λz=>.inl Hb,λz=>z.elim (λy=>by lia) λy=>absurd (congrArg Int.ofNat y.1) h⟩
def ltK_trans(h1:ltK a b=true)(h2:ltK b c=true):ltK a c=true:=by
 rw[ltK_iff]at h1 h2 ⊢
 rcases h1 with h1 | ⟨e1,h1⟩
 ·rcases h2 with h2 | ⟨e2,_⟩
  ·exact .inl (Wl h1 h2)
  ·exact .inl (e2▸h1)
 ·rcases h2 with h2 | ⟨e2,h2⟩
  ·exact .inl (e1▸h2)
  ·exact .inr ⟨e1.trans e2,List.lt_trans h1 h2⟩
def leK_of(h:¬ltK l k=true):leK k l:=by
 rw[ltK_iff]at h
 rcases Nat.lt_trichotomy k.1 l.1 with z | z | z
 ·exact .inl z
 ·exact .inr ⟨z,λy=>h (SC ⟨z.symm,y⟩)⟩
 ·exact absurd (RH z) h
def zfs(h1:leS x y)(h2:leS y x):x=y:=Tm.str_ext (List.le_antisymm (IO h1) (IO h2))
def leK_antisymm(h1:leK k l)(h2:leK l k):k=l:=by
 rcases h1 with h1 | ⟨e,h1⟩
 ·rcases h2 with h2 | ⟨e2,_⟩<;>lia
 ·rcases h2 with h2 | ⟨_,h2⟩
  ·lia
  ·exact Wj e (zfs h1 h2)
theorem zd0(bt:Nat→Nat→Bool)(hi:∀i,bt i i=false)(ht:∀i j k,bt i j=true→bt j k=true→bt i k=true):∀k j,j≤k→¬bt j (Ln k)=true
 |0,j,h=>by
  have:j=0:=by lia
  subst this
  show ¬bt 0 0=true
  rw[hi];decide
 | k+1,j,h=>by
  show ¬bt j (if bt (k+1) (Ln k)=true then k+1 else argBest bt k)=true
  by_cases ad:bt (k+1) (Ln k)=true
  ·rw [Si ad]
   by_cases hj:j=k+1
   ·subst hj;rw[hi];decide
   ·exact λz=>GK Hb (ht _ _ _ z ad)
  ·rw [Sb ad]
   by_cases hj:j=k+1
   ·subst hj;exact ad
   ·exact GK Hb
section
variable{X:Cx}
abbrev KAt(H:Hp):List Addr→List (Nat×Str)→Prop:=Paired λa k=>H a=some (.tup [HM (k.1:Int),.str k.2])
def kat_at(r:KAt H as ks)(hi:i<as.length):i<ks.length∧H as[i]=some (.tup [HM ((ks.getD i (0,Str.empty)).1:Int),.str (ks.getD i (0,Str.empty)).2]):=by
 induction r generalizing i with
 |nil=>exact absurd hi (Kl _)
 | cons h t ih =>
  cases i with
  |zero=>exact⟨Nat.zero_lt_succ _,h⟩
  |succ j =>
   obtain⟨a,b⟩:=ih (i:=j) (Xq hi)
   exact⟨Nat.succ_lt_succ a,b⟩
def zg1(hc:X.calm=true)(hu:X.A.units+1<cLine):Y2 (.builtin "min") (λxs H Q=>Ex3 λ(p:Nc) (as:No) (ks:S1 (Nat×Str))=>Aj5 (xs=[Tn]) (WO EK) (KAt H as ks) (ks≠[]) (∀a k,k∈ks→H a=some (.tup [HM (k.1:Int),.str k.2])→(∀k'∈ks,leK k k')→Q RV H)):=by
 intro a5 s σ H xs us Q I r h
 obtain⟨p,as,ks,rfl,hq,hk,az,q⟩:=h
 obtain⟨u,rfl,rx⟩:=vals1 r
 cases rx
 have eF:0<ks.length:=Uv.mpr az
 have aW:as.length=ks.length:=Zy hk
 refine call_minT (DJ hq λa7 It h1 rv W st lt keep=>⟨It,_,_,_,_,_,λi j=>ltK (ks.getD i (0,Str.empty)) (ks.getD j (0,Str.empty)),rfl,W,st,lt,?_,λi j vi vj s' Q' E' kp hi hj cw=>?_,λv h' tk hv k=>?_⟩)
 ·have:=rv.length
  rw[Qa]at this
  rw[Qy];lia
 ·have hl:=rv.length
  rw[Qa]at hl
  have I':=keep s'.heap s'.toks λb o hb e=>kp b o hb Op e
  have gs:∀(i:Nat) (v:Value),a7.toArray[i]?=some v→∃a n t y u,v=.ref a∧IsTup s'.heap a #[S8 n t,.str y u]∧n=((ks.getD i (0,Str.empty)).1:Int)∧y=(ks.getD i (0,Str.empty)).2:=λi v e=>by
   have e':a7[i]?=some v:=by simpa using e
   have hi:i<a7.length:=(LA e').1
   have aq:i<as.length:=by lia
   obtain⟨u,e2,e3⟩:=rv.get (i:=i) (x:=.ref as[i]) (by simp[aq])
   rw[e']at e2
   cases e2
   cases e3
   obtain⟨_,aO,r2,o,e1,c,n,d⟩:=I'.hok _ _ (kat_at hk aq).2
   obtain⟨u1,u2,rfl,⟨t1,rfl⟩,⟨t2,rfl⟩⟩:=vals2 r2
   exact⟨_,_,t1,_,t2,rfl,⟨o,e1,c,n,d⟩,rfl,rfl⟩
  obtain⟨a,n,t,y,u,rfl,h1,rfl,rfl⟩:=gs i vi hi
  obtain⟨a',n',t',y',u',rfl,h2,rfl,rfl⟩:=gs j vj hj
  exact HT.lt_tupA h1 h2 (HM (.str .nil)) hu cw
 ·have hl:=rv.length
  rw[Qa]at hl
  have iG:=argBest_lt (bt:=λi j=>ltK (ks.getD i (0,Str.empty)) (ks.getD j (0,Str.empty))) (a7.toArray.size-1)
  have least:=zd0 (λi j=>ltK (ks.getD i (0,Str.empty)) (ks.getD j (0,Str.empty))) (λi=>ltK_irrefl _) (λi j k=>ltK_trans) (a7.toArray.size-1)
  generalize argBest (λi j=>ltK (ks.getD i (0,Str.empty)) (ks.getD j (0,Str.empty))) (a7.toArray.size-1)=b at hv iG least
  rw[Qy]at iG least
  have bx:b<as.length:=by lia
  have aX:a7[b]?=some v:=by simpa using hv
  obtain⟨u,e2,e3⟩:=rv.get (i:=b) (x:=.ref as[b]) (by simp[bx])
  rw[aX]at e2
  cases e2
  cases e3
  obtain⟨eR,eS⟩:=kat_at hk bx
  have g1:ks.getD b (0,Str.empty)=ks[b]:=by simp[List.getD,eR]
  rw[g1]at eS
  refine⟨.ref as[b],H,Ml k,rfl,q _ ks[b] (Qr eR) eS λk' oJ=>?_⟩
  obtain⟨j,hj,rfl⟩:=Zx oJ
  have:=least j Hb
  have g2:ks.getD j (0,Str.empty)=ks[j]:=by simp[List.getD,hj]
  rw[g1,g2]at this
  exact leK_of this
end
end L2
end
section
namespace Wb
open PySem L2
def dg(r:Nr)(D:Nh)(y:Str):Nat:=((r y).filter λz=>decide (z∉D)).length
structure Pre(ns:Nh)(r:Nr)(D:Nh):Prop where
 sub:∀x∈D,x∈ns
 nd:D.Nodup
 le:∀(i:Nat) (h:i<D.length),∀z∈ns,z∉D.take i→leK (Y9 (D.take i) D[i],D[i]) (Y9 (D.take i) z,z)
structure zcv(ns:Nh)(r:Nr)(T:Nh):Prop extends Pre ns r T where
 pm:T.Perm ns
variable{ns ly T T' D:Nh}{r r':Nr}
def zcj{l:Nh}(nd:l.Nodup){i:Nat}(h:i<l.length):l[i]∉l.take i:=λz=>by
 have h2:(l.take HN).Nodup:=VL nd
 rw[Qi h,Ze]at h2
 exact h2.2.2 _ z _ SL rfl
def dg_turn(hr:∀y,(r' y).Perm (r y))(D:Nh)(y:Str):dg r' D y=WQ y:=(List.Perm.filter _ (hr y)).length_eq
def Pre.nil:MB []:=⟨λx hx=>(by cases hx),Zn,λi h=>absurd h (Kl _)⟩
def Pre.snoc(P:MB D){y:Str}(hy:y∈ns)(qF:y∉D)(hl:∀z∈ns,z∉D→leK (WQ y,y) (WQ z,z)):MB (D++[y]):=by
 refine⟨λx hx=>?_,?_,λi h=>?_⟩
 ·rcases Ql.mp hx with z | z
  ·exact P.sub x z
  ·rw[Qc.mp z];exact hy
 ·rw [Ze]
  exact⟨P.nd,Xl _ _,λa ha b hb e=>qF (by rw[←Qc.mp hb,←e];exact ha)⟩
 ·rw [Qw,Uz] at h
  by_cases hi:i<D.length
  ·rw [Kh (Wo hi),xA hi]
   exact P.le i hi
  ·have hi:i=D.length:=by lia
   subst hi
   rw[Kh Hx,Qs Hx,List.getElem_append_right Hx]
   simp only[Ko,List.getElem_singleton]
   exact hl
def Pre.order(P:MB D)(nd:ns.Nodup)(all:∀x∈ns,x∈D):DU D:=⟨P,(Ji P.nd nd).mpr λx=>⟨P.sub x,all x⟩⟩
def zcv.turn(hp:ly.Perm ns)(hr:∀y,(r' y).Perm (r y))(a:zcv ly r' T):DU T :=
 ⟨⟨fun x hx=>hp.mem_iff.mp (a.sub x hx),a.nd,fun i h z hz hn=>by
  have:=a.le i h z (hp.mem_iff.mpr hz) hn
  rw[dg_turn hr,dg_turn hr]at this
  exact this⟩,a.pm.trans hp⟩
def zcv.one(a:DU T)(b:DU T'):T=T':=by
 have hl:T.length=T'.length:=a.pm.length_eq.trans b.pm.length_eq.symm
 have key:∀i,i≤T.length→T.take i=T'.take i:=by
  intro i
  induction i with
  |zero=>intro _;rfl
  |succ i ih =>
   intro h
   have e:=ih (Nat.le_of_succ_le h)
   have hi:i<T.length:=h
   have aU:i<T'.length:=hl▸h
   have h1:=a.le i hi T'[i] (b.sub _ AO) (by rw[e];exact zcj b.nd aU)
   have h2:=b.le i aU T[i] (a.sub _ IT) (by rw[←e];exact zcj a.nd hi)
   rw[←e]at h2
   have e3:T[i]=T'[i]:=congrArg Prod.snd (leK_antisymm h1 h2)
   rw[Qi hi,Qi aU,e,e3]
 have:=key T.length Hx
 rwa[Qs Hx,Qs (Kp hl.symm)]at this
def dg_snoc(rn:∀x,(r x).Nodup)(sy:∀x y,y∈r x→x∈r y){x:Str}(hx:x∉D)(y:Str):(dg r D y:Int)-(if y∈r x then 1 else 0)=(Y9 (D++[x]) y:Int):=by
 have e:(r y).filter (λz=>decide (z∉D++[x]))=((r y).filter λz=>decide (z∉D)).erase x:=by
  rw[List.Nodup.erase_eq_filter ((rn y).filter _),List.filter_filter]
  apply Jc
  intro z _
  rw[Yp]
  simp only[decide_eq_true_eq,Ql,Qc,not_or,Jk,bne_iff_ne]
  exact⟨λh=>⟨h.2,h.1⟩,λh=>⟨h.2,h.1⟩⟩
 unfold dg
 rw[e]
 by_cases h:y∈r x
 ·have hm:x∈(r y).filter fun z=>decide (z∉D):=Zd.mpr ⟨sy _ _ h,He hx⟩
  have hp:=Yl hm
  rw[if_pos h,Ym hm]
  lia
 ·have hm:x∉(r y).filter fun z=>decide (z∉D):=fun z=>h (sy _ _ (Pf z).1)
  rw[if_neg h,List.erase_of_not_mem hm]
  lia
def dg_nil(r:Nr)(y:Str):Y9 [] y=(r y).length:=by
 unfold dg
 rw[List.filter_eq_self.mpr λz _=>by simp]
def sorted_one:∀ {l m:Nh},l.Perm m→l.Pairwise leS→m.Pairwise leS→l=m:=by
 intro l
 induction l with
 |nil=>intro m h _ _;exact(List.Perm.nil_eq h)
 | cons a t ih =>
  intro m h p q
  cases m with
  |nil=>exact absurd h.length_eq Ha
  | cons b u =>
   rw[Ju]at p q
   have e:a=b:=by
    have h1:b∈a::t:=h.mem_iff.mpr Qb
    have h2:a∈b::u:=h.mem_iff.mp Qb
    rcases Qh.mp h1 with z | z
    ·exact z.symm
    ·rcases Qh.mp h2 with y | y
     ·exact y
     ·exact zfs (p.1 b z) (q.1 a y)
   subst e
   rw[ih ((List.perm_cons a).mp h) p.2 q.2]
end Wb
namespace K21
open PySem L2 Wb
abbrev sOrder:Stmt:=top 20
def cnt(ks:Nh)(F:Str→Int):List (Key×V):=ks.map λy=>((Sum.inr y:Key),S7 (F y))
def cnt_out{ks:Nh}{F:Str→Int}{x:Str}(h:x∉ks):valV (MC F) EA=none:=by
 unfold cnt
 induction ks with
 |nil=>rfl
 |cons a t ih =>
  rw[Qh,not_or]at h
  rw[Qm,zbl]
  ·exact ih h.2
  ·intro q;exact h.1 (Wc q).symm
def cnt_in{ks:Nh}{F:Str→Int}{x:Str}(h:x∈ks):valV (MC F) EA=some (HM (F x)):=by
 unfold cnt
 induction ks with
 |nil=>cases h
 | cons a t ih =>
  rw[Qm]
  by_cases e:a=x
  ·rw[zcc (by rw[e]),e]
  ·rw [zbl (fun q=>e O7)]
   rcases Qh.mp h with z | z
   ·exact absurd z.symm e
   ·exact ih z
def cnt_new{ks:Nh}{F:Str→Int}{x:Str}(h:x∉ks):Ma (HM (F x))=cnt (ks++[x]) F:=by
 rw[FU (cnt_out h)];unfold cnt;rw[List.map_append];rfl
def cnt_put{ks:Nh}{F:Str→Int}{x:Str}(h:x∈ks)(v:Int):Ma (HM v)=cnt ks λy=>if y=x then v else F y:=by
 unfold putK cnt
 rw[if_pos]
 ·rw [Zj]
  refine Yc λz _=>?_
  show(if(Sum.inr z:Key)=Sum.inr x then((Sum.inr z:Key),S7 v) else(Ob,S7 (F z)))=(Ob,S7 (if z=x then v else F z))
  by_cases e:z=x
  ·rw[if_pos (by rw[e]),if_pos e]
  ·rw[if_neg (λq=>e O7),if_neg e]
 ·exact Yn.mpr ⟨_,La ⟨x,h,rfl⟩,Ha⟩
def cnt_drop(ks:Nh)(F:Str→Int)(x:Str):zgx (MC F) EA=cnt (ks.filter λy=>decide (y≠x)) F:=by
 unfold zgx cnt
 rw[Uo]
 congr 1
 apply Jc
 intro y _
 show decide ((Sum.inr y:Key)≠Sum.inr x)=decide (y≠x)
 rw[Yp,decide_eq_true_eq,decide_eq_true_eq]
 exact⟨λh e=>h (by rw[e]),λh e=>h (Wc e)⟩
def zg0{ks:Nh}{F G:Str→Int}(h:∀y∈ks,F y=G y):MC F=MC G:=Yc λy hy=>by rw[h y hy]
def Keep.fr{H H':Hp}{a:Nc}{o:HO}(k:Rl H)(h:H a=none):Keep [] H (YL a o):=λc u ec hc=>by rw[zaf (WM h)];exact k c u ec hc
end K21
namespace K21
open PySem L2 Wb
def wOf:Stmt→List Stmt
 |.While _ b _ _=>b
 |_=>[]
abbrev wAt(s:Stmt)(i:Nat):Stmt:=(wOf s).getD i (.Pass ⟨0,0,0,0⟩)
def ndOA:(["place", "web"]:List Str).Nodup:=by decide +kernel
def ndOB:(["place", "many"]:List Str).Nodup:=by decide +kernel
inductive IspOrder(C:Nc)(vs:List V)(H:Hp)(Q:VK):Prop
 |mk (x dx d:Nc) (es:List Ent) (h0:vs=[.ref x]) (h1:WAt H C x dx d es) (h2:es.length≤100) (h3:∀y,(row (rsOf es) y).Nodup) (h4:∀a b,b∈row (rsOf es) a→a∈row (rsOf es) b) (h5:∀(l:Nc) (T:Nh) (H':Hp),H' l=some (.lst (T.map V.str))→zcv (es.map (·.1)) (row (rsOf es)) T→H l=none→Keep [] H H'→Q (.ref l) H'):IspOrder C vs H Q
def spOrder(C:Nc):Sp:=λvs H Q _=>IspOrder C vs H Q
section
variable{P:Nk}{w:Nn}{K:Na}{mg:Ng}{base:Np}
def zef:zaj ["web", "many", "taken", "least", "other"] ["web"] (zai sOrder):=fsk
def ok_order{f C fp fr:Nc}{fd fdp fdr:Nw}(F:QE "order" "order" sOrder f fd)(cW:Mf C)(mP:Vi "places" fp)(bP:W7 fdp ["self"] [])(GP:ZB 1 fp fdp ["self"] (zh8 C))(mR:Vi "round_of" fr)(bR:W7 fdr ["self", "place"] [])(GR:ZB 1 fr fdr ["self", "place"] A8)(ae:mg "len" = none)(ga:mg "min" = none):ZB 2 f fd ["web"] (spOrder C):=by
 refine F.okL zef Hj
 obtain⟨x,dx,d,es,rfl,wt,aH,rn,sy,k⟩:=h
 have hu:=zb6 hr
 have ap:sizeLine=16777216:=sizeLine_eq
 refine⟨_,zad (zgg (i:=1) zef.nd rfl TY (pe_dc (M:=["place", "web"]) (ix:=[none,Hs 0]) (mkB zef) rfl (IP (pe_meth0 (pl:=_) R6 cW mP GP hr bP .nil zdi)) (λC a5 ex s H=>UN ndOA)
    (λC a5 ex s H=>zcy) RG
    (λC' a5 ex s H=>zal (zdm (K:=K) rfl) HQ (by exact ae) Yi (Rx (zgi (pl:=_) Rj (by exact cW) (by exact mR) GR (by exact hr) bR .nil zdi SM)))))
  (zad (Ve zef.nd SN)
  (zad (Mx (ze0 Rj (fun _=>rfl))
   (zad (Br zef.nd (WI (GM HQ ga Xu (zaa (pe_thaw (zff (M:=["place", "many"]) (ix:=[none,xq]) (mkB zef) rfl (zej Rj) (fun C a5 ex s H=>UN ndOB)
    (λC a5 ex s H=>zcy) (λC a5 ex s H=>zbd (zaa (Aq (by exact hu) R6) SM)))) zae)) zah Hq))
   (zad (Cz Sc Tp)
   (zad (ps_ddel Rj RX)
   (zag (Z4 (IP (zgi (pl:=_) R6 cW mR GR hr bR .nil zdi Tp)) (KB zef.nd)
    (zag (zbn (Ch hu Sd) (zag (ps_daug hu Rj Sd zah in_sub (λ_ _ _=>rfl))) zap))))))))
  (zag Pw))),?_⟩
 have aA:(es.map (·.1)).Nodup:=wt.ta.nd
 have am:∀e∈es,ZK e.1=e.2.1:=λe he=>zay aA he
 generalize iE:es.map (·.1)=ns at aA k
 have lR:ns.length=es.length:=by rw[←iE,Qa]
 refine⟨wI,x,dx,wI,wt.ob,rfl,x,dx,d,es,rfl,wt,λl hl=>?_⟩
 rw[iE]
 have k1:Keep [] H (LS l ET):=Keep.new hl
 have aD:(LS l ET) l=some (Hr ET):=zab
 generalize ZX l (Hr ET)=H1 at k1 aD
 refine⟨l,rfl,⟨_,Hk aD⟩,λi m ys τ H'=>Aj5 (m=es.length-i) (i≤es.length) (Ex1 λx0=>τ=[x0,zk]) xW (ys=cnt (ns.take i) λy=>((KZ [] y:Nat):Int)),
  ⟨es.length,rfl,SJ,⟨none,rfl⟩,Keep.refl,rfl⟩,?_⟩
 rintro i m ys τ H2 ⟨rfl,hi,⟨x0,rfl⟩,k2,rfl⟩
 have aw:=k2 _ _ aD Ha
 by_cases ad:i<es.length
 ·have aq:i < ns.length:=lR ▸ ad
  have bh:es[i]∈es:=Qr ad
  have hni:ns[i]=es[i].1:=by simp[←iE]
  refine .inr ⟨⟨_,.str ns[i],PH,by rw[Qo,Qd aq];rfl⟩,by unfold cnt;rw[List.length_map,List.length_take];lia,?_⟩
  rintro v H3 ⟨rfl,hv⟩
  have aX:=hv _ PH
  rw[Qo,Qd aq]at aX
  obtain rfl:V.str ns[i]=v:=Qn aX
  have wt3:WAt H3 C x dx d es:=wt.keep (Lm k2) Ha Ha RJ
  refine⟨wI,wI,x,dx,wI,wt3.ob,rfl,wI,x,dx,d,es,es[i],by rw[hni];rfl,wt3,bh,λq hq=>?_⟩
  refine⟨q,wI,SS zab,Sum.inr ns[i],rfl,es.length-HN,Hz,rfl,ad,⟨wI⟩,Tr IQ,?_⟩
  have hF:(((es[i].2.1.map V.str).length:Nat):Int)=((KZ [] ns[i]:Nat):Int):=by rw[dg_nil,hni,am _ bh,Qa]
  rw[hF,Qi aq]
  exact cnt_new (F:=λy=>((KZ [] y:Nat):Int)) (zcj aA aq)
 ·have ck:i=es.length:=by exact zar3 ‹_› ‹_›
  subst ck
  refine .inl ⟨⟨_,PH,by rw[Qa,lR];exact Qe _⟩,λmm hmm=>?_⟩
  rw[Qs (Kp lR)]
  generalize row Lb=r at rn sy k am
  have kH2:Keep [] H H2:=k1.trans k2
  have fmm:H mm=none:=zao kH2 hmm Ha
  have k3:Keep [] H (QA mm (.dK (cnt ns λy=>((Y9 [] y:Nat):Int)))):=kH2.fr fmm
  have uv:(QA mm (.dK (cnt ns λy=>((Y9 [] y:Nat):Int)))) mm=some (.dK (cnt ns λy=>((Y9 [] y:Nat):Int))):=zab
  generalize QA mm (.dK (cnt ns λy=>((Y9 [] y:Nat):Int)))=H3 at k3 uv
  refine⟨Lq,λtk de=>?_⟩
  have ftk:H tk=none:=zao k3 de Ha
  have nmt:mm≠tk:=zac uv de
  refine⟨λm σ H'=>Ex2 λ(D ks:Nh)=>Aj8 (m=ks.length) (Ex2 λx3 x4=>σ=[zk,Hc mm,Hc tk,x3,x4]) (H' mm=some Eo) (H' tk=some Cm) (MB D) ks.Nodup (∀y,y∈ks↔y∈ns∧y∉D) Pp,
   ⟨ns.length,[],ns,rfl,⟨none,none,rfl⟩,Ht nmt uv,zab,Pre.nil,aA,λy=>⟨λh=>⟨h,Ha⟩,λh=>h.1⟩,k3.fr ftk⟩,?_⟩
  rintro m σ H4 ⟨D,ks,rfl,⟨x3,x4,rfl⟩,hm4,nI,PD,fk,bf,k4⟩
  refine⟨wI,_,.inr (SC ⟨_,hm4,rfl⟩),?_⟩
  by_cases kC:ks=[]
  ·subst kC
   refine WG ⟨_,rfl,k tk D H4 nI (PD.order aA λy hy=>?_) ftk k4⟩
   by_cases h:y∈D
   ·exact h
   ·exact absurd ((bf y).mpr ⟨hy,h⟩) Ha
  ·refine zbf (by cases ks with
    |nil=>exact absurd rfl kC
    |cons _ _=>rfl) ?_
   refine⟨_,λ σ' H' zz=>zz,?_⟩
   have jh:ks.length≤ns.length:=zb9 fk λy hy=>((bf y).mp hy).1
   have bE:(cnt ks λy=>((dg r D y:Nat):Int)).length=ks.length:=Qa ..
   refine⟨_,rfl,mm,_,rfl,hm4,λo=>⟨λi m ys τ H'=>Aj6 (m=ks.length-i) (i≤ks.length) (Ex1 λx0=>τ=[x0,Hc mm]) (H' mm=some (Tu Eo)) (Keep [mm] H4 H') (Ex1 λ(as:No)=>Aj3 (ys=as.map V.ref) (as.length=i) (KAt H' as ((ks.take i).map λy=>(WQ y,y)))),
    ⟨ks.length,rfl,SJ,⟨none,rfl⟩,zab,SX,[],rfl,rfl,.nil⟩,?_⟩⟩
   rintro i m ys τ H5 ⟨rfl,hi,⟨x0,rfl⟩,hz,k5,as,rfl,aW,ka⟩
   by_cases ad:i<ks.length
   ·refine .inr ⟨⟨hz,by rw [bE];exact ad⟩,by rw [Qa];lia,?_⟩
    rintro v H6 ⟨rfl,pr,e1,rfl⟩
    have g1:pr=((Sum.inr ks[i]:Key),S7 ((WQ ks[i]:Nat):Int)):=by
     unfold cnt at e1
     rw[Qo,Qd ad]at e1
     exact(Qn e1).symm
    subst g1
    refine⟨wI,wI,mm,wI,RH ⟨_,Sum.inr ks[i],SC ⟨o,hz⟩,rfl,(cnt_in A9).symm⟩,wI,SD,λt ht=>⟨ks.length-HN,Hz,rfl,ad,⟨_,rfl⟩,?_,CA TJ,as++[t],?_,?_,?_⟩⟩
    ·rw[zaf (KU ht)];exact hz
    ·rw[Qq];rfl
    ·rw[Qw,aW];rfl
    ·rw [Qi ad,Qq]
     refine zax (Paired.imp' (λa k h=>?_) ka) (Sa zab)
     rw[zaf (zy h ht)];exact h
   ·have ck:i=ks.length:=by exact zar3 ‹_› ‹_›
    subst ck
    rw[Qs Hx]at ka
    refine .inl ⟨⟨hz,Rm bE⟩,λL hL=>?_⟩
    have nmL:mm≠L:=KU hL
    have nfz:∀o' u',H mm≠some Te:=λo' u' z=>by rw[fmm]at z;cases z
    refine⟨mm,o,_,Ht nmL hz,nfz,?_⟩
    have k6:Keep [mm] H4 (Z3 mm Eo):=(CA (Ho hL)).trans SX
    have hm6:(Z3 mm Eo) mm=some Eo:=zab
    have pY:(Z3 mm Eo) L=some Rz:=by rw[zaf (Zl nmL)];exact zab
    have mX:KAt (Z3 mm Eo) as (ks.map λy=>(WQ y,y)):=Paired.imp' (λa k h=>by
     rw[zaf Ad,zaf (zy h hL)];exact h) ka
    generalize Z3 mm Eo=H6 at k6 hm6 pY mX
    have kH6:Keep [] H H6:=λc u ec _=>k6 c u (k4 c u ec Ha) (by simpa using WM fmm)
    have lI:=k6 _ _ nI (by simpa using Zl nmt)
    refine⟨L,as,wI,Hk pY,mX,He kC,λa kk ji ha cY=>?_⟩
    obtain⟨y,hy,rfl⟩:=Qf.mp ji
    obtain⟨hyn,qF⟩:=(bf y).mp hy
    have iF:∀z∈ns,z∉D→leK (WQ y,y) (WQ z,z):=λz h1 h2=>cY _ (La ⟨z,(bf z).mpr ⟨h1,h2⟩,rfl⟩)
    have vE:=PD.snoc hyn qF iF
    have hDl:D.length≤ns.length:=zb9 PD.nd PD.sub
    refine⟨a,_,1,wI,rfl,Rk ha,rfl,?_⟩
    refine⟨wI,RC lI,wI,tk,_,wI,rfl,lI,by rw[Qa];lia,?_⟩
    have k7:Keep [] H (IX tk (D.map V.str++[wx y])):=kH6.fr ftk
    have qK:(IX tk (D.map V.str++[wx y])) tk=some (Hr ((D++[y]).map V.str)):=by rw[zab,Qq];rfl
    have hm7:(IX tk (D.map V.str++[wx y])) mm=some Eo:=by rw[zaf nmt];exact hm6
    generalize WD tk (Hr (D.map V.str++[wx y]))=H7 at k7 qK hm7
    refine⟨wI,wI,mm,_,Sw y,rfl,hm7,rfl,by rw[cnt_in hy];rfl,?_⟩
    rw[cnt_drop]
    have r9:∀z,z∈ks.filter (λz=>decide (z≠y))↔z∈ns∧z∉D++[y]:=λz=>by
     rw[Zd,bf z,decide_eq_true_eq,Ql,Qc,not_or]
     exact⟨λh=>⟨h.1.1,h.1.2,h.2⟩,λh=>⟨⟨h.1,h.2.1⟩,h.2.2⟩⟩
    have oG:(ks.filter λz=>decide (z≠y)).Nodup:=fk.filter _
    have oH:(ks.filter λz=>decide (z≠y)).length<ks.length:=List.length_filter_lt_length_iff_exists.mpr ⟨y,hy,Ha⟩
    generalize ks.filter (λz=>decide (z≠y))=kf at r9 oG oH
    have k8:Keep [] H (US mm za):=k7.fr fmm
    have uu:(US mm za) mm=some za:=zab
    have df:(US mm za) tk=some (Hr ((D++[y]).map V.str)):=by rw[zaf (Zl nmt)];exact qK
    generalize US mm za=H8 at k8 uu df
    obtain⟨en,bv,uN⟩:=Qf.mp (by rw[iE];exact hyn:y∈es.map (·.1))
    have jo:en.1=y:=uN
    have hry:r y=en.2.1:=by rw[←jo];exact am en bv
    have wt8:WAt H8 C x dx d es:=wt.keep k8 Ha Ha RJ
    refine⟨wI,x,dx,wI,wt8.ob,rfl,wI,x,dx,d,es,en,by rw[jo];rfl,wt8,bv,λq hq=>?_⟩
    have nqm:mm≠q:=zac uu hq
    have nqt:tk≠q:=zac df hq
    have fq:H q=none:=zao k8 hq Ha
    refine⟨q,rfl,⟨_,TQ⟩,zbc (xs:=en.2.1.map V.str) (λj σ H'=>Aj5 (Ex1 λx4=>σ=[zk,Hc mm,Hc tk,Sx y,x4]) (H' q=some (Hr (en.2.1.map V.str))) (H' tk=some (Hr ((D++[y]).map V.str))) (H' mm=some (.dK (cnt kf λz=>((dg r D z:Nat):Int)-if z∈en.2.1.take j then 1 else 0))) Pp)
     ⟨⟨_,rfl⟩,zab,Ht nqt df,?_,k8.fr fq⟩ (λj σ H' _ hh=>SqL.of hh.2) ?_ ?_⟩
    ·rw [zaf nqm,uu]
     congr 2
    ·rintro j v σ H9 tf ⟨⟨x4,rfl⟩,tZ,gX,ox,k9⟩
     have hj:j<en.2.1.length:=by
      have:=(LA tf).1
      rwa[Qa]at this
     have ie:v=.str en.2.1[j]:=by
      rw[Qo,Qd hj]at tf
      exact(Qn tf).symm
     subst ie
     have aZ:en.2.1.Nodup:=hry▸rn y
     have og:=zcj aZ hj
     have g9:=DGet.k (k:=Sum.inr en.2.1[j]) ox
     by_cases f8:en.2.1[j]∈kf
     ·rw [cnt_in f8,Sb og] at g9
      refine⟨wI,wI,mm,wI,g9,wI,W8 ?_⟩
      refine⟨wI,wI,mm,wI,g9,_,wI,rfl,_,DPut.k (k:=Sum.inr en.2.1[j]) ox (by unfold cnt;rw[List.length_map];lia),⟨wI⟩,?_,?_,?_,k9.fr fmm⟩
      ·rw[zaf (Zl nqm)];exact tZ
      ·rw[zaf (Zl nmt)];exact gX
      ·rw [zab,cnt_put f8]
       congr 2
       refine zg0 λz _=>?_
       rw[Qi hj]
       by_cases hz:z=en.2.1[j]
       ·rw [Si hz,hz,Si E8]
        lia
       ·rw [Sb hz]
        by_cases bK:z∈en.2.1.take j
        ·rw[if_pos bK,if_pos (YF bK)]
        ·rw[if_neg bK,if_neg (λh=>(Ql.mp h).elim bK λh=>hz (CS h))]
     ·rw [cnt_out f8] at g9
      refine⟨wI,wI,mm,wI,g9,wI,WG ⟨⟨wI⟩,tZ,gX,?_,k9⟩⟩
      rw[ox]
      congr 2
      refine zg0 λz hz=>?_
      rw[Qi hj]
      have az:z≠en.2.1[j]:=λe=>f8 (e▸hz)
      by_cases bK:z∈en.2.1.take j
      ·rw[if_pos bK,if_pos (YF bK)]
      ·rw[if_neg bK,if_neg (λh=>(Ql.mp h).elim bK λh=>az (CS h))]
    ·rintro σ H9 ⟨⟨x4,rfl⟩,tZ,gX,ox,k9⟩
     refine⟨_,oH,D++[y],kf,rfl,⟨_,wI⟩,?_,gX,vE,oG,r9,k9⟩
     rw[ox]
     congr 2
     refine zg0 λz _=>?_
     rw[Qa,Qs Hx,←hry]
     exact dg_snoc rn sy qF z
end
end K21
end
section
namespace Wb
open PySem L2
def IsMex(us:List Int)(n:Nat):Prop:=(n:Int)∉us∧∀m:Nat,m<n→(m:Int)∈us
def IsMex.one{us mE:List Int}{n m:Nat}(h:∀z,z∈us↔z∈mE)(a:IsMex us n)(b:IsMex mE m):n=m:=by
 rcases Nat.lt_trichotomy n m with z | z | z
 ·exact absurd ((h _).mpr (b.2 n z)) a.1
 ·exact z
 ·exact absurd ((h _).mp (a.2 m z)) b.1
def mex_ex(us:List Int):∃n,n≤us.length∧IsMex us n:=by
 have h1:∃n,n≤us.length∧(n:Int)∉us:=by
  refine Kx λh=>?_
  have all:∀n,n≤us.length→(n:Int)∈us:=λn hn=>Kx λz=>h ⟨n,hn,z⟩
  have nd:((Se (us.length+1)).map λn:Nat=>(n:Int)).Nodup:=Us.mpr (List.nodup_range.imp λh e=>h (Int.ofNat.inj e))
  have:=nd.length_le_of_subset (l₂:=us) λz hz=>by
   obtain⟨n,hn,rfl⟩:=Qf.mp hz
   exact all n (Nat.le_of_lt_succ (Wk.mp hn))
  rw[Qa,Yo]at this
  exact absurd this (Nat.not_succ_le_self _)
 obtain⟨n,hn⟩:=h1
 induction n using Nat.strongRecOn with
 | ind n ih =>
  by_cases h:∃m,m<n∧(m:Int)∉us
  ·obtain ⟨m,hm,hmu⟩:=h
   exact ih m hm ⟨Zg (Wo hm) hn.1,hmu⟩
  ·exact⟨n,hn.1,hn.2,λm hm=>Kx λz=>h ⟨m,hm,z⟩⟩
noncomputable def mex(us:List Int):Nat:=Classical.choose (mex_ex us)
def mex_is(us:List Int):IsMex us (mex us):=(Ke (mex_ex us)).2
def mex_eq(h:∀z,z∈us↔z∈mE):mex us=mex mE:=(mex_is us).one h (mex_is mE)
end Wb
namespace K21
open PySem L2 Wb
abbrev sFree:Stmt:=top 2
def ndFr:(["other", "hues"]:List Str).Nodup:=by decide +kernel
def inV_int{x:Int}{zs:List Int}:inV (HM x) (zs.map V.int)=decide (x∈zs):=by
 unfold inV
 rw[Yp,Yn,decide_eq_true_iff]
 constructor
 ·rintro ⟨v,hv,e⟩
  obtain⟨y,hy,rfl⟩:=Qf.mp hv
  have e':y=x:=eq_of_beq e
  rw[←e'];exact hy
 ·exact λh=>⟨_,La ⟨x,h,rfl⟩,EU x⟩
def flat_ints(zs:List Int):(zs.map V.int).all zdq=true:=Uf.mpr λv hv=>by
 obtain⟨y,_,rfl⟩:=Qf.mp hv
 rfl
noncomputable def frV(us:List Int)(many:Nat):V:=if mex us<many then .int (mex us:Nat) else .non
inductive IspFree(C:Nc)(vs:List V)(H:Hp)(Q:VK):Prop
 |mk (x dx d u:Nc) (es:List Ent) (e:Ent) (D:Nh) (F:Str→Int) (many:Nat) (h0:vs=[.ref x,.ref u,.str e.1,.int many]) (h1:WAt H C x dx d es) (h2:H u=some (.dK (cnt D F))) (h3:e∈es) (h4:e.2.1.length≤100) (h5:many≤100)
  (h7:∀H',Keep [] H H'→Q (frV ((e.2.1.filter λz=>decide (z∈D)).map F) many) H'):IspFree C vs H Q
def spFree(C:Nc):Sp:=λvs H Q _=>IspFree C vs H Q
section
variable{P:Nk}{w:Nn}{K:Na}{mg:Ng}{base:Np}
def scFree:zaj ["web", "hues", "place", "many", "around", "hue"] ["web", "hues", "place", "many"] (zai sFree):=fsk
def ok_free{f C fr:Nc}{fd fdr:Nw}(F:QE "free_hue" "free_hue" sFree f fd)(cW:Mf C)(mR:Vi "round_of" fr)(bR:W7 fdr ["self", "place"] [])(GR:ZB 1 fr fdr ["self", "place"] A8)(aG:mg "range" = none):ZB 2 f fd ["web", "hues", "place", "many"] PJ:=by
 refine F.okL scFree Hj
 obtain⟨x,dx,d,u,es,e,D,G,many,rfl,wt,hd,he,cg,hmy,k⟩:=h
 have hu:=zb6 hr
 have ap:sizeLine=16777216:=sizeLine_eq
 refine⟨_,zad (ps_lc (i:=4) (M:=["other", "hues"]) (ix:=[none,xq]) scFree.nd rfl rfl (mkB scFree) rfl (IP (zgi (pl:=_) R6 cW mR GR hr bR .nil zdi Sn)) (λC a5 ex s H=>UN ndFr)
    (λC a5 ex s H=>zci (Ch (by exact hu) R6)) (λC a5 ex s H=>zbo (by exact hu) Rj R6) rfl)
  (zad (Z4 (U7 Tp) (XB scFree.nd)
   (zag (zC (NW So Sd rfl) (zag IZ))))
  (zag Av)),?_⟩
 refine⟨wI,x,dx,wI,wt.ob,rfl,wI,x,dx,d,es,e,rfl,wt,he,λq hq=>?_⟩
 have k1:Keep [] H (ZX q Ru):=Keep.new hq
 have dz:(ZX q Ru) q=some Ru:=zab
 generalize ZX q Ru=H1 at k1 dz
 have lZ:=k1 _ _ hd Ha
 refine⟨q,rfl,⟨_,Hk dz⟩,λi m ys τ H'=>Aj5 (m=e.2.1.length-i) (i≤e.2.1.length) (Ex1 λx0=>τ=[x0,CL]) (H'=H1) (ys=(((e.2.1.take i).filter λz=>decide (z∈D)).map G).map V.int),
  ⟨e.2.1.length,rfl,SJ,⟨none,rfl⟩,rfl,rfl⟩,?_⟩
 rintro i m ys τ H' ⟨rfl,hi,⟨x0,rfl⟩,rfl,rfl⟩
 by_cases ad:i<e.2.1.length
 ·have hU:=Wi (fun z=>decide (z∈D)) (e.2.1.take i)
  rw[Zt]at hU
  refine .inr ⟨⟨_,.str e.2.1[i],Hk dz,by rw[Qo,Qd ad];rfl⟩,by rw[Qa,Qa];lia,?_⟩
  rintro v H3 ⟨rfl,hv⟩
  have aX:=hv _ (Hk dz)
  rw[Qo,Qd ad]at aX
  obtain rfl:V.str e.2.1[i]=v:=Qn aX
  have g:=DGet.k (k:=Sum.inr e.2.1[i]) lZ
  by_cases hz:e.2.1[i]∈D
  ·rw [cnt_in hz] at g
   refine⟨wI,wI,u,wI,g,wI,W8 ⟨wI,wI,u,wI,g,e.2.1.length-HN,Hz,rfl,ad,⟨wI⟩,rfl,?_⟩⟩
   rw[Qi ad,Yh,Zo O0,Yz,Qq,Qq];rfl
  ·rw [cnt_out hz] at g
   refine⟨wI,wI,u,wI,g,wI,WG ⟨e.2.1.length-HN,Hz,rfl,ad,⟨wI⟩,rfl,?_⟩⟩
   rw[Qi ad,Yh,Zp O0,Yz,Zs]
 ·have ck:i=e.2.1.length:=by exact zar3 ‹_› ‹_›
  subst ck
  refine .inl ⟨⟨_,Hk dz,Rm Qa⟩,λL hL=>?_⟩
  rw[Qs Hx]
  generalize hus:(e.2.1.filter λz=>decide (z∈D)).map G=us at k
  have k2:Keep [] H (YL L Cc):=k1.trans (Ho hL)
  have rJ:(YL L Cc) L=some Cc:=zab
  generalize YL L Cc=H2 at k2 rJ
  have fj:=mex_is us
  refine⟨wI,many,rfl,HI,HI,zcq (λi σ H'=>Aj3 (H'=H2) (Ex1 λx5=>σ=[zk,CL,LT,Hs (.int many),Hc L,x5]) (∀m:Nat,m<i→(m:Int)∈us)) ⟨rfl,⟨_,rfl⟩,λm hm=>absurd hm (Kl _)⟩ ?_ ?_⟩
  ·rintro i σ H3 hi ⟨rfl,⟨x5,rfl⟩,aR⟩
   have ei:(0:Int)+(i:Int)=(i:Int):=by lia
   rw[ei]
   refine⟨wI,wI,L,wI,SS rJ,rfl,flat_ints us,wI,?_⟩
   by_cases ao:(i:Int)∈us
   ·refine za7 (by rw [EB,inV_int,HY ao];rfl) ⟨rfl,⟨_,rfl⟩,fun m hm=>?_⟩
    rcases Nat.lt_succ_iff_lt_or_eq.mp hm with z | z
    ·exact aR m z
    ·rw[z];exact ao
   ·refine zbf (by rw [EB,inV_int,Su ao];rfl) ⟨_,rfl,?_⟩
    have:mex us=i:=fj.one (λ_=>Iff.rfl) ⟨ao,aR⟩
    unfold frV at k
    rw[this,if_pos (show i<many by lia)]at k
    exact k _ k2
  ·rintro σ H3 ⟨rfl,⟨x5,rfl⟩,aR⟩
   unfold frV at k
   rw[if_neg λz=>fj.1 (aR _ Hb)]at k
   exact k _ k2
end
end K21
end
section
namespace Wb
open PySem L2
section
variable{α β:Type}
structure Bud(f:Nat→Option α×Nat)(R:Option α)(N b:Nat):Prop where
 le:N≤b
 is:∀m,f m=if N≤m then(R,N) else(none,m)
def goB:List (Nat→Option α×Nat)→Nat→Nat→Option α×Nat
 |[],_,s=>(none,s)
 |g::t,m,s=>if s=m then(none,s) else match g (m-s-1) with
  |(some a,n)=>(y9,s+1+n)
  |(none,n)=>Mb (s+1+n)
theorem zeq:∀(t:S1 (Nat→Option α×Nat)) (m:Nat),Mb m=(none,m)
 |[],_=>rfl
 |_::_,_=>if_pos rfl
theorem goB_bud:∀{gs:List (Nat→Option α×Nat)},(∀g∈gs,∃R N,Bud g R N b)→∃R N,N≤gs.length*(b+1)∧∀m s,s≤m→goB gs m s=if s+N≤m then(R,s+N) else(none,m)
 |[],_=>⟨none,0,Zc _,λm s h=>by
  show(none,s)=_
  rw[if_pos Hb];rfl⟩
 | g::t,h=>by
  obtain⟨R1,N1,l1,e1⟩:=h g Qb
  obtain⟨R2,N2,l2,e2⟩:=goB_bud λg hg=>h g (QZ hg)
  have hl:(g::t).length*(b+1)=t.length*(b+1)+(b+1):=by rw[Qz,Nat.add_mul,Nat.one_mul]
  cases R1 with
  | some a =>
   refine⟨y9,1+N1,HH hl,λm s hs=>?_⟩
   show(if s=m then(none,s) else match g (m-s-1) with | (some a,n)=>(some a,s+1+n) | (none,n)=>goB t m (s+1+n))=_
   by_cases hm:s=m
   ·rw[if_pos hm,if_neg Hb,hm]
   ·rw [Sb hm,e1]
    by_cases hn:N1≤m-s-1
    ·rw [Si hn,Si Hb]
     show(y9,s+1+N1)=(y9,s+(1+N1))
     rw[Xb]
    ·rw [Sb hn,Sb Hb]
     show Mb (s+1+(m-s-1))=_
     rw[show s+1+(m-s-1)=m by lia,zeq]
  | none =>
   refine⟨R2,1+N1+N2,HH hl,λm s hs=>?_⟩
   show(if s=m then(none,s) else match g (m-s-1) with | (some a,n)=>(some a,s+1+n) | (none,n)=>goB t m (s+1+n))=_
   by_cases hm:s=m
   ·rw[if_pos hm,if_neg Hb,hm]
   ·rw [Sb hm,e1]
    by_cases hn:N1≤m-s-1
    ·rw [Si hn]
     show Mb (s+1+N1)=_
     rw[e2 _ _ Hb]
     by_cases h2:s+1+N1+N2≤m
     ·rw[if_pos h2,if_pos Hb,show s+1+N1+N2=s+(1+N1+N2) by lia]
     ·rw[if_neg h2,if_neg Hb]
    ·rw [Sb hn,Sb Hb]
     show Mb (s+1+(m-s-1))=_
     rw[show s+1+(m-s-1)=m by lia,zeq]
end
noncomputable def chH(c:Str→Prop):List Str:=open Classical in if h:∃L:List Str,L.Nodup∧L.Pairwise leS∧∀y,y∈L↔c y then Classical.choose h else[]
def chH_eq(nd:zs.Nodup)(so:zs.Pairwise leS)(hm:∀y,y∈zs↔c y):zs=chH c:=by
 have h:∃L:List Str,L.Nodup∧L.Pairwise leS∧∀y,y∈L↔c y:=⟨zs,nd,so,hm⟩
 unfold chH
 rw[dif_pos h]
 obtain⟨h1,h2,h3⟩:=Ke h
 exact sorted_one ((Ji nd h1).mpr λy=>(hm y).trans (h3 y).symm) so h2
def chH_nd(c:Str→Prop):(chH c).Nodup:=by
 unfold chH
 split
 ·rename_i h;exact(Ke h).1
 ·exact Zn
def zi5(h:y∈chH c):c y:=by
 unfold chH at h
 split at h
 ·rename_i z;exact((Ke z).2.2 y).mp h
 ·cases h
end Wb
namespace K21
open PySem L2 Wb
def hu(hs:List (Str×Int))(z:Str):Int:=match hueV hs z with
 |.int n=>n
 |_=>0
abbrev Swap:=Str×Int×List Str
noncomputable def chN(r:Nr)(hs:List HS)(q:Str×Int):List Str:=chH (Conn (λz=>(r z).filter (Bu xj q.2)) q.1)
noncomputable def swN(r:Nr)(hs:List HS)(q:Str×Int):Swap:=(q.1,q.2,chN r hs q)
def exN(hs:List HS)(w:Swap):List HS:=ex w.2.2 (WA w.1) w.2.1 hs
def usN(r:Nr)(hs:List HS)(x:Str):List Int:=((r x).filter λz=>decide (z∈hs.map (·.1))).map (hu hs)
noncomputable def trN(r:Nr)(hs:List HS)(x:Str):List HS:=((chH (·∈r x)).filter λs=>decide (s∈hs.map (·.1))).flatMap λs=>(([0,1,2,3]:List Int).filter λo=>!decide (o=WA s)).map λo=>(s,o)
noncomputable def onN(r:Nr)(hs:List HS)(x:Str)(m:Nat):Option CT×Nat:=goB ((JK x).map λq _=>(if mex Aw<4 then some [Ae] else none,0)) m 0
noncomputable def twN(r:Nr)(hs:List HS)(x:Str)(m:Nat):Option CT×Nat:=goB ((JK x).map λq b=>((ZU x b).1.map (swN r hs q::·),(ZU x b).2)) m 0
noncomputable def fsN(r:Nr)(hs:List HS)(x:Str)(m:Nat):Option CT×Nat :=
 if mex (usN r hs x)<4 then(some [],0) else match onN r hs x m with
  |(some L,n)=>(Hs L,n)
  |(none,n)=>((WB x (m-n)).1,n+(WB x (m-n)).2)
abbrev Step:=Str×Int×List Swap
noncomputable def cbN(r:Nr)(hs:List HS)(x:Str)(L:List Swap):List HS:=ZR hs++[(x,(mex (Q6 x):Int))]
noncomputable def fpN(r:Nr):List Str→List HS→Nat→Nat→Option (List Step)×Nat
 |[],_,_,s=>(some [],s)
 |x::t,hs,m,s=>match fsN r hs x (m-s) with
  |(none,n)=>(none,s+n)
  |(some L,n)=>((UY (s+n)).1.map ((x,(mex (Q6 x):Int),L)::·),(UY (s+n)).2)
def tr_len(h:(r x).length≤d):(JK x).length≤d*4:=by
 unfold trN
 have h1:((chH (·∈r x)).filter λs=>decide (s∈hs.map (·.1))).length≤d:=by
  refine XS (Zg (zb9 (chH_nd _) λy hy=>?_) h)
  exact zi5 hy
 generalize(chH (·∈r x)).filter (λs=>decide (s∈hs.map (·.1)))=l at h1
 refine Zg ?_ (Nat.mul_le_mul_right 4 h1)
 clear h1
 induction l with
 |nil=>exact Zc _
 |cons a t ih =>
  rw[List.flatMap_cons,Qw,Qa,Qz,Nat.add_mul,Nat.one_mul]
  have:=Wi (λo=>!decide (o=WA a)) ([0,1,2,3]:List Int)
  have h4:([0,1,2,3]:List Int).length=4:=rfl
  lia
def on_bud(h:(r x).length≤16):∃R N,Bud (UI x) R N 64:=by
 obtain⟨R,N,l,e⟩:=goB_bud (b:=0) (gs:=(JK x).map λq _=>(if mex Aw<4 then some [Ae] else none,0)) λg hg=>by
  obtain⟨q,_,rfl⟩:=Qf.mp hg
  exact⟨_,0,Hx,λm=>by rw[if_pos SJ]⟩
 have:=tr_len (hs:=hs) h
 rw[Qa]at l
 refine⟨R,N,Hb,λm=>?_⟩
 have:=e m 0 SJ
 rw[Nat.zero_add]at this
 exact this
def tw_bud(h:(r x).length≤16):∃R N,Bud (WB x) R N 4160:=by
 obtain⟨R,N,l,e⟩:=goB_bud (b:=64) (gs:=(JK x).map λq b=>((ZU x b).1.map (swN r hs q::·),(ZU x b).2)) λg hg=>by
  obtain⟨q,_,rfl⟩:=Qf.mp hg
  obtain⟨R,N,l,e⟩:=on_bud (r:=r) (hs:=Z8 Ae) h
  refine⟨R.map (swN r hs q::·),N,l,λm=>?_⟩
  show((ZU x m).1.map (swN r hs q::·),(ZU x m).2)=_
  rw[e]
  by_cases h:N≤m
  ·rw[if_pos h,if_pos h]
  ·rw[if_neg h,if_neg h];rfl
 have:=tr_len (hs:=hs) h
 rw[Qa]at l
 refine⟨R,N,Hb,λm=>?_⟩
 have:=e m 0 SJ
 rw[Nat.zero_add]at this
 exact this
def tw_zero(r:Nr)(hs:List HS)(x:Str):WB x 0=(none,0):=zeq _ 0
def fs_bud(h:(r x).length≤16):∃ R N,Bud (XU x) R N 4224:=by
 by_cases h0:mex (Y4 hs x)<4
 ·exact⟨some [],0,Hf,λm=>by unfold fsN;rw[if_pos h0,if_pos (Nat.zero_le _)]⟩
 obtain⟨R1,N1,l1,e1⟩:=on_bud (hs:=hs) h
 obtain⟨R2,N2,l2,e2⟩:=tw_bud (hs:=hs) h
 cases R1 with
 | some L =>
  refine⟨Hs L,N1,Hb,λm=>?_⟩
  unfold fsN
  rw[if_neg h0,e1]
  by_cases hm:N1≤m
  ·rw[if_pos hm]
  ·rw [Sb hm]
   show((WB x (m-m)).1,m+(WB x (m-m)).2)=_
   rw[Ko,tw_zero];rfl
 | none =>
  refine⟨R2,N1+N2,Hb,λm=>?_⟩
  unfold fsN
  rw[if_neg h0,e1]
  by_cases hm:N1≤m
  ·rw [Si hm]
   show((WB x (m-N1)).1,N1+(WB x (m-N1)).2)=_
   rw[e2]
   by_cases h2:N2≤m-N1
   ·rw[if_pos h2,if_pos Hb]
   ·rw [Sb h2,Sb Hb]
    show(none,N1+(m-N1))=(none,m)
    rw[show N1+(m-N1)=m by lia]
  ·rw [Sb hm,Sb Hb]
   show((WB x (m-m)).1,m+(WB x (m-m)).2)=_
   rw[Ko,tw_zero];rfl
end K21
end
section
namespace K21
open PySem L2 Wb
abbrev sSwapOf:Stmt:=top 22
abbrev zic:Stmt:=top 23
structure WOk(es:List Ent):Prop where
 few:es.length≤16
 rl:∀e∈es,e.2.1.length≤16
 cl:∀z y,y∈ZK z→y∈es.map (·.1)
 rn:∀y,(ZK y).Nodup
 sy:∀a b,b∈ZK a→a∈ZK b
inductive SwAt(B H:Hp)(a:Nc)(w:Swap):Prop
 |mk (l:Nc) (h0:B l=none) (h1:H a=some (.tup [.str w.1,.int w.2.1,.ref l])) (h2:H l=some (.lst (w.2.2.map V.str))):SwAt B H a w
def SwAt.keep(h:K0 w)(k:Rl H):SwAt B H' a w:=by
 obtain⟨l,h0,h1,h2⟩:=h
 exact⟨l,h0,CP h1,CP h2⟩
def SwAt.old(h:K0 w)(k:Keep [] B' B):Gb H a w:=by
 obtain⟨l,h0,h1,h2⟩:=h
 exact⟨l,yH k h0,h1,h2⟩
def HAt.hf(h:Dg hs):HF H u hs:=⟨.inl h.dc,h.nd⟩
def hu_in(nd:(hs.map (·.1)).Nodup)(h:e∈hs):WA e.1=e.2:=by
 unfold hu hueV
 rw[zcb nd h];rfl
def ziv(nd:(hs.map (·.1)).Nodup)(h:s∈hs.map (·.1)):(s,WA s)∈hs:=by
 obtain⟨e,he,rfl⟩:=Qf.mp h
 rw[hu_in nd he];exact he
def tw_key(h:Bu a b y=true):y∈hs.map (·.1):=by
 refine Ul λz=>?_
 unfold tw hueV at h
 rw[zes z]at h
 cases h
def ch_key(hq:q.1∈hs.map (·.1))(h:y∈chN r hs q):y∈hs.map (·.1):=by
 have c:=zi5 h
 induction c with
 |refl=>exact hq
 |step _ hz _=>exact tw_key (Pf hz).2
def ze6(hs:List HS)(w:Swap):(Z8 w).map (·.1)=hs.map (·.1):=ziz ..
inductive IspSwapOf(C:Nc)(vs:List V)(H:Hp)(Q:VK):Prop
 |mk (x dx d u:Nc) (es:List Ent) (hs:List (Str×Int)) (s:Str) (o:Int) (h0:vs=[.ref x,.ref u,.str s,.int o]) (h1:WAt H C x dx d es) (h2:WOk es) (h3:HAt H u hs) (h4:∀x∈hs.map (·.1),x∈es.map (·.1)) (h5:s∈hs.map (·.1)) (h6:o≠hu hs s) (h7:0≤o)
  (h8:∀(a:Nc) (H':Hp),SwAt H H' a (ZL (s,o))→H a=none→Keep [] H H'→Q RV H'):GQ Q
def zh6(C:Nc):Sp:=λvs H Q _=>GQ Q
inductive zhy(vs:List V)(H:Hp)(Q:VK):Prop
 |mk (B:Hp) (u a:Nc) (hs:List (Str×Int)) (w:Swap) (h0:vs=[.ref u,.ref a]) (h1:HAt H u hs) (h2:SwAt B H a w) (h3:w.1∈hs.map (·.1)) (h4:∀y∈w.2.2,y∈hs.map (·.1)) (h5:hs.length≤16)
  (h8:∀(t:Nc) (H':Hp),H t=none→B5 t (Z8 w)→Keep [] H H'→Q Ll H'):zhy vs H Q
def zet:Sp:=λvs H Q _=>zhy vs H Q
section
variable{P:Nk}{w:Nn}{K:Na}{mg:Ng}{base:Np}
def scSwapOf:zaj ["web", "hues", "start", "other"] ["web", "hues", "start", "other"] (zai sSwapOf):=fsk
def ok_swapof(F:QE "swap_of" "swap_of" sSwapOf f fd)(GC:ZF "chain" ["web", "hues", "start", "other"] 2 (spChain C)) :
  FnOk P w K mg base CX0 3 f fd ["web", "hues", "start", "other"] (zh6 C):=by
 refine F.okL scSwapOf Hn
 obtain⟨x,dx,d,u,es,hs,s,o,rfl,wt,W,hh,hk,nP,ho,ho0,kq⟩:=h
 refine⟨_,zag (Cp (ZW (QB (Rx (FH hr (ZM (ZV (ZW Tp)))))))),?_⟩
 refine⟨wI,wI,wI,wI,wI,wI,x,dx,d,u,es,hs,s,WA s,o,rfl,wt,Zg W.few Hf,λe he=>XV Hf,W.cl,hh.hf,VE nP,hk _ nP,ho,ho0,λl zs H1 hl cT cS cU fl k1=>⟨Py,λt ht=>?_⟩⟩
 have e:zs=Q8 (s,o):=chH_eq cT cS cU
 refine kq t _ ⟨l,fl,zab,?_⟩ (Fy ht Ha) (k1.trans TJ)
 rw[zaf (zy hl ht),hl,e];rfl
def zew:zaj ["hues", "swap", "start", "other", "places"] ["hues", "swap"] (zai zic):=fsk
def ok_swapped(F:QE "swapped" "swapped" zic f fd)(GE:ZF "exchanged_in" ["hues", "places", "one", "other"] 1 spExIn) :
  FnOk P w K mg base CX0 2 f fd ["hues", "swap"] zet:=by
 refine F.okL zew Hn
 obtain⟨_,u,a,hs,w',rfl,hh,⟨l,_,ha,hl⟩,hw1,hw2,iL,kq⟩:=h
 have aY:=zb6 hr
 refine⟨_,zad (zcz Rj (Cv (Ms zew.nd) (zak (M5 zew.nd) (TH (KB zew.nd)))))
  (zag (zaq (O1 GE (ZM (QH (Dk Tp)))))),?_⟩
 refine⟨wI,a,wI,Rk ha,rfl,_,wI,_,wI,_,wI,rfl,?_⟩
 have g:=hh.hf.get (Sum.inr w'.1)
 rw[BT (e:=(w'.1,WA w'.1)) (VE hw1)]at g
 exact⟨wI,wI,wI,wI,u,wI,g,wI,u,l,hs,w'.2.2,WA w'.1,w'.2.1,rfl,hh.hf,hl,hw2,Zg iL Hf,λt H' ht h' k'=>kq t H' ht h' k'⟩
end
abbrev sTries:Stmt:=top 27
abbrev PSI(H:Hp):List Addr→List HS→Prop:=Paired λa q=>H a=some (.tup [Oc,PM])
def PSI.keep(h:PSI H as qs)(k:Rl H):VF qs:=Paired.imp' (λ_ _ z=>k _ _ z Ha) h
def four_take(h:j<4):([0,1,2,3]:List Int).take (j+1)=([0,1,2,3]:List Int).take j++[(0:Int)+(j:Int)]:=by
 match j,h with
 |0,_=>rfl
 |1,_=>rfl
 |2,_=>rfl
 |3,_=>rfl
def ndTa:(["start", "hues"]:List Str).Nodup:=by decide +kernel
def ndTb:(["start", "other", "hues"]:List Str).Nodup:=by decide +kernel
inductive IspTries(C:Nc)(vs:List V)(H:Hp)(Q:VK):Prop
 |mk (x dx d u:Nc) (es:List Ent) (hs:List (Str×Int)) (e:Ent) (h0:vs=[.ref x,.ref u,.str e.1]) (h1:WAt H C x dx d es) (h2:WOk es) (h3:HAt H u hs) (h4:e∈es)
  (h8:∀(l:Nc) (as:No) (H':Hp),H' l=some Rz→VF (QC e.1)→Keep [] H H'→Q Sy H'):IspTries C vs H Q
def spTries(C:Nc):Sp:=λvs H Q _=>IspTries C vs H Q
section
variable{P:Nk}{w:Nn}{K:Na}{mg:Ng}{base:Np}
def zia:zaj ["web", "hues", "place", "starts"] ["web", "hues", "place"] (zai sTries):=fsk
def ok_tries(F:QE "tries" "tries" sTries f fd)(cW:Mf C)(mR:Vi "round_of" fr)(bR:W7 fdr ["self", "place"] [])(GR:ZB 1 fr fdr ["self", "place"] A8)(aB:mg "sorted" = none)(aG:mg "range" = none)(hF:mg "FOUR" = some Ax):ZB 2 f fd ["web", "hues", "place"] yq:=by
 refine F.okL zia Hn
 obtain⟨x,dx,d,u,es,hs,e,rfl,wt,W,hh,he,kq⟩:=h
 have aY:=zb6 hr
 have ap:=sizeLine_eq
 refine⟨_,zad (ps_lc (i:=3) (M:=["start", "hues"]) (ix:=[none,xq]) zia.nd rfl rfl (mkB zia) rfl (zas (Cy zcu (Rx (zgi (pl:=_) (pv 0) cW mR GR hr bR .nil zdi zo)))) (λC a5 ex s H=>UN ndTa)
    (λC a5 ex s H=>zci (Ch (by exact aY) R6)) RG rfl)
  (zag (zaq (pe_lc2 (M:=["start", "other", "hues"]) (ix:=[none,none,xq]) (mkB zia) rfl (IP RX) (λC a5 ex s H=>UN ndTb)
    (λC a5 ex s H=>zb8 rfl (by exact aG) (Rx (zgj (v:=.int 4) rfl (by exact hF) ⟨tk,rfl⟩))) (λC a5 ex s H=>zam 1 ndTb)
    (λC a5 ex s H=>zci (BS Rj (zbo (by exact aY) Sc R6) Sq)) (λC a5 ex s H=>zbd (ZM SH))))),?_⟩
 have bQ:ZK e.1=e.2.1:=Vl he
 have cg:=W.rl e he
 refine⟨wI,x,dx,wI,wt.ob,rfl,wI,x,dx,d,es,e,rfl,wt,he,λq hq=>?_⟩
 refine⟨q,e.2.1,rfl,TQ,λl1 ws aD ag au=>?_⟩
 have aA:ws.Nodup:=ag.nodup_iff.mpr (bQ▸W.rn e.1)
 have ews:ws=chH (·∈ZK e.1):=chH_eq aA wc λy=>by rw[bQ];exact ag.mem_iff
 have dw:ws.length≤16:=by rw[ag.length_eq];exact cg
 have k1:Keep [] H (UJ Rv):=(Ho hq).trans (Ho aD)
 have g1:(UJ Rv) l1=some Rv:=zab
 generalize UJ Rv=H1 at k1 g1
 have oT:HAt H1 u hs:=hh.keep k1 Ha
 refine⟨l1,rfl,⟨_,SqL.of g1⟩,zep (xs:=ws.map V.str) (λ τ=>∃x0,τ=[x0,some (.ref u)]) (λv=>match v with | .str z=>decide (z∈hs.map (·.1)) | _=>false) (SqL.of g1) (by rw[Qa];lia) ⟨none,rfl⟩ ?_ (λsl dy=>?_)⟩
 ·rintro v hv τ ⟨x0,rfl⟩ q1 q0 h1 h0
  obtain⟨z,hz,rfl⟩:=Qf.mp hv
  have gz:=oT.hf.get Ob
  refine⟨wI,wI,u,wI,gz,wI,?_⟩
  by_cases hk:z∈hs.map (·.1)
  ·rw [BT (e:=(z,WA z)) (VE hk)]
   exact iteT ⟨_,rfl,h1 (HY hk) _ ⟨_,rfl⟩⟩
  ·rw [zes hk]
   exact iteF (h0 (Su hk) _ ⟨_,rfl⟩)
 have ef:(ws.map V.str).filter (λv=>match v with | .str z=>decide (z∈hs.map (·.1)) | _=>false)=(ws.filter λz=>decide (z∈hs.map (·.1))).map V.str:=Uo
 rw[ef]
 have etr:QC e.1=(ws.filter λz=>decide (z∈hs.map (·.1))).flatMap λs=>(([0,1,2,3]:List Int).filter λo=>!decide (o=WA s)).map λo=>(s,o):=by unfold trN;rw[←ews]
 rw[etr]at kq
 have ar:∀y∈ws.filter (λz=>decide (z∈hs.map (·.1))),y∈hs.map (·.1):=λy hy=>of_decide_eq_true (Pf hy).2
 have tM:(ws.filter λz=>decide (z∈hs.map (·.1))).length≤16:=XS dw
 generalize ws.filter (λz=>decide (z∈hs.map (·.1)))=S at kq ar tM
 have k2:Keep [] H (QK sl Cn):=k1.trans (Ho dy)
 have g2:(QK sl Cn) sl=some Cn:=zab
 generalize QK sl Cn=H2 at k2 g2
 have uF:HAt H2 u hs:=hh.keep k2 Ha
 refine⟨_,rfl,sl,rfl,⟨_,Hk g2⟩,λi m ys τ H'=>Aj5 (m=S.length-i) (i≤S.length) (Ex2 λx0 x1=>τ=[x0,x1,CL]) AW (Ex1 λas:List Addr=>Aj3 (ys=as.map V.ref) (as.length≤4*i) (VF ((S.take i).flatMap λs=>(([0,1,2,3]:List Int).filter λo=>!decide (o=WA s)).map λo=>(s,o)))),
  ⟨S.length,rfl,SJ,⟨none,none,rfl⟩,Keep.refl,[],rfl,SJ,.nil⟩,?_⟩
 rintro i m ys τ H3 ⟨rfl,hi,⟨x0,x1,rfl⟩,k3,as,rfl,aW,pa⟩
 have g3:=k3 _ _ g2 Ha
 by_cases ad:i<S.length
 ·refine .inr ⟨⟨_,.str S[i],Hk g3,by rw [Qo,Qd ad];rfl⟩,?_⟩
  rintro v H4 ⟨rfl,hv⟩
  have aX:=hv _ (Hk g3)
  rw[Qo,Qd ad]at aX
  obtain rfl:V.str S[i]=v:=Qn aX
  have qW:=ar _ A9
  have tk:S.take HN=S.take i++[S[i]]:=Qi ad
  generalize S[i]=s at qW tk
  refine⟨(4:Int),rfl,Hf,Hb,?_⟩
  refine⟨λj m2 ys τ H2'=>Aj5 (m2=4-j) (j≤4) (Ex1 λx1=>τ=[Sx s,x1,CL]) (Keep [] H2 H2') (Ex1 λas:List Addr=>Aj3 (ys=as.map V.ref) (as.length≤4*i+j) (PSI H2' as (((S.take i).flatMap λs=>(([0,1,2,3]:List Int).filter λo=>!decide (o=WA s)).map λo=>(s,o))++((([0,1,2,3]:List Int).take j).filter λo=>!decide (o=WA s)).map λo=>(s,o)))),
   ⟨4,rfl,SJ,⟨_,rfl⟩,k3,as,rfl,aW,He pa⟩,?_⟩
  rintro j m2 ys τ H5 ⟨rfl,hj,⟨x1',rfl⟩,k5,dN,rfl,pR,sx⟩
  by_cases be:j<4
  ·refine .inr ⟨be,by rw [Qa];lia,?_⟩
   rintro y H6 ⟨rfl,rfl⟩
   have gs:=(uF.keep k5 Ha).hf.get (Sw s)
   rw[BT (e:=(s,WA s)) (VE qW)]at gs
   have aS:=four_take be
   refine⟨wI,wI,wI,u,wI,gs,rfl,wI,?_⟩
   by_cases hb:(0:Int)+(j:Int)=WA s
   ·refine za7 (by show (!decide (V.int _=V.int _))=false;rw [Ty hb];rfl) ⟨_,Hz,rfl,be,⟨_,rfl⟩,k5,dN,rfl,Hb,?_⟩
    rw[aS,Yh,Zp (by rw[decide_eq_true hb];decide),Yz,Zs];exact sx
   ·refine zbf (by show (!decide (V.int _=V.int _))=true;rw [decide_eq_false (fun z=>hb (by injection z))];rfl) ⟨_,rfl,_,rfl,SD,fun t ht=>⟨_,Hz,rfl,be,⟨_,rfl⟩,CA TJ,dN++[t],by rw [Qq];rfl,by rw [Qw];show _+1≤_;lia,?_⟩⟩
    rw[aS,Yh,Zo (by rw[decide_eq_false hb];rfl),Yz,Qq,←Qv]
    exact zax (PSI.keep sx TJ) (Sa zab)
  ·have ej:j=4:=by lia
   subst ej
   refine .inl ⟨Hx,_,Hz,rfl,ad,⟨_,_,rfl⟩,k5,dN,rfl,Hb,?_⟩
   rw[tk,List.flatMap_append,List.flatMap_cons,List.flatMap_nil,Zs]
   exact sx
 ·have ck:i=S.length:=by exact zar3 ‹_› ‹_›
  subst ck
  refine .inl ⟨⟨_,Hk g3,Rm Qa⟩,λD hD=>?_⟩
  rw[Qs Hx]at pa
  exact kq D as _ zab (PSI.keep pa (Ho hD)) ((Tr k3).trans (Ho hD))
end
abbrev sOne:Stmt:=top 28
inductive zc1(B H:Hp)(l:Nc)(L:List Swap):Prop
 |mk (as:No) (h0:B l=none) (h1:H l=some (.lst (as.map V.ref))) (h2:Paired (SwAt B H) as L):zc1 B H l L
def zc1.keep(h:NA L)(k:Rl H):zc1 B H' l L:=by
 obtain⟨as,h0,h1,h2⟩:=h
 exact⟨as,h0,CP h1,Paired.imp' (λ_ _ z=>z.keep k) h2⟩
def zc1.old(h:NA L)(k:Keep [] B' B):zc1 B' H l L:=by
 obtain⟨as,h0,h1,h2⟩:=h
 exact⟨as,yH k h0,h1,Paired.imp' (λ_ _ z=>z.old k) h2⟩
inductive ResAt(B H:Hp)(t:Nc)(p:Option (List Swap)×Nat):Prop
 |no (h0:p.1=none) (h1:H t=some (.tup [.non,.int (p.2:Nat)])):ResAt B H t p
 |yes (l:Nc) (L:List Swap) (h0:p.1=some L) (h1:H t=some (.tup [.ref l,.int (p.2:Nat)])) (h2:zc1 B H l L):ResAt B H t p
inductive IspOne(C:Nc)(vs:List V)(H:Hp)(Q:VK):Prop
 |mk (x dx d u:Nc) (es:List Ent) (hs:List (Str×Int)) (e:Ent) (m:Nat) (h0:vs=[.ref x,.ref u,.str e.1,.int (m:Int)]) (h1:WAt H C x dx d es) (h2:WOk es) (h3:HAt H u hs) (h4:e∈es) (h5:∀x∈hs.map (·.1),x∈es.map (·.1))
  (h8:∀(t:Nc) (H':Hp),Dl (ZY m)→Keep [] H H'→Q Ll H'):IspOne C vs H Q
def spOne(C:Nc):Sp:=λvs H Q _=>IspOne C vs H Q
def hs_cnt{hs:List HS}(nd:(hs.map (·.1)).Nodup):RD=cnt (hs.map (·.1)) (hu hs):=by
 unfold cnt
 rw[Zj]
 refine Yc λe he=>?_
 show((Sum.inr e.1:Key),V.int e.2)=(Sf,S7 (WA e.1))
 rw[hu_in nd he]
def zfm{r:Nr}{hs:List HS}{x:Str}{q:Str×Int}(h:q∈JK x):q.1∈hs.map (·.1)∧q.2≠WA q.1∧0≤q.2∧q.1∈r x:=by
 unfold trN at h
 obtain⟨s,h1,h2⟩:=List.mem_flatMap.mp h
 obtain⟨o,h3,rfl⟩:=Qf.mp h2
 have h4:=Zd.mp h1
 have h5:=Zd.mp h3
 refine⟨of_decide_eq_true h4.2,λz=>?_,?_,zi5 h4.1⟩
 ·have h6:(!decide (o=WA s))=true:=h5.2
  rw[decide_eq_true z]at h6;cases h6
 ·have h7:=h5.1
  simp at h7
  show 0≤o
  lia
def zea{α:Type}{g:Nat→Option α×Nat}{t:List (Nat→Option α×Nat)}{m s n:Nat}{a:α}(h:s≠m)(hg:g (m-s-1)=(y9,n)):goB (g::t) m s=(y9,s+1+n):=by
 show(if s=m then(none,s) else _)=_
 rw[if_neg h,hg]
def zeb{α:Type}{g:Nat→Option α×Nat}{t:List (Nat→Option α×Nat)}{m s n:Nat}(h:s≠m)(hg:g (m-s-1)=(none,n)):goB (g::t) m s=Mb (s+1+n):=by
 show(if s=m then(none,s) else _)=_
 rw[if_neg h,hg]
def hs_len{es:List Ent}{hs:List HS}(W:WOk es)(nd:(hs.map (·.1)).Nodup)(h:∀x∈hs.map (·.1),x∈es.map (·.1)):hs.length≤16:=by
 have:=zb9 nd h
 rw[Qa,Qa]at this
 exact Zg this W.few
def us_is{es:List Ent}{e:Ent}(nd:(es.map (·.1)).Nodup)(he:e∈es)(hs:List HS):(e.2.1.filter λz=>decide (z∈hs.map (·.1))).map (hu hs)=ZS hs e.1:=by
 unfold usN
 rw[KW he]
section
variable{P:Nk}{w:Nn}{K:Na}{mg:Ng}{base:Np}
def scOne:zaj ["web", "hues", "place", "most", "steps", "start", "other", "swap"] ["web", "hues", "place", "most"] (zai sOne):=fsk
def ok_one{tk:Tok}(F:QE "by_one" "by_one" sOne f fd)(GT:ZF "tries" ["web", "hues", "place"] 2 yq)(GS:ZF "swap_of" ["web", "hues", "start", "other"] 3 (zh6 C))(GX:ZF "swapped" ["hues", "swap"] 2 zet)(GH:ZF "free_hue" ["web", "hues", "place", "many"] 2 PJ)(hF:mg "FOUR" = some Ax):ZB 4 f fd ["web", "hues", "place", "most"] (spOne C):=by
 refine F.okL scOne Hn
 obtain⟨x,dx,d,u,es,hs,e,m,rfl,wt,W,hh,he,hk,kq⟩:=h
 have bB:N7 _:=hr.mono Hf
 have ap:=sizeLine_eq
 refine⟨_,zad (Bb scOne.nd zah)
  (zad (Z4 xl (Cv (XB scOne.nd) (TH (XC scOne.nd)))
   (zad (MP zap)
   (zad (ps_aug (i:=4) scOne.nd rfl IF zah ip_add)
   (zad (Nz scOne.nd (VG (Ev wj)))
   (zag (zbn (ER (pcl GH bB (ZM (VO (zE (zgj (v:=.int 4) rfl hF ⟨tk,rfl⟩))))))
    (zag (Cp (zaa Px SO))) zap))))))
  (zag zb)),?_⟩
 have iL:=XX hk
 show Y6 _
 refine zgt (λ σ' H'=>Aj2 (σ'=[zk,CL,LT,Hs (.int (m:Int)),Ov,none,none,none]) (H=H')) (λD' bA=>bA _ _ ⟨rfl,rfl⟩) ?_
 rintro σ' H' ⟨rfl,rfl⟩
 dsimp only
 refine⟨wI,wI,wI,x,dx,d,u,es,hs,e,rfl,wt,W,hh,he,λl as H1 aD jC k1=>?_⟩
 have tm:=@zfm RI hs e.1
 have e0:ZY m=goB ((QC e.1).map λq _=>(if mex CU<4 then some [EV] else none,0)) m 0:=rfl
 generalize hT:QC e.1=T at jC e0 tm
 have rG:as.length=T.length:=Zy jC
 refine⟨l,rfl,⟨_,Hk aD⟩,zbc (xs:=as.map V.ref) (λi σ H'=>Aj3 (Ex3 λx5 x6 x7=>σ=[zk,CL,LT,Hs (.int (m:Int)),RZ ((i:Nat):Int),x5,x6,x7]) xW (ZY m=goB ((T.drop i).map λq _=>(if mex CU<4 then some [EV] else none,0)) m i))
  ⟨⟨_,_,_,rfl⟩,Keep.refl,e0⟩ (λi σ H' _ hh=>SqL.of (Ea aD Ha)) ?_ ?_⟩
 ·rintro i v σ H2 hv ⟨⟨x5,x6,x7,rfl⟩,k2,ei⟩
  have hi:i<as.length:=by have:=(LA hv).1;rwa[Qa]at this
  rw[Qo,Qd hi]at hv
  cases hv
  obtain⟨aU,dz⟩:=za5 jC hi
  rw[Zv aU,Qm]at ei
  obtain⟨t1,t2,t3,t4⟩:=tm AO
  have cG:=k2 _ _ dz Ha
  generalize T[i]=q at cG ei t1 t2 t3 t4
  have cq:=k1.trans k2
  refine⟨as[i],wI,Rk cG,rfl,_,wI,_,wI,rfl,?_⟩
  refine⟨wI,wI,rfl,wI,?_⟩
  by_cases hm:i=m
  ·refine zbf (HY (by rw [hm])) ⟨_,rfl,SD,fun t ht=>?_⟩
   have e1:ZY m=(none,i):=by rw[ei];exact if_pos hm
   refine kq t _ (.no (by rw[e1]) (Hl e1 zab)) (yr TJ)
  refine za7 (decide_eq_false (λz=>hm (by injection z with z;lia))) ⟨_,rfl,_,_,rfl,rfl,?_⟩
  have wk:∀{H':Hp},Keep [] H H'→Y3 es:=λkk=>wt.keep kk Ha Ha λ_ _=>by simp
  refine⟨wI,wI,wI,wI,x,dx,d,u,es,hs,q.1,q.2,rfl,wk cq,W,Ib cq,hk,t1,t2,t3,λa H3 mH fa k3=>?_⟩
  have gS:=cq.trans k3
  refine⟨wI,wI,wI,H2,u,a,hs,EV,rfl,Ib gS,mH,t1,λy hy=>ch_key t1 hy,iL,λu4 H4 fu h4 k4=>?_⟩
  have lF:=gS.trans k4
  refine⟨wI,x,dx,d,u4,es,e,(Z8 EV).map (·.1),hu Sz,4,rfl,wk lF,by rw[←hs_cnt h4.nd];exact h4.dc,he,XV Hf,Hf,λH5 k5=>⟨_,rfl,?_⟩⟩
  rw[MD he]
  have mY:=lF.trans k5
  have sh:=(mH.keep wu).old cq
  have dO:(((i+1:Nat):Nat):Int)=(i:Int)+1:=by lia
  unfold frV
  by_cases hx:mex CU<4
  ·have rT:ZY m=(some [EV],i+1):=by
    exact ei.trans (zea (a:=[EV]) (n:=0) hm (by show(if _ then _ else _,0)=_;rw[if_pos hx]))
   rw[if_pos hx]
   refine W8 ⟨_,rfl,EM,λl6 h6=>?_⟩
   have k6:Keep [] H5 (QP l6 (.lst [RV])):=Keep.new h6
   have g6:(QP l6 (.lst [RV])) l6=some (Hr ([a].map V.ref)):=zab
   generalize QP l6 (.lst [RV])=H6 at k6 g6
   refine⟨wI,SD,λt7 h7=>?_⟩
   have k7:Keep [] H6 (WD t7 (.tup [Hi l6,HM ((i:Int)+1)])):=Keep.new h7
   refine kq t7 _ (.yes l6 [EV] (by rw[rT]) (by rw[rT,zab];rfl) ⟨[a],yH mY h6,k7 _ _ g6 Ha,Sa (sh.keep (PK k7))⟩) ((mY.trans k6).trans k7)
  ·have rT:=ei.trans (zeb hm (n:=0) (by show (if _ then _ else _,0)=_;rw [yJ]))
   rw[if_neg hx]
   refine WG ⟨⟨_,_,_,by rw[dO];rfl⟩,((Tr k3).trans k4).trans k5,rT⟩
 ·rintro σ H2 ⟨⟨x5,x6,x7,rfl⟩,k2,ei⟩
  rw[Qa,rG,Yv Hx]at ei
  have e1:ZY m=(none,T.length):=ei
  refine⟨wI,SD,λt ht=>?_⟩
  exact kq t _ (.no (by rw[e1]) (by rw[e1,zab,Qa,rG])) ((Lm k2).trans TJ)
end
abbrev sTwo:Stmt:=top 29
theorem goB_mem:∀{gs:List (Nat→Option α×Nat)} {m s:Nat},goB gs m s=(y9,k)→∃g∈gs,∃b n,g b=(y9,n)
 |[],m,s,h=>by cases h
 | g::t,m,s,h=>by
  by_cases hm:s=m
  ·have:goB (g::t) m s=(none,s):=if_pos hm
   rw[this]at h;cases h
  ·rcases hg:g (m - s - 1) with ⟨_ | a',n⟩
   ·rw [zeb hm hg] at h
    obtain⟨g',h1,h2⟩:=goB_mem h
    exact⟨g',QZ h1,h2⟩
   ·rw [zea hm hg] at h
    cases h
    exact⟨g,Qb,_,n,hg⟩
def on_one(h:(UI x m).1=some L):∃q∈JK x,L=[Ae]∧mex Aw<4:=by
 have h':UI x m=(Hs L,(UI x m).2):=Wj h rfl
 unfold onN at h'
 obtain⟨g,hg,b,n,e⟩:=goB_mem h'
 obtain⟨q,hq,rfl⟩:=Qf.mp hg
 have e1:(if mex Aw<4 then some [Ae] else none)=some L:=congrArg Prod.fst e
 split at e1
 ·rename_i z
  exact⟨q,hq,(Qn e1).symm,z⟩
 ·cases e1
def on_le(h:(r x).length≤16):(UI x m).2≤m:=by
 obtain⟨R,N,_,e⟩:=on_bud (hs:=hs) h
 rw[e]
 split
 ·assumption
 ·exact Qe _
inductive IspTwo(C:Nc)(vs:List V)(H:Hp)(Q:VK):Prop
 |mk (x dx d u:Nc) (es:List Ent) (hs:List (Str×Int)) (e:Ent) (m:Nat) (h0:vs=[.ref x,.ref u,.str e.1,.int (m:Int)]) (h1:WAt H C x dx d es) (h2:WOk es) (h3:HAt H u hs) (h4:e∈es) (h5:∀x∈hs.map (·.1),x∈es.map (·.1))
  (h8:∀(t:Nc) (H':Hp),Dl (Z5 m)→Keep [] H H'→Q Ll H'):IspTwo C vs H Q
def spTwo(C:Nc):Sp:=λvs H Q _=>IspTwo C vs H Q
section
variable{P:Nk}{w:Nn}{K:Na}{mg:Ng}{base:Np}
def scTwo:zaj ["web", "hues", "place", "most", "steps", "start", "other", "first", "second", "more"] ["web", "hues", "place", "most"] (zai sTwo):=fsk
def ok_two(F:QE "by_two" "by_two" sTwo f fd)(GT:ZF "tries" ["web", "hues", "place"] 2 yq)(GS:ZF "swap_of" ["web", "hues", "start", "other"] 3 (zh6 C))(GX:ZF "swapped" ["hues", "swap"] 2 zet)(GO:ZF "by_one" ["web", "hues", "place", "most"] 4 (spOne C)) :
  FnOk P w K mg base CX0 5 f fd ["web", "hues", "place", "most"] (spTwo C):=by
 refine F.okL scTwo Hn
 obtain⟨x,dx,d,u,es,hs,e,m,rfl,wt,W,hh,he,hk,kq⟩:=h
 have bB:N7 _:=hr.mono Hf
 have nV:Room 3 _:=hr.mono Hf
 have ap:=sizeLine_eq
 refine⟨_,zad (Bb scTwo.nd zah)
  (zad (Z4 xl (Cv (XB scTwo.nd) (TH (XC scTwo.nd)))
   (zad (MP zap)
   (zad (Nz scTwo.nd (LZ GS nV (QG (W5 zae))))
   (zad (zcz (Dm hr (ZM (VO (zE (Be (Be Pz Pu) zah))))) (Cv (zam 8 scTwo.nd) (TH (zam 9 scTwo.nd))))
   (zad (ps_aug (i:=4) scTwo.nd rfl IF (WV zah (pv 9)) ip_add)
   (zag (zbn (zbw (zel Em))
    (zag (Cp (zaa (Vd Px (pv 8)) SO))) zap)))))))
  (zag zb)),?_⟩
 have iL:=XX hk
 have aV:(ZK e.1).length≤16:=by rw[Vl he];exact W.rl e he
 show Y6 _
 refine zgt (λ σ' H'=>Aj2 (σ'=[zk,CL,LT,Hs (.int (m:Int)),Ov,none,none,none,none,none]) (H=H')) (λD' bA=>bA _ _ ⟨rfl,rfl⟩) ?_
 rintro σ' H' ⟨rfl,rfl⟩
 dsimp only
 refine⟨wI,wI,wI,x,dx,d,u,es,hs,e,rfl,wt,W,hh,he,λl as H1 aD jC k1=>?_⟩
 have tm:=@zfm RI hs e.1
 obtain⟨G,hG⟩:∃G:Str×Int→Nat→Option CT×Nat,G=λq b=>((Z1 Sz e.1 b).1.map (ZL q::·),(Z1 Sz e.1 b).2):=⟨_,rfl⟩
 have e0:Z5 m=goB ((QC e.1).map G) m 0:=by rw[hG];rfl
 generalize hT:QC e.1=T at jC e0 tm
 have rG:as.length=T.length:=Zy jC
 refine⟨l,rfl,⟨_,Hk aD⟩,zbc (xs:=as.map V.ref) (λi σ H'=>Ex1 λs:Nat=>Aj4 (Ex5 λx5 x6 x7 x8 x9=>σ=[zk,CL,LT,Hs (.int (m:Int)),RZ ((s:Nat):Int),x5,x6,x7,x8,x9]) xW (s≤m) (Z5 m=goB ((T.drop i).map G) m s))
  ⟨0,⟨_,_,_,_,_,rfl⟩,Keep.refl,SJ,e0⟩ (λi σ H' _ hh=>SqL.of (by obtain⟨_,_,z,_,_⟩:=hh;exact z _ _ aD Ha)) ?_ ?_⟩
 ·rintro i v σ H2 hv ⟨s,⟨x5,x6,x7,x8,x9,rfl⟩,k2,cV,ei⟩
  have hi:i<as.length:=by have:=(LA hv).1;rwa[Qa]at this
  rw[Qo,Qd hi]at hv
  cases hv
  obtain⟨aU,dz⟩:=za5 jC hi
  rw[Zv aU,Qm]at ei
  obtain⟨t1,t2,t3,t4⟩:=tm AO
  have cG:=k2 _ _ dz Ha
  generalize T[i]=q at cG ei t1 t2 t3 t4
  have cq:=k1.trans k2
  refine⟨as[i],wI,Rk cG,rfl,_,wI,_,wI,rfl,?_⟩
  refine⟨wI,wI,rfl,wI,?_⟩
  by_cases hm:s=m
  ·refine zbf (HY (by rw [hm])) ⟨_,rfl,SD,fun t ht=>?_⟩
   have e1:Z5 m=(none,s):=by rw[ei];exact if_pos hm
   refine kq t _ (.no (by rw[e1]) (Hl e1 zab)) (yr TJ)
  refine za7 (decide_eq_false (λz=>hm (by injection z with z;lia))) ?_
  have wk:∀{H':Hp},Keep [] H H'→Y3 es:=λkk=>wt.keep kk Ha Ha λ_ _=>by simp
  refine⟨wI,wI,wI,wI,x,dx,d,u,es,hs,q.1,q.2,rfl,wk cq,W,Ib cq,hk,t1,t2,t3,λa H3 mH fa k3=>?_⟩
  have gS:=cq.trans k3
  refine⟨wI,wI,wI,H2,u,a,hs,EV,rfl,Ib gS,mH,t1,λy hy=>ch_key t1 hy,iL,λu4 H4 fu h4 k4=>?_⟩
  have lF:=gS.trans k4
  have em:(m:Int)-(s:Int)-1=((m-s-1:Nat):Int):=by lia
  refine⟨wI,wI,wI,_,wI,rfl,_,wI,rfl,x,dx,d,u4,es,Sz,e,m-s-1,by rw[em];rfl,wk lF,W,h4,he,Hl ze6 hk,λt5 H5 r5 k5=>?_⟩
  have mY:=lF.trans k5
  have sh:=(mH.keep wu).old cq
  have cY:=on_le (hs:=Z8 EV) (m:=m-s-1) aV
  have oV:G q (m-s-1)=((Z1 Sz e.1 (m-s-1)).1.map (ZL q::·),(Z1 Sz e.1 (m-s-1)).2):=by rw[hG]
  have h1L:=@on_one RI Sz e.1 (m-s-1)
  generalize Z1 Sz e.1 (m-s-1)=p5 at r5 cY oV h1L
  have dO:(s:Int)+(1+(p5.2:Int))=((s+1+p5.2:Nat):Int):=by lia
  rcases r5 with⟨r0,r1⟩ | ⟨l5,L,r0,r1,r2⟩
  ·refine ⟨t5,_,rfl,xB,rfl,_,_,rfl,_,_,rfl,rfl,?_⟩
   refine⟨wI,wI,_,wI,rfl,_,wI,rfl,?_⟩
   refine⟨wI,wI,WG ?_⟩
   rw[r0]at oV
   exact⟨s+1+p5.2,⟨_,_,_,_,_,by rw[←dO];rfl⟩,((Tr k3).trans k4).trans k5,Hb,ei.trans (zeb hm oV)⟩
  ·refine ⟨t5,_,rfl,xB,rfl,_,_,rfl,_,_,rfl,rfl,?_⟩
   refine⟨wI,wI,_,wI,rfl,_,wI,rfl,?_⟩
   refine⟨wI,wI,W8 ?_⟩
   rw[r0]at oV
   have eo:Z5 m=(some (ZL q::L),s+1+p5.2):=ei.trans (zea hm oV)
   obtain⟨mz,_,g5,iX⟩:=r2.old lF
   obtain⟨q',_,eL,_⟩:=h1L r0
   have aW:mz.length=1:=by rw[Zy iX,eL];rfl
   refine⟨wI,EM,λl6 h6=>?_⟩
   have k6:Keep [] H5 (QP l6 (.lst [RV])):=Keep.new h6
   have g6:(QP l6 (.lst [RV])) l6=some (.lst [RV]):=zab
   generalize QP l6 (.lst [RV])=H6 at k6 g6
   refine⟨wI,l6,l5,_,wI,rfl,g6,k6 _ _ g5 Ha,by rw[Qa,aW];show 1+1≤_;lia,λl7 h7=>?_⟩
   have k7:Keep [] H6 (IX l7 ([Le a]++mz.map V.ref)):=Keep.new h7
   have g7:(IX l7 ([Le a]++mz.map V.ref)) l7=some (Hr ((a::mz).map V.ref)):=zab
   generalize WD l7 (Hr ([Le a]++mz.map V.ref))=H7 at k7 g7
   refine⟨wI,SD,λt8 h8=>?_⟩
   have k8:Keep [] H7 (US t8 (.tup [Hi l7,HM ((s:Int)+(1+(p5.2:Int)))])):=Keep.new h8
   have du:=(PK k7).trans k8
   refine kq t8 _ (.yes l7 (ZL q::L) (by rw[eo]) (by rw[eo,zab];exact congrArg (λz=>some (HO.tup [Le l7,S7 z])) dO) ⟨a::mz,yH (mY.trans k6) h7,k8 _ _ g7 Ha,.cons (sh.keep du) (Paired.imp' (λ_ _ z=>z.keep du) iX)⟩) (mY.trans du)
 ·rintro σ H2 ⟨s,⟨x5,x6,x7,x8,x9,rfl⟩,k2,cV,ei⟩
  rw[Qa,rG,Yv Hx]at ei
  have e1:Z5 m=(none,s):=ei
  refine⟨wI,SD,λt ht=>?_⟩
  exact kq t _ (.no (by rw[e1]) (by rw[e1,zab])) ((Lm k2).trans TJ)
end
abbrev sFs:Stmt:=top 30
abbrev sBack:Stmt:=top 24
def WOf(hs:List HS)(w:Swap):Prop:=w.1∈hs.map (·.1)∧∀y∈w.2.2,y∈hs.map (·.1)
def wof_sw(h:q.1∈hs.map (·.1)):WOf hs Ae:=⟨h,λy hy=>ch_key h hy⟩
def fs_some(h:(XU x m).1=some L):(∀ w∈L,WOf hs w)∧mex (Q6 x) < 4:=by
 unfold fsN at h
 split at h
 ·rename_i z
  cases h
  exact⟨λw hw=>(by cases hw),z⟩
 ·rcases ho:UI x m with ⟨_ | L1,n⟩
  ·rw [ho] at h
   have h':(WB x (m-n)).1=some L:=h
   have h2:WB x (m-n)=(Hs L,(WB x (m-n)).2):=Wj h' rfl
   unfold twN at h2
   obtain⟨g,hg,b,k,e⟩:=goB_mem h2
   obtain⟨q,hq,rfl⟩:=Qf.mp hg
   have e1:(ZU x b).1.map (swN r hs q::·)=some L:=congrArg Prod.fst e
   cases dA:(ZU x b).1 with
   |none=>rw[dA]at e1;cases e1
   | some L2 =>
    rw[dA]at e1
    obtain⟨q',cw,rfl,hm⟩:=on_one dA
    cases e1
    refine⟨λw hw=>?_,hm⟩
    rcases Qh.mp hw with z | z
    ·rw[z];exact wof_sw (zfm hq).1
    ·rw [CS z]
     have:=wof_sw (r:=r) (zfm cw).1
     unfold WOf at this ⊢
     rw[ze6]at this
     exact this
  ·rw [ho] at h
   have h1:some L1=some L:=h
   cases h1
   obtain⟨q,hq,rfl,hm⟩:=on_one (L:=L) (show(UI x m).1=some L by rw[ho])
   refine⟨λw hw=>?_,hm⟩
   rw[Qc.mp hw]
   exact wof_sw (zfm hq).1
theorem zcr:∀(L:List Swap) (hs:List HS),(ZR hs).map (·.1)=hs.map (·.1)
 |[],_=>rfl
 |w::t,hs=>by rw[Jp,zcr t,ze6]
inductive IspFs(C:Nc)(vs:List V)(H:Hp)(Q:VK):Prop
 |mk (x dx d u:Nc) (es:List Ent) (hs:List (Str×Int)) (e:Ent) (m:Nat) (h0:vs=[.ref x,.ref u,.str e.1,.int (m:Int)]) (h1:WAt H C x dx d es) (h2:WOk es) (h3:HAt H u hs) (h4:e∈es) (h5:∀x∈hs.map (·.1),x∈es.map (·.1))
  (h8:∀(t:Nc) (H':Hp),Dl (QQ m)→Keep [] H H'→Q Ll H'):IspFs C vs H Q
def spFs(C:Nc):Sp:=λvs H Q _=>IspFs C vs H Q
inductive IspBack(C:Nc)(vs:List V)(H:Hp)(Q:VK):Prop
 |mk (B:Hp) (x dx d u l:Nc) (es:List Ent) (hs:List (Str×Int)) (e:Ent) (L:List Swap) (h0:vs=[.ref x,.ref u,.str e.1,.ref l,.int 4]) (h1:WAt H C x dx d es) (h2:WOk es) (h3:HAt H u hs) (h4:e∈es) (h5:∀x∈hs.map (·.1),x∈es.map (·.1)) (h6:e.1∉hs.map (·.1)) (h7:zc1 B H l L) (h7':∀w∈L,WOf hs w) (h7'':mex (usN (row (rsOf es)) (L.foldl exN hs) e.1)<4)
  (h8:∀(t a b:Nc) (H':Hp),H' t=some (.tup [RV,Ey])→H' a=some (.tup [Rw,HM (mex Sk:Nat),Sy])→B5 b (ME L)→Keep [] H H'→Q Ll H'):IspBack C vs H Q
def spBack(C:Nc):Sp:=λvs H Q _=>IspBack C vs H Q
section
variable{P:Nk}{w:Nn}{K:Na}{mg:Ng}{base:Np}
def scFs:zaj ["web", "hues", "place", "most", "swaps", "steps", "more"] ["web", "hues", "place", "most"] (zai sFs):=fsk
def ok_fs(F:QE "four_swaps" "four_swaps" sFs f fd)(GH:ZF "free_hue" ["web", "hues", "place", "many"] 2 PJ)(GO:ZF "by_one" ["web", "hues", "place", "most"] 4 (spOne C))(GT:ZF "by_two" ["web", "hues", "place", "most"] 5 (spTwo C))(hF:mg "FOUR" = some Ax):ZB 6 f fd ["web", "hues", "place", "most"] (spFs C):=by
 refine F.okL scFs Hn
 obtain⟨x,dx,d,u,es,hs,e,m,rfl,wt,W,hh,he,hk,kq⟩:=h
 have bB:N7 _:=hr.mono Hf
 have lK:Room 4 _:=hr.mono Hf
 have ap:=sizeLine_eq
 refine⟨_,zad (zbn (ER (LZ GH bB (zE (zgj (v:=.int 4) rfl hF ⟨tk,rfl⟩))))
   (zag (Cp (zaa SN SY))) zap)
  (zad (zcz (Dm lK (Ev (ZW Tp))) (Y8 (GV (TH (XB scFs.nd)))))
  (zad (zC (ER Sd) (zag (Cp (QH LI))))
  (zad (zcz (LZ GT hr (zE (Be Pz (pv 5)))) (Y8 (GV (TH (XC scFs.nd)))))
  (zag (Cp (QH (Rx (WV (pv 5) Tx)))))))),?_⟩
 have iL:=XX hk
 have aV:(ZK e.1).length≤16:=by rw[Vl he];exact W.rl e he
 have wk:∀{H':Hp},Keep [] H H'→Y3 es:=λkk=>wt.keep kk Ha Ha λ_ _=>by simp
 refine⟨wI,wI,wI,x,dx,d,u,es,e,hs.map (·.1),hu hs,4,rfl,wt,by rw[←hs_cnt hh.nd];exact hh.dc,he,XV Hf,Hf,λH1 k1=>⟨_,rfl,?_⟩⟩
 rw[MD he]
 unfold frV
 by_cases hx:mex EW<4
 ·rw [Si hx]
  have ef:QQ m=(some [],0):=by unfold fsN;rw[if_pos hx]
  refine W8 ⟨Lq,λl2 h2=>⟨SD,λt3 h3=>?_⟩⟩
  refine kq t3 _ (.yes l2 [] (by rw[ef]) (by rw[ef,zab];rfl) ⟨[],Fy h2 Ha,?_,.nil⟩) ((Lm OX).trans OY)
  rw[zaf (zac (o:=_) zab h3)];exact zab
 rw[if_neg hx]
 have ef:fsN (row (rsOf es)) hs e.1 m=match onN (row (rsOf es)) hs e.1 m with
  |(some L,n)=>(Hs L,n)
  |(none,n)=>((Z5 (m-n)).1,n+(Z5 (m-n)).2):=by
  show(if _ then _ else _)=_
  rw[if_neg hx]
  try(rcases ZY m with⟨_ | _,_⟩<;>rfl)
 refine WG ?_
 refine⟨wI,wI,wI,wI,x,dx,d,u,es,hs,e,m,rfl,wk k1,W,Ib k1,he,hk,λt2 H2 r2 k2=>?_⟩
 have cq:=k1.trans k2
 have cY:=on_le (hs:=hs) (m:=m) aV
 generalize ZY m=p2 at r2 cY ef
 rcases r2 with⟨r0,r1⟩ | ⟨l2,L,r0,r1,r2⟩
 ·refine ⟨t2,_,rfl,xB,rfl,_,_,rfl,_,_,rfl,rfl,?_⟩
  refine⟨wI,wI,WG ?_⟩
  have em:(m:Int)-(p2.2:Int)=((m-p2.2:Nat):Int):=by lia
  have jy:QQ m=((Z5 (m-p2.2)).1,p2.2+(Z5 (m-p2.2)).2):=by
   rw[ef]
   rcases p2 with⟨_ | _,n⟩
   ·rfl
   ·cases r0
  refine⟨wI,wI,wI,wI,wI,_,wI,rfl,x,dx,d,u,es,hs,e,m-p2.2,by rw[em];rfl,wk cq,W,Ib cq,he,hk,λt3 H3 r3 k3=>?_⟩
  generalize Z5 (m-p2.2)=p3 at r3 jy
  have eV:(p2.2:Int)+(p3.2:Int)=((p2.2+p3.2:Nat):Int):=by lia
  rcases r3 with⟨sn,lu⟩ | ⟨l3,L3,sn,lu,f7⟩
  ·refine ⟨t3,_,rfl,Rk lu,rfl,_,_,rfl,_,_,rfl,rfl,?_⟩
   refine⟨wI,wI,wI,_,wI,rfl,SD,λt4 h4=>?_⟩
   exact kq t4 _ (.no (Hl jy sn) (by rw[jy,zab,eV])) ((yr k3).trans O2)
  ·refine ⟨t3,_,rfl,Rk lu,rfl,_,_,rfl,_,_,rfl,rfl,?_⟩
   refine⟨wI,wI,wI,_,wI,rfl,SD,λt4 h4=>?_⟩
   exact kq t4 _ (.yes l3 L3 (Hl jy sn) (by rw[jy,zab,eV]) ((f7.keep O2).old cq)) ((yr k3).trans O2)
 ·refine ⟨t2,_,rfl,xB,rfl,_,_,rfl,_,_,rfl,rfl,?_⟩
  refine⟨wI,wI,W8 ?_⟩
  have jy:QQ m=(Hs L,p2.2):=by
   rw[ef]
   rcases p2 with⟨_ | _,n⟩
   ·cases r0
   ·cases r0;rfl
  refine⟨wI,wI,SD,λt4 h4=>?_⟩
  exact kq t4 _ (.yes l2 L (by rw[jy]) (by rw[jy,zab]) ((r2.keep O2).old k1)) (yr O2)
end
end K21
end
section
namespace L2
open PySem PySem.Spec PyProof.Rows
section
variable{X:Cx}
theorem fm_some{β γ:Type}{f:β→Option γ}{g:β→γ}:∀{l:List β},(∀x∈l,f x=some (g x))→l.filterMap f=l.map g
 |[],_=>rfl
 |a::t,h=>by rw[List.filterMap_cons,h a Qb,Qm,fm_some λx hx=>h x Ca]
def pick_sr(a7:Nl):slicePick a7.toArray none none (Hs (-1))=a7.reverse.toArray:=by
 unfold slicePick sliceBounds
 simp only[Option.getD_some,show ¬((-1:Int)>0) by decide,if_false,Qy]
 congr 1
 unfold sliceRange
 simp only[show ¬((-1:Int)>0) by decide,if_false]
 have hc:(if((a7.length:Int)-1) > -1 then(((a7.length:Int)-1) - -1 - -1-1)/(- -1) else 0).toNat=a7.length:=by
  split
  ·rw[show(- (-1:Int))=1 from rfl,Int.ediv_one];lia
  ·lia
 rw[hc,List.filterMap_map]
 have hk:∀k∈List.range a7.length,((a7.toArray[·]?)∘λ(k:Nat)=>(((a7.length:Int)-1)+-1*(k:Int)).toNat) k=some (a7.reverse.getD k .none):=λk hk=>by
  have hk:=Wk.mp hk
  have e:(((a7.length:Int)-1)+-1*(k:Int)).toNat=a7.length-1-k:=by lia
  show a7.toArray[(((a7.length:Int)-1)+-1*(k:Int)).toNat]?=_
  rw[e,List.getElem?_toArray,Zf,List.getElem?_reverse hk]
  rw[Qd Hb]
  rfl
 rw[fm_some hk]
 apply Xn
 ·simp
 ·intro i h1 h2
  have h3:i<a7.reverse.length:=h2
  rw[Zk,Uh,Zf,Qd h3]
  rfl
def pe_sr(he:Co):Z9 (.Subscript e Lc pos) (λ σ H Q=>te σ H λx H1=>Ex2 λa xs=>Aj3 (x=.ref a) (SqL X.K H1 a xs) (∀p,H1 p=none→Q Tn (QK p Oa))):=by
 intro a5 s σ H Q I h
 refine Subscript_ (thn RM λv s1 ⟨x,H1,I1,r1,a,xs,ex,hx,q⟩=>?_)
 subst ex
 cases r1
 refine wpAny_Slice (thn (zdh (X:=X) a5 s1 σ H1 (λo H'=>o=none∧H'=H1) I1 ⟨rfl,rfl⟩) λvl s2 ⟨l,H2,I2,pl,el,eh⟩=>?_)
 subst el;subst eh
 refine thn (zdh (X:=X) a5 s2 σ H2 (λo H'=>o=none∧H'=H2) I2 ⟨rfl,rfl⟩) λvu s3 ⟨l,H3,I3,pu,el,eh⟩=>?_
 subst el;subst eh
 refine thn (zcd (X:=X) (pe_un un_neg (zah (X:=X))) a5 s3 σ H3 (λo H'=>o=some (-1)∧H'=H3) I3 ⟨_,rfl,_,rfl,rfl,rfl⟩) λvs s4 ⟨l,H4,I4,ps,el,eh⟩=>?_
 subst el;subst eh
 have I5:ZA H4 {s4 with heap:=s4.heap.push {cls:=.type "slice",data:=.fields #[vl,vu,vs]}}:=I4.kept (t':=s4.toks) λb ob q=>WN q
 obtain⟨a7,r,ht,hz⟩:=I5.list hx
 have ae:=r.length
 show ZE (subscriptTail e Lc RV zf) TK X.xe {s4 with heap:=s4.heap.push {cls:=.type "slice",data:=.fields #[vl,vu,vs]}}
 refine tail_any (ops:=[RV,zf]) ht.isList.typeIs slot_list_getitem.lookup ?_ (by with_unfolding_all rfl)
 refine KL (Heap.IsSliceOf.new ..) pl pu ps Hf ?_ (by rw[Qy]<;>exact ze9 ‹_› ‹_›)
 rw[pick_sr]
 refine⟨Hi _,_,I5.laid (t':=s4.toks) (o:=.lst xs.reverse) (λb ob q=>WN q) Hx ?_,rfl,q _ (I5.hok.fresh Hx)⟩
 exact⟨Hl Jm hz,_,0,r.reverse,Ta⟩
end
end L2
end
section
namespace K21
open PySem L2 Wb
abbrev sFp:Stmt:=top 31
section
variable{P:Nk}{w:Nn}{K:Na}{mg:Ng}{base:Np}
def scBack:zaj ["web", "hues", "place", "swaps", "many", "swap", "behind"] ["web", "hues", "place", "swaps", "many"] (zai sBack):=fsk
def ok_back(F:QE "come_back" "come_back" sBack f fd)(GX:ZF "swapped" ["hues", "swap"] 2 zet)(GH:ZF "free_hue" ["web", "hues", "place", "many"] 2 PJ)(aI:mg "dict" = none):ZB 3 f fd ["web", "hues", "place", "swaps", "many"] (spBack C):=by
 refine F.okL scBack Hn
 obtain⟨B,x,dx,d,u,l,es,hs,e,L,rfl,wt,W,hh,he,hk,hek,⟨as,_,hl,pa⟩,hL,fj,kq⟩:=h
 have aY:=zb6 hr
 have ap:=sizeLine_eq
 refine⟨_,zad (Z4 (IP RX) (XB scBack.nd)
   (zag (M7 scBack.nd (O1 GX (ZV LI)))))
  (zad (M9 scBack.nd (OB SH))
  (zad (zb5 aY Tx Sc (O1 GH (Ev (ZW SO))) rfl)
  (zag (Cp (zaa (zbd (ZW (zaa (XW Tx Sc) Tp))) Cl))))),?_⟩
 have iL:=XX hk
 have wk:∀{H':Hp},Keep [] H H'→Y3 es:=λkk=>wt.keep kk Ha Ha λ_ _=>by simp
 have v8:as.length=L.length:=Zy pa
 refine⟨_,rfl,l,rfl,⟨_,Hk hl⟩,zbc (xs:=as.map V.ref) (λi σ H'=>Ex1 λu':Addr=>Aj3 (Ex1 λx5=>σ=[zk,Hc u',LT,Es,RZ 4,x5,none]) Pp (B5 u' ((L.take i).foldl exN hs)))
  ⟨u,⟨_,rfl⟩,Keep.refl,hh⟩ (λi σ H' _ hh=>SqL.of (by obtain⟨_,_,z,_⟩:=hh;exact z _ _ hl Ha)) ?_ ?_⟩
 ·rintro i v σ H2 hv ⟨u2,⟨x5,rfl⟩,k2,h2⟩
  have hi:i<as.length:=by have:=(LA hv).1;rwa[Qa]at this
  rw[Qo,Qd hi]at hv
  cases hv
  obtain⟨aU,hq⟩:=za5 pa hi
  have tk:L.take HN=L.take i++[L[i]]:=Qi aU
  have hw:=hL _ AO
  generalize L[i]=w' at hq tk hw
  refine⟨wI,wI,B,u2,as[i],_,w',rfl,h2,hq.keep k2,by rw[zcr];exact hw.1,by rw[zcr];exact hw.2,?_,λu3 H3 fu h3 k3=>⟨u3,⟨_,rfl⟩,Tr k3,by rw[tk,List.foldl_append];exact h3⟩⟩
  have:=congrArg List.length (zcr (L.take i) hs)
  rw[Qa,Qa]at this
  lia
 ·rintro σ H2 ⟨u2,⟨x5,rfl⟩,k2,h2⟩
  rw[Qa,v8,Qs Hx]at h2
  have pj:=zcr L hs
  have hU:(ZR hs).length≤16:=by
   have:=congrArg List.length pj
   rw[Qa,Qa]at this
   lia
  refine⟨wI,u2,wI,h2.hf.dc,λb hb=>?_⟩
  have k3:Keep [] H2 (QA b (.dK ((ZR hs).map λe=>Hh))):=Keep.new hb
  have eR:HAt (QA b (.dK ((ZR hs).map λe=>Hh))) b ze:=⟨zab,h2.nd⟩
  generalize QA b (.dK ((ZR hs).map λe=>Hh))=H3 at k3 eR
  have gS:=k2.trans k3
  have h23:=h2.keep k3 Ha
  refine⟨wI,wI,wI,wI,x,dx,d,u2,es,e,(ZR hs).map (·.1),hu ze,4,rfl,wk gS,by rw[←hs_cnt h23.nd];exact h23.dc,he,XV Hf,Hf,λH4 k4=>?_⟩
  rw[MD he]
  have efr:frV Sk 4=.int (mex Sk:Nat):=by unfold frV;rw[if_pos fj]
  rw[efr]
  have pN:=eR.keep k4 Ha
  have ou:e.1∉(ZR hs).map (·.1):=by rw[pj];exact hek
  refine⟨wI,wI,b,wI,DPut.k (k:=Sum.inr e.1) pN.dc Ce,?_⟩
  have jx:=pN.new (mex Sk:Int) ou
  have fb:H b=none:=zao k2 hb Ha
  have k5:Keep [] H (Q7 b (.dK (putK ((ZR hs).map λe=>Hh) Sf (HM (mex Sk:Nat))))):=(gS.trans k4).fr fb
  generalize Q7 b (.dK (putK ((ZR hs).map λe=>Hh) Sf (HM (mex Sk:Nat))))=H5 at jx k5
  have g5:=jx.hf.get Sf
  rw[zcb jx.nd (e:=(e.1,(mex Sk:Int))) E8]at g5
  refine⟨wI,wI,wI,b,wI,g5,wI,Py,λa6 h6=>?_⟩
  have k6:Keep [] H5 (QP a6 (.tup [Rw,HM (mex Sk:Nat),Sy])):=Keep.new h6
  have g6:(QP a6 (.tup [Rw,HM (mex Sk:Nat),Sy])) a6=some (.tup [Rw,HM (mex Sk:Nat),Sy]):=zab
  generalize QP a6 (.tup [Rw,HM (mex Sk:Nat),Sy])=H6 at k6 g6
  refine⟨wI,SD,λt7 h7=>?_⟩
  have k7:Keep [] H6 (WD t7 (.tup [Hi a6,Ey])):=Keep.new h7
  exact kq t7 a6 b _ zab (k7 _ _ g6 Ha) (jx.keep (PK k7) Ha) ((CA k6).trans k7)
end
inductive StAt(B H:Hp)(a:Nc)(sp:Step):Prop
 |mk (l:Nc) (h1:H a=some (.tup [.str sp.1,.int sp.2.1,.ref l])) (h2:zc1 B H l sp.2.2):StAt B H a sp
def SwAt.kb(h:K0 w)(k:Keep [p] H H')(hB:B p=some o)(hp:H p=some Tj):SwAt B H' a w:=by
 obtain⟨l,h0,h1,h2⟩:=h
 exact⟨l,h0,k _ _ h1 (by simpa using N3 hp Hg),k _ _ h2 (by simpa using λz:l=p=>(by rw[z,hB]at h0;cases h0))⟩
def zc1.kb(h:NA L)(k:Keep [p] H H')(hB:B p=some o)(hp:H p=some Tj):zc1 B H' l L:=by
 obtain⟨as,h0,h1,h2⟩:=h
 exact⟨as,h0,k _ _ h1 (by simpa using λz:l=p=>(by rw[z,hB]at h0;cases h0)),Paired.imp' (λ_ _ z=>z.kb k hB hp) h2⟩
def StAt.kb(h:Do H a sp)(k:Keep [p] H H')(hB:B p=some o)(hp:H p=some Tj):Do H' a sp:=by
 obtain⟨l,h1,h2⟩:=h
 exact⟨l,k _ _ h1 (by simpa using N3 hp Hg),h2.kb k hB hp⟩
def StAt.keep(h:Do H a sp)(k:Rl H):Do H' a sp:=by
 obtain⟨l,h1,h2⟩:=h
 exact⟨l,CP h1,h2.keep k⟩
def SwAt.ol(h:K0 w)(k:∀c,B c=none→B' c=none):Gb H a w:=by
 obtain⟨l,h0,h1,h2⟩:=h
 exact⟨l,k _ h0,h1,h2⟩
def zc1.ol(h:NA L)(k:∀c,B c=none→B' c=none):zc1 B' H l L:=by
 obtain⟨as,h0,h1,h2⟩:=h
 exact⟨as,k _ h0,h1,Paired.imp' (λ_ _ z=>z.ol k) h2⟩
inductive zg8(H:Hp)(t:Nc)(p:Option (List Step)×Nat):Prop
 |no (h0:p.1=none) (h1:H t=some (.tup [.non,.int (p.2:Nat)])):zg8 H t p
 |yes (l:Nc) (as:No) (B:Hp) (L:List Step) (h0:p.1=some L) (h1:H t=some (.tup [.ref l,.int (p.2:Nat)])) (h2:H l=some (.lst (as.map V.ref))) (h3:Paired (StAt B H) as L):zg8 H t p
def zg8.keep(h:zg8 H t p)(k:Rl H):MF p:=by
 rcases h with⟨h0,h1⟩ | ⟨l,as,B,L,h0,h1,h2,h3⟩
 ·exact .no h0 (CP h1)
 ·exact .yes l as B L h0 (CP h1) (CP h2) (Paired.imp' (λ_ _ z=>z.keep k) h3)
def zix(h:XU x (m-s)=(none,n)):fpN r (x::t) hs m s=(none,s+n):=by
 show(match fsN r hs x (m-s) with | (none,n)=>(none,s+n) | (some L,n)=>_)=_
 rw[h]
def ziw(h:XU x (m-s)=(Hs L,n)):fpN r (x::t) hs m s=((UY (s+n)).1.map ((x,(mex (Q6 x):Int),L)::·),(UY (s+n)).2):=by
 show(match fsN r hs x (m-s) with | (none,n)=>(none,s+n) | (some L,n)=>((fpN r t (cbN r hs x L) m (s+n)).1.map ((x,(mex (usN r (L.foldl exN hs) x):Int),L)::·),(fpN r t (cbN r hs x L) m (s+n)).2))=_
 rw[h]
def fs_le(h:(r x).length≤16):(XU x m).2≤m:=by
 obtain⟨R,N,_,e⟩:=fs_bud (hs:=hs) h
 rw[e]
 split
 ·assumption
 ·exact Qe _
inductive IspFp(C:Nc)(vs:List V)(H:Hp)(Q:VK):Prop
 |mk (x dx d:Nc) (es:List Ent) (m:Nat) (h0:vs=[.ref x,.int (m:Int)]) (h1:WAt H C x dx d es) (h2:WOk es)
  (h8:∀(t:Nc) (T:Nh) (H':Hp),zcv (es.map (·.1)) RI T→MF (WE T.reverse [] m 0)→Keep [] H H'→Q Ll H'):IspFp C vs H Q
def spFp(C:Nc):Sp:=λvs H Q _=>IspFp C vs H Q
section
variable{P:Nk}{w:Nn}{K:Na}{mg:Ng}{base:Np}
def scFp:zaj ["web", "most", "paper", "hues", "steps", "place", "swaps", "more", "step"] ["web", "most"] (zai sFp):=fsk
def ok_fp(F:QE "four_paper" "four_paper" sFp f fd)(GO:ZF "order" ["web"] 2 (spOrder C))(GS:ZF "four_swaps" ["web", "hues", "place", "most"] 6 (spFs C))(GB:ZF "come_back" ["web", "hues", "place", "swaps", "many"] 3 (spBack C))(hF:mg "FOUR" = some Ax):ZB 7 f fd ["web", "most"] (spFp C):=by
 refine F.okL scFp Hn
 obtain⟨x,dx,d,es,m,rfl,wt,W,kq⟩:=h
 have bB:N7 _:=hr.mono Hf
 have nV:Room 3 _:=hr.mono Hf
 have ap:=sizeLine_eq
 refine⟨_,zad (Ve scFp.nd SN)
  (zad (Br scFp.nd zd7)
  (zad (Bb scFp.nd zah)
  (zad (Z4 (IP (pe_sr (Dm bB SM))) (XB scFp.nd)
   (zad (zcz (VG (ZM (QB (QG (Rx (Be Rj Pu)))))) (Cv (XC scFp.nd) (TH (zam 7 scFp.nd))))
   (zad (ps_aug (i:=4) scFp.nd rfl IF En ip_add)
   (zad (zC (zbw (pc_isN Tx)) (zag zb))
   (zad (zcz (pcl GB nV (ZM (QB (QG (W5 (Rx (zgj (v:=.int 4) rfl hF ⟨tk,rfl⟩))))))) (Cv (zam 8 scFp.nd) (TH (M5 scFp.nd))))
   (zag (Cz Sc (Rx (pv 8)))))))))
  (zag (Cp (ZW SO)))))),?_⟩
 refine⟨Lq,λpl ba=>λu0 iq=>?_⟩
 have k1:Keep [] H (Ck pl u0):=(Ho ba).trans (Ho iq)
 have npu:pl≠u0:=zac (o:=_) zab iq
 have g1:(Ck pl u0) pl=some (Hr (([]:List Addr).map V.ref)):=by rw[zaf npu];exact zab
 have h1:HAt (Ck pl u0) u0 []:=⟨zab,Zn⟩
 generalize upd (ZX pl HL) u0 RQ=H1 at k1 g1 h1
 have wk:∀{H':Hp},Keep [] H H'→Y3 es:=λkk=>wt.keep kk Ha Ha λ_ _=>by simp
 show Y6 _
 refine zgt (λ σ' H'=>Aj2 (σ'=[zk,Hs (.int (m:Int)),Hc pl,Hc u0,Ov,none,none,none,none]) (H1=H')) (λD' bA=>bA _ _ ⟨rfl,rfl⟩) ?_
 rintro σ' H' ⟨rfl,rfl⟩
 dsimp only
 refine⟨wI,x,dx,d,es,rfl,wk k1,Zg W.few Hf,W.rn,W.sy,λol T H2 kh O fol k2=>?_⟩
 refine⟨ol,wI,Hk kh,λrl aV=>?_⟩
 rw[←List.map_reverse]
 have k3:Keep [] H1 (QA rl TR):=k2.trans (Ho aV)
 have g3:(QA rl TR) rl=some TR:=zab
 have nrp:rl≠pl:=Zl (zy (E7 g1) aV)
 generalize QA rl TR=H3 at k3 g3
 have rH:T.reverse.Nodup:=(Ja T).nodup_iff.mpr O.nd
 have mf:∀y∈T.reverse,y∈es.map (·.1):=λy hy=>O.pm.mem_iff.mp Af
 have hRl:T.reverse.length≤16:=by
  rw[Jm,O.pm.length_eq,Qa];exact W.few
 have kq':=kq
 clear kq
 obtain⟨R,hR⟩:∃R,R=T.reverse:=⟨_,rfl⟩
 rw[←hR]at g3 rH mf hRl
 have fin:∀(t:Nc) (H':Hp),MF (WE R [] m 0)→Keep [] H H'→Q Ll H':=λt H' p k=>kq' t T H' O (hR▸p) k
 have kH:∀{H':Hp},Keep [pl] H3 H'→Keep [] H H':=λkk c o ec _=>kk c o (zB LJ) (by simpa using WM ba)
 refine⟨rl,rfl,⟨_,Hk g3⟩,zc3 (zs:=R) (λi σ H'=>Ex5 λ(u:Nc) (s:Nat) (hs:List HS) (as:No) (Pd:List Step)=>Aj9 (as.length=i) (Ex4 λx5 x6 x7 x8=>σ=[zk,Hs (.int (m:Int)),Hc pl,CL,RZ ((s:Nat):Int),x5,x6,x7,x8]) (Keep [pl] H3 H') (s≤m) (B5 u hs) (hs.map (·.1)=R.take i) (H' pl=some Rz) (yF (StAt H3 H') Pd) (WE R [] m 0=((WE (R.drop i) hs m s).1.map (Pd++·),(WE (R.drop i) hs m s).2)))
  ⟨u0,0,[],[],[],rfl,⟨_,_,_,_,rfl⟩,Keep.refl,SJ,h1.keep k3 Ha,rfl,zB g1,.nil,?_⟩ (λi σ H' _ hh=>SqL.of (by obtain⟨_,_,_,_,_,_,_,z,_⟩:=hh;exact z _ _ g3 (He nrp))) ?_ ?_⟩
 ·rw [Jz]
  refine Wj ?_ rfl
  show _=Option.map (λx=>[]++x) _
  cases(WE R [] m 0).1<;>rfl
 ·rintro i hi σ H4 ⟨u,s,hs,as,Pd,aW,⟨x5,x6,x7,x8,rfl⟩,k4,cV,h4,bf,iy,mQ,ei⟩
  have hx:R[i]∉hs.map (·.1):=by rw[bf];exact zcj rH hi
  have oF:∀y∈hs.map (·.1),y∈es.map (·.1):=λy hy=>mf y (Ut (bf▸hy))
  have tk:R.take HN=R.take i++[R[i]]:=Qi hi
  rw[Zv hi]at ei
  obtain⟨e,he,ee⟩:=Qf.mp (mf _ IT)
  have mt:e.1=R[i]:=ee
  rw[←mt]at hx tk ei ⊢
  have aV:(ZK e.1).length≤16:=by rw[Vl he];exact W.rl e he
  have em:(m:Int)-(s:Int)=((m-s:Nat):Int):=by lia
  refine⟨wI,wI,wI,wI,wI,_,wI,rfl,x,dx,d,u,es,hs,e,m-s,by rw[em];rfl,wk (kH k4),W,h4,he,oF,λt5 H5 r5 k5=>?_⟩
  have cY:=fs_le (hs:=hs) (m:=m-s) aV
  have jb:=@fs_some RI hs e.1 (m-s)
  have fw:QQ (m-s)=((QQ (m-s)).1,(QQ (m-s)).2):=rfl
  generalize aT:QQ (m-s)=p5 at r5 cY jb fw
  have dO:(s:Int)+(p5.2:Int)=((s+p5.2:Nat):Int):=by lia
  rcases r5 with⟨r0,r1⟩ | ⟨l5,L,r0,r1,r2⟩
  ·refine ⟨t5,_,rfl,xB,rfl,_,_,rfl,_,_,rfl,rfl,?_⟩
   refine⟨wI,wI,_,wI,rfl,?_⟩
   refine⟨wI,wI,W8 ?_⟩
   have e1:WE R [] m 0=(none,s+p5.2):=by
    rw[ei,zix (n:=p5.2) (by rw[aT,fw,r0])];rfl
   refine⟨wI,SD,λt6 h6=>?_⟩
   exact fin t6 _ (.no (by rw[e1]) (by rw[e1,zab];exact congrArg (λz=>some (HO.tup [V.non,S7 z])) dO)) (((kH k4).trans k5).trans (Ho h6))
  ·refine ⟨t5,_,rfl,xB,rfl,_,_,rfl,_,_,rfl,rfl,?_⟩
   refine⟨wI,wI,_,wI,rfl,?_⟩
   refine⟨wI,wI,WG ?_⟩
   obtain⟨bY,cv⟩:=jb r0
   refine⟨wI,wI,wI,wI,H4,x,dx,d,u,l5,es,hs,e,L,rfl,wk ((kH k4).trans k5),W,h4.keep k5 Ha,he,oF,hx,r2,bY,cv,λt6 a6 b6 H6 g6 ga6 kU k6=>?_⟩
   refine⟨t6,wI,Rk g6,rfl,_,wI,_,wI,rfl,?_⟩
   have sK:=k5.trans k6
   have fX:=sK _ _ iy Ha
   have hB:H3 pl=some (Hr (([]:List Addr).map V.ref)):=k3 _ _ g1 Ha
   refine⟨wI,RC fX,wI,pl,_,wI,rfl,fX,Ce,?_⟩
   have k7:Keep [pl] H6 (IX pl (as.map V.ref++[Le a6])):=Keep.wr Qb
   have g7:(IX pl (as.map V.ref++[Le a6])) pl=some (Hr ((as++[a6]).map V.ref)):=by rw[zab,Qq];rfl
   generalize WD pl (Hr (as.map V.ref++[Le a6]))=H7 at k7 g7
   have old:∀c,H4 c=none→H3 c=none:=λc hc=>zao k4 hc (by simpa using λz:c=pl=>(by rw[z,iy]at hc;cases hc))
   have st6:StAt H3 H6 a6 (e.1,(mex Sk:Int),L):=⟨l5,ga6,(r2.keep k6).ol old⟩
   refine⟨b6,s+p5.2,ME L,as++[a6],Pd++[(e.1,(mex Sk:Int),L)],by rw[Qw,aW];rfl,⟨_,_,_,_,by rw[←dO];rfl⟩,(SQ (sK.sub Ha)).trans k7,Hb,kU.keep k7 (by simpa using za1 kU.dc fX Hg),?_,g7,?_,?_⟩
   ·unfold cbN
    rw[Qq,zcr,bf,tk];rfl
   ·exact zax (Paired.imp' (λ_ _ z=>(z.keep sK).kb k7 hB fX) mQ) (Sa (st6.kb k7 hB fX))
   ·rw [ei,ziw (n:=p5.2) (L:=L) (by rw [aT,fw,r0])]
    refine Wj ?_ rfl
    show Bf (Bf _)=Bf _
    rw[Option.map_map]
    congr 1
    funext z
    show Pd++(_::z)=(Pd++[_])++z
    rw[Qv];rfl
 ·rintro σ H4 ⟨u,s,hs,as,Pd,aW,⟨x5,x6,x7,x8,rfl⟩,k4,cV,h4,bf,iy,mQ,ei⟩
  rw[Qa,Yv Hx]at ei
  have e1:WE R [] m 0=(Hs Pd,s):=by rw[ei];show(Hs (Pd++[]),s)=_;rw[Zs]
  refine⟨wI,wI,SD,λt ht=>?_⟩
  have k5:=Keep.new (xs:=[]) (o:=.tup [Hi pl,HM ((s:Nat):Int)]) ht
  exact fin t _ (.yes pl as H3 Pd (by rw[e1]) (by rw[e1,zab]) (xc iy Ha) (Paired.imp' (λ_ _ z=>z.keep k5) mQ)) ((kH k4).trans k5)
end
end K21
end
section
namespace L2
open PySem PySem.Spec PyProof.Rows
section
variable{X:Cx}
def call_isi_tt:Y2 (.builtin "isinstance") (λxs H Q=>Ex2 λ(a:Nc) (ys:List V)=>Aj3 (xs=[RV,.ty "tuple"]) (H a=some Lv) (Q Ti H)):=by
 intro a5 s σ H xs us Q I r h
 obtain⟨a,ys,rfl,hq,q⟩:=h
 obtain⟨u,w',rfl,e1,e⟩:=vals2 r
 have e':w'=Value.type "tuple" := e
 subst e'
 cases e1
 obtain⟨_,a7,rv,o,ho,hc,_⟩:=Vu hq
 exact IsiPair.tuple_tuple ho hc ⟨Ti,H,I,rfl,q⟩
end
section
variable{X:Cx}{K:Na}{o e tg l:Expr}{es:Nt}{to tl:TE}{t:TA}{name:Str}{apos cpos:Pos}{T id:String}{r:V→List V→Hp→VK→Prop}
end
section
variable{X:Cx}{CX:CXT}{k:Nat}{f C:Nc}{fd:Nw}{ps:Nh}{sp:Sp}{dvs:List V}{ds:Nl}{E:St→XK}{m:Str}{pos apos:Pos}{e o:Expr}{es:Nt}{ta:TE}{t:TA}
end
def paired_get{α β:Type}{R:α→β→Prop}{as:List α}{bs:List β}(r:J3 as bs):∀(j:Nat) (h1:j<as.length) (h2:j<bs.length),R as[j] bs[j]:=by
 induction r with
 |nil=>intro j h1;cases h1
 |cons h t ih =>
  intro j h1 h2
  cases j with
  |zero=>exact h
  |succ j=>exact ih j (Xq h1) (Xq h2)
section
variable{X:Cx}{a5:Ni}{σ:St}{H:Hp}{s:Nj}
def zfh{R:V→V→Prop}{A:Nq}{xs ys:List V}{a7 aO:Nl}(r:WR a7)(r2:YM aO)(pr:J3 xs ys)(h:∀x y u v,R x y→W6 u→YG v→UC u v true) :
  ∀j (h1:j<a7.toArray.size) (h2:j<aO.toArray.size),UC a7.toArray[j] aO.toArray[j] true:=by
 intro j h1 h2
 rw[Qy]at h1 h2
 have a1:j<xs.length:=by rw[r.length];exact h1
 have a2:j<ys.length:=by rw[r2.length];exact h2
 obtain⟨u1,e1,q1⟩:=r.get (Qd a1)
 obtain⟨u2,e2,q2⟩:=r2.get (Qd a2)
 rw[Kj,Kj,(LA e1).2,(LA e2).2]
 exact h _ _ _ _ (paired_get pr j a1 a2) q1 q2
end
def zg6(H:Hp):Nat→V→V→Prop
 |0,x,y=>zdq x=true∧x=y
 |n+1,x,y=>(zdq x=true∧x=y)∨∃a b xs ys,x=.ref a∧y=.ref b∧((H a=some Tj∧H b=some (Hr ys))∨(H a=some ST∧H b=some Lv))∧Paired (Vm n) xs ys
section
variable{X:Cx}{a5:Ni}{σ:St}{H:Hp}{s:Nj}
def same_m(I:HP):∀ (n:Nat) (A:Nq) (x y:V) (u v:Value),Vm n x y→W6 u→YG v→A.units+n < cLine→UC u v true:=by
 have fl:∀(A:Nq) (x y:V) (u v:Value),zdq x=true∧x=y→W6 u→YG v→UC u v true:=λA x y u v ⟨f,e⟩ rx ry=>by
  subst e
  have:=eqAt_V (A:=A) (s:=s) rx ry f f
  rw[eqV_self f]at this
  exact this
 intro n
 induction n with
 |zero=>intro A x y u v h rx ry _;exact fl A x y u v h rx ry
 | succ n ih =>
  intro A x y u v h rx ry hu
  rcases h with h | ⟨a,b,xs,ys,rfl,rfl,hc,pr⟩
  ·exact fl A x y u v h rx ry
  ·cases rx;cases ry
   by_cases ne:a=b
   ·subst ne;exact SeqAt.EqAt.same _
   have dY:A.in1.units+n<cLine:=by
    have:A.in1.units=A.units+1:=rfl
    lia
   have iq:A.units<cLine:=by lia
   have hl:=Zy pr
   refine SeqAt.EqAt.of_refs ne ?_
   rcases hc with⟨h1,h2⟩ | ⟨h1,h2⟩
   ·obtain ⟨a7,r,pl,_⟩:=I.list (X:=X) (Hk h1)
    obtain⟨aO,r2,iW,_⟩:=I.list (X:=X) (Hk h2)
    have l1:=r.length
    have l2:=r2.length
    have:=SeqAt.RcAt.lists (A:=A) (s:=s) (e:=λ_=>true) pl.isList iW.isList (by rw[Qy,Qy];lia) iq (zfh r r2 pr λx y u v q1 q2 q3=>ih A.in1 x y u v q1 q2 q3 dY)
    rw[show(List.range a7.toArray.size).all (λ_=>true)=true by simp]at this
    exact this
   ·obtain ⟨a7,r,pl,_⟩:=I.tuple (X:=X) (Rk h1)
    obtain⟨aO,r2,iW,_⟩:=I.tuple (X:=X) (Rk h2)
    have l1:=r.length
    have l2:=r2.length
    have:=SeqAt.RcAt.tuples (A:=A) (s:=s) (e:=λ_=>true) pl iW iq (zfh r r2 pr λx y u v q1 q2 q3=>ih A.in1 x y u v q1 q2 q3 dY)
    rw[show((Se (min a7.toArray.size aO.toArray.size)).all (λ_=>true)&&a7.toArray.size==aO.toArray.size)=true by simp;lia]at this
    exact this
def zhn(hu:X.A.units+8<cLine):YX (compareOp .Eq) (λx y H Q=>Ex4 λa b xs ys=>Aj6 (x=.ref a) (y=.ref b) (H a=some ST) (H b=some Lv) (GW ys) (Q Ti H)):=by
 intro a5 s σ H x y v u Q I rx ry h
 obtain⟨a,b,xs,ys,rfl,rfl,h1,h2,pr,q⟩:=h
 cases rx;cases ry
 obtain⟨a7,r,pl,_⟩:=I.tuple (X:=X) (Rk h1)
 obtain⟨aO,r2,iW,_⟩:=I.tuple (X:=X) (Rk h2)
 have l1:=r.length
 have l2:=r2.length
 have hl:=Zy pr
 have dY:X.A.in1.units+6<cLine:=by
  have:X.A.in1.units=X.A.units+1:=rfl
  lia
 refine SeqAt.RcAt.tuples (e:=λ_=>true) pl iW Hb (zfh r r2 pr λx y u v q1 q2 q3=>same_m I 6 X.A.in1 x y u v q1 q2 q3 dY) _ _ _ _ ⟨Ti,H,I,?_,q⟩
 show Value.bool _=Value.bool true
 simp
 lia
end
end L2
namespace K21
open PySem L2 Wb
theorem same_strs(H:Hp)(n:Nat):∀zs:List Str,Paired (Vm n) RT RT
 |[]=>.nil
 |z::t=>by
  refine .cons ?_ (same_strs H n t)
  cases n with
  |zero=>exact⟨rfl,rfl⟩
  |succ n=>exact .inl ⟨rfl,rfl⟩
def zcx(h:zdq x=true):Vm n x x:=by
 cases n with
 |zero=>exact⟨h,rfl⟩
 |succ n=>exact .inl ⟨h,rfl⟩
def same_sw(h:K0 w)(k:Gb H b w):Vm 2 RV Ey:=by
 obtain⟨l,_,h1,h2⟩:=h
 obtain⟨l',_,k1,k2⟩:=k
 exact .inr ⟨a,b,_,_,rfl,rfl,SC ⟨h1,k1⟩,.cons Eb (Oh Eb (.cons (SC ⟨l,l',_,_,rfl,rfl,RH ⟨h2,k2⟩,same_strs H 0 _⟩) .nil))⟩
theorem zem{α:Type}{R R':Addr→α→Prop}{S:V→V→Prop}(f:∀a b w,R a w→R' b w→S RV Ey):∀{as bs:No} {L:List α},J3 as L→Paired R' bs L→Paired S EK LK
 |_,_,_,.nil,.nil=>.nil
 |_,_,_,.cons h t,.cons h' t'=>.cons (f _ _ _ h h') (zem f t t')
def same_sws{B B' H:Hp}{a b:Nc}{L:List Swap}(h:zc1 B H a L)(k:zc1 B' H b L):Vm 3 RV Ey:=by
 obtain⟨as,_,h1,h2⟩:=h
 obtain⟨bs,_,k1,k2⟩:=k
 exact .inr ⟨a,b,_,_,rfl,rfl,RH ⟨h1,k1⟩,zem (R:=SwAt B H) (R':=Gb H) (λ_ _ _ h k=>same_sw h k) h2 k2⟩
def same_st(h:Do H a q)(k:StAt B' H b q):Vm 4 RV Ey:=by
 obtain⟨l,h1,h2⟩:=h
 obtain⟨l',k1,k2⟩:=k
 exact .inr ⟨a,b,_,_,rfl,rfl,SC ⟨h1,k1⟩,.cons Eb (Oh Eb (Sa (same_sws h2 k2)))⟩
theorem same_up:∀{n:Nat} {x y:V},Vm n x y→Vm (n+1) x y
 |0,_,_,h=>.inl h
 | n+1,x,y,h=>by
  rcases h with h | ⟨a,b,xs,ys,e1,e2,hc,pr⟩
  ·exact .inl h
  ·refine .inr ⟨a,b,xs,ys,e1,e2,hc,?_⟩
   clear hc e1 e2
   induction pr with
   |nil=>exact .nil
   |cons h t ih=>exact .cons (same_up h) ih
def same_pap{H:Hp}{a b:Nc}{p:Option (List Step)×Nat}(h:zg8 H a p)(k:zg8 H b p):∃xs ys,H a=some ST∧H b=some Lv∧GW ys:=by
 rcases h with⟨h0,h1⟩ | ⟨l,as,B,L,h0,h1,h2,h3⟩
 ·rcases k with ⟨k0,k1⟩ | ⟨l',bs,B',L',k0,k1,k2,k3⟩
  ·exact⟨_,_,h1,k1,Oh Eb (Sa Eb)⟩
  ·rw[h0]at k0;cases k0
 ·rcases k with ⟨k0,k1⟩ | ⟨l',bs,B',L',k0,k1,k2,k3⟩
  ·rw[k0]at h0;cases h0
  ·rw [h0] at k0
   cases k0
   exact⟨_,_,h1,k1,.cons (same_up (.inr ⟨l,l',_,wI,rfl,RH ⟨h2,k2⟩,zem (R:=Do H) (R':=StAt B' H) (λ_ _ _ h k=>same_st h k) h3 k3⟩)) (Sa Eb)⟩
end K21
end
section
namespace L2
open PySem PySem.Spec PyProof.Rows
section
variable{X:Cx}
def op_ne_empty(hu:X.A.units<cLine):YK (λx y H Q=>Ex3 λa b kvs=>Aj5 (x=.ref a) (y=.ref b) (KF RU) (Rd H b RQ) (Ap (!kvs.isEmpty))):=by
 intro a5 s σ H x y v u Q I rx ry h
 obtain⟨a,b,kvs,rfl,rfl,h1,h2,q⟩:=h
 cases rx;cases ry
 obtain⟨z,lo,vs,ep,rk,ha,hl⟩:=NU h1
 obtain⟨z2,lo2,vs2,ep2,rk2,kZ,aw⟩:=NU h2
 cases rk2
 refine PySem.W.keq_ne (r:=true) lo lo2 ha.dictOf kZ.dictOf hu (λe=>?_) ⟨.bl (!kvs.isEmpty),H,I,?_,q⟩
 ·cases vs with
  |nil=>exact .nil
  |cons _ _=>cases e
 ·show Value.bool _=Value.bool _
  cases rk with
  |nil=>rfl
  |cons _ _=>rfl
end
end L2
end
section
namespace K21
open PySem L2 Wb
abbrev sLOrd:Stmt:=top 56
def eltOf:Expr→Expr
 |.ListComp e _ _ _=>e
 |e=>e
def firOf:Expr→Expr
 |.Tuple (e::_) _ _=>e
 |e=>e
abbrev csL1:Scope:=scOf (eOf (Gc 0))
abbrev csL2:Scope:=scOf (aOf 0 (firOf (eltOf (eOf (Gc 0)))))
def ndL1:(["_law_place",qR, "_law_left"]:List Str).Nodup:=by decide +kernel
def csL2_f(h:env.scope=zai sLOrd):∀y∈csL2.names,y.2=.free→(relabel csL1 env).names.lookup y.1=some .cell∨(relabel csL1 env).names.lookup y.1=some .free:=by
 unfold relabel Env.kindOf
 rw[h]
 decide +kernel
def csL2_l:csL2.names.lookup ("_law_left" : Str)=some NameKind.free:=by decide +kernel
def ndL2:([qO, "_law_left"]:List Str).Nodup:=by decide +kernel
inductive IspLOrd(vs:List V)(H:Hp)(Q:VK):Prop
 |mk (d:Nc) (es:List Ent) (h0:vs=[.ref d]) (h1:RF H d es) (h2:es.length≤100) (h3:∀e∈es,e.2.1.length≤100) (h4:∀z y,y∈row (rsOf es) z→y∈es.map (·.1)) (h5:∀(l:Nc) (T:Nh) (H':Hp),H' l=some (.lst (T.map V.str))→zcv (es.map (·.1)) (row (rsOf es)) T→H l=none→Keep [] H H'→Q (.ref l) H'):IspLOrd vs H Q
def spLOrd:Sp:=λvs H Q _=>IspLOrd vs H Q
abbrev eK(es:List Ent):List (Key×V):=eWV es
def eK_drop(es:List Ent)(x:Str):zgx O4 EA=eK (es.filter λe=>decide (e.1≠x)):=by
 unfold zgx eK
 rw[Uo]
 congr 1
 apply Jc
 intro y _
 show decide ((Sum.inr y.1:Key)≠Sum.inr x)=decide (y.1≠x)
 rw[Yp,decide_eq_true_eq,decide_eq_true_eq]
 exact⟨λh e=>h (by rw[e]),λh e=>h (Wc e)⟩
section
variable{P:Nk}{w:Nn}{K:Na}{mg:Ng}{base:Np}
def zhi:zaj [qR, "_law_left", "_law_found", "_law_row", "_law_place"] [qR] (zai sLOrd):=fsk
def ok_lord(F:QE "_law_order" "_law_order" sLOrd f fd)(aI:mg "dict" = none)(ae:mg "len" = none)(ga:mg "min" = none):ZB 1 f fd [qR] spLOrd:=by
 refine F.okL zhi Hj
 obtain⟨d,es,rfl,R,aH,cg,bE,kq⟩:=h
 have hu:=zb6 hr
 have ap:sizeLine=16777216:=sizeLine_eq
 refine⟨_,zad (zgg (i:=1) zhi.nd rfl TY (OB SM))
  (zad (Ve zhi.nd SN)
  (zad (Mx (zar (op_ne_empty (Wl AC hu)) Rj zd7 rfl)
   (zad (zgf (ps_lc (i:=3) (M:=["_law_place",qR, "_law_left"]) (ix:=[none,Hs 0,xq]) zhi.nd rfl rfl (mkB zhi) rfl (zej Rj) (fun C a5 ex s H=>UN ndL1)
    (fun C a5 ex s H=>zcy) (fun C a5 ex s H=>zbd (zaa (zal (zdm (K:=K) rfl) HQ (by exact ae) Yi (zaa
     (zff (M:=[qO, "_law_left"]) (ix:=[none,Hs 2]) ⟨by rfl,by decide +kernel,by decide +kernel,csL2_f rfl,rfl,ndL2,fun j i x h1 h2=>by
       match j,h1,h2 with
       |0,_,h2=>cases h2
       |1,h1,h2=>cases h1;cases h2;exact⟨rfl,csL2_l⟩
       |n+2,h1,_=>cases h1⟩ rfl (pi_lstK (K:=K) rfl (Aq (by exact hu) R6)) (λC a5 ex s H=>UN ndL2)
      (λC a5 ex s H=>zci (Ch (by exact hu) R6)) RG) zae)) SM)) rfl))
   (zad (Bb zhi.nd (S0 (GM HQ ga Xu (QB zae))))
   (zad (zbg (pe_dpop1 Rj Sd ⟨rfl,rfl,rfl,rfl⟩))
   (zag (Cz Sc SO))))))
  (zag Pw))),?_⟩
 have aA:=R.nd
 have am:∀e∈es,ZK e.1=e.2.1:=λe he=>zay aA he
 refine⟨wI,d,wI,R.dc,λlf uz=>?_⟩
 have k1:Keep [] H (TC lf O4):=Keep.new uz
 have g1:(TC lf O4) lf=some (ID O4):=zab
 generalize ZX lf (ID O4)=H1 at k1 g1
 refine⟨Lq,λfo dE=>?_⟩
 have nlf:lf≠fo:=zac g1 dE
 have ffo:H fo=none:=Fy dE Ha
 have k2:Keep [] H (QK fo HL):=k1.trans (Ho dE)
 have g2:(QK fo HL) lf=some (ID O4):=by rw[zaf nlf];exact g1
 have f2:(QK fo HL) fo=some (Hr (([]:List Str).map V.str)):=zab
 show B8 _
 generalize QK fo HL=H2 at k2 g2 f2
 generalize bj:row Lb=r at bE am kq
 refine⟨λm σ H'=>Ex2 λ(D:Nh) (fs:List Ent)=>Aj8 (m=fs.length) (Ex2 λx3 x4=>σ=[Tf,Hc lf,Hc fo,x3,x4]) (H' lf=some S6) (H' fo=some Cm) (Pre (es.map (·.1)) r D) (∀e,e∈fs↔e∈es∧e.1∉D) ((fs.map (·.1)).Nodup) Pp,
  ⟨es.length,[],es,rfl,⟨none,none,rfl⟩,g2,f2,Pre.nil,λe=>⟨λh=>⟨h,Ha⟩,λh=>h.1⟩,aA,k2⟩,?_⟩
 rintro m σ H3 ⟨D,fs,rfl,⟨x3,x4,rfl⟩,aP,hf3,PD,fw,jl,k3⟩
 refine⟨wI,λed rB=>⟨lf,ed,_,rfl,rfl,RH (Ht (zy aP rB) aP),RH zab,_,rfl,?_⟩⟩
 have sM:Keep [] H (QS ed RQ):=k3.trans (Ho rB)
 have oE:(QS ed RQ) lf=some S6:=by rw[zaf (zy aP rB)];exact aP
 have kI:(QS ed RQ) fo=some Cm:=by rw[zaf (zy hf3 rB)];exact hf3
 generalize QS ed RQ=H4 at sM oE kI
 by_cases kC:fs=[]
 ·subst kC
  refine WG ⟨_,rfl,kq fo D H4 kI (PD.order aA λy hy=>?_) ffo sM⟩
  obtain⟨e,he,rfl⟩:=Qf.mp hy
  by_cases h:e.1∈D
  ·exact h
  ·exact absurd ((fw e).mpr ⟨he,h⟩) Ha
 ·refine zbf (by cases fs with
   |nil=>exact absurd rfl kC
   |cons _ _=>rfl) ?_
  refine⟨_,λ σ' H' zz=>zz,?_⟩
  have hU:fs.length≤es.length:=by
   have:=zb9 jl (m:=es.map (·.1)) λy hy=>by
    obtain⟨e,he,rfl⟩:=Qf.mp hy
    exact Qf.mpr ⟨e,((fw e).mp he).1,rfl⟩
   rwa[Qa,Qa]at this
  have ao:∀z∈es.map (·.1),z∈fs.map (·.1)↔z∉D:=λz hz=>by
   constructor
   ·intro h
    obtain⟨e,he,rfl⟩:=Qf.mp h
    exact((fw e).mp he).2
   ·intro h
    obtain⟨e,he,rfl⟩:=Qf.mp hz
    exact Qf.mpr ⟨e,(fw e).mpr ⟨he,h⟩,rfl⟩
  have kJ:(eK fs).length=fs.length:=Qa ..
  have nfz:∀o' u',H lf≠some Te:=λo' u' z=>by rw[uz]at z;cases z
  refine⟨_,rfl,lf,_,rfl,oE,λo=>⟨λi m ys τ H'=>Aj6 (m=fs.length-i) (i≤fs.length) (Ex1 λx0=>τ=[x0,Tf,Hc lf]) (H' lf=some (.frz o S6)) (Keep [lf] H4 H') (Ex1 λ(as:No)=>Aj3 (ys=as.map V.ref) (as.length=i) (KAt H' as ((fs.take i).map λe=>(WQ e.1,e.1)))),
   ⟨fs.length,rfl,SJ,⟨none,rfl⟩,zab,SX,[],rfl,rfl,.nil⟩,?_⟩⟩
  have fr4:∀{H':Hp},Keep [lf] H4 H'→Keep [] H H':=λkk c u ec _=>kk c u (sM c u ec Ha) (by simpa using WM uz)
  rintro i m ys τ H5 ⟨rfl,hi,⟨x0,rfl⟩,hz,k5,as,rfl,aW,ka⟩
  by_cases ad:i<fs.length
  ·refine .inr ⟨⟨hz,by rw [kJ];exact ad⟩,by rw [Qa];lia,?_⟩
   rintro v H6 ⟨rfl,pr,e1,rfl⟩
   have g1:pr=((Sum.inr fs[i].1:Key),V.ref fs[i].2.2):=by
    rw[Qo,Qd ad]at e1
    exact(Qn e1).symm
   subst g1
   have bh:fs[i]∈es:=((fw _).mp A9).1
   have de:fs.take HN=fs.take i++[fs[i]]:=Qi ad
   generalize fs[i]=e at bh de
   have R5:=R.keep (fr4 k5)
   have bQ:=R5.ro e bh
   refine⟨wI,wI,d,wI,R5.get bh,e.2.2,rfl,⟨_,SqL.of bQ⟩,zep (xs:=e.2.1.map V.str) (λ τ=>∃x0,τ=[x0,some (.ref lf)]) (λv=>match v with | .str z=>decide (z∈fs.map (·.1)) | _=>false) (SqL.of bQ) (by rw[Qa];have:=cg e bh;lia) ⟨none,rfl⟩ ?_ (λsl dy=>?_)⟩
   ·rintro v hv τ ⟨x0,rfl⟩ q1 q0 h1 h0
    obtain⟨z,dU,rfl⟩:=Qf.mp hv
    by_cases hk:z∈fs.map (·.1)
    ·obtain ⟨e',bo,rfl⟩:=Qf.mp hk
     exact⟨wI,wI,lf,wI,RH ⟨_,Sum.inr e'.1,SC ⟨o,hz⟩,rfl,(zb7 jl bo).symm⟩,wI,iteT ⟨wI,h1 (HY hk) _ ⟨wI⟩⟩⟩
    ·exact⟨wI,wI,lf,wI,RH ⟨_,Sum.inr z,SC ⟨o,hz⟩,rfl,(val_out hk).symm⟩,wI,iteF (h0 (Su hk) _ ⟨wI⟩)⟩
   have ef:(e.2.1.map V.str).filter (λv=>match v with | .str z=>decide (z∈fs.map (·.1)) | _=>false)=(e.2.1.filter λz=>decide (z∈fs.map (·.1))).map V.str:=Uo
   have ed':(e.2.1.filter λz=>decide (z∈fs.map (·.1))).length=WQ e.1:=by
    unfold dg
    rw[am e bh]
    congr 1
    refine Jc λz dU=>?_
    rw[Yp,decide_eq_true_iff,decide_eq_true_iff]
    exact ao z (bE e.1 z (by rw[am e bh];exact dU))
   rw[ef]
   refine⟨sl,wI,SS zab,wI,SD,λt ht=>?_⟩
   have k6:Keep [lf] H6 (upd (WD sl (.lst ((e.2.1.filter λz=>decide (z∈fs.map (·.1))).map V.str))) t (.tup [.int ((((e.2.1.filter λz=>decide (z∈fs.map (·.1))).map V.str).length:Nat):Int),Rw])):=(Ho dy).trans TJ
   have sW:(upd (WD sl (.lst ((e.2.1.filter λz=>decide (z∈fs.map (·.1))).map V.str))) t (.tup [.int ((((e.2.1.filter λz=>decide (z∈fs.map (·.1))).map V.str).length:Nat):Int),Rw])) lf=some (.frz o S6):=by
    have nls:lf≠sl:=KU dy
    rw[zaf (zy (Ht nls hz) ht),zaf nls];exact hz
   have kn:Keep [] H6 (upd (WD sl (.lst ((e.2.1.filter λz=>decide (z∈fs.map (·.1))).map V.str))) t (.tup [.int ((((e.2.1.filter λz=>decide (z∈fs.map (·.1))).map V.str).length:Nat):Int),Rw])):=(Ho dy).trans TJ
   refine⟨fs.length-HN,Hz,rfl,ad,⟨wI⟩,sW,CA k6,as++[t],by rw[Qq];rfl,by rw[Qw,aW];rfl,?_⟩
   rw[de,Qq]
   refine zax (Paired.imp' (λa k h=>kn _ _ h Ha) ka) (.cons ?_ .nil)
   rw[zab,Qa,ed'];rfl
  ·have ck:i=fs.length:=by exact zar3 ‹_› ‹_›
   subst ck
   rw[Qs Hx]at ka
   refine .inl ⟨⟨hz,Rm kJ⟩,λL hL=>?_⟩
   have nmL:lf≠L:=KU hL
   refine⟨lf,o,_,Ht nmL hz,nfz,?_⟩
   have k6:Keep [lf] H4 (Z3 lf S6):=(CA (Ho hL)).trans SX
   have cN:(Z3 lf S6) lf=some S6:=zab
   have pY:(Z3 lf S6) L=some Rz:=by rw[zaf (Zl nmL)];exact zab
   have mX:KAt (Z3 lf S6) as (fs.map λe=>(WQ e.1,e.1)):=Paired.imp' (λa k h=>by
    rw[zaf Ad,zaf (zy h hL)];exact h) ka
   generalize Z3 lf S6=H6 at k6 cN pY mX
   have hf6:=k6 _ _ kI (by simpa using Zl nlf)
   refine⟨wI,L,as,wI,Hk pY,mX,He kC,λa kk ji ha cY=>?_⟩
   obtain⟨e,he,rfl⟩:=Qf.mp ji
   obtain⟨bv,heD⟩:=(fw e).mp he
   have iF:∀z∈es.map (·.1),z∉D→leK (WQ e.1,e.1) (WQ z,z):=λz h1 h2=>by
    obtain⟨e',bo,rfl⟩:=Qf.mp h1
    exact cY _ (La ⟨e',(fw e').mpr ⟨bo,h2⟩,rfl⟩)
   have vE:=PD.snoc (La ⟨e,bv,rfl⟩) heD iF
   have hDl:D.length≤es.length:=by
    have:=zb9 PD.nd PD.sub
    rwa[Qa]at this
   refine⟨a,_,1,wI,rfl,Rk ha,rfl,?_⟩
   refine⟨wI,lf,rfl,.inl ⟨_,RH cN⟩,wI,_,Sf,_,cN,rfl,zb7 jl he,?_⟩
   rw[eK_drop]
   have k7:Keep [lf] H4 (WD lf (.dK (eK (fs.filter λe'=>decide (e'.1≠e.1))))):=k6.trans SX
   have bd:(WD lf (.dK (eK (fs.filter λe'=>decide (e'.1≠e.1))))) lf=some (.dK (eK (fs.filter λe'=>decide (e'.1≠e.1)))):=zab
   have uM:(WD lf (.dK (eK (fs.filter λe'=>decide (e'.1≠e.1))))) fo=some Cm:=by rw[zaf (Zl nlf)];exact hf6
   generalize WD lf (.dK (eK (fs.filter λe'=>decide (e'.1≠e.1))))=H7 at k7 bd uM
   refine⟨wI,RC uM,wI,fo,_,wI,rfl,uM,Ce,?_⟩
   have r9:∀e',e'∈fs.filter (λe'=>decide (e'.1≠e.1))↔e'∈es∧e'.1∉D++[e.1]:=λe'=>by
    rw[Zd,fw e',decide_eq_true_eq,Ql,Qc,not_or]
    exact⟨λh=>⟨h.1.1,h.1.2,h.2⟩,λh=>⟨⟨h.1,h.2.1⟩,h.2.2⟩⟩
   have be:(fs.filter λe'=>decide (e'.1≠e.1)).length<fs.length:=by
    rw[←List.countP_eq_length_filter]
    exact Nat.lt_of_le_of_ne List.countP_le_length λq=>by
     have:=List.countP_eq_length.mp q e he
     simp at this
   refine⟨_,be,D++[e.1],fs.filter λe'=>decide (e'.1≠e.1),rfl,⟨_,_,rfl⟩,Ht nlf bd,by rw[zab,Qq];rfl,vE,r9,Yx (List.Sublist.map _ Uw) jl,(fr4 k7).fr ffo⟩
end
abbrev sLCh:Stmt:=top 57
abbrev qU:Str := "_law_hues"
structure LOk(H:Hp)(d u:Nc)(es:List Ent)(hs:List (Str×Int)):Prop where
 rf:Fx es
 hf:Dg hs
 few:es.length≤16
 rl:∀e∈es,e.2.1.length≤16
 cl:∀z y,y∈ZK z→y∈es.map (·.1)
 hk:∀x∈hs.map (·.1),x∈es.map (·.1)
def LOk.keep(L:Vn hs)(k:Rl H):MZ hs:=⟨L.rf.keep k,L.hf.keep k Ha,L.few,L.rl,L.cl,L.hk⟩
def LOk.wr(L:Vn hs)(k:Keep [p] H H')(hp:H p=some Tj)(hB:∀e∈es,e.2.2≠p):MZ hs :=
 ⟨⟨L.rf.dc.imp (fun z=>k _ _ z (by simpa using za1 z hp (by intro q;cases q))) fun ⟨o,z⟩=>⟨o,k _ _ z (by simpa using za1 z hp (by intro q;cases q))⟩,L.rf.nd,fun e he=>k _ _ (L.rf.ro e he) (by simpa using hB e he)⟩,
  L.hf.keep k (by simpa using za1 L.hf.dc hp (by intro q;cases q)),L.few,L.rl,L.cl,L.hk⟩
def inV_swap(v:V)(a b:Int):inV v [S7 a,S7 b]=inV v [S7 b,S7 a]:=by
 unfold inV
 simp[Bool.or_comm]
inductive IspLCh(vs:List V)(H:Hp)(Q:VK):Prop
 |mk (d u:Nc) (es:List Ent) (hs:List (Str×Int)) (s:Str) (o:Int) (h0:vs=[.ref d,.ref u,.str s,.int o]) (h1:LOk H d u es hs) (h2:s∈hs.map (·.1))
  (h5:∀(l:Nc) (H':Hp),H' l=some (Hr ((Q8 (s,o)).map V.str))→H l=none→Keep [] H H'→Q Sy H'):IspLCh vs H Q
def spLCh:Sp:=λvs H Q _=>IspLCh vs H Q
section
variable{P:Nk}{w:Nn}{K:Na}{mg:Ng}{base:Np}
def scLCh:zaj [qR,qU, "_law_start", "_law_hue", "_law_found", "_law_at",qO] [qR,qU, "_law_start", "_law_hue"] (zai sLCh):=fsk
def ok_lch(F:QE "_law_chain" "_law_chain" sLCh f fd)(ae:mg "len" = none)(aB:mg "sorted" = none):ZB 1 f fd [qR,qU, "_law_start", "_law_hue"] spLCh:=by
 refine F.okL scLCh Hn
 obtain⟨d,u,es,hs,s,o,rfl,L,nP,kq⟩:=h
 have aY:=zb6 hr
 have ap:=sizeLine_eq
 refine⟨_,zad (Bb scLCh.nd (za8 Sn))
  (zad (XR scLCh.nd zah)
  (zad (Mx (M6 So (Cs SO) Sq)
   (zad (Z4 (zas (XW R6 (QI Sd So (fun _ _=>rfl)))) (XC scLCh.nd)
    (zag (zbn (PW.pt (zhl (zbw (zgk aY Tx Rj)) (zhl (NW Tx Sd rfl) (zge (zar op_in_seq (XW Rj Tx) (zbd (QB (Rx (XW Rj zq)))) rfl)))))
     (zag (Cz Sd Cl)) zap)))
   (zag (XR scLCh.nd (Ed So)))))
  (zag (zaq (Cy zcu SO))))),?_⟩
 refine⟨wI,EM,λl hl=>?_⟩
 have k1:Keep [] H (ZX l (.lst [Ts s])):=Keep.new hl
 have g1:(ZX l (.lst [Ts s])) l=some (Hr (([s]:List Str).map V.str)):=zab
 generalize ZX l (.lst [Ts s])=H1 at k1 g1
 have lA:∀e∈es,e.2.2≠l:=λe he=>zac (L.rf.ro e he) hl
 have L1:∀{H':Hp},Keep [l] H1 H'→MZ hs:=λkk=>(L.keep k1).wr kk g1 lA
 let f7:Str→List Str:=λz=>(ZK z).filter (JR o)
 have jc:s∈es.map (·.1):=L.hk s nP
 show tSeq (UQ (zer 5)) _ _ _ _
 refine zgt (λ σ' H'=>Aj2 (σ'=[Tf,CL,Sx s,RZ o,Es,Ov,none]) (H1=H')) (λD' bA=>bA _ _ ⟨rfl,rfl⟩) ?_
 rintro σ' H' ⟨rfl,rfl⟩
 dsimp only
 refine⟨λm σ H'=>Ex3 λ(G:Nh) (i:Nat) (x6:Option V)=>Aj9 (m=es.length-i) (σ=[Tf,CL,Sx s,RZ o,Es,RZ ((i:Nat):Int),x6]) (Keep [l] H1 H') (H' l=some Lr) (G.Nodup) (∀y∈G,NB y∧y∈es.map (·.1)) (s∈G) (i≤G.length) (∀z∈G.take i,∀y∈f7 z,y∈G),
  ⟨_,[s],0,none,rfl,rfl,Keep.refl,g1,Ha,λy hy=>by rw[Qc.mp hy];exact⟨.refl,jc⟩,Ha,SJ,λz hz=>by simp at hz⟩,?_⟩
 rintro m σ H2 ⟨G,i,x6,rfl,rfl,k2,aw,v9,pZ,hsG,hiG,bE⟩
 have l9:G.length≤es.length:=by
  have:=zb9 v9 λy hy=>(pZ y hy).2
  rwa[Qa]at this
 have few:=L.few
 refine⟨wI,wI,l,wI,SS aw,_,wI,rfl,wI,?_⟩
 by_cases ad:i<G.length
 ·refine zbf (HY (by rw [Qa];lia)) ⟨_,fun σ' H' z=>z,?_⟩
  obtain⟨e,he,ee⟩:=Qf.mp (pZ _ A9).2
  have mt:e.1=G[i]:=ee
  have am:ZK G[i]=e.2.1:=by rw[←mt];exact DV he
  have hg:(G.map V.str)[i]?=some (.str G[i]):=by rw[Qo,Qd ad];rfl
  have L2':=L1 k2
  refine⟨wI,wI,wI,l,_,_,wI,rfl,PH,zaw hg,d,wI,by rw[←mt];exact L2'.rf.get he,e.2.2,rfl,⟨_,Hk (L2'.rf.ro e he)⟩,?_⟩
  refine zc3 (zs:=e.2.1) (λj σ H'=>Ex2 λ(G':Nh) (x6:Option V)=>Aj8 (σ=[Tf,CL,Sx s,RZ o,Es,RZ ((i:Nat):Int),x6]) (Keep [l] H1 H') (H' l=some yI) (G'.Nodup) (∀y∈G',NB y∧y∈es.map (·.1)) (∃t,G'=G++t) (∀y∈e.2.1.take j,JR o y=true→y∈G') (i<G'.length))
   ⟨G,x6,rfl,k2,aw,v9,pZ,⟨[],Ha⟩,λy hy=>by simp at hy,ad⟩ (λj σ H' _ hh=>SqL.of (by obtain⟨_,_,_,kk,_⟩:=hh;exact(L1 kk).rf.ro e he)) ?_ ?_
  ·rintro j hj σ H3 ⟨G',x6',rfl,k3,aP,gK,gL,⟨t,rfl⟩,ao,iK⟩
   have L3:=L1 k3
   have uB:e.2.1[j]∈ZK G[i]:=by rw[am];exact Qr hj
   have de:e.2.1.take (j+1)=e.2.1.take j++[e.2.1[j]]:=Qi hj
   have rp:=L3.hf.hf.get (Sum.inr e.2.1[j])
   have oU:=L3.hf.hf.get (Sw s)
   rw[DW (e:=(s,WA s)) (DX nP)]at oU
   generalize e.2.1[j]=z at uB de rp
   have cT:z∈es.map (·.1):=L.cl _ _ uB
   have hGl':(G++t).length≤es.length:=by
    have:=zb9 gK λy hy=>(gL y hy).2
    rwa[Qa]at this
   have skip:∀{H':Hp},Keep [l] H1 H'→H' l=some (Hr ((G++t).map V.str))→(JR o z=true→z∈G++t)→Ex2 λ(G':Nh) (x6:Option V)=>Aj8 ([Hs (Le d),CL,Sx s,RZ o,Es,RZ ((i:Nat):Int),Hs (wx z)]=[Hs (Le d),CL,Sx s,RZ o,Es,RZ ((i:Nat):Int),x6]) (Keep [l] H1 H') (H' l=some yI) (G'.Nodup) (∀y∈G',NB y∧y∈es.map (·.1)) (∃t,G'=G++t) (∀y∈e.2.1.take (j+1),JR o y=true→y∈G') (i<G'.length):=λ{H'} kk hh hz =>
    ⟨G++t,_,rfl,kk,hh,gK,gL,⟨t,rfl⟩,fun y hy ht=>by
     rw[de]at hy
     rcases Ql.mp hy with q | q
     ·exact ao y q ht
     ·rw[Qc.mp q]at ht ⊢;exact hz ht,iK⟩
   refine⟨wI,wI,u,wI,rp,wI,?_⟩
   rcases valH_is hs z with hn | ⟨n,hn⟩
   ·rw [hn]
    have ht:JR o z=false:=by unfold tw hueV;rw[hn];rfl
    exact iteF (iteF (skip k3 aP λq=>by rw[ht]at q;cases q))
   ·rw [hn] at rp ⊢
    refine iteT ⟨_,rfl,_,rfl,l,_,rfl,SS aP,rfl,xy,_,rfl,?_⟩
    by_cases qE:z∈G++t
    ·refine za7 (by rw[if_pos rfl,zdy,decide_eq_true qE];rfl) (iteF (skip k3 aP λ_=>qE))
    ·refine zbf (by rw [EB,zdy,Su qE];rfl) ?_
     refine⟨wI,wI,u,wI,rp,wI,wI,wI,u,wI,oU,SD,λtp gW=>?_⟩
     have nlt:l≠tp:=zac aP gW
     have k4:Keep [l] H1 (QS tp (.tup [PP,Et])):=k3.trans (Ho gW)
     have cx:(QS tp (.tup [PP,Et])) l=some (Hr ((G++t).map V.str)):=by rw[zaf nlt];exact aP
     have nI:(QS tp (.tup [PP,Et])) tp=some (.tup [PP,Et]):=zab
     generalize QS tp (.tup [PP,Et])=H4 at k4 cx nI
     refine⟨tp,wI,SC (Rk nI),rfl,rfl,wI,?_⟩
     have e2:(if false=true then !Vj [PP,Et] else Vj [PP,Et])=JR o z:=by
      unfold tw hueV
      rw[hn]
      exact inV_swap ..
     rw[e2]
     cases nE:JR o z with
     |false=>exact iteF (skip k4 cx λq=>by rw[nE]at q;cases q)
     | true =>
      refine iteT ⟨_,rfl,RC cx,_,rfl,l,_,_,rfl,rfl,cx,Ce,?_⟩
      refine⟨G++t++[z],wI,SQ (Keep.wr Qb),by rw[zab,Qq (l₁:=G++t)];rfl,?_,λy hy=>?_,⟨t++[z],by rw[Qv]⟩,λy hy ht=>?_,HH Qw⟩
      ·rw [Ze]
       exact⟨gK,Ha,λa ha b hb q=>qE (by rw[←Qc.mp hb,←q];exact ha)⟩
      ·rcases Ql.mp hy with q | q
       ·exact gL y q
       ·rw [CS q]
        exact⟨.step (pZ _ A9).1 (yn ⟨uB,nE⟩),cT⟩
      ·rw [de] at hy
       rcases Ql.mp hy with q | q
       ·exact YF (ao y q ht)
       ·exact WK q
  ·rintro σ H3 ⟨G',x6',rfl,k3,aP,gK,gL,⟨t,rfl⟩,ao,iK⟩
   rw[Qa,Qs Hx]at ao
   have e1:((i:Nat):Int)+1=((i+1:Nat):Int):=by lia
   refine⟨wI,_,wI,rfl,?_⟩
   refine⟨es.length-HN,Hb,G++t,i+1,x6',rfl,by rw[←e1];rfl,k3,aP,gK,gL,YF hsG,iK,λz hz y hy=>?_⟩
   have de:(G++t).take HN=(G++t).take i++[(G++t)[i]]:=Qi iK
   rw[de]at hz
   rcases Ql.mp hz with q | q
   ·rw [Kh (Wo ad)] at q
    exact YF (bE z q y hy)
   ·rw [xA ad] at q
    rw[Qc.mp q]at hy
    have:=Zd.mp hy
    exact ao y (by rw[←am];exact this.1) this.2
 ·have ck:i=G.length:=by lia
  subst ck
  rw[Qs Hx]at bE
  refine za7 (Su Ce) ?_
  refine⟨wI,l,G,rfl,PH,λl5 ws cj ag au=>?_⟩
  have e5:ws=Q8 (s,o):=by
   refine chH_eq (Ab v9) wc λy=>?_
   rw[ag.mem_iff]
   constructor
   ·exact λh=>(pZ y h).1
   ·intro c
    have c':NB y:=c
    clear c
    induction c' with
    |refl=>exact hsG
    |step _ hz ih=>exact bE _ ih _ hz
  have kk:Keep [] H H2:=λc o' ec _=>k2 c o' (k1 c o' ec Ha) (by simpa using WM hl)
  exact kq l5 _ (by rw[zab,e5]) (yH kk cj) (kk.trans (Ho cj))
end
abbrev sLTu:Stmt:=top 58
abbrev sLFr:Stmt:=top 59
abbrev sLSw:Stmt:=top 61
abbrev q1:Str := "_law_one_here"
abbrev q2:Str := "_law_place"
def tw_or(nd:(hs.map (·.1)).Nodup)(he:e∈hs)(h:Bu a b e.1=true):e.2=a∨e.2=b:=by
 unfold tw hueV inV at h
 rw[zcb nd he]at h
 simp only[Option.getD_some,Kg,List.any_nil,Bool.or_false,Jr]at h
 exact h.imp (λz=>(eq_of_beq (α:=Int) z).symm) λz=>(eq_of_beq (α:=Int) z).symm
def ch_hue(nd:(hs.map (·.1)).Nodup)(hq:q.1∈hs.map (·.1))(he:e∈hs)(h:e.1∈chN r hs q):e.2=WA q.1∨e.2=q.2:=by
 have c:=zi5 h
 generalize hx:e.1=x at c
 cases c with
 |refl=>exact .inl (by rw[←hx];exact(hu_in nd he).symm)
 |step _ hz=>exact tw_or nd he (by rw[hx];exact(Pf hz).2)
inductive IspLTu(vs:List V)(H:Hp)(Q:VK):Prop
 |mk (d u t:Nc) (es:List Ent) (hs:List (Str×Int)) (q:Str×Int) (h0:vs=[.ref d,.ref u,.ref t]) (h1:LOk H d u es hs) (ht:H t=some (.tup [.str q.1,.int q.2])) (h2:q.1∈hs.map (·.1)) (h3:hs.length≤16)
  (h5:∀(l:Nc) (H':Hp),B5 l Sz→H l=none→Keep [] H H'→Q Sy H'):IspLTu vs H Q
def spLTu:Sp:=λvs H Q _=>IspLTu vs H Q
inductive IspLSw(vs:List V)(H:Hp)(Q:VK):Prop
 |mk (d u t:Nc) (es:List Ent) (hs:List (Str×Int)) (q:Str×Int) (h0:vs=[.ref d,.ref u,.ref t]) (h1:LOk H d u es hs) (ht:H t=some (.tup [.str q.1,.int q.2])) (h2:q.1∈hs.map (·.1))
  (h5:∀(a:Nc) (H':Hp),SwAt H H' a EV→Keep [] H H'→Q RV H'):IspLSw vs H Q
def spLSw:Sp:=λvs H Q _=>IspLSw vs H Q
section
variable{P:Nk}{w:Nn}{K:Na}{mg:Ng}{base:Np}
def scLTu:zaj [qR,qU,q1, "_law_start", "_law_hue", "_law_found",q2] [qR,qU,q1] (zai sLTu):=fsk
def ok_ltu(F:QE "_law_turned" "_law_turned" sLTu f fd)(GC:ZF "_law_chain" [qR,qU, "_law_start", "_law_hue"] 1 spLCh)(aI:mg "dict" = none):ZB 2 f fd [qR,qU,q1] spLTu:=by
 refine F.okL scLTu Hn
 obtain⟨d,u,t,es,hs,q,rfl,L,ht,lM,iL,kq⟩:=h
 have aY:=zb6 hr
 have ap:=sizeLine_eq
 refine⟨_,zad (zcz Sc (Cv (M5 scLTu.nd) (TH (KB scLTu.nd))))
  (zad (XR scLTu.nd (OB SH))
  (zad (Z4 (zas (FH hr (Ev (QB SO)))) (XC scLTu.nd)
   (zag (zb5 aY So Tx (Be (WV Sd (XW Rj RX)) (XW Rj Tx)) rfl)))
  (zag IZ))),?_⟩
 refine⟨wI,t,wI,Rk ht,rfl,_,wI,_,wI,rfl,?_⟩
 have hh:=L.hf
 refine⟨wI,u,wI,.inl hh.dc,λl hl=>?_⟩
 have k1:Keep [] H (TC l RD):=Keep.new hl
 have aD:HAt (TC l RD) l hs:=⟨zab,hh.nd⟩
 generalize ZX l A7=H1 at k1 aD
 refine⟨wI,wI,wI,wI,d,u,es,hs,q.1,q.2,rfl,L.keep k1,lM,λc H2 hc fc k2=>?_⟩
 have hcm:∀z∈Q8 q,z∈hs.map (·.1):=λz hz=>ch_key lM hz
 have eQ:∀e∈hs,e.1∈Q8 q→e.2=WA q.1∨e.2=q.2:=λe he h=>ch_hue hh.nd lM he h
 have uK:Z8 EV=ex (Q8 q) xj q.2 hs:=rfl
 rw[uK]at kq
 have bV:H2 c=some (Hr ((Q8 q).map V.str)):=hc
 generalize Q8 q=zs at hcm eQ kq bV
 have ncl:c≠l:=λz=>by rw[z,aD.dc]at fc;cases fc
 have kk:∀{H':Hp},Keep [l] H2 H'→Keep [] H H':=λk c' o ec _=>k c' o (k2 c' o (k1 c' o ec Ha) Ha) (by simpa using WM hl)
 refine⟨c,rfl,⟨_,Hk bV⟩,zc3 (zs:=zs) (λi σ H'=>Aj3 (Ex1 λx6=>σ=[Tf,CL,Hc t,Hs Oc,Hs PM,Es,x6]) (B5 l (Bv xj q.2 hs)) (Keep [l] H2 H'))
  ⟨⟨_,rfl⟩,by rw[Kq,ex_nil];exact aD.keep k2 Ha,Keep.refl⟩ (λi σ H' _ z=>SqL.of (z.3 _ _ bV (He ncl))) ?_ ?_⟩
 ·rintro i hi σ H3 ⟨⟨x6,rfl⟩,aP,k3⟩
  obtain⟨e,he,ez⟩:=Qf.mp (hcm _ IT)
  have mr:e.1=zs[i]:=ez
  have tk:zs.take HN=zs.take i++[e.1]:=by rw[mr];exact Qi hi
  have rj:=hh.keep (kk k3) Ha
  have hg:=rj.hf.get Sf
  rw[BT he]at hg
  have oU:=rj.hf.get OC
  rw[BT (e:=(q.1,xj)) (VE lM)]at oU
  rw[←mr]
  have ev:q.2+WA q.1-e.2=if e.2=WA q.1 then q.2 else WA q.1:=by
   rcases eQ e he (mr▸Qr hi) with z | z
   ·rw[if_pos z];lia
   ·split<;>lia
  refine⟨wI,wI,wI,u,wI,oU,_,wI,rfl,wI,wI,u,wI,hg,_,wI,rfl,wI,wI,l,wI,DPut.k (k:=Sum.inr e.1) aP.dc (by unfold ex;rw[List.length_map,List.length_map];lia),⟨wI⟩,?_,TM (Keep.wr List.mem_cons_self)⟩
  rw[ev,ex_put hh.nd he,tk]
  exact⟨zab,by rw[ziz];exact hh.nd⟩
 ·rintro σ H3 ⟨⟨x6,rfl⟩,aP,k3⟩
  rw[Qa,Qs Hx]at aP
  exact⟨wI,kq l H3 aP hl (kk k3)⟩
def scLSw:zaj [qR,qU,q1] [qR,qU,q1] (zai sLSw):=fsk
def ok_lsw(F:QE "_law_swap" "_law_swap" sLSw f fd)(GC:ZF "_law_chain" [qR,qU, "_law_start", "_law_hue"] 1 spLCh):ZB 2 f fd [qR,qU,q1] spLSw:=by
 refine F.okL scLSw Hn
 obtain⟨d,u,t,es,hs,q,rfl,L,ht,lM,kq⟩:=h
 have i0:∀x y:V,atI [x,y] RO=some x:=λx y=>zaw rfl
 have i1:∀x y:V,atI [x,y] ((1:Nat):Int)=some y:=λx y=>zaw rfl
 refine⟨_,zag (Cp (Og Sc (FH hr (ZM (ZV (zaa (S0 Sc) (zm 2))))) zae)),?_⟩
 refine⟨wI,t,_,_,wI,rfl,Rk ht,LX,wI,t,_,_,wI,rfl,Rk ht,Ld,wI,wI,wI,t,_,_,wI,rfl,Rk ht,LX,wI,t,_,_,wI,rfl,Rk ht,Ld,d,u,es,hs,q.1,q.2,rfl,L,lM,λc H2 hc fc k2=>⟨Py,λa ha=>?_⟩⟩
 exact kq a _ ⟨c,fc,zab,Ht (zy hc ha) hc⟩ (Tr (Ho ha))
end
def ndLF:([qO,qU, "_law_hue"]:List Str).Nodup:=by decide +kernel
def hue_us(nd:(hs.map (·.1)).Nodup):(((r x).map λz=>!decide (B7 z=.int n)).all id)=decide (n∉Y4 hs x):=by
 rw[Yp,Uf,decide_eq_true_iff]
 unfold usN
 constructor
 ·intro h hn
  obtain⟨z,hz,e⟩:=Qf.mp hn
  obtain⟨sX,bK⟩:=Zd.mp hz
  have bK:=of_decide_eq_true bK
  have:=h _ (La ⟨z,sX,rfl⟩)
  have hv:B7 z=.int (WA z):=by unfold hueV;rw[zcb nd (ziv nd bK)];rfl
  rw[hv,e]at this
  simp at this
 ·intro h b hb
  obtain⟨z,hz,rfl⟩:=Qf.mp hb
  show(!decide (B7 z=.int n))=true
  rw[Jd,decide_eq_false_iff_not]
  intro e
  refine h (La ⟨z,yn ⟨hz,decide_eq_true ?_⟩,?_⟩)
  ·refine Ul fun q=>?_
   unfold hueV at e
   rw[zes q]at e
   cases e
  ·unfold hu;rw[e]
inductive IspLFr(vs:List V)(H:Hp)(Q:VK):Prop
 |mk (d u:Nc) (es:List Ent) (hs:List (Str×Int)) (e:Ent) (h0:vs=[.ref d,.ref u,.str e.1]) (h1:LOk H d u es hs) (h2:e∈es)
  (h5:∀H':Hp,Keep [] H H'→Q (frV EW 4) H'):IspLFr vs H Q
def spLFr:Sp:=λvs H Q _=>IspLFr vs H Q
section
variable{P:Nk}{w:Nn}{K:Na}{mg:Ng}{base:Np}
def scLFr:zaj [qR,qU,q2, "_law_hue"] [qR,qU,q2] (zai sLFr):=fsk
def ok_lfr(F:QE "_law_free" "_law_free" sLFr f fd)(aG:mg "range" = none)(aR:mg "all" = none):ZB 1 f fd [qR,qU,q2] spLFr:=by
 refine F.okL scLFr Hn
 obtain⟨d,u,es,hs,e,rfl,L,he,kq⟩:=h
 have aY:=zb6 hr
 have ap:=sizeLine_eq
 refine⟨_,zad (Z4 (U7 SY) (M5 scLFr.nd (hx:=Or.inr rfl))
   (zag (zbn (pt_val (Fs HQ aR PyProof.Rows.boot_all (zaa (zff (M:=[qO,qU, "_law_hue"]) (ix:=[none,xq,Hs 3]) (mkB scLFr) rfl (IP (XW R6 Sc)) (fun C a5 ex s H=>UN ndLF)
    (λC a5 ex s H=>zcy) (λC a5 ex s H=>pe_cmpR op_ne (pe_dget1 (by exact aY) Rj R6 ⟨rfl,rfl,rfl,rfl⟩) Sc Sq)) zae)))
    (zag (zaq RX)) zap)))
  (zag Av),?_⟩
 have bQ:ZK e.1=e.2.1:=DV he
 have fj:=mex_is EW
 refine⟨4,rfl,Hb,Hb,zcq (lo:=0) (λi σ H'=>Aj3 (Ex1 λx3=>σ=[Tf,CL,LT,x3]) Pp (∀m:Nat,m<i→(m:Int)∈ZS hs e.1)) ⟨⟨_,rfl⟩,Keep.refl,λm hm=>absurd hm (Kl _)⟩ ?_ ?_⟩
 ·rintro i σ H1 hi ⟨⟨x3,rfl⟩,k1,dH⟩
  have L1:=L.keep k1
  have aV:=L1.rf.ro e he
  have ei:(0:Int)+(i:Int)=(i:Int):=by lia
  rw[ei]
  have cg:=L.rl e he
  refine⟨_,rfl,_,rfl,d,_,rfl,L1.rf.get he,e.2.2,rfl,⟨_,Hk aV⟩,λj m ys τ H'=>Aj5 (m=e.2.1.length-j) (j≤e.2.1.length) (Ex1 λx0=>τ=[x0,CL,Hs (.int (i:Int))]) (H'=H1) (ys=((e.2.1.take j).map λz=>!decide (B7 z=.int (i:Int))).map V.bl),
   ⟨e.2.1.length,rfl,SJ,⟨none,rfl⟩,rfl,rfl⟩,?_⟩
  rintro j m ys τ H2 ⟨rfl,hj,⟨x0,rfl⟩,rfl,rfl⟩
  by_cases ad:j<e.2.1.length
  ·refine .inr ⟨⟨_,.str e.2.1[j],Hk aV,by rw [Qo,Qd ad];rfl⟩,by rw [Qa,Qa,Zt];lia,?_⟩
   rintro v H3 ⟨rfl,hv⟩
   have aX:=hv _ (Hk aV)
   rw[Qo,Qd ad]at aX
   obtain rfl:V.str e.2.1[j]=v:=Qn aX
   have gz:=L1.hf.hf.get (Sum.inr e.2.1[j])
   refine⟨wI,u,rfl,RH ⟨_,.inl L1.hf.dc⟩,wI,_,gz,wI,?_,e.2.1.length-(j+1),Hz,rfl,ad,⟨wI⟩,rfl,?_⟩
   ·show scal (B7 e.2.1[j]) (.int (i:Int))=true
    rcases hueV_is hs e.2.1[j] with h | ⟨n,h⟩<;>rw[h]<;>rfl
   ·rw[Qi ad,Qq,Qq];rfl
  ·have hje:j=e.2.1.length:=by exact zar3 ‹_› ‹_›
   subst hje
   refine .inl ⟨⟨_,Hk aV,Rm Qa⟩,λLs hLs=>?_⟩
   rw[Qs Hx]
   refine⟨Ls,wI,TQ,wI,?_⟩
   have:=hue_us (r:=row Lb) (x:=e.1) (n:=(i:Int)) L.hf.nd
   rw[bQ]at this
   rw[this]
   have k2:Keep [] H (QA Ls (.lst ((e.2.1.map λz=>!decide (B7 z=.int (i:Int))).map V.bl))):=k1.trans (Ho hLs)
   by_cases ao:(i:Int)∈ZS hs e.1
   ·refine za7 (decide_eq_false fun z=>z ao) ⟨⟨_,rfl⟩,k2,fun m hm=>?_⟩
    rcases Nat.lt_succ_iff_lt_or_eq.mp hm with z | z
    ·exact dH m z
    ·rw[z];exact ao
   ·refine zbf (HY ao) ⟨_,rfl,?_⟩
    have hm:mex EW=i:=fj.one (λ_=>Iff.rfl) ⟨ao,dH⟩
    have:=kq _ k2
    unfold frV at this
    rw[hm,if_pos (show i<4 from hi)]at this
    exact this
 ·rintro σ H1 ⟨⟨x3,rfl⟩,k1,dH⟩
  have:=kq _ k1
  unfold frV at this
  rw[if_neg λz:mex EW<4=>fj.1 (dH _ z)]at this
  exact this
end
abbrev sLTr:Stmt:=top 60
def ndLT:(["_law_hue",qU, "_law_start"]:List Str).Nodup:=by decide +kernel
inductive IspLTr(vs:List V)(H:Hp)(Q:VK):Prop
 |mk (d u:Nc) (es:List Ent) (hs:List (Str×Int)) (e:Ent) (h0:vs=[.ref d,.ref u,.str e.1]) (h1:LOk H d u es hs) (h2:e∈es) (h3:(row (rsOf es) e.1).Nodup)
  (h8:∀(l:Nc) (as:No) (H':Hp),H' l=some Rz→VF (QC e.1)→H l=none→Keep [] H H'→Q Sy H'):IspLTr vs H Q
def spLTr:Sp:=λvs H Q _=>IspLTr vs H Q
section
variable{P:Nk}{w:Nn}{K:Na}{mg:Ng}{base:Np}
def scLTr:zaj [qR,qU,q2, "_law_found", "_law_start"] [qR,qU,q2] (zai sLTr):=fsk
def ok_ltr(F:QE "_law_tries" "_law_tries" sLTr f fd)(aG:mg "range" = none)(aB:mg "sorted" = none):ZB 1 f fd [qR,qU,q2] spLTr:=by
 refine F.okL scLTr Hn
 obtain⟨d,u,es,hs,e,rfl,L,he,aZ,kq⟩:=h
 have aY:=zb6 hr
 have ap:=sizeLine_eq
 refine⟨_,zad (Br scLTr.nd SN)
  (zad (Z4 (zas (Cy zcu (Dk zae))) (KB scLTr.nd (hx:=Or.inr rfl))
   (zag (zbn (Ch aY Sd)
    (zag (Br scLTr.nd (Vd RX (zff (M:=["_law_hue",qU, "_law_start"]) (ix:=[none,xq,Hs 4]) (mkB scLTr) rfl (U7 SY) (λC a5 ex s H=>UN ndLT)
    (λC a5 ex s H=>zci (BS R6 (Aq (by exact aY) Sc) Sq)) (λC a5 ex s H=>zbd (ZW SM)))))) zap)))
  (zag (zaq RX))),?_⟩
 have bQ:ZK e.1=e.2.1:=DV he
 have cg:=L.rl e he
 refine⟨Lq,λf0 hf0=>?_⟩
 have k1:Keep [] H (ZX f0 HL):=Keep.new hf0
 have g1:(ZX f0 HL) f0=some (Hr (([]:List Addr).map V.ref)):=zab
 generalize ZX f0 HL=H1 at k1 g1
 have L1:=L.keep k1
 refine⟨wI,wI,d,wI,L1.rf.get he,e.2.2,e.2.1,rfl,Hk (L1.rf.ro e he),λl1 ws aD ag au=>?_⟩
 have ews:ws=chH (·∈ZK e.1):=chH_eq (Ab (bQ▸aZ)) wc λy=>by rw[bQ];exact ag.mem_iff
 have dw:ws.length≤16:=by rw[ag.length_eq];exact cg
 have etr:QC e.1=(ws.filter λz=>decide (z∈hs.map (·.1))).flatMap λs=>(([0,1,2,3]:List Int).filter λo=>!decide (o=WA s)).map λo=>(s,o):=by unfold trN;rw[←ews]
 rw[etr]at kq
 have k2:Keep [] H (QK l1 Rv):=k1.trans (Ho aD)
 have g2:(QK l1 Rv) l1=some Rv:=zab
 have f2:(QK l1 Rv) f0=some (Hr (([]:List Addr).map V.ref)):=by rw[zaf (zy g1 aD)];exact g1
 generalize QK l1 Rv=H2 at k2 g2 f2
 let fm:List Str→List HS:=λS=>(S.filter λz=>decide (z∈hs.map (·.1))).flatMap λs=>(([0,1,2,3]:List Int).filter λo=>!decide (o=WA s)).map λo=>(s,o)
 refine⟨l1,rfl,⟨_,Hk g2⟩,zc3 (zs:=ws) (λi σ H'=>Ex2 λ(fo:Nc) (as:No)=>Aj6 (Ex1 λx4=>σ=[Tf,CL,LT,Hc fo,x4]) AW (H' fo=some Rz) (H fo=none) (as.length≤4*i) (VF (fm (ws.take i))))
  ⟨f0,[],⟨_,rfl⟩,Keep.refl,f2,hf0,SJ,.nil⟩ (λi σ H' _ hh=>SqL.of (by obtain⟨_,_,_,z,_⟩:=hh;exact z _ _ g2 Ha)) ?_ ?_⟩
 ·rintro i hi σ H3 ⟨fo,as,⟨x4,rfl⟩,k3,dE,ffo,aW,pa⟩
  have L3:=L.keep (Tr k3)
  have de:ws.take HN=ws.take i++[ws[i]]:=Qi hi
  generalize ws[i]=z at de
  have gz:=L3.hf.hf.get Ob
  refine⟨wI,wI,u,wI,gz,wI,?_⟩
  by_cases hk:z∈hs.map (·.1)
  ·rw [DW (DX hk)] at gz ⊢
   refine iteT ⟨_,rfl,4,rfl,Hb,Hb,?_⟩
   refine⟨λj m2 ys τ H4=>Aj5 (m2=4-j) (j≤4) (Ex1 λx0=>τ=[x0,CL,Sx z]) (Keep [] H3 H4) (Ex1 λbs:List Addr=>Aj3 (ys=bs.map V.ref) (bs.length≤j) (PSI H4 bs (((([0,1,2,3]:List Int).take j).filter λo=>!decide (o=WA z)).map λo=>(z,o)))),
    ⟨4,rfl,SJ,⟨_,rfl⟩,Keep.refl,[],rfl,SJ,.nil⟩,?_⟩
   rintro j m2 ys τ H4 ⟨rfl,hj,⟨x0,rfl⟩,k4,bs,rfl,kS,pb⟩
   by_cases be:j<4
   ·refine .inr ⟨be,by rw [Qa];lia,?_⟩
    rintro y H5 ⟨rfl,rfl⟩
    have gs:=(L3.keep k4).hf.hf.get Ob
    rw[DW (DX hk)]at gs
    have aS:=four_take be
    refine⟨wI,wI,wI,u,wI,gs,rfl,wI,?_⟩
    by_cases hb:(0:Int)+(j:Int)=WA z
    ·refine za7 (by show (!decide (V.int _=V.int _))=false;rw [Ty hb];rfl) ⟨_,Hz,rfl,be,⟨_,rfl⟩,k4,bs,rfl,Hb,?_⟩
     rw[aS,Yh,Zp (by rw[decide_eq_true hb];decide),Yz,Zs];exact pb
    ·refine zbf (by show (!decide (V.int _=V.int _))=true;rw [decide_eq_false (fun z=>hb (by injection z))];rfl) ⟨_,rfl,_,rfl,SD,fun t ht=>⟨_,Hz,rfl,be,⟨_,rfl⟩,SQ (Ho ht),bs++[t],by rw [Qq];rfl,by rw [Qw];show _+1≤_;lia,?_⟩⟩
     rw[aS,Yh,Zo (by rw[decide_eq_false hb];rfl),Yz,Qq]
     exact zax (PSI.keep pb TJ) (Sa zab)
   ·have ej:j=4:=by lia
    subst ej
    refine .inl ⟨Hx,λbl pL=>?_⟩
    have k5:Keep [] H3 (A5 bl LK):=k4.trans (Ho pL)
    have g5:(A5 bl LK) bl=some (Hr LK):=zab
    have pb5:=PSI.keep pb (Keep.new (o:=.lst LK) pL)
    generalize Q7 bl (Hr LK)=H5 at k5 g5 pb5
    refine⟨fo,bl,_,wI,rfl,xc dE Ha,g5,by rw[Qa,Qa];lia,λp hp=>?_⟩
    have k6:Keep [] H3 (wg p (as.map V.ref++bs.map V.ref)):=k5.trans (Ho hp)
    refine⟨p,as++bs,⟨wI⟩,TM k6,by rw[zab,Qq],yH ((Tr k3).trans k5) hp,HH Qw,?_⟩
    show Gd wz
    rw[de]
    show Gd (((ws.take i++[z]).filter λz=>decide (z∈hs.map (·.1))).flatMap _)
    rw[Yh,Zo OS,Yz,List.flatMap_append,List.flatMap_cons,List.flatMap_nil,Zs]
    exact zax (PSI.keep pa k6) (PSI.keep pb5 (Ho hp))
  ·rw [zes hk]
   refine iteF ⟨fo,as,⟨_,rfl⟩,k3,dE,ffo,Hb,?_⟩
   show Gd wz
   rw[de]
   show Gd (((ws.take i++[z]).filter λz=>decide (z∈hs.map (·.1))).flatMap _)
   rw[Yh,Zp OS,Yz,Zs]
   exact pa
 ·rintro σ H3 ⟨fo,as,⟨x4,rfl⟩,k3,dE,ffo,aW,pa⟩
  rw[Qa,Qs Hx]at pa
  exact⟨wI,kq fo as H3 dE pa ffo (Tr k3)⟩
end
end K21
end
section
namespace L2
open PySem PySem.Spec PyProof.Rows
def Itv(K:Na)(a:Nc)(n:Nat):It :=
 ⟨λi H=>∃xs,W0 xs∧xs.length=n∧i<n,λi H x H'=>H'=H∧∀xs,W0 xs→xs[n-1-i]?=some x,λi _=>i=n⟩
theorem turn_rev{P:Nk}{w:Nn}{K:Na}{tg:Expr}(a it:Nc)(n:Nat):BE (Ge n) [it] it (λi h=>h.IsRevIter it a ((n:Int)-1-(i:Int))) where
 mem:=by simp
 obj:=λi h st b hb=>by
  have e:b=it:=by simpa using hb
  subst e
  obtain⟨o,e,c,d⟩:=st
  exact⟨o,e,λv z=>by rw[d]at z;cases z⟩
 keep:=λi h h' st k=>st.at λo e=>k it Ha o e
 item:=by
  intro X hP hw hK hc i a5 s σ H E I hf st hg
  subst hP hw hK
  obtain⟨xs,hq,hn,hi⟩:=hg
  obtain⟨a7,rv,p,hz⟩:=I.list hq
  have hx:xs[n-1-i]?=some (xs[n-1-i]'(by lia)):=Qd _
  obtain⟨u,hu,ru⟩:=rv.get hx
  obtain⟨f0,f1,f2,f3,f4,f5⟩:=X' Ha
  have e1:(n:Int)-1-(i:Int)=((n-1-i:Nat):Int):=by lia
  have e2:((n-1-i:Nat):Int)-1=(n:Int)-1-((i+1:Nat):Int):=by lia
  rw[e1]at st
  refine wpAny_pyNext_rev_item st p.isList (x:=u) (He hu) λh' aa sb=>?_
  rw[e2]at aa
  have I1:ZA H {s with heap:=h'}:=I.turned (t':=s.toks) (λb o hb e=>(OQ hb).trans e) f0 f1 f3 f4 f5
  obtain⟨o,e,c,d⟩:=id aa
  exact⟨u,rfl,go_of (s:={s with heap:=h'}) e c d Hf ⟨_,H,I1,ru,⟨rfl,λys hy=>by rw[I.list_inj hy hq];exact hx⟩,aa,λb hb=>(Fh hb).1⟩⟩
 done:=by
  intro X hP hw hK hc i a5 s σ H E I hf st hg
  subst hP hw hK
  have hi:i=n:=hg
  subst hi
  obtain⟨f0,f1,f2,f3,f4,f5⟩:=X' Ha
  have e1:(i:Int)-1-(i:Int)=-1:=by lia
  have st:s.heap.IsRevIter it a ((i:Int)-1-(i:Int)):=st
  rw[e1]at st
  exact wpAny_pyNext_rev_end S3 st λh' eb=>⟨rfl,I.turned (t':=s.toks) (λb o hb e=>eb b o hb e) f0 f1 f3 f4 f5⟩
 self:=λ_ _ _ _ _ st h=>wpAny_pyIter_revIter st h
section
variable{X:Cx}{tg:Expr}
inductive RIv(K:Na)(x:V)(H:Hp)(R:It→Hp→Prop):Prop
 |mk (a:Nc) (xs:List V) (e:x=.ref a) (s:SqL K H a xs) (q:R (Itv K a xs.length) H):RIv K x H R
def iRev(K:Na)(tl:TE):TI:=λ σ H R=>tl σ H λx H1=>RIv K x H1 R
def pi_rev(uJ:VU "reversed")(oy:X.mg "reversed" = none)(he:Z9 e t)(h1:starEach [e] X.env=[(false,C1)]:=by rfl):UK (.Call (.Name "reversed" p2) [e] [] q2) (iRev X.K t):=by
 intro a5 s σ H R I h
 refine Call_ (MN (Wm (rest:=[]) ?_ h1 rfl))
 rw[h1]
 show ZZ _ (spliced ((false,C1)::[])) _ _ s
 refine Wx (thn RM λu s1 ⟨v,H1,I1,r1,a,xs,ev,hq,q⟩=>Ux ?_)
 subst ev
 cases r1
 obtain⟨a7,rv,pl,hz⟩:=I1.list hq
 have ae:=rv.length
 refine call_reversed_list pl.isList ?_
 refine wpAny_pyIter_revIter (l:=a) (i:=(a7.toArray.size:Int)-1) ⟨_,Ta,rfl,rfl⟩ ?_
 refine⟨s1.heap.objs.size,[s1.heap.objs.size],_,_,H1,rfl,I1.kept (t':=s1.toks) λb o e=>WN e,turn_rev a _ xs.length,?_,λb hb=>?_,q⟩
 ·have:(a7.toArray.size:Int) - 1=(xs.length:Int) - 1 - RO:=by rw [Qy,← ae];lia
  rw[←this]
  exact⟨_,Ta,rfl,rfl⟩
 have e:b=s1.heap.objs.size:=by simpa using hb
 subst e
 exact Bl TB
end
def for_revs{K:Na}{a:Nc}{zs:Nh}{g:TG}{tb:TS}{D:Ends}{σ:St}{H:Hp}(Pv:Nat→St→Hp→Prop)(h0:CI)(hl:∀i σ H,Pv i σ H→W0 RT)(hs:∀i (hi:i<zs.reverse.length) σ H,Pv i σ H→g (.str zs.reverse[i]) σ H λ σ2 H2=>tb {D with nx:=Pv HN,ct:=Pv HN,bk:=D.nx} σ2 H2)(hd:∀σ H,Pv zs.reverse.length σ H→W1 H) :
  ∃W:Nat→Nat→St→Hp→Prop,(∃m,W 0 m σ H)∧∀i m σ H,W i m σ H →
   ((Ge (zs.map V.str).length).stop i H∧W1 H)∨((Ge (zs.map V.str).length).go i H∧∃N:St→Hp→Prop,Hy∧∀x H',(Ge (zs.map V.str).length).yld i H x H'→g x σ H' λ σ2 H2=>tb {D with nx:=N,ct:=N,bk:=D.nx} σ2 H2):=by
 have bJ:zs.reverse.length=zs.length:=Jm
 refine⟨λi m σ H=>m=zs.length-i∧i≤zs.length∧Pv i σ H,⟨zs.length,Ha,SJ,h0⟩,?_⟩
 rintro i m σ H ⟨rfl,hi,p⟩
 have q:=hl i σ H p
 by_cases ad:i<zs.length
 ·refine .inr ⟨⟨_,q,rfl,by rw [Qa];exact ad⟩,Pv HN,fun σ' H' p'=>⟨zs.length - HN,Hb,rfl,ad,p'⟩,fun x H' y=>?_⟩
  obtain⟨e,y⟩:=y
  subst e
  have:=y _ q
  rw[Qa,Qo,Qd Hb]at this
  have ex:x=.str (zs.reverse[i]'(by lia)):=by
   rw[List.getElem_reverse]
   exact(Qn this).symm
  subst ex
  exact hs i Hb σ _ p
 ·have e:i=zs.length:=by lia
  subst e
  exact .inl ⟨by show zs.length=(zs.map V.str).length;rw[Qa],hd σ H (Hl bJ p)⟩
end L2
end
section
namespace K21
open PySem L2 Wb
abbrev sLOn:Stmt:=top 62
abbrev qC:Str := "_law_count"
def CnAt(H:Hp)(a:Nc)(c M:Nat):Prop:=H a=some (.lst [.int (c:Int),.int (M:Int)])
inductive LRes(B H:Hp)(hs:List (Str×Int))(R:Option (List Swap))(v:V):Prop
 |no (h0:R=none) (h1:v=.non):LRes B H hs R v
 |yes (t u l:Nc) (L:List Swap) (h0:R=some L) (h1:v=.ref t) (h2:H t=some (.tup [.ref u,.ref l])) (h3:HAt H u (L.foldl exN hs)) (h5:zc1 B H l L):LRes B H hs R v
theorem zij:∀{as:No} {qs:List HS},PSI H as qs→∀{i:Nat} {v:V},(as.map V.ref)[i]?=some v→∃a q,v=.ref a∧qs[i]?=some q∧H a=some (.tup [Oc,PM])
 |_,_,.nil,i,v,h=>by simp at h
 |a::as,q::qs,.cons h t,i,v,e=>by
  cases i with
  |zero=>exact⟨a,q,(Qn e).symm,rfl,h⟩
  |succ i=>exact zij t (i:=i) e
def LOk.ex(L:Vn hs)(h:B5 u' (Z8 w'))(k:Rl H):LOk H' d u' es (Z8 w'):=⟨L.rf.keep k,h,L.few,L.rl,L.cl,λx hx=>L.hk x (by rw[ze6]at hx;exact hx)⟩
def LOk.len(L:Vn hs):hs.length≤16:=by
 have:=zb9 L.hf.nd L.hk
 rw[Qa,Qa]at this
 exact Zg this L.few
inductive IspLOn(vs:List V)(H:Hp)(Q:VK):Prop
 |mk (d u cl:Nc) (es:List Ent) (hs:List (Str×Int)) (e:Ent) (c M:Nat) (h0:vs=[.ref d,.ref u,.str e.1,.ref cl]) (h1:LOk H d u es hs) (h2:e∈es) (h3:(row (rsOf es) e.1).Nodup) (h4:CnAt H cl c M) (h5:c≤M) (h6:∀e∈es,e.2.2≠cl)
  (h8:∀(v:V) (H':Hp),B9 (c+(ZY (M-c)).2) M→LRes H H' hs (ZY (M-c)).1 v→Keep [cl] H H'→Q v H'):IspLOn vs H Q
def spLOn:Sp:=λvs H Q _=>IspLOn vs H Q
section
variable{P:Nk}{w:Nn}{K:Na}{mg:Ng}{base:Np}
def scLOn:zaj [qR,qU,q2,qC,q1, "_law_then"] [qR,qU,q2,qC] (zai sLOn):=fsk
def ok_lon(F:QE "_law_one" "_law_one" sLOn f fd)(GT:ZF "_law_tries" [qR,qU,q2] 1 spLTr)(GU:ZF "_law_turned" [qR,qU,q1] 2 spLTu)(GF:ZF "_law_free" [qR,qU,q2] 1 spLFr)(GS:ZF "_law_swap" [qR,qU,q1] 2 spLSw):ZB 3 f fd [qR,qU,q2,qC] spLOn:=by
 refine F.okL scLOn Hn
 obtain⟨d,u,cl,es,hs,e,c,M,rfl,L,he,aZ,hc,hcM,fA,kq⟩:=h
 have ai:BJ _:=hr.mono Hf
 have ap:=sizeLine_eq
 have i0:∀x y:V,atI [x,y] RO=some x:=λx y=>zaw rfl
 have i1:∀x y:V,atI [x,y] ((1:Nat):Int)=some y:=λx y=>zaw rfl
 refine⟨_,zad (Z4 xm (KB scLOn.nd)
   (zad SK
   (zad Cu
   (zad (XR scLOn.nd (GY (Ev SO)))
   (zag (zbn (ER (VD (ZM wp)))
    (zag (Cp (QG (Rx (za8 (K1 zae)))))) zap))))))
  (zag Av),?_⟩
 refine⟨wI,wI,wI,d,u,es,hs,e,rfl,L,he,aZ,λtl as H1 jO ps ftl k1=>?_⟩
 have ntl:tl≠cl:=λz=>by rw[z,hc]at ftl;cases ftl
 have aQ:CnAt H1 cl c M:=k1 _ _ hc Ha
 have L1:=L.keep k1
 have pV:∀q∈QC e.1,q.1∈hs.map (·.1):=λq hq=>(zfm hq).1
 have lQ:ZY (M-c)=goB ((QC e.1).map λq _=>(if mex CU<4 then some [EV] else none,0)) (M-c) 0:=rfl
 have gc:(as.map V.ref).length=(QC e.1).length:=by rw[Qa];exact Zy ps
 refine⟨tl,rfl,⟨_,Hk jO⟩,zbc (xs:=as.map V.ref) (λi σ H'=>Ex1 λ(s:Nat)=>Aj5 (Ex2 λx4 x5=>σ=[Tf,CL,LT,Hc cl,x4,x5]) (Keep [cl] H1 H') (s≤M-c) (B9 (c+s) M) (ZY (M-c)=goB (((QC e.1).drop i).map λq _=>(if mex CU<4 then some [EV] else none,0)) (M-c) s))
  ⟨0,⟨_,_,rfl⟩,Keep.refl,SJ,aQ,Hl Jz lQ⟩ (λi σ H' _ hh=>SqL.of (by obtain⟨_,_,z,_⟩:=hh;exact z _ _ jO (He ntl))) ?_ ?_⟩
 ·rintro i v σ H2 hv ⟨s,⟨x4,x5,rfl⟩,k2,bY,bq,ho⟩
  obtain⟨a,q,rfl,hq,pQ⟩:=zij ps hv
  have o0:=Yd hq
  obtain⟨hi,tY⟩:=Qx.mp hq
  rw[Zv hi,tY]at ho
  have L2:=L1.wr k2 aQ fA
  have kZ:=k2 _ _ pQ (by simpa using za1 pQ aQ Hg)
  have lB:Keep [cl] H H2:=(k1.sub Ha).trans k2
  refine⟨wI,cl,_,_,wI,rfl,Hk bq,LX,wI,cl,_,_,wI,rfl,Hk bq,Ld,rfl,wI,?_⟩
  by_cases cV:s=M-c
  ·refine zbf (Ty Hb) ?_
   have e1:ZY (M-c)=(none,s):=by rw[ho,cV];exact zeq _ _
   exact kq .non H2 PN (.no (by rw[e1]) rfl) lB
  ·refine za7 (decide_eq_false fun z=>cV (by injection z with z;lia)) ?_
   refine⟨wI,cl,_,_,wI,rfl,Hk bq,LX,_,wI,rfl,wI,cl,_,0,0,rfl,rfl,bq,rfl,?_⟩
   have ec:((c+s:Nat):Int)+1=((c+(s+1):Nat):Int):=by lia
   have k3:Keep [cl] H1 Ep:=k2.trans SX
   have kQ:CnAt Ep cl (c+(s+1)) M:=by unfold CnAt;rw[zab,ec]
   have hZ:(QA cl HG) a=some (.tup [Oc,PM]):=by rw[zaf (za1 kZ bq Hg)];exact kZ
   show B8 Ep
   generalize QA cl HG=H3 at k3 kQ hZ
   have L3:=L1.wr k3 aQ fA
   refine⟨wI,wI,wI,d,u,a,es,hs,q,rfl,L3,hZ,pV q o0,L.len,λu4 H4 oS fu4 k4=>?_⟩
   have L4:LOk H4 d u4 es Sz:=L3.ex oS k4
   refine⟨wI,wI,wI,d,u4,es,_,e,rfl,L4,he,λH5 k5=>⟨_,rfl,?_⟩⟩
   have lE:Keep [cl] H1 H5:=(TM Oz).trans Cq
   have ju:MG (c+(s+1)) M:=k5 _ _ (k4 _ _ kQ Ha) Ha
   unfold frV
   by_cases hx:mex CU<4
   ·rw [Si hx]
    refine W8 ?_
    have e1:ZY (M-c)=(some [EV],s+1):=by
     rw[ho]
     exact zea (n:=0) (a:=[EV]) cV (Wj (Si hx) rfl)
    have L5:=L3.keep wu
    have rF:=(SQ k5) _ _ hZ Ha
    refine⟨wI,wI,wI,wI,d,u,a,es,hs,q,rfl,L5,rF,pV q o0,λsw H6 sw6 k6=>⟨EM,λl7 bd=>⟨SD,λt8 df=>?_⟩⟩⟩
    have sP:Keep [cl] H1 H6:=lE.trans LW
    have kf:=λ(H':Hp) (kk:Rl H6)=>((k1.sub Ha).trans sP).trans (kk.sub (xs:=[]) (ys:=[cl]) Ha)
    have qA:Keep [] H6 (upd (WD l7 (.lst [Hi sw])) t8 (.tup [Hi u4,Hi l7])):=(Ho bd).trans (Ho df)
    have fr:∀x,H5 x=none→H x=none:=λx hx=>by
     have h1:=Ga hx Ha
     by_cases j6:x=cl
     ·rw[j6,kQ]at h1;cases h1
     ·exact zao ((k1.sub (ys:=[cl]) Ha).trans k3) h1 (He j6)
    have fl7:H5 l7=none:=zao k6 bd Ha
    refine kq _ _ (by rw[e1];exact qA _ _ (k6 _ _ ju Ha) Ha) (.yes t8 u4 l7 [EV] (by rw[e1]) rfl zab ((oS.keep (CA k6) Ha).keep qA Ha) ⟨[sw],fr _ fl7,?_,Sa ((sw6.keep qA).ol fr)⟩) (kf _ qA)
    rw[zaf (zac (o:=.lst [Hi sw]) zab df)];exact zab
   ·rw [yJ]
    refine WG ⟨s+1,⟨_,_,rfl⟩,lE,Hb,ju,?_⟩
    rw[ho]
    exact zeb (n:=0) cV (Wj yJ rfl)
 ·rintro σ H2 ⟨s,⟨x4,x5,rfl⟩,k2,bY,bq,ho⟩
  rw[gc,Yv Hx]at ho
  have e1:ZY (M-c)=(none,s):=ho
  exact kq .non H2 PN (.no (by rw[e1]) rfl) ((k1.sub Ha).trans k2)
end
abbrev sLTw:Stmt:=top 63
inductive IspLTw(vs:List V)(H:Hp)(Q:VK):Prop
 |mk (d u cl:Nc) (es:List Ent) (hs:List (Str×Int)) (e:Ent) (c M:Nat) (h0:vs=[.ref d,.ref u,.str e.1,.ref cl]) (h1:LOk H d u es hs) (h2:e∈es) (h3:(row (rsOf es) e.1).Nodup) (h4:CnAt H cl c M) (h5:c≤M) (h6:∀e∈es,e.2.2≠cl)
  (h8:∀(v:V) (H':Hp),B9 (c+(Z5 (M-c)).2) M→LRes H H' hs (Z5 (M-c)).1 v→Keep [cl] H H'→Q v H'):IspLTw vs H Q
def spLTw:Sp:=λvs H Q _=>IspLTw vs H Q
section
variable{P:Nk}{w:Nn}{K:Na}{mg:Ng}{base:Np}
def scLTw:zaj [qR,qU,q2,qC,q1, "_law_then",qO, "_law_beyond"] [qR,qU,q2,qC] (zai sLTw):=fsk
def ok_ltw(F:QE "_law_two" "_law_two" sLTw f fd)(GT:ZF "_law_tries" [qR,qU,q2] 1 spLTr)(GU:ZF "_law_turned" [qR,qU,q1] 2 spLTu)(GF:ZF "_law_free" [qR,qU,q2] 1 spLFr)(GS:ZF "_law_swap" [qR,qU,q1] 2 spLSw):ZB 3 f fd [qR,qU,q2,qC] spLTw:=by
 refine F.okL scLTw Hn
 obtain⟨d,u,cl,es,hs,e,c,M,rfl,L,he,aZ,hc,hcM,fA,kq⟩:=h
 have ai:BJ _:=hr.mono Hf
 have ap:=sizeLine_eq
 have i0:∀x y:V,atI [x,y] RO=some x:=λx y=>zaw rfl
 have i1:∀x y:V,atI [x,y] ((1:Nat):Int)=some y:=λx y=>zaw rfl
 refine⟨_,zad (Z4 xm (KB scLTw.nd)
   (zad SK
   (zad Cu
   (zad (XR scLTw.nd (GY (Ev SO)))
   (zag (Z4 (IP (QO (ZM wp))) (XC scLTw.nd)
    (zad SK
    (zad Cu
    (zad (Nz scLTw.nd (GY (ZM wj)))
    (zag (zbn (ER (VD (ZM (U6 Sn))))
     (zag (Cp (U6 (zaa (za8 (K1 (Rx (VG (ZM wj))))) zae)))) zap)))))))))))
  (zag Av),?_⟩
 generalize bj:row Lb=r at aZ kq
 refine⟨wI,wI,wI,d,u,es,hs,e,rfl,L,he,bj▸aZ,λtl as H1 jO ps ftl k1=>?_⟩
 rw[bj]at ps
 have ntl:tl≠cl:=λz=>by rw[z,hc]at ftl;cases ftl
 have aQ:CnAt H1 cl c M:=k1 _ _ hc Ha
 have L1:=L.keep k1
 have pV:∀q∈JK e.1,q.1∈hs.map (·.1):=λq hq=>(zfm hq).1
 let gt:Str×Int→Nat→Option CT×Nat:=λq b=>((ZU e.1 b).1.map (swN r hs q::·),(ZU e.1 b).2)
 have gc:(as.map V.ref).length=(JK e.1).length:=by rw[Qa];exact Zy ps
 have vh:∀{H':Hp},Keep [cl] H1 H'→(∃y,H' cl=some y)→∀x,H' x=none→H x=none:=λ{H'} kk hy x hx=>by
  by_cases j6:x=cl
  ·obtain ⟨y,hy⟩:=hy
   rw[j6,hy]at hx;cases hx
  ·exact zao ((k1.sub (ys:=[cl]) Ha).trans kk) hx (He j6)
 refine⟨tl,rfl,⟨_,Hk jO⟩,zbc (xs:=as.map V.ref) (λi σ H'=>Ex1 λ(s:Nat)=>Aj5 (Ex4 λx4 x5 x6 x7=>σ=[Tf,CL,LT,Hc cl,x4,x5,x6,x7]) (Keep [cl] H1 H') (s≤M-c) (B9 (c+s) M) (WB e.1 (M-c)=goB (((JK e.1).drop i).map gt) (M-c) s))
  ⟨0,⟨_,_,_,_,rfl⟩,Keep.refl,SJ,aQ,by rw[Jz];rfl⟩ (λi σ H' _ hh=>SqL.of (by obtain⟨_,_,z,_⟩:=hh;exact z _ _ jO (He ntl))) ?_ ?_⟩
 ·rintro i v σ H2 hv ⟨s,⟨x4,x5,x6,x7,rfl⟩,k2,bY,bq,ho⟩
  obtain⟨a,q,rfl,hq,pQ⟩:=zij ps hv
  have o0:=Yd hq
  obtain⟨hi,tY⟩:=Qx.mp hq
  rw[Zv hi,tY]at ho
  have kZ:=k2 _ _ pQ (by simpa using za1 pQ aQ Hg)
  have lB:Keep [cl] H H2:=(k1.sub Ha).trans k2
  refine⟨wI,cl,_,_,wI,rfl,Hk bq,LX,wI,cl,_,_,wI,rfl,Hk bq,Ld,rfl,wI,?_⟩
  by_cases cV:s=M-c
  ·refine zbf (Ty Hb) ?_
   have e1:WB e.1 (M-c)=(none,s):=by rw[ho,cV];exact zeq _ _
   exact kq .non H2 PN (.no (by rw[e1]) rfl) lB
  ·refine za7 (decide_eq_false fun z=>cV (by injection z with z;lia)) ?_
   refine⟨wI,cl,_,_,wI,rfl,Hk bq,LX,_,wI,rfl,wI,cl,_,0,0,rfl,rfl,bq,rfl,?_⟩
   have ec:((c+s:Nat):Int)+1=((c+(s+1):Nat):Int):=by lia
   have k3:Keep [cl] H1 Ep:=k2.trans SX
   have kQ:CnAt Ep cl (c+(s+1)) M:=by unfold CnAt;rw[zab,ec]
   have hZ:(QA cl HG) a=some (.tup [Oc,PM]):=by rw[zaf (za1 kZ bq Hg)];exact kZ
   show B8 Ep
   generalize QA cl HG=H3 at k3 kQ hZ
   have L3:=L1.wr k3 aQ fA
   refine⟨wI,wI,wI,d,u,a,es,hs,q,rfl,L3,hZ,pV q o0,L.len,λu4 H4 oS fu4 k4=>?_⟩
   rw[bj]at oS
   have L4:LOk H4 d u4 es S5:=L3.ex oS k4
   have hkx:(Z8 Ae).map (·.1)=hs.map (·.1):=ze6 ..
   obtain⟨b,hb⟩:∃b,b=M-c-s-1:=⟨_,rfl⟩
   have hgt:gt q (M-c-s-1)=((ZU e.1 b).1.map (swN r hs q::·),(ZU e.1 b).2):=by rw[hb]
   have tw_s:∀L' n,ZU e.1 b=(Hs L',n)→WB e.1 (M-c)=(some (swN r hs q::L'),s+1+n):=λL' n z=>by
    rw[ho]
    exact zea (n:=n) (a:=Z2 q::L') cV (by rw[hgt,z];rfl)
   have tw_n:∀n,ZU e.1 b=(none,n)→WB e.1 (M-c)=goB (((JK e.1).drop HN).map gt) (M-c) (s+1+n):=λn z=>by
    rw[ho]
    exact zeb (n:=n) cV (by rw[hgt,z];rfl)
   refine⟨wI,wI,wI,d,u4,es,_,e,rfl,L4,he,bj▸aZ,λtl5 bs H5 nH ss qd k5=>?_⟩
   rw[bj]at ss
   have ju:MG (c+(s+1)) M:=k5 _ _ (k4 _ _ kQ Ha) Ha
   have sD:tl5≠cl:=λz=>by rw[z,k4 _ _ kQ Ha]at qd;cases qd
   have L5:=L4.keep k5
   have LL5:=L3.keep wu
   have rF:=(SQ k5) _ _ hZ Ha
   have lE:Keep [cl] H1 H5:=(TM Oz).trans Cq
   have pU:∀q'∈Vp e.1,q'.1∈(Z8 Ae).map (·.1):=λq' cw=>(zfm cw).1
   have oC:(bs.map V.ref).length=(Vp e.1).length:=by rw[Qa];exact Zy ss
   let go1:Str×Int→Nat→Option CT×Nat:=λq' _=>(if mex (Y4 (V4 Er) e.1)<4 then some [Er] else none,0)
   refine⟨tl5,rfl,⟨_,Hk nH⟩,zbc (xs:=bs.map V.ref) (λj σ H'=>Ex1 λ(s2:Nat)=>Aj5 (Ex2 λx6 x7=>σ=[Tf,CL,LT,Hc cl,Hc a,Hc u4,x6,x7]) (Keep [cl] H5 H') (s2≤b) (B9 (c+(s+1)+s2) M) (ZU e.1 b=goB (((Vp e.1).drop j).map go1) b s2))
    ⟨0,⟨_,_,rfl⟩,Keep.refl,SJ,ju,by rw[Jz];rfl⟩ (λj σ H' _ hh=>SqL.of (by obtain⟨_,_,z,_⟩:=hh;exact z _ _ nH (He sD))) ?_ ?_⟩
   ·rintro j v σ H6 aX ⟨s2,⟨x6,x7,rfl⟩,k6,cv,dG,dA⟩
    obtain⟨a',q',rfl,cw,pP⟩:=zij ss aX
    have nZ:=Yd cw
    obtain⟨hj,hqj⟩:=Qx.mp cw
    rw[Zv hj,hqj]at dA
    have ha6:=k6 _ _ pP (by simpa using za1 pP ju Hg)
    have sP:Keep [cl] H1 H6:=lE.trans k6
    refine⟨wI,cl,_,_,wI,rfl,Hk dG,LX,wI,cl,_,_,wI,rfl,Hk dG,Ld,rfl,wI,?_⟩
    by_cases iu:s2=b
    ·refine zbf (Ty Hb) ?_
     have e2:ZU e.1 b=(none,b):=by rw[dA,iu];exact zeq _ _
     have e1:WB e.1 (M-c)=(none,M-c):=by
      rw[tw_n b e2,show s+1+b=M-c by lia];exact zeq _ _
     exact kq .non H6 (by rw[e1,show c+(M-c)=c+(s+1)+s2 by lia];exact dG) (.no (by rw[e1]) rfl) ((k1.sub Ha).trans sP)
    ·refine za7 (decide_eq_false fun z=>iu (by injection z with z;lia)) ?_
     refine⟨wI,cl,_,_,wI,rfl,Hk dG,LX,_,wI,rfl,wI,cl,_,0,0,rfl,rfl,dG,rfl,?_⟩
     have ec2:((c+(s+1)+s2:Nat):Int)+1=((c+(s+1)+(s2+1):Nat):Int):=by lia
     have k7:Keep [cl] H5 (WD cl (.lst [HM (((c+(s+1)+s2:Nat):Int)+1),.int (M:Int)])):=k6.trans SX
     have hc7:CnAt (WD cl (.lst [HM (((c+(s+1)+s2:Nat):Int)+1),.int (M:Int)])) cl (c+(s+1)+(s2+1)) M:=by unfold CnAt;rw[zab,ec2]
     have v4:(WD cl (.lst [HM (((c+(s+1)+s2:Nat):Int)+1),.int (M:Int)])) a'=some (.tup [.str q'.1,.int q'.2]):=by rw[zaf (za1 ha6 dG Hg)];exact ha6
     show B8 (WD cl (.lst [HM (((c+(s+1)+s2:Nat):Int)+1),.int (M:Int)]))
     generalize WD cl (.lst [HM (((c+(s+1)+s2:Nat):Int)+1),.int (M:Int)])=H7 at k7 hc7 v4
     have L7:=L5.wr k7 ju fA
     have LL7:=LL5.wr k7 ju fA
     have v3:=k7 _ _ rF (by simpa using za1 rF ju Hg)
     have sO:Keep [cl] H1 H7:=lE.trans k7
     refine⟨wI,wI,wI,d,u4,a',es,_,q',rfl,L7,v4,pU q' nZ,L7.len,λu8 H8 uE fu8 k8=>?_⟩
     rw[bj]at uE
     have L8:LOk H8 d u8 es (V4 Er):=L7.ex uE k8
     refine⟨wI,wI,wI,d,u8,es,_,e,rfl,L8,he,λH9 k9=>⟨_,rfl,?_⟩⟩
     rw[bj]
     have ic:=k8.trans k9
     have rD:CnAt H9 cl (c+(s+1)+(s2+1)) M:=ic _ _ hc7 Ha
     unfold frV
     by_cases hx:mex (Y4 (V4 Er) e.1)<4
     ·rw [Si hx]
      refine W8 ?_
      have e2:ZU e.1 b=(some [Er],s2+1):=by
       rw[dA]
       exact zea (n:=0) (a:=[Er]) iu (Wj (Si hx) rfl)
      have e1:=tw_s _ _ e2
      refine⟨wI,wI,wI,wI,d,u,a,es,hs,q,rfl,LL7.keep ic,ic _ _ v3 Ha,pV q o0,λsj HA swA kA=>?_⟩
      rw[bj]at swA
      refine⟨wI,wI,wI,d,u4,a',es,_,q',rfl,(L7.keep ic).keep kA,(ic.trans kA) _ _ v4 Ha,pU q' nZ,λsi HB swB kB=>⟨SD,λlC hlC=>⟨SD,λtD htD=>?_⟩⟩⟩
      rw[bj]at swB
      have kBD:Keep [] HB (upd (upd HB lC (.lst [Hi sj,Hi si])) tD (.tup [Hi u8,Hi lC])):=(Ho hlC).trans (Ho htD)
      have k1B:Keep [cl] H1 HB:=(sO.trans OD).trans ((kA.trans kB).sub Ha)
      have hcB:CnAt HB cl (c+(s+1)+(s2+1)) M:=(kA.trans kB) _ _ rD Ha
      have fr9:∀x,H9 x=none→H x=none:=vh (sO.trans OD) ⟨_,rD⟩
      have frA:∀x,HA x=none→H x=none:=vh ((sO.trans OD).trans (kA.sub Ha)) ⟨_,kA _ _ rD Ha⟩
      have flC:=vh k1B ⟨_,hcB⟩ lC hlC
      refine kq _ _ (by rw[e1,show c+(s+1+(s2+1))=c+(s+1)+(s2+1) by lia];exact kBD _ _ hcB Ha) (.yes tD u8 lC [Ae,Er] (by rw[e1]) rfl zab ((uE.keep ((k9.trans kA).trans kB) Ha).keep kBD Ha) ⟨[sj,si],flC,?_,Oh (((swA.keep kB).keep kBD).ol fr9) (Sa ((swB.keep kBD).ol frA))⟩) ((k1.sub Ha).trans (k1B.trans (kBD.sub Ha)))
      rw[zaf (zac (o:=.lst [Hi sj,Hi si]) zab htD)];exact zab
     ·rw [yJ]
      refine WG ⟨s2+1,⟨_,_,rfl⟩,k7.trans OD,Hb,rD,?_⟩
      rw[dA]
      exact zeb (n:=0) iu (Wj yJ rfl)
   ·rintro σ H6 ⟨s2,⟨x6,x7,rfl⟩,k6,cv,dG,dA⟩
    rw[oC,Yv Hx]at dA
    have e2:ZU e.1 b=(none,s2):=dA
    refine⟨s+1+s2,⟨_,_,_,wI⟩,lE.trans k6,Hb,by rw[show c+(s+1+s2)=c+(s+1)+s2 by lia];exact dG,tw_n s2 e2⟩
 ·rintro σ H2 ⟨s,⟨x4,x5,x6,x7,rfl⟩,k2,bY,bq,ho⟩
  rw[gc,Yv Hx]at ho
  have e1:WB e.1 (M-c)=(none,s):=ho
  exact kq .non H2 PN (.no (by rw[e1]) rfl) ((k1.sub Ha).trans k2)
end
abbrev sLDu:Stmt:=top 64
def _root_.L2.joinR(P:St→Hp→Prop)(h:∀D':Ends,D'.rt=D.rt→(∀σ H,P σ H→D'.nx σ H)→t D' σ H)(hD:∀σ H,P σ H→u D σ H):tSeq t u D σ H:=h {D with nx:=u D} rfl hD
def HAt.cp(h:Dg hs):HAt (TC b RD) b hs:=⟨zab,h.nd⟩
inductive IspLDu(vs:List V)(H:Hp)(Q:VK):Prop
 |mk (d:Nc) (es:List Ent) (m:Nat) (h0:vs=[.ref d,.int (m:Int)]) (h1:RF H d es) (h2:es.length≤16) (h3:∀e∈es,e.2.1.length≤16) (h4:∀z y,y∈row (rsOf es) z→y∈es.map (·.1)) (h5:∀y,(row (rsOf es) y).Nodup)
  (h8:∀(t:Nc) (T:Nh) (H':Hp),zcv (es.map (·.1)) RI T→MF (WE T.reverse [] m 0)→Keep [] H H'→Q Ll H'):IspLDu vs H Q
def spLDu:Sp:=λvs H Q _=>IspLDu vs H Q
section
variable{P:Nk}{w:Nn}{K:Na}{mg:Ng}{base:Np}
def zgc:zaj [qR, "_law_most",qU, "_law_paper",qC,q2, "_law_swaps", "_law_found"] [qR, "_law_most"] (zai sLDu):=fsk
def ok_ldu(F:QE "_law_due" "_law_due" sLDu f fd)(GO:ZF "_law_order" [qR] 1 spLOrd)(GF:ZF "_law_free" [qR,qU,q2] 1 spLFr)(G1:ZF "_law_one" [qR,qU,q2,qC] 3 spLOn)(G2:ZF "_law_two" [qR,qU,q2,qC] 3 spLTw)(jT:mg "reversed" = none)(aI:mg "dict" = none):ZB 4 f fd [qR, "_law_most"] spLDu:=by
 refine F.okL zgc Hn
 obtain⟨d,es,m,rfl,R,aH,cg,bE,aZ,kq⟩:=h
 have ai:BJ _:=hr.mono Hf
 have aY:=zb6 hr
 have ap:=sizeLine_eq
 have i0:∀x y:V,atI [x,y] RO=some x:=λx y=>zaw rfl
 refine⟨_,zad (Ve zgc.nd zd7)
  (zad (Br zgc.nd SN)
  (zad (Bb zgc.nd (za8 (Q4 SH)))
  (zad (Z4 (pi_rev rfl jT (Dm ai SM)) (XB zgc.nd)
   (zad (M9 zgc.nd SN)
   (zad (zbn (zbw (pc_isN wA))
    (zad (OJ G1)
    (zad (MO (zag (OJ G2)) zap)
    (zad (MO (zag (Cp (Da (Rx (S9 Pu zah))))) zap)
    (zag (zcz En (Cv (Ms zgc.nd) (TH (XC zgc.nd)))))))) zap)
   (zad (Ve zgc.nd (OB Sn))
   (zad (zb5 aY Sc So wA rfl)
   (zag (Cz RX (Rx (zbd (QG (zaa (XW zq (pv 5)) Cl)))))))))))
  (zag (Cp (QB (Rx (S9 Pu zah)))))))),?_⟩
 refine λu0 iq=>⟨Lq,λpl ba=>?_⟩
 refine⟨wI,SD,λcl iO=>?_⟩
 have k1:Keep [] H (upd S4 cl (.lst [HM 0,.int (m:Int)])):=((Ho iq).trans (Ho ba)).trans (Ho iO)
 have npu:u0≠pl:=zac (o:=.dK []) zab ba
 have ncp:pl≠cl:=zac (o:=.lst []) zab iO
 have ncu:u0≠cl:=zac (H:=upd (ZX u0 RQ) pl HL) (o:=.dK []) (Ht npu zab) iO
 have g1:(upd S4 cl (.lst [HM 0,.int (m:Int)])) pl=some (Hr (([]:List Addr).map V.ref)):=by rw[zaf ncp];exact zab
 have h1:HAt (upd S4 cl (.lst [HM 0,.int (m:Int)])) u0 []:=⟨by rw[zaf ncu,zaf npu];exact zab,Zn⟩
 have c1:CnAt (upd S4 cl (.lst [HM 0,.int (m:Int)])) cl 0 m:=zab
 have fpl:H pl=none:=zao (xs:=[]) (Ho iq) ba Ha
 have fcl:H cl=none:=zao (xs:=[]) ((Ho iq).trans (Ho ba)) iO Ha
 show B8 (upd S4 cl (.lst [HM 0,.int (m:Int)]))
 generalize upd S4 cl (.lst [HM 0,.int (m:Int)])=H1 at k1 g1 h1 c1
 refine⟨wI,d,es,rfl,R.keep k1,Zg aH Hf,λe he=>Zg (cg e he) Hf,bE,λol T H2 kh O fol k2=>⟨ol,_,rfl,Hk kh,?_⟩⟩
 have nop:ol≠pl:=λz=>by rw[z,g1]at fol;cases fol
 have noc:ol≠cl:=λz=>by rw[z,c1]at fol;cases fol
 have g2:=k2 _ _ g1 Ha
 have c2:CnAt H2 cl 0 m:=k2 _ _ c1 Ha
 have rH:T.reverse.Nodup:=(Ja T).nodup_iff.mpr O.nd
 have mf:∀y∈T.reverse,y∈es.map (·.1):=λy hy=>O.pm.mem_iff.mp Af
 have hRl:T.reverse.length≤16:=by
  rw[Jm,O.pm.length_eq,Qa];exact aH
 have hep:∀e∈es,e.2.2≠pl:=λe he=>V2 fpl
 have fA:∀e∈es,e.2.2≠cl:=λe he=>V2 fcl
 generalize bj:row Lb=r at bE aZ kq O
 have kH:∀{H':Hp},Keep [pl,cl] H2 H'→Keep [] H H':=λkk c o ec _=>kk c o (E7 LJ) (by simp;exact⟨WM fpl,WM fcl⟩)
 have RK:∀{H':Hp},Keep [pl,cl] H2 H'→RF H' d es:=λkk=>R.keep (kH kk)
 have fin:∀(t:Nc) (H':Hp),MF (J9 [] m 0)→Keep [] H H'→Q Ll H':=λt H' p k=>kq t T H' O p k
 have rR:∀{H':Hp},Keep [pl,cl] H2 H'→(∃y,H' cl=some y)→(∃y,H' pl=some y)→∀x,H' x=none→H2 x=none:=λ{H'} kk hy hy2 x hx=>by
  by_cases j6:x=cl
  ·obtain⟨y,hy⟩:=hy;rw[j6,hy]at hx;cases hx
  by_cases fM:x=pl
  ·obtain⟨y,hy⟩:=hy2;rw[fM,hy]at hx;cases hx
  exact zao kk hx (by simp;exact⟨fM,j6⟩)
 refine for_revs (zs:=T) (λi σ H'=>Ex5 λ(u:Nc) (s:Nat) (hs:List HS) (as:No) (Pd:List Step)=>Aj9 (as.length=i) (Ex3 λx5 x6 x7=>σ=[Tf,Hs (.int (m:Int)),CL,Hc pl,Hc cl,x5,x6,x7]) (Keep [pl,cl] H2 H') (Aj2 (s≤m) (B9 s m)) (B5 u hs) (hs.map (·.1)=T.reverse.take i) (H' pl=some Rz) (yF (Mc H') Pd) (J9 [] m 0=((VP s).1.map (Pd++·),(VP s).2)))
  ⟨u0,0,[],[],[],rfl,⟨_,_,_,rfl⟩,Keep.refl,⟨SJ,c2⟩,h1.keep k2 Ha,rfl,g2,.nil,?_⟩ (λi σ H' hh=>SqL.of (by obtain⟨_,_,_,_,_,_,_,z,_⟩:=hh;exact z _ _ kh (by simp;exact⟨nop,noc⟩))) ?_ ?_
 ·rw [Jz]
  refine Wj ?_ rfl
  show _=Option.map (λx=>[]++x) _
  cases(J9 [] m 0).1<;>rfl
 ·rintro i hi σ H3 ⟨u,s,hs,as,Pd,aW,⟨x5,x6,x7,rfl⟩,k3,⟨cV,c3⟩,h3,bf,iz,lw,ei⟩
  have hx:T.reverse[i]∉hs.map (·.1):=by rw[bf];exact zcj rH hi
  have oF:∀y∈hs.map (·.1),y∈es.map (·.1):=λy hy=>mf y (Ut (bf▸hy))
  have tk:T.reverse.take HN=T.reverse.take i++[T.reverse[i]]:=Qi hi
  rw[Zv hi]at ei
  obtain⟨e,he,ee⟩:=Qf.mp (mf _ IT)
  have mt:e.1=T.reverse[i]:=ee
  rw[←mt]at hx tk ei ⊢
  have aV:(r e.1).length≤16:=by rw[←bj,zay R.nd he];exact cg e he
  show tSeq (tAsg (tLst tNil) (zer 6)) _ _ _ _
  refine zgt (λ σ' H'=>Ex1 λsl=>Aj3 (σ'=[Tf,Hs (.int (m:Int)),CL,Hc pl,Hc cl,LT,Hc sl,x7]) (H3 sl=none) (H'=QS sl HL)) (λD' bA=>⟨Lq,λsl dy=>bA _ _ ⟨sl,rfl,dy,rfl⟩⟩) ?_
  rintro σ' H' ⟨sl,rfl,dy,rfl⟩
  dsimp only
  have k4:Keep [pl,cl] H2 xn:=k3.trans (Ho dy)
  have s4:zc1 H2 xn sl []:=⟨[],rR k3 ⟨_,c3⟩ ⟨_,iz⟩ sl dy,zab,.nil⟩
  have n4:Keep [] H3 xn:=Keep.new dy
  generalize QS sl HL=H4 at k4 s4 n4
  have c4:CnAt H4 cl s m:=n4 _ _ c3 Ha
  have h4:=h3.keep n4 Ha
  have qr:=n4 _ _ iz Ha
  have mQ:Paired (Mc H4) as Pd:=Paired.imp' (λ_ _ z=>z.keep n4) lw
  have L4:LOk H4 d u es hs:=⟨RK k4,h4,aH,cg,bj▸bE,oF⟩
  have cY:=fs_le (hs:=hs) (m:=m-s) aV
  refine joinR (λ σ' H5=>Ex4 λ(u5 i7:Nc) (L:List Swap) (n:Nat)=>Aj7 (Ex1 λx7=>σ'=[Tf,Hs (.int (m:Int)),Hc u5,Hc pl,Hc cl,LT,Hc i7,x7]) (XU e.1 (m-s)=(Hs L,n)) (Keep [cl] H4 H5) (MG (s+n) m) (HAt H5 u5 ze) (zc1 H2 H5 i7 L) True) (λD' hD ui=>?_) ?_
  ·refine ⟨_,rfl,_,rfl,_,rfl,d,u,es,hs,e,rfl,L4,he,fun H5 k5=>⟨_,rfl,?_⟩⟩
   rw[bj]
   unfold frV
   have c5:MG s m:=k5 _ _ c4 Ha
   by_cases fj:mex (Y4 hs e.1)<4
   ·rw [Si fj]
    refine WG (ui _ _ ⟨u,sl,[],0,⟨_,rfl⟩,by unfold fsN;rw[if_pos fj],Cq,c5,h4.keep k5 Ha,s4.keep k5,trivial⟩)
   ·rw [Sb fj]
    refine W8 ?_
    have L5:=L4.keep k5
    have efs:fsN r hs e.1 (m-s)=match onN r hs e.1 (m-s) with
     |(some L,n)=>(Hs L,n)
     |(none,n)=>((WB e.1 (m-s-n)).1,n+(WB e.1 (m-s-n)).2):=by
     unfold fsN;rw[if_neg fj]
     try(rcases UI e.1 (m-s) with⟨_ | _,_⟩<;>rfl)
    refine⟨wI,wI,wI,wI,d,u,cl,es,hs,e,s,m,rfl,L5,he,bj▸aZ e.1,c5,cV,fA,λv6 H6 c6 r6 k6=>?_⟩
    rw[bj]at c6 r6
    have sC:∀c,H5 c=none→H2 c=none:=rR (SQ Cq) ⟨_,c5⟩ ⟨_,xc qr Ha⟩
    have ke:UI e.1 (m-s)=((UI e.1 (m-s)).1,(UI e.1 (m-s)).2):=rfl
    have ue:(UI e.1 (m-s)).2≤m-s:=by
     obtain⟨Rb,Nb,_,eb⟩:=on_bud (hs:=hs) aV
     rw[eb]
     split
     ·assumption
     ·exact Qe _
    generalize UI e.1 (m-s)=p6 at c6 r6 efs ke ue
    rcases r6 with⟨r0,rfl⟩ | ⟨t6,u6,l6,L,r0,rfl,r1,r2,r3⟩
    ·-- none by one
     refine⟨wI,wI,W8 ?_⟩
     have L6:=L5.wr k6 c5 fA
     refine⟨wI,wI,wI,wI,d,u,cl,es,hs,e,s+p6.2,m,rfl,L6,he,bj▸aZ e.1,c6,Hb,fA,λv7 H7 c7 r7 k7=>?_⟩
     rw[bj]at c7 r7
     have em:m-(s+p6.2)=m-s-p6.2:=by lia
     rw[em]at c7 r7
     have li:XU e.1 (m-s)=((WB e.1 (m-s-p6.2)).1,p6.2+(WB e.1 (m-s-p6.2)).2):=by rw[efs,ke,r0]
     have qB:Keep [cl] H4 H7:=((k5.sub Ha).trans k6).trans k7
     have sB:∀c,H6 c=none→H2 c=none:=rR ((SQ Cq).trans LW) ⟨_,c6⟩ ⟨_,k6 _ _ (xc qr Ha) yt⟩
     generalize WB e.1 (m-s-p6.2)=p7 at c7 r7 li
     rcases r7 with⟨q0,rfl⟩ | ⟨t7,u7,l7,L,q0,rfl,cC,dQ,q3⟩
     ·refine ⟨_,rfl,_,rfl,W8 ?_⟩
      refine⟨wI,cl,_,_,wI,rfl,Hk c7,LX,SD,λt8 df=>?_⟩
      show D'.rt _ _
      rw[hD]
      have e1:J9 [] m 0=(none,s+(p6.2+p7.2)):=by
       rw[ei,zix (n:=p6.2+p7.2) (by rw[li,q0])];rfl
      refine fin t8 _ (.no (by rw[e1]) ?_) (((kH (SQ (qB.sub Ha))).trans (Ho df)))
      rw[e1,zab,Xb]
     ·refine ⟨_,rfl,_,rfl,WG ?_⟩
      refine⟨wI,t7,wI,Rk cC,rfl,_,wI,_,wI,rfl,?_⟩
      exact ui _ _ ⟨u7,l7,L,p6.2+p7.2,⟨_,rfl⟩,by rw[li,q0],qB,by rw[←Xb];exact c7,dQ,q3.ol sB,trivial⟩
    ·refine ⟨_,rfl,_,rfl,WG ?_⟩
     refine⟨wI,wI,WG ?_⟩
     refine⟨wI,t6,wI,xB,rfl,_,wI,_,wI,rfl,?_⟩
     exact ui _ _ ⟨u6,l6,L,p6.2,⟨_,rfl⟩,by rw[efs,ke,r0],(k5.sub Ha).trans k6,c6,r2,r3.ol sC,trivial⟩
  ·rintro σ' H5 ⟨u5,i7,L,n,⟨x7',rfl⟩,efs,k5,c5,h5,s5,-⟩
   obtain⟨hL1,rJ⟩:=@fs_some r hs e.1 (m-s) L (by rw[efs])
   rw[efs]at cY
   have iF:n≤m-s:=cY
   have pj:=zcr L hs
   have hxf:e.1∉(ZR hs).map (·.1):=by rw[pj];exact hx
   refine⟨wI,u5,wI,.inl h5.dc,λb hb=>?_⟩
   have n6:Keep [] H5 (QP b (.dK ((ZR hs).map λe=>Hh))):=Keep.new hb
   have h6:HAt (QP b (.dK ((ZR hs).map λe=>Hh))) b ze:=h5.cp
   generalize QP b (.dK ((ZR hs).map λe=>Hh))=H6 at n6 h6
   have k26:Keep [pl,cl] H2 H6:=(SQ Cq).trans (n6.sub Ha)
   have fb:H2 b=none:=rR (SQ Cq) ⟨_,c5⟩ ⟨_,k5 _ _ qr yt⟩ b hb
   have L6:LOk H6 d b es ze:=⟨RK k26,h6,aH,cg,bj▸bE,λy hy=>oF y (by rw[pj]at hy;exact hy)⟩
   refine⟨wI,wI,wI,d,b,es,_,e,rfl,L6,he,λH7 k7=>?_⟩
   rw[bj]
   have efr:frV TU 4=.int (mex TU:Nat):=by unfold frV;rw[if_pos rJ]
   rw[efr]
   have h7:=h6.keep k7 Ha
   refine⟨wI,wI,b,wI,DPut.k (k:=Sum.inr e.1) h7.dc (by rw[Qa];have:=L6.len;lia),?_⟩
   have h8:=h7.new (mex TU:Int) hxf
   have nbp:b≠pl:=λz=>by rw[z,g2]at fb;cases fb
   have nbc:b≠cl:=λz=>by rw[z,c2]at fb;cases fb
   have k8:Keep [b] H7 (US b (.dK (putK ((ZR hs).map λe=>Hh) Sf (HM (mex TU:Nat))))):=Keep.wr Qb
   have hcb:cbN r hs e.1 L=ZR hs++[(e.1,(mex TU:Int))]:=rfl
   rw[←hcb]at h8
   generalize US b (.dK (putK ((ZR hs).map λe=>Hh) Sf (HM (mex TU:Nat))))=H8 at k8 h8
   have du:∀{x:Nc} {o:HO},H5 x=some o→x≠b→H8 x=some o:=λ{x o} z nb=>k8 _ _ (k7 _ _ (n6 _ _ z Ha) Ha) (He nb)
   have pl5:H5 pl=some Rz:=k5 _ _ qr yt
   have pl8:=du pl5 (Zl nbp)
   have c8:CnAt H8 cl (s+n) m:=du c5 (Zl nbc)
   have k28:Keep [pl,cl] H2 H8:=λc o ec nc=>du ((SQ Cq) c o ec nc) (WM fb)
   have g8:=h8.hf.get Sf
   rw[zcb h8.nd (e:=(e.1,(mex TU:Int))) (by rw[hcb];simp)]at g8
   refine⟨wI,RC pl8,wI,wI,wI,b,wI,g8,wI,Py,λt9 gX=>?_⟩
   have n9:Keep [] H8 (BI t9 (.tup [Rw,HM (mex TU:Int),Hi i7])):=Keep.new gX
   have t9':(BI t9 (.tup [Rw,HM (mex TU:Int),Hi i7])) t9=some (.tup [Rw,HM (mex TU:Int),Hi i7]):=zab
   generalize BI t9 (.tup [Rw,HM (mex TU:Int),Hi i7])=H9 at n9 t9'
   have sv:=n9 _ _ pl8 Ha
   refine⟨pl,_,wI,rfl,sv,Ce,?_⟩
   have kA:Keep [pl] H9 (Vy pl (Hr (as.map V.ref++[Le t9]))):=Keep.wr Qb
   have plA:(Vy pl (Hr (as.map V.ref++[Le t9]))) pl=some (Hr ((as++[t9]).map V.ref)):=by rw[zab,Qq];rfl
   generalize Vy pl (Hr (as.map V.ref++[Le t9]))=HA at kA plA
   have old:∀{a:Nc} {sp:Step},Mc H5 a sp→Mc H9 a sp:=λ{a sp} z=>by
    obtain⟨l,z1,cn,z0,z2,z3⟩:=z
    have z1':=du z1 (za1 z1 (show H5 u5=_ from h5.dc) (by intro q;cases q)|>λ_=>λq=>by
     have dk:H5 b=none:=hb
     rw[q,dk]at z1;cases z1)
    have z2':=du z2 (λq=>by rw[q,hb]at z2;cases z2)
    refine⟨l,n9 _ _ z1' Ha,cn,z0,n9 _ _ z2' Ha,Paired.imp' (λ_ _ y=>?_) z3⟩
    obtain⟨l2,y0,y1,y2⟩:=y
    exact⟨l2,y0,n9 _ _ (du y1 (λq=>by rw[q,hb]at y1;cases y1)) Ha,n9 _ _ (du y2 (λq=>by rw[q,hb]at y2;cases y2)) Ha⟩
   have iX:Paired (Mc H5) as Pd:=Paired.imp' (λ_ _ z=>z.kb k5 c2 c4) mQ
   have s9:zc1 H2 H9 i7 L:=by
    obtain⟨cn,z0,z2,z3⟩:=s5
    refine⟨cn,z0,n9 _ _ (du z2 (λq=>by rw[q,hb]at z2;cases z2)) Ha,Paired.imp' (λ_ _ y=>?_) z3⟩
    obtain⟨l2,y0,y1,y2⟩:=y
    exact⟨l2,y0,n9 _ _ (du y1 (λq=>by rw[q,hb]at y1;cases y1)) Ha,n9 _ _ (du y2 (λq=>by rw[q,hb]at y2;cases y2)) Ha⟩
   have st9:Mc H9 t9 (e.1,(mex TU:Int),L):=⟨i7,t9',s9⟩
   refine⟨b,s+n,cbN r hs e.1 L,as++[t9],Pd++[(e.1,(mex TU:Int),L)],by rw[Qw,aW];rfl,⟨_,_,wI⟩,(k28.trans (n9.sub Ha)).trans (kA.sub Ha),⟨Hb,kA _ _ (n9 _ _ c8 Ha) (by simpa using Zl ncp)⟩,(h8.keep n9 Ha).keep kA (He nbp),?_,plA,?_,?_⟩
   ·unfold cbN
    rw[Qq,zcr,bf,tk];rfl
   ·exact zax (Paired.imp' (λ_ _ z=>(old z).kb kA g2 sv) iX) (Sa (st9.kb kA g2 sv))
   ·rw [ei,ziw (n:=n) (L:=L) efs]
    refine Wj ?_ rfl
    show Bf (Bf _)=Bf _
    rw[Option.map_map]
    congr 1
    funext z
    show Pd++(_::z)=(Pd++[_])++z
    rw[Qv];rfl
 ·rintro σ H3 ⟨u,s,hs,as,Pd,aW,⟨x5,x6,x7,rfl⟩,k3,⟨cV,c3⟩,h3,bf,iz,lw,ei⟩
  rw[Yv Hx]at ei
  have e1:J9 [] m 0=(Hs Pd,s):=by rw[ei];show(Hs (Pd++[]),s)=_;rw[Zs]
  refine⟨wI,wI,cl,_,_,wI,rfl,Hk c3,LX,SD,λt ht=>?_⟩
  have k5:=Keep.new (xs:=[]) (o:=.tup [Hi pl,HM ((s:Nat):Int)]) ht
  exact fin t _ (.yes pl as H2 Pd (by rw[e1]) (by rw[e1,zab]) (xc iz Ha) (Paired.imp' (λ_ _ z=>z.keep k5) lw)) ((kH k3).trans k5)
end
section
variable{r r':Nr}
def conn_same(h:∀x y,y∈r x↔y∈r' x)(s:Str):Conn (λz=>(r z).filter p) s=Conn (λz=>(r' z).filter p) s:=by
 have key:∀{r r':Nr},(∀x y,y∈r x↔y∈r' x)→∀y,Conn (λz=>(r z).filter p) s y→Conn (λz=>(r' z).filter p) s y:=λ{r r'} h y c=>Conn.mono (λa b hb=>by
  have:=Zd.mp hb
  exact Zd.mpr ⟨(h a b).mp this.1,this.2⟩) c
 funext y
 exact propext ⟨key h y,key (λa b=>(h a b).symm) y⟩
def ch_same(h:∀x y,y∈r x↔y∈r' x):chN r=chN r':=by
 funext hs q
 unfold chN
 rw[conn_same h]
def sw_same(h:∀x y,y∈r x↔y∈r' x):swN r=swN r':=by
 funext hs q
 unfold swN
 rw[ch_same h]
def zio(h:∀x y,y∈r x↔y∈r' x)(hs:List HS)(x:Str):mex (Y4 hs x)=mex (usN r' hs x):=by
 refine mex_eq λz=>?_
 unfold usN
 rw[Qf,Qf]
 constructor<;>rintro⟨a,ha,e⟩<;>have:=Zd.mp ha
 ·exact⟨a,yn ⟨(h x a).mp this.1,this.2⟩,e⟩
 ·exact⟨a,yn ⟨(h x a).mpr this.1,this.2⟩,e⟩
def tr_same(h:∀x y,y∈r x↔y∈r' x):trN r=trN r':=by
 funext hs x
 unfold trN
 rw[show(λy=>y∈r x)=λy=>y∈r' x from funext λy=>propext (h x y)]
def on_same(h:∀x y,y∈r x↔y∈r' x):onN r=onN r':=by
 funext hs x m
 unfold onN
 rw[tr_same h,sw_same h]
 congr 1
 refine Yc λq _=>?_
 funext _
 rw[zio h]
def tw_same(h:∀x y,y∈r x↔y∈r' x):twN r=twN r':=by
 funext hs x m
 unfold twN
 rw[tr_same h,sw_same h,on_same h]
def fs_same(h:∀x y,y∈r x↔y∈r' x):fsN r=fsN r':=by
 funext hs x m
 unfold fsN
 rw[zio h,on_same h,tw_same h]
theorem fp_same(h:∀x y,y∈r x↔y∈r' x):∀(xs:Nh) (hs:List HS) (m s:Nat),fpN r xs hs m s=fpN r' xs hs m s
 |[],_,_,_=>rfl
 | x::t,hs,m,s=>by
  cases e:fsN r' hs x (m-s) with
  | mk a n =>
   cases a with
   |none=>rw[zix e,zix (by rw[fs_same h];exact e)]
   |some L =>
    have hc:cbN r hs x L=cbN r' hs x L:=by unfold cbN;rw[zio h]
    rw[ziw e,ziw (by rw[fs_same h];exact e),hc,fp_same h t,zio h]
end
abbrev sLaw:Stmt:=top 65
inductive IspLaw(K:Na)(vs:List V)(H:Hp)(Q:VK):Prop
 |mk (a:Nc) (ns:List Int) (h0:vs=[.ref a]) (h1:SqL K H a (ns.map V.int)) (h3:∀H',Q (.bl true) H'):IspLaw K vs H Q
def spLaw(K:Na):Sp:=λvs H Q _=>IspLaw K vs H Q
def sq_keep(h:W0 xs)(k:Rl H):SqL K H' a xs:=h.imp (λr=>r.imp (λe=>k _ _ e Ha) λ⟨o,e⟩=>⟨o,CP e⟩) id
def cut_ints(ns:List Int)(lo hi:Option Int):∃ms:List Int,cutV LE lo hi=ms.map V.int:=by
 unfold cutV
 exact⟨(ns.drop _).take _,by rw[Jn,Xc]⟩
section
variable{P:Nk}{w:Nn}{K:Na}{mg:Ng}{base:Np}
def zib:zaj [qS,qR, "_law_cell_here",qP, "_law_k", "_law_most", "_law_web", "_law_found"] [qS] xo:=fsk
def ok_law(F:QE "law" "law" sLaw f fd)(GP:ZF "_law_pot" ["_law_cell_here"] 1 spPot)(GC:ZF "_law_cell" [qS, "_law_k"] 1 xg)(GT:ZF "_law_take" [qP,qM] 1 zf9)(GN:ZF "_law_rounds" [qS, "_law_most"] 4 (spRounds K))(GX:ZF "_law_crossed" [qR,qP] 3 zga)(GR:ZF "_law_rows" [qR] 1 spRows)(MW:Mk K C fi)(mW:mg "Web" = some P6)(bI:W7 fdi ["self", "rows"] [])(GI:ZB 4 fi fdi ["self", "rows"] (spInit C))(GO:ZF "four_paper" ["web", "most"] 7 (spFp C))(GD:ZF "_law_due" [qR, "_law_most"] 4 spLDu)(aG:mg "range" = none)(kD:mg "isinstance" = none)(jM:mg "tuple" = none):ZB 8 f fd [qS] (spLaw K):=by
 refine F.okL zib Hn
 obtain⟨a,ns,rfl,ha,kq⟩:=h
 have ai:BJ _:=hr.mono Hf
 have nV:Room 3 _:=hr.mono Hf
 have lK:Room 4 _:=hr.mono Hf
 have hr5:Room 5 _:=hr.mono Hf
 have ap:=sizeLine_eq
 have im:=Js (Nat.add_le_add_left (show 8≤16*7+200 by decide) _) (Js (Kp (Xb ..).symm) hr.un)
 refine⟨_,zad (M7 zib.nd (pcl GN lK wo))
  (zad (Z4 (IP (JG (zcd zah) (zcd zah))) (Ms zib.nd)
   (zad (Br zib.nd (GA Sn))
   (zag (Z4 (U7 (Rx (WV zah (QO (QB SY))))) (KB zib.nd)
    (zag (zbg (pcl GX nV (ZV Tp))))))))
  (zad (Br zib.nd (GA (Rx (Ed (FH ai wo)))))
  (zad (XR zib.nd (QI (za8 (Dp (Dp (Rx yk)))) (QO (QB SY)) Hq))
  (zad (M9 zib.nd (pe_make MW GI hr5 rfl mW bI .nil zdi (Rx (pcl GR ai SH))))
  (zad (Nz zib.nd (Dm hr (W5 LI)))
  (zag (zaq (pe_and (zal call_isi_tt HQ kD PyProof.Rows.boot_isinstance (U6 (Rx (pe_tyN (T := "tuple") rfl jM PyProof.Rows.boot_tuple))))
   (pe_and (NC (pcl GD lK (ZV LI)) Sq)
    (pe_one (NC (Dm hr (W5 LI)) Sq))))))))))),?_⟩
 refine⟨wI,a,ns,16,rfl,ha,Hf,Hf,λd es H1 fd D1 nok k1=>?_⟩
 have ha1:=sq_keep ha k1
 refine⟨wI,wI,wI,a,wI,ha1,λsl dy=>?_⟩
 obtain⟨ms,hms⟩:=cut_ints ns xq (Hs 13)
 rw[hms]
 have k2:Keep [] H1 (QK sl Cd):=Keep.new dy
 have g2:(QK sl Cd) sl=some Cd:=zab
 generalize QK sl Cd=H2 at k2 g2
 have nsd:sl≠d:=Zl (zac D1.ra.dc dy)
 refine⟨sl,rfl,⟨_,Hk g2⟩,zbc (xs:=ms.map V.int) (λi σ H'=>Aj3 (Ex3 λx2 x3 x4=>σ=[Hc a,Tf,x2,x3,x4,none,none,none]) (Keep [d] H2 H') (Ex1 λaj:List Ent=>DS (aj.map (·.1)=es.map (·.1))))
  ⟨⟨_,_,_,rfl⟩,Keep.refl,es,D1.k0 k2,rfl⟩ (λi σ H' _ hh=>SqL.of (Ea g2 (He nsd))) ?_ ?_⟩
 ·rintro i v σ H3 hv ⟨⟨x2,x3,x4,rfl⟩,k3,eV,D3,n3⟩
  obtain⟨c,_,rfl⟩:=Qf.mp (Yd hv)
  refine⟨wI,c,rfl,λp b m H4 fp4 bU k4=>?_⟩
  refine⟨wI,p,b,m,3,rfl,bU,Hf,Hf,λd5 b5 m5 H5 lg mq aT gO=>?_⟩
  have k5:=zbh gO
  have D5:=(D3.k0 k4).pot bU k5
  refine⟨_,wI,rfl,1+d5,rfl,Hb,Hb,?_⟩
  have kd:∀{H':Hp},Keep [d,p] H5 H'→Keep [d] H2 H':=λkk c o ec nc=>by
   have ec3:=k3 c o ec nc
   have ncp:c≠p:=zac ec3 fp4
   exact kk c o (k5 c o (k4 c o ec3 Ha) yt) (by simp;exact⟨He nc,ncp⟩)
  refine zcq (lo:=0) (λi σ H'=>Aj3 (Ex1 λx4=>σ=[Hc a,Tf,RZ c,zj,x4,none,none,none]) (Keep [d,p] H5 H') (Ex3 λ(aj:List Ent) (b' m':Int)=>YD (aj.map (·.1)=es.map (·.1))))
   ⟨⟨_,rfl⟩,Keep.refl,eV,b5,m5,D5,aT,n3⟩ ?_ ?_
  ·rintro j σ H6 hj ⟨⟨x4,rfl⟩,k6,vn,b6,m6,D6,bn,n6⟩
   refine⟨wI,wI,p,d,b6,m6,vn,rfl,bn,D6,λb7 m7 qf H7 bm D7 n7 k7=>?_⟩
   exact⟨⟨wI⟩,PK k7,qf,b7,m7,D7,bm,n7.trans n6⟩
  ·rintro σ H6 ⟨⟨x4,rfl⟩,k6,vn,b6,m6,D6,bn,n6⟩
   exact⟨⟨_,_,wI⟩,kd k6,vn,D6,n6⟩
 rintro σ H3 ⟨⟨x2,x3,x4,rfl⟩,k3,eV,D3,n3⟩
 have dS:Keep [] H H3:=λc o ec _=>k3 c o (k2 c o LJ Ha) (by simpa using WM fd)
 refine⟨wI,a,ns,1,rfl,sq_keep ha dS,λc=>⟨_,_,rfl,rfl,c+977,rfl,λp b m HA fpA hpA kA=>?_⟩⟩
 refine⟨wI,p,b,m,41,rfl,hpA,Hf,Hf,λn1 b5 m5 HB lg mq aT gO=>?_⟩
 obtain⟨n1,rfl⟩:=Zq lg
 refine⟨wI,p,b5,m5,401,rfl,aT,Hf,Hf,λn2 b6 m6 HC vg h61 bn mU=>?_⟩
 obtain⟨n2,rfl⟩:=Zq vg
 refine⟨_,wI,rfl,⟨Hf,Hf,Hf⟩,Py,λml jg=>?_⟩
 have npm:p≠ml:=zac bn.1 jg
 have o8:=bn.keep (Keep.new (xs:=[]) (o:=.lst [.int (n1:Int),.int (n2:Int),HM (10 ^ Int.toNat 6)]) jg) Ha
 have gD:(GZ (.lst [.int (n1:Int),.int (n2:Int),HM (10 ^ Int.toNat 6)])) ml=some (.lst [.int (n1:Int),.int (n2:Int),HM (10 ^ Int.toNat 6)]):=zab
 have kAD:Keep [p] HA (GZ (.lst [.int (n1:Int),.int (n2:Int),HM (10 ^ Int.toNat 6)])):=((zbh gO).trans (zbh mU)).trans (Ho jg)
 generalize GZ (.lst [.int (n1:Int),.int (n2:Int),HM (10 ^ Int.toNat 6)])=HD at o8 gD kAD
 refine⟨wI,p,b6,m6,3,rfl,o8,Hf,Hf,λj b7 m7 HE mj mi bm iZ=>?_⟩
 obtain⟨j,rfl⟩:=Zq mj
 have gE:=zbh iZ _ _ gD (by simpa using Zl npm)
 obtain⟨M,hM⟩:∃M:Nat,atI [V.int (n1:Int),V.int (n2:Int),S7 (10 ^ Int.toNat 6)] (j:Int)=some (.int (M:Int)):=by
  match j,mi with
  |0,_=>exact⟨n1,zaw rfl⟩
  |1,_=>exact⟨n2,zaw rfl⟩
  |2,_=>exact⟨1000000,zaw rfl⟩
  |n+3,h=>lia
 refine⟨ml,_,_,wI,rfl,Hk gE,hM,?_⟩
 have k3E:Keep [] H3 HE:=λc' o ec _=>(kAD.trans (zbh iZ)) c' o (kA c' o ec Ha) (by simpa using WM fpA)
 have DE:=D3.k0 k3E
 have kkE:=dS.trans k3E
 refine⟨wI,d,eV,rfl,DE,λrl as dM H4 RW cE frl k4=>?_⟩
 have dR:=kkE.trans k4
 refine λx dx hx hdx az=>?_
 have k5:Keep [] H4 (Xx (.ins C dx [])):=λc u ec _=>by
  rw[zaf (WM hx),zaf (WM hdx)];exact ec
 have hx5:(Xx (.ins C dx [])) x=some (.ins C dx []):=zab
 generalize Xx (.ins C dx [])=H5 at k5 hx5
 obtain⟨cs,a9,Ct⟩:∃cs a9,Cert (dM.map (·.1)) (Pt dM) cs a9:=by
  obtain⟨cs,a9,C0⟩:=D3.gd
  rw[←cE,zbq]at C0
  exact⟨cs,a9,C0⟩
 have ou:dM.map (·.1)=eV.map (·.1):=by rw[←zbq,cE,zbq]
 have cx:dM.length≤16:=by
  have:=congrArg List.length ou
  rw[Qa,Qa]at this
  rw[this];exact D3.few
 refine⟨x,dx,rl,as,dM,cs,a9,rfl,hx5,RW.keep k5,Hb,λe he=>nok _ (n3▸ou▸Qf.mpr ⟨e,he,rfl⟩),Ct,λd2 ts ax H6 wt bn lI k6=>⟨rfl,?_⟩⟩
 have kj:(ts.map (·.1)).Perm (dM.map (·.1)):=by rw[zcn lI];exact bn.map _
 have lq:=cert_turn Ct kj (zfa lI bn Ct.nd)
 have ad:ts.length≤16:=by
  have:=kj.length_eq
  rw[Qa,Qa]at this
  lia
 have W:WOk ts:=⟨ad,λe he=>by
  have h1:e.2.1.Nodup:=by have:=lq.rn e.1;rw[zay lq.nd he]at this;exact this
  have:=zb9 h1 λy hy=>lq.inn' (x:=e.1) (by rw[zay lq.nd he];exact hy)
  rw[Qa]at this
  lia,λz y hy=>lq.inn' hy,lq.rn,lq.sy⟩
 have gQ:Keep [] H H6:=λc o ec _=>by
  have e4:=dR c o ec Ha
  exact k6 c o (k5 c o e4 Ha) (by simpa using zac e4 hx)
 refine⟨wI,wI,x,dx,d2,ts,M,rfl,wt,W,λwh T H7 O p7 k7=>?_⟩
 have gP:=gQ.trans k7
 have qB:Keep [] H4 H7:=λc' o ec _=>k7 c' o (k6 c' o (k5 c' o ec Ha) (by simpa using WM hx)) Ha
 have D7:=DE.k0 (SQ qB)
 have tQ:row (Lh dM)=row (Lh eV):=by rw[cE]
 obtain⟨cs3,lab3,C3⟩:=D3.cert
 have tS:∀e∈eV,e.2.1.length≤16:=λe he=>by
  have h1:e.2.1.Nodup:=by have:=C3.rn e.1;rw[zay C3.nd he]at this;exact this
  have:=zb9 h1 λy hy=>C3.inn' (x:=e.1) (by rw[zay C3.nd he];exact hy)
  rw[Qa]at this
  exact Zg this D3.few
 have ua:∀y,(row (Lh ts) y).Perm (row (Lh eV) y):=λy=>by
  obtain⟨k,e⟩:=zfa lI bn Ct.nd y
  rw[e,tQ];exact zih ..
 have O3:zcv (eV.map (·.1)) (Pt eV) T:=O.turn (kj.trans (by rw[ou])) ua
 obtain⟨ys7,hwh⟩:∃ys,H7 wh=some Lv:=by
  rcases p7 with⟨_,z⟩ | ⟨_,_,_,_,_,z,_,_⟩<;>exact⟨_,z⟩
 refine⟨wI,wh,wI,hwh,wI,W8 ?_⟩
 refine⟨wI,wI,wI,d,eV,M,rfl,⟨.inl D7.ra.dc,D7.ra.nd,D7.ra.ro⟩,D3.few,tS,λz y hy=>C3.inn' hy,C3.rn,λt2 T2 H8 O8 p8 k8=>?_⟩
 rw[O8.one O3,←fp_same (λy z=>(ua y).mem_iff)]at p8
 obtain⟨xs,ys,e1,e2,pr⟩:=same_pap (p7.keep k8) p8
 refine⟨wh,t2,xs,ys,rfl,rfl,e1,e2,pr,wI,W8 ?_⟩
 refine⟨wI,wI,wI,x,dx,d2,ts,M,rfl,wt.keep (k7.trans k8) Ha Ha RJ,W,λt3 T3 H9 O9 p9 k9=>?_⟩
 rw[O9.one O]at p9
 obtain⟨xs',mD,dq,mw,pr'⟩:=same_pap ((p7.keep k8).keep k9) p9
 exact⟨wh,t3,xs',mD,rfl,rfl,dq,mw,pr',kq _⟩
end
end K21
end
section
namespace L2
open PySem
def Nf(K:Na)(x:Str)(st:Stmt):Prop:=∃f fd,ZQ x=some AB∧QE x x st f fd
def Nm(K:Na)(C:Nc)(x q:Str)(st:Stmt):Prop:=∃f fd,Z6 x=some AB∧XL LL=true∧YO LL=true∧QE x q st f fd
def zg3{K:Na}{x q:Str}{st:Stmt}{f:Nc}{fd:Nw}{ps:Nh}(F:QE x q st f fd)(h:∀(kV doc pm:Value) (an:Option Addr) (cdv ct:Value) (us:Nl),us.length=ps.length→bindArgs (UD q (zdl st) (zct st) LF .none kV doc pm an cdv ct) ⟨us,[]⟩=pure Lu:=by(intro _ _ _ _ _ _ us hl;rcases us with _ | ⟨_,_ | ⟨_,_ | ⟨_,_ | ⟨_,_ | ⟨_,_ | ⟨_,_⟩⟩⟩⟩⟩⟩<;>first | rfl | cases hl)):W7 fd ps []:=F.binds h
def nf{P:Nk}{w:Nn}{K:Na}{h:Np}{mg:Ng}{base:Np}(X:K.In h)(G:Ip){x:Str}{st:Stmt}{ps:Nh}{k:Nat}{sp:Sp}(N:YI x st)(T:∀f fd,QE x x st f fd→ZB k f fd ps sp)(b:∀(kV doc pm:Value) (an:Option Addr) (cdv ct:Value) (us:Nl),us.length=ps.length→bindArgs CB ⟨us,[]⟩=pure Lu:=by(intro _ _ _ _ _ _ us hl;rcases us with _ | ⟨_,_ | ⟨_,_ | ⟨_,_ | ⟨_,_ | ⟨_,_ | ⟨_,_⟩⟩⟩⟩⟩⟩<;>first | rfl | cases hl)):ZF x ps k sp :=
 let⟨f,fd,a,F⟩:=N
 .mk F (F.binds b) (Dq a) (T f fd F)
def nfo{P:Nk}{w:Nn}{K:Na}{h:Np}{mg:Ng}{base:Np}(X:K.In h)(G:Ip){x:Str}{st:Stmt}{ps:Nh}{k:Nat}{sp:Sp}(N:YI x st)(T:∀f fd,QE x x st f fd→ZB k f fd ps sp)(b:∀(kV doc pm:Value) (an:Option Addr) (cdv ct:Value) (us:Nl),us.length=ps.length→bindArgs CB ⟨us,[]⟩=pure Lu:=by(intro _ _ _ _ _ _ us hl;rcases us with _ | ⟨_,_ | ⟨_,_ | ⟨_,_ | ⟨_,_ | ⟨_,_ | ⟨_,_⟩⟩⟩⟩⟩⟩<;>first | rfl | cases hl)):∃f fd,QE x x st f fd∧W7 fd ps []∧mg x=some LL∧ZB k f fd ps sp :=
 let⟨f,fd,a,F⟩:=N
 ⟨f,fd,F,F.binds b,Dq a,T f fd F⟩
end L2
namespace K21
open PySem L2 Wb PyProof.Rows
theorem all_mk{l:PySem.W.OpenLaw}{w:Nn}{K:Na}{h:Np}{mg:Ng}{fa C:Nc}(X:K.In h)(G:Ip)(hfa:mg "law" = some IE)(aC:ZQ "Web" = some (Hc C))(h_free_hue:YI "free_hue" sFree)(h_steps_behind:YI "steps_behind" sSteps)(h_faces_of:YI "faces_of" sFaces)(h_piece_from:YI "piece_from" zhj)(h_pieces_of:YI "pieces_of" zie)(h_chain:YI "chain" zhk)(h_exchanged_in:YI "exchanged_in" sExIn)(h_order:YI "order" sOrder)(h_swap_of:YI "swap_of" sSwapOf)(h_swapped:YI "swapped" zic)(h_come_back:YI "come_back" sBack)(h_tries:YI "tries" sTries)(h_by_one:YI "by_one" sOne)(h_by_two:YI "by_two" sTwo)(h_four_swaps:YI "four_swaps" sFs)(h_four_paper:YI "four_paper" sFp)(h_is_name:YI "is_name" zig)(h_refuse_no_names:YI "refuse_no_names" zf1)(h_refuse_twice:YI "refuse_twice" zec)(h_refuse_one_way:YI "refuse_one_way" zif)(h_refuse_not_flat:YI "refuse_not_flat" sFlat)(h_from_least:YI "from_least" sLeast)(h__law_cell:YI "_law_cell" sCell)(h__law_pot:YI "_law_pot" sPot)(h__law_take:YI "_law_take" sTake)(h__law_names:YI "_law_names" sNames)(h__law_behind:YI "_law_behind" sBehind)(h__law_face:YI "_law_face" sFace)(h__law_put:YI "_law_put" sPut)(h__law_grown:YI "_law_grown" sGrown)(h__law_crossed:YI "_law_crossed" sCross)(h__law_filled:YI "_law_filled" sFilled)(h__law_two_rings:YI "_law_two_rings" sRings)(h__law_untied:YI "_law_untied" sUntied)(h__law_rounds:YI "_law_rounds" sRounds)(h__law_rows:YI "_law_rows" sRows)(h__law_order:YI "_law_order" sLOrd)(h__law_chain:YI "_law_chain" sLCh)(h__law_turned:YI "_law_turned" sLTu)(h__law_free:YI "_law_free" sLFr)(h__law_tries:YI "_law_tries" sLTr)(h__law_swap:YI "_law_swap" sLSw)(h__law_one:YI "_law_one" sLOn)(h__law_two:YI "_law_two" sLTw)(h__law_due:YI "_law_due" sLDu)(g___init__:Nm K C "__init__" "Web.__init__" sInit)(g_places:Nm K C "places" "Web.places" sPlaces)(g_round_of:Nm K C "round_of" "Web.round_of" zid){fL:Nc}{od an:Option Addr}{sl:Array TL}{oc kV dc pm cd ct:Value}(aL:ZQ "law" = some (Hc fL))(lL:K.lookup fL=some ⟨oc,od,.func (PySem.W.fnOf "law" "law" (zdl sLaw) (zct sLaw) xo .none kV dc pm an cd ct),sl⟩)(cL:BK cd "law" = true)(kL:YO (Hi fL)=true)(pg:UA Str.empty=true)(hV:J' C=true)(po:X8 C=true)(sa:Z6 "__setattr__" = some (Hs (.builtin "object.__setattr__")))(mk:K8 C=true)(kc:YO P6=true)(nR:Z6 "rounds" = some none){tkM tkF:Tok}(aM:ZQ "MOST_LETTERS" = some (Hs (S8 8 tkM)))(aF:ZQ "FOUR" = some (Hs (S8 4 tkF)))(z_len:ZQ "len" = some none)(z_sorted:ZQ "sorted" = some none)(z_range:ZQ "range" = some none)(z_min:ZQ "min" = some none)(z_max:ZQ "max" = some none)(z_abs:ZQ "abs" = some none)(z_divmod:ZQ "divmod" = some none)(z_tuple:ZQ "tuple" = some none)(z_list:ZQ "list" = some none)(z_dict:ZQ "dict" = some none)(z_set:ZQ "set" = some none)(z_isinstance:ZQ "isinstance" = some none)(z_str:ZQ "str" = some none)(z_all:ZQ "all" = some none)(z_sum:ZQ "sum" = some none)(z_enumerate:ZQ "enumerate" = some none)(z_reversed:ZQ "reversed" = some none) :
  ∃fd:FuncData,(∀(s:Nj) (v:Value),Bc ⟨[v],[]⟩ [("_law_script",v)])∧∀base:Heap,K.In base→base.Ns mainGlobals mg→FnOk l.prog w K mg base CX0 8 fa fd ["_law_script"] (spLaw K):=by
 have e:=hfa.symm.trans (Dq aL)
 cases e
 have FL:=fun_mk (st:=sLaw) lL cL kL
 have cW:Mf C:=⟨pg,hV,po,sa⟩
 have mC:=Dq aC
 have y_len:=U8 z_len
 have y_sorted:=U8 z_sorted
 have y_range:=U8 z_range
 have y_min:=U8 z_min
 have y_max:=U8 z_max
 have y_abs:=U8 z_abs
 have y_divmod:=U8 z_divmod
 have y_tuple:=U8 z_tuple
 have y_list:=U8 z_list
 have y_dict:=U8 z_dict
 have y_set:=U8 z_set
 have y_isinstance:=U8 z_isinstance
 have y_str:=U8 z_str
 have y_all:=U8 z_all
 have y_sum:=U8 z_sum
 have y_enumerate:=U8 z_enumerate
 have y_reversed:=U8 z_reversed
 obtain⟨q0,_,ag0,ig0,kg0,FG0⟩:=g___init__
 obtain⟨q1,_,ag1,ig1,kg1,vH⟩:=g_places
 obtain⟨q2,_,rZ,qD,qz,qo⟩:=g_round_of
 refine⟨PySem.W.fnOf "law" "law" (zdl sLaw) (zct sLaw) xo .none kV dc pm an cd ct,λs v=>.of_eq rfl,λbase _ _=>?_⟩
 have cl:=@nf l.prog w K h mg base X G
 have cm:=@nfo l.prog w K h mg base X G
 have mM:=Dq aM
 have mF:=Dq aF
 have GTake:=cl h__law_take λ_ _ F=>ok_take F y_divmod
 have GPot:=cl h__law_pot λ_ _ F=>ok_pot F y_max y_abs
 have GCell:=cl h__law_cell λ_ _ F=>ok_cell F y_len
 have GBehind:=cl h__law_behind λ_ _ F=>ok_behindS F y_len
 have GFace:=cl h__law_face λ_ _ F=>ok_face F GBehind
 have GPut:=cl h__law_put λ_ _ F=>ok_put F
 have GCross:=cl h__law_crossed λ_ _ F=>ok_cross F GTake GFace GPut y_len
 have GFilled:=cl h__law_filled λ_ _ F=>ok_filled F GFace GPut y_list
 have GGrown:=cl h__law_grown λ_ _ F=>ok_grown F GTake GPut y_len y_list
 have GUntied:=cl h__law_untied λ_ _ F=>ok_untied F GTake y_len
 have GNames:=cl h__law_names λ_ _ F=>ok_names F GTake y_range y_divmod
 have GRings:=cl h__law_two_rings λ_ _ F=>ok_rings F y_range y_list y_reversed
 have GRounds:=cl h__law_rounds λ_ _ F=>ok_rounds F GPot GCell GTake GNames GRings GUntied GGrown GCross GFilled y_range
 have GRows:=cl h__law_rows λ_ _ F=>ok_rows F y_list
 have GPlaces:=ok_places (P:=l.prog) (w:=w) (mg:=mg) (base:=base) vH cW nR y_list
 have GRoundOf:=ok_roundof (P:=l.prog) (w:=w) (mg:=mg) (base:=base) qo cW nR y_list
 have GPieceL:=cl h_piece_from λ_ _ F=>ok_pieceL F y_sorted
 have GChain:=cl h_chain λ_ _ F=>ok_chain F cW nR ⟨ag1,ig1,kg1⟩ (zg3 vH) GPlaces ⟨rZ,qD,qz⟩ yu GRoundOf GPieceL
 have GExIn:=cl h_exchanged_in λ_ _ F=>ok_exin F y_dict
 have GOrder:=cl h_order λ_ _ F=>ok_order F cW ⟨ag1,ig1,kg1⟩ (zg3 vH) GPlaces ⟨rZ,qD,qz⟩ yu GRoundOf y_len y_min
 have GFree:=cl h_free_hue λ_ _ F=>ok_free F cW ⟨rZ,qD,qz⟩ yu GRoundOf y_range
 have GSwapOf:=cl h_swap_of λ_ _ F=>ok_swapof F GChain
 have GSwapped:=cl h_swapped λ_ _ F=>ok_swapped F GExIn
 have GTries:=cl h_tries λ_ _ F=>ok_tries F cW ⟨rZ,qD,qz⟩ yu GRoundOf y_sorted y_range mF
 have GOneS:=cl h_by_one λ_ _ F=>ok_one F GTries GSwapOf GSwapped GFree mF
 have GTwo:=cl h_by_two λ_ _ F=>ok_two F GTries GSwapOf GSwapped GOneS
 have GFs:=cl h_four_swaps λ_ _ F=>ok_fs F GFree GOneS GTwo mF
 have GBack:=cl h_come_back λ_ _ F=>ok_back F GSwapped GFree y_dict
 have GFp:=cl h_four_paper λ_ _ F=>ok_fp F GOrder GFs GBack mF
 have GLOrd:=cl h__law_order λ_ _ F=>ok_lord F y_dict y_len y_min
 have GLCh:=cl h__law_chain λ_ _ F=>ok_lch F y_len y_sorted
 have GLTu:=cl h__law_turned λ_ _ F=>ok_ltu F GLCh y_dict
 have GLFr:=cl h__law_free λ_ _ F=>ok_lfr F y_range y_all
 have GLTr:=cl h__law_tries λ_ _ F=>ok_ltr F y_range y_sorted
 have GLSw:=cl h__law_swap λ_ _ F=>ok_lsw F GLCh
 have GLOn:=cl h__law_one λ_ _ F=>ok_lon F GLTr GLTu GLFr GLSw
 have GLTw:=cl h__law_two λ_ _ F=>ok_ltw F GLTr GLTu GLFr GLSw
 have GLDu:=cl h__law_due λ_ _ F=>ok_ldu F GLOrd GLFr GLOn GLTw y_reversed y_dict
 obtain⟨_,_,F0,b0,m0,G0⟩:=cm h_is_name λ_ _ F=>ok_isname F mM y_isinstance y_str y_len y_all
 obtain⟨_,_,F1,b1,m1,G1⟩:=cm h_refuse_no_names λ_ _ F=>ok_nonames F F0 b0 m0 G0
 obtain⟨_,_,F2,b2,m2,G2⟩:=cm h_refuse_twice λ_ _ F=>ok_twice F y_len y_set
 obtain⟨_,_,F3,b3,m3,G3⟩:=cm h_refuse_one_way λ_ _ F=>ok_oneway F y_dict
 obtain⟨_,_,F4,b4,m4,G4⟩:=cm h_from_least λ_ _ F=>ok_least F y_min y_tuple
 obtain⟨_,_,F5,b5,m5,G5⟩:=cm h_steps_behind λ_ _ F=>ok_steps F y_enumerate
 obtain⟨_,_,F6,b6,m6,G6⟩:=cm h_faces_of λ_ _ F=>ok_faces F F5 b5 m5 G5 y_sorted
 obtain⟨_,_,F7,b7,m7,G7⟩:=cm h_piece_from λ_ _ F=>ok_piece F y_sorted
 obtain⟨_,_,F8,b8,m8,G8⟩:=cm h_pieces_of λ_ _ F=>ok_pieces F F7 b7 m7 G7 y_sorted
 obtain⟨_,_,F9,b9,m9,G9⟩:=cm h_refuse_not_flat λ_ _ F=>ok_flat F F6 b6 m6 G6 F8 b8 m8 G8 y_len y_sum
 have GInit:=ok_init (P:=l.prog) (w:=w) (mg:=mg) (base:=base) FG0 cW nR F1 b1 m1 G1 F2 b2 m2 G2 F3 b3 m3 G3 F4 b4 m4 G4 F9 b9 m9 G9 y_sorted
 exact ok_law FL GPot GCell GTake GRounds GCross GRows ⟨mk,ag0,ig0,kc⟩ mC (zg3 FG0) GInit GFp GLDu y_range y_isinstance y_tuple
def walk{l:PySem.W.OpenLaw}{q:Nk}{loose:Nh}{XP:(Str→Option Value)→Heap→Prop}{d:DefRec}{K:Params→PySem.W.Frag}(hn:l.most=some 63)(pB:d.params.defaults=[])(F:∀ (w:Nn) (mg:Ng) (fa:Nc) (h:Np),(K w.params).In h→h.Ns mainGlobals mg→mg d.name=some IE →
   ∃fd:FuncData,(∀(s:Nj) (u:Value),Bc ⟨[u],[]⟩ [("_law_script",u)])∧∀base:Heap,(K w.params).In base→base.Ns mainGlobals mg→KN CX0 8 fa fd ["_law_script"] (spLaw AJ)) :
  PySem.W.WalkO q loose XP (λw h=>(K w.params).In h) l.row.toRowW d [] (λf vs=>NO vs) :=
 L2.walk_of (n:=63) (k:=8) (x := "_law_script") (CX:=λ_=>CX0) (sp:=λw=>spLaw AJ) hn Hf pB ⟨rfl,Hf,Hf⟩ (λ_ _ z=>z) F (λ_ _ a ns _ _ hS=>⟨a,ns,rfl,hS,λ_=>rfl⟩) λ_ _ _ _ _ z=>z
end K21
end
section
set_option Elab.async false
set_option linter.all false
open PySem PySem.W PySem.W.X PyProof.Rows
namespace PySem.W.Fast
def tw5861272132136664325:=0
def tw10341595575962412215:=0
def tw1724555039882982266:=0
def tw12802610144382473823:=0
def tw17135282701228736369:=0
def tw14923308029463008325:=0
def tw3023891240930241557:=0
def tw4149507453428395107:=0
def tw328136431427756684:=0
def tw13562837505629832542:=0
def tw13211340416666448707:=0
def tw9873042584331827905:=0
def tw17160522711734853109:=0
def tw7103010590661598407:=0
def tw8688376080699317303:=0
def tw321256334578270801:=0
def tw13044702340469502816:=0
def tw8691282024704896408:=0
def tw12677341414103073875:=0
def tw685731136916131572:=0
def tw13872809494702861544:=0
def tw14301608018642963772:=0
def tw15516119876558642100:=0
def tw9992425777134660872:=0
def tw3221356077085508636:=0
def tw13317545375455902807:=0
def tw15006461762092137047:=0
def tw7920741355512602283:=0
def tw7788498771418823163:=0
def tw4824887842539102351:=0
def tw586696508335403784:=0
def tw5961037016179395300:=0
def tw6422494237338652835:=0
def tw12781302851459707816:=0
def tw1019199466141127150:=0
def tw9123760988397514433:=0
def tw17501464665813702085:=0
def tw2739631328757059917:=0
def tw13350972161242366016:=0
def tw14630275822081938527:=0
def tw5412971624651791572:=0
def tw13366799525154105143:=0
def tw13964896010808904178:=0
def tw17640183959607388757:=0
def tw3430530464244320193:=0
def tw11125277546683527834:=0
def tw6918089741088587232:=0
def tw9369661383118374172:=0
def tw12188309814629655488:=0
def tw12565818321545952713:=0
def tw4412372918423437009:=0
def tw15451126290365064337:=0
def tw16464381497885913929:=0
def tw17784138728184383066:=0
def tw4609309187366140140:=0
def tw6661916404866029997:=0
def tw16505615622317169551:=0
def tw12643611874432484880:=0
def tw5353525108050385607:=0
def tw7783298211923512795:=0
def tw16611440295221734756:=0
def tw2784133273930493758:=0
def tw4598506043199580768:=0
def tw8387934174934085938:=0
def tw15270139456316399173:=0
def tw18434415110294889016:=0
def tw5358811481407695980:=0
def tw16423952937004827963:=0
def tw5666396611477179029:=0
def tw9817196950911739448:=0
def tw2775718776127640893:=0
def tw2848974894433627228:=0
def tw960133863668444044:=0
def tw5105670828212497831:=0
def tw14783280667692992650:=0
def tw15437157359532905063:=0
def tw4435696765600920644:=0
def tw1339507310941894732:=0
def tw14199036564395224183:=0
def tw11339575798502720935:=0
def tw2862417888087555289:=0
def tw3895222814014410821:=0
def tw6355127914539324994:=0
def tw5692613189015345589:=0
def tw10375252156253659814:=0
def tw15967795582398363596:=0
def tw16633097912682521602:=0
def tw8070572814631669627:=0
def tw4536361051665372558:=0
def tw12104557390766385426:=0
def tw10050891092655673469:=0
def tw6272804340832800678:=0
def tw8641589048633142330:=0
def tw15692384110465010389:=0
def tw713530393968601609:=0
def tw11241402415486023628:=0
def tw9433678790729057108:=0
def tw10705599902549721063:=0
def tw16612580853652987490:=0
def tw7609370307612649386:=0
def tw18253181289177179536:=0
def tw15258586832343675255:=0
def tw6914198347844903739:=0
def tw5147278986766171880:=0
def tw11346426757531239920:=0
def tw9984308580044868528:=0
def tw2483945066250199730:=0
def tw12034576999446688707:=0
def tw10153562614925732778:=0
def tw389045596042544367:=0
def tw3686543963301281754:=0
def tw14705894021893810367:=0
def tw11569459879968419919:=0
def tw1755048250387284378:=0
def tw10058166177569208443:=0
def tw2821550982406317244:=0
def tw28749736891342381:=0
def tw17722416740983170510:=0
def tw5019123615841270954:=0
def tw5668205191979979552:=0
def tw16192492238453177844:=0
def tw11619978921320541174:=0
def tw9928451570499211115:=0
def tw3579898015811622360:=0
def tw15137630385921726257:=0
def tw6468303475915474068:=0
def tw2429838512210958515:=0
def tw4886155021642048677:=0
def tw3291917218715887642:=0
def tw2484434521362497965:=0
end PySem.W.Fast
set_option maxRecDepth 100000 in
set_option maxHeartbeats 0 in
theorem PySem.Challenge.cw_fivehues_k51_whole_told_exchanges_holds : PySem.Challenge.rw_fivehues_k51_whole_told_exchanges.Holds := by
 w_on;o_law;z_head;(case hw=>w_witness2)
 k_fill
 intro w s0 s1 mg mb G y fa o pm cd doc dV kV ho hd hcd hD hmg hg args vals as L hpre hlay hrd hwl hlo
 z_open y L KX ZH ZN ZT
 refine K21.walk (l:=PySem.Challenge.rw_fivehues_k51_whole_told_exchanges) rfl rfl ?F w s0 s1 mg mb G KX fa o pm cd doc dV kV ho hd hcd hD hmg hg args vals as hpre hlay hrd hwl hlo
 case F =>
  clear KX ZH ZN ZT L y G hmg hg hpre hlay hrd hwl hlo ho hd hcd hD
  intro w mg fa h KX G hmg
  refine' K21.all_mk KX G hmg ?aC ?_ ?_ ?_ ?_ ?_ ?_ ?_ ?_ ?_ ?_ ?_ ?_ ?_ ?_ ?_ ?_ ?_ ?_ ?_ ?_ ?_ ?_ ?_ ?_ ?_ ?_ ?_ ?_ ?_ ?_ ?_ ?_ ?_ ?_ ?_ ?_ ?_ ?_ ?_ ?_ ?_ ?_ ?_ ?_ ?_ ?_ ?_ ?_ ?_ ?_ ?_ ?_ ?_ ?_ ?_ ?_ ?_ ?_ ?_ ?_ ?_ ?_ ?_ ?_ ?_ ?_ ?_ ?_ ?_ ?_ ?_ ?_ ?_ ?_ ?_ ?_ ?_ ?_
  (case aC=>k_is)
  all_goals(try k_is)
  all_goals(try first | exact⟨_,_,by k_is,L2.fun_mk (by k_is) (by k_is) (by k_is)⟩ | exact⟨_,_,by k_is,by k_is,by k_is,L2.fun_mk (by k_is) (by k_is) (by k_is)⟩ | k_is | kit_is | kts_exm | k_exc)
end
