import PyProof.Rows.All
import KE.KDictOf
import KE.KDictSum
import KE.KEqDict
import KE.KSortTup
import KE.KTryMore
import Lean
import OpenK.AllK
import PyProof.EqAt
import PyProof.EqKinds
import PyProof.NsDelKeeps
import PyProof.ReprLen
import PyProof.ReprRoads
import PyProof.Rows.StrMadeLen
import PyProof.SliceStr2
import PyProof.StrLaws
import PyProof.TupleCall
import Wide.All
import Wide.FinOn
import PySem.Challenge.RW_fivehues_k54_four_hues_mirrored
set_option Elab.async false
set_option linter.all false
set_option maxRecDepth 100000
set_option maxHeartbeats 4000000
abbrev Qa:=@List.length_map
abbrev Qb:=@List.mem_cons_self
abbrev Qc:=@List.mem_singleton
abbrev Qd:=@List.getElem?_eq_getElem
abbrev Qe:=@List.mem_cons_of_mem
abbrev Qf:=@List.mem_cons
abbrev Qg:=@Nat.le_refl
abbrev Qh:=@List.mem_map
abbrev Qi:=@List.mem_append_right
abbrev Qj:=@PySem.Heap.get?_push_of_some
abbrev Qk:=@List.mem_append
abbrev Ql:=@List.take_succ_eq_append_getElem
abbrev Qm:=@List.map_cons
abbrev Qn:=@Option.some.inj
abbrev Qo:=@List.getElem?_map
abbrev Qp:=@List.map_append
abbrev Qq:=@List.mem_append_left
abbrev Qr:=@List.nodup_cons
abbrev Qs:=@List.getElem_mem
abbrev Qt:=@List.take_of_length_le
abbrev Qu:=@List.length_cons
abbrev Qv:=@PySem.Heap.lt_size
abbrev Qw:=@List.size_toArray
abbrev Qx:=@List.append_assoc
abbrev Qy:=@List.getElem?_eq_some_iff
abbrev Qz:=@List.length_append
abbrev Za:=@PySem.Heap.get?_push_size
abbrev Zb:=@Nat.zero_le
abbrev Zc:=@List.nodup_append
abbrev Zd:=@List.getD_eq_getElem?_getD
abbrev Ze:=@Nat.le_trans
abbrev Zf:=@PySem.PassesOwn.never
abbrev Zg:=@List.mem_filter
abbrev Zh:=@Bool.false_ne_true
abbrev Zi:=@Nat.ne_of_lt
abbrev Zj:=@List.map_map
abbrev Zk:=@Ne.symm
abbrev Zl:=@List.getElem_map
abbrev Zm:=@List.nodup_nil
abbrev Zn:=@List.sum_cons
abbrev Zo:=@Int.eq_ofNat_of_zero_le
abbrev Zp:=@PySem.F.plainAttrs_list
abbrev Zq:=@List.length_take
abbrev Zr:=@List.getElem_of_mem
abbrev Zs:=@List.filter_cons_of_pos
abbrev Zt:=@List.filter_cons_of_neg
abbrev Zu:=@List.mem_flatten
abbrev Zv:=@PySem.W.mg_none_of
abbrev Zw:=@Nat.lt_of_lt_of_le
abbrev Zx:=@List.append_nil
abbrev Zy:=@PySem.Paired.length
abbrev Zz:=@List.map_congr_left
abbrev Ya:=@List.Perm.append_left
abbrev Yb:=@List.any_eq_true
abbrev Yc:=@PySem.boot_len
abbrev Yd:=@List.mem_of_getElem?
abbrev Yf:=@PySem.Heap.get?_update_other
abbrev Yh:=@List.length_pos_of_mem
abbrev Yi:=@List.length_erase_of_mem
abbrev Yj:=@List.length_range
abbrev Yl:=@List.append_of_mem
abbrev Ym:=@Array.perm_iff_toList_perm
abbrev Yn:=@Array.toList_append
abbrev Yo:=@List.drop_eq_getElem_cons
abbrev Yp:=@Nat.ne_of_gt
abbrev Yq:=@List.flatten_cons
abbrev Yr:=@PySem.F.type_list_append
abbrev Ys:=@PySem.F.slot_list_append
abbrev Yu:=@Nat.lt_irrefl
abbrev Yv:=@PySem.Around.under_plainId
abbrev Yw:=@Bool.eq_iff_iff
abbrev Yx:=@List.filter_append
abbrev Yy:=@List.Nodup.sublist
abbrev Yz:=@Nat.lt_succ_self
abbrev Wa:=@List.getElem_inj
abbrev Wc:=@List.take_append_drop
abbrev Wd:=@Sum.inr.inj
abbrev We:=@List.mem_reverse
abbrev Wf:=@List.perm_append_comm
abbrev Wg:=@List.length_filter_le
abbrev Wh:=@List.mem_range
abbrev Wi:=@List.length_nil
abbrev Wj:=@PyProof.Rows.boot_list
abbrev Wk:=@Nat.lt_trans
abbrev Wl:=@PySem.mem_of_lookup
abbrev Wm:=@List.flatten_append
abbrev Wn:=@Array.length_toList
abbrev Wo:=@List.filter_nil
abbrev Wp:=@PySem.Heap.size_push
abbrev Wq:=@PySem.F.called_set
abbrev Wr:=@Nat.le_add_right
abbrev Ws:=@List.cons_append
abbrev Wt:=@PyProof.Rows.boot_sorted
abbrev Wu:=@Nat.le_of_lt
abbrev Wv:=@List.mem_of_mem_take
abbrev Ww:=@List.lt_irrefl
abbrev Wx:=@Int.toNat_natCast
abbrev Wy:=@List.nil_append
abbrev Wz:=@Prod.ext
abbrev Ua:=@PyProof.Rows.callWith_type1
abbrev Ub:=@List.find?_cons_of_pos
abbrev Uc:=@List.find?_cons_of_neg
abbrev Ud:=@List.drop_of_length_le
abbrev Ue:=@Array.getD_eq_getD_getElem?
abbrev Uf:=@List.lookup_cons
abbrev Ug:=@List.all_eq_true
abbrev Uh:=@PySem.F.slot_dict_keyiterator_next
abbrev Ui:=@List.getElem_range
abbrev Uj:=@List.mem_of_mem_erase
abbrev Uk:=@Array.getElem?_toList
abbrev Ul:=@List.find?_cons
abbrev Um:=@Nat.le_succ
abbrev Uo:=@List.take_sublist
abbrev Uq:=@List.reverse_perm
abbrev Ur:=@List.pairwise_map
abbrev Us:=@PySem.Heap.get?_update_self
abbrev Ut:=@List.map_take
abbrev Uu:=@List.length_pos_iff
abbrev Uv:=@PySem.F.plain_min_loop
abbrev Uw:=@List.length_singleton
abbrev Ux:=@List.getElem_take
abbrev Uy:=@PySem.SeqAt.EqAt.str_str
abbrev Uz:=@Prod.mk.inj
abbrev Ja:=@Nat.mod_lt
abbrev Jb:=@List.perm_ext_iff_of_nodup
abbrev Jc:=@List.mem_of_mem_drop
abbrev Jd:=@PyProof.Rows.KeyOrd.kle_trans
abbrev Je:=@List.not_mem_nil
abbrev Jf:=@Bool.and_eq_true
abbrev Jg:=@Decidable.byContradiction
abbrev Jh:=@List.perm_iff_count
abbrev Ji:=@List.length_reverse
abbrev Jj:=@List.filter_sublist
abbrev Jk:=@List.map_drop
abbrev Jl:=@PySem.F.slot_tuple_iterator_next
abbrev Jm:=@List.foldl_cons
abbrev Jn:=@List.filter_map
abbrev Jo:=@Nat.lt_of_le_of_lt
abbrev Jp:=@List.zip_cons_cons
abbrev Jq:=@List.pairwise_cons
abbrev Jr:=@List.ne_nil_of_mem
abbrev Js:=@Bool.false_eq_true
abbrev Jt:=@PyProof.Rows.boot_repr
abbrev Ju:=@Nat.lt_succ_of_lt
abbrev Jv:=@List.count_append
abbrev Jw:=@Bool.not_eq_true'
abbrev Jx:=@Array.toList_push
abbrev Jy:=@PySem.Calls.spliced_cons
abbrev Jz:=@List.length_replicate
abbrev Ka:=@List.getElem?_eq_none
abbrev Kb:=@Classical.choose_spec
abbrev Kc:=@List.perm_middle
abbrev Kd:=@List.length_drop
abbrev Ke:=@PySem.W.mg_of
abbrev Kf:=@List.perm_cons_erase
abbrev Kg:=@List.getElem_toArray
abbrev Kh:=@Array.toList_reverse
abbrev Ki:=@List.count_cons
abbrev Kj:=@PyProof.Rows.KeyOrd.kle_refl
abbrev Kk:=@Bool.or_eq_true
abbrev Kl:=@Nat.sub_self
abbrev Km:=@Nat.le_of_eq
abbrev Kn:=@List.getElem?_append_right
abbrev Ko:=@Int.emod_lt_of_pos
abbrev Kp:=@PyProof.Rows.KeyOrd.kle_of_klt
abbrev Kq:=@List.pairwise_iff_getElem
abbrev Kr:=@List.extract_eq_take_drop
abbrev Ks:=@Classical.byContradiction
abbrev Kt:=@Array.getElem?_eq_getElem
abbrev Ku:=@Nat.lt_of_succ_lt
abbrev Kv:=@List.filter_congr
abbrev Kw:=@PySem.Heap.SameBut.update
abbrev Kx:=@List.any_cons
abbrev Ky:=@List.Pairwise.imp_of_mem
abbrev Kz:=@PySem.W.KasT.kasWp_bind
abbrev Xa:=@PySem.F.type_list_index
abbrev Xb:=@PySem.F.type_list_clear
abbrev Xc:=@PySem.F.slot_list_index
abbrev Xd:=@PySem.F.slot_list_clear
abbrev Xe:=@PySem.Obj.data_mapFields
abbrev Xf:=@Nat.succ_ne_self
abbrev Xg:=@List.pairwise_singleton
abbrev Xh:=@List.map_reverse
abbrev Xi:=@List.ext_getElem
abbrev Xj:=@List.cons_ne_nil
abbrev Xk:=@Array.toList_map
abbrev Xl:=@Array.toList_inj
abbrev Xm:=@PyProof.Rows.boot_dict
abbrev Xn:=@Nat.lt_of_succ_lt_succ
abbrev Xo:=@List.map_nil
abbrev Xp:=@Nat.not_lt_zero
abbrev Xq:=@Int.emod_nonneg
abbrev Xr:=@PySem.Calls.spliced_nil
abbrev Xs:=@PySem.W.methodCall_KW
abbrev Xt:=@PySem.F.slot_dict_get
abbrev Xu:=@List.singleton_append
abbrev Xv:=@PySem.F.slot_list_getattribute
abbrev Na:=PySem.W.Frag
abbrev Nb:=PySem.Addr
abbrev Nc:=PySem.Value→PySem.Shared→Prop
abbrev Nd:=PySem.Str→Option PySem.Value
abbrev Ng:=List PySem.Str
abbrev Nh:=List (PySem.Addr×PySem.Obj)
abbrev Ni:=PySem.Shared
abbrev Nj:=List PySem.Value
abbrev Nk:=PySem.Program
abbrev Nl:=PySem.World
abbrev Nn:=List PySem.Addr
abbrev No:=PySem.Heap
abbrev Np:=PySem.Around
abbrev Nq:=PySem.Str→List PySem.Str
abbrev Nr:=List PySem.Expr
abbrev Nt:=List (PySem.Str×PySem.Str)
abbrev Nu:=List (Option Nat)
abbrev Nv:=PySem.FuncData
abbrev Nw:=PySem.Result→PySem.Shared→Prop
abbrev Nx:=PySem.Str→PySem.Str
def zS(c:String):String:=
if c="Z" then"A Inv X a5 σ
B FnOk P w K mg base CX0
C Inv X a5
D FnOk P w K mg base
E wpAny (model X.prog X.w) X.A
F wpAny (model X.prog X.w)
G wpAny (model prog w) A
I wpAny (model prog w)
J row (rsOf es)
K Cal P w K mg base
L zb1 X sc M C a5 ex s
M wpS (model prog w) A E s
O PySem.W.nsIn K mainGlobals
P swN (row (rsOf es)) hs
Q zaa (pv 0)
R usN (row (rsOf es)) (L.foldl exN hs)
S upd H
U zaa (pv 1)
V wpAny _
W nmP zs m
X zaa (pv 2)
Y usN (row (rsOf es))
Z L.foldl exN
0 za8 Zf rfl
1 PySem.W.findIn K (.ref C)
2 nmP zs
3 onN r (exN hs (swN r hs q)) x
4 upd (upd (upd H3 q (.lst (e.2.1.map V.str))) q2 (.lst (e.2.1.reverse.map V.str))) t
5 twN (row (rsOf es)) hs e.1
6 SortSt.mk' (kindOf aw) (arrOf aw) (pendingOf aw)
7 PE X
8 FnOk X.prog X.w X.K X.mg X.base CX k f fd ps
9 EP X a5 σ
' onN (row (rsOf es))" else
if c="Q" then"A upd H2
B zbx X.prog X.w
C zaa (pv 3)
D Fun K
E row (za6 (za6 (rsOf es) e1.1 (ins e1.2.1 (some u.1) e2.1)) e2.1 (ins e2.2.1 (some v.1) e1.1))
F Bs kd a₀ p
G Cert ns r cs
H fsN (row (rsOf es)) hs e.1
I zbz hu (pv 0)
J upd H1
K Qe _
L kk kf p
M swN r hs
N HT.sIx xs.length
O pcl GT ai
P Cmp prog w A E s kd
Q fpN (row (rsOf es))
R zaa (pv 5)
S zbe I q
T upd H4
U upd H5
V Rn kd a₀ tot
W putK (eWV es) (Sum.inr x)
X cxOf CX P w K mg base N qual scope f
Y FpOk X a5 H
Z za5 za2
3 kk kf
4 WAt H' C x dx
5 T.keep _ _ _
6 zas X.prog
7 PySem.strKind prog
8 zaa (pv 4)
9 upd (QU L (.lst (as.map V.ref))) mm" else
if c="W" then"A ze2 X sc oz M C a5 ex s
B zaa zah
C Qi _
D Vals xs
F za5 zbs
G Qj _
H SqL X.K H p
I upd (upd H' q (.lst (e.2.1.map V.str))) t
J RelV x
K Binds K
L clOf sc
N ct cs a9
O SqL X.K H
P wt ns r a9
Q ze9 Zp Ys Yr zca
R twN r hs x
S wpAny_typeNameOfWhole_keyiter st.typeIs
T fpN r t (cbN r hs x L) m
U upd H3
V Conn r x
W PySem.W.instObj C
X HOk P w H
Y T.obj _ _
Z PySem.W.fnOf x qual (zdf st) (zco st)
0 zbk rfl
1 zac ec
2 trN (row (rsOf es)) hs
3 Keep xs H
4 wpAny_passesOwn hp
5 Blk X sc M
6 wpAny_typeNameOf_keyiter st.typeIs
7 upd (QA D (.lst (fa.map V.ref))) d
8 Aj3 (DrE H' d ag) (Pot H' p b' m')" else
if c="Y" then"A dg r D
B D.nx σ
C za4 zb8
D RelV y
E I'.letgo hn hC I2.lt I2.cl_lt I2.pin_lt I2.sz ad
F upd H6
G Qq _
H zbx P w H h a
I upd H'
J zaa (pv 6)
K Vals ys
L cutV (zs.map V.str)
M SqL K H a
N PySem.W.keepIn K
O inner ix
Q Turn X.prog X.w X.K tg J fp it
R PTs (ZL H) ifs
S Aj2 (SG st aa)
T Paired R
U C.sy _ _
V DrE H' d
W nxt (r b)
X setE (setE es e1.1 (ins e1.2.1 (some u.1) e2.1) a1) e2.1 (ins e2.2.1 (some v.1) e1.1)
Y SqL K H
Z Pa a b o i
0 Conn r'
1 cutV (e.2.1.map V.str)
2 Loc X.env.scope
3 OpR X
4 zcf X
5 Nf K
6 exN hs
7 tSeq (tAsg (tC (V.int 0)) (zez 4)) _ _ _
8 Inv Y
9 zcj rfl
' PySem.W.plainGet K C" else
if c="U" then"A putK kvs
B SeqAt.EqAt A s
C PySem.W.fnOf x
D Pa a b
E Ph a b
F Cyc (st r')
G cbN r hs x
H upd (ZS q (.lst (e.2.1.map V.str))) l1
I PG (ZL H) tg
J PE (ZL H)
K zal zaq
L zbt rfl
M KV kvs
N cutV (ps.map V.ref)
O Zv X G
P setE (setE es e1.1 (ins e1.2.1 c1 e2.1) a1) e2.1 (ins e2.2.1 c2 e1.1)
Q wpAny_mono (turn n s hI)
R zb9 hu (pv 2)
S TrI zs m
T zbx P w
U PI X tg
V Binds X.K fd ps
W setE es
X ins zs (some c)
Y RelV v
Z Aj2 (ZC σ' H' s')
0 Room k
1 dg r
2 Value.str x
3 Pot H' p b'
4 T.done Y eP eW eK eC i _ s5 τ H5
5 T.item Y eP eW eK eC i _ s5 τ H5
6 upd (QJ D (.lst (G.map V.str))) d
7 HOk X.prog X.w
8 putF f v
9 StateT SortSt Sem
' zcc prog w A E" else
if c="J" then"A zam 0
B zb5 zcn (pv 0)
C zaw C.nd
D upd H7
E Web ns r
F zcb C L
G upd (QT dx (.own x)) x
H Za _
I PySem.W.fnOf name qual params body scope dV kV doc pm an cdv
J wpAny_call_entry Uh st.typeIs F.entry_dict_keyiterator_next
K ins e1.2.1 (some u.1)
L ins e2.2.1 (some v.1)
M trR m
N wpAny_seqItems hS rfl
O I.cell x c
P SqT K H a
Q Walks prog w A.in1 I fp wr n P
R onN r hs x
S fsN r hs x
T wpAny_call_entry Jl st.typeIs F.entry_tuple_iterator_next
U zb5 zcn
V usN r (ZZ hs)
W I.freeC x c
X valV kvs
Y cxOf CX0 P w K mg base N qual (zai st) f cdv A outer s H
Z wpS M A E s
0 wpAny_setField ho hd
1 hu hs
3 I.base.free b o
4 Env0 P w K mg base A outer s
5 wpAny_mono h₁
6 wpAny_mono h₂
7 row rs
8 itr rs
9 PySem.W.hasDictIn K
' Vals (zs.map V.str)" else
if c="B" then"a BindsTo s fd
b Zw (Qv e)
c zar op_ne
d Builtin.List.listExtendWith (.ref s.heap.objs.size)
e zas P
f PySem.W.methodObj (.ref f)
g I.base.there b o e
h zbh fp
i hidT s₁.heap
j zar zil (pv 4)
k zbl (zs.map V.str)
l C.cy c
m C.inc hc
n zb9 hu
o st (row (rsOf es))
p zci rfl aV
q ex (zs.take i) a b
r trN r hs
t zal (zdg hr.gd eQ)
u I.pin p
v J.yld i H x
w zgs I hg hm
x dk_rd I.hok
y dt_rd I.hok
z turn i n ys τ H5
A I7.pinned (fN n7)
B wpAny_field ho hd
C za4 zd7
D zap 4
E KpT wr S h0
F t_ask h0 hc P
G nxt zs
H usN r (Y6 (QM q))
I PySem.W.codeIn K
J zd2 rx fx r fs w
K wpAny_mono h₁'
L rLC g tc te Q J (YO σ)
M T.self _ 0 _ _ _
N ins p.2 c
O st r
P Meth K C
Q pcl GO hr
R I.base.keep b o e n hb
S I.base.slot b o e n hb
T DGet H
U F.args_list_append_2 _
V Room 1
W zaa (pv 7)
X tot ns
Y innP zs
Z outP zs
4 Vis X.env.scope
5 wpAny_mono h₃
7 setO X.prog X.w
8 zap 3
9 Heap.SameBut a s.heap" else
if c="X" then"w Ar n
x zbl (e.2.1.map V.str)
y wpAny_loadName_local I.ok.kind hk hn hm
z inv_blk B I3 fpx fplt rfl hns₁ k1 rfl
A Value.int i
B wpAny_loadName_cell I.ok.kind hk hc dh
C PassesOwn (model X.prog X.w) X.A X.env
D I1.fpOk (Qg _)
E PySem.W.isFn K
F BlkG X sc oz M
G zac e
H pidx zs.length
I zam 5
J Ze (Wg _ _)
L zaw nd
M Less r r' v
N Ze (W.rl e he)
O zby (Bj (pv 3) (zbf _)) (zag ps_break)
Q hs_len W hh.nd
R I.hok b
S wpAny M A
T SP X a5
U I.hok p _
V Of a₀
W Up kf p
X zfv h v x
Y za4 zfo
Z PySem.W.lookIn name
0 PySem.W.plainOver K
1 Rnd (row (rsOf es))
2 zik MW GI ss rfl mW
3 pe_bm0 Zp Xd Xb zir
4 fpN (row (rsOf ts))
5 Turn P w K tg
6 pe_fld (pv 0)
7 row (rsOf ts)
8 vl r'
9 RelO (fs.lookup f)
' Un fs ex H" else
if c="K" then"A PS X
B wpAny_pyNext_list_end (I.ok.hd hc)
C ObjM s.heap x dx C
D wpAny_specialOf hT
F wpAny_getItem_list_slice ht.isList
G IntsAre vs
H FnOk l.prog w (K w.params) mg base
I ocl oz
J FpOk Y
K PySem.list_append D a7.toArray k y
L I'.thaw e1
M nxt (r' p)
N zat h1
O upd H8
P atI qwe.cps.toList
Q dg (row (rsOf es))
R SwAt B H a
S W.rl e
U SortSt.mk' (kindOf st) (arrOf st)
W Aj3 (BAt H' b bs (row (rsOf es)))
Y zac q
Z J.stop i
0 wpAny (model P w)
1 Itl K
2 PySem.W.makesIn K
3 Meth X.K C m
4 Vals dvs
5 zg4 CX X
6 KT H kvs
7 RAt H d
8 za4 zgn
9 Lk f s t
' za4 zgm" else
if c="V" then"a zar (zdp dB)
b bk m
c tw hs h0
d Alike items.toList items2.toList
e fpN r xs
f zaw wt.ta.nd
g Option.map _
h Un (frs X.stack) ch H H' s.heap
i Rd H a
j SqT X.K H
k zhn I.hok
l Yf _ _
m HT.sIx a7.length
n rLC2 g1 iq g tc te Q J (YO σ)
o Pot H p b
p zaj (zam 1 ndPA)
q ze9 Zp Xc Xa ziq
r Lk f
s upd H9 fl
t Lk (st r)
u PutI d es e1 e2 c1 c2 H' a1 a2
v Ze (D8.row e he)
w zaw C8.nd
x zeb hh.nd
y Paired (RdV H n)
z I.ok.bs b o
A hf it
B Cls K
C wpAny_newFunctionEnv B.nocell
D Yy (Uo _ _)
E zam 6
F ins e.2.1 c
G trF m
H hu_at hh.nd
I RdV H
J PySem.Within mA
L X.s₀.heap.FunFrames X.base
M I.ok.cab x c tG
N PT X
O ld_glob I hg hm
P PA X
Q Int.fdiv_eq_ediv_of_nonneg i
R Int.fmod_eq_emod_of_nonneg i
S wpAny_mono h₄
T C.one_lab bC cD
U putK (eWV es) (Sum.inr e0.1)
W Cls X.K
X start N
Y PySem.F.args_dict_get_3 _ _
Z putK (marks ks) (Sum.inr x)
0 CmpT prog w A.in1 wr S h0 P
1 putK (cnt ks F) (Sum.inr x)
2 goB t m
3 TP X a5 σ
4 Gl X
5 PSs X
6 zak N ps
7 Inv (QX cdv A outer s H E)
8 Calls.callWith_builtin rfl
9 tLC ix wi g tc
' Ya _" else
if c="M" then"a keep h' tk
b Yv F.plain_set_update_loop
c rDC g tc tk tv Q J (YO σ)
d zb1 X sc M g2.objs.size a5
e At s.heap d es
f za6 rs
g WAt H C x dx d
h C.ro x
i C.la p
j C.inc bC
l zac T.dc
m zap 5
n zbz hu
o zac hz
p zap 2
q Room 2
r del_ne C
s lk_del C L
t HAt H'
u Pre ns r
v cnt ks
w us_is wt.ta.nd
x cbN (row (rsOf es)) hs e.1
y StAt B
z hf v u s2 x y H2 I2 r1 r2
A wpAny_pyNext_list_item st
B List.set_append_right _ _
C Bs kd a₀ (pendingOf bh)
D List.replicate z.cps.size
E I.ok.noex b o
F ins_get I.hok
G ixN xs.length
H List.Perm.append_right _
I zbr (zc4 rfl)
J zaj (JA ndPA)
K W.frame _ _ _
L zaa (zbi zae)
M dropK kvs
N step x H7
O I.hok a _
P wpAny_dictEntries mU gF
Q zam 2
R zap 1
S zam 4
T T.keep k1
U zd4 B H l
V List.mem_cons_of_mem _
X wpAny_mono h
Y IsTup s.heap
Z Inv (X.wish E) a5 σ H
0 Vals vs
1 PG X (.Tuple es k pos)
3 J.go i
4 za9 hb
5 binT ha hb I
6 zd9 K C
7 cutV xs
8 PySem.call f
9 kV doc
' loop _" else
if c="N" then"y zgb I' hN aK (.inl hy)
z O.kle (QL i)
A Dn kf p
B R.ro e
C inClass sWeb
D RwAt H' l as
E zbu hc
F leaf_mem C hp hx h1 h3
G zc7 hu
H Conn (row (rsOf es)) x
I zcu GP hr rfl mP FP.kp
J zcu GF hr rfl mF FF.kp
K DrE H d
L zb6 D8.ra.nd
M upd H0
N vl r
O Conn.symm sy
P wrd b s
Q hf _ _
R zaa (QO (ZX (WB zae)))
S kp b o hw hs
T wpAny_updateSeq cU rfl
U ResAt H H' t
V Ke X G
W tMeth C m sp dvs E ta
X Heap.SameBut j s.heap
Y wpAny_dictEpoch mU gF
Z DGet H4 d (.str e0.1)
0 sum_exch h1 a9 (vl r)
3 Conn (r2 es hs h o) s
4 RelV p.2
5 Ze I.ok.bsz
6 tOp r ta
7 zfh I1 ea c
8 CE outer P w H s Q u
9 RelV (kV k)
' SeqAt.EqAt.int_int a" else
if c="D" then"a IY.ok.exf b
b I3.stkSub b
c Value.str y
d zfw hc I
e wpAny_seqItems hp hk
f Heap.ExtBut j s.heap
g wpAny_pyIter_enum he
h wpAny_fieldsOf ho hd
i zam 3
j C.sy x y
k zfr C hp hx h1 h3 hm
l zfn C.nd
m nxt (r y.2)
o zap 6
p Ja _
q Aj2 (YV ag)
r Conn (trF m) (tr0 m)
s zcp ns r
t zaa (pcl GX bj (ZU (BW zae)))
u zaa (BQ (YJ (QR zae)))
v PySem.W.takerIn K C
w Vals (ns.map V.int)
x PySem.IsL.update kh
y Wk (I2.cl_lt _ _ z)
z beyondT left ky arr
C zcc prog w A' E' s'
D Rnd (row (rsOf ag))
E I.stkSub b
F PG X (.Name x pos)
G Itr lo
H Wr _
I call (.builtin id)
J och oz
K pairO strO
L zfv s.heap
M rowV H
O kvP s.heap
P Rd H d
Q Thaw X
R nxt (UX n)
S ins (r p) (some c)
T nd_ins hc (C.rn p)
U Paired (zdk H') fa
V zes Zf
W nxt_erase (C.rn b)
X nxt (r' b)
Y del_st C L
Z bitF f" else
if c="F" then"a za5 ix_str
b st (trF m)
c ordP m
d PGs X
e Itt K
f d_getItem hu I2 g
g SG st
h Itd d o
i tDC ix wi g tc tk
j zdz _
k zar zcz
l Cert ns
m SqB b K
n ItB b K
o zat h
p pg_sub (pv 0) zah
q zaa zhi
r Flat ns
s ct D a9
t SameM H
u flatD x
v zg5 k n
w hf b
x PPs X pos
y O.blt b.1
z Yv plain_eq_loop
A rNil true
B RowAt knd s.heap
C ins p.2 (some c)
D List.replicate n
E zar op_lt
G ct (cs.erase c1)
H zay R3.ts
I nxt e.2.1
J zar op_gt
K pcl GI ai
M D6.pot bd
Q List.Perm.cons _
R wrd bg st
U ord_lt h7
V T5.kp _ _
W T7.kp _ _
X IspRounds K vs H
Y pcl GP ai
Z ex zs a b
' zdu bt hi ht k j" else
if c="G" then"a IspSwapOf C vs H
b PSI H' as
c zaj (MS scFs.nd)
d zgg (zif I n) pr
e RowC H pl
h some (.ref $a)
o .ref $a
q model X.prog X.w
s SqL.of $a
w .lst $a
x Keep.new $a
y .ref s.heap.objs.size
z some $a
J model prog w
V Qg _
' .dK (eWV es)" else
if c="H" then"b ZA H s
f .inl rfl
m eval $a X.env
n V.str (ZW $a)
t .int $a
v beq_iff_eq.mpr z
w row (rsOf es)
y SqT.of $a
z zaa $a zae
J decide_eq_true $a
Q pv 1
R Keep.wr Gf
S pendingOf $a
U Gw (e.2.1.map V.str)
W Gw (as.map V.ref)" else
if c="R" then"b .str e.1
e Gw (ws.map V.str)
f .inl $a
g Go a
h ha a5 s σ H _ I h
i he a5 s σ H _ I h
j pv 0
k .cons $a .nil
l zs.map V.str
m if_neg $a
o List.range $a
p .dK kvs
q Classical.propDecidable _
r wpAny_pure $a
t envOfC qual scope s.heap.objs.size f $a
u I.tok _
v if_pos $a
w starEach es X.env
x pv 4
y congrArg Prod.snd e
z pv 2
A pv 3
C .Slice none none (Gz (.UnaryOp .USub (.Constant (.int 1) k p4) p3)) p2
D pv 5
E zbf _
G .inr $a
H Go l
I zs.getD $a Str.empty
J Gz (.int $a)
K hi a5 s σ H _ I h
M assign (.Name y py) X.env
N .str $a
O Sum.inr e.1
P Zb _
Q GK Qa
S wpAny_bind $a
T QO (ZU (zaa (UK Hh ae Yc $a) zae))
U Qc.mpr rfl
V ZX zae
X .tup xs
Y Sum.inr $a
Z ZU zae
6 congrArg Prod.fst e" else
if c="S" then"a I.hok.fresh GV
b .fresh 0 0 led
c decide_eq_false $a
d ha pos a5 s σ H _ I h
e Rf (Gs $a)
f ho a5 s σ H _ I h
g List $a
h Gi 2
i QS Gf
j ZQ zae
k WB zae
l .int $a $b
m arrOf $a
n .str e1.1
o zbi zae
q Gw xs
r I.ok.hd hc
s .frz o' u'
u Qf.mpr hy
v Go p
w WL X.env
x Y6 (ZP q)
y V.int $a
z Go D
A JH rfl
C Go it
D ForInStep.yield $a
E pcl $a $b (ZQ (ZU $c))
F .bool true
H QC zae
I of_decide_eq_true $a
J .dK (marks $a)
K Gz (RN $a)
L tupleKind_room_in1 hu
M zby $a (zag zih) zau
N letOwnedTupleGo target it v
O zs.idxOf z
Q k1.trans $a
R k _ _ Hf e
S WF $a zah GD
T WZ (zai st) .none kV doc pm an cdv ct
U .str e2.1
V .frz o $a
W .Subscript $a $b pos
X zaj $a zbn
Y Z9 Q
Z Q6 X.w
0 Option Value
1 .bl true
2 rsOf $a
3 Gw (ini.map V.str)
4 Q8 zae
5 k2.trans $a
6 ZR e.1
7 Gw (T.reverse.map V.str)
8 WC (WC (M4 e))
9 .dT kvs
' pairsOf vs" else
if c="T" then"a Gh d
b .Name x $a
c .Attribute $a m apos
d .compLoop $a $b it $c env
e hb a5 s1 σ H1 _ I1 q1
f hi a5 s1 σ H1 _ I1 q1
g .ref e.2.2
h Gs zab
i argBest bt $a
j assignEach $a X.env
k bD _ _ $a
l Qy.mp $a
n ps.zip us
o Z6 $a (failedOf aw)
p V.bl true
q Gx ht
r Z7 a ta
s Qh.mpr $a
t I1.hok.fresh GV
u .ins C dx fs
v .tup (k.map kV)
w eqU x
x ns.map V.int
y zai st
z Or.inr rfl
B QK hb
C Gi 0
D C.rn p
F pv 6
H k1 c o ec Gf
J Go f
K Go t
L WW s.heap.objs.size
N assign target env v
Q keyKind' vs.toArray
R RN x
U Qv e
V zbw (B.clos I)
W .builtin id
X Gw ys
Y hl a5 s σ H _ I h
Z QR zae" else
if c="L" then"a V.ref $a
b Z7 e te
c Be w
d h a5 s σ H $a I $b
e RR af cenv.locals
f QK hx
g Gw (dl.map V.ref)
h Gw (ns.map V.str)
i Gw (us.map V.int)
j Gw (ms.map V.int)
l QK hy
m i1 _ _
n backTo pos $a
o wpAny_load hS (Rr (h g tk af hk (Wu (Qv hS)) ha))
p pyNext (Go $a)
q tn i s'.heap
r compareOp .NotEq
s as.map V.ref
u k3.trans $a
v Gw (G.map V.str)
w k4.trans $a
x pv 7
y Gw (S.map V.str)
z Y9 (zaj $a $b)
A zaa $a zae
B zax (zbo $a)
C QZ $a $b GD
D sgm _
E UC x (zdf st) (zco st) Ty .none kV doc pm an cdv ct
F compEnvC sc $a g2.objs.size X.env
G A.deeper (envOfC qual Ty s.heap.objs.size f cdv)
H row (S2 $a)
I eval $a env
J .cons $a $b
K uw.letgo bw hC I2.lt I2.cl_lt I2.pin_lt I2.sz ad bv
L .Name y py
M pcl $a $b (ZQ $c)
N UU iter wi
O model P w
P .ok .next
Q Gp eEx hb
R e.2.1.map V.str
S k6.sub Gf
T .lst xs.reverse
U Qc.mp $a
V ho a5 s1 σ H1 _ I1 q1
W .dK (QW Rg)
X es.take $a
Y .tup ys
Z WG e
0 W i n ys τ H'
4 .ok (.ret $a)
5 C.inn' $a
6 hh.2 _ _ $a $b
7 Keep.wr Qb
8 zdo rfl
9 Gz (zbp $a)" else
if c="C" then"a g i j
b h1.trans z
c kV_is ry
d k2 b o e
e XG HD
f Go d
g Gw Rl
h Gp aA hj
i YF $a (Gw $b)
j Paired (Hr H') as am
k GW ks
l Pv 0 σ H
m Bb I.ok.above
n Gz (iV $a)
o f (Sl i t) (Sl j u)
p .int ys.length
q zba (WQ $a $b)
r Qr.mpr $a
s zal $a Hh aR Wt $b
u Us _ ho (Obj.isFreed_of_fields (Xe hd _))
v beq_eq_false_iff_ne.mpr $a
w tupleKind $a
y .own a
z neC b o e hx
A Hm e
B ho a5 s2 σ H2 x y v u _ I2 r1 r2 q2
C RR Sz g2.objs.size
F l.map $a
G r.ro e he
H C.rn o
I .dT (Hg $a)
J .dK (eWV $a)
K k5.trans $a
L k9.sub Gf
M beq_self_eq_true $a
N ZS $a Hk
O Gx hq
P Gx h2
Q L.getD $a sp
S .str sp.1
T .str sp.2
U getMethod ov m pl
V Array.Perm.refl _
W Go I
Y RY x
Z Rv rfl
0 e0.2.1.erase e1.1
2 Gz Rb
4 WC Qb
5 GK aA
7 Z7 b tb
9 Z7 o td" else
if c="E" then"a hh.keep $a Gf
b fin _ R.kind R.failed R.perm rfl
c Builtin.SmallTypes.nextOf (Go j)
d F.args_dict_keyiterator_next_1 _
e pv 1
f hn.mem_iff.mp hx
g Gz (.ref en.2.2)
h Gz (.ref e0.2.2)
i Gz (.ref e1.2.2)
j YU L.tie
k .dK (putK $a (RY (ZW $b)) (Go $c))
l Y3 (compareOp op) r
m s.heap.IsTuple t xs
n h.Ns mainGlobals mg
o ZS a o
p xs.map $a
r .own x
s I.hok.fresh $a
t σ.set i (Gz v)
u Zi (Bb (VM hc))
v Tb pos
w Ht i
x .bl false
y eval iter X.env
z rawInt $a
A Rf (PyProof.noPylong_small Gg)
B Go fa
C Or.inl rfl
D KY H5D
E M' rfl
F Option Nat
G vs.getD i .none
H .ret .none
I F.args_tuple_iterator_next_1 _
J .DictComp kx vx gens scope pos
K S2 es
L List.not_lt.mp $a
M Gx h3
N C.cm $a
O C.inn $a
Q zeh Rj
R SV G'
S Gs (k5 _ _ eY Gf)
T YJ zae
U none' b m H3 be D3 (dw.sub Gf)
V Gk nlp
W Gh l
X ZS l $a
Y relabel $a env
Z YO σ
1 k _ _ e
2 strValues $a
3 Gs az
4 s.heap.IsKeyIter j d i es.size ep
5 Go x
6 Yu _
7 Zi TU
8 .type T
9 RN z" else
if c="I" then"a Go j
b Gi 1
c zch (pc_din $a $b HQ)
d Z7 i ty
e QD x qual st f fd
g Gh p
h Gh x
i nt c xs q
j k _ _ $a Gf
k Gv du zab
l k7.sub Gf
m k5.sub Gf
o List Swap
p pyIter $a
q binaryOp .Add
r Go C
u hn b hb
v keyLt' kd x y
w zao $a
x k2 _ _ $a Gf
y k6 _ _ $a Gf
z zaf hb
A hd σ H p
B Sl 0 0
C V.ref e.2
D i0 _ _
E Sl $a t
F zez i
G VX vs
H Hx hD
I RG hy
J vs.toArray.zip vs.toArray
K Zi lt
L Gk hz
M Gx h4
N zc6 C
O row (S2 $a) y
P tn 0 s.heap
Q V.ref e.2.2
R Gk e
S xs.take $a
T SV u
U Zg.mp $a
V truthy v
W Rf h
X WA H
Z no c _ q" else
if c="O" then"a a9 x
b k1 c u ec Gf
c zax Rz
d pv 9
e zax RD
g Z2 m
h zs.take $a
i spFree C
j k6.trans $a
l zd8 lE
m storeName X.env x $a
n .Constant .none j $a
o letOwnedTupleGo tg SC u
p compareOp .Lt $a $b
q compTurn $a $b it $c env
s Qs ao
t none' b8 m8 H8 bG D8 gQ
u Sl hi u
v Z7 l tl
w QO (ZQ Sk)
x pv 8
y UK Hh ae Yc $a
z Lz (zam $a zdn.nd) (zaj (zam $b zdn.nd) (SX (zam $c zdn.nd)))
A YC $a zah
B ZS s.heap.objs.size $a
C .bool $a
D LC Rj zah
F QI RA
G zby $a $b zau
H zbi (BW zae)
I zaa (SS $a) (zaa (SS $a) (zaa (SS $b) (LA $c)))
J h pos a5 s σ H _ I hq
L Go b
N .Attribute o name apos
O Gw (List.map V.str zs)
Q compEnvC sc Sw C X.env
R MJ (Vp zbn)
S .inr $a
T hp.mem_iff.mpr (QK Ll)
U RY z
V zao (LM GT bj (ZU RV))
W UE o na nb
X hd.fits Gj
Y .tbl ps
Z hs.2 b $a
0 sb.2 b $a
1 .int $a s.toks
2 dk_empty s.heap I.big
3 Gp z Qb
4 .compStart $a 1 $b af env
5 We.mp h
6 QA d G'
7 QA l Gr
8 Ht h0
9 Sl 4 tk" else
if c="P" then"b Wd q
c KY hn
e f v u
f WC (YG hp)
g Gh f
i List.of_mem_zip $a
j UA p.1 p.2
k .Slice lo hi none p2
l .ref s3.heap.objs.size
n Zk hb
o WH ys
p K w.params
q .compLoop $a 0 $b Sz $c
r WC hp
s Sm st
t p.getD i 0
u Qs aK
w EX (Gw ws)
x SV Rp
y Q7 w
z Td GA 1 af
B BN x
F a9 y
H Gk hy
J cs.map mir
K kP e.1
M Qs hi
N zch (NG $a $b)
P Gx hl
Q Dp Gj
R Fa Rz (XY (YC Rx (K' RA $a)) zah) GD
U GW kf
V JV x
X .ref s4.heap.objs.size
Y .list (w.2.2.map .str)
Z Bt Hh hJ Jt (Du zae)
0 z.sameBut hs (cne y c e)
3 s.heap.IsTupleIter j t i
4 k _ _ r.dc hd
5 Gv (Zk $a) $b
6 intBits_le_64 h1 h2
7 A.under $a
8 .Attribute $a f $b
9 starEach args X.env" else
if c="A" then"a List.toArray (Ro n)
b PySem.W.kdl_dict lo
c Rr (RS $a)
d k3 _ _ $a Gf
e ZX (Hz $a)
f UW e1.1 (ins e1.2.1 $a e2.1) a1
g LC Rz (RT (ZX zae))
h LC Rx (RT (Q8 zae))
i .list (q.2.2.map swD)
j plainId_quiet $a _
k Hy fk
l f s.1
m f s.2
n J3 e n hx
o ha a5 s σ H Q I h
p hc a5 s σ H _ I h
q SW o i
s hv a5 s σ H _ I h
u QX $a A outer s H E
v x.above y c (Wl h)
w UA k v
x ks.map kV
y Vk eb
z fplt b hb
A assign LL X.env Sz
B a.extract $a $b
C failedOf $a
D sgk LD
E Tk (h n _ B n1 n2)
F P.rev 0 m
G W.sub _ h
H .dK ys
I hh.1 _ _ $a Gf
J SqL.of R.ls
K zbr zc0 Hh au Wj $a
L h s Hf
M Zu.mpr $a
N row rs
O kP s
Q Gv ndD hz
R k4.sub Gf
S k3.sub Gf
T Gk npd
U Xj _ _
V hf _ y
W BC Lx zah
X spTries C
Y ZY Sx e.1
Z bZ.trans $a
0 ZP q
3 Sl 1 v
4 VN a tA
5 .ref s1.heap.objs.size
6 q _ Sa
7 HG j
8 US H3 d c H'
9 zaa (LC $a Lx) (zaa (LC $a $b) (LA (QZ $c $b GD)))" else
if c="z" then"a zch (zfa $a)
b zag zih
e LB (Fq S4)
f Bc (Bt Hh hJ Jt (Hz (BQ $a))) Lx RE
g .Constant $a j pos
h KI g2.objs.size Sw
i X6 rfl
j K' zah HQ
k .tup (p.1.map kV)
m Gp Qa $a
o .Subscript o i tpos
p a7.toArray.push y
q zbz $a $b Rj
r Paired $a as $b
t Gw (fa.map V.ref)
u zaz $a $b Gf
w QO (ZU (LA (YC (Oy $a) zah)))
x Gz v
y Tb aH
A PIE X a5 σ tg R
B Yz _
C Tb p
E richCompare .Lt $a $b
F Gz i
G ns.map WData.int
H ZL H
I k2 b o q
J qn D H5D
K YZ k
L QL i
M pm.mem_iff.mp hv
N zac z hN
O wpAny_attempt $a
P And.intro rfl h'
Q model Y.prog Y.w
R WC (YG (WC hpD))
S Gw (r.map V.str)
T OS (RG h)
U Gz a
V di.mem_iff.mp $a
W spInit C
Z cg.mem_iff.mp $a
3 Gz Tg
4 spCell K
6 Mn Rz RD
7 .dK (VU (Go l6))
8 wpAny_holding $a
9 Fo hz Gm" else
if c="y" then"a QM q
b Hy h1
c zai sLaw
d X2 bI .nil zcq $a
e Q4 d2 ts
f I.kIn $a o hk
g Z7 value tv
h BT a y o
i .bool false
j Sum.inr q.1
k .str r.1
l .str r.2
m Rm Gg
n at_rg hi
o Ht o
p Gh u
q Qf.mp $a
r .bl $a
t N6 tb
u Gk hi
w h1.symm.trans e
x getItem $a $b
y .Subscript o i aH
z Gk hw
A  SqT X.K H p ys
B Gk hk
C YK a7
D WY t7
E MN y7
F Gz RM
G To m'
H QV aX
I seqEpoch_at $a rfl $b
J QK hv
K rows.take $a
L Value.ref $a
M zfz C
N Iw Rj
O Bm hs
P RG Su
Q Bl hc
R UR RD pe_bl rfl
S SJ ks
T CN fo
U QT $a (Gw $b)
V CJ ts
W Go t0
X QA $a (Gw $b)
Y eOf (sAt zhg 4)
Z q b o hw (NS z)
8 CN pl
9 .cons r3 (LJ r1 r4)" else
if c="x" then"a List (Sg $a)
b Se (D8.ra.ro e1 bm)" else
""
def zK(s:String):List String:=(s.toList.foldr (λc l=>if "() ".contains c then ""::(if c=' ' then l else String.singleton c::l) else match l with|x::t=>(String.singleton c++x)::t|[]=>[]) [""]).filter (·≠"")
open Lean in
def zI(g:Array Syntax)(t:String):Syntax:=
 if t="_" then .node .none ``Parser.Term.hole #[.atom .none "_"] else if t.toNat?.isSome then Syntax.mkNumLit t else
 if t.startsWith "." then .node .none ``Parser.Term.dotIdent #[.atom .none ".",mkIdent (t.drop 1).toString.toName] else
 ((t.splitOn ".").foldl (λo p=>some (match o with
  |none=>if p.startsWith "$" then g.getD ((p.toList.getD 1 'a').toNat-97) .missing else mkIdent (.mkSimple p)
  |some x=>if p.toNat?.isSome then .node .none ``Parser.Term.proj #[x,.atom .none ".",Syntax.mkLit `fieldIdx p] else if x.isIdent then mkIdent (x.getId.str p) else .node .none ``Parser.Term.proj #[x,.atom .none ".",mkIdent (.mkSimple p)])) none).getD .missing
open Lean in
def zC(a:Array Syntax):Syntax:=if a.size≤1 then a.getD 0 .missing else let x:=a.getD 0 .missing; if x.isOfKind ``Parser.Term.app then .node .none ``Parser.Term.app #[x[0],mkNullNode (x[1].getArgs++a.extract 1 a.size)] else .node .none ``Parser.Term.app #[x,mkNullNode (a.extract 1 a.size)]
open Lean in
def zR(g:Array Syntax):Nat→List String→Array Syntax→Syntax×List String
 |n+1,"("::t,a=>let(x,r):=zR g n t #[];zR g n r (a.push x)
 |_,")"::t,a=>(zC a,t)
 |n+1,x::t,a=>zR g n t (a.push (zI g x))
 |_,t,a=>(zC a,t)
open Lean in
def zW(f:Name)(a:Array Syntax):MacroM Term:=do
 let .str .anonymous s:=f|Macro.throwUnsupported
 if s.length≠2 then Macro.throwUnsupported
 let some r:=((zS (s.take 1).toString).splitOn "\n").find? (·.startsWith (s.drop 1).toString)|Macro.throwUnsupported
 let t:=(zK r).tail
 let n:=t.foldl (λm x=>if x.startsWith "$" then max m ((x.toList.getD 1 'a').toNat-96) else m) 0
 if a.size<n then Macro.throwUnsupported
 return ⟨zC (#[(zR a 999 t #[]).1]++a.extract n a.size)⟩
set_option hygiene false
local macro_rules
|`(Gf)=>`(by simp)
|`(Gg)=>`(by lia)
|`(Gi $a)=>`(by show $a≤sizeLine;decide)
|`(Gj)=>`(by decide)
|`(Gk $a)=>`(by simpa using $a)
|`(Gm)=>`(by intro z;cases z)
|`(Gn)=>`(λcdv A outer s H vs Q E hr h=>?_)
|`(Gp $a $b)=>`(by rw[$a:term];exact $b)
|`(Gr)=>`(.lst ((es.map (·.1)).map V.str))
|`(Gu)=>`(((Sum.inr e.1:Key),V.int e.2))
|`(Gv $a $b)=>`(by rw[zaf $a:term];exact $b)
|`(GA)=>`(.ListComp elt [⟨tg1,it1,[],0⟩,⟨target,iter,ifs,0⟩] scope pos)
|`(GD)=>`(λ_ _=>rfl)
|`(GK $a)=>`(by rw[$a:term];lia)
|`(GQ)=>`(λcdv A outer s0 H vs Q E hr h=>?_)
|`(GW $a)=>`(.dK (cnt $a λy=>((dg r D y:Nat):Int)))
|`(GY)=>`((∀b o,s.heap.get? b=some o→g.get? b=some o))
|`(GZ)=>`((∀σ' H',N σ' H'→∃m',m'<m∧W (i+1) m' σ' H'))
|`(Ha)=>`(by exact zar1 ‹_›)
|`(Hc)=>`(.ListComp elt [⟨target,iter,[],0⟩,⟨cX,bH,ifs,0⟩] scope pos)
|`(Hd)=>`(s.heap.objs.size+1)
|`(He)=>`(λ_ _=>by simp)
|`(Hg $a)=>`((gs++L.take $a).map λs=>(kP s,V.bl true))
|`(Hh)=>`(by rfl)
|`(Hi)=>`(Str×Int)
|`(Hj)=>`(i+1)
|`(Hk)=>`(.lst [])
|`(Hl)=>`(.ListComp elt [⟨tg,iter,ifs,0⟩] sc pos)
|`(Ho)=>`(λ_ _=>False)
|`(Hq)=>`((∀b∈ch,(b∈X.ex∨X.s₀.heap.objs.size≤b)∧b≠X.env.locals∧(∀x c,X.env.cells.lookup x=some c→c≠b)∧∀p∈X.pn++a5,p.1≠b))
|`(Hr $a)=>`(λa (e:Ent)=>$a a=some (.tup [.str e.1,.ref e.2.2]))
|`(Hs)=>`(forIn ifs true λc r=>if r=true then do let ok ←isTrue c env (eval c env);pure (ForInStep.yield ok) else pure (ForInStep.yield r))
|`(Hu)=>`((λcs y=>if(y.2==NameKind.free)=true then(y.1,(env.cells.lookup y.1).getD 0)::cs else cs))
|`(Hx $a)=>`(by rw[$a:term];exact Qg _)
|`(HC)=>`(newFunctionEnv sc X.env.globals (WL X.env) [] X.env.qual none .none (some X.env))
|`(HG $a)=>`(pidx es[i].2.1.length $a)
|`(HH)=>`(a.toList++b.toList)
|`(HI)=>`(((Sum.inr e.1:Key),V.ref e.2.2))
|`(HK)=>`(x==("__debug__" : Str))
|`(HL)=>`(.DictComp kx vx [⟨tg,iter,ifs,0⟩] sc pos)
|`(HV)=>`((∀D C m ys H' s',ZA (YI D (Gw ys)) s'→Q (Go D) (YI D (Gw ys))→s'.heap.Ns C m→YI D (Gw ys) C=none→s.heap.objs.size<C→RR (Go D) C (.ok .next) s'))
|`(HX $a)=>`(.inl ⟨rfl,_,Gs $a⟩)
|`(HY)=>`(Ex2 λres r=>Aj2 (c=(Gz res,r)) (res.toList.Perm HH))
|`(HZ)=>`(upd (QT q1 (Gw (cutV (es[i].2.1.map V.str) (some (j:Int)) none))) q2 (Gw (cutV (es[i].2.1.map V.str) none (some (j:Int)))))
|`(Ra $a)=>`(Gw (((L.take $a).map (·.1)).map V.str))
|`(⟨$xs,*⟩)=>do
 let mut o:Array Lean.Term:=#[]
 for x in xs.getElems do
  if x.raw.getId==`xc then o:=(o.push (← `(_))).push (← `(rfl)) else o:=o.push x
 if o.size==xs.getElems.size then Lean.Macro.throwUnsupported else `(⟨$o,*⟩)
|`($f:ident $a*)=>zW f.getId a.raw
|`($f:ident)=>zW f.getId #[]
section
set_option Elab.async false
inductive Ex1{T0:Sort _}(P:T0→Prop):Prop
 |mk (x0:T0) (h:P x0):Ex1 P
inductive Ex2{T0:Sort _}{T1:Sort _}(P:T0→T1→Prop):Prop
 |mk (x0:T0) (x1:T1) (h:P x0 x1):Ex2 P
inductive Ex3{T0:Sort _}{T1:Sort _}{T2:Sort _}(P:T0→T1→T2→Prop):Prop
 |mk (x0:T0) (x1:T1) (x2:T2) (h:P x0 x1 x2):Ex3 P
inductive Ex4{T0:Sort _}{T1:Sort _}{T2:Sort _}{T3:Sort _}(P:T0→T1→T2→T3→Prop):Prop
 |mk (x0:T0) (x1:T1) (x2:T2) (x3:T3) (h:P x0 x1 x2 x3):Ex4 P
inductive Ex5{T0:Sort _}{T1:Sort _}{T2:Sort _}{T3:Sort _}{T4:Sort _}(P:T0→T1→T2→T3→T4→Prop):Prop
 |mk (x0:T0) (x1:T1) (x2:T2) (x3:T3) (x4:T4) (h:P x0 x1 x2 x3 x4):Ex5 P
inductive Ex6{T0:Sort _}{T1:Sort _}{T2:Sort _}{T3:Sort _}{T4:Sort _}{T5:Sort _}(P:T0→T1→T2→T3→T4→T5→Prop):Prop
 |mk (x0:T0) (x1:T1) (x2:T2) (x3:T3) (x4:T4) (x5:T5) (h:P x0 x1 x2 x3 x4 x5):Ex6 P
structure Aj2(p0 p1:Prop):Prop where
 h0:p0
 h1:p1
structure Aj3(p0 p1 p2:Prop):Prop where
 h0:p0
 h1:p1
 h2:p2
structure Aj4(p0 p1 p2 p3:Prop):Prop where
 h0:p0
 h1:p1
 h2:p2
 h3:p3
structure Aj5(p0 p1 p2 p3 p4:Prop):Prop where
 h0:p0
 h1:p1
 h2:p2
 h3:p3
 h4:p4
structure Aj6(p0 p1 p2 p3 p4 p5:Prop):Prop where
 h0:p0
 h1:p1
 h2:p2
 h3:p3
 h4:p4
 h5:p5
structure Aj7(p0 p1 p2 p3 p4 p5 p6:Prop):Prop where
 h0:p0
 h1:p1
 h2:p2
 h3:p3
 h4:p4
 h5:p5
 h6:p6
structure Aj8(p0 p1 p2 p3 p4 p5 p6 p7:Prop):Prop where
 h0:p0
 h1:p1
 h2:p2
 h3:p3
 h4:p4
 h5:p5
 h6:p6
 h7:p7
structure Aj9(p0 p1 p2 p3 p4 p5 p6 p7 p8:Prop):Prop where
 h0:p0
 h1:p1
 h2:p2
 h3:p3
 h4:p4
 h5:p5
 h6:p6
 h7:p7
 h8:p8
def zar1{a b:Nat}(h:a<b):b-(a+1)<b-a:=Nat.sub_lt_sub_left h (Yz a)
def zar3{a b:Nat}(h:a≤b)(k:¬a<b):a=b:=Nat.le_antisymm h (Nat.le_of_not_lt k)
def zar4{a b:Nat}(h:a≤b):a+1≤b+1:=Nat.succ_le_succ h
def zar6{a b c:Nat}(e:a=b)(h:c<b):c<a:=e▸h
def zar7{a b c:Nat}(e:a=b)(h:c<a):c<b:=e▸h
def zar9{a b:Nat}(h:a<b):(a:Int)<(b:Int):=Int.ofNat_lt.mpr h
def zar10{a b:Nat}(h:a<b)(k:b≤a):False:=Yu _ (Zw h k)
def zea{a b c:Nat}(h:a≤b)(e:a=c):c≤b:=e▸h
def zar16{a b:Nat}(h:a≤b):a≤b+1:=Nat.le_succ_of_le h
end
section
set_option Elab.async false
set_option linter.all false
set_option maxRecDepth 100000
namespace L2
open PySem PySem.Spec PyProof.Rows
abbrev Key:=Sum Int Str
def keyIs:Key→Value→Bool
 |.inl k,v=>Value.isInt k v
 |.inr x,v=>Value.isStrOf x v
def keyH(w:Nl):Key→Int
 |.inl k=>hashInt k
 |.inr x=>hashStr w x
theorem zbj:∀{k:Key} {v:Value},keyIs k v=true→(∃i t,k=Sum.inl i∧v=XA t)∨(∃x t,k=Sum.inr x∧v=U2 t)
 |.inl i,v,h=>by
  obtain⟨t,e⟩:=Value.isInt_shape (k:=i) (v:=v) h
  exact .inl ⟨i,t,rfl,e⟩
 |.inr x,v,h=>by
  obtain⟨t,e⟩:=Value.isStrOf_shape (x:=x) (v:=v) h
  exact .inr ⟨x,t,rfl,e⟩
def keyIs_int(i:Int)(t:Tok):keyIs (Rf i) (IE i)=true:=by simp[keyIs,Value.isInt]
def keyIs_str(x:Str)(t:Tok):keyIs (RG x) (.str x t)=true:=by simp[keyIs,Value.isStrOf]
def key_ll(a b:Int):decide ((Sum.inl a:Key)=Sum.inl b)=(a==b):=by
 by_cases e:a=b
 ·subst e;simp
 ·have h:¬ (Sum.inl a:Key)=Sum.inl b:=fun q=>e (Sum.inl.inj q)
  rw[decide_eq_false h]
  exact(Cv e).symm
def key_rr(a b:Str):decide ((Sum.inr a:Key)=Sum.inr b)=decide (a=b):=by
 by_cases e:a=b
 ·subst e;simp
 ·have h:¬ (Sum.inr a:Key)=Sum.inr b:=fun q=>e Pb
  rw[decide_eq_false h,decide_eq_false e]
def key_lr(a:Int)(b:Str):decide ((Sum.inl a:Key)=Sum.inr b)=false:=decide_eq_false (λq=>nomatch q)
def key_rl(a:Str)(b:Int):decide ((Sum.inr a:Key)=Sum.inl b)=false:=decide_eq_false (λq=>nomatch q)
def zas(prog:Nk)(w:Nl):PySem.KeyKind prog w Key where
 is:=keyIs
 hash:=keyH w
 inj:=λv a b ha hb=>by
  rcases zbj ha with⟨i,t,rfl,rfl⟩ | ⟨x,t,rfl,rfl⟩
  ·rcases zbj hb with ⟨j,u,rfl,e⟩ | ⟨y,u,rfl,e⟩
   ·injection e with e1 _;rw[e1]
   ·exact nomatch e
  ·rcases zbj hb with ⟨j,u,rfl,e⟩ | ⟨y,u,rfl,e⟩
   ·exact nomatch e
   ·injection e with e1 _;rw[e1]
 byValue:=λk v h=>by
  rcases zbj h with⟨i,t,rfl,rfl⟩ | ⟨x,t,rfl,rfl⟩<;>rfl
 pyHash:=λhv h=>by
  rcases zbj hv with⟨i,t,rfl,rfl⟩ | ⟨x,t,rfl,rfl⟩
  ·exact wpAny_pyHash_int h
  ·exact wpAny_pyHash_str h
 eqBool:=λhu hv h=>by
  rcases zbj hu with⟨i,t,rfl,rfl⟩ | ⟨x,t,rfl,rfl⟩
  ·rcases zbj hv with ⟨j,u,rfl,rfl⟩ | ⟨y,u,rfl,rfl⟩
   ·rw[key_ll]at h;exact wpAny_eqBool_int h
   ·rw[key_lr]at h;exact SeqAt.EqAt.int_str i t y u _ _ _ _ h
  ·rcases zbj hv with ⟨j,u,rfl,rfl⟩ | ⟨y,u,rfl,rfl⟩
   ·rw[key_rl]at h;exact SeqAt.EqAt.str_int x t j u _ _ _ _ h
   ·rw[key_rr]at h;exact wpAny_eqBool_str h
 «strs»:=λk x t v h=>by
  rcases zbj h with⟨i,u,rfl,e⟩ | ⟨y,u,rfl,e⟩
  ·exact nomatch e
  ·injection e with e1 _
   subst e1
   cases v<;>rfl
def mixKind_int(prog:Nk)(w:Nl)(i:Int)(t:Tok):(zas prog w).is (Rf i) (IE i)=true:=keyIs_int i t
def zgo(prog:Nk)(w:Nl)(x:Str)(t:Tok):(zas prog w).is (RG x) (.str x t)=true:=keyIs_str x t
end L2
namespace L2
open PySem PySem.Spec PyProof.Rows
inductive V where
 |non | bl (b:Bool) | int (i:Int) | str (x:Str) | byt (b:Array UInt8) | flt (b:UInt64) | ref (a:Nb) | ty (n:String)
 deriving DecidableEq
def RelV:V→Value→Prop
 |.non,u=>u=Value.none
 |.bl b,u=>u=Value.bool b
 |.int i,u=>∃t,u=XA t
 |.str x,u=>∃t,u=U2 t
 |.byt b,u=>∃t,u=Value.bytes b t
 |.flt b,u=>∃t,u=Value.float b t
 |.ref a,u=>u=Value.ref a
 |.ty n,u=>u=Value.type n
abbrev Vals:List V→List Value→Prop:=Paired RelV
def Vals.length{xs:List V}{us:Nj}(r:WD us):xs.length=us.length:=Zy r
theorem Vals.get:∀{xs:List V} {us:Nj} {i:Nat} {x:V},WD us→xs[i]?=some x→∃u,us[i]?=some u∧WJ u
 |_,_,_,_,.nil,e=>by simp at e
 |_,_,0,_,.cons r _,e=>by simp at e;subst e;exact⟨xc,r⟩
 |_,_,i+1,x,.cons _ t,e=>by
  obtain⟨u,h1,h2⟩:=Vals.get (i:=i) (x:=x) t IR
  exact⟨u,Gk h1,h2⟩
theorem Vals.set(r:WJ u):∀{xs:List V} {us:Nj} (i:Nat),WD us→Vals (xs.set i x) (us.set i u)
 |_,_,_,.nil=>.nil
 |_,_,0,.cons _ t=>.cons r t
 |_,_,i+1,.cons q t=>.cons q (Vals.set r i t)
theorem Vals.append:∀{xs ys:List V} {us ws:Nj},WD us→YK ws→Vals (xs++ys) (us++ws)
 |_,_,_,_,.nil,s=>s
 |_,_,_,_,.cons r t,s=>.cons r (Vals.append t s)
theorem Vals.take:∀{xs:List V} {us:Nj} (n:Nat),WD us→Vals (IS n) (us.take n)
 |_,_,0,_=>.nil
 |_,_,_+1,.nil=>.nil
 |_,_,n+1,.cons r t=>.cons r (Vals.take n t)
theorem Vals.drop:∀{xs:List V} {us:Nj} (n:Nat),WD us→Vals (xs.drop n) (us.drop n)
 |_,_,0,r=>r
 |_,_,_+1,.nil=>.nil
 |_,_,n+1,.cons _ t=>Vals.drop n t
def RelO:Option V→Option Value→Prop
 |some v,some u=>UY u
 |none,none=>True
 |_,_=>False
def KV{κ:Type}:List (κ×V)→List (κ×Value)→Prop:=Paired λ(p:κ×V) (q:κ×Value)=>p.1=q.1∧N4 q.2
def kV:Key→V
 |.inl i=>.int i
 |.inr x=>.str x
inductive HO where
 /-- a list -/
 |lst (xs:List V)
 /-- a tuple (never changes) -/
 |tup (xs:List V)
 /-- a dict whose keys are ints and texts;one whose keys are tuples of ints and texts (the empty one is both) -/
 |dK (kvs:List (Key×V)) | dT (kvs:List (List Key×V))
 /-- a set of ints: a7 members,a7 size -/
 |set (S:Int→Bool) (n:Nat)
 /-- an instance of the class at C,a7 dict at dx,a7 attributes -/
 |ins (C dx:Nb) (fs:List (Str×V))
 /-- the dict of the instance at x -/
 |own (x:Nb)
 /-- the dict of an exception -/
 |xd (fs:List (Str×V))
 /-- a bound method,f of x -/
 |met (f x:Nb)
 /-- a range object lo,lo+1,.. below hi -/
 |rng (lo hi:Int)
 /-- a thing that is known to the object (the script;a dict while a loop walks it): read,never written while it is so -/
 |frz (o:Obj) (u:HO)
 /-- a code object's table -/
 |tbl (ps:Array Value)
 /-- any other thing,by what is true of a7 one object (a def of one's own: SetO a S n:=HO.ext λh=>..) -/
 |ext (φ:Heap→Prop)
abbrev Hp:=Addr→Option HO
def upd(H:Hp)(a:Nb)(o:HO):Hp:=λb=>if b=a then some o else H b
def zab{H:Hp}{a:Nb}{o:HO}:ZS a o a=some o:=by unfold upd;rw[if_pos rfl]
def zaf{H:Hp}{a b:Nb}{o:HO}(h:b≠a):ZS a o b=H b:=by unfold upd;rw[if_neg h]
def upd_upd:upd Eo a u=ZS a u:=by
 funext b;unfold upd;split<;>rfl
def zat{H:Hp}{a b:Nb}{o u:HO}(h:H a=some o)(h':H b=some u)(d:o≠u):a≠b:=by
 intro e;subst e;rw[h]at h';exact d (Qn h')
def zac{H:Hp}{a b:Nb}{o:HO}(h:H a=some o)(h':H b=none):a≠b:=by
 intro e;subst e;rw[h]at h';cases h'
section
variable(P:Nk)(w:Nl)
def zbx(H:Hp)(h:No)(a:Nb):HO→Prop
 |.lst xs=>xs.length≤sizeLine∧∃(a7:Nj) (n:Nat),WD a7∧h.get? a=some {cls:=.type "list",data:=.seq a7.toArray n}
 |.tup xs=>xs.length≤sizeLine∧∃a7:List Value,WD a7∧IsTup h a a7.toArray
 |.dK kvs=>kvs.length≤sizeLine∧(a==sysModules)=false∧∃vs,UM vs∧h.DictOf Lc a vs
 | .dT kvs=>kvs.length≤sizeLine∧(a == sysModules)=false∧∃ xs:List (List Key×Addr×Value),
   Paired (λ(p:List Key×V) (q:List Key×Addr×Value)=>p.1=q.1∧H q.2.1=some zk∧N4 q.2.2) kvs xs ∧
   ∃o es ep,h.get? a=some o∧o.ExactDict∧o.data=.dict es ep∧es.toList=xs.map (entryOfKey (Cw Lc))∧(Ep (·.1)).Nodup
 |.set S n=>h.SetOf (intKind P w) a S n
 | .ins C dx fs=>H dx=some Cy∧fs.length≤1000∧dx≠a∧h.get? a=some (WW dx) ∧
   ∃mA,h.Ns1 dx mA∧(∀f,X9 (mA f))∧VJ (fs.map (·.1))
 |.own _=>∃o,h.get? a=some o
 |.xd fs=>∃mA,h.Ns1 a mA∧∀f,X9 (mA f)
 |.rng lo hi=>∃t u v,h.get? a=some {cls:=.type "range",data:=.fields #[IE lo,Ou,A3]}
 |.frz o u=>h.get? a=some o∧zbx H h a u
 |.tbl ps=>h.get? a=some {cls:=.none,data:=.fields ps}
 |.met f x=>h.get? a=some (Bf E5)
 |.ext φ=>φ h∧(∃o,h.get? a=some o)∧∀h1 h2:Heap,φ h1→(∀o,h1.get? a=some o→h2.get? a=some o)→φ h2
def HOk(H:Hp)(h:No):Prop:=∀a o,H a=some o→YH o
end
section
variable{P:Nk}{w:Nl}{H H':Hp}{h h':No}{a:Nb}{o:HO}
def zbx.lt(x:YH o):a<h.objs.size:=by
 cases o with
 |lst xs=>obtain⟨_,_,_,_,e⟩:=x;exact Qv e
 |tup xs=>obtain⟨_,_,_,p⟩:=x;exact p.lt
 |dK kvs=>obtain⟨_,_,_,_,o,_,_,e,_⟩:=x;exact Qv e
 |dT kvs=>obtain⟨_,_,_,_,o,_,_,e,_⟩:=x;exact Qv e
 |set S n=>obtain⟨o,_,_,_,e,_⟩:=x;exact Qv e
 |ins C dx fs=>obtain⟨_,_,_,e,_⟩:=x;exact Qv e
 |own y=>obtain⟨_,e⟩:=x;exact Qv e
 |xd fs=>obtain⟨_,⟨_,_,_,e,_⟩,_⟩:=x;exact Qv e
 |rng lo hi=>obtain⟨_,_,_,e⟩:=x;exact Qv e
 |frz ob u=>obtain⟨e,_⟩:=x;exact Qv e
 |tbl ps=>exact Qv (show h.get? a=some _ from x)
 |met f y=>exact Qv (show h.get? a=some _ from x)
 |ext φ=>obtain⟨_,⟨_,e⟩,_⟩:=x;exact Qv e
theorem Paired.mapP{α β:Type}{F G:α→β→Prop}:∀{l₁:List α} {l₂:List β},Paired F l₁ l₂→(∀a b,F a b→G a b)→Paired G l₁ l₂
 |_,_,.nil,_=>.nil
 |_,_,.cons r t,f=>.cons (f _ _ r) (Paired.mapP t f)
def Paired.imp'{α β:Type}{F G:α→β→Prop}(f:∀a b,F a b→G a b){l₁:List α}{l₂:List β}(r:Paired F l₁ l₂):Paired G l₁ l₂:=Paired.mapP r f
def zbx.stay(x:YH o)(k:∀b u,(b=a∨H b=some Cy)→h.get? b=some u→h'.get? b=some u)(ho:∀b,H b=some Cy→H' b=some Cy)(ht:∀b xs,H b=some RX→H' b=some RX):UT H' h' a o:=by
 induction o with
 |lst xs=>obtain⟨z,a7,n,r,e⟩:=x;exact⟨z,a7,n,r,SR⟩
 |tup xs=>obtain⟨z,a7,r,ob,e,c⟩:=x;exact⟨z,a7,r,ob,SR,c⟩
 |dK kvs=>obtain⟨z,y,vs,r,ob,es,ep,e,c⟩:=x;exact⟨z,y,vs,r,ob,es,ep,SR,c⟩
 |dT kvs =>
  obtain⟨z,y,xs,r,ob,es,ep,e,c⟩:=x
  exact⟨z,y,xs,Paired.mapP r λp q z=>⟨z.1,ht _ _ z.2.1,z.2.2⟩,ob,es,ep,SR,c⟩
 |set S n=>obtain⟨ob,es,ep,t,e,c⟩:=x;exact⟨ob,es,ep,t,SR,c⟩
 |ins C dx fs =>
  obtain⟨d,z,ne,e,mA,⟨od,es,ep,e2,c⟩,r⟩:=x
  exact⟨ho _ d,z,ne,SR,mA,⟨od,es,ep,k _ _ (RG d) e2,c⟩,r⟩
 |own y=>obtain⟨ob,e⟩:=x;exact⟨ob,SR⟩
 |xd fs=>obtain⟨mA,⟨od,es,ep,e,c⟩,r⟩:=x;exact⟨mA,⟨od,es,ep,SR,c⟩,r⟩
 |rng lo hi=>obtain⟨t,u,v,e⟩:=x;exact⟨t,u,v,SR⟩
 |frz ob u ih=>obtain⟨e,q⟩:=x;exact⟨SR,ih q⟩
 |tbl ps =>
  have e:h.get? a=some {cls:=.none,data:=.fields ps}:=x
  show h'.get? a=some {cls:=.none,data:=.fields ps}
  exact k a _ Hf e
 |met f y =>
  have e:h.get? a=some (Bf (Go y)):=x
  show h'.get? a=some (Bf (Go y))
  exact k a _ Hf e
 |ext φ=>obtain⟨p,⟨o,e⟩,st⟩:=x;exact⟨st _ _ p λo q=>k _ _ Hf q,⟨o,SR⟩,st⟩
def HOk.lt(x:WX h)(e:H a=some o):a<h.objs.size:=(x a o e).lt
def HOk.fresh(x:WX h)(e:h.objs.size≤a):H a=none:=by
 cases q:H a with
 |none=>rfl
 |some u=>exact absurd (Zw (x.lt q) e) E6
def HOk.kept(x:WX h)(k:∀b u,h.get? b=some u→h'.get? b=some u):WX h':=λa o e =>
 (x a o e).stay (λb u _ q=>k b u q) (λ_ q=>q) λ_ _ q=>q
def HOk.laid(x:WX h)(k:∀b u,h.get? b=some u→h'.get? b=some u)(hp:h.objs.size≤a)(new:UT Eo h' a o):HOk P w Eo h':=λb u e=>by
 have hn:=x.fresh hp
 by_cases hb:b=a
 ·subst hb;rw[zab]at e;cases e;exact new
 ·rw [Iz] at e
  exact(x b u e).stay (λc v _ q=>k c v q) (λc q=>by rw[zaf Pc];exact q) λc xs q=>by rw[zaf Pc];exact q
end
def Rd(H:Hp)(a:Nb)(u:HO):Prop:=H a=some u∨∃o,H a=some IT
def Rd.ok{P:Nk}{w:Nl}{H:Hp}{h:No}{a:Nb}{u:HO}(r:Vi u)(x:WX h):YH u:=by
 rcases r with r | ⟨o,r⟩
 ·exact x a u r
 ·obtain ⟨_,q⟩:=x a _ r
  exact q
def Mut:Option HO→Prop
 |some (.lst _)=>True
 |some (.dK _)=>True
 |some (.dT _)=>True
 |some (.set _ _)=>True
 |some (.ins _ _ _)=>True
 |some (.ext _)=>True
 |_=>False
section
variable{P:Nk}{w:Nl}{H:Hp}{h h':No}{x e:Nb}{o':HO}
def HOk.write(ok:WX h)(mu:Mut (H x))(he:e=x∨H e=some Er)(k:∀ b u,b≠e→h.get? b=some u→h'.get? b=some u)(lg:∃ u,h'.get? e=some u)(new:UT (ZS x o') h' x o'):HOk P w (ZS x o') h':=λb u q=>by
 have nown:∀c y,H c=some (.own y)→c≠x:=λc y r z=>by subst z;rw[r]at mu;exact mu
 have ntup:∀c xs,H c=some RX→c≠x:=λc xs r z=>by subst z;rw[r]at mu;exact mu
 by_cases hb:b=x
 ·subst hb;rw[zab]at q;cases q;exact new
 ·rw [Iz] at q
  by_cases jT:b=e
  ·have q':H b=some Er:=by
    rcases he with z | z
    ·exact absurd (jT.trans z) hb
    ·rw[jT];exact z
   rw[q]at q';cases q'
   obtain⟨v,hv⟩:=lg
   exact⟨v,Gp jT hv⟩
  ·refine (ok b u q).stay (fun c v hc r=>k c v ?_ r) (fun c r=>by rw [zaf (nown c b r)];exact r) fun c xs r=>by rw [zaf (ntup c xs r)];exact r
   rcases hc with rfl | hc
   ·exact jT
   ·rintro rfl
    rcases he with z | z
    ·exact nown c b hc z
    ·rw[hc]at z;cases z;exact hb rfl
end
structure Un(fs ex:Nn)(H H':Hp)(h h':No):Prop where
 keep:∀b o,h.get? b=some o→H b=none→b∉fs→b∉ex→h'.get? b=some o
 slot:∀b o,h.get? b=some o→H b=none→b∈fs→b∉ex→∃sl,h'.get? b=some {o with slots:=sl}
 free:∀b o,h.get? b=some o→H b=none→b∉ex→H' b=none
 there:∀b o,h.get? b=some o→b∉ex→∃o',h'.get? b=some o'
 tups:∀b xs,H b=some RX→H' b=some RX
 frzs:∀b o u,H b=some IT→H' b=some IT
 tbls:∀b ps,H b=some OY→∃more,H' b=some (.tbl (ps++more))
section
variable{fs fs' ex ex':Nn}{H H1 H2:Hp}{h h1 h2 h':No}{a x e:Nb}{o:HO}
def Un.any(u:X' H1 h h1){b:Nb}{ob:Obj}(q:h.get? b=some ob)(n:H b=none)(hx:b∉ex):∃sl,h1.get? b=some {ob with slots:=sl}:=by
 by_cases hb:b∈fs
 ·exact u.slot b ob q n hb hx
 ·exact⟨ob.slots,u.keep b ob q n hb hx⟩
def Un.kept(k:∀b u,h.get? b=some u→h'.get? b=some u):X' H h h' :=
 ⟨λb ob q _ _ _=>k b ob q,λb ob q _ _ _=>⟨ob.slots,k b ob q⟩,λ_ _ _ n _=>n,λb ob q _=>⟨ob,k b ob q⟩,λ_ _ q=>q,λ_ _ _ q=>q,λ_ ps q=>⟨#[],by rw[q];simp⟩⟩
def Un.refl:X' H h h:=Un.kept λ_ _ q=>q
theorem Un.laid(k:∀b u,h.get? b=some u→h'.get? b=some u)(hp:h.objs.size≤a)(hn:H a=none):X' Eo h h' where
 keep:=λb u q _ _ _=>k b u q
 slot:=λb u q _ _ _=>⟨u.slots,k b u q⟩
 free:=λb u q n _=>by rw[zaf (Zi (Zw (Qv q) hp))];exact n
 there:=λb u q _=>⟨u,k b u q⟩
 tups:=λb xs q=>by rw[zaf Pc];exact q
 frzs:=λb u xs q=>by rw[zaf Pc];exact q
 tbls:=λb ps q=>⟨#[],by rw[zaf Pc,q];simp⟩
def Un.write(mu:Mut (H x))(he:e=x∨H e=some Er)(k:∀b u,b≠e→h.get? b=some u→h'.get? b=some u)(lg:∃u,h'.get? e=some u):X' (ZS x o) h h':=by
 have hx:∀b,H b=none→b≠x:=λb n z=>by subst z;rw[n]at mu;exact mu
 have hb:∀b,H b=none→b≠e:=λb n z=>by
  subst z
  rcases he with r | r
  ·exact hx b n r
  ·rw[n]at r;cases r
 have hm:∀b u,H b=some u→¬Mut (Gz u)→b≠x:=λb u q nm z=>by subst z;rw[q]at mu;exact nm mu
 refine⟨λb u q n _ _=>k b u (hb b n) q,λb u q n _ _=>⟨u.slots,k b u (hb b n) q⟩,λb u q n _=>by rw[zaf (hx b n)];exact n,λb u q _=>?_,
  λb xs q=>by rw[zaf (hm b _ q λz=>z)];exact q,λb u xs q=>by rw[zaf (hm b _ q λz=>z)];exact q,λb ps q=>⟨#[],by rw[zaf (hm b _ q λz=>z),q];simp⟩⟩
 by_cases jT:b=e
 ·subst jT;exact lg
 ·exact⟨u,k b u jT q⟩
end
def trk(h:No)(H:Hp):List Addr:=(List.range h.objs.size).filter λa=>(H a).isSome
def hidT(h:No)(H:Hp):Heap:=PySem.W.hideAll h (trk h H)
def hidT_size(h:No)(H:Hp):(hidT h H).objs.size=h.objs.size:=PySem.W.hideAll_size _ _
def hidT_get{h:No}{H:Hp}{b:Nb}{o:Obj}(e:h.get? b=some o)(n:H b=none):(hidT h H).get? b=some o :=
 PySem.W.hideAll_get _ e λhm=>by
  have q:(H b).isSome=true:=(IU hm).2
  rw[n]at q;simp at q
def of_hidT{h:No}{H:Hp}{b:Nb}{o:Obj}(e:(hidT h H).get? b=some o):h.get? b=some o∧H b=none:=by
 have e':h.get? b=some o:=PySem.W.of_hideAll (trk h H) e
 refine⟨e',?_⟩
 cases q:H b with
 |none=>rfl
 |some x =>
  have hm:b∈trk h H:=Zg.mpr ⟨Wh.mpr (Qv e'),by simp[q]⟩
  have z:(hidT h H).get? b=none:=PySem.W.hideAll_none (trk h H) hm
  rw[z]at e;cases e
end L2
namespace L2
open PySem PySem.Spec PyProof.Rows
structure Mod(K:Na)(mg:Nd)(base:No):Prop where
 kin:K.In base
 glob:base.Ns mainGlobals mg
 blt:∃mb,base.Ns builtinsNs mb∧∀x:Str,x ≠ "__name__" → mb x=bootBuiltins x
 nolimit:base.NoLimit
structure Cx where
 prog:Program
 w:World
 K:PySem.W.Frag
 mg:Str→Option Value
 base:Heap
 A:Around
 N:List Str
 s₀:Shared
 H₀:Hp
 env:Env
 outer:List Env
 stack:List Env
 ex:List Addr
 fn:Str→Bool
 calm:Bool
 pn:List (Addr×Obj)
 xe:Value→Shared→Prop
def frs(l:List Env):List Addr:=l.filterMap (·.frame)
abbrev Cx.fs(X:Cx):List Addr:=frs X.outer
def Vis(sc:Scope)(x:Str):Prop:=sc.names.lookup x=some .local∨sc.names.lookup x=some .cell∨sc.names.lookup x=some .free
def Loc(sc:Scope)(x:Str):Prop:=sc.names.lookup x=some .local∨sc.names.lookup x=some .cell
def Look(env:Env)(h:No)(m:Nd)(x:Str)(u:Value):Prop :=
 (env.kindOf x=some .local∧m x=some u)∨((env.kindOf x=some .cell∨env.kindOf x=some .free)∧∃c,env.cells.lookup x=some c∧h.IsCell c (Gz u))
structure Cx.Ok(X:Cx):Prop where
 mod:Mod X.K X.mg X.base
 kind:X.env.scope.kind=.function
 glob:X.env.globals=mainGlobals
 blt:X.env.builtins=builtinsNs
 above:X.s₀.heap.objs.size≤X.env.locals
 inj:∀x y c,X.env.cells.lookup x=some c→X.env.cells.lookup y=some c→x=y
 has:∀x,(X.env.kindOf x=some .cell∨X.env.kindOf x=some .free)→∃c,X.env.cells.lookup x=some c
 cab:∀x c,X.fn x=true→X.env.cells.lookup x=some c→X.s₀.heap.objs.size≤c
 hd:X.calm=true→X.A.handled=none
 frames:X.A.frames=some X.stack
 stk:X.stack=X.outer∨(X.stack=X.env::X.outer∧X.env.frame=some X.env.locals)
 exf:∀b∈X.ex,b≠X.env.locals∧∀x c,X.env.cells.lookup x=some c→c≠b
 bs:∀b o,X.base.get? b=some o→X.s₀.heap.get? b=some o∧X.H₀ b=none
 bsz:X.base.objs.size≤X.s₀.heap.objs.size
 noex:∀b o,X.base.get? b=some o→b∉X.ex
 exfs:∀b∈X.ex,b∉X.fs
 funs:VL X.outer
 frf:∀b∈X.fs,X.H₀ b=none
structure Inv(X:Cx)(a5:Nh)(σ:List (Option V))(H:Hp)(s:Ni):Prop where
 ok:X.Ok
 os:s.os=X.s₀.os
 bare:AllBare s.gens
 base:Un X.fs X.ex X.H₀ H X.s₀.heap s.heap
 loc:∃m,s.heap.Ns X.env.locals m∧∀(i:Nat) (x:Str) (v:V),X.N[i]?=some x→σ[i]?=some zx→B4 x→∃u,UY u∧Look X.env s.heap m x u
 cell:∀x c,X.env.cells.lookup x=some c→∃v,s.heap.IsCell c v
 free:H X.env.locals=none
 freeC:∀x c,X.env.cells.lookup x=some c→H c=none
 pin:∀p∈X.pn++a5,s.heap.get? p.1=some p.2∧H p.1=none∧p.1≠X.env.locals∧p.1∉X.fs∧∀v,p.2.data≠.cell v
 hok:U7 H s.heap
 len:σ.length=X.N.length
section
variable{X:Cx}{a5:Nh}{σ:List (Option V)}{H H':Hp}{s:Ni}{h':No}
def Cx.Ok.nofr(ok:X.Ok)(e:X.base.get? b=some o):b∉X.fs:=λhb=>by
 have:=(ok.funs.mem hb).1
 rw[e]at this;cases this
def Inv.bs(I:Hb):∀b o,X.base.get? b=some o→s.heap.get? b=some o∧H b=none:=λb o e =>
 ⟨I.base.keep b o (Vz e).1 (Vz e).2 (I.ok.nofr e) (ME e),J3 (Vz e).1 (Vz e).2 (ME e)⟩
def Inv.bk(I:Hb):∀b o,X.base.get? b=some o→s.heap.get? b=some o:=λb o e=>(I.bs b o e).1
def Inv.mod(I:Hb):Mod X.K X.mg X.base:=I.ok.mod
def Inv.kIn(I:Hb):X.K.In s.heap:=I.ok.mod.kin.keeps I.bk
def Inv.lt(I:Hb):X.env.locals<s.heap.objs.size:=let⟨_,hn,_⟩:=I.loc;hn.lt
def Inv.sz(I:Hb):X.s₀.heap.objs.size≤s.heap.objs.size:=Ze I.ok.above (Wu I.lt)
def Inv.nofs(I:Hb)(h:s.heap.objs.size≤a):a∉X.fs:=λhb=>by
 obtain⟨_,o,ho,_⟩:=I.ok.funs.mem hb
 exact absurd (Zw (Qv ho) (Ze I.sz h)) E6
def Inv.cne(I:Hb):∀x c,X.env.cells.lookup x=some c→c≠X.env.locals:=λx c e z=>by
 obtain⟨v,o,ho,hd⟩:=JO e
 obtain⟨m,⟨o',es,ep,cS,ie,_⟩,_⟩:=I.loc
 rw[z,cS]at ho;cases ho;rw[ie]at hd;cases hd
def Inv.funs(I:Hb):s.heap.FunFrames X.base X.outer:=by
 have all:∀(l:List Env),(∀b∈frs l,b∈X.fs)→VL l→s.heap.FunFrames X.base l:=by
  intro l
  induction l with
  |nil=>intro _ _;trivial
  |cons env r ih =>
   intro hs hl
   obtain⟨hk,⟨L,o,hf,hn,ho,hd⟩,hr⟩:=hl
   have hL:L∈X.fs:=hs L (by unfold frs;rw[List.filterMap_cons,hf];exact List.mem_cons_self)
   obtain⟨sl,e⟩:=I.base.slot L o ho (I.ok.frf L hL) hL λz=>I.ok.exfs L z hL
   exact⟨hk,⟨L,_,hf,hn,e,hd⟩,ih (λb hb=>hs b (by unfold frs;rw[List.filterMap_cons,hf];exact MV hb)) hr⟩
 exact all X.outer (λ_ hb=>hb) I.ok.funs
def Inv.stack(I:Hb):s.heap.FunFrames X.base X.stack:=by
 rcases I.ok.stk with e | ⟨e,hf⟩
 ·rw[e];exact I.funs
 ·rw [e]
  obtain⟨m,hn,_⟩:=I.loc
  refine .cons (by rw[I.ok.kind];decide) hf hn ?_ I.funs
  exact Heap.get?_none_of_le (N5 I.ok.above)
def Inv.stkSub(I:Hb):∀b∈frs X.stack,b∈X.env.locals::X.fs:=λb hb=>by
 rcases I.ok.stk with e | ⟨e,hf⟩
 ·rw[e]at hb;exact QK hb
 ·rw [e] at hb
  unfold frs at hb
  rw[List.filterMap_cons,hf]at hb
  exact hb
def Inv.stkFree(I:Hb):∀b∈frs X.stack,H b=none:=λb hb=>by
 rcases Qf.mp (DE hb) with e | hb
 ·rw[e];exact I.free
 ·obtain ⟨_,o,ho,_⟩:=I.ok.funs.mem hb
  exact J3 ho (I.ok.frf b hb) λz=>I.ok.exfs b z hb
def Inv.step{g':Array GenState}{t':Nat}{d':Drawn}{ch:Nn}(I:Hb)(gH:Hq)(keep:∀b o,b≠X.env.locals→b∉X.fs→b∉ch→s.heap.get? b=some o→H b=none→h'.get? b=some o)(slot:∀b o,b≠X.env.locals→b∈X.fs→b∉ch→s.heap.get? b=some o→H b=none→∃sl,h'.get? b=some {o with slots:=sl})(free:∀b o,b∉ch→s.heap.get? b=some o→H b=none→H' b=none)(there:∀b o,b∉ch→s.heap.get? b=some o→∃o',h'.get? b=some o')(tups:∀b xs,H b=some RX→H' b=some RX)(frzs:∀b o u,H b=some IT→H' b=some IT)(tbls:∀b ps,H b=some OY→∃more,H' b=some (.tbl (ps++more)))(ns:∀m,s.heap.Ns X.env.locals m→h'.Ns X.env.locals m)(hok:U7 H' h')(hg:AllBare g') :
  Inv X a5 σ H' {s with heap:=h',gens:=g',drawn:=d',toks:=t'}:=by
 have neL:∀b o,X.s₀.heap.get? b=some o→b≠X.env.locals:=λb o e=>Zi Cm
 have neC:∀b o,X.s₀.heap.get? b=some o→b∉X.ex→b∉ch:=λb o e hx hb=>by
  rcases(gH b hb).1 with z | z
  ·exact hx z
  ·exact absurd (Bb z) E6
 have cellK:∀x c,X.env.cells.lookup x=some c→∀v,s.heap.IsCell c v→h'.IsCell c v:=λx c e v ⟨o,ho,hd⟩=>by
  have nch:c∉ch:=λz=>(gH c z).2.2.1 x c e rfl
  by_cases hc:c∈X.fs
  ·obtain ⟨sl,q⟩:=slot c o (I.cne x c e) hc nch ho (JW e)
   exact⟨_,q,hd⟩
  ·exact⟨o,keep c o (I.cne x c e) hc nch ho (JW e),hd⟩
 refine⟨I.ok,I.os,hg,⟨λb o e n hb hx=>?_,λb o e n hb hx=>?_,λb o e n hx=>?_,λb o e hx=>?_,λb xs e=>tups b xs (I.base.tups b xs e),λb o xs e=>frzs b o xs (I.base.frzs b o xs e),λb ps e=>?_⟩,?_,λx c e=>?_,?_,λx c e=>?_,λp hp=>?_,hok,I.len⟩
 ·exact keep b o (neL b o e) hb Cz (BR hx) An
 ·obtain ⟨sl,e1⟩:=BS hx
  obtain⟨sl',e2⟩:=slot b _ (neL b o e) hb Cz e1 An
  exact⟨sl',e2⟩
 ·obtain ⟨o',e1⟩:=Bg hx
  exact free b o' Cz e1 An
 ·obtain ⟨o',e1⟩:=Bg hx
  exact there b o' Cz e1
 ·obtain ⟨m1,e1⟩:=I.base.tbls b ps e
  obtain⟨m2,e2⟩:=tbls b _ e1
  exact⟨m1++m2,by rw[e2,Array.append_assoc]⟩
 ·obtain ⟨m,hn,hl⟩:=I.loc
  refine⟨m,ns m hn,λi x v e1 e2 e3=>?_⟩
  obtain⟨u,r,l⟩:=hl i x v e1 e2 e3
  refine⟨u,r,?_⟩
  rcases l with l | ⟨k,c,e,z⟩
  ·exact .inl l
  ·exact .inr ⟨k,c,e,cellK x c e _ z⟩
 ·obtain ⟨v,z⟩:=JO e
  exact⟨v,cellK x c e v z⟩
 ·obtain ⟨m,⟨o,_,_,ho,_⟩,_⟩:=I.loc
  exact free _ o (λz=>(gH _ z).2.1 rfl) ho I.free
 ·obtain ⟨v,o,ho,hd⟩:=JO e
  exact free c o (λz=>(gH c z).2.2.1 x c e rfl) ho (JW e)
 ·obtain ⟨e,n,ne,nf,d⟩:=Bu hp
  have nch:p.1∉ch:=λz=>(gH p.1 z).2.2.2 p hp rfl
  exact⟨keep p.1 p.2 ne nf nch e n,free p.1 p.2 nch e n,ne,nf,d⟩
def Inv.un{t':Nat}(I:Hb)(u:Un X.fs [] H H' s.heap h')(hok:U7 H' h'):ZA H' {s with heap:=h',toks:=t'}:=by
 obtain⟨m,⟨o,es,ep,ho,r⟩,_⟩:=id I.loc
 obtain⟨sl,hL⟩:=u.any ho I.free Gf
 exact I.step (g':=s.gens) (d':=s.drawn) (ch:=[]) (λ_ z=>nomatch z) (λb o _ hb _ e n=>u.keep b o e n hb Gf) (λb o _ hb _ e n=>u.slot b o e n hb Gf) (λb o _ e n=>u.free b o e n Gf) (λb o _ e=>u.there b o e Gf) u.tups u.frzs u.tbls (λm' hm=>by
  obtain⟨o',ag,ep',cS,r'⟩:=hm
  rw[ho]at cS;cases cS
  exact⟨_,ag,ep',hL,r'⟩) hok I.bare
def Inv.call{g':Array GenState}{t':Nat}{d':Drawn}{ch:Nn}(I:Hb)(u:Vh h')(hok:U7 H' h')(hg:AllBare g')(gH:Hq) :
  Inv X a5 σ H' {s with heap:=h',gens:=g',drawn:=d',toks:=t'}:=by
 obtain⟨m,⟨o,es,ep,ho,r⟩,_⟩:=id I.loc
 obtain⟨sl,hL⟩:=u.any ho I.free λz=>(gH _ z).2.1 rfl
 exact I.step (ch:=ch) gH (λb o hL hb hc e n=>u.keep b o e n (λz=>(yq (DE z)).elim hL hb) hc) (λb o _ _ hc e n=>u.any e n hc) (λb o hc e n=>u.free b o e n hc) (λb o hc e=>u.there b o e hc) u.tups u.frzs u.tbls (λm' hm=>by
  obtain⟨o',ag,ep',cS,r'⟩:=hm
  rw[ho]at cS;cases cS
  exact⟨_,ag,ep',hL,r'⟩) hok hg
def Inv.turned{t':Nat}{it:Nb}(I:Hb)(k:∀b o,b≠it→s.heap.get? b=some o→h'.get? b=some o)(hn:H it=none)(hL:it≠X.env.locals)(h1:it∈X.ex∨X.s₀.heap.objs.size≤it)(h2:∀x c,X.env.cells.lookup x=some c→c≠it)(h3:∀p∈X.pn++a5,p.1≠it):ZA H {s with heap:=h',toks:=t'}:=by
 have nit:∀b u,H b=some u→b≠it:=λb u e z=>by rw[z,hn]at e;cases e
 refine I.step (g':=s.gens) (d':=s.drawn) (ch:=[it]) (λb hb=>?_) (λb o _ _ hc e _=>k b o (λz=>hc (by simp[z])) e) (λb o _ _ hc e _=>⟨o.slots,k b o (λz=>hc (by simp[z])) e⟩) (λ_ _ _ _ n=>n)
  (λb o hc e=>⟨o,k b o (λz=>hc (by simp[z])) e⟩) (λ_ _ e=>e) (λ_ _ _ e=>e) (λb ps e=>⟨#[],by rw[e];simp⟩) (λm hm=>?_) (λb u e=>?_) I.bare
 ·have e:b=it:=by simpa using hb
  subst e
  exact⟨h1,hL,h2,h3⟩
 ·obtain ⟨o,es,ep,ho,r⟩:=hm
  exact⟨o,es,ep,k _ o (Zk hL) ho,r⟩
 ·refine (XR u e).stay (fun c v hc q=>k c v ?_ q) (fun _ q=>q) fun _ _ q=>q
  rcases hc with z | z
  ·rw[z];exact nit b u e
  ·exact nit c _ z
def Inv.tok(I:Hb)(t:Nat):ZA H {s with toks:=t}:=I.un (h':=s.heap) (t':=t) Un.refl I.hok
def Inv.kept{t':Nat}(I:Hb)(k:∀b u,s.heap.get? b=some u→h'.get? b=some u):ZA H {s with heap:=h',toks:=t'}:=I.un (Un.kept k) (I.hok.kept k)
def Inv.laid(I:Hb)(k:∀b u,s.heap.get? b=some u→h'.get? b=some u)(hp:s.heap.objs.size≤a)(new:QB Eo h' a o) :
  Inv X a5 σ Eo {s with heap:=h',toks:=t'}:=I.un (Un.laid k hp (Es hp)) (I.hok.laid k hp new)
def Inv.write(I:Hb)(mu:Mut (H x))(he:e=x∨H e=some Er)(k:∀b u,b≠e→s.heap.get? b=some u→h'.get? b=some u)(lg:∃u,h'.get? e=some u)(new:QB (ZS x o) h' x o):ZA (ZS x o) {s with heap:=h',toks:=t'}:=I.un (Un.write mu he k lg) (I.hok.write mu he k lg new)
def Inv.pins_of(I:Hb)(h:∀p∈pins',s.heap.get? p.1=some p.2∧H p.1=none∧p.1≠X.env.locals∧p.1∉X.fs∧∀v,p.2.data≠.cell v):Inv X pins' σ H s :=
 ⟨I.ok,I.os,I.bare,I.base,I.loc,I.cell,I.free,I.freeC,λp hp=>(Qk.mp hp).elim (λz=>Bu (YG z)) (h p),I.hok,I.len⟩
def nodup_ix{N:Ng}(hN:N.Nodup){i j:Nat}{x:Str}(a:N[i]?=some x)(b:N[j]?=some x):i=j:=by
 obtain⟨h1,e1⟩:=Qy.mp a
 obtain⟨h2,e2⟩:=Qy.mp b
 exact(Wa hN).mp (e1.trans e2.symm)
def zgb{M:Model}{A:Np}{E:Nc}{i:Nat}{x:Str}{v:V}{u:Value}{Q:Unit→Shared→Prop}(I:Hb)(hN:X.N.Nodup)(hi:X.N[i]?=some x)(hx:Y2 x)(r:UY u)(h:∀s',ZC Et H s'→(∃a,B9 s'.heap∧(a=X.env.locals∨X.env.cells.lookup x=some a))→Q () s')(hf:X.fn x=true∨X.env.scope.names.lookup x=some .local:=by first | exact .inl rfl | exact .inr rfl | assumption):XS (Om u) Q E s:=by
 obtain⟨m,hn,hl⟩:=id I.loc
 have tS:(X.env.scope.kind==.class||(X.env.scope.kind==.module&&X.env.locals != X.env.globals))=false:=by rw[I.ok.kind];rfl
 have hiσ:i<σ.length:=by rw[I.len];exact(Tl hi).1
 have cne:=I.cne
 have tracked:∀{a:Nb} {h':No},(∃o,s.heap.get? a=some o∧H a=none)→B9 h'→U7 H h':=λ{a h'} ha hs b ob e=>by
  obtain⟨_,_,bu⟩:=ha
  refine(XR ob e).stay (λc w' hc q=>(hs.2 c ?_).trans q) (λ_ q=>q) λ_ _ q=>q
  rintro rfl
  rcases hc with rfl | hc
  ·rw[bu]at e;cases e
  ·rw[bu]at hc;cases hc
 rcases hx with hk | hk
 ·refine wpAny_storeName_local hk hn (fun h' hn' hs=>?_) tS
  obtain⟨oL,_,_,hoL,_⟩:=id hn
  refine h _ ⟨I.ok,I.os,I.bare,⟨λb o e n hb hx=>?_,λb o e n hb hx=>?_,I.base.free,λb o e hx=>?_,I.base.tups,I.base.frzs,I.base.tbls⟩,⟨_,hn',λj y v' e1 e2 e3=>?_⟩,λy c e=>?_,I.free,I.freeC,λp hp=>?_,tracked ⟨oL,hoL,I.free⟩ hs,by simpa using I.len⟩ ⟨_,hs,Hf⟩
  ·exact(OZ (Zi Cm)).trans (BR hx)
  ·obtain ⟨sl,e1⟩:=BS hx
   exact⟨sl,(OZ (Zi Cm)).trans e1⟩
  ·obtain ⟨o',e1⟩:=Bg hx
   exact⟨o',(OZ (Zi Cm)).trans e1⟩
  ·by_cases hj:j=i
   ·subst hj
    rw[hi]at e1;cases e1
    rw[List.getElem?_set_self hiσ]at e2
    cases e2
    exact⟨u,r,Rf ⟨hk,Gf⟩⟩
   ·rw [List.getElem?_set_ne (Zk hj)] at e2
    obtain⟨u',r',q⟩:=hl j y v' e1 e2 e3
    refine⟨u',r',?_⟩
    rcases q with⟨k,e⟩ | ⟨k,c,e,z⟩
    ·refine .inl ⟨k,?_⟩
     have:y≠x:=λe=>hj (nodup_ix hN e1 (e▸hi))
     simp[this,e]
    ·exact .inr ⟨k,c,e,P0⟩
  ·obtain ⟨w',z⟩:=I.cell y c e
   exact⟨w',P0⟩
  ·obtain ⟨e,n,ne,nf,d⟩:=Bu hp
   exact⟨(hs.2 p.1 ne).trans e,n,ne,nf,d⟩
 ·have tG:X.fn x=true:=by
   rcases hf with z | z
   ·exact z
   ·rw[z]at hk;cases hk
  obtain⟨c,hc⟩:=I.ok.has x (Rf hk)
  obtain⟨w',z⟩:=JO hc
  refine wpAny_storeName_cell I.ok.kind hk hc z (λh' cv hs=>?_)
  obtain⟨oc,hoc,sF⟩:=id z
  refine h {s with heap:=h'} ⟨I.ok,I.os,I.bare,⟨λb o e n hb hx=>?_,λb o e n hb hx=>?_,I.base.free,λb o e hx=>?_,I.base.tups,I.base.frzs,I.base.tbls⟩,⟨m,hn.sameBut hs (Zk (cne x c hc)),λj y v' e1 e2 e3=>?_⟩,λy c' e=>?_,I.free,I.freeC,λp hp=>?_,tracked ⟨oc,hoc,JW hc⟩ hs,by simpa using I.len⟩ ⟨c,hs,RG hc⟩
  ·exact(OZ Eu).trans (BR hx)
  ·obtain ⟨sl,e1⟩:=BS hx
   exact⟨sl,(OZ Eu).trans e1⟩
  ·obtain ⟨o',e1⟩:=Bg hx
   exact⟨o',(OZ Eu).trans e1⟩
  ·by_cases hj:j=i
   ·subst hj
    rw[hi]at e1;cases e1
    rw[List.getElem?_set_self hiσ]at e2
    cases e2
    exact⟨u,r,OS ⟨Rf hk,c,hc,cv⟩⟩
   ·rw [List.getElem?_set_ne (Zk hj)] at e2
    obtain⟨u',r',q⟩:=hl j y v' e1 e2 e3
    refine⟨u',r',?_⟩
    rcases q with q | ⟨k,c',e,z'⟩
    ·exact .inl q
    ·refine .inr ⟨k,c',e,z'.sameBut hs ?_⟩
     rintro rfl
     exact hj (nodup_ix hN e1 (I.ok.inj _ _ _ e hc▸hi))
  ·by_cases cu:c'=c
   ·subst cu;exact⟨_,cv⟩
   ·obtain ⟨w2,z2⟩:=I.cell y c' e
    exact⟨w2,z2.sameBut hs cu⟩
  ·obtain ⟨e,n,ne,nf,d⟩:=Bu hp
   refine⟨(hs.2 p.1 ?_).trans e,n,ne,nf,d⟩
   intro q
   rw[q,hoc]at e
   have q':oc=p.2:=Qn e
   exact d w' (by rw[←q'];exact sF)
def zh4(I:Hb)(hN:X.N.Nodup)(hi:X.N[i]?=some x)(hx:Y2 x)(r:UY u)(h:∀s',ZC Et H s'→Q () s')(hf:X.fn x=true∨X.env.scope.names.lookup x=some .local:=by first | exact .inl rfl | exact .inr rfl | assumption):XS (Om u) Q E s :=
 zgb I hN hi hx r (λs' I' _=>h s' I') hf
def Inv.call'(I:Hb)(ho:s'.os=s.os)(u:Vh s'.heap)(hok:U7 H' s'.heap)(hg:AllBare s'.gens)(gH:Hq):ZA H' s':=by
 obtain⟨h',g',d',t',o'⟩:=s'
 have e:o'=s.os:=ho
 subst e
 exact I.call (g':=g') (t':=t') (d':=d') u hok hg gH
end
abbrev XK:=Value→Option Addr→Hp→Prop
abbrev St:=List (Option V)
abbrev VK:=V→Hp→Prop
abbrev TE:=St→Hp→VK→Prop
abbrev TT:=St→Hp→(Bool→Hp→Prop)→Prop
abbrev TA:=St→Hp→(List V→Hp→Prop)→Prop
structure Ends where
 nx:St→Hp→Prop
 rt:VK
 bk:St→Hp→Prop:=λ_ _=>False
 ct:St→Hp→Prop:=λ_ _=>False
abbrev TS:=Ends→St→Hp→Prop
inductive EP(X:Cx)(a5:Nh)(σ:St)(Q:VK)(u:Value)(s':Ni):Prop
 |mk (v:V) (H':Hp) (i:Inv X a5 σ H' s') (r:RelV v u) (q:Q v H'):EP X a5 σ Q u s'
inductive TP(X:Cx)(a5:Nh)(σ:St)(Q:Bool→Hp→Prop)(b:Bool)(s':Ni):Prop
 |mk (H':Hp) (i:Inv X a5 σ H' s') (q:Q b H'):TP X a5 σ Q b s'
inductive AP(X:Cx)(a5:Nh)(σ:St)(Q:List V→Hp→Prop)(us:Nj)(s':Ni):Prop
 |mk (vs:List V) (H':Hp) (i:Inv X a5 σ H' s') (r:Vals vs us) (q:Q vs H'):AP X a5 σ Q us s'
def SP(X:Cx)(a5:Nh)(D:Ends)(f:Flow)(s':Ni):Prop :=
 match f with
 |.next=>Ex2 λ σ' H'=>UZ (D.nx σ' H')
 |.brk=>Ex2 λ σ' H'=>UZ (D.bk σ' H')
 |.cont=>Ex2 λ σ' H'=>UZ (D.ct σ' H')
 |.ret u=>Ex3 λv σ' H'=>Aj3 (ZC σ' H' s') (UY u) (D.rt v H')
def PE(X:Cx)(e:Expr)(t:TE):Prop :=
 ∀(a5:Nh) (s:Ni) (σ:St) (H:Hp) (Q:VK),ZA H s→t σ H Q→ZE CA SY X.xe s
def PT(X:Cx)(e:Expr)(t:TT):Prop :=
 ∀(a5:Nh) (s:Ni) (σ:St) (H:Hp) (Q:Bool→Hp→Prop),ZA H s→t σ H Q→ZE (isTrue e X.env CA) (V3 Q) X.xe s
def PW(X:Cx)(e:Expr)(t:TT):Prop :=
 ∀(whole:Sem Value) (a5:Nh) (s:Ni) (σ:St) (H:Hp) (Q:Bool→Hp→Prop),ZA H s→t σ H Q→ZE (isTrue e X.env whole) (V3 Q) X.xe s
def PW.pt(h:PW X e t):VN e t:=h _
def PA(X:Cx)(es:Nr)(t:TA):Prop :=
 ∀(pos:Pos) (a5:Nh) (s:Ni) (σ:St) (H:Hp) (Q:List V→Hp→Prop),ZA H s→t σ H Q→ZE (spliced (Ln Rw)) (AP X a5 σ Q) X.xe s
def PS(X:Cx)(st:Stmt)(t:TS):Prop :=
 ∀(a5:Nh) (s:Ni) (σ:St) (H:Hp) (D:Ends),ZA H s→t D σ H→ZE (exec st X.env) (XT D) X.xe s
def PSs(X:Cx)(st:List Stmt)(t:TS):Prop :=
 ∀(a5:Nh) (s:Ni) (σ:St) (H:Hp) (D:Ends),ZA H s→t D σ H→ZE (execs st X.env) (XT D) X.xe s
def thn{α:Type}{t:Sem α}{Q Q':α→Shared→Prop}{M:Model}{A:Np}{E:Nc}{s:Ni}(h:XS t Q E s)(hQ:∀a s,Q a s→Q' a s):XS t Q' E s:=MX hQ λ_ _ x=>x
end L2
namespace L2
open PySem PySem.Spec PyProof.Rows
section
variable{X:Cx}
def bin{a b:Expr}{ta tb:TE}(ha:Tr)(hb:C7){a5:Nh}{s:Ni}{σ:St}{H:Hp}{R:V→V→Hp→Prop}(I:Hb)(h:ta σ H λx H1=>tb σ H1 λy H2=>R x y H2){α:Type}{Q:α→Shared→Prop}{f:Value→Value→Sem α}(hf:∀v u s2 x y H2,ZA H2 s2→WJ v→YD u→R x y H2→ZE Pe Q X.xe s2) :
  wpAny Gq X.A (Hm a) (λv s₁=>ZE (Hm b) (λu s₂=>ZE Pe Q X.xe s₂) X.xe s₁) X.xe s:=by
 refine thn Rh λv s1 ⟨x,H1,I1,r1,q1⟩=>?_
 refine thn Te λu s2 ⟨y,H2,I2,r2,q2⟩=>?_
 exact Mz q2
inductive RVar(o:Option (Option V))(H:Hp)(Q:VK):Prop
 |mk (v:V) (e:o=some (some v)) (q:Q v H):RVar o H Q
def tVar(i:Nat):TE:=λ σ H Q=>RVar σ[i]? H Q
def tC(v:V):TE:=λ_ H Q=>Q v H
def pe_var(hN:X.N[i]?=some x)(hv:B4 x)(hd:HK=false:=by decide)(aD:(x==("__classdict__" : Str))=false:=by decide):Z7 Ev (tVar i):=by
 intro a5 s σ H Q I h
 obtain⟨v,e,h⟩:=h
 obtain⟨m,hn,hl⟩:=I.loc
 obtain⟨u,r,l⟩:=hl i x v hN e hv
 have fin:Z9 Q u s:=⟨v,H,I,r,h⟩
 rcases l with⟨hk,hm⟩ | ⟨hk,c,hc,dh⟩
 ·exact wpAny_Name (Xy fin) hd
 ·rcases hk with hk | hk
  ·exact wpAny_Name (XB fin) hd
  ·exact wpAny_Name (wpAny_loadName_free I.ok.kind hk hc dh fin aD) hd
def zah{i j pos}:Z7 (zg Ew) (tC Ew):=λ_ _ _ H _ I h=>wpAny_Constant_int ⟨Ew,H,Ru,⟨_,rfl⟩,h⟩
def pe_bl{b j pos}:Z7 (zg (OC b)) (tC (yr b)):=λ_ _ _ H _ I h=>Constant_bool ⟨yr b,H,I,rfl,h⟩
def zhi{j pos}:Z7 (On pos) (tC .non):=λ_ _ _ H _ I h=>Constant_none ⟨.non,H,I,rfl,h⟩
def pe_str{x j pos}:Z7 (zg TR) (tC TR):=λ_ _ _ H _ I h=>Calls.Constant_str ⟨TR,H,Ru,⟨_,rfl⟩,h⟩
def Gl(X:Cx)(x:Str):Prop:=X.env.kindOf x=some .globalImplicit
def ld_glob(I:Hb)(hg:V4 x)(hm:X.mg x=some u)(h:Q u s)(hd:HK=false:=by decide):ZE (Hm Ev) Q E s :=
 Calls.Name_function_global I.ok.kind hg (Calls.loadGlobal_global (by rw[I.ok.glob];exact I.mod.glob.keeps I.bk) hm h) hd
def zgs(I:Hb)(hg:V4 x)(hm:X.mg x=none)(hv:bootBuiltins x=some u)(h:Q u s)(hn:x ≠ "__name__" := by decide)(hd:HK=false:=by decide):ZE (Hm Ev) Q E s:=by
 obtain⟨mb,h1,h2⟩:=I.mod.blt
 exact Calls.Name_function_global I.ok.kind hg (Calls.loadGlobal_builtin (by rw[I.ok.glob];exact I.mod.glob.keeps I.bk) hm (by rw[I.ok.blt];exact h1.keeps I.bk) ((h2 x hn).trans hv) h) hd
def zgj(hg:V4 x)(hm:X.mg x=some u)(r:UY u)(hd:HK=false:=by decide):Z7 Ev (tC v) :=
 λ_ _ _ H _ I h=>VO ⟨v,H,I,r,h⟩ hd
variable{a b:Expr}{ta tb:TE}{pos:Pos}
def PC(X:Cx)(op:CmpOp)(a b:Expr)(t:TE):Prop :=
 ∀(a5:Nh) (s:Ni) (σ:St) (H:Hp) (Q:VK),ZA H s→t σ H Q →
  wpAny Gq X.A (Hm a) (λv s₁=>ZE (Hm b) (λu s₂=>ZE (compareOp op v u) SY X.xe s₂) X.xe s₁) X.xe s
def nobehind(b:Expr){op:CmpOp}(h:op≠.In)(h2:op≠.NotIn):behindInMarks op b=false:=by
 have e1:(op==CmpOp.In)=false:=by cases op<;>first | rfl | exact absurd rfl h
 have e2:(op==CmpOp.NotIn)=false:=by cases op<;>first | rfl | exact absurd rfl h2
 cases b<;>simp[behindInMarks,e1,e2]
def tIsN(ta:TE):TE:=λ σ H Q=>ta σ H λx H1=>Q (.bl (decide (x=.non))) H1
def tNotN(ta:TE):TE:=λ σ H Q=>ta σ H λx H1=>Q (yr (!decide (x=.non))) H1
def RelV.none_iff{x:V}{v:Value}(r:WJ v):(v==Value.none)=decide (x=.non):=by
 cases x with
 |non=>cases r;rfl
 |bl _=>cases r;rfl
 |int _=>obtain⟨t,rfl⟩:=r;rfl
 |str _=>obtain⟨t,rfl⟩:=r;rfl
 |byt _=>obtain⟨t,rfl⟩:=r;rfl
 |flt _=>obtain⟨t,rfl⟩:=r;rfl
 |ref _=>cases r;rfl
 |ty _=>cases r;rfl
def pc_isN{j aH}(ha:Tr):PC X .Is a (On aH) (tIsN ta):=by
 intro a5 s σ H Q I h
 refine thn Rh λv s1 ⟨x,H1,I1,r1,q1⟩=>?_
 exact Constant_none (is_none_gen ⟨yr _,H1,I1,by rw[r1.none_iff];rfl,q1⟩)
def zfa{j aH}(ha:Tr):PC X .IsNot a (On aH) (tNotN ta):=by
 intro a5 s σ H Q I h
 refine thn Rh λv s1 ⟨x,H1,I1,r1,q1⟩=>?_
 exact Constant_none (isnot_none_gen ⟨yr _,H1,I1,by rw[r1.none_iff];rfl,q1⟩)
inductive RB(x:V)(H:Hp)(Q:Bool→Hp→Prop):Prop
 |mk (c:Bool) (e:x=.bl c) (q:Q c H):RB x H Q
def tB(t:TE):TT:=λ σ H Q=>t σ H λx H1=>RB x H1 Q
def zch{op:CmpOp}{t:TE}(h:PC X op a b t)(h1:behindInMarks op b=false:=by first | exact nobehind _ Gj Gj | rfl):VN (.Compare a [op] [b] pos) (tB t):=by
 intro a5 s σ H Q I hw
 refine wpAny_isTrue_Compare1 (thn (Ld _ hw) λv s1 h1=>thn h1 λu s2 h2=>thn h2 λc s3 ⟨x,H1,I1,r1,q1⟩=>?_) h1
 obtain⟨d,rfl,q⟩:=q1
 cases r1
 exact wpAny_truthy_bool ⟨H1,I1,q⟩
def pt_val{e:Expr}{t:TE}(h:Z7 e t)(he:∀whole,isTrue e X.env whole=(do let v ←whole;standAt e.pos;holding [v] IV):=by intro _;rfl):VN e (tB t):=by
 intro a5 s σ H Q I hw
 refine isTrue_plain (thn (Ld _ hw) λv s1 ⟨x,H1,I1,r1,q1⟩=>?_) (he _)
 obtain⟨d,rfl,q⟩:=q1
 cases r1
 exact wpAny_truthy_bool ⟨H1,I1,q⟩
variable{tA oZ:TT}{rest:Nr}
def tAnd(t u:TT):TT:=λ σ H Q=>t σ H λc H1=>if c=true then u σ H1 Q else Q false H1
def tOr(t u:TT):TT:=λ σ H Q=>t σ H λc H1=>if c=true then Q true H1 else u σ H1 Q
def tNot(t:TT):TT:=λ σ H Q=>t σ H λc H1=>Q (!c) H1
def zig(ha:A4):PW X (.BoolOp .And [a] pos) tA:=by
 intro wh a5 s σ H Q I h
 refine isTrue_and (thn Ao λc s1 e=>?_)
 cases c with
 |true=>exact isTrue_and_nil e
 |false=>exact e
def pw_or1(ha:A4):PW X (.BoolOp .Or [a] pos) tA:=by
 intro wh a5 s σ H Q I h
 refine isTrue_or (thn Ao λc s1 e=>?_)
 cases c with
 |false=>exact isTrue_or_nil e
 |true=>exact e
def pw_and(ha:A4)(hb:PW X (.BoolOp .And (b::rest) pos) oZ):PW X (.BoolOp .And (a::b::rest) pos) (tAnd tA oZ):=by
 intro wh a5 s σ H Q I h
 refine isTrue_and (thn Rh λc s1 ⟨H1,I1,q1⟩=>?_)
 cases c with
 |true=>exact hb wh a5 s1 σ H1 Q I1 q1
 |false=>exact⟨H1,I1,q1⟩
def pw_or(ha:A4)(hb:PW X (.BoolOp .Or (b::rest) pos) oZ):PW X (.BoolOp .Or (a::b::rest) pos) (tOr tA oZ):=by
 intro wh a5 s σ H Q I h
 refine isTrue_or (thn Rh λc s1 ⟨H1,I1,q1⟩=>?_)
 cases c with
 |true=>exact⟨H1,I1,q1⟩
 |false=>exact hb wh a5 s1 σ H1 Q I1 q1
def pt_not(ha:A4):VN (.UnaryOp .Not a pos) (tNot tA):=by
 intro a5 s σ H Q I h
 exact isTrue_not (wpAny_mono (ha a5 s σ H (λc H1=>Q (!c) H1) I h) (λc s2 z=>by obtain⟨a,b,d⟩:=z;exact⟨a,b,d⟩) λ_ _ e=>e)
def tAndV(ta tb:TE):TE:=λ σ H Q=>ta σ H λx H1=>RB x H1 λc H1=>if c=true then tb σ H1 Q else Q Ex H1
def pe_one{op}(h:Z7 a t):Z7 (.BoolOp op [a] pos) t:=λa5 s σ H Q I hw=>BoolOp_one (Ld Q hw)
def pe_and(ha:Tr)(hb:Z7 (.BoolOp .And (b::rest) pos) tb):Z7 (.BoolOp .And (a::b::rest) pos) (tAndV ta tb):=by
 intro a5 s σ H Q I h
 refine BoolOp_and (thn Rh λv s1 ⟨x,H1,I1,r1,q1⟩=>?_)
 obtain⟨c,rfl,q1⟩:=q1
 cases r1
 refine wpAny_truthy_bool ?_
 cases c with
 |true=>exact hb a5 s1 σ H1 Q I1 q1
 |false=>exact⟨Ex,H1,I1,rfl,q1⟩
def tIf(t:TT)(ta tb:TE):TE:=λ σ H Q=>t σ H λc H1=>if c=true then ta σ H1 Q else tb σ H1 Q
def pe_ifExp{c:Expr}(hc:VN c tA)(ha:Tr)(hb:C7):Z7 (.IfExp c a b pos) (tIf tA ta tb):=by
 intro a5 s σ H Q I h
 refine wpAny_IfExp (thn Ap λd s1 ⟨H1,I1,q1⟩=>?_)
 cases d with
 |true=>exact ha a5 s1 σ H1 Q I1 q1
 |false=>exact hb a5 s1 σ H1 Q I1 q1
end
end L2
namespace L2
open PySem PySem.Spec PyProof.Rows
def SqL(K:Na)(H:Hp)(a:Nb)(xs:List V):Prop :=
 Rd H a Sq ∨
  ∃(o:Obj) (a7:Array Value) (n:Nat),K.lookup a=some o∧o.cls=.type "list" ∧ o.dict=none∧o.data=.seq a7 n∧a7.size≤sizeLine∧WD a7.toList
def SqT(K:Na)(H:Hp)(a:Nb)(xs:List V):Prop :=
 Rd H a RX ∨
  ∃(o:Obj) (a7:Array Value) (n:Nat),K.lookup a=some o∧o.cls=.type "tuple" ∧ o.data=.seq a7 n∧a7.size≤sizeLine∧WD a7.toList
def absV:Value→Option V
 |.none=>some .non
 |.bool b=>some (yr b)
 |.int i _=>some Ew
 |.str x _=>some TR
 |.bytes b _=>some (.byt b)
 |.float b _=>some (.flt b)
 |.ref a=>some Rg
 |.type n=>some (.ty n)
 |_=>none
def RelV.abs(r:WJ u):absV u=some x:=by
 cases x with
 |non=>cases r;rfl
 |bl _=>cases r;rfl
 |int _=>obtain⟨t,rfl⟩:=r;rfl
 |str _=>obtain⟨t,rfl⟩:=r;rfl
 |byt _=>obtain⟨t,rfl⟩:=r;rfl
 |flt _=>obtain⟨t,rfl⟩:=r;rfl
 |ref _=>cases r;rfl
 |ty _=>cases r;rfl
def RelV.inj{x y:V}{u:Value}(r:WJ u)(q:YD u):x=y:=Qn (r.abs.symm.trans q.abs)
theorem Vals.inj:∀{xs ys:List V} {us:Nj},WD us→YK us→xs=ys
 |_,_,_,.nil,.nil=>rfl
 |_,_,_,.cons r t,.cons r' t'=>by rw[r.inj r',Vals.inj t t']
section
variable{X:Cx}{a5:Nh}{σ:St}{H:Hp}{s:Ni}{a:Nb}{xs ys:List V}
def SqL.of{K:Na}(h:H a=some Sq):YM xs:=.inl IW
def SqT.of{K:Na}(h:H a=some RX):JP xs:=.inl IW
def Inv.list(I:Hb)(h:WO a xs):∃a7:List Value,WD a7∧PlainL s.heap a a7.toArray∧xs.length≤sizeLine:=by
 rcases h with h | ⟨o,a7,n,hk,hc,hd,hs,hz,r⟩
 ·obtain ⟨z,a7,n,r,e⟩:=h.ok I.hok
  exact⟨a7,r,⟨_,n,e,rfl,rfl,rfl⟩,z⟩
 ·refine ⟨a7.toList,r,⟨o,n,yf a,hc,hd,Gk hs⟩,?_⟩
  have e:=r.length
  simp only[Wn]at e
  lia
def Inv.tuple(I:Hb)(h:Vj a xs):∃a7:List Value,WD a7∧MY a a7.toArray∧xs.length≤sizeLine:=by
 rcases h with h | ⟨o,a7,n,hk,hc,hs,hz,r⟩
 ·obtain ⟨z,a7,r,p⟩:=h.ok I.hok
  exact⟨a7,r,p,z⟩
 ·refine ⟨a7.toList,r,⟨o,yf a,hc,n,Gk hs⟩,?_⟩
  have e:=r.length
  simp only[Wn]at e
  lia
def Inv.list_inj(I:Hb)(h:WO a xs)(h':WO a ys):xs=ys:=by
 obtain⟨a7,r,⟨o,n,e,_,_,d⟩,_⟩:=I.list h
 obtain⟨its',r',⟨o',n',e',_,_,d'⟩,_⟩:=I.list h'
 rw[e]at e';cases e'
 rw[d]at d'
 injection d' with d1 _
 have:a7=its':=by simpa using congrArg Array.toList d1
 subst this
 exact r.inj r'
def Inv.tuple_inj(I:Hb)(h:Vj a xs)(h':Vj a ys):xs=ys:=by
 obtain⟨a7,r,⟨o,e,_,n,d⟩,_⟩:=I.tuple h
 obtain⟨its',r',⟨o',e',_,n',d'⟩,_⟩:=I.tuple h'
 rw[e]at e';cases e'
 rw[d]at d'
 injection d' with d1 _
 have:a7=its':=by simpa using congrArg Array.toList d1
 subst this
 exact r.inj r'
end
abbrev Cx.wish(X:Cx)(E:Nc):Cx:={X with xe:=E}
abbrev Cx.nox(X:Cx):Cx:=X.wish λ_ _=>False
def Cx.Ok.wish{X:Cx}(ok:X.Ok)(E:Nc):(X.wish E).Ok :=
 ⟨ok.mod,ok.kind,ok.glob,ok.blt,ok.above,ok.inj,ok.has,ok.cab,ok.hd,ok.frames,ok.stk,ok.exf,ok.bs,ok.bsz,ok.noex,ok.exfs,ok.funs,ok.frf⟩
def Cx.Ok.unwish{X:Cx}{E:Nc}(ok:(X.wish E).Ok):X.Ok :=
 ⟨ok.mod,ok.kind,ok.glob,ok.blt,ok.above,ok.inj,ok.has,ok.cab,ok.hd,ok.frames,ok.stk,ok.exf,ok.bs,ok.bsz,ok.noex,ok.exfs,ok.funs,ok.frf⟩
section
variable{X:Cx}{a5:Nh}{σ:St}{H:Hp}{s:Ni}{E:Nc}
def Inv.wish(I:Hb)(E:Nc):MZ s:=⟨I.ok.wish E,I.os,I.bare,I.base,I.loc,I.cell,I.free,I.freeC,I.pin,I.hok,I.len⟩
def Inv.unwish(I:MZ s):ZA H s:=⟨I.ok.unwish,I.os,I.bare,I.base,I.loc,I.cell,I.free,I.freeC,I.pin,I.hok,I.len⟩
def SP.unwish(h:SP (X.wish E) a5 D f s'):XT D f s':=by
 cases f with
 |next=>obtain⟨σ',H',I,q⟩:=h;exact⟨σ',H',I.unwish,q⟩
 |brk=>obtain⟨σ',H',I,q⟩:=h;exact⟨σ',H',I.unwish,q⟩
 |cont=>obtain⟨σ',H',I,q⟩:=h;exact⟨σ',H',I.unwish,q⟩
 |ret u=>obtain⟨v,σ',H',I,r,q⟩:=h;exact⟨v,σ',H',I.unwish,r,q⟩
def PSs.nox{st:List Stmt}{t:TS}(h:PSs X.nox st t):V5 st t:=λa5 s σ H D I hw =>
 wpAny_mono (h a5 s σ H D (I.wish _) hw) (λ_ _ q=>q.unwish) λ_ _ z=>False.elim z
end
section
variable{X:Cx}{st:Stmt}{rest:List Stmt}{t u:TS}{e:Expr}{te:TE}{pos:Pos}
def tNext:TS:=λD σ H=>YB H
def tSeq(t u:TS):TS:=λD σ H=>t {D with nx:=u D} σ H
def zau:V5 [] tNext:=λ_ _ σ H _ I h=>wpAny_execs_nil ⟨σ,H,I,h⟩
def zad(h1:KA st t)(h2:V5 rest u):V5 (st::rest) (tSeq t u):=by
 intro a5 s σ H D I h
 refine wpAny_execs_cons (thn (h1 a5 s σ H {D with nx:=u D} I h) λf s1 q=>?_)
 cases f with
 |next =>
  obtain⟨σ',H',I',q⟩:=q
  exact h2 a5 s1 σ' H' D I' q
 |ret v=>exact q
 |brk=>exact q
 |cont=>exact q
def zag(h1:KA st t):V5 [st] t:=by
 intro a5 s σ H D I h
 refine wpAny_execs_cons (thn (h1 a5 s σ H D I h) λf s1 q=>?_)
 cases f with
 |next=>exact wpAny_execs_nil q
 |ret v=>exact q
 |brk=>exact q
 |cont=>exact q
def tBreak:TS:=λD σ H=>D.bk σ H
def ps_break:KA (.Break pos) tBreak:=λ_ _ σ H _ I h=>wpAny_Break ⟨σ,H,I,h⟩
def Inv.quiet{a5:Nh}{σ:St}{H:Hp}{s:Ni}(I:Hb):interactive X.env=false:=by simp[interactive,I.ok.kind]
def tDrop(te:TE):TS:=λD σ H=>te σ H λ_ H1=>YB H1
def zba(he:Lb)(hs:swapsWith e none pos.line X.env=pure false:=by rfl):KA (.Expr e pos) (tDrop te):=by
 intro a5 s σ H D I h
 exact wpAny_Expr_any (thn Ri λv s1 ⟨x,H1,I1,r1,q1⟩=>⟨σ,H1,I1,q1⟩) I.quiet hs
def tRet(te:TE):TS:=λD σ H=>te σ H D.rt
def zax(he:Lb):KA (.Return (Gz e) pos) (tRet te):=by
 intro a5 s σ H D I h
 exact wpAny_Return_some (thn Ri λv s1 ⟨x,H1,I1,r1,q1⟩=>⟨x,σ,H1,I1,r1,q1⟩)
def tIfS(c:TT)(t u:TS):TS:=λD σ H=>c σ H λb H1=>if b=true then t D σ H1 else u D σ H1
def zby{c:Expr}{a b:List Stmt}{tc:TT}(hc:VN c tc)(ha:V5 a t)(hb:V5 b u):KA (.If c a b pos) (tIfS tc t u):=by
 intro a5 s σ H D I h
 refine wpAny_If (thn Ap λd s1 ⟨H1,I1,q1⟩=>?_)
 cases d with
 |true=>exact ha a5 s1 σ H1 D I1 q1
 |false=>exact hb a5 s1 σ H1 D I1 q1
end
abbrev TG:=V→St→Hp→(St→Hp→Prop)→Prop
abbrev TGs:=List V→St→Hp→(St→Hp→Prop)→Prop
def PG(X:Cx)(target:Expr)(t:TG):Prop :=
 ∀(a5:Nh) (s:Ni) (σ:St) (H:Hp) (v:V) (u:Value) (Q:St→Hp→Prop),ZA H s→UY u→t v σ H Q →
  wpAny Gq X.A (assign target X.env u) (λ_ s'=>Ex2 λ σ' H'=>UZ (Q σ' H')) X.xe s
def PGs(X:Cx)(ts:Nr)(t:TGs):Prop :=
 ∀(a5:Nh) (s:Ni) (σ:St) (H:Hp) (vs:List V) (us:Nj) (Q:St→Hp→Prop),ZA H s→M0 us→t vs σ H Q →
  wpAny Gq X.A (assignInOrder ((Tj ts).map (·.2)) us) (λ_ s'=>Ex2 λ σ' H'=>UZ (Q σ' H')) X.xe s
abbrev TSet:=V→V→V→Hp→(Hp→Prop)→Prop
def PSet(X:Cx)(t:TSet):Prop :=
 ∀(a5:Nh) (s:Ni) (σ:St) (H:Hp) (o i v:V) (ov iv u:Value) (Q:Hp→Prop),ZA H s→RelV o ov→RelV i iv→UY u→t o i v H Q →
  wpAny Gq X.A (setItem ov iv u) (λ_ s'=>∃H',ZA H' s'∧Q H') X.xe s
abbrev TIp:=V→V→Hp→VK→Prop
def PIp(X:Cx)(op:Operator)(t:TIp):Prop :=
 ∀(a5:Nh) (s:Ni) (σ:St) (H:Hp) (x y:V) (v u:Value) (Q:VK),ZA H s→WJ v→YD u→t x y H Q →
  wpAny Gq X.A (inplaceOp op v u) SY X.xe s
section
variable{X:Cx}{pos:Pos}
def zez(i:Nat):TG:=λv σ H Q=>Q Et H
def pg_name(hN:X.N.Nodup)(hi:X.N[i]?=some x)(hx:Y2 x)(hf:X.fn x=true∨X.env.scope.names.lookup x=some .local:=by first | exact .inl rfl | exact .inr rfl | assumption):DF IF:=by
 intro a5 s σ H v u Q I r h
 exact wpAny_assign_Name (zh4 I hN hi hx r (λs' I'=>⟨_,H,I',h⟩) hf)
def gNil:TGs:=λvs σ H Q=>vs=[]∧Q σ H
inductive RGC(vs:List V)(R:V→List V→Prop):Prop
 |mk (v:V) (r:List V) (e:vs=v::r) (q:R v r):RGC vs R
def gCons(t:TG)(u:TGs):TGs:=λvs σ H Q=>RGC vs λv r=>t v σ H λ σ' H'=>u r σ' H' Q
def zbn:Fd [] gNil:=by
 intro a5 s σ H vs us Q I r h
 obtain⟨e,h⟩:=h
 subst e
 cases r
 exact assignInOrder_nil ⟨σ,H,I,h⟩
def zaj{e:Expr}{es:Nr}{t:TG}{u:TGs}(h1:PG X e t)(h2:Fd es u)(hs:(assignEach (e::es) X.env).map (·.2)=assign e X.env::(Tj es).map (·.2):=by rfl):Fd (e::es) (gCons t u):=by
 intro a5 s σ H vs us Q I r h
 obtain⟨v,vr,e1,h⟩:=h
 subst e1
 cases r with
 |cons r rr =>
  rw[hs]
  refine assignInOrder_cons (thn (h1 a5 s σ H _ _ _ I r h) λ_ s1 ⟨σ1,H1,I1,q1⟩=>?_)
  exact h2 a5 s1 σ1 H1 _ _ Q I1 rr q1
inductive RGT(K:Na)(n:Nat)(v:V)(H:Hp)(R:List V→Prop):Prop
 |mk (a:Nb) (xs:List V) (e:v=.ref a) (s:SqT K H a xs) (l:xs.length=n) (q:R xs):RGT K n v H R
def gTup(K:Na)(n:Nat)(t:TGs):TG:=λv σ H Q=>RGT K n v H λxs=>t xs σ H Q
def zcj(hc:X.calm=true)(h:Fd es t)(hn:(Tj es).length=n:=by rfl)(aq:(Tj es).findIdx? (·.1)=none:=by rfl):M1 (gTup X.K n t):=by
 intro a5 s σ H v u Q I r hw
 obtain⟨a,xs,e1,hq,hl,hw⟩:=hw
 subst e1
 cases r
 obtain⟨a7,rv,ht,hz⟩:=I.tuple hq
 refine assign_Tuple_tuple Sr ht (by simp[hn,←hl,rv.length]) aq λh' hx=>?_
 have I1:ZA H {s with heap:=h'}:=I.kept (t':=s.toks) λb o e=>hx b o E7 e
 exact h a5 _ σ H xs _ Q I1 (Gk rv) hw
def gSub(to ti:TE)(t:TSet):TG:=λv σ H Q=>to σ H λo H1=>ti σ H1 λi H2=>t o i v H2 λH3=>Q σ H3
def pg_sub{o i:Expr}{to ti:TE}{t:TSet}(ho:Z7 o to)(hi:Z7 i ti)(hs:PSet X t)(ha:∀ v,assign Aq X.env v=(do
   let ov ←holding [v] (Hm o)
   let iv ←holding [v,ov] (Hm i)
   standAt pos
   holding [v,ov,iv] (setItem ov iv v)
   release [v,ov,iv] []):=by intro _;rfl):PG X Aq (gSub to ti t):=by
 intro a5 s σ H v u Q I r h
 rw[ha]
 refine wpAny_bind (wpAny_holding (thn Sf λov s1 ⟨x,H1,I1,r1,q1⟩=>?_))
 refine wpAny_bind (wpAny_holding (thn Tf λiv s2 ⟨y,H2,I2,r2,q2⟩=>?_))
 refine wpAny_bind (wpAny_standAt (wpAny_bind (wpAny_holding (thn (hs a5 s2 σ H2 x y v ov iv u _ I2 r1 r2 r q2) λ_ s3 ⟨H3,I3,q3⟩=>?_))))
 exact wpAny_release ⟨σ,H3,I3,q3⟩
def tAsg(te:TE)(g:TG):TS:=λD σ H=>te σ H λx H1=>g x σ H1 D.nx
def zd6{tg e:Expr}{te:TE}{g:TG}(he:Lb)(hg:PG X tg g)(hs:swapsWithSole [tg] e pos.line X.env=pure false:=by rfl)(hw:swappedStores [tg] e X.env=pure none:=by rfl)(h1:(assignEach [tg] X.env).map (·.2)=[assign tg X.env]:=by rfl):KA (.Assign [tg] e pos) (tAsg te g):=by
 intro a5 s σ H D I h
 refine wpAny_Assign_stores (thn Ri λv s1 ⟨x,H1,I1,r1,q1⟩=>?_) hs hw
 rw[h1]
 exact thn (hg a5 s1 σ H1 x v _ I1 r1 q1) λ_ s2 q=>q
def zhh{i:Nat}{x:Str}{e:Expr}{te:TE}{aH:Pos}(hN:X.N.Nodup)(hi:X.N[i]?=some x)(hx:Y2 x)(he:Lb)(hs:swapsWith e (Gz zy) pos.line X.env=pure false:=by rfl)(hf:X.fn x=true∨X.env.scope.names.lookup x=some .local:=by first | exact .inl rfl | exact .inr rfl | assumption) :
  PS X (.Assign [zy] e pos) (tAsg te IF):=by
 intro a5 s σ H D I h
 refine wpAny_Assign_Name (thn Ri λv s1 ⟨y,H1,I1,r1,q1⟩=>?_) hs
 exact zh4 I1 hN hi hx r1 (λs2 I2=>⟨_,H1,I2,q1⟩) hf
def tAug(i:Nat)(te:TE)(ti:TIp):TS:=λD σ H=>∃x,σ[i]?=some (Gz x)∧te σ H λy H1=>ti x y H1 λz H2=>D.nx (σ.set i (Gz z)) H2
def ps_aug(hN:X.N.Nodup)(hi:X.N[i]?=some x)(hx:Y2 x)(he:Lb)(ho:PIp X op ti)(hf:X.fn x=true∨X.env.scope.names.lookup x=some .local:=by first | exact .inl rfl | exact .inr rfl | assumption) :
  PS X (.AugAssign zy op e pos) (tAug i te ti):=by
 intro a5 s σ H D I h
 obtain⟨v,e1,h⟩:=h
 obtain⟨m,hn,hl⟩:=I.loc
 have vis:B4 x:=by rcases hx with k | k;exact .inl k;exact .inr (Rf k)
 obtain⟨u,r,l⟩:=hl i x v hi e1 vis
 refine wpAny_AugAssign_Name ?_
 have go:ZE CA (λw s₂=>ZE (inplaceOp op u w) (λr s₃=>ZE (Om r) (λ_=>XT D .next) X.xe s₃) X.xe s₂) X.xe s:=by
  refine thn Ri λw s1 ⟨y,H1,I1,r1,q1⟩=>?_
  refine thn (ho a5 s1 σ H1 v y u w _ I1 r r1 q1) λz s2 ⟨zv,H2,I2,r2,q2⟩=>?_
  exact zh4 I2 hN hi hx r2 (λs3 I3=>⟨_,H2,I3,q2⟩) hf
 rcases l with⟨hk,hm⟩ | ⟨hk,c,hc,dh⟩
 ·exact Xy go
 ·rcases hk with hk | hk
  ·exact XB go
  ·rcases hx with k | k
   ·have:X.env.scope.names.lookup x=some .free:=hk
    rw[k]at this;cases this
   ·have:X.env.scope.names.lookup x=some .free:=hk
    rw[k]at this;cases this
def ipI(f:Int→Int→Int):TIp:=λx y H Q=>∃i j,x=.int i∧y=.int j∧Q (Ht (f i j)) H
def ip_add:PIp X .Add (ipI λi j=>i+j):=by
 intro a5 s σ H x y v u Q I r1 r2 h
 obtain⟨i,j,e1,e2,q⟩:=h
 subst e1;subst e2
 obtain⟨t,rfl⟩:=r1
 obtain⟨t',rfl⟩:=r2
 exact iadd_int ⟨Ht _,H,Ru,⟨_,rfl⟩,q⟩
def tWhile(c:TT)(tb:TS):TS:=λD σ H=>∃W:Nat→St→Hp→Prop,(∃m,W m σ H)∧∀m σ H,W m σ H →
 c σ H λb H1=>if b=true then ∃N:St→Hp→Prop,(∀σ' H',N σ' H'→∃m',m'<m∧W m' σ' H')∧tb {D with nx:=N,ct:=N,bk:=D.nx} σ H1 else YB H1
def zes(hp:XC X.xe)(hc:VN c tc)(hb:V5 body tb):KA (.While c body [] pos) (tWhile tc tb):=by
 intro a5 s σ H D I h
 obtain⟨W,⟨m0,w0⟩,turn⟩:=h
 refine wpAny_While (codeAny_whileLoop (λn s'=>∃σ' H',ZC σ' H' s'∧W n σ' H') ?_ m0 ⟨σ,H,I,w0⟩)
 rintro n s1 ⟨σ1,H1,I1,w1⟩
 refine W4 (thn (hc a5 s1 σ1 H1 _ I1 (turn n σ1 H1 w1)) λb s2 ⟨H2,I2,q2⟩=>?_)
 cases b with
 | true =>
  obtain⟨N,hN,q2⟩:=q2
  rw[if_pos rfl]
  refine W4 (thn (hb a5 s2 σ1 H2 _ I2 q2) λf s3 q3=>?_)
  cases f with
  |next =>
   obtain⟨σ3,H3,I3,n3⟩:=q3
   obtain⟨m',hm,w3⟩:=hN σ3 H3 n3
   exact⟨m',hm,σ3,H3,I3,w3⟩
  |cont =>
   obtain⟨σ3,H3,I3,n3⟩:=q3
   obtain⟨m',hm,w3⟩:=hN σ3 H3 n3
   exact⟨m',hm,σ3,H3,I3,w3⟩
  |brk=>exact q3
  |ret v=>exact q3
 |false =>
  rw[if_neg Zh]
  exact wpAny_execs_nil ⟨σ1,H2,I2,q2⟩
end
structure It where
 go:Nat→Hp→Prop
 yld:Nat→Hp→V→Hp→Prop
 stop:Nat→Hp→Prop
def FpOk(X:Cx)(a5:Nh)(H:Hp)(b:Nb):Prop :=
 H b=none∧b≠X.env.locals∧b∉X.fs∧(b∈X.ex∨X.s₀.heap.objs.size≤b)∧(∀x c,X.env.cells.lookup x=some c→c≠b)∧∀p∈X.pn++a5,p.1≠b
def Inv.fpOk{X:Cx}{a5:Nh}{σ:St}{H H':Hp}{s:Ni}{b:Nb}(I:Hb)(hb:s.heap.objs.size≤b)(hn:H' b=none):FpOk X a5 H' b:=by
 refine⟨hn,Yp (Zw I.lt hb),I.nofs hb,RG (Ze I.sz hb),λx c e z=>?_,λp hp z=>?_⟩
 ·obtain ⟨v,q⟩:=JO e
  exact absurd (Zw q.lt (Gp z hb)) E6
 ·exact absurd (Zw (Qv (Bu hp).1) (Gp z hb)) E6
structure Turn(P:Nk)(w:Nl)(K:Na)(tg:Expr)(J:It)(fp:Nn)(it:Nb)(tn:Nat→Heap→Prop):Prop where
 mem:it∈fp
 obj:∀i h,tn i h→∀b∈fp,∃o,h.get? b=some o∧∀v,o.data≠.cell v
 keep:∀i h h',tn i h→(∀b∈fp,∀o,h.get? b=some o→h'.get? b=some o)→tn i h'
 item:∀(X:Cx),X.prog=P→X.w=w→X.K=K→X.calm=true→∀(i:Nat) (a5:Nh) (s:Ni) (σ:St) (H:Hp) (E:Nc),ZA H s→(∀b∈fp,QY b)→tn i s.heap→M3 H →
  wpAny LO X.A (pyNext SC) (λr s1=>∃u,r=some u ∧
   wpAny LO X.A Oo (λ_ s2=>∃x H',ZA H' s2∧WJ u∧Bv H'∧tn Hj s2.heap∧∀b∈fp,H' b=none) E s1) E s
 done:∀(X:Cx),X.prog=P→X.w=w→X.K=K→X.calm=true→∀(i:Nat) (a5:Nh) (s:Ni) (σ:St) (H:Hp) (E:Nc),ZA H s→(∀b∈fp,QY b)→tn i s.heap→KZ H →
  wpAny LO X.A (pyNext SC) (λr s1=>r=none∧ZA H s1) E s
 self:∀(A:Np) (i:Nat) (s:Ni) (Q:Nc) (E:Nc),tn i s.heap→Q SC s→K0 A (Ip SC) Q E s
abbrev TI:=St→Hp→(It→Hp→Prop)→Prop
inductive PIE(X:Cx)(a5:Nh)(σ:St)(tg:Expr)(R:It→Hp→Prop)(itv:Value)(s2:Ni):Prop
 |mk (it:Nb) (fp:Nn) (tn:Nat→Heap→Prop) (J:It) (H':Hp) (h0:itv=.ref it) (h1:Inv X a5 σ H' s2) (h2:Turn X.prog X.w X.K tg J fp it tn) (h3:tn 0 s2.heap) (h4:(∀b∈fp,FpOk X a5 H' b)) (h5:R J H'):PIE X a5 σ tg R itv s2
def PI(X:Cx)(tg iter:Expr)(wi:TI):Prop :=
 ∀(a5:Nh) (s:Ni) (σ:St) (H:Hp) (R:It→Hp→Prop),ZA H s→wi σ H R →
  wpAny Gq X.A Ey (λv s1=>ZE (Ip v) zA X.xe s1) X.xe s
def go_of(ho:s.heap.get? it=some o)(hc:o.cls=.type n)(hd:o.data=.fields vs)(hn:["enumerate", "zip", "dict_itemiterator", "dict_reverseitemiterator", "odict_iterator", "itertools.zip_longest", "itertools.pairwise"].contains n=false)(hQ:Q () s):XS Oo Q E s:=by
 unfold letOwnedTupleGo
 cases tg <;> first
  |exact wpAny_pure hQ
  | (cases u <;> first
    |exact wpAny_pure hQ
    | (refine wpAny_bind (wpAny_load ho ?_)
       rw[hc,hd]
       show XS (if(["enumerate", "zip", "dict_itemiterator", "dict_reverseitemiterator", "odict_iterator", "itertools.zip_longest", "itertools.pairwise"].contains n&&vs[0]?==some (Ez _))=true then _ else _) Q E s
       rw[if_neg (by intro h;rw[hn,Bool.false_and]at h;cases h)]
       exact wpAny_pure hQ))
def Itl(K:Na)(a:Nb):It :=
 ⟨λi H=>∃xs x,YM xs∧xs[i]?=some x,λi H x H'=>H'=H∧∀xs,YM xs→xs[i]?=some x,λi H=>∃xs,YM xs∧xs.length≤i⟩
def Itt(K:Na)(a:Nb):It :=
 ⟨λi H=>∃xs x,JP xs∧xs[i]?=some x,λi H x H'=>H'=H∧∀xs,JP xs→xs[i]?=some x,λi H=>∃xs,JP xs∧xs.length≤i⟩
def Itr(lo:Int)(n:Nat):It:=⟨λi _=>i<n,λi H x H'=>H'=H∧x=.int (lo+i),λi _=>n≤i⟩
theorem turn_list{P:Nk}{w:Nl}{K:Na}{tg:Expr}(a it:Nb):X5 (K1 a) [it] it (λi h=>h.IsListIter it a i) where
 mem:=by simp
 obj:=λi h st b hb=>by
  have e:b=it:=by simpa using hb
  subst e
  obtain⟨o,e,c,d⟩:=st
  exact⟨o,e,λv z=>by rw[d]at z;cases z⟩
 keep:=λi h h' st k=>st.at λo e=>k it Gf o e
 item:=by
  intro X hP hw hK hc i a5 s σ H E I hf st hg
  subst hP hw hK
  obtain⟨xs,x,hq,hx⟩:=hg
  obtain⟨a7,rv,p,hz⟩:=I.list hq
  obtain⟨u,hu,ru⟩:=rv.get hx
  obtain⟨f0,f1,f2,f3,f4,f5⟩:=VA Gf
  refine MA p.isList (x:=u) (Gk hu) λh' aa sb=>?_
  have I1:ZA H {s with heap:=h'}:=I.turned (t':=s.toks) (λb o hb e=>(O0 hb).trans e) f0 f1 f3 f4 f5
  obtain⟨o,e,c,d⟩:=id aa
  exact⟨u,rfl,go_of (s:={s with heap:=h'}) e c d Gj ⟨x,H,I1,ru,⟨rfl,λys hy=>by rw[I.list_inj hy hq];exact hx⟩,aa,λb hb=>(Fw hb).1⟩⟩
 done:=by
  intro X hP hw hK hc i a5 s σ H E I hf st hg
  subst hP hw hK
  obtain⟨xs,hq,hx⟩:=hg
  obtain⟨a7,rv,p,hz⟩:=I.list hq
  obtain⟨f0,f1,f2,f3,f4,f5⟩:=VA Gf
  have hl:=rv.length
  exact KB st p.isList (by simp;exact zea ‹_› ‹_›) λh' eb=>⟨rfl,I.turned (t':=s.toks) (λb o hb e=>eb b o hb e) f0 f1 f3 f4 f5⟩
 self:=λ_ _ _ _ _ st h=>wpAny_pyIter_listiter st h
theorem turn_tuple{P:Nk}{w:Nl}{K:Na}{tg:Expr}(a it:Nb):X5 (Fe a) [it] it (λi h=>h.IsTupleIter it a i) where
 mem:=by simp
 obj:=λi h st b hb=>by
  have e:b=it:=by simpa using hb
  subst e
  obtain⟨o,e,c,d⟩:=st
  exact⟨o,e,λv z=>by rw[d]at z;cases z⟩
 keep:=λi h h' st k=>st.at λo e=>k it Gf o e
 item:=by
  intro X hP hw hK hc i a5 s σ H E I hf st hg
  subst hP hw hK
  obtain⟨xs,x,hq,hx⟩:=hg
  obtain⟨a7,rv,p,hz⟩:=I.tuple hq
  obtain⟨u,hu,ru⟩:=rv.get hx
  obtain⟨f0,f1,f2,f3,f4,f5⟩:=VA Gf
  refine wpAny_pyNext_tuple_item st (show s.heap.IsTuple a a7.toArray from p) (x:=u) (Gk hu) λh' aa sb=>?_
  have I1:ZA H {s with heap:=h'}:=I.turned (t':=s.toks) (λb o hb e=>(O0 hb).trans e) f0 f1 f3 f4 f5
  obtain⟨o,e,c,d⟩:=id aa
  exact⟨u,rfl,go_of (s:={s with heap:=h'}) e c d Gj ⟨x,H,I1,ru,⟨rfl,λys hy=>by rw[I.tuple_inj hy hq];exact hx⟩,aa,λb hb=>(Fw hb).1⟩⟩
 done:=by
  intro X hP hw hK hc i a5 s σ H E I hf st hg
  subst hP hw hK
  obtain⟨xs,hq,hx⟩:=hg
  obtain⟨a7,rv,p,hz⟩:=I.tuple hq
  obtain⟨f0,f1,f2,f3,f4,f5⟩:=VA Gf
  have hl:=rv.length
  exact wpAny_pyNext_tuple_end Sr st (show s.heap.IsTuple a a7.toArray from p) (by simp;exact zea ‹_› ‹_›) λh' eb=>⟨rfl,I.turned (t':=s.toks) (λb o hb e=>eb b o hb e) f0 f1 f3 f4 f5⟩
 self:=λ_ _ _ _ _ st h=>wpAny_pyIter_tupleiter st h
theorem turn_range{P:Nk}{w:Nl}{K:Na}{tg:Expr}(it:Nb)(lo:Int)(n:Nat):X5 (DG n) [it] it (λi h=>IsRangeIter h it (lo+(i:Nat)*1) ((n:Int)-(i:Nat)) 1) where
 mem:=by simp
 obj:=λi h st b hb=>by
  have e:b=it:=by simpa using hb
  subst e
  exact⟨_,st,λv z=>by
   have z':Data.fields _=Data.cell v:=z
   cases z'⟩
 keep:=λi h h' st k=>k it Gf _ st
 item:=by
  intro X hP hw hK hc i a5 s σ H E I hf st hg
  subst hP hw hK
  obtain⟨f0,f1,f2,f3,f4,f5⟩:=VA Gf
  have W:=Walks.range (prog:=X.prog) (w:=X.w) Sr it lo 1 n
  refine W.item i s _ _ hg st λv h' tk hv aa kk=>?_
  obtain⟨t,rfl⟩:=hv
  have I1:ZA H {s with heap:=h',toks:=tk}:=I.turned (λb o hb e=>kk b o (Gk hb) e) f0 f1 f3 f4 f5
  refine⟨xc,go_of (s:={s with heap:=h',toks:=tk}) (n := "range_iterator") aa rfl rfl Gj ⟨Ht (lo+i),H,I1,⟨t,?_⟩,⟨rfl,rfl⟩,aa,λb hb=>(Fw hb).1⟩⟩
  rw[Int.mul_one]
 done:=by
  intro X hP hw hK hc i a5 s σ H E I hf st hg
  subst hP hw hK
  obtain⟨f0,f1,f2,f3,f4,f5⟩:=VA Gf
  exact wpAny_pyNext_range_end Sr st (by have:n≤i:=hg;lia) λh' eb=>⟨rfl,I.turned (t':=s.toks) (λb o hb e=>eb b o hb e) f0 f1 f3 f4 f5⟩
 self:=λ_ _ _ _ _ st h=>wpAny_pyIter_rangeiter st h
end L2
namespace L2
open PySem PySem.Spec PyProof.Rows
section
variable{X:Cx}{tg:Expr}
inductive RI1(x:V)(S R:Addr→Prop):Prop
 |mk (a:Nb) (e:x=.ref a) (s:S a) (q:R a):RI1 x S R
def iList(K:Na)(tl:TE):TI:=λ σ H R=>tl σ H λx H1=>RI1 x (λa=>∃xs,SqL K H1 a xs) λa=>R (K1 a) H1
def iTup(K:Na)(tl:TE):TI:=λ σ H R=>tl σ H λx H1=>RI1 x (λa=>∃xs,SqT K H1 a xs) λa=>R (Fe a) H1
def zao{l:Expr}{tl:TE}(hl:Ov):UU l (iList X.K tl):=by
 intro a5 s σ H R I h
 refine thn TY λv s1 ⟨x,H1,I1,r1,q1⟩=>?_
 obtain⟨a,e,⟨xs,hq⟩,q⟩:=q1
 subst e
 cases r1
 obtain⟨a7,rv,p,hz⟩:=I1.list hq
 refine wpAny_pyIter_list p.isList ?_
 refine⟨s1.heap.objs.size,[s1.heap.objs.size],_,_,H1,rfl,I1.kept (t':=s1.toks) λb o e=>WG e,turn_list a _,⟨_,SA,rfl,rfl⟩,λb hb=>?_,q⟩
 have e:b=s1.heap.objs.size:=by simpa using hb
 subst e
 exact XD Tt
def pi_tup{l:Expr}{tl:TE}(hl:Ov):UU l (iTup X.K tl):=by
 intro a5 s σ H R I h
 refine thn TY λv s1 ⟨x,H1,I1,r1,q1⟩=>?_
 obtain⟨a,e,⟨xs,hq⟩,q⟩:=q1
 subst e
 cases r1
 obtain⟨a7,rv,p,hz⟩:=I1.tuple hq
 refine wpAny_pyIter_tuple (show s1.heap.IsTuple a a7.toArray from p) ?_
 refine⟨s1.heap.objs.size,[s1.heap.objs.size],_,_,H1,rfl,I1.kept (t':=s1.toks) λb o e=>WG e,turn_tuple a _,⟨_,SA,rfl,rfl⟩,λb hb=>?_,q⟩
 have e:b=s1.heap.objs.size:=by simpa using hb
 subst e
 exact XD Tt
def range_it{a5:Nh}{σ:St}{H:Hp}{s:Ni}{R:It→Hp→Prop}{E:Nc}{lo hi:Int}{t u v:Tok}{tk:Nat}(I:Hb)(h1:-(2 ^ 62)≤lo)(h2:lo<2 ^ 62)(h3:-(2 ^ 62)≤hi)(h4:hi<2 ^ 62)(q:R (DG (hi-lo).toNat) H):ZE (Ip Gy) zA E {s with heap:=s.heap.push {cls:=.type "range",data:=.fields #[IE lo,Ou,A3]},toks:=tk}:=by
 refine wpAny_pyIter_range (IsRange.new ..) (small_one h1 h2 h3 h4) ?_
 have I1:ZA H {s with heap:=s.heap.push {cls:=.type "range",data:=.fields #[IE lo,Ou,A3]},toks:=tk}:=I.kept λb o e=>WG e
 refine⟨(s.heap.push {cls:=.type "range",data:=.fields #[IE lo,Ou,A3]}).objs.size,[(s.heap.push {cls:=.type "range",data:=.fields #[IE lo,Ou,A3]}).objs.size],_,_,H,rfl,
  I1.kept (t':=tk) λb o e=>WG e,turn_range _ lo (hi-lo).toNat,?_,λb hb=>?_,q⟩
 ·have e1:lo+((0:Nat):Int)*1=lo:=by simp
  have e2:(((hi-lo).toNat:Nat):Int)-((0:Nat):Int)=Builtin.Range.rangeSize lo hi 1:=by rw[rangeSize_one];split<;>lia
  show IsRangeIter _ _ (lo+((0:Nat):Int)*1) ((((hi-lo).toNat:Nat):Int)-((0:Nat):Int)) 1
  rw[e1,e2]
  exact JH rfl
 ·have e:b=(s.heap.push { cls:=.type "range",data:=.fields #[IE lo,Ou,A3] }).objs.size:=by simpa using hb
  subst e
  exact XD Tt
inductive RR1(vs:List V)(R:Int→Prop):Prop
 |mk (j:Int) (e:vs=[.int j]) (l:-(2 ^ 62)≤j) (u:j<2 ^ 62) (q:R j):RR1 vs R
def iRng1(ta:TA):TI:=λ σ H R=>ta σ H λvs H1=>RR1 vs λj=>R (Itr 0 j.toNat) H1
def zci{a:Expr}{ta:TA}{p pos:Pos}(hg:V4 "range")(hm:X.mg "range" = none)(ha:VP [a] ta)(hs:starEach [a] X.env=[(false,Hm a)]:=by rfl):UU (.Call (.Name "range" p) [a] [] pos) (iRng1 ta):=by
 intro a5 s σ H R I h
 refine Call_ (Bw boot_range (Ua (thn Sd λus s1 ⟨vs,H1,I1,r1,q1⟩=>?_) hs rfl))
 obtain⟨j,e,q1,q2,q⟩:=q1
 subst e
 cases r1 with
 |cons r rr =>
  cases rr
  obtain⟨t,rfl⟩:=r
  exact call_range_1 (range_it I1 Gg Gg q1 q2 (Gk q))
def tFor(wi:TI)(g:TG)(tb:TS):TS:=λD σ H=>wi σ H λJ H1=>∃W:Nat→Nat→St→Hp→Prop,(∃m,W 0 m σ H1)∧∀i m σ H,W i m σ H →
 (KZ H∧YB H)∨(M3 H∧∃N:St→Hp→Prop,GZ∧∀x H',Bv H'→g x σ H' λ σ2 H2=>tb {D with nx:=N,ct:=N,bk:=D.nx} σ2 H2)
def zbh(fp:Nn)(h:No):List (Addr×Obj):=fp.filterMap λb=>(h.get? b).map λo=>(b,o)
def za9(hb:b∈fp)(e:h.get? b=some o):(b,o)∈Bh h:=List.mem_filterMap.mpr ⟨b,hb,by rw[e];rfl⟩
def zc8(hp:p∈Bh h):p.1∈fp∧h.get? p.1=some p.2:=by
 obtain⟨b,hb,e⟩:=List.mem_filterMap.mp hp
 cases q:h.get? b with
 |none=>rw[q]at e;cases e
 |some o =>
  rw[q]at e
  have e':(b,o)=p:=Qn e
  subst e'
  exact⟨hb,q⟩
def Inv.pinned(I:Hb)(hf:∀b∈fp,QY b)(ho:∀b∈fp,∃o,s.heap.get? b=some o∧∀v,o.data≠.cell v):Inv X (a5++Bh s.heap) σ H s :=
 I.pins_of λp hp=>(Qk.mp hp).elim (λz=>Bu (WC z)) λz=>by
  obtain⟨hb,e⟩:=zc8 z
  obtain⟨f0,f1,f2,_⟩:=hf p.1 hb
  obtain⟨o,e',d⟩:=ho p.1 hb
  rw[e]at e';cases e'
  exact⟨e,f0,f1,f2,d⟩
def Inv.unpinned(I:Inv X (a5++pl) σ H s):ZA H s:=I.pins_of λp hp=>Bu Pf
def za8(hp:XC X.xe)(hc:X.calm=true)(hi:LN)(hg:PG X tg g)(hb:V5 body tb)(hs:∀x,foldedSetIterable iter X.env x=pure x:=by intro _;rfl):KA (.For tg iter body [] pos) (tFor wi g tb):=by
 intro a5 s σ H D I h
 refine wpAny_For (thn RK λv s1 h1=>thn h1 λitv s2 h2=>?_) hs
 obtain⟨it,fp,tn,J,H2,e,I2,T,bf,f2,W,⟨m0,w0⟩,turn⟩:=h2
 subst e
 have stat:∀{H':Hp},(∀b∈fp,H' b=none)→∀b∈fp,FpOk X a5 H' b:=λhn b hb=>⟨Iu,(f2 b hb).2⟩
 refine codeAny_forLoop_any (λn s'=>Ex3 λi σ' H'=>Aj4 (ZC σ' H' s') Lq (∀b∈fp,H' b=none) (W i n σ' H')) ?_ m0 ⟨0,σ,H2,I2,bf,λb hb=>(f2 b hb).1,w0⟩
 rintro n s3 ⟨i,σ3,H3,I3,aw,fr3,w3⟩
 rcases turn i n σ3 H3 w3 with⟨stop,qn⟩ | ⟨go,N,hN,step⟩
 ·refine W4 (thn (T.done X rfl rfl rfl hc i a5 s3 σ3 H3 X.xe I3 (stat fr3) aw stop) fun r s4 ⟨hr,I4⟩=>?_)
  subst hr
  exact wpAny_execs_nil ⟨σ3,H3,I4,qn⟩
 ·refine W4 (thn (T.item X rfl rfl rfl hc i a5 s3 σ3 H3 X.xe I3 (stat fr3) aw go) fun r s4 ⟨u,hr,h4⟩=>?_)
  subst hr
  refine W4 (thn h4 λ_ s5 ⟨x,H5,I5,r5,y5,dq,fr5⟩=>?_)
  have eI:=I5.pinned (stat fr5) (WY dq)
  refine W4 (thn (hg _ s5 σ3 H5 x u _ eI r5 (step x H5 y5)) λ_ s6 ⟨σ6,H6,I6,q6⟩=>?_)
  refine W4 (thn (hb _ s6 σ6 H6 _ I6 q6) λf s7 q7=>?_)
  have again:∀{σ7:St} {H7:Hp},Inv X (a5++Bh s5.heap) σ7 H7 s7→N σ7 H7→∃m,m<n∧Ex3 λi σ' H'=>Aj4 (ZC σ' H' s7) (tn i s7.heap) (∀b∈fp,H' b=none) (W i m σ' H'):=λ{σ7 H7} I7 n7=>by
   obtain⟨m',hm,w7⟩:=hN σ7 H7 n7
   refine⟨m',hm,i+1,σ7,H7,I7.unpinned,Q5 dq λb hb o e=>(I7.pin (b,o) S8).1,λb hb=>?_,w7⟩
   obtain⟨o,e,d⟩:=WY dq b hb
   exact(I7.pin (b,o) S8).2.1
  cases f with
  |next=>obtain⟨σ7,H7,I7,n7⟩:=q7;exact again I7 n7
  |cont=>obtain⟨σ7,H7,I7,n7⟩:=q7;exact again I7 n7
  |brk=>obtain⟨σ7,H7,I7,q7⟩:=q7;exact⟨σ7,H7,I7.unpinned,q7⟩
  |ret v=>obtain⟨x7,σ7,H7,I7,r7,q7⟩:=q7;exact⟨x7,σ7,H7,I7.unpinned,r7,q7⟩
end
def zbb{K:Na}{a:Nb}{xs:List V}{g:TG}{tb:TS}{D:Ends}{σ:St}{H:Hp}(Pv:Nat→St→Hp→Prop)(h0:Cl)(hl:∀i σ H,i≤xs.length→Pv i σ H→YM xs)(hs:∀i x σ H,xs[i]?=some x→Pv i σ H→g x σ H λ σ2 H2=>tb {D with nx:=Pv Hj,ct:=Pv Hj,bk:=D.nx} σ2 H2)(hd:∀σ H,Pv xs.length σ H→YB H) :
  ∃W:Nat→Nat→St→Hp→Prop,(∃m,W 0 m σ H)∧∀i m σ H,W i m σ H →
   ((K1 a).stop i H∧YB H)∨((K1 a).go i H∧∃N:St→Hp→Prop,GZ∧∀x H',(K1 a).yld i H x H'→g x σ H' λ σ2 H2=>tb {D with nx:=N,ct:=N,bk:=D.nx} σ2 H2):=by
 refine⟨λi m σ H=>m=xs.length-i∧i≤xs.length∧Pv i σ H,⟨xs.length,Gf,RP,h0⟩,?_⟩
 rintro i m σ H ⟨rfl,hi,p⟩
 have q:=hl i σ H hi p
 by_cases ad:i<xs.length
 ·refine .inr ⟨⟨xs,xs[i],q,by simp [ad]⟩,Pv Hj,fun σ' H' p'=>⟨xs.length - Hj,Ha,rfl,ad,p'⟩,fun x H' y=>?_⟩
  obtain⟨e,y⟩:=y
  subst e
  exact hs i x σ _ (y xs q) p
 ·have e:i=xs.length:=by exact zar3 ‹_› ‹_›
  subst e
  exact .inl ⟨⟨xs,q,GV⟩,IA⟩
def for_tup{K:Na}{a:Nb}{xs:List V}{g:TG}{tb:TS}{D:Ends}{σ:St}{H:Hp}(Pv:Nat→St→Hp→Prop)(h0:Cl)(hl:∀i σ H,i≤xs.length→Pv i σ H→JP xs)(hs:∀i x σ H,xs[i]?=some x→Pv i σ H→g x σ H λ σ2 H2=>tb {D with nx:=Pv Hj,ct:=Pv Hj,bk:=D.nx} σ2 H2)(hd:∀σ H,Pv xs.length σ H→YB H) :
  ∃W:Nat→Nat→St→Hp→Prop,(∃m,W 0 m σ H)∧∀i m σ H,W i m σ H →
   ((Fe a).stop i H∧YB H)∨((Fe a).go i H∧∃N:St→Hp→Prop,GZ∧∀x H',(Fe a).yld i H x H'→g x σ H' λ σ2 H2=>tb {D with nx:=N,ct:=N,bk:=D.nx} σ2 H2):=by
 refine⟨λi m σ H=>m=xs.length-i∧i≤xs.length∧Pv i σ H,⟨xs.length,Gf,RP,h0⟩,?_⟩
 rintro i m σ H ⟨rfl,hi,p⟩
 have q:=hl i σ H hi p
 by_cases ad:i<xs.length
 ·refine .inr ⟨⟨xs,xs[i],q,by simp [ad]⟩,Pv Hj,fun σ' H' p'=>⟨xs.length - Hj,Ha,rfl,ad,p'⟩,fun x H' y=>?_⟩
  obtain⟨e,y⟩:=y
  subst e
  exact hs i x σ _ (y xs q) p
 ·have e:i=xs.length:=by exact zar3 ‹_› ‹_›
  subst e
  exact .inl ⟨⟨xs,q,GV⟩,IA⟩
def zcw{lo:Int}{n:Nat}{g:TG}{tb:TS}{D:Ends}{σ:St}{H:Hp}(Pv:Nat→St→Hp→Prop)(h0:Cl)(hs:∀i σ H,i<n→Pv i σ H→g (Ht (lo+i)) σ H λ σ2 H2=>tb {D with nx:=Pv Hj,ct:=Pv Hj,bk:=D.nx} σ2 H2)(hd:∀σ H,Pv n σ H→YB H) :
  ∃W:Nat→Nat→St→Hp→Prop,(∃m,W 0 m σ H)∧∀i m σ H,W i m σ H →
   ((DG n).stop i H∧YB H)∨((DG n).go i H∧∃N:St→Hp→Prop,GZ∧∀x H',(DG n).yld i H x H'→g x σ H' λ σ2 H2=>tb {D with nx:=N,ct:=N,bk:=D.nx} σ2 H2):=by
 refine⟨λi m σ H=>m=n-i∧i≤n∧Pv i σ H,⟨n,Gf,RP,h0⟩,?_⟩
 rintro i m σ H ⟨rfl,hi,p⟩
 by_cases ad:i<n
 ·refine .inr ⟨ad,Pv Hj,fun σ' H' p'=>⟨n - Hj,Ha,rfl,ad,p'⟩,fun x H' y=>?_⟩
  obtain⟨e,y⟩:=y
  subst e y
  exact hs i σ _ ad p
 ·have e:i=n:=by exact zar3 ‹_› ‹_›
  subst e
  exact .inl ⟨GV,IA⟩
end L2
namespace L2
open PySem PySem.Spec PyProof.Rows
abbrev R2:=V→V→Hp→VK→Prop
def OpR(X:Cx)(f:Value→Value→Sem Value)(r:R2):Prop :=
 ∀(a5:Nh) (s:Ni) (σ:St) (H:Hp) (x y:V) (v u:Value) (Q:VK),ZA H s→WJ v→YD u→r x y H Q →
  wpAny Gq X.A Pe SY X.xe s
def UnR(X:Cx)(f:Value→Sem Value)(r:V→Hp→VK→Prop):Prop :=
 ∀(a5:Nh) (s:Ni) (σ:St) (H:Hp) (x:V) (v:Value) (Q:VK),ZA H s→WJ v→r x H Q →
  wpAny Gq X.A (f v) SY X.xe s
def zcf(X:Cx)(f:Value)(r:List V→Hp→VK→Prop):Prop :=
 ∀(a5:Nh) (s:Ni) (σ:St) (H:Hp) (xs:List V) (us:Nj) (Q:VK),ZA H s→WD us→r xs H Q →
  wpAny Gq X.A (call f us) SY X.xe s
def TruR(X:Cx)(r:V→Hp→(Bool→Hp→Prop)→Prop):Prop :=
 ∀(a5:Nh) (s:Ni) (σ:St) (H:Hp) (x:V) (v:Value) (Q:Bool→Hp→Prop),ZA H s→WJ v→r x H Q →
  wpAny Gq X.A IV (V3 Q) X.xe s
def tOp(r:R2)(ta tb:TE):TE:=λ σ H Q=>ta σ H λx H1=>tb σ H1 λy H2=>r x y H2 Q
def tUn(r:V→Hp→VK→Prop)(ta:TE):TE:=λ σ H Q=>ta σ H λx H1=>r x H1 Q
inductive RrI(C:Int→Int→Prop)(g:Int→Int→V)(x:V)(y:V)(H:Hp)(Q:VK):Prop
 |mk (i:_) (j:_) (h0:x=.int i) (h1:y=.int j) (h2:C i j) (h3:Q (g i j) H):RrI C g x y H Q
def rI(C:Int→Int→Prop)(g:Int→Int→V):R2:=λx y H Q=>RrI C g x y H Q
inductive RrI0(g:Int→Int→V)(x:V)(y:V)(H:Hp)(Q:VK):Prop
 |mk (i:_) (j:_) (h0:x=.int i) (h1:y=.int j) (h2:Q (g i j) H):RrI0 g x y H Q
def rI0(g:Int→Int→V):R2:=λx y H Q=>RrI0 g x y H Q
def rU(g:Int→V):V→Hp→VK→Prop:=λx H Q=>∃i,x=.int i∧Q (g i) H
section
variable{X:Cx}{a b c:Expr}{ta tb tc:TE}{pos:Pos}
def binT(ha:Tr)(hb:C7){a5:Nh}{s:Ni}{σ:St}{H:Hp}{R:V→V→Hp→Prop}(I:Hb)(h:ta σ H λx H1=>tb σ H1 λy H2=>R x y H2){Q:Nc}{f:Value→Value→Sem Value}(hf:∀v u s2 x y H2,ZA H2 s2→WJ v→YD u→R x y H2→ZE Pe Q X.xe s2) :
  wpAny Gq X.A (Hm a) (λv s₁=>ZE (Hm b) (λu s₂=>ZE Pe Q X.xe s₂) X.xe s₁) X.xe s:=by
 refine thn Rh λv s1 ⟨x,H1,I1,r1,q1⟩=>?_
 refine thn Te λu s2 ⟨y,H2,I2,r2,q2⟩=>?_
 exact Mz q2
def za4{op:Operator}{r:R2}(ho:Y3 (binaryOp op) r)(ha:Tr)(hb:C7):Z7 (.BinOp a op b pos) yt:=by
 intro a5 s σ H Q I h
 exact wpAny_BinOp (M5 h λv u s2 x y H2 I2 rx ry q=>ho a5 s2 σ H2 x y v u Q I2 rx ry q)
def pe_un(ho:UnR X (unaryOp op) r)(ha:Tr):Z7 (.UnaryOp op a pos) (tUn r ta):=by
 intro a5 s σ H Q I h
 exact UnaryOp_ (thn Rh λv s1 ⟨x,H1,I1,r1,q1⟩=>ho a5 s1 σ H1 x v Q I1 r1 q1)
def opI{f:Value→Value→Sem Value}{C:Int→Int→Prop}{g:Int→Int→Int}(rule:∀(i j:Int) (t u:Tok) (s:Ni) (Q:Nc) (E:Nc),C i j→Q (O1 Ca) {s with toks:=s.toks+1}→ZE Co Q E s) :
  OpR X f (rI C λi j=>.int Ca):=by
 intro a5 s σ H x y v u Q I rx ry h
 obtain⟨i,j,rfl,rfl,hc,q⟩:=h
 obtain⟨t,rfl⟩:=rx
 obtain⟨t',rfl⟩:=ry
 exact rule i j t t' s _ _ hc ⟨Ht Ca,H,Ru,⟨_,rfl⟩,q⟩
def opI0{f:Value→Value→Sem Value}{g:Int→Int→Int}(rule:∀(i j:Int) (t u:Tok) (s:Ni) (Q:Nc) (E:Nc),Q (O1 Ca) {s with toks:=s.toks+1}→ZE Co Q E s) :
  OpR X f (rI0 λi j=>.int Ca):=by
 intro a5 s σ H x y v u Q I rx ry h
 obtain⟨i,j,rfl,rfl,q⟩:=h
 obtain⟨t,rfl⟩:=rx
 obtain⟨t',rfl⟩:=ry
 exact rule i j t t' s _ _ ⟨Ht Ca,H,Ru,⟨_,rfl⟩,q⟩
def opB0{f:Value→Value→Sem Value}{g:Int→Int→Bool}(rule:∀(i j:Int) (t u:Tok) (s:Ni) (Q:Nc) (E:Nc),Q (OC Ca) s→ZE Co Q E s) :
  OpR X f (rI0 λi j=>.bl Ca):=by
 intro a5 s σ H x y v u Q I rx ry h
 obtain⟨i,j,rfl,rfl,q⟩:=h
 obtain⟨t,rfl⟩:=rx
 obtain⟨t',rfl⟩:=ry
 exact rule i j t t' s _ _ ⟨yr Ca,H,I,rfl,q⟩
def CDiv(i j:Int):Prop:=0<j∧j<1073741824
def CPow(i j:Int):Prop:=0≤j∧j≤1000000∧i.natAbs<2 ^ 64
def CMul(i j:Int):Prop:=(-(2 ^ 64)<i∧i<2 ^ 64)∨(-(2 ^ 64)<j∧j<2 ^ 64)
def CMul.ok{i j:Int}(h:CMul i j):IntMulOk i j:=by
 rcases h with⟨h1,h2⟩ | ⟨h1,h2⟩
 ·exact .of_left P6
 ·exact .of_right P6
def zb8:Y3 Iq (rI0 λi j=>.int (i+j)):=opI0 λ_ _ _ _ _ _ _ q=>add_int q
def zd7:Y3 (binaryOp .Sub) (rI0 λi j=>.int (i-j)):=opI0 λ_ _ _ _ _ _ _ q=>sub_int q
def zgm:Y3 (binaryOp .Mult) (rI CMul λi j=>.int (i*j)):=opI λ_ _ _ _ _ _ _ hc q=>mul_int q hc.ok
def op_fdiv:Y3 (binaryOp .FloorDiv) (rI CDiv λi j=>.int (i/j)):=opI λi j _ _ _ _ _ hc q=>by
 have h1:(0:Int)<j:=hc.1
 have h2:j<1073741824:=hc.2
 exact floordiv_int Gg (by rw[VQ Gg];exact q) EA
def zfo:Y3 (binaryOp .Mod) (rI (λ_ j=>0<j) λi j=>.int (i%j)):=opI λi j _ _ _ _ _ hc q=>by
 have h1:(0:Int)<j:=hc
 exact mod_int' Gg (by rw[VR Gg];exact q)
def op_pow:Y3 (binaryOp .Pow) (rI CPow λi j=>.int (i ^ j.toNat)):=opI λ_ _ _ _ _ _ _ hc q=>pow_int_small hc.1 hc.2.1 hc.2.2 q
def unI{f:Value→Sem Value}{g:Int→Int}(rule:∀(i:Int) (t:Tok) (s:Ni) (Q:Nc) (E:Nc),Q (O1 (g i)) {s with toks:=s.toks+1}→ZE (f (IE i)) Q E s) :
  UnR X f (rU λi=>.int (g i)):=by
 intro a5 s σ H x v Q I rx h
 obtain⟨i,rfl,q⟩:=h
 obtain⟨t,rfl⟩:=rx
 exact rule i t s _ _ ⟨Ht (g i),H,Ru,⟨_,rfl⟩,q⟩
def un_neg:UnR X (unaryOp .USub) (rU λi=>.int (-i)):=unI λ_ _ _ _ _ q=>neg_int q
end
def scal:V→V→Bool
 |.non,.non=>true | .non,.int _=>true | .int _,.non=>true | .non,.bl _=>true | .bl _,.non=>true | .non,.str _=>true | .str _,.non=>true
 |.int _,.int _=>true | .bl _,.bl _=>true | .str _,.str _=>true | .byt _,.byt _=>true
 |.int _,.str _=>true | .str _,.int _=>true | .bl _,.str _=>true | .str _,.bl _=>true
 |_,_=>false
def rEq:R2:=λx y H Q=>scal x y=true∧Q (.bl (decide (x=y))) H
def rNe:R2:=λx y H Q=>scal x y=true∧Q (yr (!decide (x=y))) H
def dec_int:decide (V.int i=V.int j)=(i==j):=by
 rw[Yw]
 simp
def dec_bl:decide (V.bl i=V.bl j)=(i==j):=by
 rw[Yw]
 simp
def dec_str:decide (V.str i=V.str j)=(i==j):=by
 rw[Yw]
 simp
def dec_byt:decide (V.byt i=V.byt j)=(i.toList==j.toList):=by
 rw[Yw]
 cases i
 cases j
 simp
section
variable{X:Cx}{a b c:Expr}{ta tb tc:TE}{pos:Pos}
def zbe(I:Hb)(q:Q (yr k) H)(e:k=k'):Z9 Q (OC k') s:=by
 subst e
 exact⟨yr k,H,I,rfl,q⟩
def zil:Y3 (compareOp .Eq) rEq:=by
 intro a5 s σ H x y v u Q I rx ry h
 obtain⟨hs,q⟩:=h
 cases x with
 |non =>
  cases rx
  cases y with
  |non=>cases ry;exact PySem.EqNone.eq_none_none Si
  |bl j=>cases ry;exact PySem.EqNone.eq_none_bool Si
  |int j=>obtain⟨t',rfl⟩:=ry;exact PySem.EqNone.eq_none_int Si
  |str j=>obtain⟨t',rfl⟩:=ry;exact PySem.EqNone.eq_none_str Si
  |_=>exact absurd (show false=true from hs) Zh
 |bl i =>
  cases rx
  cases y with
  |non=>cases ry;exact PySem.EqNone.eq_bool_none Si
  |bl j=>cases ry;exact eq_bool (QS dec_bl)
  |str j=>obtain⟨t',rfl⟩:=ry;exact PySem.EqMixed.eq_bool_str Si
  |_=>exact absurd (show false=true from hs) Zh
 |int i =>
  obtain⟨t,rfl⟩:=rx
  cases y with
  |non=>cases ry;exact PySem.EqNone.eq_int_none Si
  |int j=>obtain⟨t',rfl⟩:=ry;exact eq_int (QS dec_int)
  |str j=>obtain⟨t',rfl⟩:=ry;exact PySem.EqMixed.eq_int_str Si
  |_=>exact absurd (show false=true from hs) Zh
 |str i =>
  obtain⟨t,rfl⟩:=rx
  cases y with
  |non=>cases ry;exact PySem.EqNone.eq_str_none Si
  |bl j=>cases ry;exact PySem.EqMixed.eq_str_bool Si
  |int j=>obtain⟨t',rfl⟩:=ry;exact PySem.EqMixed.eq_str_int Si
  |str j=>obtain⟨t',rfl⟩:=ry;exact eq_str (QS dec_str)
  |_=>exact absurd (show false=true from hs) Zh
 |byt i =>
  obtain⟨t,rfl⟩:=rx
  cases y with
  |byt j=>obtain⟨t',rfl⟩:=ry;exact PySem.W.eq_bytes (QS dec_byt)
  |_=>exact absurd (show false=true from hs) Zh
 |_=>cases y<;>exact absurd (show false=true from hs) Zh
def op_ne:Y3 Lr rNe:=by
 intro a5 s σ H x y v u Q I rx ry h
 obtain⟨hs,q⟩:=h
 cases x with
 |non =>
  cases rx
  cases y with
  |non=>cases ry;exact PySem.EqNone.ne_none_none Si
  |bl j=>cases ry;exact PySem.EqNone.ne_none_bool Si
  |int j=>obtain⟨t',rfl⟩:=ry;exact PySem.EqNone.ne_none_int Si
  |str j=>obtain⟨t',rfl⟩:=ry;exact PySem.EqNone.ne_none_str Si
  |_=>exact absurd (show false=true from hs) Zh
 |bl i =>
  cases rx
  cases y with
  |non=>cases ry;exact PySem.EqNone.ne_bool_none Si
  |bl j=>cases ry;exact ne_bool (QS (congrArg not dec_bl))
  |str j=>obtain⟨t',rfl⟩:=ry;exact PySem.EqMixed.ne_bool_str Si
  |_=>exact absurd (show false=true from hs) Zh
 |int i =>
  obtain⟨t,rfl⟩:=rx
  cases y with
  |non=>cases ry;exact PySem.EqNone.ne_int_none Si
  |int j=>obtain⟨t',rfl⟩:=ry;exact ne_int (QS (congrArg not dec_int))
  |str j=>obtain⟨t',rfl⟩:=ry;exact PySem.EqMixed.ne_int_str Si
  |_=>exact absurd (show false=true from hs) Zh
 |str i =>
  obtain⟨t,rfl⟩:=rx
  cases y with
  |non=>cases ry;exact PySem.EqNone.ne_str_none Si
  |bl j=>cases ry;exact PySem.EqMixed.ne_str_bool Si
  |int j=>obtain⟨t',rfl⟩:=ry;exact PySem.EqMixed.ne_str_int Si
  |str j=>obtain⟨t',rfl⟩:=ry;exact ne_str (QS (congrArg not dec_str))
  |_=>exact absurd (show false=true from hs) Zh
 |byt i =>
  obtain⟨t,rfl⟩:=rx
  cases y with
  |byt j=>obtain⟨t',rfl⟩:=ry;exact PySem.W.ne_bytes (QS (congrArg not dec_byt))
  |_=>exact absurd (show false=true from hs) Zh
 |_=>cases y<;>exact absurd (show false=true from hs) Zh
def op_lt:Y3 (compareOp .Lt) (rI0 λi j=>.bl (decide (i<j))):=opB0 λ_ _ _ _ _ _ _ q=>lt_int q
def op_le:Y3 (compareOp .LtE) (rI0 λi j=>.bl (decide (i≤j))):=opB0 λ_ _ _ _ _ _ _ q=>le_int q
def op_gt:Y3 (compareOp .Gt) (rI0 λi j=>.bl (decide (j<i))):=opB0 λ_ _ _ _ _ _ _ q=>gt_int q
def zbf(b:Expr)(h:op≠.In:=by decide)(h2:op≠.NotIn:=by decide):behindInMarks op b=false:=by
 have e1:(op==CmpOp.In)=false:=by cases op<;>first | rfl | exact absurd rfl h
 have e2:(op==CmpOp.NotIn)=false:=by cases op<;>first | rfl | exact absurd rfl h2
 cases b<;>simp[behindInMarks,e1,e2]
def pe_cmpR{op:CmpOp}{r:R2}(ho:El)(ha:Tr)(hb:C7)(hm:behindInMarks op b=false):Z7 (.Compare a [op] [b] pos) yt:=by
 intro a5 s σ H Q I h
 exact wpAny_Compare1 (M5 h λv u s2 x y H2 I2 rx ry q=>ho a5 s2 σ H2 x y v u Q I2 rx ry q) hm
def tTest(t:TE):TT:=λ σ H Q=>t σ H λx H'=>RB x H' Q
def zar(ho:El)(ha:Tr)(hb:C7)(hm:behindInMarks op b=false):VN (.Compare a [op] [b] pos) (tTest yt):=by
 intro a5 s σ H Q I h
 refine wpAny_isTrue_Compare1 (thn Rh λv s1 ⟨x,H1,I1,r1,q1⟩=>thn Te λu s2 ⟨y,H2,I2,r2,q2⟩ =>
  thn CB λc s3 ⟨z,H3,I3,r3,k,e,q3⟩=>?_) hm
 subst e
 cases r3
 exact wpAny_truthy_bool ⟨H3,I3,q3⟩
def tChain(r r':R2)(ta tb tc:TE):TE:=λ σ H Q=>ta σ H λx H1=>tb σ H1 λy H2=>r x y H2 λz H3=>RB z H3 λk H3 =>
 (if k=true then tc σ H3 λw' H4=>r' y w' H4 Q else Q Ex H3)
def pe_chain(ho:El)(cS:Y3 (compareOp op') r')(ha:Tr)(hb:C7)(hc:Z7 c tc)(hm:lastMarks [op,op'] [b,c]=false:=by with_unfolding_all rfl):Z7 (.Compare a [op,op'] [b,c] pos) (tChain r r' ta tb tc):=by
 intro a5 s σ H Q I h
 refine Compare_chain (thn Rh λv s1 ⟨x,H1,I1,r1,q1⟩=>chain_link (thn Te λu s2 ⟨y,H2,I2,r2,q2⟩ =>
  thn CB λd s3 ⟨z,H3,I3,r3,k,e,q3⟩=>?_)) hm
 subst e
 cases r3
 refine wpAny_truthy_bool ?_
 cases k with
 |false=>exact ite_ff ⟨Ex,H3,I3,rfl,q3⟩
 |true=>exact ite_tt (chain_last (thn (hc a5 s3 σ H3 _ I3 q3) λw' s4 ⟨z',H4,I4,r4,q4⟩=>cS a5 s4 σ H4 y z' u w' Q I4 r2 r4 q4))
def TruV(K:Na)(x:V)(H:Hp)(k:Bool):Prop :=
 match x with
 |.non=>k=false
 |.bl b=>k=b
 |.int i=>k=(i != 0)
 |.str y=>y.length≤sizeLine∧k=((y.length:Int) != 0)
 |.byt y=>y.size≤sizeLine∧k=((y.size:Int) != 0)
 |.ref p=>(∃xs,YY p xs∧k=!xs.isEmpty)∨(∃xs,SqT K H p xs∧k=!xs.isEmpty)∨∃kvs,H p=some Rp∧k=!kvs.isEmpty
 |_=>False
def isEmpty_kv{κ:Type}{kvs:List (κ×V)}{vs:List (κ×Value)}(r:UM vs):(!vs.isEmpty)=!kvs.isEmpty:=by
 cases r<;>rfl
def zho{xs:List V}{a7:Nj}(r:WD a7):(!a7.toArray.isEmpty)=!xs.isEmpty:=by
 cases r<;>simp
def zev:(sizeLine:Nat)<2 ^ 63:=by rw[sizeLine_eq];decide
inductive RTr(K:Na)(x:V)(H:Hp)(Q:Bool→Hp→Prop):Prop
 |mk (k:Bool) (t:TruV K x H k) (q:Q k H):RTr K x H Q
def tru_ok:TruR X (λx H Q=>RTr X.K x H Q):=by
 intro a5 s σ H x v Q I rx h
 obtain⟨k,e,q⟩:=h
 have hl:=zev
 have hs:sizeLine=16777216:=sizeLine_eq
 cases x with
 |non =>
  cases rx
  have e':k=false:=e
  subst e'
  exact truthy_none ⟨H,I,q⟩
 |bl b =>
  cases rx
  have e':k=b:=e
  subst e'
  exact wpAny_truthy_bool ⟨H,I,q⟩
 |int i =>
  obtain⟨t,rfl⟩:=rx
  have e':k=(i != 0):=e
  subst e'
  exact PySem.P.truthy_int ⟨H,I,q⟩
 |str y =>
  obtain⟨t,rfl⟩:=rx
  obtain⟨hy,e'⟩:y.length≤sizeLine∧k=((y.length:Int) != 0):=e
  subst e'
  exact PySem.P.truthy_str Gg ⟨H,Ru,q⟩
 |byt y =>
  obtain⟨t,rfl⟩:=rx
  obtain⟨hy,e'⟩:y.size≤sizeLine∧k=((y.size:Int) != 0):=e
  subst e'
  exact PySem.W.truthy_bytes Gg ⟨H,Ru,q⟩
 | ref p =>
  cases rx
  have e':(∃xs,WH xs∧k=!xs.isEmpty)∨(∃xs,Vj p xs∧k=!xs.isEmpty)∨∃kvs,H p=some Rp∧k=!kvs.isEmpty:=e
  rcases e' with⟨xs,hx,e'⟩ | ⟨xs,hx,e'⟩ | ⟨kvs,hx,e'⟩
  ·subst e'
   obtain⟨a7,r,pl,hz⟩:=I.list hx
   have ae:=r.length
   exact wpAny_truthy_list pl.isList (by simp only[Qw];lia) ⟨H,Ru,by rw[zho r];exact q⟩
  ·subst e'
   obtain⟨a7,r,pl,hz⟩:=I.tuple hx
   have ae:=r.length
   exact truthy_tuple pl (by simp only[Qw];lia) ⟨H,Ru,by rw[zho r];exact q⟩
  ·subst e'
   obtain⟨hz,hS,vs,r,m⟩:kvs.length≤sizeLine∧(p==sysModules)=false∧∃vs,UM vs∧s.heap.DictOf SZ p vs:=XU hx
   have ae:kvs.length=vs.length:=Zy r
   exact wpAny_truthy_dict hS m Gg ⟨H,Ru,by rw[isEmpty_kv r];exact q⟩
 |_=>exact(show False from e).elim
def zer(ha:Tr)(he:∀whole,isTrue a X.env whole=(do let v ←whole;standAt a.pos;holding [v] IV)) :
  PT X a (λ σ H Q=>ta σ H λx H'=>RTr X.K x H' Q):=by
 intro a5 s σ H Q I h
 exact isTrue_plain (thn Rh λv s1 ⟨x,H1,I1,r1,q1⟩=>tru_ok a5 s1 σ H1 x v Q I1 r1 q1) (he _)
def zhk:Y3 Iq (λx y H Q=>Ex2 λi j=>Aj4 (x=.str i) (y=.str j) (i.length+j.length≤sizeLine) (Q (RN (i++j)) H)):=by
 intro a5 s σ H x y v u Q I rx ry h
 obtain⟨i,j,rfl,rfl,hz,q⟩:=h
 obtain⟨t,rfl⟩:=rx
 obtain⟨t',rfl⟩:=ry
 exact add_str (λt' tk=>⟨RN (i++j),H,Ru,⟨_,rfl⟩,q⟩) hz
def vals1(r:Vals [x] us):∃u,us=[u]∧WJ u:=by
 cases r with
 |cons r1 r2=>cases r2;exact⟨xc,r1⟩
def vals2(r:Vals [x,y] us):∃u w',us=[u,w']∧WJ u∧YD w':=by
 cases r with
 |cons r1 r2 =>
  cases r2 with
  |cons r3 r4=>cases r4;exact⟨_,xc,r1,r3⟩
def call_abs:Y4 (.builtin "abs") (λxs H Q=>Ex1 λi=>Aj2 (xs=[Ew]) (Q (Ht (if i<0 then -i else i)) H)):=by
 intro a5 s σ H xs us Q I r h
 obtain⟨i,rfl,q⟩:=h
 obtain⟨u,rfl,t,rfl⟩:=vals1 r
 exact call_abs_int λu tk=>⟨Ht (if i<0 then -i else i),H,Ru,⟨_,rfl⟩,q⟩
def call_max2(hc:X.calm=true):Y4 (.builtin "max") (λxs H Q=>Ex2 λi j=>Aj2 (xs=[Ew,Ht j]) (Q (Ht (if j>i then j else i)) H)):=by
 intro a5 s σ H xs us Q I r h
 obtain⟨i,j,rfl,q⟩:=h
 obtain⟨u,w',rfl,⟨t,rfl⟩,⟨t',rfl⟩⟩:=vals2 r
 refine max_two_ints Sr λh' tk k=>⟨_,H,I.kept k,?_,q⟩
 by_cases hj:j>i
 ·rw[if_pos hj,if_pos hj];exact⟨xc⟩
 ·rw[if_neg hj,if_neg hj];exact⟨xc⟩
def zg0:Y4 (.builtin "divmod") (λxs H Q=>Ex2 λi j=>Aj3 (xs=[Ew,Ht j]) (CDiv i j) (∀p,H p=none→Q Sv (ZS p (.tup [Ht (i/j),Ht (i%j)])))):=by
 intro a5 s σ H xs us Q I r h
 obtain⟨i,j,rfl,⟨h1,h2⟩,q⟩:=h
 obtain⟨u,w',rfl,⟨t,rfl⟩,⟨t',rfl⟩⟩:=vals2 r
 refine divmod_int Gg ?_ EA
 rw[VQ Gg,VR Gg]
 have hn:H s.heap.objs.size=none:=I.hok.fresh GV
 refine⟨Gy,_,?_,rfl,q _ hn⟩
 refine I.laid (λb o e=>WG e) GV ⟨by simp only[Qu,Wi];rw[sizeLine_eq];decide,[O1 (i/j),Sl (i%j) (s.toks+1)],LJ ⟨_,rfl⟩ (Rk ⟨_,rfl⟩),?_⟩
 exact⟨_,Za s.heap rfl,rfl,0,rfl⟩
end
end L2
namespace L2
open PySem PySem.Spec PyProof.Rows
structure ObjM(h:No)(x dx C:Nb)(mA:Nd):Prop where
 obj:h.get? x=some (WW dx)
 ns:h.Ns1 dx mA
 ne:dx≠x
def lookIn_ns{h:No}{mA:Nd}(n:h.Ns1 dx mA):∃od,h.get? dx=some od∧∀name,XZ od=some (mA name):=by
 obtain⟨o,es,ep,ho,hd,hk,_,hm⟩:=n
 refine⟨o,ho,λname=>?_⟩
 have e:=hm name
 unfold nsFind findBy at e
 rw[←Array.find?_toList]at e
 unfold PySem.W.lookIn
 rw[hd]
 dsimp only
 split
 ·rename_i y q
  rw[q]at e
  exact congrArg some e
 ·rename_i q
  rw[q]at e
  have a:es.toList.any (·.refKey)=false:=by
   rw[List.any_eq_false]
   intro y hy
   obtain⟨z,t,fT⟩:=hk y (Array.mem_toList_iff.mp hy)
   simp[DictEntry.refKey,fT]
  have a':¬es.toList.any (·.refKey)=true:=by rw[a];exact Zh
  rw[if_neg a']
  exact congrArg some e
def ObjM.look(I:ObjM h x dx C mA):∃od,PySem.W.InstAt h x (WW dx) C (Gz od)∧∀name,XZ od=some (mA name) :=
 let⟨od,ho,hl⟩:=lookIn_ns I.ns
 ⟨od,⟨I.obj,rfl,rfl,ho⟩,hl⟩
section
variable{prog:Nk}{w:Nl}{A:Np}{E:Nc}{s:Ni}{K:Na}{x dx C f:Nb}{mA:Nd}{name:Str}{v:Value}
def get_map(X:K.In s.heap)(I:KC mA)(hg:Y' name=true)(hh:J9 C=true)(ha:Z1 name=some none)(hv:mA name=some v)(aY:PySem.W.handedIn v=true)(h:Q v {s with toks:=s.toks+1}) :
  wpAny GJ A (getAttr E5 name expr) Q E s:=by
 obtain⟨od,J,hl⟩:=I.look
 exact PySem.W.get_value X J (PySem.W.plainGet_of hg).1 (PySem.W.findObj_own hh ha rfl (by rw[hl,hv])) aY h
def get_meth(X:K.In s.heap)(I:KC mA)(hg:Y' name=true)(hf:Z1 name=some Pg)(ht:XE TJ=true)(hv:mA name=none)(h:Q (TJ,[E5]) s) :
  wpAny GJ A (getMethod E5 name pl) Q E s:=by
 obtain⟨od,J,hl⟩:=I.look
 exact PySem.W.method_fn X J (PySem.W.plainGet_of hg).1 (PySem.W.plainGet_of hg).2 hf (beq_iff_eq.mp ht) (by show(XZ od).map (·.isSome)=some false;rw[hl,hv];rfl) h
def set_map(X:K.In s.heap)(I:KC mA)(hs:Z1 "__setattr__" = some (Gz (.builtin "object.__setattr__")))(hp:X0 C=true)(ht:Dv name=some none)(hh:J9 C=true)(hw:VJ ns)(hsz:ns.length≤sizeLine)(h:∀h',ObjM h' x dx C (λy=>if y=name then some v else mA y)→Heap.SameBut dx s.heap h'→Q () {s with heap:=h',toks:=s.toks+2}) :
  wpAny GJ A (setAttr E5 name v) Q E s:=by
 obtain⟨od,J,hl⟩:=I.look
 refine PySem.W.set_plain X J hs (PySem.W.osa_open (s:={s with toks:=s.toks+1}) (r:=none) X J hp ht λb=>?_)
 obtain⟨cd,hc,ie⟩:=PySem.W.any_some hh
 have hx:s.heap.get? x=some ⟨Ir,Gz dx,.plain,#[]⟩:=I.obj
 refine wpAny_bind (wpAny_pure (wpAny_bind (wpAny_bind (wpAny_loadPart hx (wpAny_bind (PySem.W.Looks.here (s:={s with toks:=s.toks+1}) (PySem.W.looks_clsIn X hc) ?_))))))
 rw[ie]
 refine wpAny_pure (a:=some dx) (RS (Rr (wpAny_bind ?_)))
 refine wpAny_nsSet1 (s:={s with toks:=s.toks+1}) I.ns λh' bw cC=>?_
 obtain⟨oD,esD,epD,hoD,hdD,hcD⟩:=bw.count (PySem.Within.cons name v hw)
 refine wpAny_bind (wpAny_lookBehind hoD (by rw[hdD];exact pastItsLine_dict (Ze hcD (by rw[Qu];exact zar4 ‹_›))) ?_)
 exact wpAny_pure (h _ ⟨(cC.2 _ (Zk I.ne)).trans I.obj,bw,I.ne⟩ cC)
def make_map(X:K.In s.heap)(hm:K2 C=true)(hi:Z1 "__init__" = some Pg)(hf:PySem.W.typeIn K TJ=some (.type "function"))(h:codeAny GJ (P7 (.builtin "type.__call__" ⟨.ref C::vs,kw⟩)) (.call TJ ⟨.ref Hd::vs,kw⟩) (PySem.W.InitBack Hd R)
   {s with heap:=(s.heap.push PySem.W.emptyDict).push TL}) :
  codeAny GJ A (.call Ir ⟨vs,kw⟩) R s:=by
 obtain⟨hh,g,d,t,os⟩:=s
 exact PySem.W.make_core (PySem.W.makes_of X hm) (PySem.W.looks_findIn X hi) (λself=>PySem.W.bind_fn X self hf) Hf h
end
def putF(f:Str)(v:V):List (Str×V)→List (Str×V)
 |[]=>[(f,v)]
 |(g,x)::r=>if g=f then(g,v)::r else(g,x)::U8 r
theorem zgp(f g:Str)(v:V):∀fs:List (Str×V),(U8 fs).lookup g=if g=f then some v else fs.lookup g
 | []=>by
  show List.lookup g [(f,v)]=_
  by_cases h:g=f
  ·have hb:(g == f)=true:=beq_iff_eq.mpr h
   simp only[List.lookup,hb,if_pos h]
  ·have hb:(g == f)=false:=beq_eq_false_iff_ne.mpr h
   simp only[List.lookup,hb,if_neg h]
 | (k,x)::r=>by
  have ih:=zgp f g v r
  rw[show U8 ((k,x)::r)=(if k=f then(k,v)::r else(k,x)::U8 r) from rfl]
  by_cases hk:k=f
  ·rw [Rv hk]
   by_cases h:g=k
   ·have hb:(g == k)=true:=beq_iff_eq.mpr h
    simp only[List.lookup,hb,if_pos (h.trans hk)]
   ·have hb:(g == k)=false:=beq_eq_false_iff_ne.mpr h
    simp only[List.lookup,hb,if_neg (λe:g=f=>h (e.trans hk.symm))]
  ·rw [Rm hk]
   by_cases h:g=k
   ·have hb:(g == k)=true:=beq_iff_eq.mpr h
    simp only[List.lookup,hb,if_neg (λe:g=f=>hk (h.symm.trans e))]
   ·have hb:(g == k)=false:=beq_eq_false_iff_ne.mpr h
    simp only[List.lookup,hb]
    exact ih
theorem zgt(f:Str)(v:V):∀fs:List (Str×V),f∈(U8 fs).map (·.1)∧∀g,g∈fs.map (·.1)→g∈(U8 fs).map (·.1)
 |[]=>⟨by simp[putF],λg h=>by simp at h⟩
 | (k,x)::r=>by
  obtain⟨i1,i2⟩:=zgt f v r
  rw[show U8 ((k,x)::r)=(if k=f then(k,v)::r else(k,x)::U8 r) from rfl]
  by_cases hk:k=f
  ·rw [Rv hk]
   subst hk
   exact⟨Gf,λg h=>by simpa using h⟩
  ·rw [Rm hk]
   refine⟨?_,λg h=>?_⟩
   ·rw [Qm]
    exact QK i1
   ·rw [Qm] at h ⊢
    rcases Qf.mp h with e | e
    ·exact Qf.mpr (Rf e)
    ·exact QK (i2 g e)
theorem zgr(f:Str)(v:V):∀fs:List (Str×V),(U8 fs).length≤fs.length+1
 |[]=>by simp[putF]
 |(k,x)::r=>by
  have ih:=zgr f v r
  rw[show U8 ((k,x)::r)=(if k=f then(k,v)::r else(k,x)::U8 r) from rfl]
  by_cases hk:k=f
  ·rw[if_pos hk,Qu,Qu];exact DH _
  ·rw[if_neg hk,Qu,Qu];exact zar4 ‹_›
def RelO.some_of(r:RelO zx o):∃u,o=some u∧UY u:=by
 cases o with
 |none=>exact(show False from r).elim
 |some u=>exact⟨u,rfl,r⟩
def RelO.none_of(r:RelO none o):o=none:=by
 cases o with
 |none=>rfl
 |some u=>exact(show False from r).elim
def handed_of(r:UY u):PySem.W.handedIn u=true:=by
 cases v with
 |non=>cases(show u=Value.none from r);rfl
 |bl b=>cases(show u=Value.bool b from r);rfl
 |int i=>obtain⟨t,e⟩:=(show ∃t,u=XA t from r);cases e;rfl
 |str x=>obtain⟨t,e⟩:=(show ∃t,u=U2 t from r);cases e;rfl
 |byt b=>obtain⟨t,e⟩:=(show ∃t,u=Value.bytes b t from r);cases e;rfl
 |flt b=>obtain⟨t,e⟩:=(show ∃t,u=Value.float b t from r);cases e;rfl
 |ref a=>cases(show u=Value.ref a from r);rfl
 |ty n=>cases(show u=Value.type n from r);rfl
section
variable{P:Nk}{w:Nl}{H H':Hp}{h h':No}{a C dx:Nb}{fs fs':List (Str×V)}
def ins_get(hok:WX h)(e:H a=some Tu):∃mA,ObjM h a dx C mA∧(∀f,X9 (mA f))∧VJ (fs.map (·.1))∧fs.length≤1000∧H dx=some Cy:=by
 obtain⟨d,z,ne,ob,mA,n,r,q⟩:=(show YH Tu from hok a _ e)
 exact⟨mA,⟨ob,n,ne⟩,r,q,z,d⟩
end
structure Cls(K:Na)(C:Nb):Prop where
 pg:Y' Str.empty=true
 hd:J9 C=true
 po:X0 C=true
 sa:Z1 "__setattr__" = some (Gz (.builtin "object.__setattr__"))
def Cls.get{K:Na}{C:Nb}(c:VB C)(f:Str):Y' f=true:=c.pg
def zd9(K:Na)(C:Nb)(f:Str):Prop:=Z1 f=some none
def zd9.taker{K:Na}{C:Nb}{f:Str}(n:M6 f):Dv f=some none:=by
 unfold PySem.W.takerIn
 rw[show Z1 f=some none from n]
 rfl
structure Meth(K:Na)(C:Nb)(m:Str)(f:Nb):Prop where
 at_:Z1 m=some Pg
 fn:XE TJ=true
 kp:YN TJ=true
section
variable{X:Cx}{a5:Nh}{σ:St}{H:Hp}{s:Ni}{a C dx:Nb}{fs:List (Str×V)}{f:Str}{v:V}{A:Np}{E:Nc}
def getattr_ok(I:Hb)(e:H a=some Tu)(c:VW C)(n:zd9 X.K C f)(l:fs.lookup f=some v)(h:∀u s',ZA H s'→UY u→Q u s'):ZF A (getAttr Rg f b) Q E s:=by
 obtain⟨mA,O,r,_,_,_⟩:=MF e
 obtain⟨u,hu,ru⟩:=RelO.some_of (v:=v) (o:=mA f) (by rw[←l];exact r f)
 exact get_map I.kIn O (c.get f) c.hd n hu (handed_of ru) (h u _ Ru ru)
def zfh(I:Hb)(e:H a=some Tu)(c:VW C)(k:K3 g)(l:fs.lookup m=none)(h:Q (Go g,[Rg]) s):ZF A (getMethod Rg m pl) Q E s:=by
 obtain⟨mA,O,r,_,_,_⟩:=MF e
 have hn:mA m=none:=RelO.none_of (by rw[←l];exact r m)
 exact get_meth I.kIn O (c.get m) k.at_ k.fn hn h
def setattr_ok(I:Hb)(e:H a=some Tu)(c:VW C)(n:zd9 X.K C f)(hl:fs.length<1000)(ry:YD u)(h:∀s',ZA (ZS a (.ins C dx (putF f y fs))) s'→Q () s'):ZF A (setAttr Rg f u) Q E s:=by
 obtain⟨mA,O,r,wi,_,ho⟩:=MF e
 have hz:(fs.map (·.1)).length≤sizeLine:=by rw[Qa,sizeLine_eq];lia
 refine set_map I.kIn O c.sa c.po n.taker c.hd wi hz λh' O' sb=>h _ ?_
 have hd:∃o,h'.get? dx=some o:=let⟨o,_,_,e',_⟩:=O'.ns;⟨o,e'⟩
 refine I.write (x:=a) (e:=dx) (by rw[e];exact True.intro) (RG ho) (λb q hb z=>(O0 hb).trans z) hd ?_
 refine⟨by rw[zaf O.ne];exact ho,?_,O.ne,O'.obj,_,O'.ns,λg=>?_,λg hg=>?_⟩
 ·have:=zgr f y fs;exact Ze ‹_› ‹_›
 ·show RelO ((putF f y fs).lookup g) (if g=f then some u else mA g)
  rw[zgp]
  by_cases q:g=f
  ·rw[if_pos q,if_pos q];exact ry
  ·rw[if_neg q,if_neg q];exact r g
 ·by_cases q:g=f
  ·rw[q];exact(zgt f y fs).1
  ·refine (zgt f y fs).2 g (wi g fun z=>hg ?_)
   show(if g=f then some u else mA g)=none
   rw[if_neg q];exact z
def Inv.made(I:Hb):ZA (upd (OB (.own Hd)) Hd (.ins C s.heap.objs.size []))
  {s with heap:=(s.heap.push PySem.W.emptyDict).push TL}:=by
 have e1:(s.heap.push PySem.W.emptyDict).get? s.heap.objs.size=some PySem.W.emptyDict:=Za s.heap rfl
 have e2:((s.heap.push PySem.W.emptyDict).push TL).get? Hd=some TL:=by
  have:=Za (s.heap.push PySem.W.emptyDict) (o:=WW s.heap.objs.size) rfl
  rwa[Wp]at this
 have e3:(s.heap.push PySem.W.emptyDict).Ns s.heap.objs.size (λ_=>none):=⟨PySem.W.emptyDict,#[],_,e1,rfl,(λe he=>absurd he Gf),λ_=>rfl⟩
 have I1:=I.laid (a:=s.heap.objs.size) (o:=.own Hd) (h':=s.heap.push PySem.W.emptyDict) (t':=s.toks) (λb u q=>WG q) GV ⟨_,e1⟩
 refine I1.laid (a:=s.heap.objs.size+1) (o:=.ins C s.heap.objs.size []) (t':=s.toks) (λb u q=>WG q) (Km (Wp _ _)) ?_
 have ne:s.heap.objs.size≠s.heap.objs.size+1:=Zi zB
 refine⟨by rw[zaf ne,zab],RP,ne,e2,λ_=>none,(Heap.Ns1.of_empty e3).at λo q=>WG q,λ_=>True.intro,λy hy=>absurd rfl hy⟩
def attr_of(hb:attributeBase e f env (LI e)=eval e env)(h:ZG (LI e) (λo s₁=>ZG (getAttr o f true) Q E s₁) E s):ZG (LI (P8 e pos)) Q E s :=
 Attribute_any_ h (by rw[arm_eval_Attribute,hb])
end
inductive RFld(K:Na)(f:Str)(x:V)(H:Hp)(Q:VK):Prop
 |mk (a C dx:Nb) (fs:List (Str×V)) (v:V) (e:x=.ref a) (h:H a=some (.ins C dx fs)) (c:Cls K C) (n:zd9 K C f) (l:fs.lookup f=some v) (q:Q v H):RFld K f x H Q
def tFld(K:Na)(ta:TE)(f:Str):TE:=λ σ H Q=>ta σ H λx H1=>RFld K f x H1 Q
inductive RFs(K:Na)(f:Str)(x y:V)(H:Hp)(N:Hp→Prop):Prop
 |mk (a C dx:Nb) (fs:List (Str×V)) (e:x=.ref a) (h:H a=some (.ins C dx fs)) (c:Cls K C) (n:zd9 K C f) (l:fs.length<1000) (q:N (upd H a (.ins C dx (putF f y fs)))):RFs K f x y H N
def sFld(K:Na)(ta tv:TE)(f:Str):TS:=λD σ H=>tv σ H λy H1=>ta σ H1 λx H2=>RFs K f x y H2 (D.nx σ)
def InOp(X:Cx)(op:Operator)(rd:V→V→Hp→VK→Prop):Prop :=
 ∀(a5:Nh) (s:Ni) (σ:St) (H:Hp) (x y:V) (u v:Value) (Q:VK),ZA H s→WJ u→YD v→rd x y H Q→ZE (inplaceOp op u v) SY X.xe s
section
variable{X:Cx}{o e value:Expr}{f:Str}{pos aH tpos:Pos}{ta tv:TE}
def pe_fld(he:Z7 e ta)(hb:attributeBase e f X.env CA=eval e X.env):Z7 (P8 e pos) (tFld X.K ta f):=by
 intro a5 s σ H Q I h
 refine attr_of hb (thn Ri λu s1 ⟨x,H1,I1,rx,a,C,dx,fs,v,ex,ea,c,n,l,q⟩=>?_)
 subst ex
 obtain rfl:u=Value.ref a:=rx
 exact getattr_ok I1 ea c n l λu' s2 I2 ru=>⟨v,H1,I2,ru,q⟩
def ps_fld(ha:Z7 o ta)(hv:yg)(hs:swapsWith value (Gz (P8 o aH)) pos.line X.env=pure false):KA (.Assign [P8 o aH] value pos) (sFld X.K ta tv f):=by
 intro a5 s σ H D I h
 refine plainObj_wpAny_Assign_Attribute (thn As λu s1 ⟨y,H1,I1,ry,q⟩=>thn (ha a5 s1 σ H1 _ I1 q) λov s2 ⟨x,H2,I2,rx,a,C,dx,fs,ex,ea,c,n,l,q2⟩=>?_) hs
 subst ex
 obtain rfl:ov=Value.ref a:=rx
 exact setattr_ok I2 ea c n l ry λs3 I3=>⟨σ,_,I3,q2⟩
def rSub:V→V→Hp→VK→Prop:=λx y H Q=>∃i j,x=.int i∧y=.int j∧Q (Ht (i-j)) H
def in_sub:InOp X .Sub rSub:=by
 rintro a5 s σ H x y u v Q I rx ry ⟨i,j,rfl,rfl,q⟩
 obtain⟨t,rfl⟩:=(show ∃t,u=XA t from rx)
 obtain⟨t',rfl⟩:=(show ∃t',v=Value.int j t' from ry)
 exact PyProof.Rows.isub_int ⟨Ht (i-j),H,Ru,⟨_,rfl⟩,q⟩
def methcall_of(he:Lb)(I:Hb)(h:te σ H fun x H1=>∃ a C dx fs g,x=.ref a∧H1 a=some Tu∧VW C∧K3 g∧fs.lookup m=none ∧
   ∀s1,ZA H1 s1→ZE (callWith pos (Go g) [Rg] (Ln P9) (backToKw pos (keywordEach [] X.env))) Q X.xe s1)(ht:eval (.Call (Tc e) args [] pos) X.env=(do
   let ov ←eval e X.env
   standAt apos.atName
   let(f,first) ←holding [ov] CU
   callWith pos f first (backTo pos P9) (backToKw pos (keywordEach [] X.env)))) :
  wpAny Gq X.A (Hm (.Call (Tc e) args [] pos)) Q X.xe s:=by
 refine Xs (pl:=pl) (thn Ri λu s1 ⟨x,H1,I1,rx,a,C,dx,fs,g,ex,ea,c,k,l,q⟩=>?_) ht
 subst ex
 obtain rfl:u=Value.ref a:=rx
 exact N7 k l (q s1 I1)
end
section
variable{X:Cx}{a5:Nh}{σ:St}{H:Hp}{s:Ni}{A:Np}{E:Nc}{Q:Nc}{c:Value}{b:Bool}
end
end L2
namespace L2
open PySem PySem.Spec PyProof.Rows
structure Room(k:Nat)(A:Np):Prop where
 hd:A.handled=none
 dp:A.depth+3*k+5<recursionLimit
 un:A.units+16*k+200<cLine
 gd:A.guards=some []
def Room.mono(r:U0 A)(h:j≤k):Room j A:=⟨r.hd,by have:=r.dp;lia,by have:=r.un;lia,r.gd⟩
def Room.deeper{k:Nat}{A:Np}(r:Room (k+1) A)(env:Env):U0 (A.deeper env) :=
 ⟨r.hd,by have:=r.dp;show A.depth+1+3*k+5<_;lia,by have:=r.un;show A.units+3+16*k+200<_;lia,r.gd⟩
def make_depth{A:Np}:(P7 (.builtin "type.__call__" ⟨.ref C::us,kw⟩)).depth=A.depth+1:=by
 first | rfl | simp[Around.under,Code.weight,Code.isCreation,Code.isGuard,Code.isCaller,Code.frames,Code.isFrame,guardIds]
def make_units{A:Np}:(P7 (.builtin "type.__call__" ⟨.ref C::us,kw⟩)).units=A.units+1:=by
 first | rfl | simp[Around.under,Code.cUnits,Code.frames,Code.isFrame]
def make_guards{A:Np}{C:Nb}{us:Nj}{kw:List (Str×Value)}:(P7 (.builtin "type.__call__" ⟨.ref C::us,kw⟩)).guards=A.guards:=by
 obtain⟨hd,d,fr,gs,u⟩:=A
 cases gs<;>first | rfl | simp[Around.under,Code.guards,Code.isGuard,pushGuards,guardIds]
def Room.make(r:Room (k+1) A)(C:Nb)(us:Nj)(kw:Sg (Str×Value)):U0 (P7 (.builtin "type.__call__" ⟨.ref C::us,kw⟩)) :=
 ⟨r.hd,by have:=r.dp;rw[make_depth];lia,by have:=r.un;rw[make_units];lia,by rw[make_guards];exact r.gd⟩
def Room.depth{k:Nat}{A:Np}(r:U0 A):A.depth<recursionLimit:=by have:=r.dp;lia
def Room.units(r:U0 A):A.units+64<cLine:=by have:=r.un;lia
def tNil:TA:=λ_ H Q=>Q [] H
def tCons(ta:TE)(tr:TA):TA:=λ σ H Q=>ta σ H λx H1=>tr σ H1 λxs H2=>Q (x::xs) H2
section
variable{X:Cx}{e:Expr}{es:Nr}{te:TE}{t:TA}{pos:Pos}
def zae:VP [] tNil:=λ_ _ _ _ H Q I h=>Xr ⟨[],H,I,.nil,h⟩
def zaa(ha:Lb)(hr:VP es t)(hs:starEach (e::es) X.env=(false,CA)::starEach es X.env:=by rfl):VP (e::es) (tCons te t):=by
 intro pos a5 s σ H Q I h
 rw[hs]
 show ZV _ (spliced ((false,CA)::backTo pos Rw)) _ _ s
 refine Jy (thn Rh λu s1 ⟨x,H1,I1,r1,q1⟩=>?_)
 exact thn (hr pos a5 s1 σ H1 _ I1 q1) λus s2 ⟨xs,H2,I2,r2,q2⟩=>⟨x::xs,H2,I2,LJ r1 r2,q2⟩
def tTup(t:TA):TE:=λ σ H Q=>t σ H λxs H1=>xs.length≤sizeLine∧∀p,H1 p=none→Q Sv (QJ p RX)
def tLst(t:TA):TE:=λ σ H Q=>t σ H λxs H1=>xs.length≤sizeLine∧∀p,H1 p=none→Q Sv (QJ p Sq)
def zbo{x1}(h:VP es t):Z7 (.Tuple es x1 pos) (tTup t):=by
 intro a5 s σ H Q I hq
 refine wpAny_Tuple_spliced (thn OJ λus s1 ⟨xs,H1,I1,r,z,q⟩=>⟨by rw[←r.length];exact z,?_⟩)
 have hf:H1 s1.heap.objs.size=none:=I1.hok.fresh GV
 refine⟨A5,QJ s1.heap.objs.size RX,I1.laid (t':=s1.toks) (λb u e=>WG e) GV ?_,rfl,q _ hf⟩
 exact⟨z,us,r,⟨_,SA,rfl,xc⟩⟩
def zbi(h:VP es t):Z7 (.List es pos) (tLst t):=by
 intro a5 s σ H Q I hq
 refine wpAny_List_spliced (thn OJ λus s1 ⟨xs,H1,I1,r,z,q⟩=>⟨by rw[←r.length];exact z,?_⟩)
 have hf:H1 s1.heap.objs.size=none:=I1.hok.fresh GV
 refine⟨A5,QJ s1.heap.objs.size Sq,I1.laid (t':=s1.toks) (λb u e=>WG e) GV ?_,rfl,q _ hf⟩
 exact⟨z,us,0,r,SA⟩
end
abbrev Sp:=List V→Hp→VK→XK→Prop
abbrev CXT:=List Env→Hp→Shared→XK→Value→Shared→Prop
structure Env0(P:Nk)(w:Nl)(K:Na)(mg:Nd)(base:No)(A:Np)(outer:List Env)(s:Ni)(H:Hp):Prop where
 frames:A.frames=some outer
 mod:Mod K mg base
 bs:∀b o,base.get? b=some o→s.heap.get? b=some o∧H b=none
 bsz:base.objs.size≤s.heap.objs.size
 funs:s.heap.FunFrames base outer
 frf:∀b∈frs outer,H b=none
 hok:WX s.heap
 bare:AllBare s.gens
inductive CE(outer:List Env)(P:Nk)(w:Nl)(H:Hp)(s:Ni)(Q:VK)(u:Value)(s':Ni):Prop
 |mk (v:_) (H':_) (h0:s'.os=s.os) (h1:AllBare s'.gens) (h2:Un (frs outer) [] H H' s.heap s'.heap) (h3:HOk P w H' s'.heap) (h4:RelV v u) (h5:Q v H'):CE outer P w H s Q u s'
def CR(CX:CXT)(outer:List Env)(P:Nk)(w:Nl)(H:Hp)(s:Ni)(Q:VK)(E:XK)(r:Result)(s':Ni):Prop :=
 match r with
 |.ok (.ret u)=>N8 s'
 |.ok _=>False
 |.error e=>CX outer H s E e s'
structure FnOk(P:Nk)(w:Nl)(K:Na)(mg:Nd)(base:No)(CX:CXT)(k:Nat)(f:Nb)(fd:Nv)(ps:Ng)(sp:Sp):Prop where
 len:∀vs H Q E,sp vs H Q E→vs.length=ps.length
 run:∀(A:Np) (outer:List Env) (s:Ni) (H:Hp) (args:Args) (us:Nj) (vs:List V) (Q:VK) (E:XK),U0 A→J4 H→Ba args Tn→M0 us→sp vs H Q E →
  codeAny LO A (.call TJ args) (CR CX outer P w H s Q E) s
def FnOk.imp{P:Nk}{w:Nl}{K:Na}{mg:Nd}{base:No}{CX:CXT}{k:Nat}{f:Nb}{fd:Nv}{ps:Ng}{sp sp':Sp}(F:ZD CX k f fd ps sp)(h:∀vs H Q E,sp' vs H Q E→sp vs H Q E):ZD CX k f fd ps sp' :=
 ⟨λvs H Q E q=>F.len vs H Q E (h _ _ _ _ q),λA outer s H args us vs Q E hr he hb hv hs=>F.run A outer s H args us vs Q E hr he hb hv (h _ _ _ _ hs)⟩
def Env0.make{P:Nk}{w:Nl}{K:Na}{mg:Nd}{base:No}{A:Np}{outer:List Env}{s:Ni}{H:Hp}(e:J4 H)(C:Nb)(us:Nj)(kw:Sg (Str×Value)) :
  Env0 P w K mg base (P7 (.builtin "type.__call__" ⟨.ref C::us,kw⟩)) outer s H:=⟨by first | exact e.frames | (simpa[Around.under,Code.envs,Code.isFrame,pushEnvs] using e.frames),e.mod,e.bs,e.bsz,e.funs,e.frf,e.hok,e.bare⟩
section
variable{X:Cx}{a5:Nh}{σ:St}{H:Hp}{s s':Ni}
def Inv.env0(I:Hb):Env0 X.prog X.w X.K X.mg X.base X.A X.stack s H :=
 ⟨I.ok.frames,I.ok.mod,I.bs,N5 I.sz,I.stack,I.stkFree,I.hok,I.bare⟩
def Inv.after(I:Hb)(h:CE X.stack X.prog X.w H s Q u s'):Z9 Q u s':=by
 obtain⟨v,H',os,bare,un,hok,r,q⟩:=h
 obtain⟨hh,g,d,t,qK⟩:=s'
 obtain rfl:qK=s.os:=os
 exact⟨v,H',I.call (h':=hh) (g':=g) (d':=d) (t':=t) (ch:=[]) un hok bare (λb z=>absurd z Gf),r,q⟩
end
def tCall(sp:Sp)(dvs:List V)(E:XK)(t:TA):TE:=λ σ H Q=>t σ H λvs H1=>sp (vs++dvs) H1 Q E
inductive RMe(C:Nb)(m:Str)(x:V)(H:Hp)(R:Prop):Prop
 |mk (a dx:Nb) (fs:List (Str×V)) (e:x=.ref a) (h:H a=some (.ins C dx fs)) (l:fs.lookup m=none) (q:R):RMe C m x H R
def tMeth(C:Nb)(m:Str)(sp:Sp)(dvs:List V)(E:XK)(ta:TE)(t:TA):TE:=λ σ H Q=>ta σ H λx H1=>RMe C m x H1 <|
 t σ H1 λvs H2=>sp (x::(vs++dvs)) H2 Q E
def tMake(C:Nb)(sp:Sp)(dvs:List V)(E:XK)(t:TA):TE:=λ σ H Q=>t σ H λvs H1=>∀x dx,H1 x=none→H1 dx=none→dx≠x →
 sp (.ref x::(vs++dvs)) (upd (QJ dx Er) x (.ins C dx [])) (λv H2=>v=.non∧Q E5 H2) E
def Binds(K:Na)(fd:Nv)(ps:Ng)(ds:Nj):Prop :=
 ∀(s:Ni) (us:Nj),K.In s.heap→(us++ds).length=ps.length→Ba ⟨us,[]⟩ (ps.zip (us++ds))
def Binds.all{K:Na}{fd:Nv}{ps:Ng}(h:∀us:List Value,us.length=ps.length→bindArgs fd ⟨us,[]⟩=pure Tn):WK fd ps []:=λs us _ hl=>by
 rw[Zx]at hl ⊢
 exact .of_eq (h us hl)
def zg4(CX:CXT)(X:Cx)(E:XK):Prop:=∀(a5:Nh) (σ:St) (H:Hp) (s:Ni) (e:Value) (s':Ni),ZA H s→CX X.stack H s E e s'→X.xe e s'
section
variable{X:Cx}{CX:CXT}{k:Nat}{f C:Nb}{fd:Nv}{ps:Ng}{sp:Sp}{dvs:List V}{ds:Nj}{E:XK}{x m:Str}{p pos apos:Pos}{e o:Expr}{es:Nr}{ta:TE}{t:TA}
def run_fn(F:Z8 sp)(hr:U0 X.A)(hb:UV ds)(hd:K4 ds)(hx:K5 E)(I:Hb)(r:M0 us)(h:sp (vs++dvs) H Q E):ZE (call TJ us) SY X.xe s:=by
 have r2:Vals (vs++dvs) (us++ds):=r.append hd
 have hl:(us++ds).length=ps.length:=by rw[←r2.length];exact F.len _ _ _ _ h
 refine wpAny_call (codeAny_mono (F.run X.A X.stack s H ⟨us,[]⟩ (us++ds) (vs++dvs) Q E hr I.env0 (hb s us I.kIn hl) r2 h) λr s' hq=>?_)
 cases r with
 |error e=>exact hx a5 σ H s e s' I hq
 |ok fl =>
  cases fl with
  |ret u=>exact I.after hq
  |next=>exact False.elim hq
  |brk=>exact False.elim hq
  |cont=>exact False.elim hq
def zcu(F:Z8 sp)(hr:U0 X.A)(hg:V4 x)(hm:X.mg x=some TJ)(hk:PySem.W.keepIn X.K TJ=true)(hb:UV ds)(hd:K4 ds)(hx:K5 E)(ha:VP (e::es) t)(gf:HK=false:=by decide)(he:starEach (e::es) X.env=(false,CA)::starEach es X.env:=by rfl)(aO:(Ln Rw).any (·.1)=false:=by rfl) :
  PE X (.Call zC (e::es) [] pos) (tCall sp dvs E t):=by
 intro a5 s σ H Q I h
 refine wpAny_Call_Name_kw (VO ?_ gf)
 refine PySem.W.callWith_K (h₀:=X.base) I.ok.mod.kin hk (thn Sd λus s1 ⟨vs,H1,I1,r,q⟩=>⟨I1.kIn,?_⟩) he aO
 exact run_fn F hr hb hd hx I1 r q
def ze8(he:Z7 o ta)(c:VW C)(hm:K3 f)(F:Z8 sp)(hr:U0 X.A)(hb:UV ds)(hd:K4 ds)(hx:K5 E)(ha:VP (e::es) t)(aq:starEach (e::es) X.env=(false,CA)::starEach es X.env:=by rfl)(aO:(Ln Rw).any (·.1)=false:=by rfl)(ht:eval (.Call (Tc o) (e::es) [] pos) X.env=(do
   let ov ←eval o X.env
   standAt apos.atName
   let(f,first) ←holding [ov] CU
   callWith pos f first (backTo pos (starEach (e::es) X.env)) (backToKw pos (keywordEach [] X.env))):=by rfl) :
  PE X (.Call (Tc o) (e::es) [] pos) (NW t):=by
 intro a5 s σ H Q I h
 refine Xs (pl:=pl) (thn Ri λu s1 ⟨x,H1,I1,rx,a,dx,fs,ex,ea,l,q⟩=>?_) ht
 subst ex
 obtain rfl:u=Value.ref a:=rx
 refine N7 hm l ?_
 refine PySem.W.callWith_K (first:=[Rg]) (h₀:=X.base) I.ok.mod.kin hm.kp (thn (ha pos a5 s1 σ H1 _ I1 q) λus s2 ⟨vs,H2,I2,r,q2⟩=>⟨I2.kIn,?_⟩) aq aO
 exact run_fn (us:=.ref a::us) (vs:=.ref a::vs) F hr hb hd hx I2 (LJ rfl r) q2
def zij(he:Z7 o ta)(c:VW C)(hm:K3 f)(F:Z8 sp)(hr:U0 X.A)(hb:UV ds)(hd:K4 ds)(hx:K5 E)(ht:eval (.Call (Tc o) [] [] pos) X.env=(do
   let ov ←eval o X.env
   standAt apos.atName
   let(f,first) ←holding [ov] CU
   callWith pos f first (backTo pos (starEach [] X.env)) (backToKw pos (keywordEach [] X.env))):=by rfl) :
  PE X (.Call (Tc o) [] [] pos) (NW tNil):=by
 intro a5 s σ H Q I h
 refine Xs (pl:=pl) (thn Ri λu s1 ⟨x,H1,I1,rx,a,dx,fs,ex,ea,l,q⟩=>?_) ht
 subst ex
 obtain rfl:u=Value.ref a:=rx
 refine N7 hm l ?_
 exact PySem.W.callWith_K0 (first:=[Rg]) I1.kIn hm.kp (run_fn (us:=[Rg]) (vs:=[Rg]) F hr hb hd hx I1 (Rk rfl) q)
structure Mk(K:Na)(C f:Nb):Prop where
 makes:K2 C=true
 init:Z1 "__init__" = some Pg
 fn:XE TJ=true
 kp:YN Ir=true
def run_make(M:Mk X.K C f)(F:Z8 sp)(hr:Room (k+1) X.A)(hb:UV ds)(hd:K4 ds)(hx:K5 E)(I:Hb)(r:M0 us)(h:∀x dx,H x=none→H dx=none→dx≠x→sp (.ref x::(vs++dvs)) (upd (ZS dx Er) x (.ins C dx [])) (λv H2=>v=.non∧Q E5 H2) E) :
  wpAny Gq X.A (call Ir us) SY X.xe s:=by
 have hq:=h Hd s.heap.objs.size (Es (Um _)) Sa (Zi zB)
 have I2:=Inv.made (C:=C) I
 have r2:Vals (V.ref Hd::(vs++dvs)) (Value.ref Hd::(us++ds)):=.cons rfl (r.append hd)
 have hl:(Value.ref Hd::us++ds).length=ps.length:=by
  have e:=r2.length
  rw[F.len _ _ _ _ hq]at e
  exact e.symm
 refine wpAny_call (make_map (f:=f) I.kIn M.makes M.init (beq_iff_eq.mp M.fn) (codeAny_mono (F.run _ X.stack _ _ ⟨Value.ref Hd::us,[]⟩ (Value.ref Hd::(us++ds)) _ _ E (hr.make C us [])
  (I2.env0.make C us []) (hb _ (Value.ref Hd::us) I2.kIn hl) r2 hq) λr s' cQ=>?_))
 cases r with
 |error e=>exact hx a5 σ _ _ e s' I2 cQ
 | ok fl =>
  cases fl with
  |ret u =>
   obtain⟨v,H',I3,rv,ev,q3⟩:=I2.after cQ
   subst ev
   exact⟨rv,⟨La Hd,H',I3,rfl,q3⟩⟩
  |next=>exact False.elim cQ
  |brk=>exact False.elim cQ
  |cont=>exact False.elim cQ
def zik(M:Mk X.K C f)(F:Z8 sp)(hr:Room (k+1) X.A)(hg:V4 x)(hm:X.mg x=some Ir)(hb:UV ds)(hd:K4 ds)(hx:K5 E)(ha:VP (e::es) t)(gf:HK=false:=by decide)(he:starEach (e::es) X.env=(false,CA)::starEach es X.env:=by rfl)(aO:(Ln Rw).any (·.1)=false:=by rfl) :
  PE X (.Call zC (e::es) [] pos) (tMake C sp dvs E t):=by
 intro a5 s σ H Q I h
 refine wpAny_Call_Name_kw (VO ?_ gf)
 refine PySem.W.callWith_K (h₀:=X.base) I.ok.mod.kin M.kp (thn Sd λus s1 ⟨vs,H1,I1,r,q⟩=>⟨I1.kIn,?_⟩) he aO
 exact run_make M F hr hb hd hx I1 r q
end
section
variable{X:Cx}{CX:CXT}{k:Nat}{f C:Nb}{fd:Nv}{ps ks:Ng}{sp:Sp}{E:XK}{x m:Str}{p pos apos kpos:Pos}{e o:Expr}{es:Nr}{kws:List Keyword}{te ta:TE}{t tk:TA}{nm:Option Str}
variable{g:List Value→List Value→List Value}{gV:List V→List V→List V}
end
structure zak(N P:Ng)(sc:Scope):Prop where
 kind:sc.kind=.function
 co:sc.isCoroutine=false
 gen:sc.isGenerator=false
 nd:N.Nodup
 pre:N.take P.length=P
 par:∀x∈P,sc.names.lookup x=some .local∨sc.names.lookup x=some .cell
 nofree:∀y∈sc.names,y.2≠.free
theorem bindL_out{kindOf:Str→Option NameKind}{x:Str}:∀{binds:List (Str×Value)} {m:Nd},(∀v,(x,v)∉binds)→bindL kindOf binds m x=m x
 |[],_,_=>rfl
 | (n,v)::r,m,h=>by
  unfold bindL
  rw[bindL_out λw hw=>h w (QK hw)]
  split
  ·have:x≠n:=by rintro rfl;exact h v Qb
   simp[this]
  ·rfl
theorem bindC_out{kindOf:Str→Option NameKind}{x:Str}:∀{binds:List (Str×Value)} {m:Nd},(∀v,(x,v)∉binds)→bindC kindOf binds m x=m x
 |[],_,_=>rfl
 | (n,v)::r,m,h=>by
  unfold bindC
  rw[bindC_out λw hw=>h w (QK hw)]
  split
  ·rfl
  ·have:x≠n:=by rintro rfl;exact h v Qb
   simp[this]
theorem bindL_get{kindOf:Str→Option NameKind}{x:Str}{v:Value}:∀{P:Ng} {vs:Nj} {i:Nat} {m:Nd},P.Nodup→P[i]?=some x→vs[i]?=some v→kindOf x=some .local →
  bindL kindOf (P.zip vs) m x=some v
 |[],_,_,_,_,h,_,_=>by simp at h
 |_::_,[],_,_,_,_,h,_=>by simp at h
 |p::P,w::vs,0,m,nd,h1,h2,hk=>by
  simp at h1 h2;subst h1;subst h2
  show bindL kindOf ((p,w)::P.zip vs) m p=_
  unfold bindL
  rw[bindL_out λv hv=>(Qr.mp nd).1 (Pi hv).1,if_pos hk]
  simp
 |p::P,w::vs,i+1,m,nd,h1,h2,hk=>by
  show bindL kindOf ((p,w)::P.zip vs) m x=_
  unfold bindL
  exact bindL_get (i:=i) (Qr.mp nd).2 (Gk h1) (Gk h2) hk
theorem bindC_get{kindOf:Str→Option NameKind}{x:Str}{v:Value}:∀{P:Ng} {vs:Nj} {i:Nat} {m:Nd},P.Nodup→P[i]?=some x→vs[i]?=some v→kindOf x≠some .local →
  bindC kindOf (P.zip vs) m x=some v
 |[],_,_,_,_,h,_,_=>by simp at h
 |_::_,[],_,_,_,_,h,_=>by simp at h
 |p::P,w::vs,0,m,nd,h1,h2,hk=>by
  simp at h1 h2;subst h1;subst h2
  show bindC kindOf ((p,w)::P.zip vs) m p=_
  unfold bindC
  rw[bindC_out λv hv=>(Qr.mp nd).1 (Pi hv).1,if_neg hk]
  simp
 |p::P,w::vs,i+1,m,nd,h1,h2,hk=>by
  show bindC kindOf ((p,w)::P.zip vs) m x=_
  unfold bindC
  exact bindC_get (i:=i) (Qr.mp nd).2 (Gk h1) (Gk h2) hk
def start(N:Ng)(vs:List V):St:=vs.map some++List.replicate (N.length-vs.length) none
def cxOf(CX:CXT)(P:Nk)(w:Nl)(K:Na)(mg:Nd)(base:No)(N:Ng)(qual:Str)(scope:Scope)(f:Nb)(cd:Value)(A:Np)(outer:List Env)(s:Ni)(H:Hp)(E:XK):Cx where
 prog:=P
 w:=w
 K:=K
 mg:=mg
 base:=base
 A:=A.deeper (Rt cd)
 N:=N
 s₀:=s
 H₀:=H
 env:=envOfC qual scope s.heap.objs.size f cd
 outer:=outer
 stack:=envOfC qual scope s.heap.objs.size f cd::outer
 ex:=[]
 calm:=true
 fn:=λ_=>true
 pn:=[]
 xe:=λe s'=>K0 (A.deeper (Rt cd)) (leaving (Rt cd) e) (λ_ lK=>CX outer H s E e lK) (λe' lK=>CX outer H s E e' lK) s'
def cell_has{sc:Scope}{n:Nat}{x:Str}(h:sc.names.lookup x=some .cell):∃c,(cellsFrom n sc.names []).lookup x=some c:=by
 have q:=PySem.W.cellsFrom_some sc.names n [] IW
 exact Option.isSome_iff_exists.mp q
def inv_start{CX:CXT}{P:Nk}{w:Nl}{K:Na}{mg:Nd}{base:No}{N ps:Ng}{qual:Str}{scope:Scope}{f:Nb}{cd:Value}{A:Np}{outer:List Env}{s s1:Ni}{H:Hp}{E:XK}{us:Nj}{vs:List V}(S:V6 scope)(hd:A.handled=none)(e0:J4 H)(hl:vs.length=ps.length)(r:M0 us)(x:InCallC s s.heap.objs.size (bindL (Rt cd).kindOf Tn λ_=>none) (cellsFrom Hd scope.names []) (bindC (Rt cd).kindOf Tn λ_=>none) s1) :
  Inv (Au cd) [] IG H s1:=by
 have aO:ps.length≤N.length:=by have:=congrArg List.length S.pre;rw[Zq]at this;lia
 obtain⟨h1,tk,rfl,hk⟩:=x.done
 have noA:∀b:Addr,b∉(Au cd).ex:=λb z=>absurd (show b∈([]:List Addr) from z) Gf
 refine⟨⟨e0.mod,S.kind,rfl,rfl,GV,λy z c h1 h2=>?_,λy hy=>?_,λy c _ h=>?_,λ_=>hd,Around.frames_deeper e0.frames,.inr ⟨rfl,rfl⟩,λb z=>absurd z (noA b),e0.bs,e0.bsz,λb _ _=>noA b,λb z=>absurd z (noA b),e0.funs,e0.frf⟩,
  rfl,e0.bare,Un.kept hk,⟨_,x.toInCall.ns,λi y v h1 h2 h3=>?_⟩,λy c h=>⟨_,x.cell y c h⟩,e0.hok.fresh GV,λy c h=>?_,λp hp=>absurd (show p∈([]:List (Addr×Obj)) from hp) Gf,e0.hok.kept hk,?_⟩
 ·exact name_of_addr x.apart (Wl h1) (Wl h2)
 ·have hy:scope.names.lookup y=some .cell∨scope.names.lookup y=some .free:=hy
  rcases hy with hy | hy
  ·exact cell_has hy
  ·exact absurd rfl (S.nofree _ (Wl hy))
 ·exact Wu Av
 ·have hi:i < vs.length:=by
   unfold start at h2
   by_cases hi:i<vs.length
   ·exact hi
   ·rw [Kn yu] at h2
    rw[List.getElem?_replicate]at h2
    split at h2<;>cases h2
  have ha:vs[i]?=some v:=by
   unfold start at h2
   rw[List.getElem?_append_left yu,Qo]at h2
   cases e:vs[i]? with
   |none=>rw[e]at h2;cases h2
   |some a=>rw[e]at h2;cases h2;rfl
  obtain⟨u,hu,rv⟩:=r.get ha
  have hp:ps[i]?=some y:=by
   rw[←S.pre,List.getElem?_take_of_lt (by exact zar7 ‹_› ‹_›)];exact h1
  have ndP:ps.Nodup:=by rw[←S.pre];exact S.nd.sublist (Uo _ _)
  refine⟨u,rv,?_⟩
  rcases S.par y (Yd hp) with k | k
  ·exact .inl ⟨k,bindL_get ndP hp hu k⟩
  ·obtain ⟨c,e⟩:=cell_has (n:=s.heap.objs.size+1) k
   refine .inr ⟨Rf k,c,e,?_⟩
   have q:=x.cell y c e
   rw[bindC_get ndP hp hu (by show scope.names.lookup y≠_;rw[k];decide)]at q
   exact q
 ·exact e0.hok.fresh (Wu Av)
 ·unfold start
  show _=N.length
  rw[Qz,Qa,Jz]
  lia
def fn_of{CX:CXT}{P:Nk}{w:Nl}{K:Na}{mg:Nd}{base:No}{k:Nat}{f:Nb}{name qual:Str}{params:Arguments}{body:List Stmt}{scope:Scope}{dV kV doc pm cdv ct oc:Value}{an od:Option Addr}{osl:Array S0}{N ps:Ng}{sp:Sp}(lk:K.lookup f=some ⟨oc,od,.func (JI ct),osl⟩)(aD:BI cdv qual=true)(S:V6 scope)(len:∀vs H Q E,sp vs H Q E→vs.length=ps.length)(cw:∀ (A:Np) (outer:List Env) (s:Ni) (H:Hp) (vs:List V) (Q:VK) (E:XK),U0 (A.deeper (Rt cdv))→sp vs H Q E →
   ∃t,PSs (Au cdv) body t∧t {nx:=λ_ H'=>Q .non H',rt:=Q} IG H) :
  FnOk P w K mg base CX (k+1) f (JI ct) ps sp:=by
 refine⟨len,λA outer s H args us vs Q E hr e0 hb r bK=>?_⟩
 have hl:=len _ _ _ _ bK
 have KX:K.In s.heap:=e0.mod.kin.keeps λb o e=>(e0.bs b o e).1
 have lim:s.heap.NoLimit:=e0.mod.nolimit.keeps λb o e=>(e0.bs b o e).1
 have df:∀y∈ps.zip us,scope.names.lookup y.1=some .local∨(scope.names.lookup y.1=some .cell∧((cellsFrom Hd scope.names []).lookup y.1).isSome=true):=λ⟨n,v⟩ hy=>by
  rcases S.par n (Pi hy).1 with q | q
  ·exact .inl q
  ·exact .inr ⟨q,PySem.W.cellsFrom_some _ _ _ (Rf q)⟩
 refine codeAny_call_function hr.depth (KX _ _ lk) rfl S.co S.gen rfl (PySem.W.codeRec_of KX aD) (hb _ _ _ _ ?_)
 refine wpAny_newFunctionEnv_cells S.kind df λenv he s1 x=>?_
 subst he
 refine⟨lim.keeps x.toInCall.keep,codeAny_func ?_⟩
 obtain⟨t,ht,hq⟩:=cw A outer s H vs Q E (hr.deeper _) bK
 have I:V7 [] IG H s1:=inv_start S hr.hd e0 hl r x
 refine wpAny_mono (ht [] s1 IG H _ I hq) (λfl s' hs=>?_) λe s' hs=>hs
 have fin:∀{σ':St} {H':Hp} {v:V} {u:Value},V7 [] σ' H' s'→UY u→Q v H'→N8 s' :=
  λ{σ' H' v u} J rv q=>⟨v,H',J.os,J.bare,J.base,J.hok,rv,q⟩
 cases fl with
 |ret u =>
  obtain⟨v,σ',H',J,rv,q⟩:=hs
  exact fin J rv q
 |next =>
  obtain⟨σ',H',J,q⟩:=hs
  exact fin (v:=V.non) (u:=Value.none) J rfl q
 |brk =>
  obtain⟨_,_,_,q⟩:=hs
  exact False.elim q
 |cont =>
  obtain⟨_,_,_,q⟩:=hs
  exact False.elim q
end L2
namespace L2
open PySem PySem.Spec PyProof.Rows
section
variable{X:Cx}{x:Str}{p pos:Pos}{e:Expr}{es:Nr}{t:TA}{id T:String}{r:List V→Hp→VK→Prop}
def tCB(r:List V→Hp→VK→Prop)(t:TA):TE:=λ σ H Q=>t σ H λvs H1=>r vs H1 Q
def zal(hc:Y4 TW r)(hg:V4 x)(hm:X.mg x=none)(hv:bootBuiltins x=some TW)(ha:VP (e::es) t)(hn:x ≠ "__name__" := by decide)(gf:HK=false:=by decide)(he:starEach (e::es) X.env=(false,CA)::starEach es X.env:=by rfl)(aO:(Ln Rw).any (·.1)=false:=by rfl):Z7 (.Call zC (e::es) [] pos) (tCB r t):=by
 intro a5 s σ H Q I h
 refine wpAny_Call_Name_kw (Bw hv ?_ hn gf)
 exact PyProof.Rows.callWith_builtin1 (thn Sd λus s1 ⟨vs,H1,I1,r1,q1⟩=>hc a5 s1 σ H1 vs us Q I1 r1 q1) he aO
def zbr(hc:Y4 E8 r)(hg:V4 x)(hm:X.mg x=none)(hv:bootBuiltins x=some E8)(ha:VP (e::es) t)(hn:x ≠ "__name__" := by decide)(gf:HK=false:=by decide)(he:starEach (e::es) X.env=(false,CA)::starEach es X.env:=by rfl)(aO:(Ln Rw).any (·.1)=false:=by rfl):Z7 (.Call zC (e::es) [] pos) (tCB r t):=by
 intro a5 s σ H Q I h
 refine wpAny_Call_Name_kw (Bw hv ?_ hn gf)
 exact Ua (thn Sd λus s1 ⟨vs,H1,I1,r1,q1⟩=>hc a5 s1 σ H1 vs us Q I1 r1 q1) he aO
end
end L2
namespace L2
open PySem PySem.Spec PyProof.Rows
section
variable{κ:Type}[DecidableEq κ]
def valV(kvs:Sg (κ×V))(k:κ):Option V:=(kvs.find? λkv=>decide (kv.1=k)).map (·.2)
def putK(kvs:Sg (κ×V))(k:κ)(v:V):List (κ×V) :=
 if(kvs.any λkv=>decide (kv.1=k))=true then kvs.map (λkv=>if kv.1=k then(kv.1,v) else kv) else kvs++[(k,v)]
def dropK(kvs:Sg (κ×V))(k:κ):List (κ×V):=kvs.filter λkv=>decide (kv.1≠k)
def zcg{p:κ×V}{r:List (κ×V)}{k:κ}(e:p.1=k):valV (p::r) k=some p.2:=by simp[valV,Ul,e]
def zbm{p:κ×V}{r:List (κ×V)}{k:κ}(e:¬p.1=k):valV (p::r) k=valV r k:=by simp[valV,Ul,e]
theorem zh0(k:κ):∀kvs:List (κ×V),(kvs.any λkv=>decide (kv.1=k))=(JX k).isSome
 |[]=>rfl
 |p::r=>by
  rw[Kx]
  by_cases e:p.1=k
  ·simp only[zcg e,decide_eq_true e,Bool.true_or,Option.isSome_some]
  ·rw[zbm e,decide_eq_false e,Bool.false_or];exact zh0 k r
def zej(kvs:Sg (κ×V))(k:κ)(v:V):(UA k v).length≤kvs.length+1:=by
 unfold putK
 split
 ·rw[Qa];exact DH _
 ·rw[Qz,Qu,Wi];exact Qg _
def zdz{kvs:List (κ×V)}{k:κ}(v:V)(h:JX k=none):UA k v=kvs++[(k,v)]:=by
 unfold putK
 rw[zh0,h]
 exact if_neg Gj
def RelO.isSome_eq(r:RelO o u):o.isSome=u.isSome:=by
 cases o with
 |none=>cases u with
  |none=>rfl
  |some _=>exact(show False from r).elim
 |some _=>cases u with
  |none=>exact(show False from r).elim
  |some _=>rfl
def RelO.getD(r:RelO o u)(rd:RelV d d'):RelV (o.getD d) (u.getD d'):=by
 cases o with
 |none=>cases u with
  |none=>exact rd
  |some _=>exact(show False from r).elim
 |some _=>cases u with
  |none=>exact(show False from r).elim
  |some _=>exact r
def KV.val{kvs:List (κ×V)}{vs:List (κ×Value)}(r:UM vs)(k:κ):RelO (JX k) (valueAt vs k):=by
 unfold KV at r
 induction r with
 |nil=>exact True.intro
 | @cons p q ps qs h t ih =>
  obtain⟨h1,h2⟩:=h
  by_cases e:p.1=k
  ·have e':q.1=k:=h1.symm.trans e
   have b:valueAt (q::qs) k=some q.2:=by simp[valueAt,Ul,e']
   rw[zcg e,b];exact h2
  ·have e':¬ q.1=k:=fun z=>e Cb
   have b:valueAt (q::qs) k=valueAt qs k:=by simp[valueAt,Ul,e']
   rw[zbm e,b];exact ih
def KV.any(r:UM vs)(k:κ):(kvs.any λkv=>decide (kv.1=k))=vs.any λkv=>decide (kv.1=k):=by
 unfold KV at r
 induction r with
 |nil=>rfl
 |cons h t ih=>rw[Kx,Kx,ih,h.1]
def KV.repl(r:UM vs)(k:κ)(ry:YD u) :
  KV (kvs.map λkv=>if kv.1=k then(kv.1,y) else kv) (vs.map λkv=>if kv.1=k then(kv.1,u) else kv):=by
 unfold KV at r ⊢
 induction r with
 |nil=>exact .nil
 |@cons p q ps qs h t ih =>
  rw[Qm,Qm]
  refine .cons ?_ ih
  obtain⟨h1,h2⟩:=h
  by_cases e:p.1=k
  ·rw[if_pos e,if_pos yw];exact⟨h1,ry⟩
  ·rw[if_neg e,if_neg (λz=>e Cb)];exact⟨h1,h2⟩
def KV.put(r:UM vs)(k:κ)(ry:YD u):KV (UA k y) (stored vs k u):=by
 unfold putK stored
 rw[r.any k]
 by_cases e:(vs.any λkv=>decide (kv.1=k))=true
 ·rw[if_pos e,if_pos e];exact r.repl k ry
 ·rw[if_neg e,if_neg e];exact Paired.snoc r ⟨rfl,ry⟩
def KV.drop{kvs:List (κ×V)}{vs:List (κ×Value)}(r:UM vs)(k:κ):KV (MM k) (without vs k):=by
 unfold KV at r ⊢
 unfold dropK without
 induction r with
 |nil=>exact .nil
 | @cons p q ps qs h t ih =>
  obtain⟨h1,h2⟩:=h
  rw[List.filter_cons,List.filter_cons]
  by_cases e:p.1=k
  ·have a:¬ decide (p.1≠k)=true:=by simp [e]
   have b:¬decide (q.1≠k)=true:=by simp[h1.symm.trans e]
   rw[if_neg a,if_neg b];exact ih
  ·have e':¬ q.1=k:=fun z=>e Cb
   have a:decide (p.1≠k)=true:=by simp[e]
   have b:decide (q.1≠k)=true:=by simp[e']
   rw[if_pos a,if_pos b];exact .cons ⟨h1,h2⟩ ih
def KV.length{kvs:List (κ×V)}{vs:List (κ×Value)}(r:UM vs):kvs.length=vs.length:=Zy r
def dropK_le(kvs:Sg (κ×V))(k:κ):(MM k).length≤kvs.length:=Wg _ _
end
def kV_is(r:N9 u):(Be w).is k u=true:=by
 cases k with
 |inl i=>obtain⟨t,e⟩:=(show ∃t,u=XA t from r);subst e;exact mixKind_int P w i t
 |inr x=>obtain⟨t,e⟩:=(show ∃t,u=U2 t from r);subst e;exact zgo P w x t
theorem items_are:∀{ks:List Key} {us:Nj},Vals Ax us→ItemsAre Lc ks us
 |[],_,r=>by rw[Xo]at r;cases r;exact .nil
 |k::ks,_,r=>by
  rw[Qm]at r
  cases r with
  |cons h t=>exact .cons (kV_is h) (items_are t)
abbrev KT(H:Hp):List (List Key×V)→List (List Key×Addr×Value)→Prop:=Paired λp q=>p.1=q.1∧H q.2.1=some zk∧N4 q.2.2
def KT.val{H:Hp}{kvs:List (List Key×V)}{xs:List (List Key×Addr×Value)}(r:K6 xs)(k:List Key):RelO (JX k) ((atKey xs k).map (·.2)):=by
 induction r with
 |nil=>exact True.intro
 | @cons p q ps qs h t ih =>
  obtain⟨h1,_,h2⟩:=h
  by_cases e:p.1=k
  ·have e':q.1=k:=h1.symm.trans e
   have b:atKey (q::qs) k=some q.2:=by simp[atKey,Ul,e']
   rw[zcg e,b];exact h2
  ·have e':¬ q.1=k:=fun z=>e Cb
   have b:atKey (q::qs) k=atKey qs k:=by simp[atKey,Ul,e']
   rw[zbm e,b];exact ih
def KT.repl(r:K6 xs)(k:List Key)(ry:YD u) :
  KT H (kvs.map λkv=>if kv.1=k then(kv.1,y) else kv) (Ep (putAt k u)):=by
 induction r with
 |nil=>exact .nil
 |@cons p q ps qs h t ih =>
  rw[Qm,Qm]
  refine .cons ?_ ih
  obtain⟨h1,h2,h3⟩:=h
  unfold putAt
  by_cases e:p.1=k
  ·rw[if_pos e,if_pos yw];exact⟨h1,h2,ry⟩
  ·rw[if_neg e,if_neg (λz=>e Cb)];exact⟨h1,h2,h3⟩
def KT.put(r:K6 xs)(k:List Key)(hb:H b=some Tv)(ry:YD u) :
  KT H (UA k y) (storedH xs k b u):=by
 have e:(kvs.any λkv=>decide (kv.1=k))=(atKey xs k).isSome:=by
  rw[zh0,(r.val k).isSome_eq,Option.isSome_map]
 unfold putK storedH
 rw[e]
 by_cases q:(atKey xs k).isSome=true
 ·rw[if_pos q,if_pos q];exact r.repl k ry
 ·rw[if_neg q,if_neg q];exact Paired.snoc r ⟨rfl,hb,ry⟩
def KT.keeps(r:K6 xs)(ht:∀b ys,H b=some LY→H' b=some LY):KT H' kvs xs :=
 Paired.mapP r λ_ _ z=>⟨z.1,ht _ _ z.2.1,z.2.2⟩
section
variable{P:Nk}{w:Nl}{H:Hp}{h:No}{a:Nb}
def rd_of(ok:WX h)(e:Vi u):YH u:=e.ok ok
def dk_rd(ok:WX h)(e:Vi Rp):kvs.length≤sizeLine∧(a==sysModules)=false∧∃vs,UM vs∧h.DictOf Lc a vs :=
 show YH Rp from rd_of ok e
def dk_of(ok:WX h)(e:H a=some Rp):kvs.length≤sizeLine∧(a==sysModules)=false∧∃vs,UM vs∧h.DictOf Lc a vs:=dk_rd ok (Rf e)
def zhn(ok:WX h)(e:H a=some (.tup Ax)):(Cw Lc).is h ks a:=by
 obtain⟨_,a7,r,o,h1,h2,n,h3⟩:=(show YH (.tup Ax) from ok a _ e)
 exact⟨o,a7.toArray,n,h1,h2,h3,by simpa using items_are r⟩
def dt_rd(ok:WX h)(e:Vi S9):kvs.length≤sizeLine∧(a == sysModules)=false ∧
  ∃xs,K6 xs∧h.DictOfH (Cw Lc) a xs:=by
 obtain⟨z,y,xs,r,o,es,ep,h1,h2,h3,h4,h5⟩:=(show YH S9 from rd_of ok e)
 refine⟨z,y,xs,r,o,es,ep,h1,h2,h3,h4,λx hx=>?_,h5⟩
 have all:∀{l:List (List Key×V)} {m:List (List Key×Addr×Value)},KT H l m→∀x∈m,(Cw Lc).is h x.1 x.2.1:=by
  intro l m q
  induction q with
  |nil=>intro x hx;exact nomatch hx
  | @cons p q ps qs hq t ih =>
   intro x hx
   rcases Qf.mp hx with e | hx
   ·subst e
    exact zhn ok (by rw[←hq.1];exact hq.2.1)
   ·exact ih x hx
 exact all r x hx
def dt_of(ok:WX h)(e:H a=some S9):kvs.length≤sizeLine∧(a==sysModules)=false ∧
  ∃xs,K6 xs∧h.DictOfH (Cw Lc) a xs:=dt_rd ok (Rf e)
end
def DGet(H:Hp)(a:Nb)(y:V)(r:Option V):Prop :=
 (∃kvs k,Vi Rp∧y=kV k∧r=JX k)∨∃kvs k b,Vi S9∧y=.ref b∧H b=some Tv∧r=JX k
def DPut(H:Hp)(a:Nb)(y v:V)(H':Hp):Prop :=
 (∃kvs k,H a=some Rp∧y=kV k∧kvs.length<sizeLine∧H'=ZS a (.dK Aw)) ∨
 ∃kvs k b,H a=some S9∧y=.ref b∧H b=some Tv∧kvs.length<sizeLine∧H'=ZS a (.dT Aw)
def DGet.k{H:Hp}{a:Nb}{kvs:List (Key×V)}{k:Key}(e:H a=some Rp):BT a (kV k) (JX k):=.inl ⟨kvs,k,Rf e,rfl,rfl⟩
def DGet.t{H:Hp}{a b:Nb}{kvs:List (List Key×V)}{k:List Key}(e:H a=some S9)(eb:H b=some Tv):BT a OL (JX k):=.inr ⟨kvs,k,b,Rf e,rfl,eb,rfl⟩
def DPut.k{H:Hp}{a:Nb}{kvs:List (Key×V)}{k:Key}{v:V}(e:H a=some Rp)(hl:kvs.length<sizeLine):DPut H a (kV k) v (ZS a (.dK Aw)):=.inl ⟨kvs,k,e,rfl,hl,rfl⟩
def DPut.t{H:Hp}{a b:Nb}{kvs:List (List Key×V)}{k:List Key}{v:V}(e:H a=some S9)(eb:H b=some Tv)(hl:kvs.length<sizeLine) :
  DPut H a OL v (ZS a (.dT Aw)):=.inr ⟨kvs,k,b,e,rfl,eb,hl,rfl⟩
section
variable{X:Cx}{a5:Nh}{σ:St}{H:Hp}{s:Ni}{a:Nb}{y v:V}{u r:Value}{o:Option V}{A:Np}{E:Nc}
def Inv.big(I:Hb):sysModules<s.heap.objs.size:=by
 have h:mainGlobals<s.heap.objs.size:=(I.mod.glob.keeps I.bk).lt
 exact Wk Gj h
def d_getItem(hu:A.units+1<cLine)(I:Hb)(g:BT a y zx)(ry:YD u)(h:∀w' s',ZA H s'→UY w'→Q w' s') :
  wpAny Gq A (yx Rg u) Q E s:=by
 rcases g with⟨kvs,k,e,ey,l⟩ | ⟨kvs,k,b,e,ey,eb,l⟩
 ·subst ey
  obtain⟨z,hd,vs,rel,dd⟩:=Bx e
  obtain⟨w',hw,cM⟩:=RelO.some_of (v:=v) (o:=valueAt vs k) (by rw[l];exact rel.val k)
  exact wpAny_getItem_of Cc dd.mapOf hw (h w' _ Ru cM)
 ·subst ey
  cases(show u=Value.ref b from ry)
  obtain⟨z,hd,xs,rel,dd⟩:=By e
  obtain⟨w',hw,cM⟩:=RelO.some_of (v:=v) (o:=(atKey xs k).map (·.2)) (by rw[l];exact rel.val k)
  obtain⟨p,hp,br⟩:=Option.map_eq_some_iff.mp hw
  refine wpAny_getItem_heap SL Ay dd hp ?_
  rw[br]
  exact h w' _ Ru cM
def d_in(hu:A.units+1<cLine)(I:Hb)(g:yh)(ry:YD u)(h:∀s',ZA H s'→Q (.bool o.isSome) s') :
  wpAny Gq A (compareOp .In u Rg) Q E s:=by
 rcases g with⟨kvs,k,e,ey,l⟩ | ⟨kvs,k,b,e,ey,eb,l⟩
 ·subst ey
  obtain⟨z,hd,vs,rel,dd⟩:=Bx e
  refine wpAny_in_of Cc hd dd.mapOf ?_
  rw[←(rel.val k).isSome_eq,←l]
  exact h _ Ru
 ·subst ey
  cases(show u=Value.ref b from ry)
  obtain⟨z,hd,xs,rel,dd⟩:=By e
  refine wpAny_in_heap SL Ay hd dd ?_
  have q:=(rel.val k).isSome_eq
  rw[Option.isSome_map]at q
  rw[←q,←l]
  exact h _ Ru
def d_notIn(hu:A.units+1<cLine)(I:Hb)(g:yh)(ry:YD u)(h:∀s',ZA H s'→Q (OC (!o.isSome)) s') :
  wpAny Gq A (compareOp .NotIn u Rg) Q E s:=by
 rcases g with⟨kvs,k,e,ey,l⟩ | ⟨kvs,k,b,e,ey,eb,l⟩
 ·subst ey
  obtain⟨z,hd,vs,rel,dd⟩:=Bx e
  refine wpAny_notIn_of Cc hd dd.mapOf ?_
  rw[←(rel.val k).isSome_eq,←l]
  exact h _ Ru
 ·subst ey
  cases(show u=Value.ref b from ry)
  obtain⟨z,hd,xs,rel,dd⟩:=By e
  refine wpAny_notIn_heap SL Ay hd dd ?_
  have q:=(rel.val k).isSome_eq
  rw[Option.isSome_map]at q
  rw[←q,←l]
  exact h _ Ru
def zi5(I:Hb)(mu:Mut (H a))(hs:B9 h')(he:∃q,h'.get? a=some q)(new:QB (ZS a ob) h' a ob) :
  Inv X a5 σ (ZS a ob) {s with heap:=h',toks:=t'} :=
 I.write (x:=a) (e:=a) mu Hf (λb q hb z=>(OZ hb).trans z) he new
def dk_new(z:kvs.length≤sizeLine)(hd:(a==sysModules)=false)(rel:UM vs)(dd:h'.DictOf Lc a vs) :
  zbx P w H' h' a Rp:=⟨z,hd,vs,rel,dd⟩
def d_setItem(hu:A.units+1<cLine)(I:Hb)(g:DPut H a y v H')(ry:YD u)(rv:UY r)(h:∀s',ZA H' s'→Q () s') :
  wpAny Gq A (setItem Rg u r) Q E s:=by
 rcases g with⟨kvs,k,e,ey,l,eH⟩ | ⟨kvs,k,b,e,ey,eb,l,eH⟩
 ·subst ey eH
  obtain⟨z,hd,vs,rel,dd⟩:=dk_of I.hok e
  have hz:vs.length≤sizeLine:=by rw[←rel.length];exact z
  have hl:(UA k v).length≤sizeLine:=by have:=zej kvs k v;exact Ze ‹_› ‹_›
  refine wpAny_setItem_pairs (hsz:=hz) Cc dd λh' gM hs=>h _ ?_
  have he:∃q,h'.get? a=some q:=let⟨q,_,_,hq,_⟩:=gM;⟨q,hq⟩
  exact zi5 I (by rw[e];exact True.intro) hs he (dk_new hl hd (rel.put k rv) gM)
 ·subst ey eH
  cases(show u=Value.ref b from ry)
  obtain⟨z,hd,xs,rel,dd⟩:=dt_of I.hok e
  have hz:xs.length≤sizeLine:=by rw[←Zy rel];exact z
  have hl:(UA k v).length≤sizeLine:=by have:=zej kvs k v;exact Ze ‹_› ‹_›
  refine wpAny_setItem_heap (hsz:=hz) SL Ay dd λh' gM hs=>h _ ?_
  obtain⟨q,es,ep,hq,h2,h3,h4,_,h5⟩:=gM
  refine zi5 I (by rw[e];exact True.intro) hs ⟨q,hq⟩ ⟨hl,hd,_,(rel.put k eb rv).keeps λc ys ec=>?_,q,es,ep,hq,h2,h3,h4,h5⟩
  rw[zaf (zat ec e (λz=>nomatch z))]
  exact ec
end
section
variable{X:Cx}{a5:Nh}{σ:St}{H:Hp}{s:Ni}{a:Nb}{kvs:List (Key×V)}{k:Key}{u:Value}{A:Np}{E:Nc}
def d_delItem(I:Hb)(e:H a=some Rp)(ry:N9 u)(l:(JX k).isSome=true)(h:∀s',ZA (ZS a (.dK (MM k))) s'→Q () s') :
  wpAny Gq A (delItem Rg u) Q E s:=by
 obtain⟨z,hd,vs,rel,dd⟩:=dk_of I.hok e
 refine wpAny_delItem_slot dd.typeIs Gj PySem.F.slot_dict_delitem
  (call_meetsIn PySem.F.slot_dict_delitem dd.typeIs PySem.F.entry_dict_delitem (PySem.F.args_dict_delitem_2 _ _) (meets_dict_delitem_pairs SZ a Cc) ⟨vs,dd,by rw[←rel.length];exact z,by rw[←(rel.val k).isSome_eq];exact l,λh' gM hs=>h _ ?_⟩)
 have he:∃q,h'.get? a=some q:=let⟨q,_,_,hq,_⟩:=gM;⟨q,hq⟩
 exact zi5 I (by rw[e];exact True.intro) hs he (dk_new (Ze (dropK_le kvs k) z) hd (rel.drop k) gM)
end
def NoSl(i:Expr):Prop:=∀ov iv,subscripted i false ov iv=operate [ov,iv] (yx ov iv)
def subD_of{prog:Nk}{w:Nl}{A:Np}{E:Nc}{s:Ni}{env:Env}{value slice:Expr}{pos:Pos}{T id:String}{Q:Nc}(hl:typeLookup E8 "__getitem__" = pure (Gz TW))(hs:NoSl slice)(h:ZG (eval value env) (λo s₁=>ZG (eval slice env) (λi s₂=>s₂.TypeIs o T∧ZG (yx o i) Q E s₂) E s₁) E s) :
  wpAny GJ A (LI (.Subscript value slice pos)) Q E s:=by
 refine Subscript_ (MX (λo s₁ h₁=>J5 (λi s₂ h₂=>?_) λ_ _ x=>x) λ_ _ x=>x)
 obtain⟨hT,h₂⟩:=h₂
 unfold subscriptTail
 refine wpAny_bind ?_
 rw[getitemInPython_of_ne hT.not_modules]
 refine wpAny_bind (KD hl ?_)
 have fin:ZG (subscripted slice false o i) (λr s₃=>ZG (letTemporaryGo value o r >>= λ_=>pure r) Q E s₃) E s₂:=by
  rw[hs o i]
  exact wpAny_operating (J6 (λr s₃ h₃=>wpAny_bind (wpAny_letTemporaryGo (Rr h₃))) λ_ _ x=>x)
 first
  |exact wpAny_pure (wpAny_bind fin)
  |exact wpAny_bind (wpAny_pure (wpAny_bind fin))
  |exact wpAny_bind fin
def dict_typeIs(I:Hb)(g:yh):s.TypeIs Rg "dict" := by
 rcases g with⟨kvs,k,e,_,_⟩ | ⟨kvs,k,b,e,_,_,_⟩
 ·obtain ⟨_,_,vs,_,dd⟩:=Bx e
  exact dd.typeIs
 ·obtain ⟨_,_,xs,_,dd⟩:=By e
  exact dd.typeIs
inductive RDG(x y:V)(H:Hp)(Q:VK):Prop
 |mk (a:Nb) (v:V) (e:x=.ref a) (g:DGet H a y (some v)) (q:Q v H):RDG x y H Q
inductive RDI(x y:V)(H:Hp)(R:Option V→Prop):Prop
 |mk (a:Nb) (o:Option V) (e:x=.ref a) (g:DGet H a y o) (q:R o):RDI x y H R
inductive RDP(x y v:V)(H:Hp)(N:Hp→Prop):Prop
 |mk (a:Nb) (H4:Hp) (e:x=.ref a) (p:DPut H a y v H4) (q:N H4):RDP x y v H N
def tDGet(td ty:TE):TE:=λ σ H Q=>td σ H λx H1=>ty σ H1 λy H2=>RDG x y H2 Q
def tDIn(ty td:TE):TE:=λ σ H Q=>ty σ H λy H1=>td σ H1 λx H2=>RDI x y H2 λo=>Q (.bl o.isSome) H2
def tDNotIn(ty td:TE):TE:=λ σ H Q=>ty σ H λy H1=>td σ H1 λx H2=>RDI x y H2 λo=>Q (yr (!o.isSome)) H2
def sDPut(td ty tv:TE):TS:=λD σ H=>tv σ H λv H1=>td σ H1 λx H2=>ty σ H2 λy H3=>RDP x y v H3 (D.nx σ)
def sDAug(td ty tv:TE)(rd:V→V→Hp→VK→Prop):TS:=λD σ H=>td σ H λx H1=>ty σ H1 λy H2=>∃a v,x=.ref a∧DGet H2 a y zx ∧
 tv σ H2 λy2 H3=>rd v y2 H3 λz H4=>∃H5,DPut H4 a y z H5∧YB H5
def sDDel(td ty:TE):TS:=λD σ H=>td σ H λx H1=>ty σ H1 λy H2=>∃a kvs k,x=.ref a∧H2 a=some Rp∧y=kV k∧(JX k).isSome=true∧YB (QA a (.dK (MM k)))
section
variable{X:Cx}{o i e value:Expr}{pos aH tpos:Pos}{td ty tv:TE}
def pe_dget(hu:X.A.units+1<cLine)(ho:C9)(hi:Id)(hs:NoSl i):Z7 Aq (tDGet td ty):=by
 intro a5 s σ H Q I h
 refine subD_of PySem.F.slot_dict_getitem.lookup hs (thn Sf λu s1 ⟨x,H1,I1,rx,q1⟩=>thn Tf λiv s2 ⟨y,H2,I2,ry,a,v,ex,g,q2⟩=>?_)
 subst ex
 obtain rfl:u=Value.ref a:=rx
 exact⟨dict_typeIs I2 g,Ff ry λw' s3 I3 cM=>⟨v,H2,I3,cM,q2⟩⟩
def pc_din(hu:X.A.units+1<cLine)(hi:Id)(ho:C9):PC X .In i o (tDIn ty td):=by
 intro a5 s σ H Q I h
 refine thn RK λiv s1 ⟨y,H1,I1,ry,q1⟩=>thn LV λu s2 ⟨x,H2,I2,rx,a,ov,ex,g,q2⟩=>?_
 subst ex
 obtain rfl:u=Value.ref a:=rx
 exact d_in hu I2 g ry λs3 I3=>⟨.bl ov.isSome,H2,I3,rfl,q2⟩
def zc7(hu:X.A.units+1<cLine)(hi:Id)(ho:C9):PC X .NotIn i o (tDNotIn ty td):=by
 intro a5 s σ H Q I h
 refine thn RK λiv s1 ⟨y,H1,I1,ry,q1⟩=>thn LV λu s2 ⟨x,H2,I2,rx,a,ov,ex,g,q2⟩=>?_
 subst ex
 obtain rfl:u=Value.ref a:=rx
 exact d_notIn hu I2 g ry λs3 I3=>⟨yr (!ov.isSome),H2,I3,rfl,q2⟩
def zb9(hu:X.A.units+1<cLine)(ho:C9)(hi:Id)(hv:yg)(hs:swapsWith value (Gz yy) pos.line X.env=pure false) :
  PS X (.Assign [yy] value pos) (sDPut td ty tv):=by
 intro a5 s σ H D I h
 refine wpAny_Assign_Subscript (thn As λr s1 ⟨v,H1,I1,rv,q1⟩=>thn LV λu s2 ⟨x,H2,I2,rx,q2⟩=>thn (hi a5 s2 σ H2 _ I2 q2) λiv s3 ⟨y,H3,I3,ry,a,H4,ex,g,q3⟩=>?_) hs
 subst ex
 obtain rfl:u=Value.ref a:=rx
 exact d_setItem hu I3 g ry rv λs4 I4=>⟨σ,H4,I4,q3⟩
def ps_daug(hu:X.A.units+1<cLine)(ho:C9)(hi:Id)(hv:yg)(iH:InOp X op rd)(ha:∀ov iv new,augStore i ov iv new=(do holding [new,ov,iv] (setItem ov iv new);release [new,ov,iv] [];pure .next)):KA (.AugAssign zo op value pos) (sDAug td ty tv rd):=by
 intro a5 s σ H D I h
 refine wpAny_AugAssign_SubscriptAny (thn Sf λu s1 ⟨x,H1,I1,rx,q1⟩=>thn Tf λiv s2 ⟨y,H2,I2,ry,a,v,ex,g,q2⟩=>?_) ha
 subst ex
 obtain rfl:u=Value.ref a:=rx
 refine Ff ry λw' s3 I3 cM=>thn (hv a5 s3 σ H2 _ I3 q2) λw2 s4 ⟨y2,H3,I4,ry2,q3⟩=>thn (iH a5 s4 σ H3 v y2 w' w2 _ I4 cM ry2 q3) λw3 s5 ⟨z,H4,I5,rz,H5,g5,q4⟩=>?_
 exact d_setItem hu I5 g5 ry rz λs6 I6=>⟨σ,H5,I6,q4⟩
def ps_ddel(ho:C9)(hi:Id):KA (.Delete [zo] pos) (sDDel td ty):=by
 intro a5 s σ H D I h
 refine wpAny_Delete (wpAny_deleteEach_cons (wpAny_delete_Subscript (thn Sf λu s1 ⟨x,H1,I1,rx,q1⟩=>thn Tf λiv s2 ⟨y,H2,I2,ry,a,kvs,k,ex,e,ey,l,q2⟩=>?_)))
 subst ex ey
 obtain rfl:u=Value.ref a:=rx
 exact d_delItem I2 e ry l λs3 I3=>wpAny_deleteEach_nil ⟨σ,_,I3,q2⟩
end
def dk_empty(h:No)(hb:sysModules<h.objs.size):UT H (h.push {cls:=.type "dict",data:=.dict #[]}) h.objs.size (.dK []) :=
 ⟨RP,Cv (Zk (Zi hb)),[],.nil,Heap.DictOf.new h⟩
def dt_empty(h:No)(hb:sysModules<h.objs.size):UT H (h.push {cls:=.type "dict",data:=.dict #[]}) h.objs.size (.dT []) :=
 ⟨RP,Cv (Zk (Zi hb)),[],.nil,_,#[],0,SA,⟨rfl,rfl,rfl⟩,rfl,rfl,Zm⟩
def tDNewK:TE:=λ_ H Q=>∀p,H p=none→Q Sv (ZS p (.dK []))
def tDNewT:TE:=λ_ H Q=>∀p,H p=none→Q Sv (ZS p (.dT []))
section
variable{X:Cx}{pos:Pos}
def zf2:Z7 (.Dict [] [] pos) tDNewK:=λa5 s σ H Q I h =>
 wpAny_Dict_empty ⟨Gy,_,I.laid (a:=s.heap.objs.size) (o:=.dK []) (t':=s.toks) (λ_ _ q=>WG q) GV O2,rfl,h _ Sa⟩
def pe_dnewT:Z7 (.Dict [] [] pos) tDNewT:=λa5 s σ H Q I h =>
 wpAny_Dict_empty ⟨Gy,_,I.laid (a:=s.heap.objs.size) (o:=.dT []) (t':=s.toks) (λ_ _ q=>WG q) GV (dt_empty s.heap I.big),rfl,h _ Sa⟩
end
def tPairs:List (TE×TE)→St→Hp→(List (V×V)→Hp→Prop)→Prop
 |[],_,H,Q=>Q [] H
 |(tk,tv)::r,σ,H,Q=>tk σ H λx H1=>tv σ H1 λy H2=>tPairs r σ H2 λps H3=>Q ((x,y)::ps) H3
abbrev VV:List (V×V)→List (Value×Value)→Prop:=Paired λp q=>RelV p.1 q.1∧N4 q.2
def PPs(X:Cx)(pos:Pos)(keys:Sg (Option Expr))(values:Nr)(trs:Sg (TE×TE)):Prop :=
 ∀(a5:Nh) (s:Ni) (σ:St) (H:Hp) (Q:List (V×V)→Hp→Prop),ZA H s→tPairs trs σ H Q →
  wpAny Gq X.A (evalPairs (pairTrees keys values X.env pos)) (λvs s'=>∃ps H',ZA H' s'∧VV ps vs∧Q ps H') X.xe s
def pps_nil:Fx [] [] []:=λa5 s σ H Q I h=>pairTrees_nil_walk ⟨[],H,I,.nil,h⟩
def pps_cons(hk:Z7 k tk)(hv:Z7 v tv)(hr:Fx ks vs trs) :
  PPs X pos (some k::ks) (v::vs) ((tk,tv)::trs):=λa5 s σ H Q I h =>
 pairTrees_cons_walk (thn (hk a5 s σ H _ I h) λu s1 ⟨x,H1,I1,rx,q1⟩=>thn (hv a5 s1 σ H1 _ I1 q1) λw2 s2 ⟨y,H2,I2,ry,q2⟩ =>
  thn (hr a5 s2 σ H2 _ I2 q2) λws s3 ⟨ps,H3,I3,rel,q3⟩=>⟨(x,y)::ps,H3,I3,LJ ⟨rx,ry⟩ rel,q3⟩)
def zhl(kvs more:Sg (Key×V)):List (Key×V):=more.foldl (λaf kv=>putK af kv.1 kv.2) kvs
def KV.merge:∀{more:List (Key×V)} {rs:List (Key×Value)} {kvs:List (Key×V)} {vs:List (Key×Value)},KV more rs→UM vs→KV (zhl kvs more) (merged vs rs):=by
 intro more rs kvs vs r
 unfold KV at r
 induction r generalizing kvs vs with
 |nil=>intro q;exact q
 | @cons p q ps qs h t ih =>
  intro r0
  have e:KV Pj (stored vs q.1 q.2):=by
   have:=r0.put p.1 h.2
   rw[←h.1];exact this
  exact ih e
theorem zew:∀(more kvs:Sg (Key×V)),(zhl kvs more).length≤kvs.length+more.length
 |[],kvs=>by show kvs.length≤kvs.length+0;exact Qg _
 |p::r,kvs=>by
  have h1:=zew r Pj
  have h2:=zej kvs p.1 p.2
  show(zhl Pj r).length≤_
  rw[Qu];lia
theorem zhu:∀{kvs:List (Key×V)} {ws:List (Value×Value)},VV (kvs.map λkv=>(kV kv.1,kv.2)) ws→∃rs,Carries Lc ws rs∧UM rs
 |[],_,r=>by rw[Xo]at r;cases r;exact⟨[],True.intro,.nil⟩
 | p::kvs,_,r=>by
  rw[Qm]at r
  cases r with
  |@cons a b as bs h t =>
   obtain⟨rs,c,q⟩:=zhu (P:=P) (w:=w) t
   obtain⟨b1,b2⟩:=b
   exact⟨(p.1,b2)::rs,⟨kV_is h.1,rfl,c⟩,.cons ⟨rfl,h.2⟩ q⟩
def tDisp(trs:Sg (TE×TE)):TE:=λ σ H Q=>∀p,H p=none→tPairs trs σ (ZS p (.dK [])) λps H2=>H2 p=some (.dK [])∧∃kvs:List (Key×V),ps=kvs.map (λkv=>(kV kv.1,kv.2))∧kvs.length≤15∧Q Sv (QA p (.dK (zhl [] kvs)))
def pe_disp(h:Fx keys values trs)(aW:keys.all (·.isSome)=true)(hl:keys.length=values.length)(h0:keys≠[])(h15:keys.length≤15):Z7 (.Dict keys values pos) (tDisp trs):=by
 intro a5 s σ H Q I q
 have hn:=I.hok.fresh (Qg s.heap.objs.size)
 have I1:=I.laid (a:=s.heap.objs.size) (o:=.dK []) (h':=s.heap.push {cls:=.type "dict",data:=.dict #[]}) (t':=s.toks) (λ_ _ q=>WG q) GV O2
 refine wpAny_Dict_walk (knd:=Q6 X.w) aW hl h0 h15 (thn (h a5 _ σ _ _ I1 (q _ hn)) λws s2 ⟨ps,H2,I2,rel,e,kvs,ep,lk,q2⟩=>?_)
 subst ep
 obtain⟨rs,c,rk⟩:=zhu (P:=X.prog) (w:=X.w) rel
 obtain⟨z,hd,vs0,r0,dd⟩:=dk_of I2.hok e
 cases r0
 refine⟨rs,c,dd,λh' gM hs=>⟨Gy,_,?_,rfl,q2⟩⟩
 have hz:(zhl [] kvs).length≤sizeLine:=by
  have h1:=zew kvs []
  rw[Wi]at h1
  rw[sizeLine_eq];lia
 have he:∃q,h'.get? s.heap.objs.size=some q:=let⟨q,_,_,hq,_⟩:=gM;⟨q,hq⟩
 exact zi5 I2 (by rw[e];exact True.intro) hs he (dk_new hz hd (rk.merge .nil) gM)
structure M2(X:Cx)(o:Expr)(m:Str)(apos:Pos)(e f:Expr)(cpos:Pos):Prop where
 base:attributeBase o m X.env (Hm o)=eval o X.env
 few:((backTo cpos (starEach [e,f] X.env)).all (λx=>!x.1)&&(backToKw cpos (keywordEach [] X.env)).all (λx=>x.1.isSome)
  && decide (([e,f]:List Expr).length+([]:List Keyword).length+(if([]:List Keyword).isEmpty then 0 else 1)<30))=true
 line:(apos.endLine==cpos.line)=true
 trees:backTo cpos (starEach [e,f] X.env)=[(false,CA),(false,Hm f)]
def IsD(H:Hp)(a:Nb):Prop:=(∃kvs,Vi Rp)∨∃kvs,Vi S9
def isD_at(I:Hb)(d:IsD H a) :
  s.TypeIs Rg "dict" ∧ (∀b,Value.ref a=.ref b→∃ob,s.heap.get? b=some ob∧ob.dict=none)∧(a==sysModules)=false:=by
 rcases d with⟨kvs,e⟩ | ⟨kvs,e⟩
 ·obtain ⟨_,hd,vs,_,dd⟩:=Bx e
  refine⟨dd.typeIs,λb q=>?_,hd⟩
  cases q
  obtain⟨ob,_,_,h1,h2,_⟩:=dd
  exact⟨ob,h1,h2.2.1⟩
 ·obtain ⟨_,hd,xs,_,dd⟩:=By e
  refine⟨dd.typeIs,λb q=>?_,hd⟩
  cases q
  obtain⟨ob,_,_,h1,h2,_⟩:=dd
  exact⟨ob,h1,h2.2.1⟩
section
variable{X:Cx}{a5:Nh}{σ:St}{H:Hp}{s:Ni}{a:Nb}{y d:V}{u r:Value}{o:Option V}{A:Np}{E:Nc}
def d_get2(hu:A.units+1<cLine)(I:Hb)(g:yh)(ry:YD u)(rd:RelV d r)(h:∀w' s',ZA H s'→RelV (o.getD d) w'→Q w' s') :
  wpAny Gq A (call (.builtin "dict.get") [Rg,u,r]) Q E s:=by
 rcases g with⟨kvs,k,e,ey,l⟩ | ⟨kvs,k,b,e,ey,eb,l⟩
 ·subst ey
  obtain⟨z,hd,vs,rel,dd⟩:=Bx e
  refine call_meetsIn Xt dd.typeIs PySem.F.entry_dict_get (VY _) (meets_dict_get_default SZ a Cc hd r) ⟨_,dd.mapOf,h _ _ Ru ?_⟩
  rw[l]
  exact(rel.val k).getD rd
 ·subst ey
  cases(show u=Value.ref b from ry)
  obtain⟨z,hd,xs,rel,dd⟩:=By e
  refine call_meetsIn Xt dd.typeIs PySem.F.entry_dict_get (VY _) (meetsH_dict_get_default (Cw SZ) a b hd r) ⟨SL,k,xs,Ay,dd,h _ _ Ru ?_⟩
  rw[l]
  exact(rel.val k).getD rd
end
def tDGet2(td ty tx:TE):TE:=λ σ H Q=>td σ H λx H1=>∃a,x=.ref a∧IsD H1 a∧ty σ H1 λy H2=>tx σ H2 λz H3=>∃o,DGet H3 a y o∧Q (o.getD z) H3
section
variable{X:Cx}{o e f:Expr}{apos cpos:Pos}{td ty tx:TE}
def pe_dget2(hu:X.A.units+1<cLine)(ho:C9)(he:Z7 e ty)(hf:Z7 f tx)(m:M2 X o "get" apos e f cpos):Z7 (.Call (.Attribute o "get" apos) [e,f] [] cpos) (tDGet2 td ty tx):=by
 intro a5 s σ H Q I h
 refine wpAny_Call_method m.base m.few m.line PySem.F.plainAttrs_dict Xt PySem.F.type_dict_get (thn Sf λu s1 ⟨x,H1,I1,rx,a,ex,d,q1⟩=>?_)
 subst ex
 obtain rfl:u=Value.ref a:=rx
 obtain⟨t1,t2,_⟩:=isD_at I1 d
 refine⟨t1,t2,?_⟩
 rw[m.trees]
 refine V8 (Calls.evalArgs_plain (Jy (thn (he a5 s1 σ H1 _ I1 q1) λiv s2 ⟨y,H2,I2,ry,q2⟩ =>
  Jy (thn (hf a5 s2 σ H2 _ I2 q2) λfv s3 ⟨z,H3,I3,rz,ov,g,q3⟩=>Xr ?_))))
 exact d_get2 hu I3 g ry rz λw' s4 I4 cM=>⟨_,H3,I4,cM,q3⟩
end
section
variable{X:Cx}{a5:Nh}{σ:St}{H:Hp}{s:Ni}{a:Nb}{kvs:List (Key×V)}{A:Np}{E:Nc}
end
section
variable{X:Cx}{a5:Nh}{σ:St}{H:Hp}{s:Ni}{a:Nb}{y:V}{u:Value}{A:Np}{E:Nc}
end
end L2
namespace HT
open PySem PyProof.Rows
def eqAt_int(A:Np)(s:Ni)(a:Int)(t:Tok)(c:Int)(u:Tok):∃e,UB (IE a) (Sl c u) e∧(e=true↔a=c) :=
 ⟨(a==c),N' t c u,Gf⟩
def rcLt_int(A:Np)(s:Ni)(a:Int)(t:Tok)(c:Int)(u:Tok)(prog:Nk)(w:Nl)(E:Nc)(Q:Nc)(h:Q (.bool (decide (a<c))) s) :
  wpAny GJ A (zE (IE a) (Sl c u)) Q E s :=
 (PyProof.Rows.lt_int h:ZG (compareOp .Lt (IE a) (Sl c u)) Q E s)
section
open PySem.SeqAt
open PySem.AutoSeq1 (wpAny_loadPart')
open PySem.MeetsSeq PySem.MeetsSeq2 PySem.MeetsSeq3
end
section
variable{prog:Nk}{w:Nl}{A:Np}{E:Nc}{s:Ni}
def sIx(n d:Nat):Option Int→Nat
 |none=>d
 |some v=>if v<0 then(v+(n:Int)).toNat else min v.toNat n
def sIx_nat(n d k:Nat):sIx n d (some (k:Int))=min k n:=by
 show(if(k:Int)<0 then((k:Int)+(n:Int)).toNat else min (k:Int).toNat n)=min k n
 rw[if_neg Gg,Wx]
end
end HT
namespace L2
open PySem PySem.Spec PyProof.Rows
abbrev TO:=St→Hp→(Option Int→Hp→Prop)→Prop
def PO(X:Cx)(e:Option Expr)(t:TO):Prop :=
 ∀(a5:Nh) (s:Ni) (σ:St) (H:Hp) (Q:Option Int→Hp→Prop),ZA H s→t σ H Q →
  wpAny Gq X.A (evalPart e X.env) (λu s'=>∃o H',ZA H' s'∧IsPart u o∧Q o H') X.xe s
def tNoPart:TO:=λ_ H Q=>Q none H
inductive RPt(x:V)(R:Int→Prop):Prop
 |mk (i:Int) (e:x=.int i) (q:R i):RPt x R
def tPart(t:TE):TO:=λ σ H Q=>t σ H λx H1=>RPt x λi=>Q zF H1
section
variable{X:Cx}{e:Expr}{te:TE}{lo hi:Option Expr}{tl th:TO}{pos p2:Pos}
def zct:PO X none tNoPart:=by
 intro a5 s σ H Q I h
 rw[evalPart_none]
 exact wpAny_pure ⟨none,H,I,.none,h⟩
def zb2(h:Lb):PO X (Gz e) (tPart te):=by
 intro a5 s σ H Q I hw
 rw[evalPart_some]
 refine thn (Ld _ hw) λu s1 ⟨x,H1,I1,r1,q1⟩=>?_
 obtain⟨i,rfl,q⟩:=q1
 obtain⟨t,rfl⟩:=r1
 exact⟨zF,H1,I1,IE i,q⟩
def SlR(X:Cx)(r:V→Option Int→Option Int→Hp→VK→Prop):Prop :=
 ∀(a5:Nh) (s:Ni) (σ:St) (H:Hp) (x:V) (v vl vu:Value) (lo hi:Option Int) (sl:Nb) (Q:VK),ZA H s→WJ v→s.heap.IsSliceOf sl vl vu .none→IsPart vl lo→IsPart vu hi→r x lo hi H Q →
  ∃T id,typeLookup E8 "__getitem__" = pure (Gz TW)∧s.TypeIs v T∧ZE (yx v (Go sl)) SY X.xe s
def tSl(r:V→Option Int→Option Int→Hp→VK→Prop)(te:TE)(tl th:TO):TE:=λ σ H Q=>te σ H λx H1=>tl σ H1 λl H2=>th σ H2 λu H3=>r x l u H3 Q
def zb5(hr:SlR X r)(he:Lb)(hl:PO X lo tl)(hu:PO X hi th):Z7 (SW e Pk) (tSl r te tl th):=by
 intro a5 s σ H Q I h
 refine Subscript_ (thn Ri λv s1 ⟨x,H1,I1,r1,q1⟩=>?_)
 refine wpAny_Slice (thn (hl a5 s1 σ H1 _ I1 q1) λvl s2 ⟨l,H2,I2,pl,q2⟩=>thn (hu a5 s2 σ H2 _ I2 q2) λvu s3 ⟨u,H3,I3,pu,q3⟩=>?_)
 rw[evalPart_none]
 refine wpAny_pure ?_
 have I4:ZA H3 {s3 with heap:=s3.heap.push {cls:=.type "slice",data:=.fields #[vl,vu,.none]}}:=I3.kept (t':=s3.toks) λb ob q=>WG q
 obtain⟨T,id,hT,ht,hg⟩:=hr a5 {s3 with heap:=s3.heap.push {cls:=.type "slice",data:=.fields #[vl,vu,.none]}} σ H3 x v vl vu l u s3.heap.objs.size Q I4 r1 (Heap.IsSliceOf.new ..) pl pu q3
 show ZE (subscriptTail e Pk v Pl) SY X.xe {s3 with heap:=s3.heap.push {cls:=.type "slice",data:=.fields #[vl,vu,.none]}}
 exact tail_any (ops:=[Pl,v]) ht hT hg (by with_unfolding_all rfl)
def cutV(xs:List V)(lo hi:Option Int):List V:=(xs.drop (QN 0 lo)).take (QN xs.length hi-QN 0 lo)
def zbl(xs:List V)(lo hi:Option Int):(M7 lo hi).length≤xs.length:=by
 unfold cutV
 rw[Zq,Kd]
 lia
end
end L2
namespace L2
open PySem PySem.Spec PyProof.Rows
def ixN(n:Nat)(i:Int):Option Nat:=if 0≤i then(if i<n then some i.toNat else none) else if -(n:Int)≤i then some (i+n).toNat else none
def atI{α:Type}(xs:List α)(i:Int):Option α:=(MG i).bind λj=>xs[j]?
def ixN_seq(h:ixN n i=some j):seqIndex? i n=some j∧j<n∧-(n:Int)≤i∧i<n:=by
 unfold ixN at h
 by_cases h0:0≤i
 ·rw [Rv h0] at h
  by_cases h1:i<n
  ·rw [Rv h1] at h
   have e:i.toNat=j:=Qn h
   exact⟨by rw[seqIndex_of h0 h1,e],Gg,Gg,h1⟩
  ·rw[if_neg h1]at h;cases h
 ·rw [Rm h0] at h
  by_cases h1:-(n:Int)≤i
  ·rw [Rv h1] at h
   have e:(i+n).toNat=j:=Qn h
   exact⟨by rw[seqIndex_neg Gg h1,e],Gg,h1,Gg⟩
  ·rw[if_neg h1]at h;cases h
def atI_get{α:Type}{xs:List α}{i:Int}{v:α}(h:atI xs i=some v):∃j,seqIndex? i xs.length=some j∧xs[j]?=some v∧j<xs.length∧-(xs.length:Int)≤i∧i<xs.length:=by
 unfold atI at h
 cases e:MG i with
 |none=>rw[e]at h;cases h
 |some j =>
  rw[e]at h
  obtain⟨h1,h2,h3,h4⟩:=ixN_seq e
  exact⟨j,h1,h,h2,h3,h4⟩
def za3{α:Type}{xs:List α}{j:Nat}{v:α}(h:xs[j]?=some v):atI xs (j:Int)=some v:=by
 have hj:j<xs.length:=(Tl h).1
 have e:MG (j:Int)=some j:=by
  unfold ixN
  rw[if_pos Gg,if_pos (by exact zar9 ‹_›)];simp
 unfold atI;rw[e];exact h
def PlainIx(b:Expr):Prop:=∀o i,subscripted b false o i=operate [o,i] (yx o i)
def IxR(X:Cx)(r:R2):Prop :=
 ∀(value slice:Expr) (a5:Nh) (s:Ni) (σ:St) (H:Hp) (x y:V) (v u:Value) (Q:VK),ZA H s→WJ v→YD u→r x y H Q →
  subscripted slice false v u=operate [v,u] (yx v u)→ZE (subscriptTail value slice v u) SY X.xe s
def MtR(X:Cx)(id:String)(r:V→List V→Hp→VK→Prop):Prop :=
 ∀(a5:Nh) (s:Ni) (σ:St) (H:Hp) (x:V) (xs:List V) (v:Value) (us:Nj) (Q:VK),ZA H s→WJ v→WD us→r x xs H Q →
  wpAny Gq X.A (DI (v::us)) SY X.xe s
section
variable{X:Cx}{a b:Expr}{ta tb:TE}{pos:Pos}
def za5(hr:IxR X r)(ha:Tr)(hb:C7)(hs:PlainIx b):Z7 (SW a b) yt:=by
 intro a5 s σ H Q I h
 exact Subscript_ (M5 h λv u s2 x y H2 I2 rx ry q=>hr a b a5 s2 σ H2 x y v u Q I2 rx ry q (hs _ _))
inductive RrIxL(K:Na)(x:V)(y:V)(H:Hp)(Q:VK):Prop
 |mk (p:_) (xs:_) (i:_) (v:_) (h0:x=.ref p) (h1:y=.int i) (h2:SqL K H p xs) (h3:atI xs i=some v) (h4:Q v H):RrIxL K x y H Q
def rIxL(K:Na):R2:=λx y H Q=>RrIxL K x y H Q
inductive RrIxT(K:Na)(x:V)(y:V)(H:Hp)(Q:VK):Prop
 |mk (p:_) (xs:_) (i:_) (v:_) (h0:x=.ref p) (h1:y=.int i) (h2:SqT K H p xs) (h3:atI xs i=some v) (h4:Q v H):RrIxT K x y H Q
def rIxT(K:Na):R2:=λx y H Q=>RrIxT K x y H Q
inductive RrIxS(x:V)(y:V)(H:Hp)(Q:VK):Prop
 |mk (z:_) (i:_) (c:_) (h0:x=.str z) (h1:y=.int i) (h2:z.length≤sizeLine) (h3:atI z.cps.toList i=some c) (h4:Q (.str ⟨#[c]⟩) H):RrIxS  x y H Q
def rIxS:R2:=λx y H Q=>RrIxS  x y H Q
def za2:IxR X (rIxL X.K):=by
 intro value slice a5 s σ H x y v u Q I rx ry h hs
 obtain⟨p,xs,i,z,rfl,rfl,hq,he,q⟩:=h
 cases rx
 obtain⟨t,rfl⟩:=ry
 obtain⟨a7,r,pl,hz⟩:=I.list hq
 obtain⟨j,h1,h2,h3,h4,h5⟩:=atI_get he
 obtain⟨w,ew,cM⟩:=r.get h2
 have hl:=r.length
 have hn:=zev
 have fin:Z9 Q w s:=⟨z,H,I,cM,q⟩
 by_cases h0:0≤i
 ·have hj:i.toNat=j:=by
   rw[seqIndex_of h0 h5]at h1
   exact Qn h1
  exact item_listR pl.isList h0 Gg (by rw[hj];simpa using ew) fin hs
 ·have hj:(i+(a7.toArray.size:Int)).toNat=j:=by
   rw[seqIndex_neg Gg h4]at h1
   rw[Qw,←hl]
   exact Qn h1
  exact subscriptTail_builtinR (x:=w) pl.isList.typeIs slot_list_getitem.lookup
   (wpAny_getItem_list_neg (Q:=λr s'=>r=w∧Z9 Q r s') pl.isList Gg (by rw[Qw]<;>lia) Gg (by rw[hj];simpa using ew) ⟨rfl,fin⟩) hs
def zbs:IxR X (rIxT X.K):=by
 intro value slice a5 s σ H x y v u Q I rx ry h hs
 obtain⟨p,xs,i,z,rfl,rfl,hq,he,q⟩:=h
 cases rx
 obtain⟨t,rfl⟩:=ry
 obtain⟨a7,r,pl,hz⟩:=I.tuple hq
 obtain⟨j,h1,h2,h3,h4,h5⟩:=atI_get he
 obtain⟨w,ew,cM⟩:=r.get h2
 have hl:=r.length
 have hn:=zev
 have fin:Z9 Q w s:=⟨z,H,I,cM,q⟩
 exact subscriptTail_builtinR (x:=w) pl.typeIs slot_tuple_getitem.lookup
  (getItem_tuple (j:=j) (Q:=λr s'=>r=w∧Z9 Q r s') pl Gg Gg (by rw[Qw,←hl];exact h1) (Gk ew) ⟨rfl,fin⟩) hs
def ix_str:IxR X rIxS:=by
 intro value slice a5 s σ H x y v u Q I rx ry h hs
 obtain⟨z,i,c,rfl,rfl,hz,he,q⟩:=h
 obtain⟨t,rfl⟩:=rx
 obtain⟨t',rfl⟩:=ry
 obtain⟨j,h1,h2,h3,h4,h5⟩:=atI_get he
 have hl:z.cps.toList.length=z.length:=by simp[Str.length]
 rw[hl]at h1 h4 h5
 have hn:=zev
 exact tail_any (typeIs_str s z t) slot_str_getitem.lookup (getItem_str (c:=c) (by
  have e1:decide (i < -(2 ^ 63:Int))=false:=decide_eq_false Gg
  have e2:decide (i≥2 ^ 63)=false:=decide_eq_false Gg
  rw[e1,e2,Bool.or_false]) (by rw[h1];simpa using h2) ⟨RN ⟨#[c]⟩,H,Ru,⟨_,rfl⟩,q⟩) hs
def mapSeq_set(a7:Nj)(n j:Nat)(u:Value):Obj.mapSeq (·.setIfInBounds j u) {cls:=.type "list",data:=.seq a7.toArray n}={cls:=.type "list",data:=.seq (a7.set j u).toArray n}:=by
 simp[Obj.mapSeq]
def Inv.lst{a5:Nh}{σ:St}{H:Hp}{s:Ni}{p:Nb}{xs:List V}(I:Hb)(h:H p=some Sq) :
  ∃(a7:Nj) (n:Nat),WD a7∧s.heap.get? p=some {cls:=.type "list",data:=.seq a7.toArray n}∧xs.length≤sizeLine:=by
 obtain⟨z,a7,n,r,e⟩:=XU h
 exact⟨a7,n,r,e,z⟩
def Inv.lstUpd{s:Ni}{xs ys:List V}{a7 its':Nj}{n n':Nat}{f:Obj→Obj}(I:Hb)(h:H p=some Sq)(ho:s.heap.get? p=some {cls:=.type "list",data:=.seq a7.toArray n})(hf:f {cls:=.type "list",data:=.seq a7.toArray n}={cls:=.type "list",data:=.seq its'.toArray n'})(r:YK its')(hz:ys.length≤sizeLine)(t:Nat) :
  Inv X a5 σ (ZS p TX) {s with heap:=s.heap.update p f,toks:=t}:=by
 have e:(s.heap.update p f).get? p=some {cls:=.type "list",data:=.seq its'.toArray n'}:=by
  rw[Us f ho (by rw[hf]<;>rfl),hf]
 refine I.write (x:=p) (e:=p) (by rw[h];trivial) Hf (λb u hb q=>(Vl Pn).trans q) ⟨_,e⟩ ?_
 exact⟨hz,its',n',r,e⟩
inductive RrSetL(o:V)(i:V)(v:V)(H:Hp)(Q:Hp→Prop):Prop
 |mk (p:_) (xs:_) (k:_) (j:_) (h0:o=.ref p) (h1:i=.int k) (h2:H p=some (.lst xs)) (h3:ixN xs.length k=some j) (h4:Q (upd H p (.lst (xs.set j v)))):RrSetL  o i v H Q
def rSetL:V→V→V→Hp→(Hp→Prop)→Prop:=λo i v H Q=>RrSetL  o i v H Q
def set_list:PSet X rSetL:=by
 intro a5 s σ H o i v ov iv u Q I ro ri rv h
 obtain⟨p,xs,k,j,rfl,rfl,hp,hj,q⟩:=h
 cases ro
 obtain⟨t,rfl⟩:=ri
 obtain⟨a7,n,r,ho,hz⟩:=I.lst hp
 obtain⟨h1,h2,h3,h4⟩:=ixN_seq hj
 have hl:=r.length
 have hn:=zev
 have I':ZA (ZS p (Gw (xs.set j v))) {s with heap:=s.heap.update p (Obj.mapSeq (·.setIfInBounds j u))} :=
  I.lstUpd hp ho (mapSeq_set a7 n j u) (r.set rv j) (by rw[List.length_set];exact hz) s.toks
 by_cases h0:0≤k
 ·have hk:k.toNat=j:=by
   rw[seqIndex_of h0 h4]at h1
   exact Qn h1
  exact PySem.W.ki_setAt ho h0 Gg (by rw[Qw,←hl];exact h4) (by rw[hk];exact⟨_,I',q⟩)
 ·have hk:(k+(a7.toArray.size:Int)).toNat=j:=by
   rw[seqIndex_neg Gg h3]at h1
   rw[Qw,←hl]
   exact Qn h1
  exact PySem.W.ki_setBack ho Gg (by rw[Qw,←hl];exact h3) Gg (by rw[hk];exact⟨_,I',q⟩)
def slice_bounds(lo hi:Option Int)(n:Nat):(sliceBounds lo hi none n).1=((HT.sIx n 0 lo:Nat):Int)∧(sliceBounds lo hi none n).2.1=((HT.sIx n n hi:Nat):Int)∧(sliceBounds lo hi none n).2.2=1:=by
 refine⟨?_,?_,rfl⟩
 ·cases lo with
  |none=>simp[sliceBounds,HT.sIx]
  |some i =>
   simp only[sliceBounds,HT.sIx,Option.getD_none,show(1:Int)>0 by decide,if_true]
   by_cases h:i<0
   ·simp only[h,if_true]<;>lia
   ·simp only[h,if_false]<;>lia
 ·cases hi with
  |none=>simp[sliceBounds,HT.sIx]
  |some i =>
   simp only[sliceBounds,HT.sIx,Option.getD_none,show(1:Int)>0 by decide,if_true]
   by_cases h:i<0
   ·simp only[h,if_true]<;>lia
   ·simp only[h,if_false]<;>lia
def zh7(a7:Nj)(lo hi:Option Int):slicePick a7.toArray lo hi none=((a7.drop (Vm 0 lo)).take (Vm a7.length hi-Vm 0 lo)).toArray:=by
 obtain⟨h1,h2,h3⟩:=slice_bounds lo hi a7.toArray.size
 unfold slicePick
 rw[h1,h2,h3]
 simp only[sliceRange_one,pick_run,Qw]<;>rfl
inductive RrSlL(K:Na)(x:V)(lo:Option Int)(hi:Option Int)(H:Hp)(Q:VK):Prop
 |mk (a:_) (xs:_) (h0:x=.ref a) (h1:SqL K H a xs) (h2:∀p,H p=none→Q (.ref p) (upd H p (.lst (cutV xs lo hi)))):RrSlL K x lo hi H Q
def rSlL(K:Na):V→Option Int→Option Int→Hp→VK→Prop:=λx lo hi H Q=>RrSlL K x lo hi H Q
def zcn:SlR X (rSlL X.K):=by
 intro a5 s σ H x v vl vu lo hi sl Q I rx hs pl pu h
 obtain⟨a,xs,rfl,hx,q⟩:=h
 cases rx
 obtain⟨a7,r,ht,hz⟩:=I.list hx
 have ae:=r.length
 refine⟨"list",_,slot_list_getitem.lookup,ht.isList.typeIs,?_⟩
 refine KF hs pl pu .none Gf ?_ (by rw[Qw]<;>exact zea ‹_› ‹_›)
 rw[zh7,←ae]
 refine⟨Gy,_,I.laid (t':=s.toks) (o:=.lst (M7 lo hi)) (λb ob q=>WG q) GV ?_,rfl,A6⟩
 exact⟨Ze (zbl xs lo hi) hz,_,0,(r.drop (QN 0 lo)).take (QN xs.length hi-QN 0 lo),SA⟩
def zdl:V→Bool
 |.non=>true
 |.bl _=>true
 |.int _=>true
 |.str _=>true
 |_=>false
def eqV:V→V→Bool
 |.non,.non=>true
 |.bl a,.bl b=>a==b
 |.bl a,.int b=>(if a then 1 else 0)==b
 |.int a,.bl b=>a==(if b then 1 else 0)
 |.int a,.int b=>a==b
 |.str a,.str b=>a==b
 |_,_=>false
def eqAt_V(ry:YD u)(rx:WJ v)(fy:zdl y=true)(fx:zdl x=true):UB u v (eqV y x):=by
 cases y with
 |non =>
  cases ry
  cases x with
  |non=>cases rx;exact SeqAt.EqAt.same _
  |bl b=>cases rx;exact SeqAt.EqAt.none_bool b
  |int b=>obtain⟨t,rfl⟩:=rx;exact SeqAt.EqAt.none_int b t
  |str b=>obtain⟨t,rfl⟩:=rx;exact SeqAt.EqAt.none_str b t
  |_=>exact absurd (show false=true from fx) Zh
 |bl a =>
  cases ry
  cases x with
  |non=>cases rx;exact SeqAt.EqAt.bool_none a
  |bl b=>cases rx;exact SeqAt.EqAt.bool_bool a b
  |int b=>obtain⟨t,rfl⟩:=rx;exact SeqAt.EqAt.bool_int a b t
  |str b=>obtain⟨t,rfl⟩:=rx;exact SeqAt.EqAt.bool_str a b t
  |_=>exact absurd (show false=true from fx) Zh
 |int a =>
  obtain⟨t',rfl⟩:=ry
  cases x with
  |non=>cases rx;exact SeqAt.EqAt.int_none a t'
  |bl b=>cases rx;exact SeqAt.EqAt.int_bool a t' b
  |int b=>obtain⟨t,rfl⟩:=rx;exact N' t' b t
  |str b=>obtain⟨t,rfl⟩:=rx;exact SeqAt.EqAt.int_str a t' b t
  |_=>exact absurd (show false=true from fx) Zh
 |str a =>
  obtain⟨t',rfl⟩:=ry
  cases x with
  |non=>cases rx;exact SeqAt.EqAt.str_none a t'
  |bl b=>cases rx;exact SeqAt.EqAt.str_bool a t' b
  |int b=>obtain⟨t,rfl⟩:=rx;exact SeqAt.EqAt.str_int a t' b t
  |str b=>obtain⟨t,rfl⟩:=rx;exact Uy a t' b t
  |_=>exact absurd (show false=true from fx) Zh
 |_=>exact absurd (show false=true from fy) Zh
def eqU(x:V)(u:Value):Bool:=match u with
 |.none=>eqV .non x
 |.bool b=>eqV (yr b) x
 |.int i _=>eqV Ew x
 |.str z _=>eqV E9 x
 |_=>false
def eqU_of(r:YD u)(f:zdl y=true):eqU x u=eqV y x:=by
 cases y with
 |non=>cases r;rfl
 |bl b=>cases r;rfl
 |int i=>obtain⟨t,rfl⟩:=r;rfl
 |str z=>obtain⟨t,rfl⟩:=r;rfl
 |_=>exact absurd (show false=true from f) Zh
theorem zg1:∀{xs:List V} {us:Nj},WD us→xs.all zdl=true→us.any Tw=xs.any λy=>eqV y x
 |_,_,.nil,_=>rfl
 |y::xs,u::us,.cons r t,f=>by
  rw[List.all_cons,Jf]at f
  rw[Kx,Kx,eqU_of r f.1,zg1 t f.2]
theorem zd2(rx:WJ v)(fx:zdl x=true):∀{xs:List V} {us:Nj},WD us→xs.all zdl=true→∀u∈us,UB u v (eqU x u)
 |_,_,.nil,_=>λu hu=>by cases hu
 |y::xs,u::us,.cons r t,f=>λu' hu=>by
  rw[List.all_cons,Jf]at f
  rcases Qf.mp hu with rfl | hu
  ·rw[eqU_of r f.1];exact eqAt_V r rx f.1 fx
  ·exact zd2 rx fx t f.2 u' hu
def inV(x:V)(xs:List V):Bool:=xs.any λy=>eqV y x
inductive RrIn(K:Na)(neg:Bool)(x:V)(y:V)(H:Hp)(Q:VK):Prop
 |mk (p:_) (xs:_) (h0:y=.ref p) (h1:(SqL K H p xs∨SqT K H p xs)) (h2:zdl x=true) (h3:xs.all zdl=true) (h4:Q (.bl (if neg then !inV x xs else inV x xs)) H):RrIn K neg x y H Q
def rIn(K:Na)(neg:Bool):R2:=λx y H Q=>RrIn K neg x y H Q
def op_in_seq:Y3 (compareOp .In) (rIn X.K false):=by
 intro a5 s σ H x y v u Q I rx ry h
 obtain⟨p,xs,rfl,hq,fx,fs,q⟩:=h
 cases ry
 rcases hq with hq | hq
 ·obtain ⟨a7,r,pl,hz⟩:=I.list hq
  refine SeqAt.in_listAt Tw pl.isList (λw hw=>BJ yz) ⟨yr _,H,I,rfl,?_⟩
  rw[show a7.toArray.any Tw=a7.any Tw by simp,zg1 r fs]
  exact q
 ·obtain ⟨a7,r,pl,hz⟩:=I.tuple hq
  refine SeqAt.in_tupleAt Tw pl (λw hw=>BJ yz) ⟨yr _,H,I,rfl,?_⟩
  rw[show a7.toArray.any Tw=a7.any Tw by simp,zg1 r fs]
  exact q
def zcz:Y3 (compareOp .NotIn) (rIn X.K true):=by
 intro a5 s σ H x y v u Q I rx ry h
 obtain⟨p,xs,rfl,hq,fx,fs,q⟩:=h
 cases ry
 rcases hq with hq | hq
 ·obtain ⟨a7,r,pl,hz⟩:=I.list hq
  refine SeqAt.notIn_listAt Tw pl.isList (λw hw=>BJ yz) ⟨yr _,H,I,rfl,?_⟩
  rw[show a7.toArray.any Tw=a7.any Tw by simp,zg1 r fs]
  exact q
 ·obtain ⟨a7,r,pl,hz⟩:=I.tuple hq
  refine SeqAt.notIn_tupleAt Tw pl (λw hw=>BJ yz) ⟨yr _,H,I,rfl,?_⟩
  rw[show a7.toArray.any Tw=a7.any Tw by simp,zg1 r fs]
  exact q
def zaq:Y4 (.builtin "len") (λxs H Q=>Ex2 λp ys=>Aj3 (xs=[Sv]) (Po∨yA) (Q Cp H)):=by
 intro a5 s σ H xs us Q I r h
 obtain⟨p,ys,rfl,hq,q⟩:=h
 obtain⟨u,rfl,rx⟩:=vals1 r
 cases rx
 have hn:=zev
 rcases hq with hq | hq
 ·obtain ⟨a7,r',pl,hz⟩:=I.list hq
  have ae:=r'.length
  exact Calls.call_len_list pl.isList (by simp only[Qw]<;>lia) ⟨Cp,H,Ru,⟨s.toks+1,by rw[Qw,ae]⟩,q⟩
 ·obtain ⟨a7,r',pl,hz⟩:=I.tuple hq
  have ae:=r'.length
  exact len_tuple pl (by simp only[Qw]<;>lia) ⟨Cp,H,Ru,⟨s.toks+1,by rw[Qw,ae]⟩,q⟩
def call_len_str:Y4 (.builtin "len") (λxs H Q=>Ex1 λz=>Aj3 (xs=[E9]) (z.length≤sizeLine) (Q (.int z.length) H)):=by
 intro a5 s σ H xs us Q I r h
 obtain⟨z,rfl,hz,q⟩:=h
 obtain⟨u,rfl,t,rfl⟩:=vals1 r
 have hn:=zev
 exact len_str Gg ⟨.int z.length,H,Ru,⟨_,rfl⟩,q⟩
def zc0:Y4 (.type "list") (λxs H Q=>Ex2 λp ys=>Aj3 (xs=[Sv]) (Po∨yA) (∀l,H l=none→Q RH (EX TX))):=by
 intro a5 s σ H xs us Q I r h
 obtain⟨p,ys,rfl,hq,q⟩:=h
 obtain⟨u,rfl,rx⟩:=vals1 r
 cases rx
 have fin:∀(a7:Nj),YK a7→ys.length≤sizeLine→∀(h':No) (c':Nat),(∀b o',s.heap.get? b=some o'→h'.get? b=some o') →
   h'.get? s.heap.objs.size=some {cls:=.type "list",dict:=none,data:=.seq a7.toArray c',slots:=#[]}→Z9 Q Gy {s with heap:=h'}:=λa7 r' hz h' c' kp e =>
  ⟨Gy,_,I.laid (t':=s.toks) kp GV (show QB _ h' _ TX from⟨hz,a7,c',r',e⟩),rfl,A6⟩
 rcases hq with hq | hq
 ·obtain ⟨a7,r',pl,hz⟩:=I.list hq
  have ae:=r'.length
  obtain⟨o,ho,hc,n,hd⟩:=pl.isList
  exact call_list_seq p Hf ho hc hd (λh' c' kp e=>fin a7 r' hz h' c' kp e) (by simp only[Qw]<;>exact zea ‹_› ‹_›)
 ·obtain ⟨a7,r',pl,hz⟩:=I.tuple hq
  have ae:=r'.length
  obtain⟨o,ho,hc,n,hd⟩:=pl
  exact call_list_seq p (RG rfl) ho hc hd (λh' c' kp e=>fin a7 r' hz h' c' kp e) (by simp only[Qw]<;>exact zea ‹_› ‹_›)
def zjc:Y4 (.type "tuple") (λxs H Q=>Ex2 λp ys=>Aj2 (xs=[Sv]) ((Aj2 Po (∀l,H l=none→Q RH (ZS l LY)))∨(Aj2 (Vj p ys) (Q Sv H)))):=by
 intro a5 s σ H xs us Q I r h
 obtain⟨p,ys,rfl,h⟩:=h
 obtain⟨u,rfl,rx⟩:=vals1 r
 cases rx
 rcases h with⟨hq,q⟩ | ⟨hq,q⟩
 ·obtain ⟨a7,r',pl,hz⟩:=I.list hq
  have ae:=r'.length
  refine call_tuple_list pl.isList (λh' kp=>?_) (by simp only[Qw]<;>exact zea ‹_› ‹_›)
  have I1:ZA H {s with heap:=h'}:=I.kept (t':=s.toks) kp
  have I2:ZA (ZS h'.objs.size LY) {s with heap:=h'.push {cls:=.type "tuple",data:=.seq a7.toArray}} :=
   I1.laid (t':=s.toks) (λb o e=>WG e) GV (show QB _ _ _ LY from⟨hz,a7,r',IsTup.new _ _⟩)
  exact⟨.ref h'.objs.size,_,I2,rfl,q _ Tt⟩
 ·obtain ⟨a7,r',pl,hz⟩:=I.tuple hq
  exact call_tuple_same pl ⟨Sv,H,I,rfl,q⟩
def tyV(K:Na)(T:String)(x:V)(H:Hp):Prop:=match x with
 |.str _=>T = "str"
 |.int _=>T = "int"
 | .ref p=>(T = "list" ∧ ∃ xs,YY p xs)∨(T = "tuple" ∧ ∃ o,K.lookup p=some o∧o.cls=.type "tuple" ∧ o.dict=none) ∨
   (T = "dict" ∧ ((∃kvs,H p=some Rp)∨∃kvs,H p=some S9))∨(T = "set" ∧ ∃S n,H p=some (.set S n))
 |_=>False
def tyV_is(I:Hb)(r:WJ v)(ty:tyV X.K T x H) :
  s.TypeIs v T∧∀a,v=.ref a→∃ob,s.heap.get? a=some ob∧ob.dict=none:=by
 cases x with
 |str z =>
  obtain⟨t,rfl⟩:=r
  cases(show T = "str" from ty)
  exact⟨typeIs_str s z t,λ_ e=>nomatch e⟩
 |int i =>
  obtain⟨t,rfl⟩:=r
  cases(show T = "int" from ty)
  exact⟨typeIs_int s i t,λ_ e=>nomatch e⟩
 | ref p =>
  cases r
  rcases ty with⟨rfl,xs,hq⟩ | ⟨rfl,o,hk,hc,hd⟩ | ⟨rfl,hk⟩ | ⟨rfl,S,n,hk⟩
  ·obtain ⟨a7,_,pl,_⟩:=I.list hq
   refine⟨pl.isList.typeIs,λa e=>?_⟩
   cases e
   obtain⟨o,n,e,c,hd,_⟩:=pl
   exact⟨o,e,hd⟩
  ·refine ⟨⟨o,yf p,hc⟩,fun a e=>?_⟩
   cases e
   exact⟨o,yf _,hd⟩
  ·have z:∃ o,s.heap.get? p=some o∧o.ExactDict:=by
    rcases hk with⟨kvs,hk⟩ | ⟨kvs,hk⟩
    ·obtain ⟨_,_,_,_,o,_,_,e,ex,_⟩:=XU hk
     exact⟨o,e,ex⟩
    ·obtain ⟨_,_,_,_,o,_,_,e,ex,_⟩:=XU hk
     exact⟨o,e,ex⟩
   obtain⟨o,e,ex⟩:=z
   refine⟨⟨o,e,ex.1⟩,λa e2=>?_⟩
   cases e2
   exact⟨o,e,ex.2.1⟩
  ·obtain ⟨o,_,_,_,e,ex,_⟩:=XU hk
   refine⟨⟨o,e,ex.1⟩,λa e2=>?_⟩
   cases e2
   exact⟨o,e,ex.2.1⟩
 |_=>exact False.elim ty
def tBM0(K:Na)(T:String)(r:V→List V→Hp→VK→Prop)(to:TE):TE:=λ σ H Q=>to σ H λx H1=>tyV K T x H1∧r x [] H1 Q
def tBM(K:Na)(T:String)(r:V→List V→Hp→VK→Prop)(to:TE)(t:TA):TE:=λ σ H Q=>to σ H λx H1=>tyV K T x H1∧t σ H1 λxs H2=>r x xs H2 Q
variable{o e:Expr}{es:Nr}{to:TE}{t:TA}{name:Str}{apos cpos:Pos}{T id:String}{r:V→List V→Hp→VK→Prop}
def pe_bm0(pa:PlainAttrs T)(slot:Slot T name id)(rK:typeOf TW=pure (.type "method_descriptor"))(hm:MtR X id r)(ho:Z7 o to)(gn:attributeBase o name X.env (Hm o)=eval o X.env:=by rfl)(fI:(apos.endLine==cpos.line)=true:=by rfl):Z7 (.Call ON [] [] cpos) (tBM0 X.K T r to):=by
 intro a5 s σ H Q I h
 refine wpAny_Call_method0_late gn fI (thn Sf λv s1 ⟨x,H1,I1,r1,ty,q1⟩=>?_)
 obtain⟨h1,h2⟩:=tyV_is I1 r1 ty
 exact⟨T,id,pa,slot,rK,h1,h2,V8 (PySem.evalArgs_none (hm a5 s1 σ H1 x [] v [] Q I1 r1 .nil q1))⟩
def ze9(pa:PlainAttrs T)(slot:Slot T name id)(rK:typeOf TW=pure (.type "method_descriptor"))(hm:MtR X id r)(ho:Z7 o to)(ha:VP (e::es) t)(gn:attributeBase o name X.env (Hm o)=eval o X.env:=by rfl)(tI:((backTo cpos (starEach (e::es) X.env)).all (fun x=>!x.1) && (backToKw cpos (keywordEach [] X.env)).all (fun x=>x.1.isSome)
   && decide ((e::es).length+([]:List Keyword).length+(if([]:List Keyword).isEmpty then 0 else 1)<30))=true:=by rfl)(fI:(apos.endLine==cpos.line)=true:=by rfl)(hs:starEach (e::es) X.env=(false,CA)::starEach es X.env:=by rfl)(jw:(backTo cpos Rw).any (·.1)=false:=by rfl) :
  PE X (.Call ON (e::es) [] cpos) (tBM X.K T r to t):=by
 intro a5 s σ H Q I h
 refine wpAny_Call_method_late gn tI fI rfl (thn Sf λv s1 ⟨x,H1,I1,r1,ty,q1⟩=>?_)
 obtain⟨h1,h2⟩:=tyV_is I1 r1 ty
 refine⟨T,id,pa,slot,rK,h1,h2,?_⟩
 have hA:=ha cpos a5 s1 σ H1 _ I1 q1
 rw[hs]at hA ⊢
 refine Calls.callWith_builtin (by show(false||(backTo cpos Rw).any (·.1))=false;rw[jw]<;>rfl) (Calls.evalArgs_plain ?_)
 exact thn hA λus s2 ⟨vs,H2,I2,r2,q2⟩=>hm a5 s2 σ H2 x vs v us Q I2 r1 r2 q2
end
end L2
namespace L2
open PySem PySem.Spec PyProof.Rows
def MtM(X:Cx)(id:String)(r:V→List V→Hp→VK→Prop):Prop :=
 ∀(a5:Nh) (s:Ni) (σ:St) (H:Hp) (x:V) (xs:List V) (v:Value) (us:Nj) (Q:VK),ZA H s→WJ v→WD us→r x xs H Q →
  wpAny Gq X.A (DI (v::us)) SY X.xe s
theorem Vals.one:∀{x:V} {us:Nj},Vals [x] us→∃u,us=[u]∧WJ u
 |_,_,.cons r .nil=>⟨_,rfl,r⟩
theorem Vals.two:∀{x y:V} {us:Nj},Vals [x,y] us→∃u v,us=[u,v]∧WJ u∧YD v
 |_,_,_,.cons r (.cons q .nil)=>⟨_,_,rfl,r,q⟩
theorem Vals.zero:∀{us:Nj},Vals [] us→us=[]
 |_,.nil=>rfl
def Vals.dropLast{xs:List V}{us:Nj}(h:WD us):Vals xs.dropLast us.dropLast:=by
 induction h with
 |nil=>exact .nil
 |cons r t ih =>
  cases t with
  |nil=>exact .nil
  |cons q t'=>exact .cons r ih
def Vals.reverse{xs:List V}{us:Nj}(h:WD us):Vals xs.reverse us.reverse:=by
 induction h with
 |nil=>exact .nil
 |cons r t ih=>rw[List.reverse_cons,List.reverse_cons];exact Vals.append ih (Rk r)
def erase_last{α:Type}(l:List α):l.eraseIdx (l.length - 1)=l.dropLast:=by
 induction l with
 |nil=>rfl
 | cons a r ih =>
  cases r with
  |nil=>rfl
  | cons b r =>
   have e:(a::b::r).length-1=((b::r).length-1)+1:=by
    have h1:(a::b::r).length=r.length+2:=rfl
    have h2:(b::r).length=r.length+1:=rfl
    assumption
   rw[e,List.eraseIdx_cons_succ,ih]
   all_goals rfl
section
variable{X:Cx}{a5:Nh}{σ:St}{H:Hp}{s:Ni}{l b:Nb}{xs ys zs:List V}
def Inv.lset{a7 its':Nj}{n:Nat}{f:Array Value→Array Value}{t':Nat}(I:Hb)(hH:H l=some Sq)(e:s.heap.get? l=some {cls:=.type "list",data:=.seq a7.toArray n})(hf:f a7.toArray=its'.toArray)(hv:YK its')(hz:ys.length≤sizeLine) :
  Inv X a5 σ (EX TX) {s with heap:=s.heap.update l (Obj.mapSeq f),toks:=t'}:=by
 have q:=PySem.IsL.update e f
 rw[hf]at q
 refine I.write (x:=l) (e:=l) (by rw[hH];exact trivial) Hf (λb' u hb hu=>(Yf s.heap (Obj.mapSeq f) Pn).trans hu) ⟨_,q⟩ ?_
 exact⟨hz,its',_,hv,q⟩
def Inv.lnew(I:Hb)(hv:YK a7)(hz:ys.length≤sizeLine) :
  Inv X a5 σ (OB TX) {s with heap:=s.heap.push {cls:=.type "list",data:=.seq a7.toArray},toks:=t'} :=
 I.laid (λ_ _ q=>WG q) GV ⟨hz,a7,0,hv,SA⟩
def Inv.fresh(I:Hb):H s.heap.objs.size=none:=I.hok.fresh GV
def Inv.lstM(I:Hb)(hH:H l=some Sq):xs.length≤sizeLine∧∃(a7:Nj) (n:Nat),WD a7∧xs.length=a7.length∧s.heap.get? l=some {cls:=.type "list",data:=.seq a7.toArray n}:=by
 obtain⟨z,a7,n,r,e⟩:=I.hok l _ hH
 exact⟨z,a7,n,r,r.length,e⟩
end
section
variable{X:Cx}
inductive RrAppend(x:V)(vs:List V)(H:Hp)(Q:VK):Prop
 |mk (l:_) (xs:_) (y:_) (h0:x=.ref l) (h1:vs=[y]) (h2:H l=some (.lst xs)) (h3:xs.length<sizeLine) (h4:Q .non (upd H l (.lst (xs++[y])))):RrAppend  x vs H Q
def rAppend:V→List V→Hp→VK→Prop:=λx vs H Q=>RrAppend  x vs H Q
def zca:MtM X "list.append" rAppend:=by
 intro a5 s σ H x vs v us Q I rx rv h
 obtain⟨l,xs,y,rfl,rfl,hH,hz,q⟩:=h
 cases rx
 obtain⟨u,rfl,ru⟩:=rv.one
 obtain⟨z,a7,n,r,hl,e⟩:=I.lstM hH
 refine call_meets F.slot_list_append ⟨_,e,rfl⟩ F.entry_list_append (BU _) (PySem.list_append l a7.toArray n u (by rw[Qw];exact zea ‹_› ‹_›)) ⟨e,?_⟩
 refine⟨.non,_,I.lset (its':=a7++[u]) hH e Gf (r.append (Rk ru)) ?_,rfl,q⟩
 rw[Qz,Uw]
 assumption
inductive RrPop(x:V)(vs:List V)(H:Hp)(Q:VK):Prop
 |mk (l:_) (xs:_) (y:_) (h0:x=.ref l) (h1:vs=[]) (h2:H l=some (.lst xs)) (h3:xs[xs.length-1]?=some y) (h4:Q y (upd H l (.lst xs.dropLast))):RrPop  x vs H Q
def rPop:V→List V→Hp→VK→Prop:=λx vs H Q=>RrPop  x vs H Q
def mt_pop:MtM X "list.pop" rPop:=by
 intro a5 s σ H x vs v us Q I rx rv h
 obtain⟨l,xs,y,rfl,rfl,hH,hy,q⟩:=h
 cases rx
 have pC:=rv.zero
 subst pC
 obtain⟨z,a7,n,r,hl,e⟩:=I.lstM hH
 obtain⟨u,hu,ru⟩:=r.get hy
 have bJ:a7.toArray[a7.toArray.size-1]?=some u:=by
  show a7.toArray[a7.length-1]?=some u
  rw[←Uk,←hl]
  exact hu
 refine call_meets F.slot_list_pop ⟨_,e,rfl⟩ F.entry_list_pop (F.args_list_pop_1 _) (MeetsSeq.list_pop_last l a7.toArray n u bJ (by rw[Qw];exact zea ‹_› ‹_›)) ⟨e,?_⟩
 refine⟨y,_,I.lset (its':=a7.dropLast) hH e ?_ r.dropLast ?_,ru,q⟩
 ·show a7.toArray.eraseIdxIfInBounds (a7.toArray.size - 1)=a7.dropLast.toArray
  rw[Qw,List.eraseIdxIfInBounds_toArray,erase_last]
 ·rw [List.length_dropLast]
  lia
def rClear:V→List V→Hp→VK→Prop:=λx vs H Q=>∃l xs,x=.ref l∧vs=[]∧H l=some Sq∧Q .non (CN l)
def zir:MtM X "list.clear" rClear:=by
 intro a5 s σ H x vs v us Q I rx rv h
 obtain⟨l,xs,rfl,rfl,hH,q⟩:=h
 cases rx
 have pC:=rv.zero
 subst pC
 obtain⟨z,a7,n,r,hl,e⟩:=I.lstM hH
 refine call_meets F.slot_list_clear ⟨_,e,rfl⟩ F.entry_list_clear (F.args_list_clear_1 _) (AutoSeq1.list_clear_list_0 l a7.toArray n (by rw[Qw];exact zea ‹_› ‹_›)) ⟨e,?_⟩
 exact⟨.non,_,I.lset (its':=[]) (ys:=[]) hH e rfl .nil RP,rfl,q⟩
inductive RrCat(x:V)(y:V)(H:Hp)(Q:VK):Prop
 |mk (l:_) (b:_) (xs:_) (zs:_) (h0:x=.ref l) (h1:y=.ref b) (h2:H l=some (.lst xs)) (h3:H b=some (.lst zs)) (h4:xs.length+zs.length≤sizeLine) (h5:∀p,H p=none→Q (.ref p) (upd H p (.lst (xs++zs)))):RrCat  x y H Q
def rCat:R2:=λx y H Q=>RrCat  x y H Q
def zgn:Y3 Iq rCat:=by
 intro a5 s σ H x y v u Q I rx ry h
 obtain⟨l,b,xs,zs,rfl,rfl,hH,hB,hz,q⟩:=h
 cases rx
 cases ry
 obtain⟨z,a7,n,r,hl,e⟩:=I.lstM hH
 obtain⟨z2,aI,n2,r2,az,e2⟩:=I.lstM hB
 refine PySem.P.add_list e e2 ?_ (by rw[Qw,Qw];lia)
 have ea:a7.toArray++aI.toArray=(a7++aI).toArray:=by simp
 rw[ea]
 exact⟨Go _,_,I.lnew (t':=s.toks) (r.append r2) (by rw[Qz];assumption),rfl,q _ I.fresh⟩
end
section
variable{prog:Nk}{w:Nl}{A:Np}{E:Nc}{s:Ni}
end
section
variable{X:Cx}
end
end L2
namespace Att
open PySem PySem.W PySem.Calls PyProof.Rows
def zgu:∀(ns:List Int) (vs:Nj),WellAll P h vs zG→KG ns:=by
 intro ns
 induction ns with
 |nil =>
  intro vs w
  rw[Xo]at w
  cases w
  exact .nil
 | cons n ns ih =>
  intro vs w
  rw[Qm]at w
  cases w with
  |cons a b =>
   cases a
   exact .cons _ _ (ih _ b)
def script_of{l:OpenLaw}{n:Nat}(hn:l.most=some n){P:Params}{h:No}{args:List WData}{iX:Nj}(hU:l.row.toRowW.claim.pre args=true)(dz:WellAll P h iX args) :
  ∃a vs ns,iX=[yL a]∧args=[WData.list zG]∧h.get? a=some {cls:=.type "list",data:=.seq vs.toArray}∧KG ns∧ns.length≤n:=by
 have rW:WShape.hasAll [] args [.list .int]=true:=(pre_splitW hU).1
 have hc:l.pre.holds [] {args:=args}=true:=(pre_splitW hU).2
 obtain⟨d,r,rfl,h1,h2⟩:=hasAllW_cons rW
 obtain rfl:=hasAllW_nil h2
 obtain⟨xs,rfl,h3⟩:=hasW_list h1
 obtain⟨ns,rfl⟩:=items_int h3
 have ae:ns.length≤n:=by
  unfold OpenLaw.pre at hc
  have h4:(WTm.not (.lt (.lit (.int (n:Int))) (.len (.arg 0)))).holds [] {args:=[.list (ns.map .int)]}=true:=by
   have h4:=(holds_andW hc).1
   rw[hn]at h4
   exact h4
  have h5:=condW_of h4 (w_not (w_lt w_lit (w_len_list (w_arg rfl))))
  rw[Qa]at h5
  refine Nat.le_of_not_lt λq=>?_
  have q':(n:Int)<((ns.length:Nat):Int):=by exact zar9 ‹_›
  first
   |(rw[decide_eq_true q']at h5;exact absurd h5 (by decide))
   |(simp at h5;lia)
 cases dz with
 |cons w1 w2 =>
  cases w2
  cases w1 with
  |list ho aW=>exact⟨_,_,ns,rfl,rfl,ho,zgu ns _ aW,ae⟩
def post_true(l:OpenLaw)(args:List WData):l.row.toRowW.claim.post args SF args=true :=
 postW_of (r:=l.row.toRowW) (X:=(true==true))
  (show WShape.has [] SF .bool=true by first | rfl | decide | simp[WShape.has,WShape.arms,WShape.armsAll])
  (show(WTm.eq .res (.lit SF)).value [] {args:=args,res:=some SF,after:=args}=some (OC (true==true)) from w_eq_bool (w_res rfl) w_lit) rfl
def attach_call{l:OpenLaw}{n:Nat}{q:Nk}{loose:Ng}{XP:(Str→Option Value)→Heap→Prop}{YP:World→Heap→Prop}{d:DefRec}(hn:l.most=some n)(oe:d.params.defaults=[])(call:∀ (w:Nl) (s₀ s₁:Ni) (mg mb:Nd) (fa:Nb) (o:Obj) (pm cd doc:Value) (a:Nb) (vs:Nj) (ns:List Int),
   Ground q loose [] XP w s₀ mg mb s₁.heap→YP w s₁.heap →
   s₁.heap.get? fa=some o→o.data=.func (docDef d.name d.params d.body d.scope pm cd doc)→s₁.heap.CodeRec cd d.name→mg d.name=some EB →
   s₁.heap.get? a=some {cls:=.type "list",data:=.seq vs.toArray}→KG ns→ns.length≤n→s₁.gens=#[] →
   codeAny (model l.prog w) callerA (.call EB ⟨[Rg],[]⟩) (λr s'=>r=.ok (.ret SF)∧OldK s₁.heap s'.heap∧s'.os=s₁.os∧AllBare s'.gens) s₁) :
  WalkO q loose XP YP l.row.toRowW d [] (λf vs=>M8 vs):=by
 intro w s₀ s₁ mg mb G Y fa o pm cd doc dV kV ho hd aD hD sL hg args iX as hU hlay hrd dz kX
 obtain rfl:dV=.none:=Dflts.none hD oe
 obtain rfl:kV=.none:=Dflts.noKw hD
 obtain⟨a,vs,ns,rfl,rfl,jC,fU,ae⟩:=script_of hn hU dz
 refine enter_call (codeAny_mono (call w s₀ s₁ mg mb fa o pm cd doc a vs ns G Y ho (fd_plain hd) aD sL jC fU ae hg) λr s' hq=>?_)
 obtain⟨rfl,h2,h3,h4⟩:=hq
 exact⟨.inl ⟨SF,SF,[],rfl,λ_=>rfl,SF,post_true l _,λ_=>⟨List.Pairwise.nil,λ_ hm=>(nomatch hm)⟩⟩,h2,h3,h4⟩
section
variable{prog:Nk}{w:Nl}{A:Np}{E:Nc}{s:Ni}{K:Frag}
end
end Att
namespace L2
open PySem PySem.Spec PyProof.Rows
theorem vals_ints:∀{vs:Nj} {ns:List Int},KG ns→Dw vs
 |_,_,.nil=>.nil
 |_,_,.cons n t h=>.cons ⟨t,rfl⟩ (vals_ints h)
def Only(H:Hp):Prop:=∀b,H b=none∨∃o xs,H b=some (.frz o Sq)
def law_call{P:Nk}{w:Nl}{K:Na}{mg mb:Nd}{CX:CXT}{k:Nat}{fa a:Nb}{fd:Nv}{x:Str}{sp:Sp}{s₁:Ni}{vs:Nj}{ns:List Int}(KX:K.In s₁.heap)(mX:s₁.heap.Ns mainGlobals mg)(hb:s₁.heap.Ns builtinsNs mb)(hbb:∀x:Str,x ≠ "__name__" → mb x=bootBuiltins x)(sU:s₁.heap.NoLimit)(hg:s₁.gens=#[])(ha:s₁.heap.get? a=some {cls:=.type "list",data:=.seq vs.toArray})(hi:KG ns)(hl:ns.length≤sizeLine)(hr:U0 callerA)(F:∀base:Heap,K.In base→base.Ns mainGlobals mg→ZD CX k fa fd [x] sp)(ou:∀(s:Shared) (u:Value),Ba ⟨[u],[]⟩ [(x,u)])(bK:∀H:Hp,Only H→YM Tx→sp [Rg] H (λv _=>v=.bl true) λ_ _ _=>False)(ua:∀H e s',CX [] H s₁ (λ_ _ _=>False) e s'→False) :
  codeAny LO callerA (.call EB ⟨[Rg],[]⟩) (λr s'=>r=.ok (.ret SF)∧OldK s₁.heap s'.heap∧s'.os=s₁.os∧AllBare s'.gens) s₁:=by
 have rv:=vals_ints hi
 have lenV:=hi.length
 have core:∀ H:Hp,Only H→YM Tx→WX s₁.heap→(∀ b,H b≠none→b=a)→(H a≠none→K.lookup a=none) →
   codeAny LO callerA (.call EB ⟨[Rg],[]⟩) (λr s'=>r=.ok (.ret SF)∧OldK s₁.heap s'.heap∧s'.os=s₁.os∧AllBare s'.gens) s₁:=by
  intro H hO hS hok hA hK
  have base_of:∀{b:Nb} {o:Obj},s₁.heap.get? b=some o→H b=none→(Bi H).get? b=some o:=λe n=>hidT_get e n
  have noA:∀{b:Nb} {o:Obj} {es:Array DictEntry} {ep:Nat},s₁.heap.get? b=some o→o.data=.dict es ep→H b=none:=λ{b o es ep} e d=>by
   cases q:H b with
   |none=>rfl
   |some u =>
    have e':b=a:=hA b (by rw[q];simp)
    subst e'
    rw[ha]at e;cases e
    have d':Data.seq vs.toArray _=Data.dict es ep:=d
    cases d'
  have nsK:∀{b:Nb} {m:Nd},s₁.heap.Ns b m→(Bi H).Ns b m:=λ{b m} ⟨o,es,ep,e,d,r⟩=>⟨o,es,ep,base_of e (noA e d),d,r⟩
  have hKb:K.In (Bi H):=λb o e=>base_of (KX b o e) (by
   cases q:H b with
   |none=>rfl
   |some u =>
    have e':b=a:=hA b (by rw[q];simp)
    subst e'
    rw[hK (by rw[q];simp)]at e;cases e)
  have hM:Mod K mg (Bi H):=⟨hKb,nsK mX,⟨mb,nsK hb,hbb⟩,let⟨mc,h1,h2⟩:=sU;⟨mc,nsK h1,h2⟩⟩
  have e0:Env0 P w K mg (Bi H) callerA [] s₁ H:=⟨rfl,hM,λb o e=>of_hidT e,Km (hidT_size _ _),trivial,λb hb=>absurd (show b∈([]:List Addr) from hb) Gf,hok,.of_eq hg⟩
  refine codeAny_mono ((F _ hKb (nsK mX)).run callerA [] s₁ H ⟨[Rg],[]⟩ [Rg] [Rg] _ _ hr e0 (ou s₁ Rg) (Rk rfl) (bK H hO hS)) λr s' h=>?_
  cases r with
  |error e=>exact(ua H e s' h).elim
  | ok fl =>
   cases fl with
   |next=>exact False.elim h
   |brk=>exact False.elim h
   |cont=>exact False.elim h
   | ret u =>
    obtain⟨v,H',os,bare,un,sE,r',q⟩:=h
    have q':v=.bl true:=q
    subst q'
    obtain rfl:u=Value.bool true:=r'
    refine⟨rfl,OldK.of_keep λb o e=>?_,os,bare⟩
    cases q:H b with
    |none=>exact un.keep b o e q (by intro z;exact absurd (show b∈([]:List Addr) from z) Gf) Gf
    | some u =>
     rcases hO b with z | ⟨ob,xs,z⟩
     ·rw[q]at z;cases z
     ·have z2:=un.frzs b ob _ z
      obtain⟨e1,_⟩:=hok b _ z
      obtain⟨e2,_⟩:=sE b _ z2
      rw[e]at e1;cases e1
      exact e2
 cases hk:K.lookup a with
 |some o =>
  have e:=KX a o hk
  rw[ha]at e
  cases e
  refine core (λ_=>none) (λ_=>.inl rfl) (RG ⟨_,vs.toArray,_,hk,rfl,rfl,rfl,by rw[Qw,lenV];exact hl,Gk rv⟩) (λb u z=>by have z':(none:Option HO)=some u:=z;cases z') (λb z=>absurd rfl z) λz=>absurd rfl z
 | none =>
  refine core (λb=>if b=a then some (.frz {cls:=.type "list",data:=.seq vs.toArray} (Gw Tx)) else none) (λb=>?_) (Rf (.inr ⟨{cls:=.type "list",data:=.seq vs.toArray},if_pos rfl⟩)) (λb u z=>?_) (λb z=>?_) λ_=>hk
  ·by_cases hb:b=a
   ·exact .inr ⟨_,_,Rv hb⟩
   ·exact .inl (Rm hb)
  ·by_cases hb:b=a
   ·have z':=(Rv hb).symm.trans z
    cases z'
    subst hb
    exact⟨ha,zm hl,vs,_,rv,ha⟩
   ·have z':=(Rm hb).symm.trans z
    cases z'
  ·by_cases hb:b=a
   ·exact hb
   ·exact absurd (Rm hb) z
end L2
namespace L2
open PySem PySem.Spec PyProof.Rows
def walk_of{l:PySem.W.OpenLaw}{n k:Nat}{q:Nk}{loose:Ng}{XP:(Str→Option Value)→Heap→Prop}{YP:World→Heap→Prop}{d:DefRec}{K:Params→PySem.W.Frag}{CX:World→CXT}{sp:World→Sp}{x:Str}(hn:l.most=some n)(bw:n≤sizeLine)(oe:d.params.defaults=[])(hr:U0 callerA)(hY:∀(w:World) (h:Heap),YP w h→(K w.params).In h)(F:∀ (w:Nl) (mg:Nd) (fa:Nb) (h:No),(K w.params).In h→h.Ns mainGlobals mg→mg d.name=some EB →
   ∃fd:FuncData,(∀(s:Ni) (u:Value),Ba ⟨[u],[]⟩ [(x,u)]) ∧
    ∀base:Heap,(K w.params).In base→base.Ns mainGlobals mg→KH (CX w) k fa fd [x] (sp w))(bK:∀(w:Nl) (H:Hp) (a:Nb) (ns:List Int),ns.length≤n→Only H→SqL Pp H a Tx→sp w [Rg] H (λv _=>v=.bl true) λ_ _ _=>False)(ua:∀(w:World) (H:Hp) (s:Shared) (e:Value) (s':Shared),CX w [] H s (λ_ _ _=>False) e s'→False) :
  PySem.W.WalkO q loose XP YP l.row.toRowW d [] (λf vs=>M8 vs):=by
 refine Att.attach_call hn oe λw s₀ s₁ mg mb fa o pm cd doc a vs ns G Y ho hd aD sL jC fU ae hg=>?_
 have KX:=hY w _ Y
 obtain⟨fd,hb,hF⟩:=F w mg fa _ KX G.T.g sL
 exact law_call KX G.T.g G.T.b G.T.builtins G.T.nolimit hg jC fU (Ze ae bw) hr hF hb (λH hO hS=>bK w H a ns ae hO hS) λH e s'=>ua w H s₁ e s'
end L2
namespace L2
open PySem PySem.Spec PyProof.Rows
def inClass(s:Stmt)(j:Nat):Stmt:=match s with
 |.ClassDef _ _ _ body _ _ _ _ _ _ _=>body.getD j (.Pass ⟨0,0,0,0⟩)
 |_=>.Pass ⟨0,0,0,0⟩
def zdf(s:Stmt):Arguments:=match s with
 |.FunctionDef _ a _ _ _ _ _ _ _ _=>a
 |_=>{posonlyargs:=[],args:=[],vararg:=none,kwonlyargs:=[],kw_defaults:=[],kwarg:=none,defaults:=[]}
def zco(s:Stmt):List Stmt:=match s with
 |.FunctionDef _ _ b _ _ _ _ _ _ _=>b
 |_=>[]
def zai(s:Stmt):Scope:=match s with
 |.FunctionDef _ _ _ _ _ _ sc _ _ _=>sc
 |_=>{kind:=.function,names:=[],isGenerator:=false,isCoroutine:=false}
abbrev CX0:CXT:=λ_ _ _ _ _ _=>False
abbrev E0:XK:=λ_ _ _=>False
def zcq:zg4 CX0 X E0:=λ_ _ _ _ _ _ _ h=>h.elim
structure Fun(K:Na)(x qual:Str)(st:Stmt)(f:Nb)(fd:Nv):Prop where
 ex:∃(oc:Value) (od:Option Addr) (kV doc pm:Value) (an:Option Addr) (cdv ct:Value) (osl:Array S0),
  fd=WZ Ty .none kV doc pm an cdv ct∧K.lookup f=some ⟨oc,od,.func fd,osl⟩∧BI cdv qual=true
 kp:YN TJ=true
section
variable{P:Nk}{w:Nl}{K:Na}{mg:Nd}{base:No}
def Fun.ok{x qual:Str}{st:Stmt}{f:Nb}{fd:Nv}{N ps:Ng}{k:Nat}{sp:Sp}(F:Ie)(S:V6 Ty)(len:∀vs H Q E,sp vs H Q E→vs.length=ps.length)(cw:∀ (cdv:Value) (A:Np) (outer:List Env) (s:Ni) (H:Hp) (vs:List V) (Q:VK) (E:XK),U0 LG→sp vs H Q E →
   ∃t,PSs (JY E).nox (zco st) t∧t {nx:=λ_ H'=>Q .non H',rt:=Q} IG H):ZB (k+1) f fd ps sp:=by
 obtain⟨oc,od,kV,doc,pm,an,cdv,ct,osl,rfl,lk,aD⟩:=F.ex
 refine fn_of lk aD S len λA outer s H vs Q E hr bK=>?_
 obtain⟨t,h,q⟩:=cw cdv A outer s H vs Q E hr bK
 exact⟨t,h.nox,q⟩
def Fun.binds{x qual:Str}{st:Stmt}{f:Nb}{fd:Nv}{ps:Ng}(F:Ie)(h:∀(kV doc pm:Value) (an:Option Addr) (cdv ct:Value) (us:Nj),us.length=ps.length→bindArgs ST ⟨us,[]⟩=pure Tn):WK fd ps []:=by
 obtain⟨oc,od,kV,doc,pm,an,cdv,ct,osl,rfl,lk,aD⟩:=F.ex
 exact .all (h kV doc pm an cdv ct)
def fun_mk{x qual:Str}{st:Stmt}{f:Nb}{oc:Value}{od an:Option Addr}{osl:Array S0}{kV doc pm cdv ct:Value}(l:K.lookup f=some ⟨oc,od,.func ST,osl⟩)(c:BI cdv qual=true)(k:YN TJ=true):QD x qual st f ST:=⟨⟨oc,od,kV,doc,pm,an,cdv,ct,osl,rfl,l,c⟩,k⟩
end
def zcd(hr:U0 A):A.units+1<cLine:=Jo (Nat.add_le_add_left (by decide:1≤64) _) hr.units
section
variable{X:Cx}
def pv(i:Nat)(hN:X.N[i]?=some x:=by rfl)(hv:B4 x:=by first | exact Or.inl rfl | exact Or.inr EC | exact Or.inr Tz)(hd:HK=false:=by decide)(aD:(x==("__classdict__" : Str))=false:=by decide):Z7 Ev (tVar i):=pe_var hN hv hd aD
end
def iteF{A B:Prop}(h:B):if false=true then A else B:=by
 rw[if_neg Zh]
 exact h
def iteT{A B:Prop}(h:A):if true=true then A else B:=by
 rw[if_pos rfl]
 exact h
def ite2{c A B:Prop}[Decidable c](h1:c→A)(h2:¬c→B):if c then A else B:=by
 by_cases h:c
 ·rw [Rv h]
  exact h1 h
 ·rw [Rm h]
  exact h2 h
section
variable{κ:Type}[DecidableEq κ]
end
end L2
end
section
namespace L2
open PySem PySem.Spec PyProof.Rows
def clOf(sc:Scope)(env:Env):List (Str×Addr):=sc.names.foldl Hu []
theorem cl_fold:∀(l:Sg (Str×NameKind)) (cs:Sg (Str×Addr)),(∀y∈l,y.2=.free→∃c,env.cells.lookup y.1=some c) →
  (forIn l cs (fun (y:Str×NameKind) (r:Sg (Str×Addr))=>(do
   let(name,kind):=y
   if(kind==.free)=true then do
    let a ←cellOf env name
    pure (SD ((name,a)::r))
   else pure (SD r):Sem (ForInStep (Sg (Str×Addr))))))=(pure (l.foldl Hu cs):Sem (Sg (Str×Addr)))
 |[],cs,_=>rfl
 | (n,k)::r,cs,h=>by
  rw[List.forIn_cons]
  have ih:=λcs=>cl_fold (env:=env) r cs λy hy=>h y Ll
  by_cases hk:(k==NameKind.free)=true
  ·obtain ⟨c,hc⟩:=h (n,k) Qb yB
   have cv:env.cells.lookup n=some c:=hc
   have e:cellOf env n=pure c:=by unfold cellOf;rw[cv]
   rw[Jm]
   dsimp only
   rw[if_pos hk,if_pos hk,e,cv]
   exact ih _
  ·rw [Jm]
   dsimp only
   rw[if_neg hk,if_neg hk]
   exact ih _
def zbw(h:∀y∈sc.names,y.2=.free→∃c,env.cells.lookup y.1=some c):closureFor sc env=pure (WL env):=by
 unfold closureFor
 have e:=cl_fold (env:=env) sc.names [] h
 exact(congrArg (λt:Sem (Sg (Str×Addr))=>t >>= λcs=>pure cs) e).trans rfl
theorem clOf_in{env:Env}{x:Str}{c:Nb}:∀(l:Sg (Str×NameKind)) (cs:Sg (Str×Addr)),(∀y∈l,y.2=.free→∃c,env.cells.lookup y.1=some c)→(∀x c,cs.lookup x=some c→env.cells.lookup x=some c) →
  (l.foldl Hu cs).lookup x=some c→env.cells.lookup x=some c
 |[],cs,_,hc,e=>hc _ _ e
 | (n,k)::r,cs,h,hc,e=>by
  rw[Jm]at e
  refine clOf_in r _ (λy hy=>h y Ll) ?_ e
  by_cases hk:(k==NameKind.free)=true
  ·obtain ⟨a,ha⟩:=h (n,k) Qb yB
   have lr:env.cells.lookup n=some a:=ha
   dsimp only
   rw[if_pos hk,lr]
   intro x c q
   rw[Uf]at q
   cases hx:x==n with
   |true =>
    rw[hx]at q
    have q':a=c:=Qn q
    have:x=n:=by simpa using hx
    rw[this,←q'];exact lr
   |false =>
    rw[hx]at q
    exact hc x c q
  ·dsimp only
   rw[if_neg hk]
   exact hc
theorem zi9{env:Env}{x:Str}:∀(l:Sg (Str×NameKind)) (cs:Sg (Str×Addr)),((x,NameKind.free)∈l∨∃c,cs.lookup x=some c) →
  ∃c,(l.foldl Hu cs).lookup x=some c
 |[],cs,h=>by
  rcases h with h | h
  ·exact absurd h Gf
  ·exact h
 | (n,k)::r,cs,h=>by
  rw[Jm]
  refine zi9 r _ ?_
  rcases h with h | ⟨c,h⟩
  ·rcases Qf.mp h with e | e
   ·obtain ⟨rfl,rfl⟩:=Uz e
    exact .inr ⟨(env.cells.lookup x).getD 0,by dsimp only;rw[if_pos Hh,List.lookup_cons];simp⟩
   ·exact .inl e
  ·refine .inr ?_
   dsimp only
   by_cases hk:(k==NameKind.free)=true
   ·rw [Rv hk,Uf]
    cases hx:x==n with
    |true=>exact⟨xc⟩
    |false=>exact⟨c,h⟩
   ·rw[if_neg hk];exact⟨c,h⟩
structure Blk(X:Cx)(sc:Scope)(M:Ng)(ix:Nu):Prop where
 kind:sc.kind=.function
 nocell:∀y∈sc.names,y.2≠.cell
 names:∀y∈sc.names,y.2=.local→sc.names.lookup y.1=some .local
 frees:∀y∈sc.names,y.2=.free→X.env.scope.names.lookup y.1=some .cell∨X.env.scope.names.lookup y.1=some .free
 len:ix.length=M.length
 nd:M.Nodup
 caps:∀(j i:Nat) (x:Str),M[j]?=some x→ix[j]?=some zF→X.N[i]?=some x∧sc.names.lookup x=some .free
def inner(ix:Nu)(σ:St):St:=ix.map λo=>match o with | none=>none | some i=>(σ[i]?).join
def zie{sc:Scope}{env:Env}{x:Str}{oz:Option Str}(hn:∀ y∈sc.names,y.2=.cell→oz=some y.1)(h:(EY sc).names.lookup x=some .cell∨(EY sc).names.lookup x=some .free):(x,NameKind.free)∈sc.names∨oz=some x:=by
 have key:∀k',k'=.cell∨k'=.free→(x,k')∈(EY sc).names→(x,NameKind.free)∈sc.names∨oz=some x:=λk' nC hm=>by
  obtain⟨⟨n,k⟩,hy,e⟩:=Qh.mp hm
  dsimp only at e
  by_cases hb:(k==NameKind.free&&env.scope.kind==.function&&env.kindOf n==some .cell)=true
  ·rw [Rv hb] at e
   obtain⟨rfl,_⟩:=Uz e
   have hk:k=.free:=by
    have:=(Bool.and_eq_true_iff.mp (Bool.and_eq_true_iff.mp hb).1).1
    simpa using this
   rw[hk]at hy
   exact .inl hy
  ·rw [Rm hb] at e
   obtain⟨rfl,rfl⟩:=Uz e
   rcases nC with q | q
   ·exact .inr (hn _ hy q)
   ·rw[q]at hy;exact .inl hy
 rcases h with h | h
 ·exact key _ Hf (Wl h)
 ·exact key _ (RG rfl) (Wl h)
def ocl(oz:Option Str)(C:Nb)(cl:List (Str×Addr)):List (Str×Addr):=match oz with
 |none=>cl
 |some z=>(z,C+1)::cl
def och(oz:Option Str)(h:No):Heap:=match oz with
 |none=>h
 |some _=>h.push {cls:=.type "cell",data:=.cell none}
structure BlkG(X:Cx)(sc:Scope)(oz:Option Str)(M:Ng)(ix:Nu):Prop where
 kind:sc.kind=.function
 own:∀y∈sc.names,y.2=.cell→oz=some y.1
 one:∀n cl,cellsFrom (n+1) sc.names cl=KI n cl
 psh:∀h,pushCells h sc.names=DJ h
 zc:∀z,oz=some z→sc.names.lookup z=some .cell
 names:∀y∈sc.names,y.2=.local→sc.names.lookup y.1=some .local
 frees:∀y∈sc.names,y.2=.free→X.env.scope.names.lookup y.1=some .cell∨X.env.scope.names.lookup y.1=some .free
 len:ix.length=M.length
 nd:M.Nodup
 caps:∀(j i:Nat) (x:Str),M[j]?=some x→ix[j]?=some zF→X.N[i]?=some x∧sc.names.lookup x=some .free
theorem zjb:∀{l:List (Str×NameKind)} (_:∀y∈l,y.2≠.cell),(∀n cl,cellsFrom n l cl=cl)∧∀h,pushCells h l=h
 |[],_=>⟨GD,λ_=>rfl⟩
 |(a,k)::t,h=>by
  obtain⟨h1,h2⟩:=zjb λy hy=>h y Ll
  have hk:(k==NameKind.cell)=false:=beq_eq_false_iff_ne.mpr (h (a,k) Qb)
  exact⟨λn cl=>by unfold cellsFrom;rw[hk];exact h1 n cl,λg=>by unfold pushCells;rw[hk];exact h2 g⟩
def Blk.g{X:Cx}{sc:Scope}{M:Ng}{ix:Nu}(B:W5 ix):BlkG X sc none M ix :=
 ⟨B.kind,λy hy h=>absurd h (B.nocell y hy),λn cl=>(zjb B.nocell).1 _ cl,(zjb B.nocell).2,λ_ h=>(by cases h),B.names,B.frees,B.len,B.nd,B.caps⟩
def ze2(X:Cx)(sc:Scope)(oz:Option Str)(M:Ng)(C:Nb)(a5:Nh)(ex:Nn)(s:Ni)(H:Hp):Cx :=
 {X with N:=M,s₀:=s,H₀:=H,env:=compEnvC sc (KI C Sw) C X.env,outer:=X.stack,ex:=ex,fn:=λx=>oz==some x,pn:=X.pn++a5,xe:=λ_ _=>False}
abbrev zb1(X:Cx)(sc:Scope)(M:Ng)(C:Nb)(a5:Nh)(ex:Nn)(s:Ni)(H:Hp):Cx:=ze2 X sc none M C a5 ex s H
section
variable{M:Model}{A:Np}{E:Nc}{s:Ni}
def newEnv_own{sc:Scope}{g:Nb}{cl:List (Str×Addr)}{q:Str}{env:Env}{oz:Option Str}{Q:Env→Shared→Prop}(one:∀n cl,cellsFrom (n+1) sc.names cl=KI n cl)(psh:∀h,pushCells h sc.names=DJ h)(hQ:Q (newEnv sc s.heap.objs.size g (KI s.heap.objs.size cl) q none .none (Gz env) builtinsNs) {s with heap:=DJ (s.heap.push {cls:=.type "dict",data:=.dict #[]})}) :
  wpAny M A (newFunctionEnv sc g cl [] q none .none (Gz env)) Q E s:=by
 simp only[newFunctionEnv,Option.isSome_some,if_true]
 refine wpAny_bind (wpAny_alloc ?_)
 refine wpAny_bind (wpAny_layCells _ (λname kind cells=>by cases hkc:kind==NameKind.cell<;>simp[hkc]) _ _ _ _ ?_)
 rw[psh,show({s with heap:=s.heap.push {cls:=.type "dict",data:=.dict #[]}}:Shared).heap.objs.size=s.heap.objs.size+1 from Wp ..,one]
 exact wpAny_pure hQ
end
section
variable{X:Cx}{sc:Scope}{oz:Option Str}{M:Ng}{ix:Nu}{a5:Nh}{σ:St}{H:Hp}{s:Ni}
def BlkG.clos(B:XF ix)(I:Hb):∀y∈sc.names,y.2=.free→∃c,X.env.cells.lookup y.1=some c:=λy hy hf =>
 I.ok.has y.1 (by rcases B.frees y hy hf with z | z;exact .inl z;exact .inr z)
def Blk.clos(B:W5 ix)(I:Hb):∀y∈sc.names,y.2=.free→∃c,X.env.cells.lookup y.1=some c:=B.g.clos I
def inv_blkG{ex:Nn}{s':Ni}{C:Nb}(B:XF ix)(I:Hb)(hx:∀ b∈ex,QY b)(ad:∀ b∈ex,b < s.heap.objs.size)(hC:C=s.heap.objs.size)(hn:s'.heap.Ns C λ_=>none)(hz:∀z,oz=some z→s'.heap.IsCell (C+1) none)(hk:∀b o,s.heap.get? b=some o→s'.heap.get? b=some o)(hg:s'.gens=s.gens)(ho:s'.os=s.os):Inv IX [] EZ H s':=by
 have cls:=B.clos I
 have cin:∀x c,(WL X.env).lookup x=some c→X.env.cells.lookup x=some c:=λx c e=>clOf_in sc.names [] cls (λ_ _ z=>by cases z) e
 have cne:∀x c,(WL X.env).lookup x=some c→c<s.heap.objs.size:=λx c e=>by
  obtain⟨v,q⟩:=JO (cin x c e)
  exact q.lt
 have zne:∀c:Addr,c<s.heap.objs.size→c≠C+1:=λc h e=>by
  rw[e,hC]at h;exact absurd (Ku h) E6
 have zin:∀x c,(KI C Sw).lookup x=some c→(oz=some x∧c=C+1)∨oz≠some x∧(WL X.env).lookup x=some c:=λx c e=>by
  cases oz with
  |none=>exact .inr ⟨λz=>(by cases z),e⟩
  |some zn =>
   have e:((zn,C+1)::WL X.env).lookup x=some c:=e
   rw[Uf]at e
   cases q:x==zn with
   |true=>rw[q]at e;exact .inl ⟨by rw[eq_of_beq q],(Qn e).symm⟩
   |false=>rw[q]at e;exact .inr ⟨λz=>(by rw[Qn z,beq_self_eq_true]at q;cases q),e⟩
 have zout:∀x c,oz≠some x→(WL X.env).lookup x=some c→(KI C Sw).lookup x=some c:=λx c hx e=>by
  cases oz with
  |none=>exact e
  |some zn =>
   show((zn,C+1)::WL X.env).lookup x=_
   rw[Uf,beq_eq_false_iff_ne.mpr λz=>hx (by rw[z])];exact e
 refine⟨⟨I.ok.mod,?_,I.ok.glob,I.ok.blt,?_,λx y c h1 h2=>?_,λx hx=>?_,λx c h e=>?_,I.ok.hd,I.ok.frames,Hf,λb hb=>?_,I.bs,?_,λb o e hb=>?_,λb hb=>?_,I.stack,I.stkFree⟩,
  ?_,?_,Un.kept hk,⟨_,hn,λj x v e1 e2 e3=>?_⟩,λx c e=>?_,?_,λx c e=>?_,λp hp=>?_,I.hok.kept hk,?_⟩
 ·show (relabel sc X.env).kind=.function
  exact B.kind
 ·show s.heap.objs.size≤C
  rw[hC];exact Qg _
 ·rcases zin x c h1 with ⟨a,b⟩ | ⟨_,a⟩ <;> rcases zin y c h2 with ⟨a',b'⟩ | ⟨_,a'⟩
  ·exact Qn (a.symm.trans a')
  ·exact absurd b (zne c (cne y c a'))
  ·exact absurd b' (zne c (cne x c a))
  ·exact I.ok.inj x y c (cin x c a) (cin y c a')
 ·by_cases q:oz=some x
  ·exact⟨C+1,by show(KI C Sw).lookup x=_;rw[q];show((x,C+1)::WL X.env).lookup x=_;rw[Uf,beq_self_eq_true]⟩
  ·obtain ⟨c,hc⟩:=zi9 (env:=X.env) sc.names [] (Rf ((zie B.own hx).resolve_right q))
   exact⟨c,zout x c q hc⟩
 ·have h':oz=some x:=by
   have:(oz==some x)=true:=h
   exact eq_of_beq this
  rcases zin x c e with⟨_,b⟩ | ⟨b,_⟩
  ·show s.heap.objs.size≤c
   rw[b,hC];exact Um _
  ·exact absurd h' b
 ·have:=ad b hb
  refine⟨λz=>?_,λx c e=>(zin x c e).elim (λq h=>zne b this (h.symm.trans q.2)) λe=>(hx b hb).2.2.2.2.1 x c (cin x c e.2)⟩
  have z':b=C:=z
  rw[z',hC]at this
  exact Yu _ this
 ·exact N5 I.sz
 ·rcases (hx b hb).2.2.2.1 with z | z
  ·exact ME e z
  ·have h1:b < X.base.objs.size:=Qv e
   have h2:=I.ok.bsz
   have h3:X.s₀.heap.objs.size≤b:=z
   exact absurd (Zw h1 (Ze h2 h3)) E6
 ·intro z
  rcases Qf.mp (DE z) with q | q
  ·exact(hx b hb).2.1 q
  ·exact(hx b hb).2.2.1 q
 ·exact ho
 ·rw[hg];exact I.bare
 ·have hj:∃ i,ix[j]?=some zF∧σ[i]?=some zx:=by
   unfold inner at e2
   rw[Qo]at e2
   cases q:ix[j]? with
   |none=>rw[q]at e2;cases e2
   | some o =>
    rw[q]at e2
    cases o with
    |none=>cases e2
    |some i =>
     have qq:(σ[i]?).join=some v:=Qn e2
     cases q2:σ[i]? with
     |none=>rw[q2]at qq;cases qq
     |some w=>rw[q2]at qq;exact⟨i,rfl,by rw[q2];exact congrArg some qq⟩
  obtain⟨i,hi,hσ⟩:=hj
  obtain⟨hN,bu⟩:=B.caps j i x e1 hi
  have hm:=Wl bu
  have df:=B.frees (x,.free) hm rfl
  obtain⟨m,_,hl⟩:=I.loc
  obtain⟨u,ru,lk⟩:=hl i x v hN hσ (by rcases df with z | z;exact .inr (Rf z);exact .inr (RG z))
  refine⟨u,ru,.inr ?_⟩
  obtain⟨c,hc⟩:=zi9 (env:=X.env) sc.names [] (Rf hm)
  have cv:=cin x c hc
  have lk2:s.heap.IsCell c (Gz u):=by
   rcases lk with⟨k,_⟩ | ⟨_,c',e',z⟩
   ·have k':X.env.scope.names.lookup x=some .local:=k
    rcases df with q | q<;>(rw[show X.env.scope.names.lookup x=_ from q]at k';cases k')
   ·rw[cv]at e';cases e';exact z
  refine⟨?_,c,zout x c (λq=>by rw[B.zc x q]at bu;cases bu) hc,?_⟩
  ·have e3':Vis (relabel sc X.env) x:=e3
   rcases e3' with z | z | z
   ·exfalso
    have:=@lookup_relabel_local
    have db:∀(l:List (Str×NameKind)),l.lookup x=some .free→(l.map λ(y:Str×NameKind)=>match y with | (n,k)=>if(k==NameKind.free&&X.env.scope.kind==.function&&X.env.kindOf n==some .cell) then(n,NameKind.cell) else(n,k)).lookup x≠some .local:=by
     intro l
     induction l with
     |nil=>intro h;cases h
     | cons y r ih =>
      obtain⟨n,k⟩:=y
      intro h
      rw[Uf]at h
      rw[Qm]
      dsimp only
      by_cases hb:(k==NameKind.free&&X.env.scope.kind==.function&&X.env.kindOf n==some .cell)=true
      ·rw [Rv hb,Uf]
       cases hx:x==n with
       |true=>intro q;cases q
       |false=>rw[hx]at h;exact ih h
      ·rw [Rm hb,Uf]
       cases hx:x==n with
       |true =>
        rw[hx]at h
        intro q
        have h':k=NameKind.free:=Qn h
        have q':k=NameKind.local:=Qn q
        rw[h']at q';cases q'
       |false=>rw[hx]at h;exact ih h
    exact db sc.names bu z
   ·exact .inl z
   ·exact .inr z
  ·obtain ⟨o,cS,ie⟩:=lk2
   exact⟨o,hk c o cS,ie⟩
 ·rcases zin x c e with ⟨a,b⟩ | ⟨_,b⟩
  ·rw[b];exact⟨none,hz x a⟩
  ·obtain ⟨v,o,cS,ie⟩:=JO (cin x c b)
   exact⟨v,o,hk c o cS,ie⟩
 ·show H C=none
  rw[hC]
  exact I.hok.fresh GV
 ·rcases zin x c e with ⟨_,b⟩ | ⟨_,b⟩
  ·rw[b];exact I.hok.fresh (by rw[hC];exact Um _)
  ·exact JW (cin x c b)
 ·have eV:p∈X.pn++a5:=by
   have:p∈(X.pn++a5)++[]:=hp
   rwa[Zx]at this
  obtain⟨e,n,ne,nf,d⟩:=Bu eV
  refine⟨hk _ _ e,n,?_,λz=>?_,d⟩
  ·intro z
   have z':p.1=C:=z
   have:=Qv e
   rw[z',hC]at this
   exact Yu _ this
  ·rcases Qf.mp (I.stkSub _ z) with q | q
   ·exact ne q
   ·exact nf q
 ·unfold inner
  rw[Qa]
  exact B.len
def inv_blk(B:W5 ix)(I:Hb)(hx:∀b∈ex,QY b)(ad:∀b∈ex,b<s.heap.objs.size)(hC:C=s.heap.objs.size)(hn:s'.heap.Ns C λ_=>none)(hk:∀b o,s.heap.get? b=some o→s'.heap.get? b=some o)(hg:s'.gens=s.gens)(ho:s'.os=s.os):Inv zH [] EZ H s':=inv_blkG B.g I hx ad hC hn (λ_ h=>by cases h) hk hg ho
def PTs(X:Cx)(ifs:Nr)(t:TT):Prop :=
 ∀(a5:Nh) (s:Ni) (σ:St) (H:Hp) (Q:Bool→Hp→Prop),ZA H s→t σ H Q →
  wpAny Gq X.A (forIn ifs true λc r=>if r=true then do let ok ←isTrue c X.env (Hm c);pure (SD ok) else pure (SD r)) (V3 Q) X.xe s
def tAll:TT:=λ_ H Q=>Q true H
def zc2:PTs X [] tAll:=λ_ _ _ H _ I h=>wpAny_tests_nil ⟨H,I,h⟩
def zcs(h:VN c t):PTs X [c] t:=λa5 s σ H Q I q=>wpAny_tests_one (Ld Q q)
def compLoop_any{prog:Nk}{w:Nl}{A:Np}{s:Ni}{elt target iter:Expr}{ifs:Nr}{scope:Scope}{pos:Pos}{it af:Value}{env:Env}{R:Nw}(I:Nat→Shared→Prop)(turn:∀ n s,I n s→wpAny (model prog w) A (pyNext it) (fun r s₁=>match r with
   |none=>R LP s₁
   | some v=>ZG SN (fun _ s₁'=>ZG TN (fun _ s₂ =>
     wpAny GJ A Hs (λok s₃ =>
      if ok=true then ZG (LI elt) (λx s₄ =>
       wpAny GJ A (call (.builtin "list.append") [af,x]) (λ_ s₅=>∃m,m<n∧I m s₅) Ho s₄) Ho s₃
      else ∃m,m<n∧I m s₃) Ho s₂) Ho s₁') Ho s₁) Ho s)(n:Nat)(h:I n s):codeAny GJ A (Td (.ListComp elt [⟨target,iter,ifs,0⟩] scope pos) 0 af) R s:=by
 refine codeAny_loop rfl I (λn s hI=>?_) n h
 show ZV A ((Oq (.ListComp elt [⟨target,iter,ifs,0⟩] scope pos) 0 af).onRaise (λx=>do noteFrame x env;theTreesLotGoes x)) _ _ s
 refine wpAny_noted ?_
 rw[compTurn_list]
 refine wpAny_bind (wpAny_standAt (wpAny_bind (UQ (λr s₁ h₁=>?_) λ_ _ h'=>h'.elim)))
 cases r with
 |none=>exact wpAny_pure h₁
 | some v =>
  refine wpAny_bind (J5 (λ_ s₁' h₁'=>?_) λ_ _ h'=>h'.elim)
  refine wpAny_bind (BK (λ_ s₂ h₂=>wpAny_bind (J6 (λok s₃ h₃=>?_) λ_ _ h'=>h'.elim)) λ_ _ h'=>h'.elim)
  cases ok with
  |false=>exact wpAny_pure ⟨rfl,h₃⟩
  |true =>
   exact wpAny_bind (wpAny_bind (B5 (λx s₄ h₄=>wpAny_bind (VS (λ_ s₅ h₅=>wpAny_pure (wpAny_pure ⟨rfl,h₅⟩)) λ_ _ h'=>h'.elim)) λ_ _ h'=>h'.elim))
def rLC(g:TG)(tc:TT)(te:TE)(Q:VK)(J:It)(τ:St)(H1:Hp):Prop:=∃W:Nat→Nat→List V→St→Hp→Prop,(∃m,W 0 m [] τ H1)∧∀i m ys τ H,W i m ys τ H →
 (KZ H∧∀D,H D=none→Q Sz (ZS D TX)) ∨
 (M3 H∧ys.length<sizeLine∧∀x H',Bv H'→g x τ H' λ τ2 H2=>tc τ2 H2 λb H3=>if b=true then te τ2 H3 λy H4=>∃m',m'<m∧W Hj m' (ys++[y]) τ2 H4 else ∃m',m'<m∧W Hj m' ys τ2 H3)
def tLC(ix:Nu)(wi:TI)(g:TG)(tc:TT)(te:TE):TE:=λ σ H Q=>wi σ H λJ H1=>BL H1
def lc_blockG{tg elt iter:Expr}{ifs:Nr}{pos:Pos}{g:TG}{tc:TT}{te:TE}{fp:Nn}{it:Nb}{tn:Nat→Heap→Prop}{J:It}{Q:VK}{RR:Value→Addr→Result→Shared→Prop}{E:Nc}(B:XF ix)(hc:X.calm=true)(hg:∀C ex s H,PG IX tg g)(ht:∀C ex s H,PTs IX ifs tc)(he:∀C ex s H,PE IX elt te)(I:Hb)(T:YQ tn)(h0:IP)(hf:∀b∈fp,QY b)(q:BL H)(jZ:HV) :
  wpAny Gq X.A (newList []) (λaf s₃=>ZE HC (λcenv s₄ =>
   codeAny Gq X.A (.compStart Hl 0 SC af {cenv with scope:=relabel sc X.env}) Le s₄) E s₃) E s:=by
 refine wpAny_newObj_type (newEnv_own B.one B.psh ?_)
 dsimp only
 generalize hD:s.heap.objs.size=D
 generalize dj:s.heap.push {cls:=.type "list",dict:=none,data:=.seq ([]:List Value).toArray}=g2
 generalize nN:DJ (g2.push {cls:=.type "dict",data:=.dict #[]})=h₁
 have kp:∀(q:No) (b:Nb) (o:Obj),q.get? b=some o→(DJ q).get? b=some o:=λq b o e=>by
  cases oz with
  |none=>exact e
  |some _=>exact WG e
 have hns₁:h₁.Ns g2.objs.size (λ_=>none):=nN▸(Heap.Ns.new g2 (.type "dict")).keeps λb o e=>kp _ b o e
 have hz₁:∀z,oz=some z→h₁.IsCell (g2.objs.size+1) none:=λz ez=>by
  have e:(g2.push {cls:=.type "dict",data:=.dict #[]}).objs.size=g2.objs.size+1:=Wp ..
  rw[←nN,←e,ez]
  exact⟨_,SA,rfl⟩
 have hC:g2.objs.size=D+1:=by rw[←dj,Wp,hD]
 have k2:∀b o,s.heap.get? b=some o→g2.get? b=some o:=λb o e=>by rw[←dj];exact WG e
 have I3:ZA H {s with heap:=g2}:=I.kept (t':=s.toks) k2
 have HD:H D=none:=I.hok.fresh IH
 have fD:QY D:=I.fpOk IH HD
 have D2:g2.get? D=some {cls:=.type "list",dict:=none,data:=.seq ([]:List Value).toArray}:=by rw[←dj,←hD];exact JH rfl
 have k1:∀b o,g2.get? b=some o→h₁.get? b=some o:=λb o e=>nN▸kp _ b o LZ
 have fpx:∀b∈D::fp,QY b:=λb hb=>by
  rcases Qf.mp hb with e | e
  ·rw[e];exact fD
  ·exact Fw e
 have fplt:∀b∈D::fp,b<g2.objs.size:=λb hb=>by
  rcases Qf.mp hb with e | e
  ·rw[e,hC];exact Yz _
  ·obtain ⟨o,q,_⟩:=WY h0 b e
   exact Qv zI
 have fpD:D∉fp:=λhm=>by
  obtain⟨o,q,_⟩:=WY h0 D hm
  have:=Qv q
  rw[hD]at this
  exact Yu _ this
 generalize ak:ze2 X sc oz M g2.objs.size a5 (D::fp) {s with heap:=g2} H=Y
 have IY:Y8 [] EZ H {s with heap:=h₁,toks:=s.toks+([]:List (Str×Value)).length}:=by
  rw[←ak]
  exact inv_blkG B I3 fpx fplt rfl hns₁ hz₁ k1 rfl rfl
 have Yg:=ak▸hg g2.objs.size (D::fp) {s with heap:=g2} H
 have Yt:=ak▸ht g2.objs.size (D::fp) {s with heap:=g2} H
 have Ye:=ak▸he g2.objs.size (D::fp) {s with heap:=g2} H
 have eP:Y.prog=X.prog:=by rw[←ak];rfl
 have eW:Y.w=X.w:=by rw[←ak];rfl
 have eK:Y.K=X.K:=by rw[←ak];rfl
 have eA:Y.A=X.A:=by rw[←ak];rfl
 have eC:Y.calm=true:=by rw[←ak];exact hc
 have eE:Y.env=compEnvC sc zh g2.objs.size X.env:=by rw[←ak];rfl
 have eX:Y.xe=λ_ _=>False:=by rw[←ak];rfl
 have eEx:Y.ex=D::fp:=by rw[←ak];rfl
 have eFs:Y.fs=frs X.stack:=by rw[←ak];rfl
 have ePn:Y.pn=X.pn++a5:=by rw[←ak];rfl
 have eL:Y.env.locals=g2.objs.size:=by rw[eE];rfl
 have oP:Y.H₀=H:=by rw[←ak];rfl
 have iU:Y.s₀={s with heap:=g2}:=by rw[←ak];rfl
 have fY:∀{H':Hp} {pl:Nh} {b:Nb},b∈D::fp→H' b=none→(∀p∈pl,p.1≠b)→KJ pl H' b:=λ{H' pl b} hb hn hp=>by
  obtain⟨f0,f1,f2,f3,f4,f5⟩:=fpx b hb
  refine⟨hn,?_,?_,Rf LQ,Da LQ |>.2,λp eV=>?_⟩
  ·rw[eL];exact Zi Az
  ·rw [eFs]
   intro z
   rcases Qf.mp (Db z) with q | q
   ·exact f1 q
   ·exact f2 q
  ·rw [ePn] at eV
   rcases Qk.mp eV with z | z
   ·exact f5 p z
   ·exact hp p z
 obtain⟨W,⟨m0,w0⟩,turn⟩:=q
 have loop:∀ sN:Shared,sN={ s with heap:=h₁,toks:=s.toks+([]:List (Str×Value)).length } →
   codeAny Gq X.A (Pq Hl SC (LF zh)) CC sN:=by
  rintro sN rfl
  refine compLoop_any (λn s'=>Ex6 λi τ H' ys a7 k=>Aj7 (Y8 [] τ H' s') Lq (∀b∈D::fp,H' b=none) (s'.heap.get? D=some {cls:=.type "list",data:=.seq (a7:Nj).toArray k}) yC (ys.length≤sizeLine) L0) ?_ m0
   ⟨0,EZ,H,[],[],0,IY,Q5 h0 λb _ o e=>k1 b o Cd,λb hb=>(fpx b hb).1,k1 _ _ D2,.nil,RP,w0⟩
  rintro n s5 ⟨i,τ,H5,ys,a7,k,I5,t5,n5,d5,v5,z5,w5⟩
  have oD:∀{s':Ni} {its':Nj} {k':Nat},s'.heap.get? D=some {cls:=.type "list",data:=.seq its'.toArray k'}→∀b∈[D],∃o,s'.heap.get? b=some o∧∀v,o.data≠.cell v:=λ{s' its' k'} e b hb=>by
   rw[Qc.mp hb]
   exact⟨_,e,λv z=>by cases z⟩
  have eI:Y8 ([]++zbh [D] s5.heap) τ H5 s5:=I5.pinned (λb hb=>fY (by rw[Qc.mp hb];exact Qb) (n5 b (by rw[Qc.mp hb];exact Qb)) Gf) (oD d5)
  have pD:∀p∈zbh [D] s5.heap,p.1=D∧p.2={cls:=.type "list",data:=.seq a7.toArray k}:=λp hp=>by
   obtain⟨e1,e2⟩:=zc8 hp
   have eG:p.1=D:=Qc.mp e1
   rw[eG,d5]at e2
   exact⟨eG,(Qn e2).symm⟩
  have fN:∀{H':Hp},(∀b∈fp,H' b=none)→∀b∈fp,KJ ([]++zbh [D] s5.heap) H' b:=λhn b hb=>fY TB Iu λp hp z=>by
   rw[Wy]at hp
   rw[(pD p hp).1]at z
   exact fpD (z▸hb)
  rcases Bz w5 with⟨stop,qn⟩ | ⟨go,zl,step⟩
  ·have h6:=U4 (fun _ _=>False) eI (fN fun b hb=>n5 b TB) t5 stop
   rw[eA]at h6
   refine thn h6 λr s6 ⟨hr,I6⟩=>?_
   subst hr
   have d6:s6.heap.get? D=some {cls:=.type "list",data:=.seq a7.toArray k}:=by
    have hp:=za9 (fp:=[D]) RU d5
    exact(I6.pin (D,_) Pr).1
   have H5D:H5 D=none:=n5 D Qb
   obtain⟨mL,nL,_⟩:=I6.loc
   rw[eL]at nL
   have CD:g2.objs.size≠D:=by rw[hC];exact Xf _
   refine jZ D _ mL ys H5 s6 ?_ zJ nL ?_ (by rw[hC,hD];exact Yz _)
   ·have u6:=I6.base
    rw[eFs,eEx,oP,iU]at u6
    refine I3.call' (ch:=D::fp) (I6.os.trans (by rw[iU])) ⟨u6.keep,u6.slot,λb o e n hx=>?_,u6.there,λb xs e=>?_,λb o u e=>?_,λb ps e=>?_⟩ ?_ I6.bare λb hb=>?_
    ·rw[zaf (λz=>hx O3)];exact u6.free b o e n hx
    ·rw[zaf Ce];exact u6.tups b xs e
    ·rw[zaf Ce];exact u6.frzs b o u e
    ·rw[zaf Ce];exact u6.tbls b ps e
    ·have iw:=I6.hok
     rw[eP,eW]at iw
     intro b u e
     by_cases hb:b=D
     ·subst hb
      rw[zab]at e
      cases e
      exact⟨z5,a7,k,v5,d6⟩
     ·rw [Iz] at e
      exact(iw b u e).stay (λc v _ q=>q) (λc q=>by rw[zaf ED];exact q) λc xs q=>by rw[zaf ED];exact q
    ·obtain ⟨f0,f1,f2,f3,f4,f5⟩:=fpx b hb
     exact⟨f3,f1,f4,f5⟩
   ·rw [zaf CD]
    have:=I6.free
    rw[eL]at this
    exact this
  ·have h6:=U5 (fun _ _=>False) eI (fN fun b hb=>n5 b TB) t5 go
   rw[eA]at h6
   refine thn h6 λr s6 ⟨u,hr,h7⟩=>?_
   subst hr
   refine thn h7 λ_ s7 ⟨x,H7,I7,r7,y7,t7,n7⟩=>?_
   have kj:=BA yD
   have h8:=Yg _ s7 τ H7 x u _ kj r7 yE
   rw[eP,eW,eA,eX,eE]at h8
   refine thn h8 λ_ s8 ⟨τ8,H8,I8,q8⟩=>?_
   have h9:=Yt _ s8 τ8 H8 _ I8 q8
   rw[eP,eW,eA,eX,eE]at h9
   refine thn h9 λok s9 ⟨H9,I9,q9⟩=>?_
   have again:∀{τ':St} {H':Hp} {s':Ni},Y8 (([]++zbh [D] s5.heap)++Bh s7.heap) τ' H' s'→s'.heap.get? D=some {cls:=.type "list",data:=.seq a7.toArray k}∧H' D=none∧tn Hj s'.heap∧∀b∈fp,H' b=none:=λ{τ' H' s'} I'=>by
    have pp:∀{b:Nb} {o:Obj},b∈fp→s7.heap.get? b=some o→s'.heap.get? b=some o∧H' b=none:=λ{b o} hb e =>
     let z:=I'.pin (b,o) S8
     ⟨z.1,z.2.1⟩
    have hp:=za9 (fp:=[D]) RU d5
    have z:=I'.pin (D,_) Pf
    refine⟨z.1,z.2.1,Q5 t7 λb hb o e=>(pp hb e).1,λb hb=>?_⟩
    obtain⟨o,e,_⟩:=WY t7 b hb
    exact(pp hb e).2
   have drop:∀{pl:Nh} {τ':St} {H':Hp} {s':Ni},Y8 pl τ' H' s'→Y8 [] τ' H' s':=λI'=>I'.pins_of Gf
   cases ok with
   |false =>
    rw[if_neg Gj]at q9 ⊢
    obtain⟨m',hm,w9⟩:=q9
    obtain⟨d9,H9D,t9,n9⟩:=again I9
    exact⟨m',hm,i+1,τ8,H9,ys,a7,k,drop I9,t9,λb hb=>(yq hb).elim (λe=>e▸H9D) (n9 b),d9,v5,z5,w9⟩
   | true =>
    rw[if_pos rfl]at q9 ⊢
    have gL:=Ye _ s9 τ8 H9 _ I9 q9
    rw[eP,eW,eA,eX,eE]at gL
    refine thn gL λy cK ⟨yv,gq,gp,kr,m',hm,qA⟩=>?_
    obtain⟨kh,H10D,cJ,qW⟩:=again gp
    refine call_meets F.slot_list_append ⟨_,kh,rfl⟩ F.entry_list_append (BU _) (KK (by rw[Qw,←v5.length];assumption)) ⟨kh,?_⟩
    have q:=Dx (λa=>a.push y)
    have uj:zp=(a7++[y]).toArray:=by simp
    rw[uj]at q
    have kk:∀b o,b≠D→cK.heap.get? b=some o→(cK.heap.update D (Obj.mapSeq λa=>a.push y)).get? b=some o:=λb o hb e=>(Yf cK.heap (Obj.mapSeq λa=>a.push y) Pn).trans e
    obtain⟨g0,g1,g2',g3,g4,g5⟩:=fY (pl:=[]) (H':=gq) (b:=D) Qb H10D Gf
    have lD:=(drop gp).turned (h':=cK.heap.update D (Obj.mapSeq λa=>a.push y)) (t':=cK.toks) (it:=D) kk H10D g1 g3 g4 g5
    exact⟨m',hm,i+1,τ8,gq,ys++[yv],a7++[y],_,lD,Q5 cJ λb hb o e=>kk b o (λz=>fpD (z▸hb)) e,λb hb=>(yq hb).elim (λe=>e▸H10D) (qW b),q,v5.append (Rk kr),
     by rw[Qz,Uw];assumption,qA⟩
 exact codeAny_compStart_list EE (BM (Q5 h0 λb _ o e=>k1 b o Cd) EE)
def lc_block{tg elt iter:Expr}{ifs:Nr}{pos:Pos}{g:TG}{tc:TT}{te:TE}{fp:Nn}{it:Nb}{tn:Nat→Heap→Prop}{J:It}{Q:VK}{RR:Value→Addr→Result→Shared→Prop}{E:Nc}(B:W5 ix)(hc:X.calm=true)(hg:∀C ex s H,UI g)(ht:∀C ex s H,YR tc)(he:∀C ex s H,UJ elt te)(I:Hb)(T:YQ tn)(h0:IP)(hf:∀b∈fp,QY b)(q:BL H)(jZ:HV) :
  wpAny Gq X.A (newList []) (λaf s₃=>ZE HC (λcenv s₄ =>
   codeAny Gq X.A (.compStart Hl 0 SC af {cenv with scope:=relabel sc X.env}) Le s₄) E s₃) E s:=lc_blockG B.g hc hg ht he I T h0 hf q jZ
def Inv.letgo{C:Nb}{m:Nd}{h':No}{s₀:No}(I:Hb)(hn:s.heap.Ns C m)(hC:H C=none)(ad:X.env.locals<s₀.objs.size)(gG:∀x c,X.env.cells.lookup x=some c→c<s₀.objs.size)(hp:∀p∈X.pn++a5,p.1<s₀.objs.size)(ar:X.s₀.heap.objs.size≤s₀.objs.size)(hc:s₀.objs.size<C)(hs:Heap.SameBut C s.heap h'):ZA H {s with heap:=h'} :=
 I.turned (t':=s.toks) (it:=C) (λb o hb e=>(OZ hb).trans e) hC (Yp (Wk ad hc)) (RG (Ze ar (Wu hc))) (λx c e=>Zi (Wk (gG x c e) hc)) λp q=>Zi (Wk (hp p q) hc)
def Inv.cl_lt(I:Hb):∀x c,X.env.cells.lookup x=some c→c<s.heap.objs.size:=λx c e=>by
 obtain⟨v,q⟩:=JO e
 exact q.lt
def Inv.pin_lt(I:Hb):∀p∈X.pn++a5,p.1<s.heap.objs.size:=λp hp=>Qv (Bu hp).1
def pe_lcC(B:XF ix)(hc:X.calm=true)(hi:LN)(hg:∀C a5 ex s H,PG IX tg g)(ht:∀C a5 ex s H,PTs IX ifs tc)(he:∀C a5 ex s H,PE IX elt te)(hs:∀x,foldedSetIterable iter X.env x=pure x:=by intro _;rfl):Z7 Hl (V9 te):=by
 intro a5 s σ H Q I h
 rw[eval_ListComp]
 refine wpAny_comprehension_free (use:=none) rfl hs TV B.kind B.names (thn RK λv s1 h1=>thn h1 λitv s2 h2=>?_)
 obtain⟨it,fp,tn,J,H2,e,I2,T,bf,f2,q⟩:=h2
 subst e
 refine lc_blockG (RR:=λaf C=>compPost Gq X.A X.xe none SY af C) B hc (hg · a5) (ht · a5) (he · a5) I2 T bf f2 q ?_
 intro D C m ys H' s' I' q' hn hC ad
 refine⟨m,hn,λh' bv=>⟨Sz,_,YE bv,rfl,q'⟩⟩
def zgi(B:W5 ix)(hc:X.calm=true)(hi:LN)(hg:∀C a5 ex s H,UI g)(ht:∀C a5 ex s H,YR tc)(he:∀C a5 ex s H,UJ elt te)(hs:∀x,foldedSetIterable iter X.env x=pure x:=by intro _;rfl):Z7 Hl (V9 te):=pe_lcC B.g hc hi hg ht he hs
def ps_lc(hN:X.N.Nodup)(aK:X.N[i]?=some y)(hy:X.env.scope.names.lookup y=some .local)(B:W5 ix)(hc:X.calm=true)(hi:LN)(hg:∀C a5 ex s H,UI g)(ht:∀C a5 ex s H,YR tc)(he:∀C a5 ex s H,UJ elt te)(kQ:swapsWith Hl (Gz LL) spos.line X.env=pure true)(hs:∀x,foldedSetIterable iter X.env x=pure x:=by intro _;rfl):KA (.Assign [LL] Hl spos) (tAsg (V9 te) IF):=by
 intro a5 s σ H D' I h
 rw[exec_Assign_Name_used _ _ _ _ kQ]
 refine wpAny_bind (wpAny_standAt (wpAny_bind ?_))
 show ZV X.A (do let _ ←comprehension Hl sc X.env _ (newList []) false Ey yF) _ _ s
 refine wpAny_bind (wpAny_mono (wpAny_comprehension_free (use:=some RM) (Q:=λ_ s'=>XT D' .next s') rfl hs TV B.kind B.names
  (thn RK λv s1 h1=>thn h1 λitv s2 h2=>?_)) (λ_ s' hq=>wpAny_pure (Rr hq)) λ_ _ e=>e)
 obtain⟨it,fp,tn,J,H2,e,I2,T,bf,f2,q⟩:=h2
 subst e
 refine lc_block (RR:=λaf C=>compPost Gq X.A X.xe yF (λ_ s'=>XT D' .next s') af C) B hc (hg · a5) (ht · a5) (he · a5) I2 T bf f2 q ?_
 intro D C m ys H' s' I' q' hn hC ad
 show ZV X.A AA _ _ s'
 refine wpAny_assign_Name (Ny (v:=.ref D) rfl (λlK uw ⟨a,sb,ha⟩=>?_) II)
 have aC:C≠a:=by
  rcases ha with z | z
  ·rw[z];exact Yp (Wk I2.lt ad)
  ·exact Yp (Dy ad)
 have bw:=hn.sameBut sb aC
 exact⟨m,bw,λh' bv=>⟨_,_,LK,q'⟩⟩
end
end L2
end
section
namespace Tm
open PySem PyProof.Rows
def gallopT:Bool→Keyed→Array Keyed→Nat→Nat→Nat→StateT SortSt Sem (Option Nat):=sortPriv% PySem.Builtin.gallop
def mergeLoT:Array Keyed→Array Keyed→StateT SortSt Sem (Array Keyed):=sortPriv% PySem.Builtin.mergeLo
def mergeHiT:Array Keyed→Array Keyed→StateT SortSt Sem (Array Keyed):=sortPriv% PySem.Builtin.mergeHi
section
variable{σ α β:Type}{M:Model}{A:Np}{E:Nc}{s:Ni}{Q:α→σ→Prop}{st:σ}{c:Prop}[Decidable c]
def zdd(h:∀Q0:α→σ→Prop,(∀r aa,Q r aa→Q0 r aa)→JZ m Q0 st):JZ m Q st:=h Q λ_ _ z=>z
def jp_if{f:Unit→β→StateT σ Sem α}(h:∀z,JZ (f () z) Q st):JZ (if c then f () x else f () y) Q st:=by
 split
 ·exact h _
 ·exact h _
def zan{x y:StateT σ Sem α}(h1:c→JZ x Q st)(h2:¬c→JZ y Q st):JZ (if c then x else y) Q st:=by
 split
 next z=>exact h1 z
 next z=>exact h2 z
end
section
variable{prog:Nk}{w:Nl}{A:Np}{E:Nc}{s:Ni}{kd:SortKind}{a₀:Array Keyed}
def Cmp(prog:Nk)(w:Nl)(A:Np)(E:Nc)(s:Ni)(kd:SortKind)(a₀:Array Keyed):Prop :=
 ∀(x y:Keyed) (st:SortSt) (Q:Option Bool→SortSt→Prop),x∈a₀.toList→y∈a₀.toList→kindOf st=kd→(∀b,Q (Gz b) st)→ZM (lt' x y) Q st
def Of(a₀ xs:Array Keyed):Prop:=∀(i:Nat) (p:Keyed),xs[i]?=some p→p∈a₀.toList
def za0{arr:Array Keyed}{i:Nat}{p:Keyed}{Q:Keyed→SortSt→Prop}{st:SortSt}(h:arr[i]?=some p)(q:Q p st):ZM (elem' arr i) Q st:=by
 rw[elem'_eq,h];exact wpS_pure q
def beyondT(left:Bool)(ky:Keyed)(arr:Array Keyed)(i:Nat):U9 (Option Bool):=do
 let x ←elem' arr i
 if left=true then lt' x ky else do
  let r ←lt' ky x
  pure (r.map λz=>!z)
def wpS_beyond{left:Bool}{ky:Keyed}{arr:Array Keyed}{i:Nat}{Q:Option Bool→SortSt→Prop}{st:SortSt}(C:QP a₀)(hk:kindOf st=kd)(hO:XV arr)(hy:ky∈a₀.toList)(hi:i<arr.size)(q:∀b,Q (Gz b) st):ZM (Dz i) Q st:=by
 have e:=getElem?_pos arr i hi
 unfold beyondT
 refine wpS_bind (za0 e ?_)
 have m:=hO _ _ e
 cases left with
 |true=>exact C _ _ _ _ m hy hk q
 |false=>exact wpS_bind (C _ _ _ _ hy m hk λb=>wpS_pure (q _))
def zcr{left:Bool}{ky:Keyed}{arr:Array Keyed}{base n hint:Nat}{Q:Option Nat→SortSt→Prop}{st:SortSt}(C:QP a₀)(hk:kindOf st=kd)(hO:XV arr)(hy:ky∈a₀.toList)(hb:base+n≤arr.size)(hh:hint<n)(h:∀k,k≤n→Q (Gz k) st):ZM (gallopT left ky arr base n hint) Q st:=by
 have ask:∀{i:Nat} {Q':Option Bool→SortSt→Prop},i<n→(∀b,Q' (Gz b) st)→ZM (Dz (base+i)) Q' st:=λ{i Q'} hi q=>wpS_beyond C hk hO hy Gg q
 have last:∀(f:Nat→(Option EF×Nat×Nat)→U9 (ForInStep (Option EF×Nat×Nat))) (lo hi:Nat),lo≤hi→hi≤n →
   (∀x l r Q',l≥r→Q' (ForInStep.done (none,l,r)) st→ZM (f x (none,l,r)) Q' st) →
   (∀x l r Q',¬l≥r→r≤n→Q' (SD (none,l+(r-l)/2+1,r)) st→Q' (SD (none,l,l+(r-l)/2)) st→ZM (f x (none,l,r)) Q' st) →
   wpS GJ A E s (forIn [:n] (none,lo,hi) f) (λc aa=>aa=st∧∃k,c=(none,k,k)∧k≤n) st:=by
  intro f lo hi h1 h2 f1 f2
  refine wpS_forRange (I:=λx c aa=>Aj2 (aa=st) (Ex2 λl r=>Aj4 (c=(none,l,r)) (l≤r) (r≤n) (r-l≤n-x))) ?step ?fin ?init
  case init=>exact⟨rfl,lo,hi,rfl,h1,h2,Gg⟩
  case fin =>
   rintro c aa ⟨rfl,l,r,rfl,a1,a2,a3⟩
   have:l=r:=by lia
   subst this
   exact⟨rfl,l,rfl,a2⟩
  case step =>
   rintro x c aa _ hx ⟨rfl,l,r,rfl,a1,a2,a3⟩
   by_cases dX:l≥r
   ·refine f1 x l r _ dX ?_
    have:l=r:=Nat.le_antisymm a1 dX
    subst this
    exact⟨rfl,l,rfl,a2⟩
   ·exact f2 x l r _ dX a2 ⟨rfl,_,_,rfl,Gg,a2,Gg⟩ ⟨rfl,_,_,rfl,DH _,Gg,Gg⟩
 unfold gallopT
 refine wpS_bind (ask (i:=hint) hh λb0=>?_)
 cases b0 with
 | true =>
  refine wpS_bind (wpS_mono (wpS_forRange
   (I:=λx c aa=>Aj2 (aa=st) (Ex2 λla of=>Aj4 (c=(none,la,of)) (hint+la<n) (la<of) (x<of)))
   (Q:=λc aa=>Aj2 (aa=st) (Ex2 λla of=>Aj3 (c=(none,la,of)) (hint+la<n) (la<of))) ?step ?fin ?init) ?post)
  case init=>exact⟨rfl,0,1,rfl,hh,GV,GV⟩
  case fin =>
   rintro c aa ⟨rfl,la,of,rfl,a2,a3,a4⟩
   exact⟨rfl,la,of,rfl,a2,a3⟩
  case step =>
   rintro x c aa _ hx ⟨rfl,la,of,rfl,a2,a3,a4⟩
   dsimp only
   refine zan (λ_=>wpS_pure ⟨rfl,la,of,rfl,a2,a3⟩) λdX=>wpS_bind (ask (i:=hint+of) Gg λb=>?_)
   cases b with
   |true=>exact wpS_pure ⟨rfl,of,2*of+1,rfl,Gg,Gg,Gg⟩
   |false=>exact wpS_pure ⟨rfl,la,of,rfl,a2,a3⟩
  case post =>
   rintro c aa ⟨rfl,la,of,rfl,a2,a3⟩
   refine wpS_bind (wpS_mono (last _ (hint+la+1) (hint+min of (n-hint)) Gg Gg ?_ ?_) ?_)
   ·intro x l r Q' dX q
    exact zan (λ_=>wpS_pure q) λz=>absurd dX z
   ·intro x l r Q' dX hr q1 q2
    refine zan (λz=>absurd z dX) λ_=>wpS_bind (ask (i:=l+(r-l)/2) Gg λb=>?_)
    cases b with
    |true=>exact wpS_pure q1
    |false=>exact wpS_pure q2
   ·rintro c aa ⟨rfl,k,rfl,b1⟩
    exact wpS_pure (h k b1)
 | false =>
  refine wpS_bind (wpS_mono (wpS_forRange
   (I:=λx c aa=>Aj2 (aa=st) (Ex2 λla of=>Aj4 (c=(none,la,of)) (la≤hint) (la<of) (x<of)))
   (Q:=λc aa=>Aj2 (aa=st) (Ex2 λla of=>Aj3 (c=(none,la,of)) (la≤hint) (la<of))) ?step ?fin ?init) ?post)
  case init=>exact⟨rfl,0,1,rfl,RP,GV,GV⟩
  case fin =>
   rintro c aa ⟨rfl,la,of,rfl,a2,a3,a4⟩
   exact⟨rfl,la,of,rfl,a2,a3⟩
  case step =>
   rintro x c aa _ hx ⟨rfl,la,of,rfl,a2,a3,a4⟩
   dsimp only
   refine zan (λ_=>wpS_pure ⟨rfl,la,of,rfl,a2,a3⟩) λdX=>wpS_bind (ask (i:=hint-of) Gg λb=>?_)
   cases b with
   |true=>exact wpS_pure ⟨rfl,la,of,rfl,a2,a3⟩
   |false=>exact wpS_pure ⟨rfl,of,2*of+1,rfl,Gg,Gg,Gg⟩
  case post =>
   rintro c aa ⟨rfl,la,of,rfl,a2,a3⟩
   refine wpS_bind (wpS_mono (last _ (hint+1-min of (hint+1)) (hint-la) Gg Gg ?_ ?_) ?_)
   ·intro x l r Q' dX q
    exact zan (λ_=>wpS_pure q) λz=>absurd dX z
   ·intro x l r Q' dX hr q1 q2
    refine zan (λz=>absurd z dX) λ_=>wpS_bind (ask (i:=l+(r-l)/2) Gg λb=>?_)
    cases b with
    |true=>exact wpS_pure q1
    |false=>exact wpS_pure q2
   ·rintro c aa ⟨rfl,k,rfl,b1⟩
    exact wpS_pure (h k b1)
end
section
variable{prog:Nk}{w:Nl}{A:Np}{E:Nc}{s:Ni}{kd:SortKind}{a₀:Array Keyed}
variable{all out ra rb seg:List Keyed}
def Pm(all out ra rb:List Keyed):Prop:=(out++(ra++rb)).Perm all
def Pm.appA(j:Pm all out (seg++ra) rb):Pm all (out++seg) ra rb:=by
 unfold Pm at *
 rw[Qx,←Qx seg];exact j
def Pm.appB(j:Pm all out ra (seg++rb)):Pm all (out++seg) ra rb:=by
 unfold Pm at *
 rw[Qx]
 refine List.Perm.trans (V' ?_) j
 rw[←Qx,←Qx]
 exact Wf.append_right _
def drop_cons{a:Array Keyed}{i:Nat}(h:i<a.size):a.toList.drop i=a[i]::a.toList.drop Hj:=by
 rw[Yo (Gk h)];simp
def zde{a:Array Keyed}{i:Nat}:(a.extract i a.size).toList=a.toList.drop i:=by
 simp[Qt]
def zgv{a:Array Keyed}{i k:Nat}(h:i+k≤a.size):(AB i (i+k)).toList++a.toList.drop (i+k)=a.toList.drop i:=by
 rw[Array.toList_extract,Kr]
 have:i+k-i=k:=by lia
 rw[this,←List.drop_drop,Wc]
abbrev Pa(a b o:Array Keyed)(i k:Nat):Prop:=Pm HH o.toList (a.toList.drop i) (b.toList.drop k)
variable{a b o:Array Keyed}{i k n:Nat}
def Pa.pushA(j:YZ k)(h:i<a.size):UD (o.push a[i]) Hj k:=by
 have:=Pm.appA (seg:=[a[i]]) (ra:=a.toList.drop Hj) (by rw[Xu,←drop_cons h];exact j)
 rwa[←Jx]at this
def Pa.pushB(j:YZ k)(h:k<b.size):UD (o.push b[k]) i (k+1):=by
 have:=Pm.appB (seg:=[b[k]]) (rb:=b.toList.drop (k+1)) (by rw[Xu,←drop_cons h];exact j)
 rwa[←Jx]at this
def Pa.runA(j:YZ k)(h:i+n≤a.size):UD (o++a.extract i (i+n)) (i+n) k:=by
 have:=Pm.appA (seg:=(AB i (i+n)).toList) (ra:=a.toList.drop (i+n)) (by rw[zgv h];exact j)
 show Pm _ (o++a.extract i (i+n)).toList _ _
 rw[Yn];exact this
def Pa.runB(j:YZ k)(h:k+n≤b.size):UD (o++b.extract k (k+n)) i (k+n):=by
 have:=Pm.appB (seg:=(b.extract k (k+n)).toList) (rb:=b.toList.drop (k+n)) (by rw[zgv h];exact j)
 show Pm _ (o++b.extract k (k+n)).toList _ _
 rw[Yn];exact this
def Pa.end1(j:YZ k):(o++a.extract i++b.extract k).toList.Perm HH:=by
 rw[Yn,Yn,zde,zde,Qx];exact j
def Pa.end2(j:YZ k):(o++b.extract k++a.extract i).toList.Perm HH:=by
 rw[Yn,Yn,zde,zde,Qx]
 exact(V' Wf).trans j
def SG(st aa:SortSt):Prop:=∃g,aa=KU (HS st) g (AC st)
def wpS_mergeLo{Q:Array Keyed→SortSt→Prop}{st:SortSt}(C:QP a₀)(hk:kindOf st=kd)(oa:XV a)(ob:XV b)(ha:0 < a.size)(hb:0 < b.size)(h:∀(res:Array Keyed) (aa:SortSt),res.toList.Perm HH→Fg aa→Q res aa):ZM (mergeLoT a b) Q st:=by
 have ia_:∀i (hi:i<a.size),a[i]∈a₀.toList:=λi hi=>oa i _ (getElem?_pos a i hi)
 have ib_:∀i (hi:i<b.size),b[i]∈a₀.toList:=λi hi=>ob i _ (getElem?_pos b i hi)
 have ea:∀i (hi:i<a.size),a[i]?=some a[i]:=λi hi=>getElem?_pos a i hi
 have eb:∀i (hi:i<b.size),b[i]?=some b[i]:=λi hi=>getElem?_pos b i hi
 have sgk:∀{aa},Fg aa→kindOf aa=kd:=λ⟨g,e⟩=>by rw[e];exact hk
 unfold mergeLoT
 refine wpS_bind (wpS_lift (wpAny_rule ⟨rfl,?_⟩))
 refine wpS_bind (za0 (eb 0 hb) ?_)
 have j0:UD (#[b[0]]:Array Keyed) 0 1:=by
  have j:UD (#[]:Array Keyed) 0 0:=by show List.Perm _ _;simp
  exact j.pushB hb
 refine zan (λc1=>wpS_pure (h _ _ j0.end1 ⟨_,rfl⟩)) λc1=>zan (λc2=>wpS_pure (h _ _ j0.end2 ⟨_,rfl⟩)) λc2=>?_
 have uo:¬b.size=1:=λz=>c1 (by simp[z])
 have c2':¬a.size=1:=λz=>c2 (by simp[z])
 refine wpS_bind (wpS_get ?_)
 refine wpS_bind (wpS_mono (wpS_forRange
  (I:=λx c aa=>YS (Ex4 λo i k g=>Aj5 (c=(none,o,i,k,g)) (i+1<a.size) (k<b.size) zK (x≤i+k)))
  (Q:=λc aa=>YS HY) ?step ?fin ?init) ?post)
 case init=>exact⟨⟨xc⟩,_,0,1,xc,Gg,Gg,j0,Gg⟩
 case fin =>
  rintro c aa ⟨_,o,i,k,g,rfl,a1,a2,a3,a4⟩
  exfalso;lia
 case post =>
  rintro c aa ⟨g,res,r,rfl,m⟩
  exact wpS_pure (h res aa m g)
 case step =>
  rintro x c bh _ hx ⟨g1,o1,i1,k1,mg,rfl,a1,a2,a3,a4⟩
  dsimp -zeta only
  refine wpS_bind (wpS_mono (wpS_forRange
   (I:=λy c aa=>Aj2 (aa=bh) (Ex5 λo i k ac bc=>Aj5 (c=(none,o,i,k,ac,bc)) (i+1<a.size) (k<b.size) zK (i1+k1+y≤i+k)))
   (Q:=λc aa=>Aj2 (aa=bh) (HY∨Ex5 λo i k ac bc=>Aj5 (c=(none,o,i,k,ac,bc)) (i+1<a.size) (k<b.size) zK (i1+k1<i+k))) ?step1 ?fin1 ?init1) ?post1)
  case init1=>exact⟨rfl,o1,i1,k1,0,0,rfl,a1,a2,a3,GV⟩
  case fin1 =>
   rintro c aa ⟨_,o,i,k,ac,bc,rfl,b1,b2,b3,b4⟩
   exfalso;lia
  case step1 =>
   rintro y c bf _ hy ⟨rfl,o,i,k,ac,bc,rfl,b1,b2,b3,b4⟩
   have qu:i<a.size:=by lia
   dsimp -zeta only
   refine wpS_bind (za0 (eb k b2) (wpS_bind (za0 (ea i qu) (wpS_bind (C _ _ _ _ (ib_ k b2) (ia_ i qu) (sgk g1) λe=>?_)))))
   dsimp -zeta only
   refine zan (λ_=>?_) (λ_=>?_)
   ·refine wpS_bind (za0 (eb k b2) ?_)
    have j:=b3.pushB b2
    refine zan (λ_=>wpS_pure ⟨rfl,Rf ⟨_,_,rfl,j.end1⟩⟩) λd1=>?_
    have oQ:¬k+1=b.size:=λz=>d1 Hv
    exact zan (λ_=>wpS_pure ⟨rfl,RG ⟨_,i,k+1,_,_,rfl,b1,Gg,j,Gg⟩⟩) λ_=>wpS_pure ⟨rfl,_,i,k+1,_,_,rfl,b1,Gg,j,Gg⟩
   ·refine wpS_bind (za0 (ea i qu) ?_)
    have j:=b3.pushA qu
    refine zan (λ_=>wpS_pure ⟨rfl,Rf ⟨_,_,rfl,j.end2⟩⟩) λd1=>?_
    have oQ:¬i+1+1=a.size:=λz=>d1 Hv
    exact zan (λ_=>wpS_pure ⟨rfl,RG ⟨_,i+1,k,_,_,rfl,Gg,b2,j,Gg⟩⟩) λ_=>wpS_pure ⟨rfl,_,i+1,k,_,_,rfl,Gg,b2,j,Gg⟩
  case post1 =>
   rintro c bf ⟨rfl,⟨res,r,rfl,m⟩ | ⟨o2,i2,k2,ac2,bc2,rfl,b1,b2,b3,b4⟩⟩
   ·exact wpS_pure ⟨g1,res,_,rfl,m⟩
   dsimp -zeta only
   refine wpS_bind (wpS_lift (wpAny_rule ⟨rfl,?_⟩))
   refine wpS_bind (wpS_mono (wpS_forRange
    (I:=λy c aa=>YS (Ex6 λo i k g ac bc=>Aj5 (c=(none,o,i,k,g,ac,bc)) (i+1<a.size) (k<b.size) zK (i2+k2≤i+k)))
    (Q:=λc aa=>YS (HY∨Ex6 λo i k g ac bc=>Aj5 (c=(none,o,i,k,g,ac,bc)) (i+1<a.size) (k<b.size) zK (i2+k2≤i+k))) ?step2 ?fin2 ?init2) ?post2)
   case init2=>exact⟨g1,o2,i2,k2,_,_,xc,b1,b2,b3,GV⟩
   case fin2 =>
    rintro c aa ⟨g,o,i,k,g',ac,bc,rfl,c1,c2,c3,c4⟩
    exact⟨g,RG ⟨o,i,k,g',ac,bc,rfl,c1,c2,c3,c4⟩⟩
   case post2 =>
    rintro c aw ⟨g3,⟨res,r,rfl,m⟩ | ⟨o3,i3,k3,g',uu,uq,rfl,c1,c2,c3,c4⟩⟩
    ·exact wpS_pure ⟨g3,res,_,rfl,m⟩
    dsimp -zeta only
    refine wpS_bind (wpS_modify ?_)
    obtain⟨gg,e3⟩:=g3
    exact wpS_pure ⟨⟨_,by rw[e3]⟩,o3,i3,k3,_,rfl,c1,c2,c3,Gg⟩
   case step2 =>
    rintro y c aw _ hy ⟨g3,o3,i3,k3,mg3,uu,uq,rfl,c1,c2,c3,c4⟩
    refine zdd λQ0 bD=>?_
    dsimp -zeta only
    have sgm:∀g',Fg (To g'):=λg'=>by
     obtain⟨g,e⟩:=g3
     exact⟨g',by rw[e]⟩
    extract_lets -underBinder +onlyGivenNames s1 out s2 ia s3 ib s4 mn s5 ac bc jp
    refine jp_if (f:=jp) λm'=>?_
    refine wpS_bind (wpS_modify ?_)
    refine wpS_bind (za0 (eb k3 c2) ?_)
    refine wpS_bind (zcr (base:=i3) (n:=a.size-i3) (hint:=0) C AD oa (ib_ k3 c2) Gg Gg λk q1=>?_)
    dsimp -zeta only
    have jr:=c3.runA (n:=k) Gg
    extract_lets -underBinder +onlyGivenNames ac' jp2
    have h2:∀(n':Nat) (o':Array Keyed) (f1:n'+1<a.size),i3≤n'→UD o' n' k3→ZM (jp2 () o' n') Q0 yG:=by
     intro n' o' f1 f2 fJ
     have f0:n'<a.size:=by lia
     refine wpS_bind (za0 (eb k3 c2) ?_)
     have fK:=fJ.pushB c2
     refine zan (λ_=>wpS_pure (Tk ⟨LD,Rf ⟨_,_,rfl,fK.end1⟩⟩)) λd=>?_
     have d':¬k3+1=b.size:=λz=>d Hv
     refine wpS_bind (za0 (ea n' f0) ?_)
     refine wpS_bind (zcr (base:=k3+1) (n:=b.size-(k3+1)) (hint:=0) C AD ob (ia_ n' f0) Gg Gg λk' r1=>?_)
     dsimp -zeta only
     have js:=fK.runB (n:=k') Gg
     extract_lets -underBinder +onlyGivenNames bc' jp3
     have h3:∀(m2:Nat) (o2:Array Keyed) (p1:m2<b.size),k3+1≤m2→UD o2 n' m2→ZM (jp3 () o2 m2) Q0 yG:=by
      intro m2 o2 p1 p2 pJ
      refine wpS_bind (za0 (ea n' f0) ?_)
      have pK:=pJ.pushA f0
      refine zan (λ_=>wpS_pure (Tk ⟨LD,Rf ⟨_,_,rfl,pK.end2⟩⟩)) λd=>?_
      have d2:¬n'+1+1=a.size:=λz=>d Hv
      exact zan (λ_=>wpS_pure (Tk ⟨LD,RG ⟨_,n'+1,m2,_,_,_,rfl,Gg,p1,pK,Gg⟩⟩)) λ_=>wpS_pure (Tk ⟨LD,_,n'+1,m2,_,_,_,rfl,Gg,p1,pK,Gg⟩)
     refine zan (λkz=>?_) (λkz=>?_)
     ·refine zan (fun _=>wpS_pure (Tk ⟨LD,Rf ⟨_,_,rfl,js.end1⟩⟩)) fun d4=>?_
      have d4':¬k3+1+k'=b.size:=λz=>d4 Hv
      exact h3 (k3+1+k') _ Gg (DH _) js
     ·exact h3 (k3+1) _ Gg GV fK
    refine zan (λkz=>?_) (λkz=>?_)
    ·refine zan (fun _=>wpS_pure (Tk ⟨LD,Rf ⟨_,_,rfl,jr.end2⟩⟩)) fun d=>zan (fun _=>wpS_pure (Tk ⟨LD,Rf ⟨_,_,rfl,jr.end1⟩⟩)) fun e=>?_
     have d':¬i3+k+1=a.size:=λz=>d Hv
     have e':¬i3+k=a.size:=λz=>e Hv
     exact h2 (i3+k) _ Gg (DH _) jr
    ·exact h2 i3 _ c1 GV c3
end
section
variable{prog:Nk}{w:Nl}{A:Np}{E:Nc}{s:Ni}{kd:SortKind}{a₀:Array Keyed}
variable{a b o:Array Keyed}{na nb at_:Nat}
def zf4:(AB 0 n).toList=a.toList.take n:=by simp
def zfy{a:Array Keyed}{i n:Nat}(hi:i≤n)(h:n≤a.size):a.toList.take i++(AB i n).toList=a.toList.take n:=by
 rw[Array.toList_extract,Kr]
 have e:a.toList.take i=(a.toList.take n).take i:=by rw[List.take_take];congr 1;lia
 have e2:(a.toList.drop i).take (n-i)=(a.toList.take n).drop i:=by rw[List.drop_take]
 rw[e,e2,Wc]
def Ph(a b o:Array Keyed)(na nb:Nat):Prop:=(a.toList.take na++(b.toList.take nb++o.toList)).Perm HH
def mvA{t sg lJ u r all:List Keyed}(h:((t++sg)++(u++r)).Perm all)(hs:lJ.Perm sg):(t++(u++(r++lJ))).Perm all:=by
 refine List.Perm.trans ?_ h
 rw[Qx,←Qx u]
 exact V' ((V' hs).trans Wf)
def mvB{t sg lJ u r all:List Keyed}(h:(t++((u++sg)++r)).Perm all)(hs:lJ.Perm sg):(t++(u++(r++lJ))).Perm all:=by
 refine List.Perm.trans ?_ h
 rw[Qx]
 exact V' (V' ((V' hs).trans Wf))
def Ph.runA(j:OW)(hi:at_≤na)(h:na≤a.size):UE (o++(AB at_ na).reverse) at_ nb:=by
 unfold Ph at *
 rw[←zfy hi h]at j
 rw[Yn,Kh]
 exact mvA j (Uq _)
def Ph.runB(j:OW)(hi:at_≤nb)(h:nb≤b.size):UE (o++(b.extract at_ nb).reverse) na at_:=by
 unfold Ph at *
 rw[←zfy hi h]at j
 rw[Yn,Kh]
 exact mvB j (Uq _)
def Ph.pushA(j:UE o (na+1) nb)(h:na<a.size):UE (o.push a[na]) na nb:=by
 unfold Ph at *
 rw[Ql (Gk h)]at j
 rw[Jx]
 exact mvA j Gf
def Ph.pushB(j:UE o na (nb+1))(h:nb<b.size):UE (o.push b[nb]) na nb:=by
 unfold Ph at *
 rw[Ql (Gk h)]at j
 rw[Jx]
 exact mvB j Gf
def Ph.end1(j:OW):(a.extract 0 na++b.extract 0 nb++o.reverse).toList.Perm HH:=by
 rw[Yn,Yn,Kh,zf4,zf4,Qx]
 exact(V' (V' (Uq _))).trans j
def Ph.end2(j:OW):(b.extract 0 nb++a.extract 0 na++o.reverse).toList.Perm HH:=by
 rw[Yn,Yn,Kh,zf4,zf4]
 refine List.Perm.trans ?_ j
 rw[←Qx]
 exact(Wf).append (Uq _)
def wpS_mergeHi{Q:Array Keyed→SortSt→Prop}{st:SortSt}(C:QP a₀)(hk:kindOf st=kd)(oa:XV a)(ob:XV b)(ha:0 < a.size)(hb:0 < b.size)(h:∀(res:Array Keyed) (aa:SortSt),res.toList.Perm HH→Fg aa→Q res aa):ZM (mergeHiT a b) Q st:=by
 have ia_:∀i (hi:i<a.size),a[i]∈a₀.toList:=λi hi=>oa i _ (getElem?_pos a i hi)
 have ib_:∀i (hi:i<b.size),b[i]∈a₀.toList:=λi hi=>ob i _ (getElem?_pos b i hi)
 have ea:∀i (hi:i<a.size),a[i]?=some a[i]:=λi hi=>getElem?_pos a i hi
 have eb:∀i (hi:i<b.size),b[i]?=some b[i]:=λi hi=>getElem?_pos b i hi
 have sgk:∀{aa},Fg aa→kindOf aa=kd:=λ⟨g,e⟩=>by rw[e];exact hk
 obtain⟨n0,pW⟩:∃n0,a.size=n0+1:=⟨a.size-1,Gg⟩
 have cj:n0<a.size:=by lia
 have j0:UE (#[a[n0]]:Array Keyed) n0 b.size:=by
  have j:UE (#[]:Array Keyed) (n0+1) b.size:=by
   have e1:a.toList.take (n0+1)=a.toList:=Qt (by simp;lia)
   have e2:b.toList.take b.size=b.toList:=Qt Gf
   unfold Ph;rw[e1,e2];simp
  exact j.pushA cj
 unfold mergeHiT
 refine wpS_bind (wpS_lift (wpAny_rule ⟨rfl,?_⟩))
 have e2:a.size-1=n0:=by lia
 simp -zeta only [e2]
 refine wpS_bind (za0 (ea n0 cj) ?_)
 refine zan (λc1=>wpS_pure (h _ _ j0.end1 ⟨_,rfl⟩)) λc1=>zan (λc2=>wpS_pure (h _ _ j0.end2 ⟨_,rfl⟩)) λc2=>?_
 have uo:¬n0=0:=λz=>c1 (by simp[z])
 have c2':¬b.size=1:=λz=>c2 (by simp[z])
 refine wpS_bind (wpS_get ?_)
 obtain⟨n1,rfl⟩:∃n1,n0=n1+1:=⟨n0-1,Gg⟩
 obtain⟨m1,bM⟩:∃m1,b.size=m1+1+1:=⟨b.size-2,Gg⟩
 rw[bM]at j0
 refine wpS_bind (wpS_mono (wpS_forRange
  (I:=λx c aa=>YS (Ex4 λo i k g=>Aj5 (c=(none,i+1,k+1+1,o,g)) (i<a.size) (k+1<b.size) (UE o Hj (k+1+1)) (i+k+x+4≤a.size+b.size)))
  (Q:=λc aa=>YS HY) ?step ?fin ?init) ?post)
 case init=>exact⟨⟨xc⟩,_,n1,m1,_,by rw[bM],Gg,Gg,j0,Gg⟩
 case fin =>
  rintro c aa ⟨_,o,i,k,g,rfl,a1,a2,a3,a4⟩
  exfalso;lia
 case post =>
  rintro c aa ⟨g,res,r,rfl,m⟩
  exact wpS_pure (h res aa m g)
 case step =>
  rintro x c bh _ hx ⟨g1,o1,i1,k1,mg,rfl,a1,a2,a3,a4⟩
  dsimp -zeta only
  refine wpS_bind (wpS_mono (wpS_forRange
   (I:=λy c aa=>Aj2 (aa=bh) (Ex5 λo i k ac bc=>Aj5 (c=(none,i+1,k+1+1,o,ac,bc)) (i<a.size) (k+1<b.size) (UE o Hj (k+1+1)) (i+k+y≤i1+k1)))
   (Q:=λc aa=>Aj2 (aa=bh) (HY∨Ex5 λo i k ac bc=>Aj5 (c=(none,i+1,k+1+1,o,ac,bc)) (i<a.size) (k+1<b.size) (UE o Hj (k+1+1)) (i+k<i1+k1))) ?step1 ?fin1 ?init1) ?post1)
  case init1=>exact⟨rfl,o1,i1,k1,0,0,rfl,a1,a2,a3,GV⟩
  case fin1 =>
   rintro c aa ⟨_,o,i,k,ac,bc,rfl,b1,b2,b3,b4⟩
   exfalso;lia
  case step1 =>
   rintro y c bf _ hy ⟨rfl,o,i,k,ac,bc,rfl,b1,b2,b3,b4⟩
   dsimp -zeta only
   refine wpS_bind (za0 (eb (k+1) b2) (wpS_bind (za0 (ea i b1) (wpS_bind (C _ _ _ _ (ib_ (k+1) b2) (ia_ i b1) (sgk g1) λe=>?_)))))
   dsimp -zeta only
   refine zan (λ_=>?_) (λ_=>?_)
   ·refine wpS_bind (za0 (ea i b1) ?_)
    have j:=b3.pushA b1
    refine zan (λ_=>wpS_pure ⟨rfl,Rf ⟨_,_,rfl,j.end1⟩⟩) λd1=>?_
    have oQ:¬i=0:=λz=>d1 Hv
    cases i with
    |zero=>exact absurd rfl oQ
    |succ i'=>exact zan (λ_=>wpS_pure ⟨rfl,RG ⟨_,i',k,_,_,rfl,Gg,b2,j,Gg⟩⟩) λ_=>wpS_pure ⟨rfl,_,i',k,_,_,rfl,Gg,b2,j,Gg⟩
   ·refine wpS_bind (za0 (eb (k+1) b2) ?_)
    have j:=b3.pushB b2
    refine zan (λ_=>wpS_pure ⟨rfl,Rf ⟨_,_,rfl,j.end2⟩⟩) λd1=>?_
    have oQ:¬k+1=1:=λz=>d1 Hv
    cases k with
    |zero=>exact absurd rfl oQ
    |succ k'=>exact zan (λ_=>wpS_pure ⟨rfl,RG ⟨_,i,k',_,_,rfl,b1,Gg,j,Gg⟩⟩) λ_=>wpS_pure ⟨rfl,_,i,k',_,_,rfl,b1,Gg,j,Gg⟩
  case post1 =>
   rintro c bf ⟨rfl,⟨res,r,rfl,m⟩ | ⟨o2,i2,k2,ac2,bc2,rfl,b1,b2,b3,b4⟩⟩
   ·exact wpS_pure ⟨g1,res,_,rfl,m⟩
   dsimp -zeta only
   refine wpS_bind (wpS_lift (wpAny_rule ⟨rfl,?_⟩))
   refine wpS_bind (wpS_mono (wpS_forRange
    (I:=λy c aa=>YS (Ex6 λo i k g ac bc=>Aj5 (c=(none,i+1,k+1+1,o,g,ac,bc)) (i<a.size) (k+1<b.size) (UE o Hj (k+1+1)) (i+k≤i2+k2)))
    (Q:=λc aa=>YS (HY∨Ex6 λo i k g ac bc=>Aj5 (c=(none,i+1,k+1+1,o,g,ac,bc)) (i<a.size) (k+1<b.size) (UE o Hj (k+1+1)) (i+k≤i2+k2))) ?step2 ?fin2 ?init2) ?post2)
   case init2=>exact⟨g1,o2,i2,k2,_,_,xc,b1,b2,b3,GV⟩
   case fin2 =>
    rintro c aa ⟨g,o,i,k,g',ac,bc,rfl,c1,c2,c3,c4⟩
    exact⟨g,RG ⟨o,i,k,g',ac,bc,rfl,c1,c2,c3,c4⟩⟩
   case post2 =>
    rintro c aw ⟨g3,⟨res,r,rfl,m⟩ | ⟨o3,i3,k3,g',uu,uq,rfl,c1,c2,c3,c4⟩⟩
    ·exact wpS_pure ⟨g3,res,_,rfl,m⟩
    dsimp -zeta only
    refine wpS_bind (wpS_modify ?_)
    obtain⟨gg,e3⟩:=g3
    exact wpS_pure ⟨⟨_,by rw[e3]⟩,o3,i3,k3,_,rfl,c1,c2,c3,Gg⟩
   case step2 =>
    rintro y c aw _ hy ⟨g3,o3,i3,k3,mg3,uu,uq,rfl,c1,c2,c3,c4⟩
    refine zdd λQ0 bD=>?_
    dsimp -zeta only
    have sgm:∀g',Fg (To g'):=λg'=>by
     obtain⟨g,e⟩:=g3
     exact⟨g',by rw[e]⟩
    extract_lets -underBinder +onlyGivenNames s1 na s2 nb s3 out s4 mn s5 ac bc jp
    refine jp_if (f:=jp) λm'=>?_
    refine wpS_bind (wpS_modify ?_)
    refine wpS_bind (za0 (eb (k3+1) c2) ?_)
    refine wpS_bind (zcr (n:=i3+1) (hint:=i3) C AD oa (ib_ (k3+1) c2) Gg Gg λqv q1=>?_)
    dsimp -zeta only
    have jr:=c3.runA (at_:=qv) q1 Gg
    extract_lets -underBinder +onlyGivenNames kk ac' jp2
    have h2:∀(n':Nat) (o':Array Keyed) (f1:n'<a.size),n'≤i3→UE o' (n'+1) (k3+1+1)→ZM (jp2 () (n'+1) o') Q0 yG:=by
     intro n' o' f1 f2 fJ
     refine wpS_bind (za0 (eb (k3+1) c2) ?_)
     have fK:=fJ.pushB c2
     refine zan (λ_=>wpS_pure (Tk ⟨LD,Rf ⟨_,_,rfl,fK.end2⟩⟩)) λd=>?_
     have d':¬k3+1=1:=λz=>d Hv
     refine wpS_bind (za0 (ea n' f1) ?_)
     refine wpS_bind (zcr (n:=k3+1) (hint:=k3) C AD ob (ia_ n' f1) Gg Gg λoS r1=>?_)
     dsimp -zeta only
     have js:=fK.runB (at_:=oS) r1 Gg
     extract_lets -underBinder +onlyGivenNames kk2 bc' jp3
     have h3:∀(m2:Nat) (o2:Array Keyed) (p1:m2+1<b.size),m2≤k3→UE o2 (n'+1) (m2+1+1)→ZM (jp3 () (m2+1+1) o2) Q0 yG:=by
      intro m2 o2 p1 p2 pJ
      refine wpS_bind (za0 (ea n' f1) ?_)
      have pK:=pJ.pushA f1
      refine zan (λ_=>wpS_pure (Tk ⟨LD,Rf ⟨_,_,rfl,pK.end1⟩⟩)) λd=>?_
      have d2:¬n'=0:=λz=>d Hv
      cases n' with
      |zero=>exact absurd rfl d2
      |succ t=>exact zan (λ_=>wpS_pure (Tk ⟨LD,RG ⟨_,t,m2,_,_,_,rfl,Gg,p1,pK,Gg⟩⟩)) λ_=>wpS_pure (Tk ⟨LD,_,t,m2,_,_,_,rfl,Gg,p1,pK,Gg⟩)
     refine zan (λkz=>?_) (λkz=>?_)
     ·refine zan (fun _=>wpS_pure (Tk ⟨LD,Rf ⟨_,_,rfl,js.end2⟩⟩)) fun d4=>zan (fun _=>wpS_pure (Tk ⟨LD,Rf ⟨_,_,rfl,js.end1⟩⟩)) fun d5=>?_
      have d4':¬oS=1:=λz=>d4 Hv
      have d5':¬oS=0:=λz=>d5 Hv
      obtain⟨m2,e2⟩:∃m2,oS=m2+1+1:=⟨oS-2,Gg⟩
      have:=h3 m2 _ Gg Gg (by rw[←e2];exact js)
      rw[←e2]at this
      exact this
     ·obtain ⟨m2,e2⟩:∃ m2,k3=m2+1:=⟨k3 - 1,Gg⟩
      have:=h3 m2 _ Gg Gg (by rw[←e2];exact fK)
      rw[←e2]at this
      exact this
    refine zan (λkz=>?_) (λkz=>?_)
    ·refine zan (fun _=>wpS_pure (Tk ⟨LD,Rf ⟨_,_,rfl,jr.end1⟩⟩)) fun d=>?_
     have d':¬qv=0:=λz=>d Hv
     obtain⟨n',e1⟩:∃n',qv=n'+1:=⟨qv-1,Gg⟩
     have:=h2 n' _ Gg Gg (by rw[←e1];exact jr)
     rw[←e1]at this
     exact this
    ·exact h2 i3 _ c1 GV c3
end
section
variable{prog:Nk}{w:Nl}{A:Np}{E:Nc}{s:Ni}{kd:SortKind}{a₀:Array Keyed}{p:Array (Nat×Nat×Nat)}{lo:Nat}
structure Bs(kd:SortKind)(a₀:Array Keyed)(p:Array (Nat×Nat×Nat))(st:SortSt):Prop where
 kind:kindOf st=kd
 failed:failedOf st=none
 pend:pendingOf st=p
 perm:(Sm st).Perm a₀
def Bs.size{st:SortSt}(B:QF st):(Sm st).size=a₀.size:=B.perm.size_eq
def Bs.mem{st:SortSt}(B:QF st){i:Nat}(hi:i<a₀.size):∃q,(Sm st)[i]?=some q∧q∈a₀.toList:=by
 have aK:i<(Sm st).size:=by rw[B.size];exact hi
 exact⟨_,getElem?_pos _ i aK,(Ym.mp B.perm).mem_iff.mp Gf⟩
def zhb{st:SortSt}{i j:Nat}{Q:Option Bool→SortSt→Prop}(C:QP a₀)(B:QF st)(hi:i<a₀.size)(hj:j<a₀.size)(h:∀b,Q (Gz b) st):ZM (ltAt' i j) Q st:=by
 obtain⟨x,e1,m1⟩:=B.mem hi
 obtain⟨y,e2,m2⟩:=B.mem hj
 rw[ltAt'_eq]
 refine wpS_bind (wpS_get ?_)
 refine wpS_bind (za0 e1 (wpS_bind (za0 e2 ?_)))
 exact C x y st Q m1 m2 B.kind h
def Bs.mirror{st:SortSt}(B:QF st)(i j k:Nat):QF (setArr st (mirror Ps i j k)):=⟨B.kind,B.failed,B.pend,(mirror_perm _ _ _ _).trans B.perm⟩
def Bs.bubble{st:SortSt}(B:QF st)(src d:Nat):QF (setArr st (bubble Ps src d)):=⟨B.kind,B.failed,B.pend,(bubble_perm _ _ _).trans B.perm⟩
def wpS_binary{st:SortSt}{n ok:Nat}{Q:Bool→SortSt→Prop}(C:QP a₀)(hn:lo+n≤a₀.size)(B:QF st)(h:∀aa,QF aa→Q true aa):ZM (binarySort' lo n ok) Q st:=by
 rw[binarySort'_eq]
 refine wpS_bind (wpS_mono (wpS_forRange (I:=λk c aa=>Aj2 (c=(none,())) (QF aa)) (Q:=λc aa=>Aj2 (c=(none,())) (QF aa)) ?step (λ_ _ z=>z) ⟨rfl,B⟩) ?post)
 case post =>
  rintro c aa ⟨rfl,B'⟩
  exact wpS_pure (h aa B')
 case step =>
  rintro k c aa hak eZ ⟨rfl,B'⟩
  refine wpS_bind (wpS_mono (wpS_forRange
   (I:=λx c dr=>Aj2 (dr=aa) (Ex2 λl r=>Aj4 (c=(none,l,r)) (l≤r) (r≤k) (r-l≤k-x)))
   (Q:=λc dr=>Aj2 (dr=aa) (Ex1 λl=>Aj2 (c=(none,l,l)) (l≤k))) ?is ?if_ ?ii) ?ip)
  case ii=>exact⟨rfl,0,k,rfl,RP,GV,GV⟩
  case if_ =>
   rintro c dr ⟨rfl,l,r,rfl,b1,b2,b3⟩
   have:l=r:=by lia
   subst this
   exact⟨rfl,l,rfl,b2⟩
  case is =>
   rintro x c dr _ hx ⟨rfl,l,r,rfl,b1,b2,b3⟩
   dsimp only
   refine zan (λge=>?_) λge=>wpS_bind (zhb C B' Gg Gg λb=>?_)
   ·have:l=r:=Nat.le_antisymm b1 ge
    subst this
    exact wpS_pure ⟨rfl,l,rfl,b2⟩
   ·cases b with
    |true=>exact wpS_pure ⟨rfl,l,(l+r)/2,rfl,Gg,Gg,Gg⟩
    |false=>exact wpS_pure ⟨rfl,(l+r)/2+1,r,rfl,Gg,b2,Gg⟩
  case ip =>
   rintro c dr ⟨rfl,l,rfl,b2⟩
   show wpS _ _ _ _ (do moveDown' (lo+k) (lo+l);pure (SD (none,()))) _ _
   rw[moveDown'_eq]
   exact wpS_bind (wpS_modify (wpS_pure ⟨rfl,B'.bubble _ _⟩))
def jp_rev{α:Type}{c:Prop}[Decidable c]{i j:Nat}{f:Unit→U9 α}{Q:α→SortSt→Prop}{st:SortSt}(B:QF st)(h:∀aa,QF aa→ZM (f ()) Q aa):ZM (if c then reverseSlice' i j >>= f else f ()) Q st:=by
 split
 ·exact wpS_bind (wpS_reverse (h _ (B.mirror _ _ _)))
 ·exact h _ B
def wpS_count{st:SortSt}{nrem:Nat}{Q:Option Nat→SortSt→Prop}(C:QP a₀)(hn:lo+nrem≤a₀.size)(h1:1≤nrem)(B:QF st)(h:∀m aa,QF aa→1≤m→m≤nrem→Q (Gz m) aa):ZM (countRun' lo nrem) Q st:=by
 have asc:∀(f:Nat→(Option EF×Nat)→U9 (ForInStep (Option EF×Nat))) (a:Nat) (bh:SortSt),1≤a→a≤nrem →
   (∀x y Q',1≤y→y<nrem→Q' (ForInStep.done (none,y)) bh→Q' (SD (none,y+1)) bh→ZM (f x (none,y)) Q' bh) →
   wpS GJ A E s (forIn [a:nrem] (none,a) f) (λc aa=>Aj2 (aa=bh) (Ex1 λn=>Aj3 (c=(none,n)) (a≤n) (n≤nrem))) bh:=by
  intro f a bh a1 a2 hf
  refine wpS_forRange (I:=λx c aa=>Aj2 (aa=bh) (c=(none,x))) ?step ?fin ⟨rfl,rfl⟩
  case fin =>
   rintro c aa ⟨rfl,rfl⟩
   rw[show max a nrem=nrem by lia]
   exact⟨rfl,nrem,rfl,a2,GV⟩
  case step =>
   rintro x c aa g1 g2 ⟨rfl,rfl⟩
   exact hf x x _ Gg g2 ⟨rfl,x,rfl,g1,Wu g2⟩ ⟨rfl,rfl⟩
 have two:∀{bh:SortSt},QF bh→∀{y:Nat},1≤y→y<nrem→lo+y<a₀.size∧lo+y-1<a₀.size:=λ_ y y1 y2=>⟨Gg,Gg⟩
 rw[countRun'_eq]
 refine wpS_bind (wpS_mono (asc _ 1 st GV h1 ?_) ?_)
 ·intro x y Q' y1 y2 q1 q2
  refine wpS_bind (zhb C B (two B y1 y2).1 (two B y1 y2).2 λb=>?_)
  cases b with
  |true=>exact wpS_pure q1
  |false=>exact wpS_pure q2
 rintro c aa ⟨rfl,n,rfl,n1,n2⟩
 refine zdd λQ0 bD=>?_
 refine zan (λd=>wpS_pure AE) λd=>?_
 have d':n<nrem:=by have:¬n=nrem:=λz=>d Hv;lia
 extract_lets -underBinder +onlyGivenNames jp
 have nF:∀bh,QF bh→ZM (jp ()) Q0 bh:=by
  intro bh B1
  refine wpS_bind (wpS_lift (wpAny_rule ⟨rfl,?_⟩))
  refine wpS_bind (wpS_mono (wpS_forRange
   (I:=λx c bf=>Ex1 λq=>Aj4 (c=(none,x,q)) (QF bf) (2≤x) (x≤nrem))
   (Q:=λc bf=>Ex2 λx q=>Aj4 (c=(none,x,q)) (QF bf) (2≤x) (x≤nrem)) ?step ?fin ⟨0,rfl,B1,Gg,d'⟩) ?post)
  case fin =>
   rintro c bf ⟨q,rfl,b1,b2,b3⟩
   exact⟨_,q,rfl,b1,b2,b3⟩
  case step =>
   rintro x c bf x1 x2 ⟨q,rfl,b1,b2,b3⟩
   refine zdd λQ1 gK=>?_
   refine wpS_bind (zhb (i:=lo+x) (j:=lo+x-1) C b1 Gg Gg λe1=>?_)
   cases e1 with
   |true =>
    refine zan (λ_=>?_) (λz=>absurd rfl z)
    exact jp_rev b1 λaw B3=>wpS_pure (gK _ _ ⟨0,rfl,B3,Gg,x2⟩)
   |false =>
    refine zan (λz=>absurd z Gj) λ_=>wpS_bind (zhb (i:=lo+x-1) (j:=lo+x) C b1 Gg Gg λe2=>?_)
    cases e2 with
    |true=>exact zan (λ_=>wpS_pure (gK _ _ ⟨x,q,rfl,b1,b2,b3⟩)) (λz=>absurd rfl z)
    |false=>exact zan (λz=>absurd z Gj) λ_=>wpS_pure (gK _ _ ⟨q+1,rfl,b1,Gg,x2⟩)
  case post =>
   rintro c bf ⟨x,q,rfl,b1,b2,b3⟩
   refine jp_rev b1 λaw B3=>?_
   refine wpS_bind (wpS_reverse ?_)
   have B6:=B3.mirror lo (lo+x) ((lo+x-lo)/2)
   refine wpS_bind (wpS_mono (asc _ x _ Gg b3 ?_) ?_)
   ·intro z y Q' y1 y2 q1 q2
    refine wpS_bind (zhb C B6 (two B6 y1 y2).1 (two B6 y1 y2).2 λb=>?_)
    cases b with
    |true=>exact wpS_pure q1
    |false=>exact wpS_pure q2
   ·rintro c st6 ⟨rfl,m,rfl,m1,m2⟩
    exact wpS_pure (Tk (h m _ B6 Gg m2))
 refine zan (λd2=>?_) λd2=>nF _ B
 refine wpS_bind (zhb C B Gg Gg λe=>?_)
 cases e with
 |true=>exact zan (λ_=>wpS_pure AE) (λz=>absurd rfl z)
 |false=>exact zan (λz=>absurd z Gj) λ_=>wpS_bind (wpS_reverse (nF _ (B.mirror _ _ _)))
end
def PL:List (Nat×Nat×Nat)→Nat→Nat→Prop
 |[],off,tot=>off=tot
 |q::ps,off,tot=>q.1=off∧0<q.2.1∧PL ps (off+q.2.1) tot
def PL.split{gr:List (Nat×Nat×Nat)}{tot:Nat}:∀{cO:List (Nat×Nat×Nat)} {off:Nat},PL (cO++gr) off tot→∃mid,PL cO off mid∧PL gr mid tot:=by
 intro cO
 induction cO with
 |nil=>intro off h;exact⟨off,rfl,h⟩
 |cons q ps ih =>
  intro off h
  obtain⟨mid,a,b⟩:=ih h.2.2
  exact⟨mid,⟨h.1,h.2.1,a⟩,b⟩
def PL.join{gr:List (Nat×Nat×Nat)}{mid tot:Nat}:∀{cO:List (Nat×Nat×Nat)} {off:Nat},PL cO off mid→PL gr mid tot→PL (cO++gr) off tot:=by
 intro cO
 induction cO with
 |nil=>intro off a b;cases(show off=mid from a);exact b
 |cons q ps ih=>intro off a b;exact⟨a.1,a.2.1,ih a.2.2 b⟩
def PL.len{tot:Nat}:∀{ps:List (Nat×Nat×Nat)} {off:Nat},PL ps off tot→off+ps.length≤tot:=by
 intro ps
 induction ps with
 |nil=>intro off h;exact Km h
 |cons q ps ih =>
  intro off h
  have:=ih h.2.2
  have:=h.2.1
  rw[Qu];lia
def put_back{sa:Nat}:∀ (l:List Keyed) (n:Nat) (arr:Array Keyed) (F M S:List Keyed),arr.toList=F++(M++S)→F.length=sa+n→M.length=l.length →
  ((l.zipIdx n).foldl (λ(a:Array Keyed) (q:Keyed×Nat)=>a.setIfInBounds (sa+q.2) q.1) arr).toList=F++(l++S):=by
 intro l
 induction l with
 |nil =>
  intro n arr F M S e _ hl
  have:M=[]:=List.length_eq_zero_iff.mp (Gk hl)
  rw[this]at e
  simpa using e
 | cons p l ih =>
  intro n arr F M S e hf hl
  cases M with
  |nil=>simp at hl
  | cons m M =>
   rw[List.zipIdx_cons,Jm]
   have e2:(arr.setIfInBounds (sa+n) p).toList=(F++[p])++(M++S):=by
    rw[Array.toList_setIfInBounds,e,←hf,MB GV,Kl]
    simp
   rw[ih (n+1) _ (F++[p]) M S e2 (by rw[Qz];simp;lia) (Gk hl)]
   simp
section
variable{prog:Nk}{w:Nl}{A:Np}{E:Nc}{s:Ni}{kd:SortKind}{a₀:Array Keyed}
structure Rn(kd:SortKind)(a₀:Array Keyed)(tot:Nat)(st:SortSt):Prop where
 kind:kindOf st=kd
 failed:failedOf st=none
 perm:(Sm st).Perm a₀
 pend:PL (HS st).toList 0 tot
 le:tot≤a₀.size
def of_perm{xs:Array Keyed}(h:xs.Perm a₀):XV xs:=λi p e=>by
 refine(Ym.mp h).mem_iff.mp ?_
 have:xs.toList[i]?=some p:=by simpa using e
 exact Yd this
def of_ext{xs:Array Keyed}(h:xs.Perm a₀)(i j:Nat):XV (xs.extract i j):=λk p e=>by
 have e1:(xs.extract i j).toList[k]?=some p:=by rw[Uk];exact e
 have:=Yd e1
 rw[Array.toList_extract,Kr]at this
 exact(Ym.mp h).mem_iff.mp (Jc (Wv this))
def wpS_set{Q:PUnit→SortSt→Prop}{st aa:SortSt}(h:Q ⟨⟩ aa):ZM (set aa:U9 PUnit) Q st:=by
 unfold wpS;rw[StateT.run_set];exact wpAny_pure ⟨rfl,h⟩
def zf8{i tot:Nat}{Q:Bool→SortSt→Prop}{st:SortSt}(C:QP a₀)(R:QV st)(hi:i+1 < (HS st).size)(h:∀aa,QV aa→(HS aa).size+1=(HS st).size→Q true aa):ZM (mergeAt' i) Q st:=by
 obtain⟨cO,q1,q2,gr,hp,hl⟩:∃cO q1 q2 gr,(HS st).toList=cO++q1::q2::gr∧cO.length=i:=by
  have h1:i<(HS st).toList.length:=by simp;lia
  have h2:i+1<(HS st).toList.length:=by simp;lia
  refine⟨(HS st).toList.take i,(HS st).toList[i],(HS st).toList[i+1],(HS st).toList.drop (i+2),?_,GK Zq⟩
  rw[←Yo h2,←Yo h1,Wc]
 have pr:=R.pend
 rw[hp]at pr
 obtain⟨sa,pr1,e1,hA,e2,hB,qH⟩:=pr.split
 obtain⟨aG,na,pw⟩:=q1
 obtain⟨sb',nb,pw2⟩:=q2
 dsimp only at e1 hA e2 hB qH
 subst e1 e2
 have x1:(HS st)[i]?=some (aG,na,pw):=by
  have:(HS st)[i]?=(HS st).toList[i]?:=by simp
  rw[this,hp,←hl];simp
 have x2:(HS st)[i+1]?=some (aG+na,nb,pw2):=by
  have:(HS st)[i+1]?=(HS st).toList[i+1]?:=by simp
  rw[this,hp,←hl];simp
 have hsz:aG+na+nb≤(Sm st).size:=by
  have:=qH.len
  have:=R.le
  rw[R.perm.size_eq];lia
 have oA:=of_perm R.perm
 have mem:∀j (hj:j<(Sm st).size),(Sm st)[j]∈a₀.toList:=λj hj=>oA j _ (getElem?_pos _ j hj)
 have fin:∀(aa:SortSt),kindOf aa=kd→failedOf aa=none→(Sm aa).Perm a₀→pendingOf aa=((HS st).setIfInBounds i (aG,na+nb,pw)).eraseIdxIfInBounds Hj→Q true aa:=by
  intro aa m3 m4 m5 m6
  have e:(HS aa).toList=cO++(aG,na+nb,pw)::gr:=by
   rw[m6]
   have e1:((HS st).setIfInBounds i (aG,na+nb,pw)).toList=cO++(aG,na+nb,pw)::(aG+na,nb,pw2)::gr:=by
    rw[Array.toList_setIfInBounds,hp,←hl,MB GV,Kl]
    rfl
   rw[Array.toList_eraseIdxIfInBounds,e1,←hl,List.eraseIdx_append_of_length_le (DH _)]
   simp
  refine h aa ⟨m3,m4,m5,?_,R.le⟩ ?_
  ·rw [e]
   exact pr1.join ⟨rfl,Nat.add_pos_left hA _,by rw[←Nat.add_assoc];exact qH⟩
  ·rw[←Wn,←Wn,e,hp];simp;lia
 unfold mergeAt'
 refine wpS_bind (wpS_get ?_)
 rw[x1,x2]
 dsimp only
 refine wpS_bind (wpS_set ?_)
 have lq:aG+na<(Sm st).size:=by lia
 refine wpS_bind (za0 (getElem?_pos Ps (aG+na) lq) ?_)
 refine wpS_bind (zcr (arr:=arrOf st) (base:=aG) (n:=na) (hint:=0) C R.kind oA (mem _ lq) Gg hA λk k1=>?_)
 refine zan (λc1=>wpS_pure Eb) λc1=>?_
 have uo:¬na-k=0:=λz=>c1 Hv
 have hla:aG+k+(na-k)-1<(Sm st).size:=by lia
 refine wpS_bind (za0 (getElem?_pos Ps (aG+k+(na-k)-1) hla) ?_)
 refine wpS_bind (zcr (arr:=arrOf st) (base:=aG+na) (n:=nb) (hint:=nb-1) C R.kind oA (mem _ hla) Gg Gg λm n1=>?_)
 refine zan (λc2=>wpS_pure Eb) λc2=>?_
 have c2':¬m=0:=λz=>c2 Hv
 have oT:(Sm st).toList=(Sm st).toList.take (aG+k)++((((Sm st).extract (aG+k) (aG+na)).toList++((Sm st).extract (aG+na) (aG+na+m)).toList)++(Sm st).toList.drop (aG+na+m)):=by
  rw[←Qx,←Qx,zfy Gg Gg,zfy Gg Gg,Wc]
 have oX:=of_ext R.perm (aG+k) (aG+na)
 have oY:=of_ext R.perm (aG+na) (aG+na+m)
 have zX:0<((Sm st).extract (aG+k) (aG+na)).size:=by rw[Array.size_extract];lia
 have zY:0<((Sm st).extract (aG+na) (aG+na+m)).size:=by rw[Array.size_extract];lia
 have done:∀(res:Array Keyed) (aa:SortSt),res.toList.Perm (((Sm st).extract (aG+k) (aG+na)).toList++((Sm st).extract (aG+na) (aG+na+m)).toList)→SG (KU (((HS st).setIfInBounds i (aG,na+nb,pw)).eraseIdxIfInBounds Hj) (gallopOf st) (AC st)) aa →
   wpS GJ A E s (do
    modify λz=>SortSt.mk' (kindOf z) (res.toList.zipIdx.foldl (λ(a:Array Keyed) (q:Keyed×Nat)=>a.setIfInBounds (aG+k+q.2) q.1) (Sm z)) (HS z) (gallopOf z) (AC z)
    let z ←get
    pure (AC z).isNone) Q aa:=by
  intro res aa mg ⟨g,est⟩
  subst est
  refine wpS_bind (wpS_modify (wpS_bind (wpS_get ?_)))
  have mY:failedOf st=none:=R.failed
  show wpS _ _ _ _ (pure (AC st).isNone) _ _
  rw[mY]
  refine wpS_pure (fin _ R.kind rfl ?_ rfl)
  have pb:=put_back (sa:=aG+k) res.toList 0 Ps _ _ _ oT (by rw[Zq,Wn];lia) mg.length_eq.symm
  refine Ym.mpr (List.Perm.trans ?_ (Ym.mp R.perm))
  refine List.Perm.trans (List.Perm.of_eq pb) ?_
  conv=>rhs;rw[oT]
  exact V' (MH mg)
 exact zan (λ_=>wpS_bind (wpS_mergeLo C R.kind oX oY zX zY done)) λ_=>wpS_bind (wpS_mergeHi C R.kind oX oY zX zY done)
def PL.congr:∀{ps kC:List (Nat×Nat×Nat)} {off:Nat},(ps.map λq=>(q.1,q.2.1))=(kC.map λq=>(q.1,q.2.1))→PL ps off tot→PL kC off tot:=by
 intro ps
 induction ps with
 |nil =>
  intro kC off e h
  cases kC with
  |nil=>exact h
  |cons q r=>cases e
 | cons q ps ih =>
  intro kC off e h
  cases kC with
  |nil=>cases e
  |cons q' r =>
   rw[Qm,Qm]at e
   obtain⟨e1,e2⟩:=List.cons.inj e
   obtain⟨e3,e4⟩:=Uz e1
   exact⟨e3.symm.trans h.1,e4▸h.2.1,ih e2 (e4▸h.2.2)⟩
def map_mod(f:Nat×Nat×Nat→Nat×Nat×Nat)(hf:∀q,((f q).1,(f q).2.1)=(q.1,q.2.1))(l:Sg (Nat×Nat×Nat))(i:Nat):((l.modify i f).map λq=>(q.1,q.2.1))=l.map λq=>(q.1,q.2.1):=by
 apply List.ext_getElem?
 intro k
 rw[Qo,Qo,List.getElem?_modify]
 cases l[k]? with
 |none=>simp
 |some q =>
  by_cases e:i=k
  ·simp[e];exact Uz (hf q)
  ·simp[e]
def Rn.mod{tot:Nat}{st:SortSt}(R:QV st)(i:Nat)(f:Nat×Nat×Nat→Nat×Nat×Nat)(hf:∀q,((f q).1,(f q).2.1)=(q.1,q.2.1)):QV (setPending st ((HS st).modify i f)) :=
 ⟨R.kind,R.failed,R.perm,by
  show PL ((HS st).modify i f).toList 0 tot
  rw[Array.toList_modify]
  exact R.pend.congr (map_mod f hf _ i).symm,R.le⟩
def zf7{st:SortSt}{Q:Unit→SortSt→Prop}(C:QP a₀)(hk:kindOf st=kd)(hf:failedOf st=none)(hp:(Sm st).Perm a₀)(cg:pendingOf st=#[])(h:∀aa,(Sm aa).Perm a₀→failedOf aa=none→Q () aa):ZM sortRuns' Q st:=by
 have R0:Rn kd a₀ 0 st:=⟨hk,hf,hp,by rw[cg];rfl,RP⟩
 rw[sortRuns'_eq]
 refine wpS_bind (wpS_get ?_)
 dsimp -zeta only
 have hz:(Sm st).size=a₀.size:=hp.size_eq
 rw[hz]
 refine wpS_bind (wpS_mono (wpS_forRange
  (I:=λx c aa=>Ex1 λtot=>Aj3 (c=(none,tot)) (QV aa) (x≤tot))
  (Q:=λc aa=>Ex1 λtot=>Aj3 (c=(none,tot)) (QV aa) (a₀.size≤tot)) ?step ?fin ⟨0,rfl,R0,RP⟩) ?post)
 case fin =>
  rintro c aa ⟨tot,rfl,R,hx⟩
  exact⟨tot,rfl,R,Gg⟩
 case step =>
  rintro x c bh _ hx ⟨tot,rfl,R,hx2⟩
  refine zdd λQ0 bD=>?_
  refine zan (λc0=>wpS_pure (Tk ⟨tot,rfl,R,c0⟩)) λc0=>?_
  have B0:MC bh:=⟨R.kind,R.failed,rfl,R.perm⟩
  refine wpS_bind (wpS_count (lo:=tot) (nrem:=a₀.size-tot) C Gg Gg B0 λm bf B2 m1 m2=>?_)
  dsimp -zeta only
  extract_lets -underBinder +onlyGivenNames n0 jp
  have nF:∀(n':Nat) (aw:SortSt),1≤n'→tot+n'≤a₀.size→MC aw→ZM (jp () n') Q0 aw:=by
   intro n' aw l1 l2 B3
   have R3:QV aw:=⟨B3.kind,B3.failed,B3.perm,by rw[B3.pend];exact R.pend,R.le⟩
   have push:∀aX,QV aX→Rn kd a₀ (tot+n') (setPending aX ((HS aX).push (tot,n',0))):=λaX R4 =>
    ⟨R4.kind,R4.failed,R4.perm,by show PL ((HS aX).push _).toList 0 _;rw[Jx];exact R4.pend.join ⟨rfl,l1,rfl⟩,l2⟩
   refine wpS_bind (wpS_get ?_)
   extract_lets -underBinder +onlyGivenNames jp2
   have nE:∀aX,QV aX→ZM (jp2 ()) Q0 aX:=λaX R4=>wpS_bind (wpS_modify (wpS_pure (Tk ⟨tot+n',rfl,push aX R4,Gg⟩)))
   cases(HS aw).back? with
   |none=>exact nE _ R3
   | some q =>
    obtain⟨s1,n1,o1⟩:=q
    refine wpS_bind (wpS_mono (wpS_forRange (I:=λ_ c aX=>Aj2 (c=(none,())) yH) (Q:=λc aX=>Aj2 (c=(none,())) yH) ?istep (λ_ _ z=>z) ⟨rfl,R3⟩) ?ipost)
    case istep =>
     rintro y c aX _ _ ⟨rfl,R4⟩
     refine zdd λQ1 gK=>wpS_bind (wpS_get ?_)
     dsimp only
     by_cases hs:(HS aX).size>1
     ·rw [Rv hs,getElem?_pos (HS aX) ((HS aX).size - 2) Gg]
      refine zan (λ_=>wpS_pure (gK _ _ ⟨rfl,R4⟩)) λ_=>wpS_bind (zf8 C R4 Gg λdq R5 _=>?_)
      exact zan (λz=>absurd z Gj) λ_=>wpS_pure (gK _ _ ⟨rfl,R5⟩)
     ·rw [Rm hs]
      exact wpS_pure (gK _ _ ⟨rfl,R4⟩)
    case ipost =>
     rintro c aX ⟨rfl,R4⟩
     exact wpS_bind (wpS_modify (nE _ (R4.mod _ _ λq=>rfl)))
  refine zan (λc1=>?_) λc1=>nF m bf m1 Gg B2
  have uo:m<minRun' a₀.size a₀.size 0:=c1
  refine wpS_bind (wpS_lift (wpAny_rule ⟨rfl,?_⟩))
  refine wpS_bind (wpS_binary (lo:=tot) (n:=min (a₀.size-tot) (minRun' a₀.size a₀.size 0)) C Gg B2 λaw B3=>?_)
  exact zan (λz=>absurd z Gj) λ_=>nF _ aw Gg Gg B3
 case post =>
  rintro c bh ⟨tot,rfl,R,hx⟩
  refine wpS_bind (wpS_mono (wpS_forRange (I:=λ_ c aX=>Aj2 (c=(none,())) yH) (Q:=λc aX=>Aj2 (c=(none,())) yH) ?istep (λ_ _ z=>z) ⟨rfl,R⟩) ?ipost)
  case istep =>
   rintro y c aX _ _ ⟨rfl,R4⟩
   refine zdd λQ1 gK=>wpS_bind (wpS_get ?_)
   dsimp only
   refine zan (λ_=>wpS_pure (gK _ _ ⟨rfl,R4⟩)) λhs=>wpS_bind (zf8 C R4 ?_ λdq R5 _=>?_)
   ·repeat' split
    all_goals lia
   ·exact zan (λz=>absurd z Gj) λ_=>wpS_pure (gK _ _ ⟨rfl,R5⟩)
  case ipost =>
   rintro c aX ⟨rfl,R4⟩
   exact wpS_pure (h aX R4.perm R4.failed)
end
end Tm
end
section
namespace Tm
open PySem PyProof.Rows PySem.W
section
variable{O:KeyOrd}{kf:Nat→O.α}{n:Nat}{s:Ni}{cmp:Nat→Nat→(Bool→Shared→Prop)→Shared→Prop}
def kk(kf:Nat→O.α)(p:Array Nat)(i:Nat):O.α:=kf Pt
def kk_rev{p:Array Nat}{i j:Nat}(hj:j≤p.size)(k:Nat):Q3 (kas_rev p i j) k=if i≤k∧k<j then QL (i+j-1-k) else QL k:=by
 unfold kk kas_rev
 simp only[Ue,getElem?_mirror_all hj k]
 split<;>rfl
def kk_bub(hs:a<p.size)(hd:d≤a)(k:Nat):Q3 (bubble p a d) k=if k=a-d then QL a else if a-d<k∧k≤a then QL (k-1) else QL k:=by
 unfold kk
 simp only[Ue,getElem?_bubble hs d hd k]
 repeat' split
 all_goals rfl
def Up(kf:Nat→O.α)(p:Array Nat)(k:Nat):Prop:=∀i j,i≤j→j<k→Nz (QL j)
def Dn(kf:Nat→O.α)(p:Array Nat)(k:Nat):Prop:=∀i j,i≤j→j<k→O.kle (QL j) zL
def Up.snoc{p:Array Nat}{a:Nat}(h1:1≤a)(h:XW a)(e:O.kle (QL (a-1)) (QL a)):XW (a+1):=λi j cG hj=>by
 by_cases z:j<a
 ·exact h i j cG z
 obtain rfl:j=a:=by lia
 by_cases z2:i=j
 ·subst z2;exact Kj _
 ·exact Jd (h i (j-1) Gg Gg) e
def Dn.snoc{p:Array Nat}{a:Nat}(h1:1≤a)(h:NA a)(e:O.kle (QL a) (QL (a-1))):NA (a+1):=λi j cG hj=>by
 by_cases z:j<a
 ·exact h i j cG z
 obtain rfl:j=a:=by lia
 by_cases z2:i=j
 ·subst z2;exact Kj _
 ·exact Jd e (h i (j-1) Gg Gg)
structure Ar(n:Nat)(p:Array Nat):Prop where
 sz:p.size=n
 lt:∀i,0<n→p.getD i 0<n
 pm:p.Perm Aa
def Ar.of(h:p.Perm Aa):Xw p:=by
 have z:p.size=n:=by rw[h.size_eq];simp
 refine⟨z,λi h0=>?_,h⟩
 by_cases hi:i<p.size
 ·have:p[i]∈List.range n:=(Ym.mp h).mem_iff.mp Gf
  rw[Ue,getElem?_pos p i hi]
  exact Wh.mp this
 ·rw[Ue,getElem?_neg p i hi];exact h0
def Ar.rev{p:Array Nat}(h:Xw p)(i j:Nat):Xw (kas_rev p i j):=.of ((mirror_perm _ _ _ _).trans h.pm)
def Ar.bub(h:Xw p)(i j:Nat):Xw (bubble p i j):=.of ((bubble_perm _ _ _).trans h.pm)
variable(h0:0<n)(hc:∀i j C,i<n→j<n→C (O.blt (kf i) (kf j)) s→cmp i j C s)
include h0 hc
theorem t_ask{p:Array Nat}(P:Xw p){α:Type}{i j:Nat}{k:Bool→KasT α}{Q:α→Shared→Prop}(h1:O.klt zL (QL j)→(k true).kasWp cmp Q s)(h2:O.kle (QL j) zL→(k false).kasWp cmp Q s):(KasT.ask Pt (p.getD j 0) k).kasWp cmp Q s:=by
 refine hc _ _ _ (P.lt _ h0) (P.lt _ h0) ?_
 cases e:O.blt (kf Pt) (kf (p.getD j 0)) with
 |true=>exact h1 e
 |false=>exact h2 e
theorem t_asc(P:Xw p){Q:Nat→Shared→Prop}:∀(f a:Nat),1≤a→a+f≤n→XW a→(∀m,a≤m→m≤a+f→XW m→(m=a+f∨O.klt (QL m) (QL (m-1)))→Q m s)→(kas_asc p f a).kasWp cmp Q s
 |0,a,_,_,hs,h=>h a GV GV hs Hf
 |f+1,a,h1,hn,hs,h=>BF (λe=>h a GV Gg hs (RG e)) λe=>t_asc P f (a+1) Gg Gg (hs.snoc h1 e) λm h2 h3=>h m Gg Gg|>λq h4 h5=>q h4 (h5.imp Gg id)
theorem t_desc{Q:Array Nat×Nat×Nat→Shared→Prop}:∀(f:Nat) (p:Array Nat) (a q:Nat),Xw p→1≤a→a+f≤n→NA a→q<a→(∀i,a-(q+1)≤i→i<a→QL i=QL (a-1))→(∀p' m q',Xw p'→a≤m→m≤a+f→Dn kf p' m→q'<m→(∀i,m-(q'+1)≤i→i<m→Q3 p' i=Q3 p' (m-1))→Q (p',m,q') s)→(kas_desc f p a q).kasWp cmp Q s
 |0,p,a,q,P,_,_,hs,hq,he,h=>h p a q P GV GV hs hq he
 | f+1,p,a,q,P,h1,hn,hs,hq,he,h=>by
  have again:∀p',Xw p'→Dn kf p' (a+1)→∀q'<a+1,(∀i,a+1-(q'+1)≤i→i<a+1→Q3 p' i=Q3 p' (a+1-1))→(kas_desc f p' (a+1) q').kasWp cmp Q s:=λp' P' bv q' cQ aU=>t_desc f p' (a+1) q' P' Gg Gg bv cQ aU λp2 m q2 P2 h3 h4=>h p2 m q2 P2 Gg Gg
  have one:∀(p':Array Nat) (i:Nat),a+1-(0+1)≤i→i<a+1→Q3 p' i=Q3 p' (a+1-1):=λp' i h2 h3=>by rw[show i=a+1-1 by lia]
  refine BF (λe=>?_) λe=>?_
  ·rw [CZ]
   have same:∀k,Q3 (kas_rev p (a-(q+1)) a) k=QL k:=λk=>by
    rw[kk_rev (by rw[P.sz];lia)]
    split
    ·rw[he _ Gg Gg,he k Gg Gg]
    ·rfl
   split
   ·refine again _ (P.rev _ _) (fun i j cG hj=>?_) 0 Gg (one _)
    rw[same,same]
    exact hs.snoc h1 (Kp e) i j cG hj
   ·exact again _ P (hs.snoc h1 (Kp e)) 0 Gg (one _)
  ·rw [Rm Gf]
   refine BF (λe2=>?_) λe2=>?_
   ·rw[if_pos rfl];exact h p a q P GV Gg hs hq he
   ·rw [Rm Gf]
    have eq:=KeyOrd.kle_antisymm e2 e
    refine again _ P (hs.snoc h1 e2) (q+1) Gg λi h2 h3=>?_
    rw[Nat.add_sub_cancel]
    by_cases z:i=a
    ·rw[z]
    ·rw[he i Gg Gg,eq]
theorem t_tail(P:Xw p)(h1:1≤m)(hm:m≤n)(hs:NA m)(h:∀p' k,Xw p'→1≤k→k≤n→Up kf p' k→Q (k,p') s):(kas_tail3 m n p).kasWp cmp Q s:=by
 unfold kas_tail3
 rw[Kz]
 refine t_asc h0 hc AF _ m h1 Gg (λi j cG hj=>?_) λk h2 h3 h4 _=>h _ k AF Gg Gg h4
 rw[kk_rev (by rw[P.sz];lia),kk_rev (by rw[P.sz];lia),if_pos Gg,if_pos Gg]
 exact hs _ _ Gg Gg
theorem t_dpart(P:Xw p)(hm:m+1≤n)(hs:NA (m+1))(h:∀p' k,Xw p'→1≤k→k≤n→Up kf p' k→Q (k,p') s):(kas_descPart m n p).kasWp cmp Q s:=by
 unfold kas_descPart
 rw[Kz]
 refine t_desc h0 hc _ p (m+1) 0 P Gg Gg hs Gg (λi h2 h3=>by rw[show i=m+1-1 by lia]) λp' k q P' h2 h3 bv hq he=>?_
 dsimp only
 split
 ·refine t_tail h0 hc (P'.rev _ _) Gg Gg (fun i j cG hj=>?_) h
  have same:∀i,Q3 (kas_rev p' (k-(q+1)) k) i=Q3 p' i:=λi=>by
   rw[kk_rev (by rw[P'.sz];lia)]
   split
   ·rw[he _ Gg Gg,he i Gg Gg]
   ·rfl
  rw[same,same]
  exact bv i j cG hj
 ·exact t_tail h0 hc P' Gg Gg bv h
theorem t_count(P:Xw p){Q:Nat×Array Nat→Shared→Prop}(h:∀p' k,Xw p'→1≤k→k≤n→Up kf p' k→Q (k,p') s):(kas_count n p).kasWp cmp Q s:=by
 unfold kas_count
 rw[Kz]
 refine t_asc h0 hc P _ 1 GV Gg (λi j cG hj=>by rw[show i=j by lia];exact Kj _) λm h1 h2 hs hor=>?_
 split
 ·exact h p m P h1 Gg hs
 rename_i ax
 have nj:m≠n:=by simpa using ax
 have ad:=hor.resolve_left Gg
 split
 ·refine BF (fun _=>?_) fun e=>?_
  ·rw[if_pos rfl];exact h p m P h1 Gg hs
  ·rw [Rm Gf]
   have all:∀k,k<m→QL k=QL (m-1):=λk hk=>KeyOrd.kle_antisymm (hs k (m-1) Gg Gg) (Jd e (hs 0 k Gg hk))
   have same:∀k,Q3 (kas_rev p 0 m) k=QL k:=λk=>by
    rw[kk_rev (by rw[P.sz];lia)]
    split
    ·rw[all _ Gg,all k Gg]
    ·rfl
   refine t_dpart h0 hc AF Gg (Dn.snoc h1 (λi j cG hj=>?_) (by rw[same,same];exact Kp ad)) h
   rw[same,same,all i Gg,all j hj]
   exact Kj _
 ·obtain rfl:m=1:=by lia
  exact t_dpart h0 hc P Gg (Dn.snoc GV (λi j cG hj=>by rw[show i=j by lia];exact Kj _) (Kp ad)) h
theorem t_place{k:Nat}(P:Xw p)(hs:XW k){Q:Nat→Shared→Prop}:∀(f l r:Nat),l≤r→r≤k→r-l≤f→(∀i,i<l→Nz (QL k))→(∀i,r≤i→i<k→O.klt (QL k) zL)→(∀l,l≤k→(∀i,i<l→Nz (QL k))→(∀i,l≤i→i<k→O.klt (QL k) zL)→Q l s)→(kas_place p k f l r).kasWp cmp Q s
 |0,l,r,h1,h2,h3,h4,h5,h=>h l Gg h4 λi q=>h5 i Gg
 | f+1,l,r,h1,h2,h3,h4,h5,h=>by
  unfold kas_place
  split
  ·exact h l Gg h4 λi q=>h5 i Gg
  ·refine BF (fun e=>?_) fun e=>?_
   ·rw [CZ]
    exact t_place P hs f l _ Gg Gg Gg h4 (λi q1 q2=>KeyOrd.klt_of_klt_of_kle e (hs _ _ q1 q2)) h
   ·rw [Rm Gf]
    exact t_place P hs f _ r Gg h2 Gg (λi q=>Jd (hs i ((l+r)/2) Gg Gg) e) h5 h
theorem t_bin(h:∀p,Xw p→XW n→Q p s):∀(f:Nat) (p:Array Nat) (k:Nat),Xw p→XW k→k+f=n→(kas_bin f p k).kasWp cmp Q s
 |0,p,k,P,hs,e=>h p P (by rwa[←e])
 | f+1,p,k,P,hs,e=>by
  unfold kas_bin
  rw[Kz]
  refine t_place h0 hc P hs k 0 k Gg Gg Gg (λi q=>absurd q Gg) (λi q1 q2=>absurd q2 Gg) λl hl kX hhi=>t_bin h f _ (k+1) (P.bub _ _) (λi j cG hj=>?_) Gg
  have hk:k<p.size:=by rw[P.sz];lia
  rw[kk_bub hk Gg,kk_bub hk Gg,show k-(k-l)=l by lia]
  repeat' split
  all_goals first
   |(exfalso;lia)
   |exact Kj _
   |exact kX _ (by lia)
   |exact Kp (hhi _ (by lia) (by lia))
   |exact hs _ _ (by lia) (by lia)
theorem t_sort(h:∀p,Xw p→XW n→Q p s):(kas_sort n).kasWp cmp Q s:=by
 unfold kas_sort
 rw[Kz]
 refine t_count h0 hc (.of CV) λp k P h1 h2 hs=>?_
 dsimp only
 split
 ·exact t_bin h0 hc h _ p _ P (by rwa[Nat.max_eq_left h1]) Gg
 ·exact h p P (by rwa[show k=n by lia]at hs)
end
open AutoSeq1 (wpAny_loadPart')
open MeetsSeq MeetsSeq2 MeetsSeq3 SeqRoads2
section
variable{prog:Nk}{w:Nl}{A:Np}{E:Nc}{s:Ni}{R:List Value→Prop}{vs:Nj}
structure zcc(prog:Nk)(w:Nl)(A:Np)(E:Nc)(s:Ni)(R:List Value→Prop)(vs:Nj):Prop where
 few:vs.length<2→R vs
 go:2≤vs.length→∃kd:SortKind,(∀Q:SortKind→Shared→Prop,Q kd s→ZG TQ Q E s) ∧
  ∀Q:Unit→SortSt→Prop,(∀aa,(Sm aa).Perm S'→failedOf aa=none→R ((Sm aa).toList.map (·.2))→Q () aa)→ZM sortRuns' Q (SortSt.mk' kd IJ #[] 7 none)
def zd1(vs:Nj):(pairsOf vs).toList=vs.map λv=>(v,v):=by
 rw[pairsOf_toList]
 induction vs with
 |nil=>rfl
 |cons v r ih=>rw[Jp,Qm,ih]
def perm_back{l:List Keyed}{vs:Nj}(h:l.Perm (vs.map λv=>(v,v))):(CF (·.2)).Perm vs:=by
 have:=h.map (·.2)
 rwa[Zj,show((λ(p:Keyed)=>p.2)∘λv=>(v,v))=id from rfl,List.map_id]at this
def cmp_of{kd:SortKind}(h:∀x y,x∈vs→y∈vs→∀(Q:Bool→Shared→Prop) (E':Value→Shared→Prop),(∀b,Q b s)→ZG Iv Q E' s):QP S':=by
 intro x y st Q hx hy hk q
 rw[zd1]at hx hy
 obtain⟨v,hv,rfl⟩:=Qh.mp hx
 obtain⟨u,hu,rfl⟩:=Qh.mp hy
 rw[lt'_eq]
 refine wpS_bind (wpS_get ?_)
 rw[hk]
 refine wpS_bind (wpS_lift (wpAny_attempt (h v u hv hu _ _ λb=>⟨rfl,?_⟩)))
 exact wpS_pure (q b)
def zcc.any(h:2≤vs.length→∃kd:SortKind,(∀Q:SortKind→Shared→Prop,Q kd s→ZG TQ Q E s)∧∀x y,x∈vs→y∈vs→∀(Q:Bool→Shared→Prop) (E':Nc),(∀b,Q b s)→ZG Iv Q E' s):U' s (λ_=>True) vs :=
 ⟨fun _=>trivial,fun h2=>by
  obtain⟨kd,a1,a2⟩:=h h2
  exact⟨kd,a1,λQ q=>zf7 (cmp_of a2) rfl rfl CV rfl λaa p1 p2=>q aa p1 p2 trivial⟩⟩
def zcc.ord{O:KeyOrd}{kv:Value→O.α}(h:2≤vs.length→∃ kd:SortKind,(∀ Q:SortKind→Shared→Prop,Q kd s→ZG TQ Q E s)∧∀ x y,x∈vs→y∈vs→∀ (Q:Bool→Shared→Prop) (E':Nc),Q (O.blt (kv x) (kv y)) s→ZG Iv Q E' s):U' s (fun ws=>vs.length < 64→ws.Pairwise fun x y=>O.kle (kv x) (kv y)) vs:=by
 refine⟨λh2 _=>?_,λh2=>?_⟩
 ·obtain _ | ⟨v,_ | ⟨v',r⟩⟩:=vs
  ·exact List.Pairwise.nil
  ·exact Xg _ _
  ·exact absurd h2 Gf
 obtain⟨kd,a1,a2⟩:=h h2
 refine⟨kd,a1,λQ q=>?_⟩
 by_cases qh:vs.length<64
 ·have at_:∀ i,i < vs.length→vs.getD i .none∈vs:=fun i hi=>by
   rw[Zd,Qd hi]
   exact Qs hi
  have st0:SortSt.mk' kd IJ #[] 7 none=kas_st kd S' (List.toArray (List.range vs.length)):=by
   unfold kas_st
   rw[←pairsOf_size vs,kas_range]
   rfl
  rw[st0]
  refine kas_runs (κ:=kd) (it:=pairsOf vs) (E:=E) (Q:=λr st s'=>s'=s∧Q r st) (G:=λp s'=>Aj3 (s'=s) (Ar vs.length p) (Up (O:=O) (λi=>kv EG) p vs.length)) h2 qh (λp aa s' hz ha hf ⟨hs,P,U⟩=>⟨hs,q aa ?_ hf λ_=>?_⟩) (t_sort (O:=O) (kf:=λi=>kv EG) Gg (λi j C hi hj hC=>?_) λp P U=>⟨rfl,P,U⟩)
  ·have:=(Ym.mp P.pm).map (kas_item S')
   rw[←Xk,←Xk,←pairsOf_size vs,kas_range]at this
   rw[ha]
   exact Ym.mpr this
  ·rw [ha,Xk,Zj,Ur,Kq]
   intro i j hi hj cG
   have e:∀k (hk:k<p.toList.length),kv ((kas_item S' p.toList[k]).2)=kk (λi=>kv EG) p k:=λk hk=>by
    unfold kk
    rw[kas_item_eq,Ue,getElem?_pos p k yB]
    rfl
   show O.kle (kv _) (kv _)
   dsimp only[Function.comp]
   rw[e i hi,e j hj]
   exact U i j (Wu cG) (by simpa[P.sz] using hj)
  ·unfold kas_cmp
   rw[kas_item_eq,kas_item_eq]
   exact a2 _ _ (at_ i hi) (at_ j hj) _ _ hC
 ·exact zf7 (cmp_of λx y hx hy Q' E' q'=>a2 x y hx hy Q' E' (q' _)) rfl rfl CV rfl λaa p1 p2=>q aa p1 p2 λz=>absurd z qh
abbrev strO:KeyOrd:=strKind.toKeyOrd
def kvS(v:Value):List Nat:=(strOf v).cps.toList
def zem(hv:∀v∈vs,∃x t,v=.str x t):U' s (λws=>vs.length<64→ws.Pairwise λx y=>strO.kle (kvS x) (kvS y)) vs:=by
 refine .ord λh2=>⟨oneType',λQ q=>kas_kind (T:=.type "str") h2 (λv hm=>?_) Gj Gj q,λx y hx hy Q E' q=>?_⟩
 ·obtain ⟨x,t,rfl⟩:=hv v hm
  exact Looks.of_pure rfl
 ·obtain ⟨a,t,rfl⟩:=hv x hx
  obtain⟨b,u,rfl⟩:=hv y hy
  rw[keyLt'_oneType]
  exact oneLt_str q
def sort_list{a:Nb}{n:Nat}{P:Fin→Shared→Prop}(ho:s.heap.get? a=some (seqObj "list" vs.toArray n))(hz:vs.length≤sizeLine)(hS:∀s':Shared,(∀b o,b≠a→s.heap.get? b=some o→s'.heap.get? b=some o)→U' s' R vs)(h:∀ws:List Value,ws.Perm vs→R ws→P (.done EH) {s with heap:=sortedHeap s.heap a vs ws.toArray}) :
  wpAny GJ A (Builtin.«list.sort» ⟨[Rg],[]⟩) P E s:=by
 have lt:a<s.heap.objs.size:=Qv ho
 rw[list_sort_plain]
 refine wpAny_bind (listItems_at ho rfl (RS (listUpdate_at ho rfl ?_ (hsz:=by simpa using hz) (hsz2:=by simp))))
 obtain⟨e1,k1⟩:∃e,(s.heap.update a (Obj.mapSeq λ_=>#[])).get? a=some (seqObj "list" #[] e):=⟨_,get?_update_seq ho λ_=>#[]⟩
 refine wpAny_bind (yI k1 (wpAny_bind (wpAny_newTuple (RS (wpAny_newList (wpAny_holding ?_))))))
 show ZG _ P E {s with heap:=((s.heap.update a (Obj.mapSeq λ_=>#[])).push (seqObj "tuple" vs.toArray 0)).push (seqObj "list" #[] 0)}
 generalize hg:((s.heap.update a (Obj.mapSeq λ_=>#[])).push (seqObj "tuple" vs.toArray 0)).push (seqObj "list" #[] 0)=g
 have k6:g.get? a=some (seqObj "list" #[] e1):=by
  rw[←hg]
  exact WG (WG k1)
 have kk:∀b o,b≠a→s.heap.get? b=some o→g.get? b=some o:=λb o hb e=>by
  rw[←hg]
  exact WG (WG ((Yf s.heap _ Pn).trans e))
 have eh:∀out,sortedHeap s.heap a vs out=g.update a (Obj.mapSeq λ_=>out):=λout=>by rw[←hg];rfl
 have S:=hS {s with heap:=g} kk
 dsimp only
 have fin:∀(l:Array Keyed),l.toList.Perm (vs.map λv=>(v,v))→R (l.toList.map (·.2))→P (.done EH) {s with heap:=g.update a (Obj.mapSeq λ_=>l.map (·.2))}:=λl p1 p2=>by
  have:=h _ (perm_back p1) p2
  rw[eh]at this
  rw[show l.map (·.2)=(l.toList.map (·.2)).toArray by rw[←Xk]]
  exact this
 have lz:vs.toArray.size=vs.length:=Qw
 have szOk:∀l:Array Keyed,l.toList.Perm (vs.map λv=>(v,v))→(CF (·.2)).size≤sizeLine+1:=λl p1=>by
  rw[Array.size_map,←Wn,p1.length_eq,Qa];exact zar16 ‹_›
 by_cases few:vs.toArray.size<2
 ·rw [Rv few,Rv few]
  refine wpAny_bind (wpAny_pure ?_)
  rw[StateT.run_pure]
  have pr:(pairsOf vs).toList.Perm (vs.map λv=>(v,v)):=by rw[zd1]
  refine wpAny_bind (Rr (wpAny_bind (yI k6 (RS (listUpdate_at k6 rfl ?_ (hsz:=by simp) (hsz2:=szOk (pairsOf vs) pr))))))
  simp only[bne_self_eq_false,Js,if_false]
  refine wpAny_pure (fin S' pr ?_)
  rw[zd1,Zj,show((λ(p:Keyed)=>p.2)∘λv=>(v,v))=id from rfl,List.map_id]
  exact S.few (by rw[←lz];exact few)
 ·rw [Rm few,Rm few]
  obtain⟨kd,ask,C⟩:=S.go Gg
  refine wpAny_bind (ask _ ?_)
  refine wpAny_bind (wpAny_mono (C (λ_ aa=>Aj3 ((Sm aa).Perm S') (failedOf aa=none) (R ((Sm aa).toList.map (·.2)))) λaa p1 p2 p3=>⟨p1,p2,p3⟩) ?_ λ_ _ e=>e)
  rintro⟨⟨⟩,aa⟩ s' ⟨rfl,p1,p2,p3⟩
  have pr:(Sm aa).toList.Perm (vs.map λv=>(v,v)):=by rw[←zd1];exact Ym.mp p1
  dsimp only
  refine wpAny_bind (yI k6 (RS (listUpdate_at k6 rfl ?_ (hsz:=by simp) (hsz2:=szOk (arrOf aa) pr))))
  rw[p2]
  simp only[bne_self_eq_false,Js,if_false]
  exact wpAny_pure (fin _ pr p3)
def ze5{x:Value}{G:List Value→Prop}{R:List Value→List Value→Prop}{Q:Nc}(tR:∀(E':Nc) (R:List Value→Shared→Prop),(∀(g:No) (tk:Nat) (vs:Nj),GY→s.heap.objs.size≤g.objs.size→G vs→R vs {s with heap:=g,toks:=tk})→ZI A.in1 (collect x) R E' s)(hz:∀vs,G vs→vs.length≤sizeLine)(hS:∀vs,G vs→∀(A':Around) (E':Value→Shared→Prop) (s':Shared),A'.units≤A.units+8→(∀b o,s.heap.get? b=some o→s'.heap.get? b=some o)→DC (R vs) vs)(h:∀(vs ws:Nj) (l:Nb) (g:No) (tk e:Nat),G vs→ws.Perm vs→R vs ws→s.heap.objs.size≤l→GY→g.get? l=some (seqObj "list" ws.toArray e)→Q RH {s with heap:=g,toks:=tk}) :
  wpAny GJ A (call (.builtin "sorted") [x]) Q E s:=by
 refine Calls.call_function_entry kind_sorted plain_sorted entry_sorted (args_sorted1 _) ?_
 unfold Builtin.«sorted»
 refine wpAny_bind (m:=checkCount "sorted" 1 1 _) (wpAny_pure (wpAny_bind (tR _ _ λg tk vs kg le hG=>?_)))
 have hzv:=hz vs hG
 refine wpAny_bind (wpAny_newList ?_ (hsz:=hzv))
 have o1:(g.push (seqObj "list" vs.toArray 0)).get? g.objs.size=some (seqObj "list" vs.toArray 0):=JH rfl
 show ZV _ _ _ _ {s with heap:=g.push (seqObj "list" vs.toArray 0),toks:=tk}
 refine wpAny_bind (wpAny_holding (wpAny_call_entry slot_list_sort ⟨_,o1,rfl⟩ entry_list_sort (sort_list (R:=R vs) o1 hzv (λs' k=>hS vs hG _ _ s' ?_ λb o e=>k b o (λz=>?_) (WG (kg b o e))) λws p1 p2=>⟨_,rfl,?_⟩) (args_list_sort _)))
 ·show A.units+1+1≤A.units+8
  lia
 ·have lt:b < g.objs.size:=Qv (kg b o e)
  rw[z]at lt
  exact absurd lt E6
 ·obtain ⟨e,he⟩:=sortedHeap_at (out:=ws.toArray) o1
  refine wpAny_pure ⟨_,rfl,h vs ws _ _ _ e hG p1 p2 le (λb o q=>?_) he⟩
  have lt:b<g.objs.size:=Qv (kg b o q)
  rw[sortedHeap_old IK (by rw[size_push'];exact Ju lt)]
  exact WG (kg b o q)
def zgx{T:String}{r d:Nb}{n:Nat}{P:Nat→Value→Prop}{OK:Heap→Prop}{R:List Value→Shared→Prop}(K:KdlSrc prog w T r d n P OK)(hh:A.handled=none)(ok:OK s.heap)(hn:n≤sizeLine)(h:∀(g:No) (tk:Nat) (af:Array Value),GY→s.heap.objs.size≤g.objs.size→ItemsOf P af n→R af.toList {s with heap:=g,toks:=tk}) :
  wpAny GJ A (collect (Go r)) R E s:=by
 have there:=K.there _ ok
 unfold collect
 refine wpAny_bind (wpAny_runValue (codeAny_builtin entry_proto_collect' ?_))
 rw[Yv PySem.F.plain_proto_collect _]
 show ZV A.in1 (newList [] >>= λl =>
  again (.builtin "list.__iadd__" ⟨[l,Go r],[]⟩)) _ _ s
 refine wpAny_bind (wpAny_newObj_type (Rr ⟨plainId_quiet PySem.F.plain_list_iadd _,codeAny_builtin entry_list_iadd' ?_⟩))
 rw[Yv PySem.F.plain_list_iadd _]
 show ZV A.in1 (Builtin.List.listExtendWith Gy
  (.ref r) Gy) _ _ _
 have ki:(s.heap.push {cls:=.type "list",data:=.seq ([]:List Value).toArray}).get? s.heap.objs.size=some {cls:=.type "list",data:=.seq #[]}:=JH rfl
 refine wpAny_mono (kdl_extend (A:=A) (s:={s with heap:=s.heap.push {cls:=.type "list",data:=.seq ([]:List Value).toArray}})
  (R:=fun (q:Result) (s':Ni)=>∃ (g:No) (tk:Nat) (af:Array Value) (c:Nat),q=.ok (.ret Gy)∧s'={ s with heap:=g,toks:=tk } ∧
   (∀b o,s.heap.get? b=some o→g.get? b=some o)∧g.get? s.heap.objs.size=some {cls:=.type "list",dict:=none,data:=.seq af c,slots:=#[]}∧ItemsOf P af n)
  K hh (K.keep _ _ ok λb _ o e=>WG e) s.heap.objs.size (Yp there.1) (Yp there.2) Gy 0 ki
  (λg tk af c hk hS ha=>⟨g,tk,af,c,rfl,rfl,λb o e=>hk b o E7 LZ,hS,ha⟩) hn) (λfin s' x=>?_) λe s' x=>?_
 ·cases fin with
  |done f =>
   obtain⟨g,tk,af,c,e,rfl,hk,hS,ha⟩:=x
   cases e
   show ZV A (load s.heap.objs.size >>= _) _ _ _
   exact wpAny_bind Lo
  |again c1 =>
   refine⟨x.1,codeAny_mono x.2 λq s2 y=>?_⟩
   obtain⟨g,tk,af,c,rfl,rfl,hk,hS,ha⟩:=y
   show ZV A (load s.heap.objs.size >>= _) _ _ _
   exact wpAny_bind Lo
 ·obtain ⟨_,_,_,_,e',_⟩:=x
  cases e'
def sorted_any{Q:Nc}(hl:s.heap.IsList l vs.toArray)(hz:vs.length≤sizeLine)(hS:∀(A':Around) (E':Value→Shared→Prop) (s':Shared),A'.units≤A.units+8→(∀b o,s.heap.get? b=some o→s'.heap.get? b=some o)→DC R vs)(h:∀(ws:Nj) (l:Nb) (g:No) (tk e:Nat),ws.Perm vs→R ws→s.heap.objs.size≤l→GY→g.get? l=some (seqObj "list" ws.toArray e)→Q RH {s with heap:=g,toks:=tk}) :
  wpAny GJ A (call (.builtin "sorted") [RH]) Q E s :=
 ze5 (G:=λus=>us=vs) (R:=λ_=>R) (λE' R' hR=>collect_list hl (hR _ _ _ (λb o e=>(Vl (Zk E7)).trans LZ) (by rw[Heap.size_update,size_push'];exact Um _) rfl) hz) (λus e=>e▸hz) (λus e=>e▸hS) λus ws l g tk e e' p1 p2=>h ws l g tk e (e'▸p1) p2
end
def str_ext{a b:Str}(h:a.cps.toList=b.cps.toList):a=b:=by
 cases a;cases b
 exact congrArg _ (Xl.mp h)
def str_ne{a b:Str}(h:¬a=b):¬a.cps.toList=b.cps.toList:=λq=>h (str_ext q)
def pairO(O P:KeyOrd):KeyOrd where
 α:=O.α×P.α
 blt a b:=O.blt a.1 b.1||(!Fy a.1&&P.blt a.2 b.2)
 irrefl a:=by rw[O.irrefl,P.irrefl];rfl
 trans a b c h1 h2:=by
  simp only[Kk,Jf,Jw]at *
  rcases h1 with h1 | ⟨n1,h1⟩
  ·rcases h2 with h2 | ⟨n2,h2⟩
   ·exact .inl (O.trans _ _ _ h1 h2)
   ·exact .inl (KeyOrd.klt_of_klt_of_kle h1 n2)
  ·rcases h2 with h2 | ⟨n2,h2⟩
   ·exact .inl (KeyOrd.klt_of_kle_of_klt n1 h2)
   ·exact .inr ⟨Jd n1 n2,P.trans _ _ _ h1 h2⟩
 negTrans a b c h:=by
  simp only[Kk,Jf,Jw]at *
  rcases h with h | ⟨n,h⟩
  ·rcases O.negTrans _ b.1 _ h with q | q
   ·exact .inl (Rf q)
   ·exact .inr (Rf q)
  ·cases e1:O.blt a.1 b.1 with
   |true=>exact .inl Hf
   | false =>
    cases e2:Fy c.1 with
    |true=>exact .inr Hf
    |false =>
     have n1:Fy a.1=false:=Jd (O:=O) (a:=a.1) (b:=c.1) (c:=b.1) n e2
     have n2:O.blt c.1 b.1=false:=Jd (O:=O) (a:=b.1) (b:=a.1) (c:=c.1) e1 n
     rcases P.negTrans _ b.2 _ h with q | q
     ·exact .inl (RG ⟨n1,q⟩)
     ·exact .inr (RG ⟨n2,q⟩)
 total a b h1 h2:=by
  simp only[Bool.or_eq_false_iff,Bool.and_eq_false_iff,Bool.not_eq_false']at *
  have e1:=O.total _ _ h1.1 h2.1
  obtain⟨a1,a2⟩:=a
  obtain⟨b1,b2⟩:=b
  simp only at e1 h1 h2
  subst e1
  have i:=O.irrefl a1
  rw[i]at h1 h2
  have p1:P.blt a2 b2=false:=h1.2.elim (λz=>by cases z) id
  have p2:P.blt b2 a2=false:=h2.2.elim (λz=>by cases z) id
  rw[P.total _ _ p1 p2]
def ziu(h:No):Value→List Value
 | .ref a=>match h.get? a with
  |some o=>match o.data with
   |.seq xs _=>xs.toList
   |_=>[]
  |none=>[]
 |_=>[]
def itemsAt_ref(e:h.get? a=some o)(d:o.data=.seq xs n):ziu h Rg=xs.toList:=by
 unfold ziu
 dsimp only
 rw[e]
 dsimp only
 rw[d]
def kvP(h:No)(v:Value):List Nat×List Nat:=(kvS ((ziu h v).getD 0 .none),kvS ((ziu h v).getD 1 .none))
def zfv(h:No)(v:Value)(x:Str)(q:Value):Prop:=∃a o t n,v=.ref a∧h.get? a=some o∧o.cls=.type "tuple" ∧ o.data=.seq #[.str x t,q] n
def zfv.key(p:XX q):kvP h v=(x.cps.toList,kvS q):=by
 obtain⟨a,o,t,n,rfl,e,c,d⟩:=p
 unfold kvP
 rw[itemsAt_ref e d]
 rfl
theorem katTups(k:∀b o,h.get? b=some o→s.get? b=some o):∀(vs:Nj),(∀v∈vs,∃x q,XX q)→∃fs,KatTups s vs fs∧fs.length=vs.length∧∀f∈fs,∃x t,f=.str x t
 |[],_=>⟨[],.nil,rfl,λf hf=>by cases hf⟩
 |v::vs,hv=>by
  obtain⟨fs,h1,h2,h3⟩:=katTups k vs λu hu=>hv u (QK hu)
  obtain⟨x,q,a,o,t,n,rfl,e,c,d⟩:=hv v Qb
  refine⟨.str x t::fs,.cons E1 c d rfl h1,by rw[Qu,Qu,h2],λf hf=>?_⟩
  rcases Qf.mp hf with z | z
  ·exact⟨x,t,z⟩
  ·exact h3 f z
section
variable{prog:Nk}{w:Nl}{A:Np}{E:Nc}{s:Ni}{vs:Nj}{h:No}
def kind_tups(k:∀b o,h.get? b=some o→s.heap.get? b=some o)(hv:∀v∈vs,∃x q,XX q)(h2:2≤vs.length)(q:Q (tuples' true) s):ZG TQ Q E s:=by
 obtain⟨fs,h1,h3,h4⟩:=katTups k vs hv
 refine kat_kind (T:=.type "str") h1 Gg (λf hf=>?_) Gj q
 obtain⟨x,t,rfl⟩:=h4 f hf
 exact Looks.of_pure rfl
def blt_p:(DK strO).blt (x,y) (x',y')=if x=x' then decide (y<y') else decide (x<x'):=by
 show(decide (x<x')||(!decide (x'<x)&&decide (y<y')))=_
 split
 ·rename_i e
  subst e
  rw[decide_eq_false (Ww x)];rfl
 ·rename_i ne
  by_cases h1:x<x'
  ·rw[decide_eq_true h1];rfl
  ·rw[decide_eq_false h1,decide_eq_true (Jg λh2=>ne (strO.total _ _ (Sc h1) (Sc h2)))];rfl
def zel(k:∀ b o,h.get? b=some o→s.heap.get? b=some o)(hv:∀ v∈vs,∃ x q,XX q)(hd:∀ v∈vs,∀ u∈vs,∀ x p q,XX p→zfv h u x q→v=u∨∃ y t y' t',p=.str y t∧q=.str y' t'):U' s (fun ws=>vs.length < 64→ws.Pairwise fun x y=>(DK strO).kle (kvP h x) (kvP h y)) vs:=by
 refine .ord λh2=>⟨tuples' true,λQ q=>kind_tups k hv h2 q,λv v' hx hy Q E' q=>?_⟩
 have same:=hd v hx v' hy
 obtain⟨x,z,p⟩:=hv v hx
 obtain⟨x',z',p'⟩:=hv v' hy
 have P:=p
 have P':=p'
 rw[P.key,P'.key,blt_p]at q
 obtain⟨a,o,t,n,rfl,e,c,d⟩:=p
 obtain⟨a',o',t',n',rfl,e',c',d'⟩:=p'
 refine kat_lt E1 d (k _ _ e') d' ?_
 show KatLex _ _ _ _ _ _ [(U2 t,Value.str x' t'),(z,z')] 0 s
 refine kat_cons (wpAny_eqBool_str ?_)
 by_cases ex:x=x'
 ·subst ex
  rw[if_pos rfl]at q
  rw[decide_eq_true rfl]
  refine kat_yes (kat_cons ?_)
  rcases same x z z' P P' with e2 | ⟨y,u,y',u',rfl,rfl⟩
  ·cases e2
   rw[e]at e'
   cases e'
   rw[d]at d'
   have d2:(#[U2 t,z]:Array Value)=#[U2 t',z']:=by injection d'
   have d3:z=z':=by
    have:=congrArg (λa:Array Value=>a[1]?) d2
    simpa using this
   subst d3
   rw[decide_eq_false (Ww _)]at q
   exact SeqAt.EqAt.same z _ _ _ _ (kat_yes (kat_nil q))
  ·refine wpAny_eqBool_str ?_
   by_cases ey:y=y'
   ·subst ey
    rw[show kvS (Dc u')=kvS (Dc u) from rfl,decide_eq_false (Ww _)]at q
    rw[decide_eq_true rfl]
    exact kat_yes (kat_nil q)
   ·rw [Sc ey]
    exact kat_no (kat_one _ _ (lt_str q))
 ·rw [Sc ex]
  rw[if_neg (str_ne ex)]at q
  exact kat_no (oneLt_str q)
end
def lt_loopAt(l b:Nb)(xs ys:Sg (Str×Tok))(n n2:Nat)(k:Nat) :
  ∀ i:Nat,min xs.length ys.length - i=k→i≤min xs.length ys.length→Meets (Builtin.«list.__eq__.loop» ⟨[RH,OL,Ez i,Ez 0],[]⟩)
   (fun A R s=>s.heap.get? l=some { cls:=.type "list",data:=.seq (E2 xs).toArray n }∧s.heap.get? b=some { cls:=.type "list",data:=.seq (E2 ys).toArray n2 } ∧
    ∀z,R (L4 (OC z)) s):=by
 have get:∀(zs:Sg (Str×Tok)) (i:Nat),(E2 zs).toArray[((i:Nat):Int).toNat]?=zs[i]?.map λp=>Value.str p.1 p.2:=λzs i=>by
  simp[strValues]
 induction k with
 | zero =>
  intro i hk fM prog w A R s h
  obtain⟨hp,g,d,tk,os⟩:=s;obtain⟨hl,hb,h⟩:=h
  wp_walk using wpAny_loadPart' hl,wpAny_loadPart' hb
  rw[get,get]
  by_cases hx:i<xs.length
  ·have hy:ys[i]?=none:=by simp;lia
   rw[hy,Qd hx]
   dsimp only[Option.map_some,Option.map_none]
   wp_walk using wpAny_loadPart' hl,wpAny_loadPart' hb
   exact h _
  ·have gy:xs[i]?=none:=by simp;lia
   rw[gy]
   dsimp only[Option.map_some,Option.map_none]
   wp_walk using wpAny_loadPart' hl,wpAny_loadPart' hb
   exact h _
 | succ k ih =>
  intro i hk fM prog w A R s h
  obtain⟨hp,g,d,tk,os⟩:=s;obtain⟨hl,hb,h⟩:=h
  wp_walk using wpAny_loadPart' hl,wpAny_loadPart' hb
  have hx:i<xs.length:=by lia
  have hy:i<ys.length:=by lia
  rw[get,get,Qd hx,Qd hy]
  dsimp only[Option.map_some]
  have hc:((i:Int)+1)=((i+1:Nat):Int):=by push_cast;rfl
  refine wpAny_bind (wpAny_eqBool_str ?_)
  by_cases he:xs[i].1=ys[i].1
  ·rw [HJ he]
   wp_walk
   rw[hc]
   exact⟨plainId_quiet plain_eq_loop _,codeAny_builtin entry_eq_loop (by
    rw[Fz _]
    exact ih Hj Gg Gg prog w A R _ ⟨hl,hb,h⟩)⟩
  ·rw [Sc he]
   wp_walk using wpAny_loadPart' hl,wpAny_loadPart' hb
   rw[get,get,Qd hx,Qd hy]
   dsimp only[Option.map_some]
   refine wpAny_bind (show ZV _ (Op (Value.str xs[i].1 xs[i].2) (Value.str ys[i].1 ys[i].2)) _ _ _ from lt_str ?_)
   wp_walk
   exact h _
def list_ltAt(l b:Nb)(xs ys:Sg (Str×Tok))(n n2:Nat):Meets (Builtin.«list.__lt__» ⟨[RH,OL],[]⟩)
   (fun A R s=>s.heap.get? l=some { cls:=.type "list",data:=.seq (E2 xs).toArray n }∧s.heap.get? b=some { cls:=.type "list",data:=.seq (E2 ys).toArray n2 } ∧
    ∀z,R (L4 (OC z)) s):=by
 intro prog w A R s h
 obtain⟨hp,g,d,tk,os⟩:=s;obtain⟨hl,hb,h⟩:=h
 have f3:=AutoSeq1.sub_list_list
 wp_walk using wpAny_loadPart' hl,wpAny_loadPart' hb
 exact⟨plainId_quiet plain_eq_loop _,codeAny_builtin entry_eq_loop (by
  rw[Fz _]
  exact lt_loopAt l b xs ys n n2 _ 0 rfl RP prog w A R _ ⟨hl,hb,h⟩)⟩
section
variable{prog:Nk}{w:Nl}{A:Np}{E:Nc}{s:Ni}
def zg7{vs:Nj}{h:No}(hu:A.units<cLine)(k:∀b o,h.get? b=some o→s.heap.get? b=some o)(hv:∀v∈vs,∃a xs n,v=.ref a∧h.get? a=some {cls:=.type "list",data:=.seq (E2 xs).toArray n}):U' s (λ_=>True) vs:=by
 refine .any λh2=>⟨oneType',λQ q=>kas_kind (T:=.type "list") h2 (λv hm=>?_) Gj Gj q,λx y hx hy Q E' q=>?_⟩
 ·obtain ⟨a,xs,n,rfl,e⟩:=hv v hm
  exact(Looks.ld E1).andThen .now
 ·obtain ⟨a,xs,n,rfl,e⟩:=hv x hx
  obtain⟨b,ys,m,rfl,e'⟩:=hv y hy
  rw[keyLt'_oneType,oneLt'_eq]
  simp only[if_true]
  refine wpAny_bind (wpAny_cRoomFor hu ?_)
  refine wpAny_bind (wpAny_callSpecialIfBound?_slot ⟨_,E1,rfl⟩ F.slot_list_lt (call_meets F.slot_list_lt ⟨_,E1,rfl⟩ F.entry_list_lt (F.args_list_lt_2 _ _) (list_ltAt a b xs ys n m) ⟨E1,k _ _ e',λz=>?_⟩))
  exact wpAny_truthy_bool (q _)
end
end Tm
end
section
namespace L2
open PySem PySem.Spec PyProof.Rows
def ze0{K:Na}{a:Nb}{zs:Ng}{g:TG}{tb:TS}{D:Ends}{σ:St}{H:Hp}(Pv:Nat→St→Hp→Prop)(h0:Cl)(hl:∀i σ H,i≤(zs.map V.str).length→Pv i σ H→YM Rl)(hs:∀i (hi:i<zs.length) σ H,Pv i σ H→g (.str zs[i]) σ H λ σ2 H2=>tb {D with nx:=Pv Hj,ct:=Pv Hj,bk:=D.nx} σ2 H2)(hd:∀σ H,Pv (zs.map V.str).length σ H→YB H) :
  ∃W:Nat→Nat→St→Hp→Prop,(∃m,W 0 m σ H)∧∀i m σ H,W i m σ H →
   ((K1 a).stop i H∧YB H)∨((K1 a).go i H∧∃N:St→Hp→Prop,GZ∧∀x H',(K1 a).yld i H x H'→g x σ H' λ σ2 H2=>tb {D with nx:=N,ct:=N,bk:=D.nx} σ2 H2) :=
 zbb Pv h0 hl (λi x σ H e p=>by
  have hi:i<zs.length:=by
   have:=(Tl e).1
   rwa[Qa]at this
  rw[Qo,Qd hi]at e
  cases e
  exact hs i hi σ H p) hd
section
variable{X:Cx}
inductive RrIndex(x:V)(vs:List V)(H:Hp)(Q:VK):Prop
 |mk (l:Nb) (xs:List V) (y:V) (j:Nat) (h0:x=.ref l) (h1:vs=[y]) (h2:H l=some (.lst xs)) (h3:zdl y=true) (h4:xs.all zdl=true) (h5:(∃z,xs[j]?=some z∧eqV z y=true)) (h6:(∀m z,m<j→xs[m]?=some z→eqV z y=false)) (h7:Q (.int j) H):RrIndex x vs H Q
def rIndex:V→List V→Hp→VK→Prop:=λx vs H Q=>RrIndex x vs H Q
def ziq:MtM X "list.index" rIndex:=by
 intro a5 s σ H x vs v us Q I rx rv h
 obtain⟨l,xs,y,j,rfl,rfl,hH,fy,fs,⟨z,hz,ez⟩,db,q⟩:=h
 cases rx
 obtain⟨u,rfl,ru⟩:=rv.one
 obtain⟨zz,a7,n,r,hl,e⟩:=I.lstM hH
 have hn:=zev
 obtain⟨wv,hw,cM⟩:=r.get hz
 have hj:j<a7.length:=(Tl hw).1
 have fl:∀{i:Nat} {a:V},xs[i]?=some a→zdl a=true:=λ{i a} q=>Ug.mp fs a (Yd q)
 refine call_meets F.slot_list_index ⟨_,e,rfl⟩ F.entry_list_index (F.args_list_index_2 _ _)
  (SeqAt.list_indexAt l a7.toArray n none #[] u (eqU y) j (Gk hj) Gg ?_ ?_) ⟨e,λa ha=>zd2 ru fy r fs a (Gk ha),?_⟩
 ·have e1:a7[j]=wv:=by
   have:=Qd hj
   rw[this]at hw;exact Qn hw
  show eqU y (a7.toArray[j])=true
  rw[Kg,e1,eqU_of cM (fl hz)]
  exact ez
 ·intro m hm ad
  have sR:m<a7.length:=by simpa using hm
  have bM:m<xs.length:=by exact zar6 ‹_› ‹_›
  have gx:xs[m]?=some xs[m]:=Qd bM
  obtain⟨wm,hwm,rm⟩:=r.get gx
  have e1:a7[m]=wm:=by
   have:=Qd sR
   rw[this]at hwm;exact Qn hwm
  show eqU y (a7.toArray[m])=false
  rw[Kg,e1,eqU_of rm (fl gx)]
  exact db m _ ad gx
 ·exact⟨Ht j,H,Ru,⟨xc⟩,q⟩
inductive RrInsert(x:V)(vs:List V)(H:Hp)(Q:VK):Prop
 |mk (l:Nb) (xs:List V) (y:V) (k:Nat) (h0:x=.ref l) (h1:vs=[.int k,y]) (h2:H l=some (.lst xs)) (h3:xs.length<sizeLine) (h4:k≤xs.length) (h5:Q .non (upd H l (.lst (xs.take k++y::xs.drop k)))):RrInsert x vs H Q
def rInsert:V→List V→Hp→VK→Prop:=λx vs H Q=>RrInsert x vs H Q
def mt_insert:MtM X "list.insert" rInsert:=by
 intro a5 s σ H x vs v us Q I rx rv h
 obtain⟨l,xs,y,k,rfl,rfl,hH,hz,hk,q⟩:=h
 cases rx
 obtain⟨u1,u,rfl,⟨t,rfl⟩,ru⟩:=rv.two
 obtain⟨zz,a7,n,r,hl,e⟩:=I.lstM hH
 have hn:=zev
 obtain⟨i,hi⟩:∃i:Int,i=(k:Int):=⟨_,rfl⟩
 have tH:¬(!Builtin.List.listFitsIndex i)=true:=by
  rw[fitsIndex_both Gg Gg]
  exact Zh
 have hsz:a7.toArray.size≤sizeLine:=by rw[Qw];exact zea ‹_› ‹_›
 have M:=AutoSeq1.list_insert_list_int_val_1 l a7.toArray n i t u tH hsz
 rw[←hi]
 refine call_meets F.slot_list_insert ⟨_,e,rfl⟩ F.entry_list_insert (F.args_list_insert_3 _ _ _) M ⟨e,?_⟩
 refine⟨.non,_,I.lset (its':=a7.take k++u::a7.drop k) hH e ?_ ((r.take k).append (LJ ru (r.drop k))) ?_,rfl,q⟩
 ·have e1:¬ (i < 0):=by lia
  have e2:min i.toNat a7.toArray.size=k:=by rw[Qw];lia
  show(a7.toArray.extract 0 (if i<0 then(i+((a7.toArray.size:Nat):Int)).toNat else min i.toNat a7.toArray.size)).push u++a7.toArray.extract (if i<0 then(i+((a7.toArray.size:Nat):Int)).toNat else min i.toNat a7.toArray.size)=_
  rw[if_neg e1,e2]
  apply Xl.mp
  simp
  rw[Qt (Hx Kd)]
 ·simp;lia
theorem zf9:∀{zs:Ng} {a7:Nj},J' a7→∃l:List (Str×Tok),a7=PySem.strValues l∧l.map (·.1)=zs
 |[],_,.nil=>⟨[],rfl,rfl⟩
 |z::zs,_,.cons r t=>by
  obtain⟨tk,rfl⟩:=r
  obtain⟨l,rfl,e⟩:=zf9 t
  exact⟨(z,tk)::l,rfl,by rw[Qm,e]⟩
def call_isi_str:Y4 (.builtin "isinstance") (λxs H Q=>Ex1 λz=>Aj2 (xs=[E9,.ty "str"]) (Q S1 H)):=by
 intro a5 s σ H xs us Q I r h
 obtain⟨z,rfl,q⟩:=h
 obtain⟨u,w',rfl,⟨t,rfl⟩,e⟩:=vals2 r
 have e':w'=Value.type "str" := e
 subst e'
 exact IsiPair.str_str ⟨S1,H,I,rfl,q⟩
def zfw{a5:Nh}{s:Ni}{σ:St}{H:Hp}{p:Nb}{ys:List V}(hc:X.calm=true)(I:Hb)(hq:WH ys){Q:Nc}(h:∀ (a7:Nj) (It:Nb) (h1:No),YK a7→Walks X.prog X.w X.A.in1 It [It,p] [It] a7.toArray.size (fun i v=>a7.toArray[i]?=some v) (fun i h=>h.IsListIter It p i∧h.IsList p a7.toArray)→(h1.IsListIter It p 0∧h1.IsList p a7.toArray)→(∀ b∈[It,p],b < h1.objs.size) →
   (∀(h':No) (tk:Nat),(∀b o,b∉[It]→h1.get? b=some o→h'.get? b=some o)→ZA H {s with heap:=h',toks:=tk})→Q (Go It) {s with heap:=h1}) :
  wpAny Gq X.A.in1 (Ip Sv) Q X.xe s:=by
 obtain⟨a7,rv,pl,hz⟩:=I.list hq
 refine wpAny_pyIter_list pl.isList ?_
 have lt:p<s.heap.objs.size:=by obtain⟨o,n,e,_⟩:=pl;exact Qv e
 refine h a7 s.heap.objs.size _ rv (Walks.list (show X.A.in1.handled=none from I.ok.hd hc) _ _ IK _) ⟨⟨_,SA,rfl,rfl⟩,?_⟩ (λb hb=>?_) λh' tk k=>I.kept (t':=tk) λb o e=>?_
 ·obtain ⟨o,e,r⟩:=pl.isList
  exact⟨o,LZ,r⟩
 ·rcases Qf.mp hb with e | e
  ·rw[e];simp[Heap.push]
  ·rw[Qc.mp e];simp[Heap.push];exact Ju lt
 ·exact k b o (λz=>absurd (Qv e) (by rw[Qc.mp z];exact Yu _)) LZ
theorem zeg(ns:List Int):∀k,k≤ns.length→preSum (λi=>ns.getD i 0) k=(ns.take k).sum
 |0,_=>rfl
 |k+1,h=>by
  show preSum (λi=>ns.getD i 0) k+ns.getD k 0=_
  have hk:k<ns.length:=h
  rw[zeg ns k (by exact Wu ‹_›),Ql hk,List.sum_append,List.sum_singleton]
  congr 1
  simp[List.getD,hk]
theorem zhc:∀{ns:List Int} {a7:Nj},Dw a7→∀(i:Nat) (v:Value),a7[i]?=some v→∃t,v=Value.int (ns.getD i 0) t
 |[],_,.nil,i,v,e=>by simp at e
 |n::ns,_,.cons r t,0,v,e=>by
  obtain⟨tk,rfl⟩:=r
  simp at e;subst e
  exact⟨tk,rfl⟩
 |n::ns,_,.cons r t,i+1,v,e=>by
  obtain⟨tk,h⟩:=zhc t i v IR
  exact⟨tk,by rw[h];simp⟩
def sum_small{ns:List Int}(hb:∀n∈ns,0≤n∧n≤1000000):0≤ns.sum∧ns.sum≤1000000*(ns.length:Int):=by
 induction ns with
 |nil=>simp
 |cons a r ih =>
  have h1:=hb a Qb
  have h2:=ih λn hn=>hb n (QK hn)
  rw[Zn,Qu]
  lia
def call_sum(hc:X.calm=true):Y4 (.builtin "sum") (λxs H Q=>Ex2 λ(p:Nb) (ns:List Int)=>Aj5 (xs=[Sv]) (WH Tx) (ns.length≤1000000) (∀n∈ns,0≤n∧n≤1000000) (Q (.int ns.sum) H)):=by
 intro a5 s σ H xs us Q I r h
 obtain⟨p,ns,rfl,hq,hl,hb,q⟩:=h
 obtain⟨u,rfl,rx⟩:=vals1 r
 cases rx
 refine call_sum_walk (Dd hq λa7 It h1 rv W st lt keep=>⟨It,_,_,_,_,_,λi=>ns.getD i 0,rfl,W,st,lt,λi v e=>zhc rv i v IR,λj hj=>?_,λh' tk t' k=>⟨.int ns.sum,H,Ma k,⟨t',?_⟩,q⟩⟩)
 ·have az:=rv.length
  rw[Qa]at az
  have nI:j<ns.length:=by rw[az];simpa using hj
  have s1:=sum_small (ns:=ns.take (j+1)) λn hn=>hb n (Wv hn)
  rw[Zq]at s1
  have g:ns.getD j 0=ns[j]:=by simp[List.getD,nI]
  have g2:=hb _ (Qs nI)
  refine⟨?_,?_⟩
  ·show InLong (ns.getD j 0)
   rw[g];unfold InLong;lia
  ·rw [zeg ns (j+1) nI]
   unfold InLong;lia
 ·have az:=rv.length
  rw[Qa]at az
  rw[Qw,zeg ns _ Gg,←az,Qt GV]
theorem zhd:∀{bs:List Bool} {a7:Nj},Vals (bs.map V.bl) a7→∀(i:Nat) (v:Value),a7[i]?=some v→v=Value.bool (bs.getD i true)
 |[],_,.nil,i,v,e=>by simp at e
 |n::ns,_,.cons r t,0,v,e=>by
  cases r
  simp at e;subst e
  rfl
 |n::ns,_,.cons r t,i+1,v,e=>by
  have h:=zhd t i v IR
  rw[h];simp
def all_range(bs:List Bool):(List.range bs.length).all (λi=>bs.getD i true)=bs.all id:=by
 rw[Yw,Ug,Ug]
 constructor
 ·intro h x hx
  obtain⟨i,hi,e⟩:=Zr hx
  have:=h i (Wh.mpr hi)
  simp[List.getD,hi]at this
  rw[←e];exact this
 ·intro h i hi
  have aK:=Wh.mp hi
  simp[List.getD,aK]
  exact h _ Pu
def call_all(hc:X.calm=true):Y4 (.builtin "all") (λxs H Q=>Ex2 λ(p:Nb) (bs:List Bool)=>Aj3 (xs=[Sv]) (WH (bs.map V.bl)) (Q (yr (bs.all id)) H)):=by
 intro a5 s σ H xs us Q I r h
 obtain⟨p,bs,rfl,hq,q⟩:=h
 obtain⟨u,rfl,rx⟩:=vals1 r
 cases rx
 refine call_all_walk (Dd hq λa7 It h1 rv W st lt keep=>⟨It,_,_,_,_,_,λi=>bs.getD i true,rfl,W,st,λi v s' Q' E' e q'=>?_,λh' tk k=>⟨yr (bs.all id),H,Ma k,?_,q⟩⟩)
 ·have e':=zhd rv i v IR
  subst e'
  exact wpAny_truthy_bool q'
 ·have az:=rv.length
  rw[Qa]at az
  show Value.bool _=Value.bool _
  rw[Qw,←az,all_range]
end
end L2
end
section
namespace L2
open PySem PySem.Spec PyProof.Rows Tm
def Vals.perm{ws us:Nj}(p:ws.Perm us):∀{ys:List V},YK us→∃zs,zs.Perm ys∧Vals zs ws:=by
 induction p with
 |nil=>intro ys r;cases r;exact⟨[],.nil,.nil⟩
 | cons x q ih =>
  intro ys r
  cases r with
  |cons r1 r2 =>
   obtain⟨zs,h1,h2⟩:=ih r2
   exact⟨_::zs,h1.cons _,LJ r1 h2⟩
 | swap x y l =>
  intro ys r
  cases r with
  |cons r1 r2 =>
   cases r2 with
   |cons r3 r4=>exact⟨_,List.Perm.swap ..,y9⟩
 |trans _ _ ih1 ih2 =>
  intro ys r
  obtain⟨zs,h1,h2⟩:=ih2 r
  obtain⟨iW,h3,h4⟩:=ih1 h2
  exact⟨iW,h3.trans h1,h4⟩
theorem Vals.pairwise{α:Type}{R:α→α→Prop}{kv:Value→α}{kV:V→α}:∀{zs:List V} {ws:Nj},Vals zs ws→(∀v∈zs,∀u,UY u→kv u=kV v)→ws.Pairwise (λa b=>R (kv a) (kv b))→zs.Pairwise λa b=>R (kV a) (kV b)
 |_,_,.nil,_,_=>.nil
 |v::zs,u::ws,.cons r t,hk,h=>by
  rw[Jq]at h ⊢
  refine⟨λb hb=>?_,Vals.pairwise t (λv hv=>hk v yJ) h.2⟩
  obtain⟨i,hi,e⟩:=Zr hb
  obtain⟨x,hx,rx⟩:=Vals.get t (i:=i) (x:=b) (by rw[Qd hi,e])
  have:=h.1 x (Yd hx)
  rw[hk v Qb u r,hk b TB x rx]at this
  exact this
section
variable{X:Cx}
def zec{a5:Nh}{s:Ni}{σ:St}{H:Hp}{p:Nb}{ys:List V}{R:List Value→List Value→Prop}{Q:VK}(I:Hb)(hq:WH ys)(hS:∀a7,YK a7→∀(A':Around) (E':Value→Shared→Prop) (s':Shared),A'.units≤X.A.units+8→(∀b o,s.heap.get? b=some o→s'.heap.get? b=some o)→zcc X.prog X.w A' E' s' (R a7) a7)(h:∀(l:Nb) (ws:List V) (a7 us:Nj),H l=none→ws.Perm ys→YK a7→Vals ws us→R a7 us→Q RH Pw) :
  wpAny Gq X.A (call (.builtin "sorted") [Sv]) SY X.xe s:=by
 obtain⟨a7,r,pl,hz⟩:=I.list hq
 refine sorted_any pl.isList (by rw[←r.length];exact hz) (hS a7 r) λws l g tk e p1 p2 le k he=>?_
 obtain⟨zs,q1,q2⟩:=Vals.perm p1 r
 exact⟨RH,_,I.laid (t':=tk) k le (show QB _ g _ (Gw zs) from⟨by rw[q1.length_eq];exact hz,ws,e,q2,he⟩),rfl,h l zs a7 ws (Es le) q1 r q2 p2⟩
def leS(x y:Str):Prop:=¬y.cps.toList<x.cps.toList
def txV:V→List Nat
 |.str x=>x.cps.toList
 |_=>[]
def strs_perm{ws:List V}{zs:Ng}(pm:ws.Perm Rl):∃ts:List Str,ws=ts.map V.str∧ts.Perm zs:=by
 have a1:∀v∈ws,∃x,v=V.str x:=λv hv=>by
  obtain⟨x,_,e⟩:=Qh.mp zM
  exact⟨x,e.symm⟩
 have a2:∃ts:List Str,ws=ts.map V.str:=by
  clear pm
  induction ws with
  |nil=>exact⟨[],rfl⟩
  |cons v r ih =>
   obtain⟨ts,e⟩:=ih λv hv=>a1 v yJ
   obtain⟨x,e2⟩:=a1 v Qb
   exact⟨x::ts,by rw[e,e2];rfl⟩
 obtain⟨ts,rfl⟩:=a2
 refine⟨ts,rfl,?_⟩
 have:=pm.map (λv=>match v with | .str x=>x | _=>Str.empty)
 rw[Zj,Zj]at this
 simpa[Function.comp_def] using this
def zfj{zs:Ng}{a7:Nj}(r:J' a7):∀v∈a7,∃x t,v=.str x t:=λv hv=>by
 obtain⟨l,rfl,e⟩:=zf9 r
 obtain⟨pr,_,e2⟩:=Qh.mp hv
 exact⟨_,_,e2.symm⟩
def txV_str{zs:Ng}:∀v∈zs.map V.str,∀u,UY u→kvS u=txV v:=λv hv u ru=>by
 obtain⟨x,_,rfl⟩:=Qh.mp hv
 obtain⟨t,rfl⟩:=ru
 rfl
def strs_out{zs ts:Ng}{a7 us:Nj}(r:J' a7)(r2:Vals (ts.map V.str) us)(p:a7.length<64→us.Pairwise λx y=>strO.kle (kvS x) (kvS y))(h:zs.length<64):ts.Pairwise leS:=by
 have p2:=Vals.pairwise (R:=λa b=>strO.kle a b) (kV:=txV) r2 txV_str (p (by rw[←r.length,Qa];exact h))
 rw[Ur]at p2
 exact p2.imp of_decide_eq_false
def zft:Y4 (.builtin "sorted") (λxs H Q=>Ex2 λ(p:Nb) (zs:Ng)=>Aj3 (xs=[Sv]) (WH Rl) (∀(l:Nb) (ws:Ng),H l=none→ws.Perm zs→(zs.length<64→ws.Pairwise leS)→Q RH (EX Re))):=by
 intro a5 s σ H xs us Q I r h
 obtain⟨p,zs,rfl,hq,q⟩:=h
 obtain⟨u,rfl,rx⟩:=vals1 r
 cases rx
 refine zec I hq (λa7 r A' E' s' _ _=>zem (zfj r)) λl ws a7 us hl p1 r1 r2 p2=>?_
 obtain⟨ts,rfl,p3⟩:=strs_perm p1
 exact q l ts hl p3 (strs_out r1 r2 p2)
def zh3(I:Hb)(e:H a=some (.tup [TR,z])):∃q,RelV z q∧DL Rg x q:=by
 obtain⟨_,a7,r,o,e1,c,n,d⟩:=MO e
 obtain⟨u,w',rfl,⟨t,rfl⟩,rz⟩:=vals2 r
 exact⟨w',rz,a,o,t,n,rfl,e1,c,d⟩
def vals_back(r:YK a7):∀v∈a7,∃b∈ys,RelV b v:=λv hv=>by
 obtain⟨i,hi,e⟩:=Zr hv
 have hl:=r.length
 have ao:i<ys.length:=by exact zar6 ‹_› ‹_›
 obtain⟨u,hu,ru⟩:=r.get (i:=i) (Qd ao)
 rw[Qd hi,e]at hu
 cases hu
 exact⟨_,Os,ru⟩
def zfx(a:XX p)(b:zfv h v y q):x=y∧p=q:=by
 obtain⟨a,o,t,n,rfl,e,c,d⟩:=a
 obtain⟨a',o',t',n',e0,e',c',d'⟩:=b
 cases e0
 rw[e]at e'
 cases e'
 rw[d]at d'
 have d2:(#[U2 t,p]:Array Value)=#[Dc t',q]:=by injection d'
 have d3:=congrArg (λa:Array Value=>a[0]?) d2
 have d4:=congrArg (λa:Array Value=>a[1]?) d2
 simp at d3 d4
 exact⟨d3.1,d4⟩
def rowV(H:Hp):V→List Nat
 |.ref a=>match H a with
  |some (.tup [x,_])=>txV x
  |_=>[]
 |_=>[]
def zeq(e:H a=some (.tup [x,y])):DM Rg=txV x:=by
 unfold rowV;dsimp only;rw[e]
def zfu:Y4 (.builtin "sorted") (λxs H Q=>Ex2 λ(p:Nb) (ys:List V)=>Aj5 (xs=[Sv]) Po (∀v∈ys,∃a x z,v=.ref a∧H a=some (.tup [TR,z])) (∀v∈ys,∀u∈ys,DM v=DM u→v=u) (∀(l:Nb) (ws:List V),H l=none→ws.Perm ys→(ys.length<64→ws.Pairwise λa b=>strO.kle (DM a) (DM b))→Q RH Pw)):=by
 intro a5 s σ H xs us Q I r h
 obtain⟨p,ys,rfl,hq,hy,hd,q⟩:=h
 obtain⟨u,rfl,rx⟩:=vals1 r
 cases rx
 have back:∀a7,YK a7→∀v∈a7,∃b∈ys,RelV b v∧∃a x z q,b=.ref a∧v=.ref a∧H a=some (.tup [TR,z])∧DL v x q:=λa7 r v hv=>by
  obtain⟨b,hb,rb⟩:=vals_back r v hv
  obtain⟨a,x,z,rfl,e2⟩:=hy b hb
  have rb':=rb
  cases rb
  obtain⟨q',_,T⟩:=zh3 I e2
  exact⟨_,hb,rb',a,x,z,q',rfl,rfl,e2,T⟩
 refine zec I hq (λa7 r A' E' s' _ k=>zel k (λv hv=>?_) λv hv u hu x p q T T'=>?_) λl ws a7 us hl p1 r1 r2 p2=>q l ws hl p1 λqh=>?_
 ·obtain ⟨b,hb,rb,a,x,z,q,_,_,_,T⟩:=back a7 r v hv
  exact⟨x,q,T⟩
 ·obtain ⟨b,hb,rb,a,x1,z,q1,rfl,rfl,e1,T1⟩:=back a7 r v hv
  obtain⟨c,hc,rc,a',x2,z',q2,rfl,rfl,e2,T2⟩:=back a7 r u hu
  have h1:=(zfx T T1).1
  have h2:=(zfx T' T2).1
  subst h1
  subst h2
  have:=hd _ hb _ hc (by rw[zeq e1,zeq e2])
  cases this
  exact .inl rfl
 ·refine Vals.pairwise (R:=fun a b=>strO.kle a b) (kv:=fun u=>(DO u).1) r2 (fun v hv u ru=>?_) ((p2 (by rw [← r1.length];exact qh)).imp fun h=>(Bool.or_eq_false_iff.mp h).1)
  obtain⟨a,x,z,rfl,e2⟩:=hy v (p1.mem_iff.mp hv)
  cases ru
  obtain⟨q',_,T⟩:=zh3 I e2
  rw[T.key,zeq e2]
  rfl
def zfi(hu:X.A.units+8<cLine):Y4 (.builtin "sorted") (λxs H Q=>Ex2 λ(p:Nb) (ys:List V)=>Aj4 (xs=[Sv]) Po (∀v∈ys,∃a zs,v=.ref a∧H a=some OO) (∀(l:Nb) (ws:List V),H l=none→ws.Perm ys→Q RH Pw)):=by
 intro a5 s σ H xs us Q I r h
 obtain⟨p,ys,rfl,hq,hy,q⟩:=h
 obtain⟨u,rfl,rx⟩:=vals1 r
 cases rx
 refine zec I hq (λa7 r A' E' s' hA k=>zg7 (by exact Jo ‹_› ‹_›) k λv hv=>?_) λl ws _ _ hl p1 _ _ _=>q l ws hl p1
 obtain⟨b,hb,ru⟩:=vals_back r v hv
 obtain⟨a,zs,rfl,e2⟩:=hy b hb
 cases ru
 obtain⟨_,aI,n,r2,e3⟩:=MO e2
 obtain⟨l2,rfl,_⟩:=zf9 r2
 exact⟨a,l2,n,rfl,e3⟩
def dk_at{a5:Nh}{s:Ni}{σ:St}{H:Hp}{d:Nb}{kvs:List (Key×V)}(I:Hb)(rd:DP Rp) :
  kvs.length≤sizeLine∧(d==sysModules)=false∧∃vs ep,UM vs∧s.heap.DictAt SZ d vs ep∧vs.length=kvs.length:=by
 obtain⟨z,y,vs,r,hd⟩:=rd.ok I.hok
 obtain⟨ep,ha⟩:=hd.dictAt
 exact⟨z,y,vs,ep,r,ha,(Zy r).symm⟩
def KV.get{kvs:List (Key×V)}{vs:List (Key×Value)}(r:UM vs){i:Nat}(e:vs[i]?=some (k,x)):∃v,kvs[i]?=some (k,v)∧UY x:=by
 induction r generalizing i with
 |nil=>simp at e
 | cons h t ih =>
  cases i with
  |zero =>
   simp at e
   subst e
   exact⟨_,by simp;exact Wz h.1 rfl,h.2⟩
  |succ j =>
   obtain⟨v,h1,h2⟩:=ih (i:=j) IR
   exact⟨v,Gk h1,h2⟩
def key_rel(h:(Be w).is k v=true):N9 v:=by
 rcases zbj h with⟨i,t,rfl,rfl⟩ | ⟨x,t,rfl,rfl⟩
 ·exact⟨t,rfl⟩
 ·exact⟨t,rfl⟩
def keys_vals{P:Nk}{w:Nl}{kvs:List (Key×V)}{vs:List (Key×Value)}{af:Array Value}(r:UM vs)(hl:vs.length=kvs.length)(h:ItemsOf (λi v=>∃k x,vs[i]?=some (k,x)∧(Be w).is k v=true) af vs.length):Vals (kvs.map λp=>kV p.1) af.toList:=by
 have g:∀(i:Nat),i<kvs.length→∃v,af.toList[i]?=some v∧RelV (kV ((kvs.map Prod.fst).getD i (Rf 0))) v:=λi hi=>by
  have ao:i<af.size:=by rw[h.1];exact zar6 ‹_› ‹_›
  have e:af[i]?=some af[i]:=by simp[ao]
  obtain⟨k,x,e1,e2⟩:=h.2 i _ e
  obtain⟨v',e3,_⟩:=KV.get r e1
  refine⟨af[i],Gp Uk e,?_⟩
  have e4:(kvs.map Prod.fst).getD i (Rf 0)=k:=by
   rw[Zd,Qo,e3];rfl
  rw[e4]
  exact key_rel e2
 have hsz:af.toList.length=kvs.length:=by rw[Wn,h.1];exact hl
 clear h r hl
 generalize af.toList=l at g hsz
 induction kvs generalizing l with
 |nil =>
  have:l=[]:=List.length_eq_zero_iff.mp hsz
  subst this
  exact .nil
 | cons p t ih =>
  cases l with
  |nil=>cases hsz
  | cons u us =>
   refine .cons ?_ (ih us (λi hi=>?_) (Gk hsz))
   ·obtain ⟨v,e1,e2⟩:=g 0 Gf
    simp at e1
    subst e1
    exact e2
   ·obtain ⟨v,e1,e2⟩:=g Hj yu
    exact⟨v,Gk e1,Gk e2⟩
def zc4(hc:X.calm=true):Y4 (.type "list") (λxs H Q=>Ex2 λ(d:Nb) (kvs:Sg (Key×V))=>Aj3 (xs=[Cf]) (DP Rp) (∀l,H l=none→Q RH (ZS l (.lst (kvs.map λp=>kV p.1))))):=by
 intro a5 s σ H xs us Q I r h
 obtain⟨d,kvs,rfl,hq,q⟩:=h
 obtain⟨u,rfl,rx⟩:=vals1 r
 cases rx
 obtain⟨z,lo,vs,ep,rk,ha,hl⟩:=dk_at I hq
 refine PySem.W.kdl_call Ab Sr ha (Gp hl z) λh' tk af c k e hi=>?_
 have rv:=keys_vals rk hl hi
 exact⟨Go _,_,I.laid (t':=tk) k GV (show QB _ h' _ (Gw _) from⟨zm z,af.toList,c,rv,by rw[e]⟩),rfl,A6⟩
def zdj(hc:X.calm=true):Y4 (.builtin "sorted") (λxs H Q=>Ex3 λ(d:Nb) (kvs:Sg (Key×V)) (zs:Ng)=>Aj4 (xs=[Cf]) (DP Rp) ((kvs.map λp=>kV p.1)=zs.map V.str) (∀(l:Nb) (ws:Ng),H l=none→ws.Perm zs→(zs.length<64→ws.Pairwise leS)→Q RH (EX Re))):=by
 intro a5 s σ H xs us Q I r h
 obtain⟨d,kvs,zs,rfl,hq,ez,q⟩:=h
 obtain⟨u,rfl,rx⟩:=vals1 r
 cases rx
 obtain⟨z,lo,vs,ep,rk,ha,hl⟩:=dk_at I hq
 refine ze5 (G:=λa7=>J' a7) (λE' R hR=>zgx Ab (show X.A.in1.handled=none from I.ok.hd hc) ha (Gp hl z) λg tk af k le hi=>hR g tk _ k le (ez▸keys_vals rk hl hi))
  (λa7 r=>by rw[←r.length,←ez,Qa];exact z) (λa7 r A' E' s' _ _=>zem (zfj r)) λa7 ws l g tk e r p1 p2 le k he=>?_
 obtain⟨iW,q1,q2⟩:=Vals.perm p1 r
 obtain⟨ts,rfl,p3⟩:=strs_perm q1
 refine⟨RH,_,I.laid (t':=tk) k le (show QB _ g _ (Gw _) from⟨?_,ws,e,q2,he⟩),rfl,q l ts (Es le) p3 (strs_out r q2 p2)⟩
 rw[q1.length_eq,←ez,Qa];exact z
end
section
variable{X:Cx}{a5:Nh}{σ:St}{H:Hp}{s:Ni}
def Inv.freeze(I:Hb)(hd:H d=some u)(ho:s.heap.get? d=some o)(mu:Mut (Gz u)):ZA (ZS d IT) s:=by
 have ne:∀b,H b=none→b≠d:=λb e z=>by rw[z,hd]at e;cases e
 have nt:∀b xs,H b=some RX→b≠d:=λb xs e z=>by rw[z,hd]at e;cases e;exact mu
 have nf:∀b o' u',H b=some Ss→b≠d:=λb o' u' e z=>by rw[z,hd]at e;cases e;exact mu
 have nb:∀b ps,H b=some OY→b≠d:=λb ps e z=>by rw[z,hd]at e;cases e;exact mu
 have no:∀b a,H b=some Cy→b≠d:=λb a e z=>by rw[z,hd]at e;cases e;exact mu
 refine I.un (h':=s.heap) (t':=s.toks) ⟨λb o e _ _ _=>e,λb o e _ _ _=>⟨o.slots,e⟩,λb o e n _=>by rw[zaf (ne b n)];exact n,λb o e _=>⟨o,e⟩,λb xs e=>by rw[zaf (nt b xs e)];exact e,
  λb o' u' e=>by rw[zaf (nf b o' u' e)];exact e,λb ps e=>⟨#[],by rw[zaf (nb b ps e),e];simp⟩⟩ λb v e=>?_
 by_cases hb:b=d
 ·subst hb
  rw[zab]at e
  cases e
  exact⟨ho,(XR u hd).stay (λc v _ q=>q) (λc q=>by rw[zaf IZ];exact q) λc xs q=>by rw[zaf Ii];exact q⟩
 ·rw [Iz] at e
  exact(XR v e).stay (λc v _ q=>q) (λc q=>by rw[zaf IZ];exact q) λc xs q=>by rw[zaf Ii];exact q
def Inv.thaw(I:Hb)(hd:H d=some IT)(hx:∀o' u',X.H₀ d≠some Ss):ZA (ZS d u) s:=by
 have ne:∀b,H b=none→b≠d:=λb e z=>by rw[z,hd]at e;cases e
 have nt:∀b xs,H b=some RX→b≠d:=λb xs e z=>by rw[z,hd]at e;cases e
 have nb:∀b ps,H b=some OY→b≠d:=λb ps e z=>by rw[z,hd]at e;cases e
 have no:∀b a,H b=some Cy→b≠d:=λb a e z=>by rw[z,hd]at e;cases e
 have B:=I.base
 refine⟨I.ok,I.os,I.bare,⟨B.keep,B.slot,λb o e n hx=>?_,B.there,λb xs e=>?_,λb o' u' e=>?_,λb ps e=>?_⟩,I.loc,I.cell,?_,λx c e=>?_,λp hp=>?_,λb v e=>?_,I.len⟩
 ·have:=B.free b o e n hx
  rw[zaf (ne b this)];exact this
 ·have:=B.tups b xs e
  rw[zaf (nt b xs this)];exact this
 ·have:=B.frzs b o' u' e
  have nd:b≠d:=λz=>hx o' u' (z▸e)
  rw[zaf nd];exact this
 ·obtain ⟨m,q⟩:=B.tbls b ps e
  exact⟨m,Gv (nb b _ q) q⟩
 ·rw[zaf (ne _ I.free)];exact I.free
 ·rw[zaf (ne c (JW e))];exact JW e
 ·obtain ⟨h1,h2,h3⟩:=Bu hp
  exact⟨h1,Gv (ne _ h2) h2,h3⟩
 ·by_cases hb:b=d
  ·subst hb
   rw[zab]at e
   cases e
   exact(show s.heap.get? b=some o∧QB H s.heap b u from XR _ hd).2.stay (λc v _ q=>q) (λc q=>by rw[zaf IZ];exact q) λc xs q=>by rw[zaf Ii];exact q
  ·rw [Iz] at e
   exact(XR v e).stay (λc v _ q=>q) (λc q=>by rw[zaf IZ];exact q) λc xs q=>by rw[zaf Ii];exact q
inductive Thaw(X:Cx)(R:Hp→Prop)(H':Hp):Prop
 |mk (d:Nb) (o:Obj) (u:HO) (h:H' d=some (.frz o u)) (n:∀o' u',X.H₀ d≠some (.frz o' u')) (q:R (upd H' d u)):Thaw X R H'
def tThaw(X:Cx)(t:TE):TE:=λ σ H Q=>t σ H λv H'=>DQ (Q v) H'
def pe_thaw(h:Z7 e t):Z7 e (tThaw X t):=by
 intro a5 s σ H Q I q
 refine thn (Ld _ q) λu s' ⟨v,H',I',r,d,o,w',e1,e2,e3⟩=>?_
 exact⟨v,_,KL e2,r,e3⟩
def sThaw(X:Cx)(t:TS):TS:=λD σ H=>t {nx:=λ σ' H'=>DQ (D.nx σ') H',rt:=λv H'=>DQ (D.rt v) H',bk:=λ σ' H'=>DQ (D.bk σ') H',ct:=λ σ' H'=>DQ (D.ct σ') H'} σ H
def zgh{st:Stmt}{t:TS}(h:KA st t):KA st (sThaw X t):=by
 intro a5 s σ H D I q
 refine thn (Ld _ q) λf s' z=>?_
 cases f with
 |next=>obtain⟨σ',H',I',d,o,w',e1,e2,e3⟩:=z;exact⟨σ',_,KL e2,e3⟩
 |brk=>obtain⟨σ',H',I',d,o,w',e1,e2,e3⟩:=z;exact⟨σ',_,KL e2,e3⟩
 |cont=>obtain⟨σ',H',I',d,o,w',e1,e2,e3⟩:=z;exact⟨σ',_,KL e2,e3⟩
 |ret u=>obtain⟨v,σ',H',I',r,d,o,w',e1,e2,e3⟩:=z;exact⟨v,σ',_,KL e2,r,e3⟩
def Itd(d:Nb)(o:Obj)(kvs:Sg (Key×V)):It :=
 ⟨λi H=>H d=some Px∧i<kvs.length,λi H x H'=>H'=H∧∃p,kvs[i]?=some p∧x=kV p.1,λi H=>H d=some Px∧kvs.length≤i⟩
def frz_at(I:Hb)(e:H d=some Px):s.heap.get? d=some o∧QB H s.heap d Rp:=I.hok d _ e
def zhs{h:No}{kvs:List (Key×V)}{vs vs':List (Key×Value)}{ep ep':Nat}(ho:h.get? d=some o)(a:h.DictAt Lc d vs ep)(o':Obj)(h':No)(cS:h'.get? d=some o):h'.DictAt Lc d vs ep:=by
 obtain⟨q,es,e,r⟩:=a
 rw[ho]at e
 cases e
 exact⟨o,es,cS,r⟩
theorem turn_dict{P:Nk}{w:Nl}{K:Na}{tg:Expr}{o:Obj}{kvs:List (Key×V)}{vs:List (Key×Value)}{ep:Nat}{h0:No}(d it:Nb)(rk:UM vs)(hl:vs.length=kvs.length)(h00:h0.get? d=some o)(ki:h0.DictAt Lc d vs ep) :
  Turn P w K tg (Fh kvs) [it] it (λi h=>h.IsKeyIter it d i vs.length ep) where
 mem:=by simp
 obj:=λi h st b hb=>by
  have e:b=it:=by simpa using hb
  subst e
  obtain⟨o,e,c,d⟩:=st
  exact⟨o,e,λv z=>by rw[d]at z;cases z⟩
 keep:=λi h h' st k=>st.at λo e=>k it Gf o e
 item:=by
  intro X hP hw hK hc i a5 s σ H E I hf st hg
  subst hP hw hK
  obtain⟨fz,hi⟩:=hg
  obtain⟨ho,_⟩:=frz_at I fz
  have DA:s.heap.DictAt SZ d vs ep:=zhs (kvs:=kvs) (vs':=vs) (ep':=ep) h00 ki o s.heap ho
  obtain⟨f0,f1,f2,f3,f4,f5⟩:=VA Gf
  have ao:i<vs.length:=by exact zar6 ‹_› ‹_›
  obtain⟨v',e3,_⟩:=KV.get rk (i:=i) (k:=vs[i].1) (x:=vs[i].2) (Qd ao)
  refine wpAny_pyNext_dict_item st DA (k:=vs[i].1) (v:=vs[i].2) (Qd ao) λkey h' hk aa sb=>?_
  have I1:ZA H {s with heap:=h'}:=I.turned (t':=s.toks) (λb o hb e=>(O0 hb).trans e) f0 f1 f3 f4 f5
  obtain⟨o2,e,c,d2⟩:=id aa
  exact⟨key,rfl,go_of (s:={s with heap:=h'}) e c d2 Gj ⟨kV vs[i].1,H,I1,key_rel hk,⟨rfl,_,e3,rfl⟩,aa,λb hb=>(Fw hb).1⟩⟩
 done:=by
  intro X hP hw hK hc i a5 s σ H E I hf st hg
  subst hP hw hK
  obtain⟨fz,hi⟩:=hg
  obtain⟨ho,_⟩:=frz_at I fz
  have DA:s.heap.DictAt SZ d vs ep:=zhs (kvs:=kvs) (vs':=vs) (ep':=ep) h00 ki o s.heap ho
  obtain⟨f0,f1,f2,f3,f4,f5⟩:=VA Gf
  exact wpAny_pyNext_dict_end Sr st DA (Ka Gg) λh' eb=>⟨rfl,I.turned (t':=s.toks) (λb o hb e=>eb b o hb e) f0 f1 f3 f4 f5⟩
 self:=λ_ _ _ _ _ st h=>wpAny_pyIter_keyiter st h
inductive RIDi(x:V)(H:Hp)(R:It→Hp→Prop):Prop
 |mk (d:Nb) (kvs:List (Key×V)) (e:x=.ref d) (h:H d=some (.dK kvs)) (q:∀o,R (Itd d o kvs) (upd H d (.frz o (.dK kvs)))):RIDi x H R
def iDict(td:TE):TI:=λ σ H R=>td σ H λx H1=>RIDi x H1 R
def zeh{tg l:Expr}{tl:TE}(hl:Ov):UU l (iDict tl):=by
 intro a5 s σ H R I h
 refine thn TY λv s1 ⟨x,H1,I1,r1,q1⟩=>?_
 obtain⟨d,kvs,e,hd,q⟩:=q1
 subst e
 cases r1
 obtain⟨z,lo,vs,ep,rk,ha,ae⟩:=dk_at I1 (Rf hd)
 obtain⟨o,es,ho,r⟩:=id ha
 refine wpAny_pyIter_dict lo ha ?_
 have I2:=I1.freeze hd ho trivial
 have I3:ZA (QJ d Px) {s1 with heap:=s1.heap.push {cls:=.type "dict_keyiterator",data:=.fields #[Cf,IB,.int vs.length 0,Sl ep 0]}}:=I2.kept (t':=s1.toks) λb o e=>WG e
 refine⟨s1.heap.objs.size,[s1.heap.objs.size],_,_,xc,I3,turn_dict d _ rk ae ho ha,⟨_,SA,rfl,rfl⟩,λb hb=>?_,q o⟩
 have e:b=s1.heap.objs.size:=by simpa using hb
 subst e
 exact I2.fpOk GV (I2.hok.fresh GV)
end
def for_dict{d:Nb}{o:Obj}{kvs:List (Key×V)}{g:TG}{tb:TS}{D:Ends}{σ:St}{H:Hp}(Pv:Nat→St→Hp→Prop)(h0:Cl)(hl:∀i σ H,i≤kvs.length→Pv i σ H→H d=some Px)(hs:∀i p σ H,kvs[i]?=some p→Pv i σ H→g (kV p.1) σ H λ σ2 H2=>tb {D with nx:=Pv Hj,ct:=Pv Hj,bk:=D.nx} σ2 H2)(hd:∀σ H,Pv kvs.length σ H→YB H) :
  ∃W:Nat→Nat→St→Hp→Prop,(∃m,W 0 m σ H)∧∀i m σ H,W i m σ H →
   ((Fh kvs).stop i H∧YB H)∨((Fh kvs).go i H∧∃N:St→Hp→Prop,GZ∧∀x H',(Fh kvs).yld i H x H'→g x σ H' λ σ2 H2=>tb {D with nx:=N,ct:=N,bk:=D.nx} σ2 H2):=by
 refine⟨λi m σ H=>m=kvs.length-i∧i≤kvs.length∧Pv i σ H,⟨kvs.length,Gf,RP,h0⟩,?_⟩
 rintro i m σ H ⟨rfl,hi,p⟩
 have q:=hl i σ H hi p
 by_cases ad:i<kvs.length
 ·refine .inr ⟨⟨q,ad⟩,Pv Hj,fun σ' H' p'=>⟨kvs.length - Hj,Ha,rfl,ad,p'⟩,fun x H' y=>?_⟩
  obtain⟨e,pr,e2,rfl⟩:=y
  subst e
  exact hs i pr σ _ e2 p
 ·have e:i=kvs.length:=by exact zar3 ‹_› ‹_›
  subst e
  exact .inl ⟨⟨q,GV⟩,IA⟩
end L2
end
section
namespace Enu
open PySem PyProof.Rows
open AutoSeq1 (wpAny_loadPart')
section
variable{prog:Nk}{w:Nl}{A:Np}{E:Nc}{s:Ni}
def next_item(st:P3)(ht:Em)(hx:xs[i]?=some x)(hQ:∀g,g.IsTupleIter j t Hj→NX g→Q x {s with heap:=g}):ZG Ec Q E s:=by
 obtain⟨o,ho,hc,hd⟩:=id st
 obtain⟨p,hp,_,k,hk⟩:=ht
 unfold Builtin.SmallTypes.nextOf
 refine wpAny_bind (wpAny_callSpecial?_slot (name:=Str.ofString "__next__") st.typeIs Jl (JT ?_ EI))
 show ZV _ (field Ia 0 >>= _) _ _ s
 refine wpAny_bind (BB (x:=.ref t) rfl ?_)
 show ZV _ (if(Value.ref t==.none)=true then _ else _) _ _ s
 rw[if_neg (show ¬((Value.ref t==.none)=true) from Zh)]
 show ZV _ (field Ia 1 >>= _) _ _ s
 refine wpAny_bind (BB (x:=.int i 0) rfl ?_)
 show ZV _ (seqItems? TK >>= _) _ _ s
 refine wpAny_bind (De ?_)
 simp only[Wx,hx]
 refine wpAny_bind (J0 Gf (wpAny_pure ⟨x,rfl,Rr (hQ _ ⟨_,Cu,(Obj.cls_mapFields ..).trans hc,by rw[Xe hd];simp[rawInt]⟩ (Kw ..))⟩))
def next_end(hh:A.handled=none)(st:P3)(ht:Em)(hx:xs[i]?=none)(hE:∀g e,Df g→(∃o,g.get? e=some o∧o.cls=.type "StopIteration")→E (Go e) {s with heap:=g}):ZG Ec Q E s:=by
 obtain⟨o,ho,hc,hd⟩:=id st
 obtain⟨p,hp,_,k,hk⟩:=ht
 unfold Builtin.SmallTypes.nextOf
 refine wpAny_bind (wpAny_callSpecial?_slot (name:=Str.ofString "__next__") st.typeIs Jl (JT ?_ EI))
 show ZV _ (field Ia 0 >>= _) _ _ s
 refine wpAny_bind (BB (x:=.ref t) rfl ?_)
 show ZV _ (if(Value.ref t==.none)=true then _ else _) _ _ s
 rw[if_neg (show ¬((Value.ref t==.none)=true) from Zh)]
 show ZV _ (field Ia 1 >>= _) _ _ s
 refine wpAny_bind (BB (x:=.int i 0) rfl ?_)
 show ZV _ (seqItems? TK >>= _) _ _ s
 refine wpAny_bind (De ?_)
 simp only[Wx,hx]
 refine wpAny_bind (wpAny_rule (RS (J0 Gf ?_)))
 show ZV _ (newExc (.type "StopIteration") [] >>= _) _ _ _
 refine wpAny_bind ?_
 simp only[newExc,newTuple]
 refine wpAny_bind (wpAny_newObj_type (wpAny_bind (m:=firstArgMember _ _) (wpAny_of_eq (a:=Value.none) (by first | rfl | (simp only[firstArgMember];rfl)) (wpAny_newObj_type ?_ (by size_fits)))) (by size_fits))
 simp only[raiseNew]
 refine wpAny_bind (wpAny_handled ?_)
 first | rw[show A.in1.handled=none from hh] | rw[hh]
 refine wpAny_bind (Rr (wpAny_throw (hE _ _ (((Kw ..).extBut.push _).push _) ⟨_,SA,rfl⟩)))
theorem drawsT(hh:A.handled=none)(j t:Nb)(ax:t≠j)(xs:Array Value) :
  Draws prog w A j [j,t] xs.size (λi v=>xs[i]?=some v) (λi h=>h.IsTupleIter j t i∧h.IsTuple t xs) where
 live:=λ_ _ st=>let⟨o,ho,_⟩:=st.1;⟨o,ho⟩
 frame:=λi h h' st k=>⟨st.1.at λo e=>k j Gf o e,let⟨o,e,r⟩:=st.2;⟨o,k t Gf o e,r⟩⟩
 item:=λi s Q E hi st hQ=>by
  refine next_item st.1 st.2 (x:=xs[i]) (by simp[hi]) λg a b=>?_
  obtain⟨o,e,r⟩:=st.2
  exact hQ _ g s.toks (by simp[hi]) ⟨a,o,(b.2 t ax).trans e,r⟩ b
 done:=λs Q E st hE=>next_end hh st.1 st.2 Gf hE
def new_tuple(t:Nb)(xs:Array Value)(n:Nat)(dct:Option Addr)(sl:Array S0) :
  Meets (Builtin.«enumerate.__new__» ⟨[.type "enumerate",TK],[]⟩) (λ_ R s=>s.heap.get? t=some {cls:=.type "tuple",dict:=dct,data:=.seq xs n,slots:=sl} ∧
   R (L4 (.ref (s.heap.push {cls:=.type "tuple_iterator",data:=.fields #[TK,Sl 0 0]}).objs.size))
    {s with heap:=(s.heap.push {cls:=.type "tuple_iterator",data:=.fields #[TK,IB]}).push {cls:=.type "enumerate",data:=.fields #[.none,yi,Gy,Ez 0,.none,.none]}}) :=
 .of_wp λprog w A R s h=>by
  obtain⟨hp,g,d,tk,os⟩:=s;obtain⟨hl,h⟩:=h
  have ji:=sub_enumerate
  have hL:Heap.IsTuple (Shared.heap ⟨hp,g,d,tk,os⟩) t xs:=⟨_,hl,rfl,n,rfl⟩
  wp_walk using wpAny_loadPart' hl
  refine wpAny_stack_any λst=>wpAny_pure ?_
  split
  ·rename_i c _ _ _ _ _
   cases(c==Value.type "enumerate")<;>(wp_walk using wpAny_loadPart' hl,wpAny_pyIter_tuple hL;exact⟨xc,h⟩)
  ·wp_walk using wpAny_loadPart' hl,wpAny_pyIter_tuple hL
   exact⟨xc,h⟩
def call_enum(hL:Em)(h:∀g,IsEnum g Hd s.heap.objs.size 0 .none→g.IsTupleIter s.heap.objs.size t 0→g.objs.size=s.heap.objs.size+2→GY→Q (Go (s.heap.objs.size+1)) {s with heap:=g}) :
  wpAny GJ A (call (.type "enumerate") [TK]) Q E s:=by
 obtain⟨⟨c,dct,dt,sl⟩,hl,hc,n,hd⟩:=hL
 replace hc:c=.type "tuple" := hc
 replace hd:dt=.seq xs n:=hd
 subst hc hd
 refine callType_new F.called_enumerate Gj (F.typeCall_enumerate_1 _) (F.newCall_enumerate_1 _) (λobj=>F.args_object_init_2 obj _) F.entry_enumerate_new (new_tuple t xs n dct sl) ⟨hl,?_⟩
 have hz:(s.heap.push {cls:=.type "tuple_iterator",data:=.fields #[TK,IB]}).objs.size=s.heap.objs.size+1:=Wp ..
 show _∧_
 rw[hz]
 have he:IsEnum ((s.heap.push {cls:=.type "tuple_iterator",data:=.fields #[TK,IB]}).push {cls:=.type "enumerate",data:=.fields #[.none,yi,Gy,Ez 0,.none,.none]}) Hd s.heap.objs.size 0 .none:=by
  have q:=Za (s.heap.push {cls:=.type "tuple_iterator",data:=.fields #[TK,IB]}) (o:={cls:=.type "enumerate",data:=.fields #[.none,yi,Gy,Ez 0,.none,.none]}) rfl
  rw[hz]at q;exact q
 exact⟨⟨_,he,rfl⟩,h _ he ⟨_,WG SA,rfl,rfl⟩ (by rw[Wp,hz]) λb o x=>WG (WG x)⟩
end
end Enu
namespace L2
open PySem PySem.Spec PyProof.Rows Enu
def Ite(a:Nb)(K:Na):It :=
 ⟨λi H=>∃xs,JP xs∧i<xs.length,λi H x H'=>∃y t,(∀xs,JP xs→xs[i]?=some y)∧H t=none∧x=.ref t∧H'=ZS t (.tup [Ew,y]),λi H=>∃xs,JP xs∧xs.length≤i⟩
theorem turn_enum{P:Nk}{w:Nl}{K:Na}{elts:Nr}{kk:Nat}{pos:Pos}(a e j:Nb)(iP:e≠j)(haj:a≠j)(hae:e≠a) :
  Turn P w K (.Tuple elts kk pos) (Ite a K) [e,j] e (λi h=>(∃old,IsEnum h e j i old)∧h.IsTupleIter j a i) where
 mem:=by simp
 obj:=λi h st b hb=>by
  rcases Qf.mp hb with z | z
  ·subst z
   obtain⟨old,q⟩:=st.1
   exact⟨_,q,λv z=>by
    have z':Data.fields _=Data.cell v:=z
    cases z'⟩
  ·rw [LU z]
   obtain⟨o,q,c,d⟩:=st.2
   exact⟨o,q,λv z=>by rw[d]at z;cases z⟩
 keep:=λi h h' st k=>⟨let⟨old,q⟩:=st.1;⟨old,k e Gf _ q⟩,st.2.at λo q=>k j Gf o q⟩
 item:=by
  intro X hP hw hK hc i a5 s σ H E I hf st hg
  subst hP hw hK
  obtain⟨xs,hq,hi⟩:=hg
  obtain⟨a7,rv,p,hz⟩:=I.tuple hq
  have hl:=rv.length
  obtain⟨⟨old,he⟩,i8⟩:=st
  have hh:X.A.in1.handled=none:=I.ok.hd hc
  refine wpAny_pyNext_enum_itemD (drawsT hh j a haj a7.toArray) he ⟨i8,p⟩ (by simp;exact zar7 ‹_› ‹_›) iP (by simp[iP,hae]) λx g tk hP ho hs hT hsz hk=>⟨Gy,rfl,?_⟩
  have fr:∀b,b∈[e,j]→QY b:=hf
  obtain⟨e0,e1,e2,e3,e4,e5⟩:=hf e Gf
  obtain⟨j0,j1,j2,j3,j4,j5⟩:=hf j Gf
  have hHe:∀b u,H b=some u→b≠e∧b≠j:=λb u q=>⟨λz=>(by rw[z,e0]at q;cases q),λz=>(by rw[z,j0]at q;cases q)⟩
  have I1:ZA H {s with heap:=g,toks:=tk+1}:=by
   refine I.step (g':=s.gens) (d':=s.drawn) (ch:=[e,j]) (λb hb=>?_) (λb o _ _ hc q _=>hk b o (λz=>hc (by simp[z])) (λz=>hc (by simp[z])) q) (λb o _ _ hc q _=>⟨o.slots,hk b o (λz=>hc (by simp[z])) (λz=>hc (by simp[z])) q⟩) (λ_ _ _ _ n=>n)
    (λb o hc q=>⟨o,hk b o (λz=>hc (by simp[z])) (λz=>hc (by simp[z])) q⟩) (λ_ _ q=>q) (λ_ _ _ q=>q) (λb ps q=>⟨#[],by rw[q];simp⟩) (λm hm=>?_) (λb u q=>?_) I.bare
   ·rcases Qf.mp hb with z | z
    ·subst z;exact⟨e3,e1,e4,e5⟩
    ·rw[Qc.mp z];exact⟨j3,j1,j4,j5⟩
   ·obtain ⟨o,es,ep,q,r⟩:=hm
    exact⟨o,es,ep,hk _ o (Zk e1) (Zk j1) q,r⟩
   ·refine (XR u q).stay (fun c v hc z=>?_) (fun _ z=>z) fun _ _ z=>z
    have hcn:c≠e∧c≠j:=by
     rcases hc with rfl | hc
     ·exact hHe c u q
     ·exact hHe c _ hc
    exact hk c v hcn.1 hcn.2 z
  obtain⟨y,hy⟩:∃y,xs[i]?=some y:=⟨xs[i],Qd hi⟩
  obtain⟨u,hu,ru⟩:=rv.get hy
  have hP':a7[i]?=some x:=by simpa using hP
  rw[hu]at hP'
  have hux:u=x:=Qn hP'
  subst hux
  have hN:H s.heap.objs.size=none:=I.hok.fresh GV
  refine wpAny_letOwnedTupleGo_enum ho λg' aU bv=>?_
  have nT:s.heap.objs.size≠e:=Yp (Qv he)
  have nJ:s.heap.objs.size≠j:=by obtain⟨o,q,_⟩:=i8;exact Yp (Qv q)
  have I2:ZA H {s with heap:=g',toks:=tk+1}:=Inv.turned (s:={s with heap:=g,toks:=tk+1}) (t':=tk+1) (it:=e) I1 (λb o hb q=>(bv.2 b hb).trans q) e0 e1 e3 e4 e5
  have hT':g'.get? s.heap.objs.size=some {cls:=.type "tuple",data:=.seq #[Sl i tk,u]}:=(bv.2 _ nT).trans hT
  have I3:ZA (OB (.tup [Ew,y])) {s with heap:=g',toks:=tk+1}:=by
   refine⟨I2.ok,I2.os,I2.bare,⟨I2.base.keep,I2.base.slot,λb o q n hx=>?_,I2.base.there,λb zs q=>?_,λb o v q=>?_,λb ps q=>?_⟩,I2.loc,I2.cell,?_,λz c q=>?_,λpp hp=>?_,λb v q=>?_,I2.len⟩
   ·have lt:b < s.heap.objs.size:=Zw (Qv q) I.sz
    rw[zaf IK];exact I2.base.free b o q n hx
   ·have:=I2.base.tups b zs q
    rw[zaf (zac this hN)];exact this
   ·have:=I2.base.frzs b o v q
    rw[zaf (zac this hN)];exact this
   ·obtain ⟨m,z⟩:=I2.base.tbls b ps q
    exact⟨m,Gv zN z⟩
   ·rw[zaf (Zi I.lt)];exact I2.free
   ·rw[zaf (Zi (I.cl_lt z c q))];exact I2.freeC z c q
   ·obtain ⟨h1,h2,h3⟩:=I2.pin pp hp
    exact⟨h1,Gv (Zi (I.pin_lt pp hp)) h2,h3⟩
   ·by_cases hb:b=s.heap.objs.size
    ·subst hb
     rw[zab]at q
     cases q
     exact⟨Sh,[Sl i tk,u],LJ ⟨tk,rfl⟩ (Rk ru),_,hT',rfl,xc⟩
    ·rw [Iz] at q
     exact(I2.hok b v q).stay (λc v _ z=>z) (λc z=>by rw[zaf zN];exact z) λc zs z=>by rw[zaf zN];exact z
  refine⟨Gy,_,I3,rfl,⟨y,_,λys hys=>by rw[I.tuple_inj hys hq];exact hy,hN,rfl,rfl⟩,⟨⟨u,Gk aU⟩,?_⟩,λb hb=>?_⟩
  ·exact hs.1.at λo q=>(bv.2 j (Zk iP)).trans q
  ·rcases Qf.mp hb with z | z
   ·rw[z,zaf (Zk nT)];exact e0
   ·rw[Qc.mp z,zaf (Zk nJ)];exact j0
 done:=by
  intro X hP hw hK hc i a5 s σ H E I hf st hg
  subst hP hw hK
  obtain⟨xs,hq,hi⟩:=hg
  obtain⟨a7,rv,p,hz⟩:=I.tuple hq
  have hl:=rv.length
  obtain⟨⟨old,he⟩,i8⟩:=st
  obtain⟨j0,j1,j2,j3,j4,j5⟩:=hf j Gf
  have hh:X.A.in1.handled=none:=I.ok.hd hc
  have hT:s.TypeIs (Go e) "enumerate" := ⟨_,he,rfl⟩
  unfold pyNext
  refine wpAny_bind (zO (wpAny_callSpecial?_slot (name:=Str.ofString "__next__") hT F.slot_enumerate_next (wpAny_call_entry F.slot_enumerate_next hT F.entry_enumerate_next ?_ (F.args_enumerate_next_1 _))))
  show ZV _ (field (Go e) 2 >>= _) _ _ _
  refine wpAny_bind (wpAny_field he rfl (x:=.ref j) rfl (wpAny_bind (next_end hh i8 p (by simp;exact zea ‹_› ‹_›) λg x hg hx=>?_)))
  obtain⟨o,ho,hc⟩:=hx
  refine wpAny_bind (wpAny_isInstance (T := "StopIteration") (b:=true) ⟨o,ho,hc⟩ isSubtype_stop (wpAny_pure ⟨rfl,?_⟩))
  exact I.turned (t':=s.toks) (λb o hb q=>hg b o hb q) j0 j1 j3 j4 j5
 self:=λA i s Q E st h=>by
  obtain⟨⟨old,he⟩,_⟩:=st
  exact Dg h
end L2
end
section
namespace L2
open PySem PySem.Spec PyProof.Rows Enu
section
variable{X:Cx}
def iEnum(K:Na)(ta:TA):TI:=λ σ H R=>ta σ H λvs H1=>∃a,vs=[Rg]∧(∃xs,SqT K H1 a xs)∧R (Ite a K) H1
def pi_enum(hg:V4 "enumerate")(hm:X.mg "enumerate" = none)(ha:VP [a] ta)(hs:starEach [a] X.env=[(false,Hm a)]:=by rfl) :
  PI X (.Tuple elts kk tpos) (.Call (.Name "enumerate" p) [a] [] pos) (iEnum X.K ta):=by
 intro a5 s σ H R I h
 refine Call_ (Bw boot_enumerate (Ua (thn Sd λus s1 ⟨vs,H1,I1,r1,q1⟩=>?_) hs rfl))
 obtain⟨t,e,⟨xs,hq⟩,q⟩:=q1
 subst e
 obtain⟨u,rfl,ru⟩:=vals1 r1
 cases ru
 obtain⟨a7,rv,pl,hz⟩:=I1.tuple hq
 have lt:t<s1.heap.objs.size:=by obtain⟨o,q,_⟩:=pl;exact Qv q
 refine call_enum pl λg he i8 hsz k=>Dg ?_
 have I2:ZA H1 {s1 with heap:=g}:=I1.kept (t':=s1.toks) k
 refine⟨s1.heap.objs.size+1,[s1.heap.objs.size+1,s1.heap.objs.size],_,_,H1,rfl,I2,turn_enum t _ _ (Xf _) IK (Yp (Ju lt)),⟨⟨_,he⟩,i8⟩,λb hb=>?_,q⟩
 have e7:s1.heap.objs.size≤b:=by
  rcases Qf.mp hb with z | z
  ·rw[z];exact Um _
  ·rw[Qc.mp z];exact Qg _
 exact I1.fpOk e7 (I1.hok.fresh e7)
def for_enum{K:Na}{a:Nb}{xs:List V}{g:TG}{tb:TS}{D:Ends}{σ:St}{H:Hp}(Pv:Nat→St→Hp→Prop)(h0:Cl)(hl:∀i σ H,i≤xs.length→Pv i σ H→H a=some RX)(hs:∀i x t σ H,xs[i]?=some x→Pv i σ H→H t=none→g TK σ (ZS t (.tup [Ew,x])) λ σ2 H2=>tb {D with nx:=Pv Hj,ct:=Pv Hj,bk:=D.nx} σ2 H2)(hd:∀σ H,Pv xs.length σ H→YB H) :
  ∃W:Nat→Nat→St→Hp→Prop,(∃m,W 0 m σ H)∧∀i m σ H,W i m σ H →
   ((Ite a K).stop i H∧YB H)∨((Ite a K).go i H∧∃N:St→Hp→Prop,GZ∧∀x H',(Ite a K).yld i H x H'→g x σ H' λ σ2 H2=>tb {D with nx:=N,ct:=N,bk:=D.nx} σ2 H2):=by
 refine⟨λi m σ H=>m=xs.length-i∧i≤xs.length∧Pv i σ H,⟨xs.length,Gf,RP,h0⟩,?_⟩
 rintro i m σ H ⟨rfl,hi,p⟩
 have q:=hl i σ H hi p
 by_cases ad:i<xs.length
 ·refine .inr ⟨⟨xs,Hy q,ad⟩,Pv Hj,fun σ' H' p'=>⟨xs.length - Hj,Ha,rfl,ad,p'⟩,fun x H' y=>?_⟩
  obtain⟨z,t,e1,e3,rfl,rfl⟩:=y
  exact hs i z t σ H (e1 xs (Hy q)) p e3
 ·have e:i=xs.length:=by exact zar3 ‹_› ‹_›
  subst e
  exact .inl ⟨⟨xs,Hy q,GV⟩,IA⟩
def Its(x:Str):It:=⟨λi _=>i<x.cps.size,λi H v H'=>H'=H∧∃c,x.cps[i]?=some c∧v=.str ⟨#[c]⟩,λi _=>x.cps.size≤i⟩
theorem turn_str{P:Nk}{w:Nl}{K:Na}{tg:Expr}{x:Str}{t:Tok}(it:Nb):X5 (Its x) [it] it (λi h=>h.IsStrIter it "str_ascii_iterator" x t i) where
 mem:=by simp
 obj:=λi h st b hb=>by
  rw[Qc.mp hb]
  obtain⟨o,e,c,d⟩:=st
  exact⟨o,e,λv z=>by rw[d]at z;cases z⟩
 keep:=λi h h' st k=>let⟨o,ho,r⟩:=st;⟨o,k it Gf o ho,r⟩
 item:=by
  intro X hP hw hK hc i a5 s σ H E I hf st hg
  subst hP hw hK
  obtain⟨f0,f1,f2,f3,f4,f5⟩:=VA Gf
  have hi:i<x.cps.size:=hg
  refine wpAny_pyNext_ascii_item st (c:=x.cps[i]) (by simp[hi]) λh' aa sb=>?_
  have I1:ZA H {s with heap:=h',toks:=s.toks+1}:=I.turned (λb o hb e=>(O0 hb).trans e) f0 f1 f3 f4 f5
  obtain⟨o,e,c,d⟩:=id aa
  exact⟨xc,go_of (s:={s with heap:=h',toks:=s.toks+1}) e c d Gj ⟨RN ⟨#[x.cps[i]]⟩,H,I1,⟨xc⟩,⟨rfl,_,by simp[hi],rfl⟩,aa,λb hb=>(Fw hb).1⟩⟩
 done:=by
  intro X hP hw hK hc i a5 s σ H E I hf st hg
  subst hP hw hK
  obtain⟨f0,f1,f2,f3,f4,f5⟩:=VA Gf
  have hi:x.cps.size≤i:=hg
  exact wpAny_pyNext_ascii_end Sr st (by simp[hi]) λh' eb=>⟨rfl,I.turned (t':=s.toks) (λb o hb e=>eb b o hb e) f0 f1 f3 f4 f5⟩
 self:=λ_ _ _ _ _ st h=>wpAny_pyIter_striter_ascii st h
def iStr(tl:TE):TI:=λ σ H R=>tl σ H λv H1=>∃x:Str,v=.str x∧x.cps.all (· < 128)=true∧R (Its x) H1
def pi_str{tg l:Expr}{tl:TE}(hl:Ov):UU l (iStr tl):=by
 intro a5 s σ H R I h
 refine thn TY λv s1 ⟨y,H1,I1,r1,q1⟩=>?_
 obtain⟨x,e,ha,q⟩:=q1
 subst e
 obtain⟨t,rfl⟩:=r1
 refine wpAny_pyIter_ascii ha ?_
 refine⟨s1.heap.objs.size,[s1.heap.objs.size],_,_,H1,rfl,I1.kept (t':=s1.toks) λb o e=>WG e,turn_str (t:=t) _,⟨_,SA,rfl,rfl⟩,λb hb=>?_,q⟩
 rw[Qc.mp hb]
 exact XD Tt
def op_le_str:Y3 (compareOp .LtE) (λx y H Q=>Ex2 λi j=>Aj3 (x=.str i) (y=.str j) (Q (yr (!decide (j.cps.toList<i.cps.toList))) H)):=by
 intro a5 s σ H x y v u Q I rx ry h
 obtain⟨i,j,rfl,rfl,q⟩:=h
 obtain⟨t,rfl⟩:=rx
 obtain⟨t',rfl⟩:=ry
 exact PySem.P.le_str (QS rfl)
end
end L2
end
section
namespace L2
open PySem PySem.Spec PyProof.Rows
section
variable{X:Cx}{a5:Nh}{σ:St}{H:Hp}{s:Ni}
inductive RrNil(neg:Bool)(K:Na)(x:V)(y:V)(H:Hp)(Q:VK):Prop
 |mk (l:_) (b:_) (xs:_) (h0:x=.ref l) (h1:y=.ref b) (h2:SqL K H l xs) (h3:SqL K H b []) (h4:Q (.bl (if neg then !xs.isEmpty else xs.isEmpty)) H):RrNil neg K x y H Q
def rNil(neg:Bool)(K:Na):R2:=λx y H Q=>RrNil neg K x y H Q
def zdp(hu:X.A.units<cLine):Y3 Lr (FA X.K):=by
 intro a5 s σ H x y v u Q I rx ry h
 obtain⟨l,b,xs,rfl,rfl,h1,h2,q⟩:=h
 cases rx;cases ry
 obtain⟨a7,r,pl,_⟩:=I.list h1
 obtain⟨aI,r2,iu,_⟩:=I.list h2
 cases r2
 cases r with
 |nil=>exact SeqAt.RcNeAt.lists (e:=λ_=>true) pl.isList iu.isList rfl hu (λj h1 _=>by simp at h1) _ _ _ _ ⟨Ex,H,I,rfl,q⟩
 |cons a t=>exact SeqAt.RcNeAt.lists_lengths pl.isList iu.isList Gf hu _ _ _ _ ⟨S1,H,I,rfl,q⟩
def op_mul_str:Y3 (binaryOp .Mult) (λx y H Q=>Ex2 λ(z:Str) (n:Nat)=>Aj5 (x=.str z) (y=.int n) (z.length≤1000) (n≤1000) (Q (RN (Txt.mul z n)) H)):=by
 intro a5 s σ H x y v u Q I rx ry h
 obtain⟨z,n,rfl,rfl,h1,h2,q⟩:=h
 obtain⟨t,rfl⟩:=rx
 obtain⟨t',rfl⟩:=ry
 exact SB.mul (mulOk_of 1000 1000 h1 Gg Gg Gj Gj) λt' k=>⟨RN _,H,Ru,⟨t',rfl⟩,q⟩
theorem argBest_lt:∀k,argBest bt k≤k
 |0=>Qg _
 |k+1=>by
  show(if bt (k+1) (Ti k)=true then k+1 else argBest bt k)≤k+1
  split
  ·exact Qg _
  ·exact Nat.le_succ_of_le (argBest_lt k)
theorem zdh(f:Nat→List Nat):∀k j,j≤k→¬f j<f (argBest (λi j=>decide (f i<f j)) k)
 |0,j,h=>by
  have:j=0:=by lia
  subst this
  exact Ww _
 | k+1,j,h=>by
  show ¬f j<f (if decide (f (k+1)<f (argBest (λi j=>decide (f i<f j)) k))=true then k+1 else argBest (λi j=>decide (f i<f j)) k)
  by_cases ad:f (k+1)<f (argBest (λi j=>decide (f i<f j)) k)
  ·rw [Rv (HJ ad)]
   by_cases hj:j=k+1
   ·subst hj;exact Ww _
   ·intro z
    exact zdh f k j Gg (List.lt_trans z ad)
  ·rw [Rm (Gk ad)]
   by_cases hj:j=k+1
   ·subst hj;exact ad
   ·exact zdh f k j Gg
def zje(hc:X.calm=true):Y4 (.builtin "min") (λxs H Q=>Ex2 λ(p:Nb) (zs:Ng)=>Aj4 (xs=[Sv]) (WH Rl) (zs≠[]) (∀z∈zs,(∀y∈zs,leS z y)→Q E9 H)):=by
 intro a5 s σ H xs us Q I r h
 obtain⟨p,zs,rfl,hq,ax,q⟩:=h
 obtain⟨u,rfl,rx⟩:=vals1 r
 cases rx
 have dN:0<zs.length:=Uu.mpr ax
 refine call_min_walk (Dd hq λa7 It h1 rv W st lt keep=>⟨It,_,_,_,_,_,λi j=>decide ((RI i).cps.toList<(RI j).cps.toList),rfl,W,st,lt,?_,λi j vi vj s' Q' E' hi hj cQ=>?_,λv h' tk hv k=>?_⟩)
 ·have:=rv.length
  rw[Qa]at this
  rw[Qw];exact zar7 ‹_› ‹_›
 ·have gs:∀ (i:Nat) (v:Value),a7.toArray[i]?=some v→∃ t,v=.str (RI i) t:=fun i v e=>by
   have e':a7[i]?=some v:=by simpa using e
   have hi:i<a7.length:=(Tl e').1
   have hl:=rv.length
   rw[Qa]at hl
   have ao:i<zs.length:=by exact zar6 ‹_› ‹_›
   obtain⟨u,e2,t,e3⟩:=rv.get (i:=i) (x:=.str zs[i]) (by simp[ao])
   rw[e']at e2
   cases e2
   exact⟨t,by rw[e3];simp[List.getD,ao]⟩
  obtain⟨t1,rfl⟩:=gs i vi hi
  obtain⟨t2,rfl⟩:=gs j vj hj
  exact lt_str cQ
 ·have hl:=rv.length
  rw[Qa]at hl
  have hk:=argBest_lt (bt:=λi j=>decide ((RI i).cps.toList<(RI j).cps.toList)) (a7.toArray.size-1)
  generalize hb:argBest (λi j=>decide ((RI i).cps.toList<(RI j).cps.toList)) (a7.toArray.size-1)=b at hv hk
  have bn:b<zs.length:=by rw[Qw]at hk;lia
  have aY:a7[b]?=some v:=by simpa using hv
  obtain⟨u,e2,t,e3⟩:=rv.get (i:=b) (x:=.str zs[b]) (by simp[bn])
  rw[aY]at e2
  cases e2
  refine⟨.str zs[b],H,Ma k,⟨t,e3⟩,q _ (Qs bn) λy hy=>?_⟩
  obtain⟨j,hj,ej⟩:=Zr hy
  have:=zdh (λi=>(RI i).cps.toList) (a7.toArray.size-1) j (GK Qw)
  rw[hb]at this
  have g1:zs.getD b Str.empty=zs[b]:=by simp[List.getD,bn]
  have g2:zs.getD j Str.empty=y:=by simp[List.getD,hj,ej]
  rw[g1,g2]at this
  exact this
end
section
variable{X:Cx}
def zfs:Y4 (.type "dict") (λxs H Q=>Ex2 λ(d:Nb) (kvs:Sg (Key×V))=>Aj3 (xs=[Cf]) (DP Rp) (∀l,H l=none→Q RH (EX Rp))):=by
 intro a5 s σ H xs us Q I r h
 obtain⟨d,kvs,rfl,hq,q⟩:=h
 obtain⟨u,rfl,rx⟩:=vals1 r
 cases rx
 obtain⟨z,lo,vs,ep,rk,ha,hl⟩:=dk_at I hq
 refine kt_call_dict lo ha.dictOf (Gp hl z) λh' hd sb=>?_
 have lt:d<s.heap.objs.size:=ha.lt_size
 have k:∀b o,s.heap.get? b=some o→h'.get? b=some o:=λb o e=>(O0 E7).trans LZ
 have nS:(s.heap.objs.size==sysModules)=false:=beq_eq_false_iff_ne.mpr (Yp I.big)
 exact⟨Go _,_,I.laid (t':=s.toks) k GV (show QB _ h' _ Rp from⟨z,nS,vs,rk,hd⟩),rfl,A6⟩
def eqV_self{x:V}(f:zdl x=true):eqV x x=true:=by
 cases x with
 |non=>rfl
 |bl b=>exact beq_self_eq_true b
 |int i=>exact beq_self_eq_true i
 |str z=>exact beq_self_eq_true z
 |_=>cases f
end
end L2
end
section
namespace SetT
open PySem PyProof.Rows PySem.Spec
section
variable{prog:Nk}{w:Nl}{A:Np}{R:Nw}{I:Nb}{fp wr:Nn}{G:Array GenState→Array GenState→Prop}{n:Nat}{P:Nat→Value→Prop}{St:Nat→Shared→Prop}
def loop(W:WalksS prog w A.in1 I fp wr G n P St)(S:Nb)(eB:S∉fp)(zs:Ng)(hz:zs.length=n)(nd:zs.Nodup)(dA:∀i v,P i v→∃t,v=.str (RI i) t)(hb:n+1<scanBound) :
  ∀(k i:Nat) (s:Ni),n-i=k→i≤n→St i s→s.heap.SetOf Py S (λx=>decide (x∈zs.take i)) i →
   (∀s',Moved (S::wr) G s s'→s'.heap.SetOf Py S (λx=>decide (x∈zs.take n)) n→R (.ok EH) s')→codeAny GJ A (.builtin "set.update.loop" ⟨[Go S,CW],[]⟩) R s:=by
 have jY:S∉wr:=λh=>eB AG
 have sub:∀b∈wr,b∈S::wr:=λb q=>QK q
 intro k
 induction k with
 |zero =>
  intro i s hk hi aq hS hR
  obtain rfl:i=n:=by lia
  refine codeAny_builtin F.entry_set_update_loop ?_
  rw[Mb _]
  show ZV A.in1 (pyNext CW >>= _) _ _ s
  refine wpAny_bind (W.done s _ _ aq λs' hm=>(show ZV A.in1 (ret Value.none) _ _ s' from wpAny_pure (hR s' (hm.mono sub) ?_)))
  obtain⟨o,es,ep,t,ho,rest⟩:=hS
  exact⟨o,es,ep,t,hm.heap S _ jY ho,rest⟩
 | succ k ih =>
  intro i s hk hi aq hS hR
  have lt:i<n:=by lia
  refine codeAny_builtin F.entry_set_update_loop ?_
  rw[Mb _]
  show ZV A.in1 (pyNext CW >>= _) _ _ s
  refine wpAny_bind (W.item i s _ _ lt aq λv s' hP dH hm=>?_)
  obtain⟨t,rfl⟩:=dA i v hP
  have ao:i<zs.length:=by exact zar6 ‹_› ‹_›
  have eg:zs.getD i Str.empty=zs[i]:=by simp[List.getD,ao]
  rw[eg]
  have cU:s'.heap.SetOf Py S (λx=>decide (x∈zs.take i)) i:=by
   obtain⟨o,es,ep,tb,ho,rest⟩:=hS
   exact⟨o,es,ep,tb,hm.heap S _ jY ho,rest⟩
  show ZV A.in1 (holding [Value.str zs[i] t] (setAdd S (.str zs[i] t)) >>= _) _ _ s'
  refine wpAny_bind (wpAny_holding ?_)
  unfold setAdd
  refine wpAny_holding (RS ((Q7 w).pyHash (k:=zs[i]) (by simp[PySem.strKind,Value.isStrOf]) ?_))
  have nin:decide (zs[i]∈zs.take i)=false:=decide_eq_false λq=>by
   obtain⟨j,hj,e⟩:=Zr q
   rw[Zq]at hj
   rw[Ux]at e
   have:=(Wa nd).mp e
   lia
  refine wpAny_setAddHashed_of (knd:=Q7 w) (k:=zs[i]) (by simp[PySem.strKind,Value.isStrOf]) rfl cU Gg λg sb hS2=>?_
  have hSi:g.SetOf Py S (λx=>decide (x∈zs.take Hj)) Hj:=by
   refine SetOf_congr hS2 (λx=>?_) (by simp only[nin];simp)
   rw[Yw]
   simp only[Kk,decide_eq_true_eq]
   rw[Ql ao,Qk,Qc]
  refine wpAny_pure ⟨plainId_quiet F.plain_set_update_loop _,ih Hj _ Gg lt (W.frame _ s' _ _ dH (by first | exact Qg _ | exact Um _) λb q o e=>?_) hSi λs2 bM hS3=>hR s2 (Moved.trans W.gtrans ((hm.mono sub).then_heap (by first | exact Qg _ | exact Um _) λb o q e=>?_) bM) hS3⟩
  ·rw[sb.2 b (λz:b=S=>eB (by rw[←z];exact q))];exact e
  ·rw[sb.2 b (λz:b=S=>q O3)];exact e
end
section
variable{prog:Nk}{w:Nl}{A:Np}{E:Nc}{s:Ni}
def call_set{l:Nb}{a7:Nj}{zs:Ng}{Q:Nc}(hh:A.handled=none)(hl:s.heap.IsList l a7.toArray)(hz:zs.length=a7.length)(nd:zs.Nodup)(dA:∀(i:Nat) (v:Value),a7[i]?=some v→∃t,v=.str (RI i) t)(hb:a7.length+1<scanBound)(h:∀(g:No) (tk:Nat),g.SetOf Py s.heap.objs.size (λx=>decide (x∈zs)) zs.length→GY→Q Gy {s with heap:=g,toks:=tk}) :
  wpAny GJ A (call (.type "set") [RH]) Q E s:=by
 obtain⟨c,tl,hmro⟩:=Wq.mro
 have hmade:=Wq.made
 have ji:=Wq.sub
 refine wpAny_call (codeAny_of_tree (show ZV _ (callAny (.type "set") _) _ _ _ from wpAny_pure ⟨Code.quiet_builtin _ (by decide +kernel),codeAny_builtin PySem.F.entry_type_call ?_⟩))
 rw[Around.under_plain (weight_type_call_type "set" [RH] []) rfl]
 have h1:=Wq.notType
 have h2:=Wq.canCreate
 have lj:=PySem.F.typeCall_set_1 RH
 repeat(any_goals (first | assumption | wp_step))
 refine codeAny_mono (code_set_new_1 RH (E:=E) (Q₁:=λobj s₁=>∃led:Bool,obj=.ref s.heap.objs.size∧s₁={s with heap:=s.heap.push {cls:=.type "set",dict:=none,data:=.set #[] 0 Sb}}) λled=>⟨led,rfl,rfl⟩) λr s1 hr=>?_
 cases r with
 |error e=>exact hr
 | ok fl =>
  cases fl with
  | ret obj =>
   obtain⟨led,rfl,rfl⟩:=hr
   have hS:(s.heap.push {cls:=.type "set",dict:=none,data:=.set #[] 0 Sb}).get? s.heap.objs.size=some {cls:=.type "set",dict:=none,data:=.set #[] 0 Sb}:=JH rfl
   have hT:Shared.TypeIs {s with heap:=s.heap.push {cls:=.type "set",dict:=none,data:=.set #[] 0 Sb}} Gy "set" := ⟨_,hS,rfl⟩
   have hli:=Wq.init.lookup
   have hbi:=Wq.init.bind Gy
   repeat(any_goals (first | assumption | wp_step))
   refine codeAny_mono (codeAny_call_builtin (R:=wants (λr s₂=>r=.none∧∃g tk,s₂={s with heap:=g,toks:=tk}∧g.SetOf Py s.heap.objs.size (λx=>decide (x∈zs)) zs.length∧GY) E)
    Wq.init.plain PySem.F.entry_set_init (check_set_init_1 hT ?_)) λr2 s2 bj=>?_
   ·obtain ⟨ol,pT,gG,nl,lh⟩:=hl
    obtain⟨ocls,odict,odata,oslots⟩:=ol
    simp only at gG lh
    subst gG;subst lh
    have sD:(s.heap.push {cls:=.type "set",dict:=none,data:=.set #[] 0 Sb}).get? l=some {cls:=.type "list",dict:=odict,data:=.seq a7.toArray nl,slots:=oslots}:=WG pT
    have hsls:=PySem.F.sub_list_set
    have hslf:=PySem.F.sub_list_frozenset
    have ax:(Value.type "list" == Value.type "dict")=false:=by decide
    have aE:(s.heap.push {cls:=.type "set",dict:=none,data:=.set #[] 0 Sb}).IsList l a7.toArray:=⟨_,sD,rfl,nl,rfl⟩
    unfold Builtin.«set.__init__» noKeywords Builtin.Frozenset.updateFrom
    generalize hPI:pyIter=PI
    wp_walk
    subst hPI
    refine wpAny_pyIter_list aE (RS (wpAny_runValue ?_))
    have hlS:l<s.heap.objs.size:=Qv pT
    have hh3:A.in1.in1.in1.handled=none:=by simp[hh]
    have z1:(s.heap.push {cls:=.type "set",dict:=none,data:=.set #[] 0 Sb}).objs.size=s.heap.objs.size+1:=Wp ..
    have sI:l≠(s.heap.push {cls:=.type "set",dict:=none,data:=.set #[] 0 Sb}).objs.size:=by rw[z1];exact Zi (Ju hlS)
    have eB:s.heap.objs.size∉[(s.heap.push {cls:=.type "set",dict:=none,data:=.set #[] 0 Sb}).objs.size,l]:=by
     rw[z1];simp only[Qf,Je,or_false,not_or]
     exact⟨Zi zB,Yp hlS⟩
    refine loop ((Walks.list hh3 _ l sI a7.toArray).toS) s.heap.objs.size eB zs (Gp Qw hz) nd (λi v hv=>dA i v (Gk hv)) (Gp Qw hb) _ 0 _ rfl RP ⟨⟨_,SA,rfl,rfl⟩,(aE.push _)⟩ ?_ ?_
    ·exact SetOf_congr ((setObjOf_fresh (knd:=Q7 w) led).setOf (WG hS) (by unfold scanBound;exact Nat.le_add_left _ _)) (λ_=>by simp) rfl
    ·intro s' hm cU
     obtain⟨g,g',d',qB,qK⟩:=s'
     have eg:g'=s.gens:=hm.gens
     have ed:d'=s.drawn:=hm.drawn
     have eo:qK=s.os:=hm.os
     subst eg;subst ed;subst eo
     show ZV _ _ _ _ _
     refine wpAny_pure (show ZV _ (ret Value.none) _ _ _ from wpAny_pure ⟨rfl,g,qB,rfl,?_,λb o e=>?_⟩)
     ·have e1:a7.toArray.size=zs.length:=by rw [Qw,hz]
      rw[e1,Qt GV]at cU
      exact cU
     ·have lq:b < s.heap.objs.size:=Qv e
      refine hm.heap b o ?_ (WG LZ)
      rw[z1]
      simp only[Qf,Je,or_false,not_or]
      exact⟨Zi lq,Zi (Ju lq)⟩
   ·cases r2 with
    |error e=>exact bj
    | ok fl2 =>
     cases fl2 with
     |ret r =>
      obtain⟨rfl,g,tk,rfl,cU,nC⟩:=bj
      repeat(any_goals (first | assumption | wp_step))
      exact h _ _ cU nC
     |_=>exact bj.elim
  |_=>exact hr.elim
end
end SetT
namespace L2
open PySem PySem.Spec PyProof.Rows
def setO(P:Nk)(w:Nl)(a:Nb)(zs:Ng):HO:=.ext λh=>h.SetOf (PySem.strKind P w) a (λx=>decide (x∈zs)) zs.length
section
variable{X:Cx}
def zjd(hc:X.calm=true):Y4 (.type "set") (λxs H Q=>Ex2 λ(p:Nb) (zs:Ng)=>Aj5 (xs=[Sv]) (WH Rl) zs.Nodup (zs.length≤1000) (∀l,H l=none→Q RH (EX (B7 l zs)))):=by
 intro a5 s σ H xs us Q I r h
 obtain⟨p,zs,rfl,hq,nd,hz,q⟩:=h
 obtain⟨u,rfl,rx⟩:=vals1 r
 cases rx
 obtain⟨a7,rv,pl,_⟩:=I.list hq
 have hl:=rv.length
 rw[Qa]at hl
 refine SetT.call_set (zs:=zs) Sr pl.isList hl nd (λi v e=>?_) (by unfold scanBound;lia) λg tk hS k=>?_
 ·have hi:i < a7.length:=(Tl e).1
  have ao:i<zs.length:=by exact zar6 ‹_› ‹_›
  obtain⟨u,e2,t,e3⟩:=rv.get (i:=i) (x:=.str zs[i]) (by simp[ao])
  rw[e]at e2
  cases e2
  exact⟨t,by rw[e3];simp[List.getD,ao]⟩
 ·refine ⟨Go _,_,I.laid (t':=tk) k GV (show QB _ g _ (B7 s.heap.objs.size zs) from ⟨hS,?_,fun h1 h2 p1 k1=>?_⟩),rfl,A6⟩
  ·obtain ⟨o,_,_,_,e,_⟩:=hS
   exact⟨o,e⟩
  ·obtain ⟨o,es,ep,t,e,rest⟩:=p1
   exact⟨o,es,ep,t,k1 o e,rest⟩
def zjh:Y4 (.builtin "len") (λxs H Q=>Ex2 λ(p:Nb) (zs:Ng)=>Aj4 (xs=[Sv]) (H p=some (B7 p zs)) (zs.length≤1000) (Q (.int zs.length) H)):=by
 intro a5 s σ H xs us Q I r h
 obtain⟨p,zs,rfl,hq,hz,q⟩:=h
 obtain⟨u,rfl,rx⟩:=vals1 r
 cases rx
 obtain⟨⟨o,es,ep,t,ho,hex,hd,f7,hmem,hb,hf,hn⟩,_⟩:=(show QB H s.heap p (B7 p zs) from XU hq)
 exact call_len_set ho hex hd hf (GK hn) ⟨.int zs.length,H,Ru,⟨_,by rw[hn]⟩,q⟩
end
end L2
end
section
namespace DictR
open PySem PyProof.Rows PySem.Spec
def miss_keys:typeLookup (.type "list") "keys" = pure none:=am_miss_of_fast (by decide +kernel)
section
variable{prog:Nk}{w:Nl}{A:Np}{E:Nc}{s:Ni}
def no_keys{a:Nb}{xs:Array Value}{k:Nat}{sl:Array S0}{Q:Option Value→Shared→Prop}(hx:s.heap.get? a=some {cls:=.type "list",dict:=none,data:=.seq xs k,slots:=sl})(hA:A.handled=none)(h:∀g tk,GY→Q none {s with heap:=g,toks:=tk}):ZG (getAttr? Rg "keys") Q E s:=by
 obtain⟨hp,g,d,tk,os⟩:=s
 have hT:∀t',(⟨hp,g,d,t',os⟩:Shared).TypeIs Rg "list" := λ_=>⟨_,hx,rfl⟩
 have f1:=sub_AttributeError
 have f3:=Xv.lookup
 have f4:=Xv.bind Rg
 have f5:=am_list_getattr_none
 unfold getAttr? getAttrBy? getAttrBy
 repeat(any_goals (first | assumption | exact hT _ | ((with_reducible show ZV _ (call (Value.builtin "list.__getattribute__") _ _) _ _ _);refine call_meets Xv (hT _) am_entry_list_getattribute (F.args_list_getattribute_2 _ _) (meets_getattribute_miss_list a xs k sl "keys" _ miss_keys (by decide +kernel) (by decide +kernel)) ⟨hx,hA,λh' qB e gy=>?_⟩) | wp_step))
 obtain⟨t',u',he⟩:=gy.there
 show ZV _ (getattributeRaised _ _ _ _ _ _ _) _ _ _
 unfold getattributeRaised
 repeat(any_goals (first | assumption | wp_step))
 exact h h' qB gy.keeps
def zhr:entryFor table "dict.update.loop" = some Builtin.«dict.update.loop»:=entryFor_of_tree (by kernel_rfl)
def zd0:plainId "dict.update.loop" = true:=by decide +kernel
structure Row(K:Type) where
 a:Addr
 o:Obj
 k:K
 key:Value
 val:Value
 n:Nat
variable{K:Type}[DecidableEq K]{knd:KeyKind prog w K}
def RowAt(knd:KeyKind prog w K)(h:No)(r:Row K):Prop:=h.get? r.a=some r.o∧r.o.cls=.type "tuple" ∧ r.o.data=.seq #[r.key,r.val] r.n∧knd.is r.k r.key=true
def stored_new{kvs:List (K×Value)}(h:k∉kvs.map (·.1)):stored kvs k v=kvs++[(k,v)]:=by
 unfold stored
 rw[if_neg]
 intro z
 obtain⟨p,hp,e⟩:=Yb.mp z
 exact h (Qh.mpr ⟨p,hp,SI e⟩)
def loop{R:Nw}{I l:Nb}(hh:A.handled=none)(rows:Sg (Row K))(d:Nb)(tN:d≠I)(lh:d≠l)(hlI:l≠I)(hr:∀ r∈rows,r.a≠d∧r.a≠I)(nd:(rows.map (·.k)).Nodup)(hz:rows.length≤sizeLine) :
  ∀(m i:Nat) (s:Ni),rows.length-i=m→i≤rows.length→s.heap.IsListIter I l i→s.heap.IsList l (rows.map λr=>Value.ref r.a).toArray→(∀r∈rows,FB r)→s.heap.DictOf knd d ((yK i).map λr=>(r.k,r.val)) →
   (∀g tk,(∀b o,b≠d→b≠I→s.heap.get? b=some o→g.get? b=some o)→g.DictOf knd d (rows.map λr=>(r.k,r.val))→R (.ok EH) {s with heap:=g,toks:=tk}) →
   codeAny GJ A (.builtin "dict.update.loop" ⟨[Cf,CW,Ez i,.none],[]⟩) R s:=by
 intro m
 induction m with
 |zero =>
  intro i s hm hi st hl hR hd hQ
  obtain rfl:i=rows.length:=by lia
  refine codeAny_builtin zhr ?_
  rw[Yv zd0 _]
  show ZV A.in1 (pyNext CW >>= _) _ _ s
  refine wpAny_bind (wpAny_pyNext_list_end (show A.in1.handled=none from hh) st hl Gf λg eb=>?_)
  show ZV A.in1 (Builtin.Dict.addKeywords d [] >>= λ_=>ret Value.none) _ _ _
  refine wpAny_bind (show ZV A.in1 (pure ()) _ _ _ from wpAny_pure (wpAny_pure (hQ g s.toks (λb o _ hb e=>eb b o hb e) ?_)))
  rw[Qt GV]at hd
  exact hd.extBut eb tN
 | succ m ih =>
  intro i s hm hi st hl hR hd hQ
  have lt:i<rows.length:=by lia
  obtain⟨e1,e2,e3,e4⟩:=hR rows[i] (Qs lt)
  obtain⟨n1,n2⟩:=hr rows[i] (Qs lt)
  refine codeAny_builtin zhr ?_
  rw[Yv zd0 _]
  show ZV A.in1 (pyNext CW >>= _) _ _ s
  refine wpAny_bind (MA hl (x:=.ref rows[i].a) (by simp[lt]) λg aa sb=>?_)
  have k1:∀b o,b≠I→s.heap.get? b=some o→g.get? b=some o:=λb o hb e=>(O0 hb).trans e
  have li:g.DictOf knd d ((yK i).map λr=>(r.k,r.val)):=hd.sameBut sb tN
  refine wpAny_bind (wpAny_holding ?_)
  refine wpAny_bind (wpAny_tryCatch ?_)
  show ZV A.in1 (Builtin.Dict.pairItems (.ref rows[i].a)) _ _ _
  unfold Builtin.Dict.pairItems
  refine wpAny_bind (wpAny_typeOf (T := "tuple") ⟨_,k1 _ _ n2 e1,e2⟩ ?_)
  rw[if_pos Gj]
  refine wpAny_bind (wpAny_seqItems (k1 _ _ n2 e1) e3 (wpAny_pure ?_))
  show ZV A.in1 (holding [rows[i].key,rows[i].val] (dictSet d rows[i].key rows[i].val)) _ _ _
  have nk:rows[i].k∉((yK i).map λr=>(r.k,r.val)).map (·.1):=by
   rw[Zj]
   intro q
   obtain⟨r,ai,bj⟩:=Qh.mp q
   obtain⟨j,hj,ej⟩:=Zr ai
   rw[Zq]at hj
   rw[Ux]at ej
   have l9:j<rows.length:=by lia
   have:(rows.map (·.k))[j]'(Gk l9)=(rows.map (·.k))[i]'(Gk lt):=by
    rw[Zl,Zl,ej];exact bj
   have:=(Wa nd).mp this
   lia
  refine wpAny_holding (wpAny_dictSet_pairs (knd:=knd) e4 li (λg2 oi sb2=>?_) (by rw[Qa,Zq];lia))
  rw[stored_new nk]at oi
  have oh:g2.DictOf knd d ((yK Hj).map λr=>(r.k,r.val)):=by
   rw[Ql lt,Qp];exact oi
  have k2:∀b o,b≠d→b≠I→s.heap.get? b=some o→g2.get? b=some o:=λb o gJ bn e=>(sb2.2 b gJ).trans (k1 b o bn e)
  have hc:((i:Int)+1)=((i+1:Nat):Int):=by push_cast;rfl
  refine wpAny_pure ⟨Aj zd0,?_⟩
  rw[hc]
  refine ih Hj _ Gg lt ?_ ?_ (λr mx=>?_) oh λg3 tk3 k3 tO=>?_
  ·obtain ⟨o,q,z⟩:=aa
   exact⟨o,(sb2.2 I (Zk tN)).trans q,z⟩
  ·obtain ⟨o,q,z⟩:=hl
   exact⟨o,k2 l o (Zk lh) hlI q,z⟩
  ·obtain ⟨q1,q2⟩:=hR r mx
   exact⟨k2 _ _ (hr r mx).1 (hr r mx).2 q1,q2⟩
  ·exact hQ g3 tk3 (λb o gJ bn e=>k3 b o gJ bn (k2 b o gJ bn e)) tO
def call{l:Nb}{rows:List (Row K)}{Q:Nc}{xk:Nat}(hh:A.handled=none)(hl:s.heap.get? l=some {cls:=.type "list",data:=.seq (rows.map λr=>Value.ref r.a).toArray xk})(hR:∀r∈rows,FB r)(nd:(rows.map (·.k)).Nodup)(hz:rows.length≤sizeLine)(h:∀g tk,g.DictOf knd s.heap.objs.size (rows.map λr=>(r.k,r.val))→GY→Q Gy {s with heap:=g,toks:=tk}) :
  wpAny GJ A (call (.type "dict") [RH]) Q E s:=by
 refine callType_codes (Q₁:=λobj s₁=>obj=.ref s.heap.objs.size∧s₁={s with heap:=s.heap.push {cls:=.type "dict",data:=.dict #[]}}) PySem.F.kt_called_dict (PySem.F.kt_typeCall_dict_1 _) PySem.F.entry_dict_init (kt_code_dict_new _ ⟨rfl,rfl⟩) ?_
 rintro obj s₁ ⟨rfl,rfl⟩
 have ci:(s.heap.push {cls:=.type "dict",data:=.dict #[]}).DictOf knd s.heap.objs.size []:=Heap.DictOf.new s.heap
 refine⟨ci.typeIs,PySem.F.args_dict_init_2 _ _,?_⟩
 unfold Builtin.«dict.__init__»
 refine wpAny_bind ?_
 unfold Builtin.Dict.selfAndRest
 refine wpAny_bind (wpAny_notOrdered_dict ci.typeIs (show ZV _ (pure (s.heap.objs.size,[yL l])) _ _ _ from wpAny_pure ?_))
 show ZV _ (Builtin.Dict.updateFrom "dict.__init__" s.heap.objs.size RH [] .none) _ _ _
 unfold Builtin.Dict.updateFrom
 have aE:(s.heap.push {cls:=.type "dict",data:=.dict #[]}).get? l=some {cls:=.type "list",data:=.seq (rows.map λr=>Value.ref r.a).toArray xk}:=WG hl
 refine wpAny_bind (wpAny_typeOf (T := "list") ⟨_,aE,rfl⟩ ?_)
 rw[if_pos Gj]
 refine wpAny_bind (no_keys aE (by first | exact hh | (show A.handled=none;exact hh)) λg tk kg=>?_)
 simp only[Option.isNone_none,if_true]
 refine wpAny_bind (wpAny_rule ?_)
 have ltl:l<s.heap.objs.size:=Qv hl
 have dg:g.DictOf knd s.heap.objs.size []:=by
  obtain⟨o,es,ep,q,z⟩:=ci
  exact⟨o,es,ep,kg _ _ q,z⟩
 have hlg:g.IsList l (rows.map λr=>Value.ref r.a).toArray:=⟨_,kg _ _ aE,rfl,xk,rfl⟩
 have ltd:s.heap.objs.size<g.objs.size:=by
  obtain⟨o,es,ep,q,z⟩:=dg
  exact Qv q
 have lts:∀b o,s.heap.get? b=some o→b≠s.heap.objs.size∧b≠g.objs.size:=λb o e=>⟨E7,Zi (Wk TU ltd)⟩
 refine wpAny_bind (wpAny_pyIter_list (s:={s with heap:=g,toks:=tk}) hlg (Rr ⟨Aj zd0,?_⟩))
 refine loop (knd:=knd) (I:=g.objs.size) (l:=l) (by first | exact hh | (show A.handled=none;exact hh)) rows s.heap.objs.size (Zi ltd) (Yp ltl) (Zi (Wk ltl ltd)) (λr hr=>lts r.a r.o (hR r hr).1) nd hz _ 0 _ rfl RP ⟨_,SA,rfl,rfl⟩ ?_ (λr hr=>?_) ?_ λg2 tk2 k2 hd=>?_
 ·obtain ⟨o,q,z⟩:=hlg
  exact⟨o,WG q,z⟩
 ·obtain ⟨q1,q2⟩:=hR r hr
  exact⟨WG (kg _ _ (WG q1)),q2⟩
 ·exact dg.push _
 ·exact⟨rfl,h g2 tk2 hd λb o e=>k2 b o (lts b o e).1 (lts b o e).2 (WG (kg _ _ LZ))⟩
end
end DictR
end
section
namespace L2
open PySem PySem.Spec PyProof.Rows
section
variable{X:Cx}
abbrev RowsAt(H:Hp):List Addr→List (Str×V)→Prop:=Paired λa p=>H a=some (.tup [.str p.1,p.2])
theorem rows_of(I:Hb):∀{as:Nn} {ps:List (Str×V)},RowsAt H as ps →
  ∃rows:List (DictR.Row Key),rows.map (·.a)=as∧(∀r∈rows,DictR.RowAt SZ s.heap r)∧rows.map (·.k)=ps.map (λp=>Sum.inr p.1)∧KV (ps.map λp=>((Sum.inr p.1:Key),p.2)) (rows.map λr=>(r.k,r.val))
 |_,_,.nil=>⟨[],rfl,λr hr=>(by cases hr),rfl,.nil⟩
 | a::as,p::ps,.cons h t=>by
  obtain⟨rows,e1,e2,e3,e4⟩:=rows_of I t
  obtain⟨_,a7,r,o,q,c,n,d⟩:=MO h
  obtain⟨u,w',rfl,⟨tk,rfl⟩,rz⟩:=vals2 r
  refine⟨⟨a,o,Sum.inr p.1,.str p.1 tk,w',n⟩::rows,by rw[Qm,e1],λx hx=>?_,by rw[Qm,Qm,e3],.cons ⟨rfl,rz⟩ e4⟩
  rcases Qf.mp hx with z | z
  ·subst z
   exact⟨q,c,d,zgo _ _ _ _⟩
  ·exact e2 x z
def zha(hc:X.calm=true):Y4 (.type "dict") (fun xs H Q=>Ex3 fun (p:Nb) (as:Nn) (ps:Sg (Str×V))=>Aj5 (xs=[Sv]) (H p=some HW) (RowsAt H as ps) ((ps.map (·.1)).Nodup) (∀ l,H l=none→Q RH (ZS l (.dK (ps.map fun p=>((Sum.inr p.1:Key),p.2)))))):=by
 intro a5 s σ H xs us Q I r h
 obtain⟨p,as,ps,rfl,hp,hr,nd,q⟩:=h
 obtain⟨u,rfl,rx⟩:=vals1 r
 cases rx
 obtain⟨hz,a7,n,rv,hl,e⟩:=I.lstM hp
 obtain⟨rows,e1,e2,e3,e4⟩:=rows_of I hr
 have eits:a7=rows.map λr=>Value.ref r.a:=by
  have eG:=e1
  clear hz hl e hp e4 e3 e2 hr e1 q
  induction rows generalizing as a7 with
  |nil=>subst eG;cases rv;rfl
  | cons r rs ih =>
   cases as with
   |nil=>cases eG
   | cons a as =>
    rw[Qm]at eG rv
    injection eG with h1 h2
    cases rv with
    |cons r1 r2 =>
     cases r1
     rw[Qm,h1,ih _ _ r2 h2]
 subst eits
 have ae:rows.length≤sizeLine:=by rw[Qa]at hz hl;rw[Qa]at hl;exact zea ‹_› ‹_›
 have ndk:(rows.map (·.k)).Nodup:=by
  rw[e3,show(λp:Str×V=>(Sum.inr p.1:Key))=(Sum.inr:Str→Key)∘(λp:Str×V=>p.1) from rfl,←Zj]
  exact List.Pairwise.map _ (λa b z q=>z Pb) nd
 refine DictR.call (knd:=Q6 X.w) (rows:=rows) (xk:=n) Sr e e2 ndk ae λg tk hd k=>?_
 have nS:(s.heap.objs.size==sysModules)=false:=beq_eq_false_iff_ne.mpr (Yp I.big)
 refine⟨Go _,_,I.laid (t':=tk) k GV (show QB _ g _ (.dK _) from⟨?_,nS,_,e4,hd⟩),rfl,A6⟩
 have:=Zy e4
 rw[Qa,Qa]at this
 rw[Qa];lia
end
def eval_dc(kx vx gens scope pos):eval EJ env=comprehension EJ scope env (firstIterPos gens pos) newDict (firstAsync gens) (firstIter gens env):=rfl
def zi8{prog:Nk}{w:Nl}{A:Np}{s:Ni}{kx vx target iter:Expr}{ifs:Nr}{scope:Scope}{pos:Pos}{it:Value}{D:Nb}{env:Env}{R:Nw}(I:Nat→Shared→Prop)(turn:∀ n s,I n s→wpAny (model prog w) A (pyNext it) (fun r s₁=>match r with
   |none=>R LP s₁
   | some v=>ZG SN (fun _ s₁'=>ZG TN (fun _ s₂ =>
     wpAny GJ A Hs (λok s₃ =>
      if ok=true then ZG (LI kx) (λkv s₄=>ZG (LI vx) (λvv s₅ =>
       wpAny GJ A (dictSet D kv vv) (λ_ s₆=>∃m,m<n∧I m s₆) Ho s₅) Ho s₄) Ho s₃
      else ∃m,m<n∧I m s₃) Ho s₂) Ho s₁') Ho s₁) Ho s)(n:Nat)(h:I n s):codeAny GJ A (Pq (.DictComp kx vx [⟨target,iter,ifs,0⟩] scope pos) it env) R s:=by
 refine codeAny_loop rfl I (λn s hI=>?_) n h
 show ZV A ((Oq (.DictComp kx vx [⟨target,iter,ifs,0⟩] scope pos) 0 Sz).onRaise (λx=>do noteFrame x env;theTreesLotGoes x)) _ _ s
 refine wpAny_noted ?_
 rw[compTurn_dict]
 refine wpAny_bind (wpAny_standAt (wpAny_bind (UQ (λr s₁ h₁=>?_) λ_ _ h'=>h'.elim)))
 cases r with
 |none=>exact wpAny_pure h₁
 | some v =>
  refine wpAny_bind (J5 (λ_ s₁' h₁'=>?_) λ_ _ h'=>h'.elim)
  refine wpAny_bind (BK (λ_ s₂ h₂=>wpAny_bind (J6 (λok s₃ h₃=>?_) λ_ _ h'=>h'.elim)) λ_ _ h'=>h'.elim)
  cases ok with
  |false=>exact wpAny_pure ⟨rfl,h₃⟩
  |true =>
   exact wpAny_bind (wpAny_bind (B5 (λkv s₄ h₄=>wpAny_bind (wpAny_holding (VS (λvv s₅ h₅=>wpAny_bind (wpAny_standAt (wpAny_holding (wpAny_mono h₅ (λ_ s₆ h₆=>wpAny_pure ⟨rfl,h₆⟩) λ_ _ h'=>h'.elim)))) λ_ _ h'=>h'.elim))) λ_ _ h'=>h'.elim))
section
variable{X:Cx}{sc:Scope}{M:Ng}{ix:Nu}{a5:Nh}{σ:St}{H:Hp}{s:Ni}
def rDC(g:TG)(tc:TT)(tk tv:TE)(Q:VK)(J:It)(τ:St)(H1:Hp):Prop:=∃W:Nat→Nat→List (Key×V)→St→Hp→Prop,(∃m,W 0 m [] τ H1)∧∀i m ys τ H,W i m ys τ H →
 (KZ H∧∀D,H D=none→Q Sz (ZS D AH)) ∨
 (M3 H∧ys.length<sizeLine∧∀x H',Bv H'→g x τ H' λ τ2 H2=>tc τ2 H2 λb H3=>if b=true then tk τ2 H3 λkv H4=>tv τ2 H4 λy H5=>∃k,kv=kV k∧∃m',m'<m∧W Hj m' (putK ys k y) τ2 H5 else ∃m',m'<m∧W Hj m' ys τ2 H3)
def tDC(ix:Nu)(wi:TI)(g:TG)(tc:TT)(tk tv:TE):TE:=λ σ H Q=>wi σ H λJ H1=>Mc H1
def dc_block{tg kx vx iter:Expr}{ifs:Nr}{pos:Pos}{g:TG}{tc:TT}{tk tv:TE}{fp:Nn}{it:Nb}{tn:Nat→Heap→Prop}{J:It}{Q:VK}{RR:Value→Addr→Result→Shared→Prop}{E:Nc}(B:W5 ix)(hc:X.calm=true)(hg:∀C ex s H,UI g)(ht:∀C ex s H,YR tc)(hk:∀C ex s H,UJ kx tk)(he:∀C ex s H,UJ vx tv)(I:Hb)(T:YQ tn)(h0:IP)(hf:∀b∈fp,QY b)(q:Mc H)(jZ:∀D C m ys H' s',ZA (YI D AH) s'→Q Sz (YI D AH)→s'.heap.Ns C m→YI D AH C=none→s.heap.objs.size<C→RR Sz C LP s') :
  wpAny Gq X.A newDict (λaf s₃=>ZE HC (λcenv s₄ =>
   codeAny Gq X.A (.compStart HL 0 SC af {cenv with scope:=relabel sc X.env}) Le s₄) E s₃) E s:=by
 refine wpAny_newObj_type (VC (by intro y hy;simp at hy) (λh₁ hns₁ hsb₁=>?_) B.kind)
 dsimp only at hns₁ hsb₁ ⊢
 generalize hD:s.heap.objs.size=D at hns₁ hsb₁ ⊢
 generalize dj:s.heap.push {cls:=.type "dict",dict:=none,data:=.dict #[]}=g2 at hns₁ hsb₁ ⊢
 have hC:g2.objs.size=D+1:=by rw[←dj,Wp,hD]
 have k2:∀b o,s.heap.get? b=some o→g2.get? b=some o:=λb o e=>by rw[←dj];exact WG e
 have I3:ZA H {s with heap:=g2}:=I.kept (t':=s.toks) k2
 have HD:H D=none:=I.hok.fresh IH
 have fD:QY D:=I.fpOk IH HD
 have D2:g2.get? D=some {cls:=.type "dict",dict:=none,data:=.dict #[]}:=by rw[←dj,←hD];exact JH rfl
 have nS:(D==sysModules)=false:=beq_eq_false_iff_ne.mpr (by rw[←hD];exact Yp I.big)
 have k1:∀b o,g2.get? b=some o→h₁.get? b=some o:=λb o e=>by
  have hb:b≠g2.objs.size:=Zi TU
  exact(hsb₁.2 b hb).trans LZ
 have DN:h₁.DictOf SZ D []:=by
  have q:g2.DictOf SZ D []:=by rw[←dj,←hD];exact Heap.DictOf.new s.heap
  obtain⟨o,es,ep,e,r⟩:=q
  exact⟨o,es,ep,k1 _ _ e,r⟩
 have fpx:∀b∈D::fp,QY b:=λb hb=>by
  rcases Qf.mp hb with e | e
  ·rw[e];exact fD
  ·exact Fw e
 have fplt:∀b∈D::fp,b<g2.objs.size:=λb hb=>by
  rcases Qf.mp hb with e | e
  ·rw[e,hC];exact Yz _
  ·obtain ⟨o,q,_⟩:=WY h0 b e
   exact Qv zI
 have fpD:D∉fp:=λhm=>by
  obtain⟨o,q,_⟩:=WY h0 D hm
  have:=Qv q
  rw[hD]at this
  exact Yu _ this
 generalize ak:Md (D::fp) {s with heap:=g2} H=Y
 have IY:Y8 [] EZ H {s with heap:=h₁,toks:=s.toks+([]:List (Str×Value)).length}:=by
  rw[←ak]
  exact Xz rfl
 have Yg:=ak▸hg g2.objs.size (D::fp) {s with heap:=g2} H
 have Yt:=ak▸ht g2.objs.size (D::fp) {s with heap:=g2} H
 have Yk:=ak▸hk g2.objs.size (D::fp) {s with heap:=g2} H
 have Ye:=ak▸he g2.objs.size (D::fp) {s with heap:=g2} H
 have eP:Y.prog=X.prog:=by rw[←ak];rfl
 have eW:Y.w=X.w:=by rw[←ak];rfl
 have eK:Y.K=X.K:=by rw[←ak];rfl
 have eA:Y.A=X.A:=by rw[←ak];rfl
 have eC:Y.calm=true:=by rw[←ak];exact hc
 have eE:Y.env=compEnvC sc Sw g2.objs.size X.env:=by rw[←ak];rfl
 have eX:Y.xe=λ_ _=>False:=by rw[←ak];rfl
 have eEx:Y.ex=D::fp:=by rw[←ak];rfl
 have eFs:Y.fs=frs X.stack:=by rw[←ak];rfl
 have ePn:Y.pn=X.pn++a5:=by rw[←ak];rfl
 have eL:Y.env.locals=g2.objs.size:=by rw[eE];rfl
 have oP:Y.H₀=H:=by rw[←ak];rfl
 have iU:Y.s₀={s with heap:=g2}:=by rw[←ak];rfl
 have fY:∀{H':Hp} {pl:Nh} {b:Nb},b∈D::fp→H' b=none→(∀p∈pl,p.1≠b)→KJ pl H' b:=λ{H' pl b} hb hn hp=>by
  obtain⟨f0,f1,f2,f3,f4,f5⟩:=fpx b hb
  refine⟨hn,?_,?_,Rf LQ,Da LQ |>.2,λp eV=>?_⟩
  ·rw[eL];exact Zi Az
  ·rw [eFs]
   intro z
   rcases Qf.mp (Db z) with q | q
   ·exact f1 q
   ·exact f2 q
  ·rw [ePn] at eV
   rcases Qk.mp eV with z | z
   ·exact f5 p z
   ·exact hp p z
 obtain⟨W,⟨m0,w0⟩,turn⟩:=q
 have loop:∀ sN:Shared,sN={ s with heap:=h₁,toks:=s.toks+([]:List (Str×Value)).length } →
   codeAny Gq X.A (Pq HL SC (LF Sw)) CC sN:=by
  rintro sN rfl
  refine zi8 (λn s'=>Ex5 λi τ H' ys vs=>Aj7 (Y8 [] τ H' s') Lq (∀b∈D::fp,H' b=none) (s'.heap.DictOf SZ D vs) (KV ys vs) (ys.length≤sizeLine) L0) ?_ m0
   ⟨0,EZ,H,[],[],IY,Q5 h0 λb _ o e=>k1 b o Cd,λb hb=>(fpx b hb).1,DN,.nil,RP,w0⟩
  rintro n s5 ⟨i,τ,H5,ys,vs,I5,t5,n5,dd5,v5,z5,w5⟩
  obtain⟨o5,ug,uh,d5,qr⟩:=id dd5
  have nc5:∀v,o5.data≠.cell v:=λv z=>by
   obtain⟨_,q,_⟩:=qr
   rw[q]at z;cases z
  have oD:∀b∈[D],∃o,s5.heap.get? b=some o∧∀v,o.data≠.cell v:=λb hb=>by
   rw[Qc.mp hb]
   exact⟨_,d5,nc5⟩
  have eI:Y8 ([]++zbh [D] s5.heap) τ H5 s5:=I5.pinned (λb hb=>fY (by rw[Qc.mp hb];exact Qb) (n5 b (by rw[Qc.mp hb];exact Qb)) Gf) oD
  have pD:∀p∈zbh [D] s5.heap,p.1=D∧p.2=o5:=λp hp=>by
   obtain⟨e1,e2⟩:=zc8 hp
   have eG:p.1=D:=Qc.mp e1
   rw[eG,d5]at e2
   exact⟨eG,(Qn e2).symm⟩
  have fN:∀{H':Hp},(∀b∈fp,H' b=none)→∀b∈fp,KJ ([]++zbh [D] s5.heap) H' b:=λhn b hb=>fY TB Iu λp hp z=>by
   rw[Wy]at hp
   rw[(pD p hp).1]at z
   exact fpD (z▸hb)
  rcases Bz w5 with⟨stop,qn⟩ | ⟨go,zl,step⟩
  ·have h6:=U4 (fun _ _=>False) eI (fN fun b hb=>n5 b TB) t5 stop
   rw[eA]at h6
   refine thn h6 λr s6 ⟨hr,I6⟩=>?_
   subst hr
   have d6:s6.heap.get? D=some o5:=by
    have hp:=za9 (fp:=[D]) RU d5
    exact(I6.pin (D,_) Pr).1
   have H5D:H5 D=none:=n5 D Qb
   obtain⟨mL,nL,_⟩:=I6.loc
   rw[eL]at nL
   have CD:g2.objs.size≠D:=by rw[hC];exact Xf _
   refine jZ D _ mL ys H5 s6 ?_ zJ nL ?_ (by rw[hC,hD];exact Yz _)
   ·have u6:=I6.base
    rw[eFs,eEx,oP,iU]at u6
    refine I3.call' (ch:=D::fp) (I6.os.trans (by rw[iU])) ⟨u6.keep,u6.slot,λb o e n hx=>?_,u6.there,λb xs e=>?_,λb o u e=>?_,λb ps e=>?_⟩ ?_ I6.bare λb hb=>?_
    ·rw[zaf (λz=>hx O3)];exact u6.free b o e n hx
    ·rw[zaf Ce];exact u6.tups b xs e
    ·rw[zaf Ce];exact u6.frzs b o u e
    ·rw[zaf Ce];exact u6.tbls b ps e
    ·have iw:=I6.hok
     rw[eP,eW]at iw
     intro b u e
     by_cases hb:b=D
     ·subst hb
      rw[zab]at e
      cases e
      exact⟨z5,nS,vs,v5,o5,ug,uh,d6,qr⟩
     ·rw [Iz] at e
      exact(iw b u e).stay (λc v _ q=>q) (λc q=>by rw[zaf ED];exact q) λc xs q=>by rw[zaf ED];exact q
    ·obtain ⟨f0,f1,f2,f3,f4,f5⟩:=fpx b hb
     exact⟨f3,f1,f4,f5⟩
   ·rw [zaf CD]
    have:=I6.free
    rw[eL]at this
    exact this
  ·have h6:=U5 (fun _ _=>False) eI (fN fun b hb=>n5 b TB) t5 go
   rw[eA]at h6
   refine thn h6 λr s6 ⟨u,hr,h7⟩=>?_
   subst hr
   refine thn h7 λ_ s7 ⟨x,H7,I7,r7,y7,t7,n7⟩=>?_
   have kj:=BA yD
   have h8:=Yg _ s7 τ H7 x u _ kj r7 yE
   rw[eP,eW,eA,eX,eE]at h8
   refine thn h8 λ_ s8 ⟨τ8,H8,I8,q8⟩=>?_
   have h9:=Yt _ s8 τ8 H8 _ I8 q8
   rw[eP,eW,eA,eX,eE]at h9
   refine thn h9 λok s9 ⟨H9,I9,q9⟩=>?_
   have again:∀{τ':St} {H':Hp} {s':Ni},Y8 (([]++zbh [D] s5.heap)++Bh s7.heap) τ' H' s'→s'.heap.get? D=some o5∧H' D=none∧tn Hj s'.heap∧∀b∈fp,H' b=none:=λ{τ' H' s'} I'=>by
    have pp:∀{b:Nb} {o:Obj},b∈fp→s7.heap.get? b=some o→s'.heap.get? b=some o∧H' b=none:=λ{b o} hb e =>
     let z:=I'.pin (b,o) S8
     ⟨z.1,z.2.1⟩
    have hp:=za9 (fp:=[D]) RU d5
    have z:=I'.pin (D,_) Pf
    refine⟨z.1,z.2.1,Q5 t7 λb hb o e=>(pp hb e).1,λb hb=>?_⟩
    obtain⟨o,e,_⟩:=WY t7 b hb
    exact(pp hb e).2
   have drop:∀{pl:Nh} {τ':St} {H':Hp} {s':Ni},Y8 pl τ' H' s'→Y8 [] τ' H' s':=λI'=>I'.pins_of Gf
   cases ok with
   |false =>
    rw[if_neg Gj]at q9 ⊢
    obtain⟨m',hm,w9⟩:=q9
    obtain⟨d9,H9D,t9,n9⟩:=again I9
    exact⟨m',hm,i+1,τ8,H9,ys,vs,drop I9,t9,λb hb=>(yq hb).elim (λe=>e▸H9D) (n9 b),⟨o5,ug,uh,d9,qr⟩,v5,z5,w9⟩
   | true =>
    rw[if_pos rfl]at q9 ⊢
    have gL:=Yk _ s9 τ8 H9 _ I9 q9
    rw[eP,eW,eA,eX,eE]at gL
    refine thn gL λkv cK ⟨kw,gq,gp,kr,qG⟩=>?_
    have qi:=Ye _ cK τ8 gq _ gp qG
    rw[eP,eW,eA,eX,eE]at qi
    refine thn qi λy qE ⟨yv,oV,lD,r11,kk,ek,m',hm,w11⟩=>?_
    subst ek
    obtain⟨d11,H11D,t11,n11⟩:=again lD
    have um:qE.heap.DictOf SZ D vs:=⟨o5,ug,uh,d11,qr⟩
    have fT:(Q6 X.w).is kk kv=true:=by
     cases kk with
     |inl i=>obtain⟨t,rfl⟩:=kr;exact keyIs_int i t
     |inr x=>obtain⟨t,rfl⟩:=kr;exact keyIs_str x t
    refine wpAny_dictSet_pairs (knd:=Q6 X.w) fT um (λh' ie sb=>?_) (by rw[←Zy v5];assumption)
    have kkp:∀b o,b≠D→qE.heap.get? b=some o→h'.get? b=some o:=λb o hb e=>(O0 hb).trans e
    obtain⟨g0,g1,g2',g3,g4,g5⟩:=fY (pl:=[]) (H':=oV) (b:=D) Qb H11D Gf
    have I12:=(drop lD).turned (h':=h') (t':=qE.toks+1) (it:=D) kkp H11D g1 g3 g4 g5
    refine⟨m',hm,i+1,τ8,oV,putK ys kk yv,stored vs kk y,I12,Q5 t11 λb hb o e=>kkp b o (λz=>fpD (z▸hb)) e,λb hb=>(yq hb).elim (λe=>e▸H11D) (n11 b),ie,v5.put kk r11,?_,w11⟩
    unfold putK
    split
    ·rw[Qa];exact z5
    ·rw[Qz,Uw];assumption
 exact codeAny_compStart_dict EE (BM (Q5 h0 λb _ o e=>k1 b o Cd) EE)
def pe_dc(B:W5 ix)(hc:X.calm=true)(hi:LN)(hg:∀C a5 ex s H,UI g)(ht:∀C a5 ex s H,YR tc)(hk:∀C a5 ex s H,UJ kx tk)(he:∀C a5 ex s H,UJ vx tv)(hs:∀x,foldedSetIterable iter X.env x=pure x:=by intro _;rfl):Z7 HL (Fi tv):=by
 intro a5 s σ H Q I h
 rw[eval_dc]
 refine wpAny_comprehension_free (use:=none) rfl hs TV B.kind B.names (thn RK λv s1 h1=>thn h1 λitv s2 h2=>?_)
 obtain⟨it,fp,tn,J,H2,e,I2,T,bf,f2,q⟩:=h2
 subst e
 refine dc_block (RR:=λaf C=>compPost Gq X.A X.xe none SY af C) B hc (hg · a5) (ht · a5) (hk · a5) (he · a5) I2 T bf f2 q ?_
 intro D C m ys H' s' I' q' hn hC ad
 refine⟨m,hn,λh' bv=>⟨Sz,_,YE bv,rfl,q'⟩⟩
def ps_dc(hN:X.N.Nodup)(aK:X.N[i]?=some y)(hy:X.env.scope.names.lookup y=some .local)(B:W5 ix)(hc:X.calm=true)(hi:LN)(hg:∀C a5 ex s H,UI g)(ht:∀C a5 ex s H,YR tc)(hk:∀C a5 ex s H,UJ kx tk)(he:∀C a5 ex s H,UJ vx tv)(kQ:swapsWith HL (Gz LL) spos.line X.env=pure true)(hs:∀x,foldedSetIterable iter X.env x=pure x:=by intro _;rfl):KA (.Assign [LL] HL spos) (tAsg (Fi tv) IF):=by
 intro a5 s σ H D' I h
 rw[exec_Assign_Name_used _ _ _ _ kQ]
 refine wpAny_bind (wpAny_standAt (wpAny_bind ?_))
 show ZV X.A (do let _ ←comprehension HL sc X.env _ newDict false Ey yF) _ _ s
 refine wpAny_bind (wpAny_mono (wpAny_comprehension_free (use:=some RM) (Q:=λ_ s'=>XT D' .next s') rfl hs TV B.kind B.names
  (thn RK λv s1 h1=>thn h1 λitv s2 h2=>?_)) (λ_ s' hq=>wpAny_pure (Rr hq)) λ_ _ e=>e)
 obtain⟨it,fp,tn,J,H2,e,I2,T,bf,f2,q⟩:=h2
 subst e
 refine dc_block (RR:=λaf C=>compPost Gq X.A X.xe yF (λ_ s'=>XT D' .next s') af C) B hc (hg · a5) (ht · a5) (hk · a5) (he · a5) I2 T bf f2 q ?_
 intro D C m ys H' s' I' q' hn hC ad
 show ZV X.A AA _ _ s'
 refine wpAny_assign_Name (Ny (v:=.ref D) rfl (λlK uw ⟨a,sb,ha⟩=>?_) II)
 have aC:C≠a:=by
  rcases ha with z | z
  ·rw[z];exact Yp (Wk I2.lt ad)
  ·exact Yp (Dy ad)
 have bw:=hn.sameBut sb aC
 exact⟨m,bw,λh' bv=>⟨_,_,LK,q'⟩⟩
end
def compTurn_in(elt tg1 it1 target iter:Expr)(ifs:Nr)(scope:Scope)(pos:Pos)(it af:Value)(env:Env) :
  compTurn GA 1 it af env=(do
   standAt iter.pos
   match ←pyNext it with
   |none=>pure (.done .next)
   | some v =>
    letOwnedTupleGo target it v
    assign target env v
    let mut ok:=true
    for c in ifs do
     if ok then ok ←isTrue c env (LI c)
    if ok then
     (do let _ ←call (.builtin "list.append") [af,←eval elt env])
    again Pz):=by rfl
def compTurn_out(elt target iter cX bH:Expr)(ifs:Nr)(scope:Scope)(pos:Pos)(it af:Value)(env:Env) :
  compTurn Hc 0 it af env=(do
   standAt iter.pos
   match ←pyNext it with
   |none=>pure (.done .next)
   |some v =>
    letOwnedTupleGo target it v
    assign target env v
    let x ←eval bH env
    standAt bH.pos
    let x ←foldedSetIterable bH env x
    let _ ←runOwn (O4 Hc (←holding [x] (Ip x))) env
    again (Td Hc 0 af)):=by rfl
section
variable{prog:Nk}{w:Nl}{A:Np}{s:Ni}{elt tg1 it1 target iter:Expr}{ifs:Nr}{scope:Scope}{pos:Pos}{it af:Value}{env:Env}{R:Nw}
def start_in(h0:codeAny GJ A Pz R s)(h:ZG (Ip it) (λrh s'=>codeAny GJ A (.compLoop GA 1 rh af env) R s') Ho s) :
  codeAny GJ A (O4 GA it) R s:=by
 refine codeAny_of_tree (show ZV _ ((compStart GA 1 it af env).onRaise (λx=>do noteFrame x env;standAt theWindowsPlace)) _ _ s from wpAny_notedAt ?_)
 unfold compStart
 show ZV _ (ask >>= _) _ _ s
 refine wpAny_bind (wpAny_askSetting (wpAny_ite ?_))
 split
 ·first
   |exact wpAny_pure (And.intro rfl h0)
   |exact wpAny_bind (wpAny_pure (wpAny_pure (And.intro rfl h0)))
 ·refine wpAny_bind (wpAny_rule ?_)
  first
   |exact wpAny_bind (wpAny_standAt (wpAny_bind (wpAny_mono h (λrh s' h'=>wpAny_pure zP) λ_ _ x=>x.elim)))
   |(show wpAny _ _ (standAt iter.pos >>= _) _ _ s;exact wpAny_bind (wpAny_standAt (wpAny_bind (wpAny_mono h (λrh s' h'=>wpAny_pure zP) λ_ _ x=>x.elim))))
def loop_in(I:Nat→Shared→Prop)(turn:∀ n s,I n s→wpAny (model prog w) A (pyNext it) (fun r s₁=>match r with
   |none=>R LP s₁
   | some v=>ZG SN (fun _ s₁'=>ZG TN (fun _ s₂ =>
     wpAny GJ A Hs (λok s₃ =>
      if ok=true then ZG (LI elt) (λx s₄=>ZG (call (.builtin "list.append") [af,x]) (λ_ s₅=>∃m,m<n∧I m s₅) Ho s₄) Ho s₃
      else ∃m,m<n∧I m s₃) Ho s₂) Ho s₁') Ho s₁) Ho s)(n:Nat)(h:I n s):codeAny GJ A Pz R s:=by
 refine codeAny_loop rfl I (λn s hI=>?_) n h
 show ZV A ((Oq GA 1 af).onRaise (λx=>do noteFrame x env;theTreesLotGoes x)) _ _ s
 refine wpAny_noted ?_
 rw[compTurn_in]
 refine wpAny_bind (wpAny_standAt (wpAny_bind (UQ (λr s₁ h₁=>?_) λ_ _ h'=>h'.elim)))
 cases r with
 |none=>exact wpAny_pure h₁
 | some v =>
  refine wpAny_bind (J5 (λ_ s₁' h₁'=>?_) λ_ _ h'=>h'.elim)
  refine wpAny_bind (BK (λ_ s₂ h₂=>wpAny_bind (J6 (λok s₃ h₃=>?_) λ_ _ h'=>h'.elim)) λ_ _ h'=>h'.elim)
  cases ok with
  |false=>exact wpAny_pure ⟨rfl,h₃⟩
  |true =>
   exact wpAny_bind (wpAny_bind (B5 (λx s₄ h₄=>wpAny_bind (VS (λ_ s₅ h₅=>wpAny_pure (wpAny_pure ⟨rfl,h₅⟩)) λ_ _ h'=>h'.elim)) λ_ _ h'=>h'.elim))
def loop_out(hs:∀x,foldedSetIterable bH env x=pure x)(I:Nat→Shared→Prop)(turn:∀ n s,I n s→wpAny (model prog w) A (pyNext it) (fun r s₁=>match r with
   |none=>R LP s₁
   | some v=>ZG SN (fun _ s₁'=>ZG TN (fun _ s₂ =>
     wpAny GJ A (LI bH) (λx s₃=>ZG (Ip x) (λj s₄=>codeAny GJ A (O4 Hc j) (λr s₅=>(∃f,r=.ok f)∧∃m,m<n∧I m s₅) s₄) Ho s₃)
      (λ_ _=>False) s₂) Ho s₁') Ho s₁) Ho s)(n:Nat)(h:I n s):codeAny GJ A (Td Hc 0 af) R s:=by
 refine codeAny_loop rfl I (λn s hI=>?_) n h
 show ZV A ((Oq Hc 0 af).onRaise (λx=>do noteFrame x env;theTreesLotGoes x)) _ _ s
 refine wpAny_noted ?_
 rw[compTurn_out]
 refine wpAny_bind (wpAny_standAt (wpAny_bind (UQ (λr s₁ h₁=>?_) λ_ _ h'=>h'.elim)))
 cases r with
 |none=>exact wpAny_pure h₁
 | some v =>
  refine wpAny_bind (J5 (λ_ s₁' h₁'=>?_) λ_ _ h'=>h'.elim)
  refine wpAny_bind (BK (λ_ s₂ h₂=>?_) λ_ _ h'=>h'.elim)
  refine wpAny_bind (J6 (λx s₃ h₃=>wpAny_bind (wpAny_standAt (wpAny_bind (wpAny_of_eq (hs x) (wpAny_bind (wpAny_holding (B5 (λj s₄ h₄=>wpAny_bind (wpAny_runOwn ?_)) λ_ _ h'=>h'.elim)))))))
   λ_ _ h'=>h'.elim)
  refine codeAny_mono (show codeAny GJ (A.mark none) _ _ s₄ from h₄) λr s₅ h₅=>?_
  obtain⟨⟨f,rfl⟩,h₆⟩:=h₅
  exact wpAny_pure ⟨rfl,h₆⟩
end
def rIn2(g:TG)(tc:TT)(te:TE)(Fin:List V→St→Hp→Prop)(J:It)(ys:List V)(τ:St)(H1:Hp):Prop:=∃W:Nat→Nat→List V→St→Hp→Prop,(∃m,W 0 m ys τ H1)∧∀i m ys τ H,W i m ys τ H →
 (KZ H∧Fin ys τ H) ∨
 (M3 H∧ys.length<sizeLine∧∀x H',Bv H'→g x τ H' λ τ2 H2=>tc τ2 H2 λb H3=>if b=true then te τ2 H3 λy H4=>∃m',m'<m∧W Hj m' (ys++[y]) τ2 H4 else ∃m',m'<m∧W Hj m' ys τ2 H3)
def in_loop{Y:Cx}{D:Nb}{P1:Nh}{elt tg1 it1 tg iter:Expr}{ifs:Nr}{sc:Scope}{pos:Pos}{g:TG}{tc:TT}{te:TE}{fp:Nn}{it:Nb}{tn:Nat→Heap→Prop}{J:It}{Fin:List V→St→Hp→Prop}{τ0:St}{H0:Hp}{s0:Ni}{oW:List V}{jb:Nj}{k0:Nat}(hc:Y.calm=true)(eX:Y.xe=λ_ _=>False)(Yg:PG Y tg g)(Yt:PTs Y ifs tc)(Ye:PE Y elt te)(T:Turn Y.prog Y.w Y.K tg J fp it tn)(fpD:D∉fp)(fD:∀{H':Hp},H' D=none→KJ P1 H' D)(f2:∀{H':Hp} {b:Nb},b∈fp→H' b=none→KJ P1 H' b)(I0:Y8 P1 τ0 H0 s0)(t0:tn 0 s0.heap)(n0:∀b∈D::fp,H0 b=none)(d0:s0.heap.get? D=some {cls:=.type "list",data:=.seq jb.toArray k0})(v0:Vals oW jb)(z0:oW.length≤sizeLine)(q:rIn2 g tc te Fin J oW τ0 H0){R:Nw}(hR:∀ys a7 k τ H' s',Y8 P1 τ H' s'→H' D=none→s'.heap.get? D=some {cls:=.type "list",data:=.seq (a7:Nj).toArray k}→YK a7→ys.length≤sizeLine→Fin ys τ H'→R LP s') :
  codeAny zQ Y.A (.compStart (.ListComp elt [⟨tg1,it1,[],0⟩,⟨tg,iter,ifs,0⟩] sc pos) 1 SC Sz Y.env) R s0:=by
 obtain⟨W,⟨m0,w0⟩,turn⟩:=q
 have loop:codeAny zQ Y.A (.compLoop (.ListComp elt [⟨tg1,it1,[],0⟩,⟨tg,iter,ifs,0⟩] sc pos) 1 SC Sz Y.env) R s0:=by
  refine loop_in (λn s'=>Ex6 λi τ H' ys a7 k=>Aj7 (Y8 P1 τ H' s') Lq (∀b∈D::fp,H' b=none) (s'.heap.get? D=some {cls:=.type "list",data:=.seq (a7:Nj).toArray k}) yC (ys.length≤sizeLine) L0) ?_ m0 ⟨0,τ0,H0,oW,jb,k0,I0,t0,n0,d0,v0,z0,w0⟩
  rintro n s5 ⟨i,τ,H5,ys,a7,k,I5,t5,n5,d5,v5,z5,w5⟩
  have oD:∀b∈[D],∃o,s5.heap.get? b=some o∧∀v,o.data≠.cell v:=λb hb=>by
   rw[Qc.mp hb]
   exact⟨_,d5,λv z=>by cases z⟩
  have eI:Y8 (P1++zbh [D] s5.heap) τ H5 s5:=I5.pinned (λb hb=>by rw[Qc.mp hb];exact fD (n5 D Qb)) oD
  have pD:∀p∈zbh [D] s5.heap,p.1=D:=λp hp=>Qc.mp (zc8 hp).1
  have fN:∀{H':Hp},(∀b∈fp,H' b=none)→∀b∈fp,KJ (P1++zbh [D] s5.heap) H' b:=λhn b hb=>by
   obtain⟨f0,f1,f3,f4,f5,f6⟩:=f2 hb Iu
   refine⟨f0,f1,f3,f4,f5,λp hp=>?_⟩
   rw[←Qx]at hp
   rcases Qk.mp hp with z | z
   ·exact f6 p z
   ·rw[pD p z];exact λe=>fpD (e▸hb)
  rcases Bz w5 with⟨stop,qn⟩ | ⟨go,zl,step⟩
  ·refine thn (T.done Y rfl rfl rfl hc i _ s5 τ H5 (fun _ _=>False) eI (fN fun b hb=>n5 b TB) t5 stop) fun r s6 ⟨hr,I6⟩=>?_
   subst hr
   have hp:=za9 (fp:=[D]) RU d5
   have z:=I6.pin (D,_) (WC Pr)
   exact hR ys a7 k τ H5 s6 I6.unpinned (n5 D Qb) z.1 v5 z5 qn
  ·refine thn (T.item Y rfl rfl rfl hc i _ s5 τ H5 (fun _ _=>False) eI (fN fun b hb=>n5 b TB) t5 go) fun r s6 ⟨u,hr,h7⟩=>?_
   subst hr
   refine thn h7 λ_ s7 ⟨x,H7,I7,r7,y7,t7,n7⟩=>?_
   have kj:=BA yD
   have h8:=Yg _ s7 τ H7 x u _ kj r7 yE
   rw[eX]at h8
   refine thn h8 λ_ s8 ⟨τ8,H8,I8,q8⟩=>?_
   have h9:=Yt _ s8 τ8 H8 _ I8 q8
   rw[eX]at h9
   refine thn h9 λok s9 ⟨H9,I9,q9⟩=>?_
   have again:∀{τ':St} {H':Hp} {s':Ni},Y8 ((P1++zbh [D] s5.heap)++Bh s7.heap) τ' H' s'→s'.heap.get? D=some {cls:=.type "list",data:=.seq a7.toArray k}∧H' D=none∧tn Hj s'.heap∧∀b∈fp,H' b=none:=λ{τ' H' s'} I'=>by
    have pp:∀{b:Nb} {o:Obj},b∈fp→s7.heap.get? b=some o→s'.heap.get? b=some o∧H' b=none:=λ{b o} hb e =>
     let z:=I'.pin (b,o) S8
     ⟨z.1,z.2.1⟩
    have hp:=za9 (fp:=[D]) RU d5
    have z:=I'.pin (D,_) (WC (YG Pr))
    refine⟨z.1,z.2.1,Q5 t7 λb hb o e=>(pp hb e).1,λb hb=>?_⟩
    obtain⟨o,e,_⟩:=WY t7 b hb
    exact(pp hb e).2
   have drop:∀{τ':St} {H':Hp} {s':Ni},Y8 ((P1++zbh [D] s5.heap)++Bh s7.heap) τ' H' s'→Y8 P1 τ' H' s':=λI'=>I'.unpinned.unpinned
   cases ok with
   |false =>
    rw[if_neg Gj]at q9 ⊢
    obtain⟨m',hm,w9⟩:=q9
    obtain⟨d9,H9D,t9,n9⟩:=again I9
    exact⟨m',hm,i+1,τ8,H9,ys,a7,k,drop I9,t9,λb hb=>(yq hb).elim (λe=>e▸H9D) (n9 b),d9,v5,z5,w9⟩
   | true =>
    rw[if_pos rfl]at q9 ⊢
    have gL:=Ye _ s9 τ8 H9 _ I9 q9
    rw[eX]at gL
    refine thn gL λy cK ⟨yv,gq,gp,kr,m',hm,qA⟩=>?_
    obtain⟨kh,H10D,cJ,qW⟩:=again gp
    refine call_meets F.slot_list_append ⟨_,kh,rfl⟩ F.entry_list_append (BU _) (KK (by rw[Qw,←v5.length];assumption)) ⟨kh,?_⟩
    have q:=Dx (λa=>a.push y)
    have uj:zp=(a7++[y]).toArray:=by simp
    rw[uj]at q
    have kk:∀b o,b≠D→cK.heap.get? b=some o→(cK.heap.update D (Obj.mapSeq λa=>a.push y)).get? b=some o:=λb o hb e=>(Yf cK.heap (Obj.mapSeq λa=>a.push y) Pn).trans e
    obtain⟨g0,g1,g2',g3,g4,g5⟩:=fD H10D
    have lD:=(drop gp).turned (h':=cK.heap.update D (Obj.mapSeq λa=>a.push y)) (t':=cK.toks) (it:=D) kk H10D g1 g3 g4 g5
    exact⟨m',hm,i+1,τ8,gq,ys++[yv],a7++[y],_,lD,Q5 cJ λb hb o e=>kk b o (λz=>fpD (z▸hb)) e,λb hb=>(yq hb).elim (λe=>e▸H10D) (qW b),q,v5.append (Rk kr),
     by rw[Qz,Uw];assumption,qA⟩
 exact start_in loop (BM t0 loop)
section
variable{X:Cx}{sc:Scope}{M:Ng}{ix:Nu}{a5:Nh}{σ:St}{H:Hp}{s:Ni}
def rLC2(g1:TG)(iq:TI)(g:TG)(tc:TT)(te:TE)(Q:VK)(J:It)(τ:St)(H1:Hp):Prop:=∃W:Nat→Nat→List V→St→Hp→Prop,(∃m,W 0 m [] τ H1)∧∀i m ys τ H,W i m ys τ H →
 (KZ H∧∀D,H D=none→Q Sz (ZS D TX)) ∨
 (M3 H∧∀x H',Bv H'→g1 x τ H' λ τ2 H2=>iq τ2 H2 λJ2 H3=>rIn2 g tc te (λqx τ' H'=>∃m',m'<m∧W Hj m' qx τ' H') J2 ys τ2 H3)
def tLC2(ix:Nu)(wi:TI)(g1:TG)(iq:TI)(g:TG)(tc:TT)(te:TE):TE:=λ σ H Q=>wi σ H λJ H1=>Vn H1
def lc2_block{tg elt iter cX bH:Expr}{ifs:Nr}{pos:Pos}{g1:TG}{iq:TI}{g:TG}{tc:TT}{te:TE}{fp:Nn}{it:Nb}{tn:Nat→Heap→Prop}{J:It}{Q:VK}{RR:Value→Addr→Result→Shared→Prop}{E:Nc}(B:W5 ix)(hc:X.calm=true)(tD:∀C ex s H,UI g1)(ao:∀C ex s H,PI zH cX bH iq)(cC:∀C x,foldedSetIterable bH OQ x=pure x)(hg:∀C ex s H,PG zH cX g)(ht:∀C ex s H,YR tc)(he:∀C ex s H,UJ elt te)(I:Hb)(T:YQ tn)(h0:IP)(hf:∀b∈fp,QY b)(q:Vn H)(jZ:HV) :
  wpAny Gq X.A (newList []) (λaf s₃=>ZE HC (λcenv s₄ =>
   codeAny Gq X.A (.compStart (.ListComp elt [⟨tg,iter,[],0⟩,⟨cX,bH,ifs,0⟩] sc pos) 0 SC af {cenv with scope:=relabel sc X.env}) Le s₄) E s₃) E s:=by
 refine wpAny_newObj_type (VC (by intro y hy;simp at hy) (λh₁ hns₁ hsb₁=>?_) B.kind)
 dsimp only at hns₁ hsb₁ ⊢
 generalize hD:s.heap.objs.size=D at hns₁ hsb₁ ⊢
 generalize dj:s.heap.push {cls:=.type "list",dict:=none,data:=.seq ([]:List Value).toArray}=g2 at hns₁ hsb₁ ⊢
 have hC:g2.objs.size=D+1:=by rw[←dj,Wp,hD]
 have k2:∀b o,s.heap.get? b=some o→g2.get? b=some o:=λb o e=>by rw[←dj];exact WG e
 have I3:ZA H {s with heap:=g2}:=I.kept (t':=s.toks) k2
 have HD:H D=none:=I.hok.fresh IH
 have fD:QY D:=I.fpOk IH HD
 have D2:g2.get? D=some {cls:=.type "list",dict:=none,data:=.seq ([]:List Value).toArray}:=by rw[←dj,←hD];exact JH rfl
 have k1:∀b o,g2.get? b=some o→h₁.get? b=some o:=λb o e=>by
  have hb:b≠g2.objs.size:=Zi TU
  exact(hsb₁.2 b hb).trans LZ
 have fpx:∀b∈D::fp,QY b:=λb hb=>by
  rcases Qf.mp hb with e | e
  ·rw[e];exact fD
  ·exact Fw e
 have fplt:∀b∈D::fp,b<g2.objs.size:=λb hb=>by
  rcases Qf.mp hb with e | e
  ·rw[e,hC];exact Yz _
  ·obtain ⟨o,q,_⟩:=WY h0 b e
   exact Qv zI
 have fpD:D∉fp:=λhm=>by
  obtain⟨o,q,_⟩:=WY h0 D hm
  have:=Qv q
  rw[hD]at this
  exact Yu _ this
 generalize ak:Md (D::fp) {s with heap:=g2} H=Y
 have IY:Y8 [] EZ H {s with heap:=h₁,toks:=s.toks+([]:List (Str×Value)).length}:=by
  rw[←ak]
  exact Xz rfl
 have Yg1:=ak▸tD g2.objs.size (D::fp) {s with heap:=g2} H
 have Yi2:=ak▸ao g2.objs.size (D::fp) {s with heap:=g2} H
 have Yg:=ak▸hg g2.objs.size (D::fp) {s with heap:=g2} H
 have Yt:=ak▸ht g2.objs.size (D::fp) {s with heap:=g2} H
 have Ye:=ak▸he g2.objs.size (D::fp) {s with heap:=g2} H
 have eP:Y.prog=X.prog:=by rw[←ak];rfl
 have eW:Y.w=X.w:=by rw[←ak];rfl
 have eK:Y.K=X.K:=by rw[←ak];rfl
 have eA:Y.A=X.A:=by rw[←ak];rfl
 have eC:Y.calm=true:=by rw[←ak];exact hc
 have eE:Y.env=compEnvC sc Sw g2.objs.size X.env:=by rw[←ak];rfl
 have eX:Y.xe=λ_ _=>False:=by rw[←ak];rfl
 have eEx:Y.ex=D::fp:=by rw[←ak];rfl
 have eFs:Y.fs=frs X.stack:=by rw[←ak];rfl
 have ePn:Y.pn=X.pn++a5:=by rw[←ak];rfl
 have eL:Y.env.locals=g2.objs.size:=by rw[eE];rfl
 have oP:Y.H₀=H:=by rw[←ak];rfl
 have iU:Y.s₀={s with heap:=g2}:=by rw[←ak];rfl
 have fY:∀{H':Hp} {pl:Nh} {b:Nb},b∈D::fp→H' b=none→(∀p∈pl,p.1≠b)→KJ pl H' b:=λ{H' pl b} hb hn hp=>by
  obtain⟨f0,f1,f2,f3,f4,f5⟩:=fpx b hb
  refine⟨hn,?_,?_,Rf LQ,Da LQ |>.2,λp eV=>?_⟩
  ·rw[eL];exact Zi Az
  ·rw [eFs]
   intro z
   rcases Qf.mp (Db z) with q | q
   ·exact f1 q
   ·exact f2 q
  ·rw [ePn] at eV
   rcases Qk.mp eV with z | z
   ·exact f5 p z
   ·exact hp p z
 obtain⟨W,⟨m0,w0⟩,turn⟩:=q
 have loop:∀ sN:Shared,sN={ s with heap:=h₁,toks:=s.toks+([]:List (Str×Value)).length } →
   codeAny Gq X.A (Pq (.ListComp elt [⟨tg,iter,[],0⟩,⟨cX,bH,ifs,0⟩] sc pos) SC (LF Sw)) CC sN:=by
  rintro sN rfl
  refine loop_out (cC _) (λn s'=>Ex6 λi τ H' ys a7 k=>Aj7 (Y8 [] τ H' s') Lq (∀b∈D::fp,H' b=none) (s'.heap.get? D=some {cls:=.type "list",data:=.seq (a7:Nj).toArray k}) yC (ys.length≤sizeLine) L0) ?_ m0
   ⟨0,EZ,H,[],[],0,IY,Q5 h0 λb _ o e=>k1 b o Cd,λb hb=>(fpx b hb).1,k1 _ _ D2,.nil,RP,w0⟩
  rintro n s5 ⟨i,τ,H5,ys,a7,k,I5,t5,n5,d5,v5,z5,w5⟩
  have oD:∀{s':Ni} {its':Nj} {k':Nat},s'.heap.get? D=some {cls:=.type "list",data:=.seq its'.toArray k'}→∀b∈[D],∃o,s'.heap.get? b=some o∧∀v,o.data≠.cell v:=λ{s' its' k'} e b hb=>by
   rw[Qc.mp hb]
   exact⟨_,e,λv z=>by cases z⟩
  have eI:Y8 ([]++zbh [D] s5.heap) τ H5 s5:=I5.pinned (λb hb=>fY (by rw[Qc.mp hb];exact Qb) (n5 b (by rw[Qc.mp hb];exact Qb)) Gf) (oD d5)
  have pD:∀p∈zbh [D] s5.heap,p.1=D∧p.2={cls:=.type "list",data:=.seq a7.toArray k}:=λp hp=>by
   obtain⟨e1,e2⟩:=zc8 hp
   have eG:p.1=D:=Qc.mp e1
   rw[eG,d5]at e2
   exact⟨eG,(Qn e2).symm⟩
  have fN:∀{H':Hp},(∀b∈fp,H' b=none)→∀b∈fp,KJ ([]++zbh [D] s5.heap) H' b:=λhn b hb=>fY TB Iu λp hp z=>by
   rw[Wy]at hp
   rw[(pD p hp).1]at z
   exact fpD (z▸hb)
  rcases Bz w5 with⟨stop,qn⟩ | ⟨go,step⟩
  ·have h6:=U4 (fun _ _=>False) eI (fN fun b hb=>n5 b TB) t5 stop
   rw[eA]at h6
   refine thn h6 λr s6 ⟨hr,I6⟩=>?_
   subst hr
   have d6:s6.heap.get? D=some {cls:=.type "list",data:=.seq a7.toArray k}:=by
    have hp:=za9 (fp:=[D]) RU d5
    exact(I6.pin (D,_) Pr).1
   have H5D:H5 D=none:=n5 D Qb
   obtain⟨mL,nL,_⟩:=I6.loc
   rw[eL]at nL
   have CD:g2.objs.size≠D:=by rw[hC];exact Xf _
   refine jZ D _ mL ys H5 s6 ?_ zJ nL ?_ (by rw[hC,hD];exact Yz _)
   ·have u6:=I6.base
    rw[eFs,eEx,oP,iU]at u6
    refine I3.call' (ch:=D::fp) (I6.os.trans (by rw[iU])) ⟨u6.keep,u6.slot,λb o e n hx=>?_,u6.there,λb xs e=>?_,λb o u e=>?_,λb ps e=>?_⟩ ?_ I6.bare λb hb=>?_
    ·rw[zaf (λz=>hx O3)];exact u6.free b o e n hx
    ·rw[zaf Ce];exact u6.tups b xs e
    ·rw[zaf Ce];exact u6.frzs b o u e
    ·rw[zaf Ce];exact u6.tbls b ps e
    ·have iw:=I6.hok
     rw[eP,eW]at iw
     intro b u e
     by_cases hb:b=D
     ·subst hb
      rw[zab]at e
      cases e
      exact⟨z5,a7,k,v5,d6⟩
     ·rw [Iz] at e
      exact(iw b u e).stay (λc v _ q=>q) (λc q=>by rw[zaf ED];exact q) λc xs q=>by rw[zaf ED];exact q
    ·obtain ⟨f0,f1,f2,f3,f4,f5⟩:=fpx b hb
     exact⟨f3,f1,f4,f5⟩
   ·rw [zaf CD]
    have:=I6.free
    rw[eL]at this
    exact this
  ·have h6:=U5 (fun _ _=>False) eI (fN fun b hb=>n5 b TB) t5 go
   rw[eA]at h6
   refine thn h6 λr s6 ⟨u,hr,h7⟩=>?_
   subst hr
   refine thn h7 λ_ s7 ⟨x,H7,I7,r7,y7,t7,n7⟩=>?_
   have kj:=BA yD
   have h8:=Yg1 _ s7 τ H7 x u _ kj r7 yE
   rw[eP,eW,eA,eX,eE]at h8
   refine thn h8 λ_ s8 ⟨τ8,H8,I8,q8⟩=>?_
   have h9:=Yi2 _ s8 τ8 H8 _ I8 q8
   rw[eP,eW,eA,eX,eE]at h9
   refine thn h9 λxv s9 gL=>thn gL λjv cK qi=>?_
   obtain⟨j,fp2,tn2,J2,gq,rfl,gp,T2,cJ,ud,qG⟩:=qi
   have pp:∀{b:Nb} {o:Obj} {H':Hp} {τ':St} {s':Ni},Y8 ([]++Bh s7.heap) τ' H' s'→b∈fp→s7.heap.get? b=some o→s'.heap.get? b=some o∧H' b=none:=λ{b o H' τ' s'} I' hb e =>
    let z:=I'.pin (b,o) S8
    ⟨z.1,z.2.1⟩
   have hpD:=za9 (fp:=[D]) RU d5
   have zD:=gp.pin (D,_) zR
   have uv:Y8 ([]++Bh s7.heap) τ8 gq cK:=gp.pins_of λp hp=>gp.pin p (WC (WC (by rwa[Wy]at hp)))
   have nfp:∀p∈Bh s7.heap,p.1≠D:=λp hp z=>fpD (z▸(zc8 hp).1)
   have keepT:∀{H':Hp} {τ':St} {s':Ni},Y8 ([]++Bh s7.heap) τ' H' s'→tn Hj s'.heap∧∀b∈fp,H' b=none:=λ{H' τ' s'} I'=>by
    refine⟨Q5 t7 λb hb o e=>(pp I' hb e).1,λb hb=>?_⟩
    obtain⟨o,e,_⟩:=WY t7 b hb
    exact(pp I' hb e).2
   have res:=in_loop (Y:=Y) (D:=D) (P1:=[]++Bh s7.heap) (elt:=elt) (tg1:=tg) (it1:=iter) (iter:=bH) (sc:=sc) (pos:=pos) (R:=λr s₅=>(∃f,r=.ok f)∧∃m,m<n∧Ex6 λi τ H' ys a7 k=>Aj7 (Y8 [] τ H' s₅) (tn i s₅.heap) (∀b∈D::fp,H' b=none) (s₅.heap.get? D=some {cls:=.type "list",data:=.seq (a7:Nj).toArray k}) yC (ys.length≤sizeLine) (W i m ys τ H'))
    eC eX Yg Yt Ye T2 (λhm=>?_) (λ{H'} hn=>fY Qb hn λp hp=>nfp p (by rwa[Wy]at hp)) (λ{H' b} hb hn=>?_) uv cJ (λb hb=>?_) zD.1 v5 z5 qG λqx its' k' τ' H' s' I' HD' d' v' z' fin=>?_
   ·rw [eP,eW,eA,eE] at res
    exact res
   ·have:=(ud D hm).2.2.2.2.2 (D,_) zR
    exact this rfl
   ·obtain ⟨f0,f1,f3,f4,f5,f6⟩:=ud b hb
    exact⟨hn,f1,f3,f4,f5,λp hp=>f6 p ((Qk.mp hp).elim (λz=>YG z) λz=>WC (WC (by rwa[Wy]at z)))⟩
   ·rcases Qf.mp hb with z | z
    ·rw[z];exact zD.2.1
    ·exact(ud b z).1
   ·obtain ⟨m',hm,w'⟩:=fin
    obtain⟨kt,kn⟩:=keepT I'
    exact⟨⟨xc⟩,m',hm,i+1,τ',H',qx,its',k',I'.pins_of Gf,kt,λb hb=>(yq hb).elim (λe=>e▸HD') (kn b),d',v',z',w'⟩
 exact codeAny_compStart_list EE (BM (Q5 h0 λb _ o e=>k1 b o Cd) EE)
def pe_lc2(B:W5 ix)(hc:X.calm=true)(hi:LN)(tD:∀C a5 ex s H,UI g1)(ao:∀C a5 ex s H,PI zH cX bH iq)(hg:∀C a5 ex s H,PG zH cX g)(ht:∀C a5 ex s H,YR tc)(he:∀C a5 ex s H,UJ elt te)(hs:∀x,foldedSetIterable iter X.env x=pure x:=by intro _;rfl)(cC:∀C x,foldedSetIterable bH OQ x=pure x:=by intro _ _;rfl):Z7 (.ListComp elt [⟨tg,iter,[],0⟩,⟨cX,bH,ifs,0⟩] sc pos) (tLC2 ix wi g1 iq g tc te):=by
 intro a5 s σ H Q I h
 rw[eval_ListComp]
 refine wpAny_comprehension_free (use:=none) rfl hs TV B.kind B.names (thn RK λv s1 h1=>thn h1 λitv s2 h2=>?_)
 obtain⟨it,fp,tn,J,H2,e,I2,T,bf,f2,q⟩:=h2
 subst e
 refine lc2_block (RR:=λaf C=>compPost Gq X.A X.xe none SY af C) B hc (tD · a5) (ao · a5) cC (hg · a5) (ht · a5) (he · a5) I2 T bf f2 q ?_
 intro D C m ys H' s' I' q' hn hC ad
 refine⟨m,hn,λh' bv=>⟨Sz,_,YE bv,rfl,q'⟩⟩
end
end L2
end
section
namespace RawD
open PySem PyProof.Rows PySem.W
def At(h:No)(a:Nb)(es:Array DictEntry)(ep:Nat):Prop:=∃o,h.get? a=some o∧o.ExactDict∧o.data=.dict es ep
def At.typeIs{s:Ni}{a:Nb}{es:Array DictEntry}{ep:Nat}(x:At s.heap a es ep):s.TypeIs Rg "dict" := let⟨o,e,c,_⟩:=x;⟨o,e,c.1⟩
def At.keep{h g:No}{a:Nb}{es:Array DictEntry}{ep:Nat}(x:At h a es ep)(k:∀o,h.get? a=some o→g.get? a=some o):At g a es ep:=let⟨o,e,r⟩:=x;⟨o,k _ e,r⟩
section
variable{prog:Nk}{w:Nl}{A:Np}{E:Nc}{s:Ni}{d:Nb}{es:Array DictEntry}{ep:Nat}
def iter{Q:Nc}(nS:(d==sysModules)=false)(m:Me ep)(q:Q Gy {s with heap:=s.heap.push {cls:=.type "dict_keyiterator",data:=.fields #[Cf,IB,.int es.size 0,Sl ep 0]}}):ZG (pyIter Cf) Q E s:=by
 obtain⟨o,ho,hc,hd⟩:=id m
 refine wpAny_pyIter_slot m.typeIs F.slot_dict_iter (wpAny_call_entry F.slot_dict_iter m.typeIs F.entry_dict_iter ?_ (F.args_dict_iter_1 _))
 unfold Builtin.«dict.__iter__»
 refine wpAny_bind ?_
 unfold Builtin.Dict.dictSlotNone
 refine wpAny_bind (wpAny_notOrdered_dict m.typeIs (show ZV _ (pure (yL d)) _ _ s from wpAny_pure ?_))
 show ZV _ (Builtin.Dict.showsAll d >>= _) _ _ s
 unfold Builtin.Dict.showsAll
 rw[if_neg (Gp nS Zh)]
 refine wpAny_bind (Rr (wpAny_bind (wpAny_dictEntries ho hd (RS (wpAny_dictEpoch ho hd ?_)))))
 refine wpAny_bind (wpAny_newObj_type (Rr ⟨_,rfl, "dict_keyiterator",_,⟨_,SA,rfl⟩,Uh.lookup,?_⟩))
 simpa[rawInt] using q
def item{j:Nb}{i:Nat}{Q:Option Value→Shared→Prop}(st:E4)(m:Me ep)(hi:i<es.size)(hQ:∀g,g.IsKeyIter j d Hj es.size ep→NX g→Q (some es[i].key) {s with heap:=g}):ZG (Lp j) Q E s:=by
 obtain⟨o,ho,hc,hd⟩:=id st
 obtain⟨od,mU,aD,gF⟩:=id m
 unfold pyNext
 refine wpAny_bind (zO (wpAny_callSpecial?_slot (name:=Str.ofString "__next__") st.typeIs Uh (JJ ?_ Ed)))
 refine wpAny_bind (Ac (wpAny_bind ?_))
 first | refine wpAny_bind (WS (wpAny_pure ?_)) | refine wpAny_bind (W6 (wpAny_pure ?_))
 refine wpAny_bind (Dh ?_)
 have jB:Builtin.Dict_items.ownsTuple "dict_keyiterator" = false:=by decide
 simp only[jB,Js,if_false]
 show ZV _ (if(Value.ref d==.none)=true then _ else _) _ _ s
 rw[if_neg (show ¬((Value.ref d==.none)=true) from Zh)]
 refine wpAny_bind (Ac (MP ?_))
 rw[if_neg Gf]
 refine wpAny_bind (Ac (NY ?_))
 rw[if_neg Gf]
 refine wpAny_pure ?_
 simp only[show ¬((i:Int)<0) from by lia,if_false,Wx,Kt hi]
 refine wpAny_bind ?_
 first | refine wpAny_bind (WS (wpAny_pure ?_)) | refine wpAny_bind (W6 (wpAny_pure ?_))
 refine wpAny_bind (wpAny_isOneOf_keyiter st.typeIs ?_)
 show ZV _ (setField Ia 1 (Ez ((i:Int)+1)) >>= _) _ _ s
 refine wpAny_bind (J0 Gf ?_)
 have aa:(s.heap.update j (Obj.mapFields (·.setIfInBounds 1 (Ez ((i:Int)+1))))).IsKeyIter j d Hj es.size ep :=
  ⟨_,Cu,(Obj.cls_mapFields ..).trans hc,by rw[Xe hd];simp[rawInt]⟩
 refine wpAny_bind (wpAny_holding (wpAny_bind (wpAny_isOneOf_keyiter (s:={s with heap:=s.heap.update j (Obj.mapFields (·.setIfInBounds 1 (Ez ((i:Int)+1))))}) aa.typeIs ?_)))
 show ZV _ (pure es[i].key) _ _ _
 exact wpAny_pure (wpAny_pure ⟨_,rfl,Rr (hQ _ aa (Kw ..))⟩)
def done{j:Nb}{i:Nat}{Q:Option Value→Shared→Prop}(hh:A.handled=none)(st:E4)(m:Me ep)(hi:es.size≤i)(hQ:∀g,Df g→Q none {s with heap:=g}):ZG (Lp j) Q E s:=by
 obtain⟨o,ho,hc,hd⟩:=id st
 obtain⟨od,mU,aD,gF⟩:=id m
 unfold pyNext
 refine wpAny_bind (zO (wpAny_callSpecial?_slot (name:=Str.ofString "__next__") st.typeIs Uh (JJ ?_ Ed)))
 refine wpAny_bind (Ac (wpAny_bind ?_))
 first | refine wpAny_bind (WS (wpAny_pure ?_)) | refine wpAny_bind (W6 (wpAny_pure ?_))
 refine wpAny_bind (Dh ?_)
 have jB:Builtin.Dict_items.ownsTuple "dict_keyiterator" = false:=by decide
 simp only[jB,Js,if_false]
 show ZV _ (if(Value.ref d==.none)=true then _ else _) _ _ s
 rw[if_neg (show ¬((Value.ref d==.none)=true) from Zh)]
 refine wpAny_bind (Ac (MP ?_))
 rw[if_neg Gf]
 refine wpAny_bind (Ac (NY ?_))
 rw[if_neg Gf]
 refine wpAny_pure ?_
 simp only[show ¬((i:Int)<0) from by lia,if_false,Wx,Array.getElem?_eq_none hi]
 refine wpAny_bind ?_
 first | refine wpAny_bind (WS (wpAny_pure ?_)) | refine wpAny_bind (W6 (wpAny_pure ?_))
 show ZV _ (setField Ia 0 .none >>= _) _ _ s
 refine wpAny_bind (J0 Gf ?_)
 show ZV _ (newExc (.type "StopIteration") [] >>= _) _ _ _
 refine wpAny_bind ?_
 simp only[newExc,newTuple]
 refine wpAny_bind (wpAny_newObj_type (wpAny_bind (m:=firstArgMember _ _) (wpAny_of_eq (a:=Value.none) (by first | rfl | (simp only[firstArgMember];rfl)) (wpAny_newObj_type ?_ (by size_fits)))) (by size_fits))
 simp only[raiseNew]
 refine wpAny_bind (wpAny_handled ?_)
 first | rw[show A.in1.handled=none from hh] | rw[hh]
 refine wpAny_bind (Rr (wpAny_throw ?_))
 refine wpAny_bind (wpAny_isInstance (T := "StopIteration") (b:=true) ⟨_,SA,rfl⟩ isSubtype_stop ?_)
 exact wpAny_pure (hQ _ (((Kw ..).extBut.push _).push _))
theorem src(nS:(d==sysModules)=false):KdlSrc prog w "dict" d d es.size (λi v=>∃e,es[i]?=some e∧v=e.key) (λh=>At h d es ep) where
 type:=λ_ m=>m.typeIs
 there:=λ_ m=>let⟨_,e,_⟩:=m;⟨TU,TU⟩
 keep:=λ_ _ m k=>m.keep λo e=>k d Hf o e
 notList:=by decide
 notTuple:=by decide
 hint:=λ_ _ _ _ m q=>kdl_hint_dict m.typeIs q
 iter:=λA s hh m=>by
  have lt:d<s.heap.objs.size:=let⟨_,e,_⟩:=m;Qv e
  refine⟨_,λi h=>h.IsKeyIter s.heap.objs.size d i es.size ep∧At h d es ep,λ_ _ q=>iter nS m q,?_,⟨_,SA,rfl,rfl⟩,m.keep λo e=>WG e⟩
  exact
   {sub:=fun b hb=>by simp at hb;simp [hb]
    frame:=λi h g st k=>⟨st.1.at λo e=>k _ Gf o e,st.2.keep λo e=>k d Gf o e⟩
    item:=λi s' Q E hi st hQ=>item st.1 st.2 hi λg a b=>hQ _ g s'.toks ⟨_,Kt hi,rfl⟩ ⟨a,st.2.keep λo e=>(b.2 d IK).trans e⟩ λc o hc e=>(b.2 c (λz=>hc (by simp[z]))).trans e
    done:=λs' Q E st hQ=>done hh st.1 st.2 GV λg a=>hQ g s'.toks λc o hc e=>a c o (λz=>hc (by simp[z])) e
    self:=λ_ _ _ _ st q=>wpAny_pyIter_keyiter st.1 q}
end
end RawD
namespace L2
open PySem PySem.Spec PyProof.Rows Tm
def kP(q:Str×Str):List Key:=[yj,Sum.inr q.2]
abbrev zbq(H:Hp):List Addr→List (Str×Str)→Prop:=Paired λb r=>H b=some (.tup [yk,yl])
section
variable{X:Cx}
def zei{α β:Type}{R:α→β→Prop}{as cI:List α}(p:cI.Perm as):∀{bs:List β},YT as bs→∃lB,lB.Perm bs∧YT cI lB:=by
 induction p with
 |nil=>intro bs r;cases r;exact⟨[],.nil,.nil⟩
 | cons x q ih =>
  intro bs r
  cases r with
  |cons r1 r2 =>
   obtain⟨zs,h1,h2⟩:=ih r2
   exact⟨_::zs,h1.cons _,LJ r1 h2⟩
 | swap x y l =>
  intro bs r
  cases r with
  |cons r1 r2 =>
   cases r2 with
   |cons r3 r4=>exact⟨_,List.Perm.swap ..,y9⟩
 |trans _ _ ih1 ih2 =>
  intro bs r
  obtain⟨zs,h1,h2⟩:=ih2 r
  obtain⟨iW,h3,h4⟩:=ih1 h2
  exact⟨iW,h3.trans h1,h4⟩
def pairs_mem{H:Hp}{as:Nn}{qs:Nt}(r:zbq H as qs){a:Nb}(ha:a∈as):∃r:Str×Str,H a=some (.tup [yk,yl]):=by
 induction r with
 |nil=>cases ha
 |cons h t ih =>
  rcases Qf.mp ha with zz | zz
  ·subst zz;exact⟨_,h⟩
  ·exact ih zz
def zg9(hc:X.calm=true):Y4 (.builtin "sorted") (fun xs H Q=>Ex3 fun (d:Nb) (kvs:Sg (List Key×V)) (qs:Nt)=>Aj4 (xs=[Cf]) (H d=some S9) (kvs.map (·.1)=qs.map kP) (∀ (l:Nb) (as:Nn) (ws:Nt),H l=none→ws.Perm qs→zbq H as ws→Q RH (EX HW))):=by
 intro a5 s σ H xs us Q I r h
 obtain⟨d,kvs,qs,rfl,hq,ek,q⟩:=h
 obtain⟨u,rfl,rx⟩:=vals1 r
 cases rx
 obtain⟨z,lo,ts,rk,o,es,ep,e1,e2,e3,e4,e5⟩:=(show QB H s.heap d S9 from I.hok d _ hq)
 have ki:RawD.At s.heap d es ep:=⟨o,e1,e2,e3⟩
 have ae:kvs.length=ts.length:=Zy rk
 have aN:es.size=ts.length:=by rw[←Wn,e4,Qa]
 have iK:zbq H (ts.map λt=>t.2.1) qs:=by
  clear e4 e5 aN ae ki z q hq
  induction rk generalizing qs with
  |nil =>
   cases qs with
   |nil=>exact .nil
   |cons a b=>cases ek
  | @cons p t ps ts' h1 t1 ih =>
   cases qs with
   |nil=>cases ek
   |cons a b =>
    rw[Qm,Qm]at ek
    injection ek with k1 k2
    refine .cons ?_ (ih _ k2)
    have:=h1.2.1
    rw[k1]at this
    exact this
 have mf:∀af:Array Value,ItemsOf (λi v=>∃e,es[i]?=some e∧v=e.key) af es.size→af.toList=(ts.map λt=>t.2.1).map Value.ref:=λaf hi=>by
  apply List.ext_getElem?
  intro i
  rw[Qo,Qo]
  by_cases ad:i<es.size
  ·have dQ:i < af.size:=by rw [hi.1];exact ad
   have a1:af[i]?=some af[i]:=Kt dQ
   obtain⟨e,h1,h2⟩:=hi.2 i _ a1
   rw[Uk,a1,h2]
   have h3:es.toList[i]?=some e:=by rw[Uk];exact h1
   rw[e4,Qo]at h3
   cases ht:ts[i]? with
   |none=>rw[ht]at h3;cases h3
   |some t =>
    rw[ht]at h3
    have h4:entryOfKey (Cw SZ) t=e:=Qn h3
    rw[←h4];rfl
  ·have a1:af.toList[i]?=none:=by rw [Uk];exact Array.getElem?_eq_none (by rw [hi.1];lia)
   have a2:ts[i]?=none:=Ka Gg
   rw[a1,a2];rfl
 have hvr:∀as:List Addr,Vals Ls (as.map Value.ref):=λas=>by
  induction as with
  |nil=>exact .nil
  |cons a r ih=>exact .cons rfl ih
 refine ze5 (R:=λa7 ws=>a7.length<64→ws.Pairwise λx y=>(DK strO).kle (DO x) (DO y)) (G:=λa7=>a7=(ts.map λt=>t.2.1).map Value.ref) (λE' R hR=>zgx (RawD.src lo) (show X.A.in1.handled=none from I.ok.hd hc) ki Gg λg tk af k le hi=>hR g tk _ k le (mf af hi))
  (λa7 e=>by rw[e,Qa,Qa];exact zea ‹_› ‹_›) (λa7 e A' E' s' _ k=>?_) λa7 ws l g tk e r p1 p2 le k he=>?_
 ·have all:∀ v∈a7,∃ x y t,DL v x (.str y t):=fun v hv=>by
   rw[e]at hv
   obtain⟨a,ha,rfl⟩:=Qh.mp hv
   obtain⟨rr,mx⟩:∃r:Str×Str,H a=some (.tup [yk,yl]):=pairs_mem iK ha
   obtain⟨q',⟨t,rfl⟩,T⟩:=zh3 I mx
   exact⟨_,_,t,T⟩
  refine zel k (λv hv=>let⟨x,y,t,T⟩:=all v hv;⟨x,_,T⟩) λv hv u hu x p q T T'=>.inr ?_
  obtain⟨_,y,t,T1⟩:=all v hv
  obtain⟨_,y',t',T2⟩:=all u hu
  exact⟨y,t,y',t',(zfx T T1).2,(zfx T' T2).2⟩
 ·subst r
  obtain⟨as,rfl,p3⟩:∃as:List Addr,ws=as.map Value.ref∧as.Perm (ts.map λt=>t.2.1):=by
   have key:∀{ws:Nj} {bs:Nn},ws.Perm (bs.map Value.ref)→∃as:List Addr,ws=as.map Value.ref∧as.Perm bs:=λ{ws bs} pm=>by
    have a2:∃as:List Addr,ws=as.map Value.ref:=by
     have a1:∀v∈ws,∃a,v=Value.ref a:=λv hv=>by
      obtain⟨a,_,e⟩:=Qh.mp zM
      exact⟨a,e.symm⟩
     clear pm
     induction ws with
     |nil=>exact⟨[],rfl⟩
     |cons v r ih =>
      obtain⟨as,e⟩:=ih λv hv=>a1 v yJ
      obtain⟨x,e2⟩:=a1 v Qb
      exact⟨x::as,by rw[e,e2];rfl⟩
    obtain⟨as,rfl⟩:=a2
    refine⟨as,rfl,?_⟩
    have:=pm.map (λv=>match v with | .ref a=>a | _=>0)
    rw[Zj,Zj]at this
    simpa[Function.comp_def] using this
   exact key p1
  obtain⟨qs',q1,q2⟩:=zei p3 iK
  refine⟨RH,_,I.laid (t':=tk) k le (show QB _ g _ (Gw _) from⟨?_,as.map Value.ref,e,hvr as,he⟩),rfl,q l as qs' (Es le) q1 q2⟩
  rw[Qa,p3.length_eq,Qa];exact zea ‹_› ‹_›
end
end L2
end
section
set_option Elab.async false
set_option linter.all false
namespace L2
open PySem PySem.Spec PyProof.Rows
def fsk{N P:Ng}{sc:Scope}(a:sc.kind=.function:=by rfl)(b:sc.isCoroutine=false:=by rfl)(c:sc.isGenerator=false:=by rfl)(d:N.Nodup:=by decide +kernel)(e:N.take P.length=P:=by rfl)(f:∀x∈P,sc.names.lookup x=some .local∨sc.names.lookup x=some .cell:=by decide +kernel)(g:∀y∈sc.names,y.2≠.free:=by decide +kernel):zak N P sc:=⟨a,b,c,d,e,f,g⟩
section
variable{X:Cx}
def zap(i:Nat){x:Str}{e:Expr}{te:TE}{pos aH:Pos}(hN:X.N.Nodup)(he:Lb)(hi:X.N[i]?=some x:=by rfl)(hx:Y2 x:=by exact Or.inl rfl)(hs:swapsWith e (Gz zy) pos.line X.env=pure false:=by rfl)(hf:X.fn x=true∨X.env.scope.names.lookup x=some .local:=by first | exact .inl rfl | exact .inr rfl | assumption) :
  PS X (.Assign [zy] e pos) (tAsg te IF):=zhh hN hi hx he hs hf
def zam(i:Nat){x:Str}{pos:Pos}(hN:X.N.Nodup)(hi:X.N[i]?=some x:=by rfl)(hx:Y2 x:=by exact Or.inl rfl)(hf:X.fn x=true∨X.env.scope.names.lookup x=some .local:=by first | exact .inl rfl | exact .inr rfl | assumption):DF IF:=pg_name hN hi hx hf
def zbz{o i:Expr}{td ty:TE}{pos:Pos}(hu:X.A.units+1<cLine)(ho:C9)(hi:Id)(hs:NoSl i:=by exact λ_ _=>rfl):Z7 Aq (tDGet td ty):=pe_dget hu ho hi hs
end
end L2
namespace L2
open PySem PySem.Spec PyProof.Rows
def Fun.okL{P:Nk}{w:Nl}{K:Na}{mg:Nd}{base:No}{x qual:Str}{st:Stmt}{f:Nb}{fd:Nv}{N ps:Ng}{k:Nat}{sp:Sp}(F:Ie)(S:V6 Ty)(cw:∀ (cdv:Value) (A:Np) (outer:List Env) (s:Ni) (H:Hp) (vs:List V) (Q:VK) (E:XK),U0 LG→sp vs H Q E →
   ∃t,PSs (JY E).nox (zco st) t∧t {nx:=λ_ H'=>Q .non H',rt:=Q} IG H)(len:∀vs H Q E,sp vs H Q E→vs.length=ps.length:=by intro _ _ _ _ h;cases h;subst_vars;rfl):ZB (k+1) f fd ps sp:=F.ok S len cw
end L2
end
section
namespace L2
open PySem PySem.Spec PyProof.Rows
def chkB(sc:Scope)(M:Ng)(ix:Nu)(N:Ng)(S:Scope):Bool :=
 decide (sc.kind=.function)&&sc.names.all (λy=>decide (y.2≠.cell))&&sc.names.all (λy=>!decide (y.2=.local)||decide (sc.names.lookup y.1=some .local))&&sc.names.all (λy=>!decide (y.2=.free)||decide (S.names.lookup y.1=some .cell)||decide (S.names.lookup y.1=some .free)) &&
 decide (ix.length=M.length)&&decide M.Nodup&&(M.zip ix).all (λp=>match p.2 with
  |none=>true
  |some i=>decide (N[i]?=some p.1)&&decide (sc.names.lookup p.1=some .free))
def mkB{X:Cx}{sc S:Scope}{M N ps:Ng}{ix:Nu}(F:V6 S)(hN:X.N=N:=by exact rfl)(hS:X.env.scope=S:=by exact rfl)(h:chkB sc M ix N S=true:=by decide +kernel):W5 ix:=by
 subst hN hS
 unfold chkB at h
 simp only[Jf,decide_eq_true_eq,Ug,Kk,Jw,decide_eq_false_iff_not]at h
 obtain⟨⟨⟨⟨⟨⟨h1,h2⟩,h3⟩,h4⟩,h5⟩,h6⟩,h7⟩:=h
 refine⟨h1,h2,λy hy e=>(h3 y hy).resolve_left λz=>z e,λy hy e=>?_,h5,h6,λj i x e1 e2=>?_⟩
 ·rcases h4 y hy with (z | z) | z
  ·exact absurd e z
  ·exact .inl z
  ·exact .inr z
 ·have:=h7 (x,zF) (Yd (i:=j) (by rw [List.getElem?_zip_eq_some];exact ⟨e1,e2⟩))
  simpa using this
end L2
end
section
namespace K21
open PySem L2
abbrev qR:Str := "_law_rounds_here"
abbrev qP:Str := "_law_pot_here"
abbrev qM:Str := "_law_many"
abbrev qO:Str := "_law_other"
abbrev qS:Str := "_law_script"
abbrev qN:Str := "_law_names_here"
def top(i:Nat):Stmt:=PySem.Challenge.pw_fivehues_k54_four_hues_mirrored.main.body.getD i (.Pass ⟨0,0,0,0⟩)
def eOf:Stmt→Expr
 |.Assign _ e _=>e
 |.Return (some e) _=>e
 |.For _ e _ _ _=>e
 |.While e _ _ _=>e
 |_=>.Name "" ⟨0,0,0,0⟩
def aOf(i:Nat):Expr→Expr
 |.Call _ a _ _=>a.getD i (.Name "" ⟨0,0,0,0⟩)
 |.BinOp l _ r _=>[l,r].getD i l
 |.BoolOp _ a _=>a.getD i (.Name "" ⟨0,0,0,0⟩)
 |.Compare _ _ a _=>a.getD i (.Name "" ⟨0,0,0,0⟩)
 |e=>e
def scOf:Expr→Scope
 |.ListComp _ _ sc _=>sc
 |.DictComp _ _ _ sc _=>sc
 |_=>{kind:=.function,names:=[],isGenerator:=false,isCoroutine:=false}
abbrev sAt(s:Stmt)(i:Nat):Stmt:=(zco s).getD i (.Pass ⟨0,0,0,0⟩)
def Pot(H:Hp)(p:Nb)(b m:Int):Prop:=H p=some (.lst [Ht b,Ht m])∧0≤b∧0≤m∧m<2147483648
inductive IspTake(vs:List V)(H:Hp)(Q:VK):Prop
 |mk (p:Nb) (b m n:Int) (h0:vs=[.ref p,.int n]) (h1:Pot H p b m) (h2:0<n) (h3:n<1073741824) (h4:∀(d b' m':Int) (H':Hp),0≤d→d<n→Pot H' p b' m'→(∀c o,H c=some o→c≠p→H' c=some o)→Q (.int d) H'):IspTake vs H Q
def zfl:Sp:=λvs H Q _=>IspTake vs H Q
section
variable{P:Nk}{w:Nl}{K:Na}{mg:Nd}{base:No}
end
end K21
end
section
namespace Wb
section
variable{α:Type}[DecidableEq α]
def nxt(zs:List α)(x:α):α:=zs.getD ((zs.idxOf x+1)%zs.length) x
def ins(zs:List α):Option α→α→List α
 |none,n=>n::zs
 |some c,n=>zs.take (zs.idxOf c+1)++n::zs.drop (zs.idxOf c+1)
abbrev Rs(α:Type):=List (α×List α)
def row(rs:Rs α)(x:α):List α:=((rs.find? λp=>decide (p.1=x)).map (·.2)).getD []
def za6(rs:Rs α)(x:α)(r:List α):Rs α:=rs.map λp=>if p.1=x then(p.1,r) else p
def stp(rs:Rs α)(s:α×α):α×α:=(s.2,nxt (J7 s.2) s.1)
end
end Wb
namespace K21
open PySem L2 Wb
def Keep(xs:Nn)(H H':Hp):Prop:=∀c o,H c=some o→c∉xs→H' c=some o
def Keep.refl:W3 H:=λ_ _ e _=>e
def Keep.trans(a:W3 H1)(b:Keep xs H1 H2):W3 H2:=λc o e n=>b c o (a c o e n) n
def Keep.sub(a:W3 H1)(h:∀x∈xs,x∈ys):Keep ys H H1:=λc o e n=>a c o e λz=>n (h c z)
def Keep.new(h:H l=none):W3 (EX o):=λc u e _=>by rw[zaf (XG h)];exact e
def Keep.wr(h:l∈xs):W3 (EX o):=λc u e n=>by rw[zaf (λz=>n (Gp z h))];exact e
abbrev Ent:=Str×List Str×Addr
abbrev eWV(es:List Ent):List (Key×V):=es.map λe=>HI
structure RAt(H:Hp)(d:Nb)(es:List Ent):Prop where
 dc:H d=some G'
 ro:∀e∈es,H e.2.2=some HU
 nd:(es.map (·.1)).Nodup
def rsOf(es:List Ent):Rs Str:=es.map λe=>(e.1,e.2.1)
def RAt.keep(r:K7 es)(k:W3 H')(hd:d∉xs)(h:∀e∈es,e.2.2∉xs):RAt H' d es:=⟨P4,λe he=>k _ _ CG (h e he),r.nd⟩
def zb6{es:List Ent}(nd:(es.map (·.1)).Nodup){e:Ent}(h:e∈es):valV (es.map fun e=>HI) RO=some Tg:=by
 induction es with
 |nil=>cases h
 | cons a t ih =>
  rw[Qm,Qr]at nd
  rw[Qm]
  rcases Qf.mp h with z | z
  ·subst z;exact zcg rfl
  ·rw [zbm]
   ·exact ih nd.2 z
   ·intro q
    exact nd.1 (by rw[Wd q];exact Qh.mpr ⟨e,z,rfl⟩)
def val_out{es:List Ent}{x:Str}(h:x∉es.map (·.1)):valV (es.map λe=>HI) CY=none:=by
 induction es with
 |nil=>rfl
 |cons a t ih =>
  rw[Qm,Qf,not_or]at h
  rw[Qm,zbm]
  ·exact ih h.2
  ·intro q;exact h.1 (Wd q).symm
def zaw(nd:(es.map (·.1)).Nodup)(h:e∈es):ZJ e.1=e.2.1:=by
 unfold row rsOf
 induction es with
 |nil=>cases h
 | cons a t ih =>
  rw[Qm,Qr]at nd
  rw[Qm]
  rcases Qf.mp h with z | z
  ·subst z;rw[Ub Gf];rfl
  ·rw [Uc]
   ·exact ih nd.2 z
   ·intro q
    exact nd.1 (by rw[of_decide_eq_true q];exact Qh.mpr ⟨e,z,rfl⟩)
def setE(es:List Ent)(x:Str)(r:Ng)(a:Nb):List Ent:=es.map λe=>if e.1=x then(e.1,r,a) else e
def zc1(es:List Ent)(x:Str)(r:Ng)(a:Nb):rsOf (UW x r a)=za6 EK x r:=by
 unfold rsOf setE za6
 rw[Zj,Zj]
 refine Zz λe _=>?_
 show(λe:Ent=>(e.1,e.2.1)) (if e.1=x then(e.1,r,a) else e)=if e.1=x then(e.1,r) else(e.1,e.2.1)
 by_cases h:e.1=x
 ·rw[if_pos h,if_pos h]
 ·rw[if_neg h,if_neg h]
def put_setE(h:x∈es.map (·.1)):QW Rg=(UW x r a).map λe=>HI:=by
 unfold putK setE
 rw[if_pos]
 ·rw [Zj,Zj]
  refine Zz λe _=>?_
  show(if(Sum.inr e.1:Key)=Sum.inr x then((Sum.inr e.1:Key),La a) else(RO,IQ))=(λe:Ent=>HI) (if e.1=x then(e.1,r,a) else e)
  by_cases q:e.1=x
  ·rw[if_pos (by rw[q]),if_pos q]
  ·rw[if_neg (λz=>q (Wd z)),if_neg q]
 ·obtain ⟨e,he,rfl⟩:=Qh.mp h
  exact Yb.mpr ⟨_,Ts ⟨e,he,rfl⟩,Gf⟩
def put_new{es:List Ent}{x:Str}{r:Ng}{a:Nb}(h:x∉es.map (·.1)):QW Rg=(es++[(x,r,a)]).map λe=>HI:=by
 rw[Fj (val_out h),Qp]
 rfl
def zb3(es:List Ent)(x:Str)(r:Ng)(a:Nb):(UW x r a).map (·.1)=es.map (·.1):=by
 unfold setE
 rw[Zj]
 refine Zz λe _=>?_
 show(if e.1=x then(e.1,r,a) else e).1=e.1
 split<;>rfl
def zht{xs:List V}{k:Nat}(h:k≤xs.length):M7 none (some (k:Int))=xs.take k:=by
 unfold cutV
 have e1:QN 0 none=0:=rfl
 have e2:QN xs.length (some (k:Int))=k:=by rw[HT.sIx_nat];lia
 rw[e1,e2];simp
def zf6{xs:List V}{k:Nat}(h:k≤xs.length):M7 (some (k:Int)) none=xs.drop k:=by
 unfold cutV
 have e1:QN 0 (some (k:Int))=k:=by rw[HT.sIx_nat];lia
 have e2:QN xs.length none=xs.length:=rfl
 rw[e1,e2,Qt (Hx Kd)]
def idx_lt{zs:Ng}{x:Str}(h:x∈zs):zs.idxOf x<zs.length:=List.idxOf_lt_length_iff.mpr h
def ziw{zs:Ng}{x:Str}(h:x∈zs):(∃ z,(zs.map V.str)[zs.idxOf x]?=some z∧eqV z TR=true)∧∀ m z,m < zs.idxOf x→(zs.map V.str)[m]?=some z→eqV z TR=false:=by
 refine⟨⟨TR,?_,CM x⟩,λm z hm e=>?_⟩
 ·rw[Qo,Qd (idx_lt h),List.getElem_idxOf];rfl
 ·rw [Qo] at e
  have bM:m<zs.length:=Wk hm (idx_lt h)
  rw[Qd bM]at e
  cases e
  show(zs[m]==x)=false
  refine beq_eq_false_iff_ne.mpr λq=>?_
  have ax:∀(l:Ng) (j:Nat) (hj:j<l.length),l[j]=x→l.idxOf x≤j:=by
   intro l
   induction l with
   |nil=>intro j hj;simp at hj
   | cons a t ih =>
    intro j hj e
    rw[List.idxOf_cons]
    cases j with
    |zero =>
     have e':a=x:=e
     rw[e'];simp
    | succ i =>
     have:=ih i (Gk hj) IR
     by_cases h:a=x
     ·rw[h];simp
     ·have hb:(a == x)=false:=beq_eq_false_iff_ne.mpr h
      rw[hb];simp;assumption
  have:=ax zs m bM q
  lia
def zcl(zs:Ng):(zs.map V.str).all zdl=true:=by
 rw[Ug];intro v hv;obtain⟨x,_,rfl⟩:=Qh.mp hv;rfl
end K21
end
section
namespace K21
open PySem L2 Wb
def zbp:Option Str→V
 |none=>.non
 |some c=>.str c
section
variable{P:Nk}{w:Nl}{K:Na}{mg:Nd}{base:No}
end
end K21
end
section
namespace Wb
section
variable{α:Type}[DecidableEq α]
def itr(rs:Rs α)(s:α×α):Nat→α×α
 |0=>s
 |n+1=>stp rs (J8 s n)
def IsSt(rs:Rs α)(s:α×α):Prop:=∃p∈rs,p.1=s.2∧s.1∈p.2
def Clo(rs:Rs α):Prop:=∀s,IsSt rs s→IsSt rs (stp rs s)
def run(rs:Rs α)(s:α×α)(n:Nat):List (α×α):=(Ro n).map (J8 s)
def nodup_len{l m:List (α×α)}(nd:l.Nodup)(h:∀x∈l,x∈m):l.length≤m.length:=by
 induction l generalizing m with
 |nil=>exact Zb _
 |cons a t ih =>
  rw[Qr]at nd
  have ha:=h a Qb
  have:=ih (m:=m.erase a) nd.2 λx hx=>(List.mem_erase_of_ne (λe=>nd.1 (by rw[←e];exact hx))).mpr (h x Lf)
  rw[Yi ha]at this
  have hp:0<m.length:=Yh ha
  rw[Qu];lia
end
end Wb
namespace K21
open PySem L2 Wb
section
variable{P:Nk}{w:Nl}{K:Na}{mg:Nd}{base:No}
def zbq.keep{H H':Hp}{as:Nn}{qs:Nt}(r:zbq H as qs)(k:∀b x y,H b=some (.tup [x,y])→H' b=some (.tup [x,y])):zbq H' as qs:=by
 induction r with
 |nil=>exact .nil
 |cons h t ih=>exact .cons (k _ _ _ h) ih
end
end K21
end
section
namespace Wb
section
variable{α:Type}[DecidableEq α]
structure Gen(G:Rs α→Prop):Prop where
 clo:∀rs,G rs→Clo rs
 nd:∀rs,G rs→(rs.map (·.1)).Nodup
 sub:∀rs,G rs→∀p∈rs,p.2.Nodup∧∀x∈p.2,x∈rs.map (·.1)
 sy:∀rs,G rs→∀p∈rs,∀x∈p.2,p.1∈J7 x
 nil:G []
 new:∀rs x,G rs→x∉rs.map (·.1)→G (rs++[(x,[])])
 leaf:∀rs x p c,G rs→x∉rs.map (·.1)→p∈rs→(∀y,c=some y→y∈p.2)→(c=none→p.2=[])→G (za6 (za6 (rs++[(x,[])]) p.1 PB) x [p.1])
 tie:∀rs c p n,G rs→p∈rs→c∈p.2→(J8 (c,p.1) n).2≠p.1→(J8 (c,p.1) n).2∉p.2 →
  G (za6 (Mf p.1 (FC (J8 (c,p.1) n).2)) (J8 (c,p.1) n).2 (ins (J7 (J8 (c,p.1) n).2) (some (J8 (c,p.1) n).1) p.1))
def zck{l m:List α}(nd:l.Nodup)(h:∀x∈l,x∈m):l.length≤m.length:=by
 induction l generalizing m with
 |nil=>exact Zb _
 |cons a t ih =>
  rw[Qr]at nd
  have ha:=h a Qb
  have:=ih (m:=m.erase a) nd.2 λx hx=>(List.mem_erase_of_ne (λe=>nd.1 (by rw[←e];exact hx))).mpr (h x Lf)
  rw[Yi ha]at this
  have hp:0<m.length:=Yh ha
  rw[Qu];lia
def Gen.rows{G:Rs α→Prop}(g:Gen G){rs:Rs α}(h:G rs):∀p∈rs,p.2.length≤rs.length:=λp hp=>by
 obtain⟨a,b⟩:=g.sub rs h p hp
 have:=zck a b
 rwa[Qa]at this
end
end Wb
namespace K21
open PySem L2 Wb
def zdi{H:Hp}{p a:Nb}{b m:Int}{zs:Ng}(h:Vo m)(ha:H a=some Cg):a≠p:=zat ha h.1 (by
 intro z
 have z':zs.map V.str=[Ht b,Ht m]:=by injection z
 cases zs with
 |nil=>cases z'
 |cons x t=>rw[Qm]at z';injection z' with z1 _;cases z1)
def pot_nd{H:Hp}{p d:Nb}{b m:Int}{kvs:List (Key×V)}(h:Vo m)(hd:H d=some Rp):d≠p:=zat hd h.1 Gm
def Pot.keep{H H':Hp}{p:Nb}{b m:Int}{xs:Nn}(h:Vo m)(k:W3 H')(hp:p∉xs):Pot H' p b m:=⟨k _ _ h.1 hp,h.2⟩
def zbd{H H':Hp}{p:Nb}(h:∀c o,H c=some o→c≠p→H' c=some o):Keep [p] H H':=λc o e n=>h c o e λz=>n (by rw[z];exact Qc.mpr rfl)
section
variable{P:Nk}{w:Nl}{K:Na}{mg:Nd}{base:No}
def zfg{x:Str}{zs:Ng}:inV TR Rl=decide (x∈zs):=by
 unfold inV
 rw[Yw,Yb,decide_eq_true_iff]
 constructor
 ·rintro ⟨v,hv,e⟩
  obtain⟨y,hy,rfl⟩:=Qh.mp hv
  have e':y=x:=eq_of_beq e
  rw[←e'];exact hy
 ·intro h
  exact⟨TR,Ts ⟨x,h,rfl⟩,CM x⟩
def zbk{c:Bool}{A B:Prop}(h:c=false)(b:B):if c=true then A else B:=by rw[h];exact iteF b
def zbt{c:Bool}{A B:Prop}(h:c=true)(a:A):if c=true then A else B:=by rw[h];exact iteT a
def zhj{X:Cx}{K:Na}(hK:X.K=K)(hu:X.A.units<cLine):Y3 Lr (FA K):=hK▸zdp hu
end
end K21
end
section
namespace K21
open PySem L2 Wb
def rat_new(R:K7 es)(hx:x∉es.map (·.1))(ha:H a=some zS) :
  RAt (ZS d LW) d (es++[(x,r,a)]):=by
 refine⟨by rw[zab,put_new (r:=r) hx],λe he=>?_,?_⟩
 ·have key:∀ {b:Nb} {xs:List V},H b=some Sq→(ZS d (.dK (putK (es.map fun e=>HI) CY Rg))) b=some Sq:=fun {b xs} hb=>by
   rw[zaf (zat hb R.dc Gm)];exact hb
  rcases Qk.mp he with z | z
  ·exact key (NB z)
  ·rw[Qc.mp z];exact key ha
 ·rw [Qp,Zc]
  refine⟨R.nd,Cr ⟨Gf,Zm⟩,λy hy z hz=>?_⟩
  have eM:z=x:=by simpa using hz
  rw[eM]
  exact λe=>hx (e▸hy)
def rat_set(R:K7 es)(hx:x∈es.map (·.1))(ha:H a=some zS) :
  RAt (ZS d LW) d (UW x r a):=by
 refine⟨by rw[zab,put_setE (r:=r) hx],λe he=>?_,by rw[zb3];exact R.nd⟩
 have key:∀{b:Nb} {xs:List V},H b=some Sq→(ZS d LW) b=some Sq:=λ{b xs} hb=>by
  rw[zaf (zat hb R.dc Gm)];exact hb
 unfold setE at he
 obtain⟨e0,h0,rfl⟩:=Qh.mp he
 by_cases z:e0.1=x
 ·rw[if_pos z];exact key ha
 ·rw[if_neg z];exact key (R.ro e0 h0)
def zex(es:List Ent):((eWV es).map λp=>kV p.1)=(es.map (·.1)).map V.str:=by
 rw[Zj,Zj];rfl
section
variable{P:Nk}{w:Nl}{K:Na}{mg:Nd}{base:No}
end
def zcm(z:Str):Prop:=1≤z.length∧z.length≤8∧∀c∈z.cps.toList,97≤c∧c≤122
def zfp{α β:Type}{f:α→β}{l:List α}(h:(CF f).Nodup):l.Nodup:=by
 induction l with
 |nil=>exact Zm
 |cons a t ih =>
  rw[Qm,Qr]at h
  exact Qr.mpr ⟨λz=>h.1 (Ts ⟨a,z,rfl⟩),ih h.2⟩
def zim{α β:Type}{f:α→β}{l:List α}(nd:l.Nodup)(h:∀a∈l,∀b∈l,f a=f b→a=b):(CF f).Nodup:=by
 induction l with
 |nil=>exact Zm
 |cons a t ih =>
  rw[Qr]at nd
  rw[Qm,Qr]
  refine⟨λz=>?_,ih nd.2 λx hx y hy=>h x Lf y Ll⟩
  obtain⟨b,hb,e⟩:=Qh.mp z
  exact nd.1 (h b TB a Qb e▸hb)
def zdr{β:Type}{f:Nat→β}{n:Nat}(h:∀a,a<n→∀b,b<n→f a=f b→a=b):((Ro n).map f).Nodup :=
 zim List.nodup_range λa ha b hb=>h a (Wh.mp ha) b (Wh.mp hb)
section
variable{P:Nk}{w:Nl}{K:Na}{mg:Nd}{base:No}
end
def zaz(k:W3 H')(h:H' l=none)(hx:l∉xs):H l=none:=by
 cases z:H l with
 |none=>rfl
 |some o=>rw[k _ _ z hx]at h;cases h
section
variable{P:Nk}{w:Nl}{K:Na}{mg:Nd}{base:No}
end
end K21
end
section
namespace K21
open PySem L2 Wb Tm
def leS_anti(a b:Str)(h:leS a b)(g:leS b a):a=b:=by
 have e:a.cps.toList=b.cps.toList:=List.le_antisymm (EL h) (EL g)
 cases a;cases b
 congr 1
 exact Xl.mp e
end K21
end
section
namespace K21
open PySem L2 Wb
abbrev sWeb:Stmt:=top 40
abbrev sPlaces:Stmt:=NC 1
structure TAt(H:Hp)(d:Nb)(es:List Ent):Prop where
 dc:H d=some G'
 ro:∀e∈es,H e.2.2=some (.tup LR)
 nd:(es.map (·.1)).Nodup
def TAt.keep(r:TAt H d es)(k:W3 H')(hd:d∉xs)(h:∀e∈es,e.2.2∉xs):TAt H' d es:=⟨P4,λe he=>k _ _ CG (h e he),r.nd⟩
structure WAt(H:Hp)(C x dx d:Nb)(es:List Ent):Prop where
 ob:H x=some (.ins C dx [("rounds",Cf)])
 ta:TAt H d es
def WAt.keep(r:Mg es)(k:W3 H')(hx:x∉xs)(hd:d∉xs)(h:∀e∈es,e.2.2∉xs):Q4 d es :=
 ⟨k _ _ r.ob hx,r.ta.keep k hd h⟩
def WAt.pot(r:Mg es)(h:Vo m)(k:Keep [p] H H'):Q4 d es :=
 r.keep k (by simpa using zat r.ob h.1 Gm) (by simpa using zat r.ta.dc h.1 Gm) λe he=>by simpa using zat (r.ta.ro e he) h.1 Gm
inductive IspPlaces(C:Nb)(vs:List V)(H:Hp)(Q:VK):Prop
 |mk (x dx d:Nb) (es:List Ent) (h0:vs=[.ref x]) (h1:WAt H C x dx d es) (h2:∀l,H l=none→Q (.ref l) (upd H l (.lst ((es.map (·.1)).map V.str)))):IspPlaces C vs H Q
def zfz(C:Nb):Sp:=λvs H Q _=>IspPlaces C vs H Q
def refs_perm(h:ws.Perm Ls):∃cI:List Addr,ws=cI.map V.ref∧cI.Perm as:=by
 have key:∀ws:List V,(∀v∈ws,∃a,v=V.ref a)→∃cI:List Addr,ws=cI.map V.ref:=by
  intro ws
  induction ws with
  |nil=>intro _;exact⟨[],rfl⟩
  |cons v t ih =>
   intro hh
   obtain⟨a,rfl⟩:=hh v Qb
   obtain⟨cI,rfl⟩:=ih λv hv=>hh v yJ
   exact⟨a::cI,rfl⟩
 obtain⟨cI,rfl⟩:=key ws λv hv=>by
  obtain⟨a,_,rfl⟩:=Qh.mp (h.mem_iff.mp hv)
  exact⟨a,rfl⟩
 refine⟨cI,rfl,?_⟩
 have:=h.map (λv:V=>match v with | .ref a=>a | _=>0)
 rw[Zj,Zj]at this
 have e:∀l:List Addr,l.map ((λv:V=>match v with | .ref a=>a | _=>0)∘V.ref)=l:=λl=>List.map_id l
 rw[e,e]at this
 exact this
section
variable{P:Nk}{w:Nl}{K:Na}{mg:Nd}{base:No}
def scPlaces:zak ["self"] ["self"] (zai sPlaces):=fsk
def ok_places(F:QD "places" "Web.places" sPlaces f fd)(cW:VB C)(nW:M6 "rounds")(au:mg "list" = none):ZB 1 f fd ["self"] yM:=by
 refine F.okL scPlaces Gn
 obtain⟨x,dx,d,es,rfl,wt,k⟩:=h
 have hx:=wt.ob
 have T:=wt.ta
 refine⟨_,zag (zax (MI Hh au Wj (Hz zi))),?_⟩
 refine⟨xc,x,C,dx,_,xc,hx,cW,nW,rfl,d,xc,.inl T.dc,λl hl=>?_⟩
 rw[zex]
 exact k l hl
end
def zay:∀{as:List α} {bs:List β},YT as bs→∀{i:Nat} (hi:i<as.length),∃ao:i<bs.length,R as[i] bs[i]:=by
 intro as bs r
 induction r with
 |nil=>intro i hi;simp at hi
 | cons h t ih =>
  intro i hi
  cases i with
  |zero=>exact⟨Gf,h⟩
  |succ j =>
   obtain⟨a,b⟩:=ih (i:=j) yu
   exact⟨Gk a,b⟩
section
variable{P:Nk}{w:Nl}{K:Na}{mg:Nd}{base:No}
end
end K21
end
section
namespace L2
open PySem
def zih:KA st (λ_ _ _=>False):=λ_ _ _ _ _ _ h=>h.elim
def pe_tyN(hg:V4 x)(hm:X.mg x=none)(hv:bootBuiltins x=some E8)(hn:x ≠ "__name__" := by decide)(gf:HK=false:=by decide):Z7 Ev (tC (.ty T)):=by
 intro a5 s σ H Q I h
 exact Bw hv ⟨.ty T,H,I,rfl,h⟩ hn gf
end L2
namespace K21
open PySem L2 Wb
abbrev zid:Stmt:=top 34
inductive IspIsName(vs:List V)(H:Hp)(Q:VK):Prop
 |mk (z:Str) (h0:vs=[.str z]) (h1:zcm z) (h2:∀H',Keep [] H H'→Q (.bl true) H'):IspIsName vs H Q
def spIsName:Sp:=λvs H Q _=>IspIsName vs H Q
def nd1:(["sign"]:List Str).Nodup:=by decide +kernel
section
variable{P:Nk}{w:Nl}{K:Na}{mg:Nd}{base:No}
def scIsName:zak ["thing"] ["thing"] (zai zid):=fsk
def ok_isname(F:QD "is_name" "is_name" zid f fd)(hML:mg "MOST_LETTERS" = some (Sl 8 tk))(tj:mg "isinstance" = none)(rS:mg "str" = none)(ae:mg "len" = none)(aW:mg "all" = none):ZB 1 f fd ["thing"] spIsName:=by
 refine F.okL scIsName Gn
 obtain⟨z,rfl,hz,k⟩:=h
 have hu:=zcd hr
 have ar  := sizeLine_eq
 refine⟨_,zad (SM (pt_not (pt_val (zal call_isi_str Hh tj PyProof.Rows.boot_isinstance (ZQ (Hz (pe_tyN (T := "str") rfl rS PyProof.Rows.boot_str)))))))
  (zag (zax (pe_and (pe_chain op_le op_le zah (zal call_len_str Hh ae Yc Sj) (zgj (v:=.int 8) rfl hML ⟨tk,rfl⟩))
   (pe_one (zal (call_all rfl) Hh aW PyProof.Rows.boot_all (zaa (zgi (M:=["sign"]) (ix:=[none]) (mkB scIsName) rfl (pi_str Rj) (λC a5 ex s H=>JA nd1)
      (λC a5 ex s H=>zc2) (λC a5 ex s H=>pe_chain op_le_str op_le_str pe_str Rj pe_str)) zae)))))),?_⟩
 obtain⟨hz1,c9,iz⟩:=hz
 have hz1':1≤z.cps.size:=hz1
 have hz2':z.cps.size≤8:=c9
 refine⟨xc,z,rfl,xc,W0 ?_⟩
 refine⟨xc,z,rfl,(by show z.cps.size≤sizeLine;lia),_,xc,rfl,xc,zbt (HJ (by show(1:Int)≤(z.cps.size:Int);exact zar9 ‹_›)) ?_⟩
 refine⟨_,xc,rfl,xc,zbt (HJ (by show(z.cps.size:Int)≤8;lia)) ?_⟩
 have asc:z.cps.all (· < 128)=true:=by
  rw[Array.all_eq_true]
  intro i hi
  have:=iz z.cps[i] (by rw[Array.mem_toList_iff];exact Array.getElem_mem hi)
  exact decide_eq_true Gg
 refine⟨xc,z,rfl,asc,λi m ys τ H1=>Aj5 (H1=H) (m=z.cps.size-i) (i≤z.cps.size) (ys=List.replicate i Tp) (Ex1 λx0=>τ=[x0]),⟨_,rfl,rfl,RP,rfl,none,rfl⟩,?_⟩
 rintro i m ys τ H1 ⟨rfl,rfl,hi,rfl,x0,rfl⟩
 by_cases ad:i<z.cps.size
 ·refine .inr ⟨ad,by rw [Jz];lia,?_⟩
  rintro y H' ⟨rfl,c,hc,rfl⟩
  obtain⟨h1,h2⟩:=iz c (by rw[Array.mem_toList_iff];exact Array.mem_of_getElem? hc)
  have l1:(!decide ((⟨#[c]⟩:Str).cps.toList<("a" : Str).cps.toList))=true:=by
   rw[Jw,decide_eq_false_iff_not,show("a" : Str).cps.toList=[97] from by decide +kernel]
   show ¬[c]<[97]
   intro h
   have:=List.cons_lt_cons_iff.mp h
   rcases this with q | ⟨_,q⟩
   ·exact zar10 ‹_› ‹_›
   ·exact Ww _ q
  have l2:(!decide (("z" : Str).cps.toList<(⟨#[c]⟩:Str).cps.toList))=true:=by
   rw[Jw,decide_eq_false_iff_not,show("z" : Str).cps.toList=[122] from by decide +kernel]
   show ¬[122]<[c]
   intro h
   have:=List.cons_lt_cons_iff.mp h
   rcases this with q | ⟨_,q⟩
   ·exact zar10 ‹_› ‹_›
   ·exact Ww _ q
  refine⟨xc,_,xc,rfl,xc,zbt l1 ?_⟩
  refine⟨_,xc,rfl,_,?_,rfl,rfl,ad,?_,xc⟩
  ·exact zar1 ‹_›
  ·rw[l2,List.replicate_succ']
 ·have e:i=z.cps.size:=by exact zar3 ‹_› ‹_›
  subst e
  refine .inl ⟨GV,λD hD=>?_⟩
  refine⟨D,MD true,rfl,Gs (by rw[zab,List.map_replicate]),?_⟩
  have:(MD true).all id=true:=by
   rw[Ug];intro b hb;exact(List.mem_replicate.mp hb).2
  rw[this]
  exact k _ (Gx hD)
end
end K21
end
section
namespace L2
open PySem
def lc_at(T:St→Prop)(ys:List V)(hl:ys.length=xs.length)(ha:YM xs)(hn:xs.length≤sizeLine)(h0:T τ)(hs:∀(i:Nat) (hi:i<xs.length) (aK:i<ys.length),∀τ,T τ→∀k:V→St→Hp→Prop,(∀τ2,T τ2→k ys[i] τ2 H)→g xs[i] τ H λ τ2 H2=>te τ2 H2 λy H4=>k y τ2 H4)(q:∀D,H D=none→Q Sz (ZS D TX)):rLC g tAll te Q (K1 a) τ H:=by
 refine⟨λi m zs τ H1=>Aj5 (H1=H) (T τ) (m=xs.length-i) (i≤xs.length) (zs=ys.take i),⟨_,rfl,h0,rfl,RP,rfl⟩,?_⟩
 rintro i m zs τ H1 ⟨rfl,ht,rfl,hi,rfl⟩
 by_cases ad:i<xs.length
 ·refine .inr ⟨⟨xs,xs[i],ha,Qd ad⟩,by rw [Zq];lia,?_⟩
  rintro x H' ⟨rfl,hx⟩
  have gy:=hx xs ha
  rw[Qd ad]at gy
  have pz:xs[i]=x:=Qn gy
  rw[←pz]
  refine hs i ad (by exact zar6 ‹_› ‹_›) τ ht (λy τ2 H4=>∃m',m'<xs.length-i∧Aj5 (H4=H') (T τ2) (m'=xs.length-Hj) (i+1≤xs.length) (ys.take i++[y]=ys.take Hj)) λ τ2 h2=>?_
  exact⟨_,Ha,rfl,h2,rfl,ad,by rw[Ql (by exact zar6 ‹_› ‹_›:i<ys.length)]⟩
 ·have e:i=xs.length:=by exact zar3 ‹_› ‹_›
  refine .inl ⟨⟨xs,ha,Gg⟩,λD hD=>?_⟩
  rw[Qt Gg]
  exact q D hD
end L2
namespace K21
open PySem L2 Wb
structure RwAt(H:Hp)(l:Nb)(as:Nn)(es:List Ent):Prop where
 ls:H l=some HW
 ts:Paired (Hr H) as es
 ro:∀e∈es,H e.2.2=some HU
def RwAt.keep(r:RwAt H l as es)(k:Keep [] H H'):ND es :=
 ⟨k _ _ r.ls Gf,Paired.imp' (λ_ _ h=>k _ _ h Gf) r.ts,λe he=>k _ _ CG Gf⟩
abbrev zf0:Stmt:=top 35
abbrev zd5:Stmt:=top 36
abbrev zic:Stmt:=top 37
inductive zhy(vs:List V)(H:Hp)(Q:VK):Prop
 |mk (l:Nb) (as:Nn) (es:List Ent) (h0:vs=[.ref l]) (h1:RwAt H l as es) (h2:(∀e∈es,e.2.1.length≤100∧zcm e.1∧∀x∈e.2.1,zcm x)) (h3:∀H',Keep [] H H'→Q .non H'):zhy vs H Q
def spNoNames:Sp:=λvs H Q _=>zhy vs H Q
inductive IspTwice(vs:List V)(H:Hp)(Q:VK):Prop
 |mk (l:Nb) (as:Nn) (es:List Ent) (h0:vs=[.ref l]) (h1:RwAt H l as es) (h2:es.length≤60) (h3:(es.map (·.1)).Nodup) (h4:(∀e∈es,e.2.1.length≤100∧e.2.1.Nodup)) (h5:∀H',Keep [] H H'→Q .non H'):IspTwice vs H Q
def spTwice:Sp:=λvs H Q _=>IspTwice vs H Q
inductive IspOneWay(vs:List V)(H:Hp)(Q:VK):Prop
 |mk (l:Nb) (as:Nn) (es:List Ent) (h0:vs=[.ref l]) (h1:RwAt H l as es) (h2:(es.map (·.1)).Nodup) (h3:(∀e∈es,e.1∉e.2.1∧∀x∈e.2.1,∃e'∈es,e'.1=x∧e.1∈e'.2.1)) (h4:∀H',Keep [] H H'→Q .non H'):IspOneWay vs H Q
def spOneWay:Sp:=λvs H Q _=>IspOneWay vs H Q
section
variable{P:Nk}{w:Nl}{K:Na}{mg:Nd}{base:No}
def zep:zak ["rows", "place", "around", "thing"] ["rows"] (zai zf0):=fsk
def ok_nonames(F:QD "refuse_no_names" "refuse_no_names" zf0 f fd)(FN:QD "is_name" "is_name" zid fn fdn)(bN:WK fdn ["thing"] [])(mN:mg "is_name" = some (Go fn))(GN:ZB 1 fn fdn ["thing"] spIsName):ZB 2 f fd ["rows"] spNoNames:=by
 refine F.okL zep Gn
 obtain⟨l,as,es,rfl,R,hok,k⟩:=h
 have hu:=zcd hr
 have ar  := sizeLine_eq
 refine⟨_,zag (Z0 yN (Lz (zam 1 zep.nd) (SX (MQ zep.nd)))
  (zag (Z0 (Iw (K8 (zbi RZ) Rz)) (Di zep.nd)
   (zag (OG (pt_not (pt_val (zcu GN hr rfl mN FN.kp bN .nil zcq SH))) zb))))),?_⟩
 refine⟨xc,l,rfl,⟨_,AJ⟩,zbb (xs:=as.map V.ref) (λi σ H'=>Aj2 (Keep [] H H') (Ex3 λx1 x2 x3=>σ=[EW,x1,x2,x3])) ⟨Keep.refl,none,none,none,rfl⟩ (λi σ H' _ hh=>SqL.of (hh.1 _ _ R.ls Gf)) ?_ ?_⟩
 ·rintro i y σ H1 hx ⟨k1,x1,x2,x3,rfl⟩
  have hi:i<as.length:=by
   have:=(Tl hx).1
   rwa[Qa]at this
  have gS:y=.ref as[i]:=by
   rw[Qo,Qd hi]at hx
   exact(Qn hx).symm
  subst gS
  obtain⟨ao,f9⟩:=zay R.ts hi
  obtain⟨dU,cj,bw⟩:=hok _ Os
  have cc:=k1 _ _ (R.ro _ Os) Gf
  refine⟨as[i],xc,Hy (k1 _ _ f9 Gf),rfl,_,xc,_,xc,rfl,?_⟩
  refine⟨xc,Ib,λq hq=>?_⟩
  have nq:es[i].2.2≠q:=zac cc hq
  refine⟨xc,q,es[i].2.2,_,xc,rfl,zab,(Gv nq cc),(by rw[Qa];show 1+_≤sizeLine;lia),λq2 bY=>?_⟩
  have k2:Keep [] H (upd (QJ q (.lst [.str es[i].1])) q2 (Gw ([V.str es[i].1]++es[i].2.1.map V.str))):=(SQ CO).trans (Gx bY)
  have jq:(upd (QJ q (.lst [.str es[i].1])) q2 (Gw ([V.str es[i].1]++es[i].2.1.map V.str))) q2=some (Gw ((es[i].1::es[i].2.1).map V.str)):=zab
  generalize upd (QJ q (.lst [.str es[i].1])) q2 (Gw ([V.str es[i].1]++es[i].2.1.map V.str))=H2 at k2 jq
  refine⟨q2,rfl,⟨_,Gs jq⟩,zbb (xs:=(es[i].1::es[i].2.1).map V.str) (λj σ H'=>Aj2 (Keep [] H2 H') (Ex3 λx1 x2 x3=>σ=[EW,x1,x2,x3])) ⟨Keep.refl,_,_,_,rfl⟩ (λj σ H' _ hh=>SqL.of (AI jq)) ?_ ?_⟩
  ·rintro j y σ H3 hy ⟨k3,y1,y2,y3,rfl⟩
   obtain⟨z,hz,rfl⟩:=Qh.mp (Yd hy)
   have cY:zcm z:=by
    rcases Qf.mp hz with e | e
    ·rw[e];exact cj
    ·exact bw z e
   refine⟨xc,z,rfl,cY,λH4 k4=>⟨_,rfl,W0 ?_⟩⟩
   exact⟨Lu k4,_,_,xc⟩
  ·rintro σ H3 ⟨k3,y1,y2,y3,rfl⟩
   exact⟨S5 k3,_,_,xc⟩
 ·rintro σ H1 ⟨k1,x1,x2,x3,rfl⟩
  exact k H1 k1
abbrev csTwA:Scope:=scOf (eOf (sAt zd5 0))
abbrev csTwB:Scope:=scOf (aOf 1 (eOf (sAt zd5 1)))
def csTwA_k:csTwA.kind=.function:=by rfl
def csTwA_c:∀y∈csTwA.names,y.2≠.cell:=by decide +kernel
def csTwA_n:∀y∈csTwA.names,y.2=.local→csTwA.names.lookup y.1=some .local:=by decide +kernel
def csTwA_f:∀y∈csTwA.names,y.2=.free→(zai zd5).names.lookup y.1=some .cell∨(zai zd5).names.lookup y.1=some .free:=by decide +kernel
def csTwB_k:csTwB.kind=.function:=by rfl
def csTwB_c:∀y∈csTwB.names,y.2≠.cell:=by decide +kernel
def csTwB_n:∀y∈csTwB.names,y.2=.local→csTwB.names.lookup y.1=some .local:=by decide +kernel
def csTwB_f:∀y∈csTwB.names,y.2=.free→(zai zd5).names.lookup y.1=some .cell∨(zai zd5).names.lookup y.1=some .free:=by decide +kernel
def ndPA:(["place", "around"]:List Str).Nodup:=by decide +kernel
def scTwice:zak ["rows", "places", "names"] ["rows"] (zai zd5):=fsk
def noB(h1:sc.kind=.function)(h2:∀y∈sc.names,y.2≠.cell)(h3:∀y∈sc.names,y.2=.local→sc.names.lookup y.1=some .local)(h4:∀y∈sc.names,y.2=.free→X.env.scope.names.lookup y.1=some .cell∨X.env.scope.names.lookup y.1=some .free)(h5:n=M.length)(h6:M.Nodup):W5 (FD none):=⟨h1,h2,h3,h4,by rw [Jz,h5],h6,fun j i x _ h=>by
   have:=Yd h
   have:=(List.mem_replicate.mp this).2
   cases this⟩
def pg_tupK(hK:X.K=K)(hc:X.calm=true)(h:Fd es t)(hn:(Tj es).length=n:=by rfl)(aq:(Tj es).findIdx? (·.1)=none:=by rfl):M1 (gTup K n t):=hK▸zcj hc h hn aq
def ok_twice(F:QD "refuse_twice" "refuse_twice" zd5 f fd)(ae:mg "len" = none)(rX:mg "set" = none):ZB 1 f fd ["rows"] spTwice:=by
 refine F.okL scTwice Gn
 obtain⟨l,as,es,rfl,R,f7,ay,hok,k⟩:=h
 have hu:=zcd hr
 have ar  := sizeLine_eq
 refine⟨_,zad (ps_lc (i:=1) (M:=["place", "around"]) (ix:=[none,none]) scTwice.nd rfl rfl (noB (n:=2) csTwA_k csTwA_c csTwA_n csTwA_f rfl ndPA) rfl yN
   (λC a5 ex s H=>pg_tupK (K:=K) (n:=2) rfl rfl OR)
   (λC a5 ex s H=>zc2) (λC a5 ex s H=>pv 0) rfl)
  (zag (Z0 (zao (K8 (zbi RZ) (zgi (M:=["place", "around"]) (ix:=[none,none]) (noB (n:=2) csTwB_k csTwB_c csTwB_n csTwB_f rfl ndPA) rfl yN
   (λC a5 ex s H=>pg_tupK (K:=K) (n:=2) rfl rfl OR)
   (λC a5 ex s H=>zc2) (λC a5 ex s H=>pv 1)))) (MQ scTwice.nd)
   (zag (zby (FE (zal zjh Hh ae Yc (LA (zbr (zjd rfl) Hh rX PyProof.Rows.boot_set RV)))
    (UK Hh ae Yc RV) RE) zb zau)))),?_⟩
 have bo:as.length=es.length:=Zy R.ts
 refine⟨xc,l,rfl,⟨_,AJ⟩,lc_at (xs:=as.map V.ref) (λ τ=>∃x0 x1,τ=[x0,x1]) ((es.map (·.1)).map V.str) (by rw[Qa,Qa,Qa,bo]) AJ RQ ⟨none,none,rfl⟩ ?_ (λD hD=>?_)⟩
 ·rintro i hi aK τ ⟨x0,x1,rfl⟩ kk hk
  rw[Qa]at hi
  obtain⟨ao,f9⟩:=zay R.ts hi
  rw[Zl]
  refine⟨as[i],xc,Hy f9,rfl,_,xc,_,xc,rfl,xc,?_⟩
  have e:((es.map (·.1)).map V.str)[i]=V.str es[i].1:=by rw[Zl,Zl]
  rw[e]at hk
  exact hk _ ⟨_,_,rfl⟩
 ·have k1:Keep [] H (ZS D Gr):=Keep.new hD
  have hD1:(ZS D Gr) D=some Gr:=zab
  generalize ZS D Gr=H1 at k1 hD1
  have R1:=R.keep k1
  refine⟨xc,Ib,λq hq=>?_⟩
  have k2:Keep [] H1 (QJ q (.lst [Sz])):=Keep.new hq
  have bY:(QJ q (.lst [Sz])) q=some (.lst [Sz]):=zab
  generalize QJ q (.lst [Sz])=H2 at k2 bY
  have R2:=R1.keep k2
  refine⟨xc,l,rfl,⟨_,SqL.of R2.ls⟩,lc_at (xs:=as.map V.ref) (λ τ=>∃x0 x1,τ=[x0,x1]) (es.map λe=>V.ref e.2.2) (by rw[Qa,Qa,bo]) (SqL.of R2.ls) RQ ⟨none,none,rfl⟩ ?_ (λD2 dk=>?_)⟩
  ·rintro i hi aK τ ⟨x0,x1,rfl⟩ kk hk
   rw[Qa]at hi
   obtain⟨ao,f9⟩:=zay R2.ts hi
   rw[Zl]
   refine⟨as[i],xc,Hy f9,rfl,_,xc,_,xc,rfl,xc,?_⟩
   rw[Zl]at hk
   exact hk _ ⟨_,_,rfl⟩
  ·have k3:Keep [] H2 (QA D2 (.lst (es.map fun e=>V.ref e.2.2))):=Keep.new dk
   have c8:(QA D2 (.lst (es.map λe=>V.ref e.2.2))) D2=some (.lst (es.map λe=>V.ref e.2.2)):=zab
   generalize QA D2 (.lst (es.map λe=>V.ref e.2.2))=H3 at k3 c8
   refine⟨q,D2,_,xc,rfl,Ad bY,c8,(by rw[Qa];show 1+_≤sizeLine;lia),λq4 pO=>?_⟩
   have k4:Keep [] H3 (WU q4 (.lst ([La D]++es.map λe=>V.ref e.2.2))):=Keep.new pO
   have jo:(WU q4 (.lst ([La D]++es.map λe=>V.ref e.2.2))) q4=some (.lst ([La D]++es.map λe=>V.ref e.2.2)):=zab
   generalize WU q4 (.lst ([La D]++es.map λe=>V.ref e.2.2))=H4 at k4 jo
   have fh:Keep [] H H4:=((SQ k2).trans k3).trans k4
   refine⟨q4,rfl,⟨_,Gs jo⟩,zbb (xs:=[La D]++es.map λe=>V.ref e.2.2) (λi σ H'=>Aj2 (Keep [] H4 H') (Ex2 λx1 x2=>σ=[EW,x1,x2])) ⟨Keep.refl,_,_,rfl⟩ (λi σ H' _ hh=>SqL.of (AI jo)) ?_ ?_⟩
   ·rintro i y σ H5 hy ⟨k5,x1,x2,rfl⟩
    obtain⟨a,zs,rfl,ha,cY,bV⟩:∃(a:Nb) (zs:Ng),y=V.ref a∧H5 a=some Cg∧zs.Nodup∧zs.length≤100:=by
     rcases Qk.mp (Yd hy) with z | z
     ·refine ⟨D,es.map (·.1),LU z,?_,ay,by rw [Qa];exact Ze f7 Gj⟩
      exact k5 _ _ (k4 _ _ (Ad (Ix hD1)) Gf) Gf
     ·obtain ⟨e,he,rfl⟩:=Qh.mp z
      exact⟨e.2.2,e.2.1,rfl,k5 _ _ (fh _ _ (NB he) Gf) Gf,(hok e he).2,(hok e he).1⟩
    refine⟨xc,a,zs,rfl,Gs ha,cY,Gg,λt ht=>?_⟩
    have qV:a≠t:=zac ha ht
    refine⟨t,zs,rfl,zab,Gg,xc,a,xc,Se (by rw[zaf qV];exact ha),_,xc,rfl,xc,zbk (Sc RQ) ?_⟩
    exact⟨CK Tq,_,xc⟩
   ·rintro σ H5 ⟨k5,x1,x2,rfl⟩
    exact k H5 (fh.trans k5)
end
end K21
end
section
namespace K21
open PySem L2 Wb
abbrev sLeast:Stmt:=top 39
inductive IspLeast(vs:List V)(H:Hp)(Q:VK):Prop
 |mk (a:Nb) (zs:Ng) (h0:vs=[.ref a]) (h1:H a=some (.lst (zs.map V.str))) (h2:zs.length≤100) (h3:∀(t:Nb) (j:Nat) (H':Hp),j≤zs.length→H' t=some (.tup ((zs.drop j++zs.take j).map V.str))→H t=none→Keep [] H H'→Q (.ref t) H'):IspLeast vs H Q
def spLeast:Sp:=λvs H Q _=>IspLeast vs H Q
def paired_map{α β γ:Type}{R:α→γ→Prop}{f:β→γ}:∀{as:List α} {bs:List β},Paired (λa b=>R a (f b)) as bs→YT as (bs.map f):=by
 intro as bs r
 induction r with
 |nil=>exact .nil
 |cons h t ih=>exact .cons h ih
section
variable{P:Nk}{w:Nl}{K:Na}{mg:Nd}{base:No}
def zeo:zak ["rows", "rounds", "one", "around", "other"] ["rows"] (zai zic):=fsk
def ok_oneway{f:Nb}{fd:Nv}(F:QD "refuse_one_way" "refuse_one_way" zic f fd)(cr:mg "dict" = none):ZB 1 f fd ["rows"] spOneWay:=by
 refine F.okL zeo Gn
 obtain⟨l,as,es,rfl,R,ay,hok,k⟩:=h
 have hu:=zcd hr
 have ar  := sizeLine_eq
 refine⟨_,zad (MR zeo.nd (zbr (zha rfl) Hh cr Xm Sj))
  (zag (Z0 yN (Lz (MQ zeo.nd) (SX (Di zeo.nd)))
   (zag (Z0 (Iw RA) (MS zeo.nd)
    (zag (OG (PW.pt (pw_or (Bj Rz RE) (pw_or1 (Fk Rz (pe_dget2 hu HQ Rx So ⟨rfl,rfl,rfl,rfl⟩) rfl)))) zb)))))),?_⟩
 have hps:(es.map λe:Ent=>(e.1,IQ)).map (·.1)=es.map (·.1):=by rw[Zj];rfl
 refine⟨xc,l,as,es.map λe=>(e.1,IQ),rfl,R.ls,paired_map R.ts,Gp hps ay,λd hd=>?_⟩
 have hpd:((es.map λe:Ent=>(e.1,IQ)).map λp=>((Sum.inr p.1:Key),p.2))=eWV es:=by rw[Zj];rfl
 rw[hpd]
 have k1:Keep [] H (ZS d G'):=Keep.new hd
 have li:(ZS d G') d=some G':=zab
 generalize ZS d G'=H1 at k1 li
 have R1:=R.keep k1
 refine⟨xc,l,rfl,⟨_,SqL.of R1.ls⟩,zbb (xs:=as.map V.ref) (λi σ H'=>Aj2 (Keep [] H1 H') (Ex3 λx2 x3 x4=>σ=[EW,Ta,x2,x3,x4])) ⟨Keep.refl,none,none,none,rfl⟩ (λi σ H' _ hh=>SqL.of (hh.1 _ _ R1.ls Gf)) ?_ ?_⟩
 ·rintro i y σ H2 hx ⟨k2,x2,x3,x4,rfl⟩
  have hi:i<as.length:=by
   have:=(Tl hx).1
   rwa[Qa]at this
  have gS:y=.ref as[i]:=by
   rw[Qo,Qd hi]at hx
   exact(Qn hx).symm
  subst gS
  obtain⟨ao,f9⟩:=zay R1.ts hi
  obtain⟨cj,bw⟩:=hok _ Os
  have cc:=k2 _ _ (R1.ro _ Os) Gf
  refine⟨as[i],xc,Hy (Ix f9),rfl,_,xc,_,xc,rfl,?_⟩
  refine⟨xc,es[i].2.2,rfl,⟨_,Gs cc⟩,zbb (xs:=es[i].2.1.map V.str) (λj σ H'=>Aj2 (Keep [] H2 H') (Ex1 λx4=>σ=[EW,Ta,Gz (.str es[i].1),Gz (.ref es[i].2.2),x4])) ⟨Keep.refl,_,rfl⟩ (λj σ H' _ hh=>SqL.of (AI cc)) ?_ ?_⟩
  ·rintro j y σ H3 hy ⟨k3,y4,rfl⟩
   obtain⟨z,hz,rfl⟩:=Qh.mp (Yd hy)
   obtain⟨e',aU,q5,aB⟩:=bw z hz
   have ax:z≠es[i].1:=λq=>cj (q▸hz)
   have oh:=k3 _ _ (Ix li) Gf
   refine⟨xc,xc,rfl,xc,zbk (decide_eq_false (λq=>ax (by injection q))) ?_⟩
   refine⟨xc,xc,d,rfl,.inl ⟨_,Rf oh⟩,xc,TC,λq hq=>?_⟩
   have ndq:d≠q:=zac oh hq
   have tO:(WU q Hk) d=some G':=by rw[zaf ndq];exact oh
   have mD:(WU q Hk) e'.2.2=some (Gw (e'.2.1.map V.str)):=by
    have h3:=k3 _ _ (Ix (R1.ro e' aU)) Gf
    rw[zaf (zac h3 hq)];exact h3
   have dg:=DGet.k (k:=Sum.inr z) tO
   rw[←q5,zb6 ay aU,q5]at dg
   refine⟨_,dg,e'.2.2,xc,Se mD,rfl,zcl _,xc,?_⟩
   refine zbk (by rw[if_pos rfl,zfg,decide_eq_true aB];rfl) ?_
   exact⟨Lu CO,xc⟩
  ·rintro σ H3 ⟨k3,y4,rfl⟩
   exact⟨S5 k3,_,_,xc⟩
 ·rintro σ H2 ⟨k2,x2,x3,x4,rfl⟩
  exact k H2 (SQ k2)
def scLeast:zak ["around", "at"] ["around"] (zai sLeast):=fsk
def ok_least(F:QD "from_least" "from_least" sLeast f fd)(jH:mg "min" = none)(rM:mg "tuple" = none):ZB 1 f fd ["around"] spLeast:=by
 refine F.okL scLeast Gn
 obtain⟨a,zs,rfl,ha,hz,k⟩:=h
 have ar  := sizeLine_eq
 refine⟨_,zad (MR scLeast.nd (pe_ifExp (zer Rj (by intro _;rfl)) (Vq Rj (LA (zal (zje rfl) Hh jH PyProof.Rows.boot_min Sj))) zah))
  (zag (zax (zbr zjc Hh rM PyProof.Rows.boot_tuple (Hz (K8 (JB (zb2 Ee) zct) (JB zct (zb2 Ee))))))),?_⟩
 have aA:(zs.map V.str).length=zs.length:=Qa ..
 refine⟨xc,_,Rf ⟨_,Gs ha,rfl⟩,?_⟩
 by_cases rA:zs=[]
 ·refine zbk (by rw [rA];rfl) ?_
  have h0:0≤zs.length:=Zb _
  refine⟨xc,xc,xc,a,xc,Gs ha,λp1 h1=>?_⟩
  have n1:a≠p1:=zac ha h1
  refine⟨xc,xc,xc,a,xc,Gs (by rw[zaf n1];exact ha),λp2 h2=>?_⟩
  have du:p1≠p2:=zac (o:=_) zab h2
  refine⟨p1,p2,_,xc,rfl,Ik,zab,?_,λp3 h3=>?_⟩
  ·have q1:=Bk (Gz (0:Int)) none
   have q2:=Bk none (Gz (0:Int))
   rw[aA]at q1 q2
   show _+_≤sizeLine
   lia
  have ecut:YL (Gz (0:Int)) none++YL none (Gz (0:Int))=(zs.drop (0:Nat)++zs.take (0:Nat)).map V.str:=by
   show YL (Gz (((0:Nat)):Int)) none++YL none (Gz (((0:Nat)):Int))=_
   rw[zf6 (Gp aA h0),zht (Gp aA h0),Qp,Jk,Ut]
  rw[ecut]
  refine⟨p3,xc,.inl ⟨Th,λt ht=>?_⟩⟩
  have kk:Keep [] H _:=(((Gx h1).trans CP).trans EM).trans (Keep.new (o:=.tup ((zs.drop (0:Nat)++zs.take (0:Nat)).map V.str)) ht)
  exact k t (0:Nat) _ h0 zab (zaz (xs:=[]) (((Gx h1).trans CP).trans EM) ht Gf) kk
 ·refine zbt (by cases hh:zs with
   |nil=>exact absurd hh rA
   |cons _ _=>rfl) ?_
  refine⟨xc,HX ha,xc,a,zs,rfl,Gs ha,rA,λz cz _=>?_⟩
  obtain⟨i1,i2⟩:=ziw cz
  have hj:zs.idxOf z≤zs.length:=Wu (idx_lt cz)
  refine⟨a,_,_,xc,rfl,ha,rfl,zcl _,i1,i2,?_⟩
  refine⟨xc,xc,xc,a,xc,Gs ha,λp1 h1=>?_⟩
  have n1:a≠p1:=zac ha h1
  refine⟨xc,xc,xc,a,xc,Gs (by rw[zaf n1];exact ha),λp2 h2=>?_⟩
  have du:p1≠p2:=zac (o:=_) zab h2
  refine⟨p1,p2,_,xc,rfl,Ik,zab,?_,λp3 h3=>?_⟩
  ·have q1:=Bk (Gz (SO:Int)) none
   have q2:=Bk none (Gz (SO:Int))
   rw[aA]at q1 q2
   show _+_≤sizeLine
   lia
  have ecut:YL (Gz (SO:Int)) none++YL none (Gz (SO:Int))=(zs.drop SO++zs.take SO).map V.str:=by
   rw[zf6 Ch,zht Ch,Qp,Jk,Ut]
  rw[ecut]
  refine⟨p3,xc,.inl ⟨Th,λt ht=>?_⟩⟩
  have kk:Keep [] H _:=(((Gx h1).trans CP).trans EM).trans (Keep.new (o:=.tup ((zs.drop SO++zs.take SO).map V.str)) ht)
  exact k t SO _ hj zab (zaz (xs:=[]) (((Gx h1).trans CP).trans EM) ht Gf) kk
end
end K21
end
section
namespace Wb
section lk
variable{β:Type}
def Lk(f:β→β):β→List β→β→Prop
 |s,[],e=>f s=e
 |s,x::t,e=>f s=x∧Vr x t e
def zgq:∀{A:List β} {s:β},Vr s (A++x::B) e↔Vr s A x∧Vr x B e:=by
 intro A
 induction A with
 |nil=>intro s;exact Iff.rfl
 |cons a t ih =>
  intro s
  show f s=a∧Vr a (t++x::B) e↔(f s=a∧Vr a t x)∧Vr x B e
  rw[ih,and_assoc]
def lk_congr:∀{t:List β} {s:β},(∀y,y=s∨y∈t→g y=f y)→K9 e→Lk g s t e:=by
 intro t
 induction t with
 |nil=>intro s h k;exact(h s Hf).trans k
 |cons a t ih =>
  intro s h k
  refine⟨(h s Hf).trans k.1,ih (λy hy=>h y (.inr ?_)) k.2⟩
  rcases hy with z | z
  ·rw[z];exact Qb
  ·exact QK z
def Cyc(f:β→β)(c:List β):Prop:=∃s t,c=s::t∧K9 s
def zc3(h:Cyc f (A++x::B)):Vr x (B++A) x:=by
 obtain⟨s,t,e,k⟩:=h
 cases A with
 |nil =>
  cases e
  rw[Zx];exact k
 |cons a A' =>
  cases e
  obtain⟨k1,k2⟩:=zgq.mp k
  exact zgq.mpr ⟨k2,k1⟩
def ze1(h:∀y∈c,g y=f y)(k:Cyc f c):Cyc g c:=by
 obtain⟨s,t,e,k⟩:=k
 subst e
 exact⟨s,t,rfl,lk_congr (λy hy=>h y Su) k⟩
end lk
section nx
variable{α:Type}[DecidableEq α]
def za1{A B:List α}{w:α}(h:w∉A):(B++A++[w]).head?=some (nxt (A++w::B) w):=by
 have hi:(A++w::B).idxOf w=A.length:=by
  rw[List.idxOf_append,if_neg h,List.idxOf_cons_self];lia
 unfold nxt
 rw[hi,Qz,Qu]
 cases B with
 |nil =>
  have e:(A.length+1)%(A.length+(([]:List α).length+1))=0:=by simp
  rw[e]
  cases A with
  |nil=>rfl
  |cons a t=>rfl
 | cons b t =>
  have e:(A.length+1)%(A.length+((b::t).length+1))=A.length+1:=Nat.mod_eq_of_lt (GK Qu)
  rw[e]
  have:(A++w::b::t).getD (A.length+1) w=b:=by
   rw[Zd,Kn (by exact DH _)]
   have:A.length+1-A.length=1:=by lia
   rw[this];rfl
  rw[this];rfl
def zbu{zs:List α}{c:α}(h:c∈zs)(nd:zs.Nodup):∃A B,zs=A++c::B∧c∉A∧c∉B:=by
 obtain⟨A,B,e⟩:=Yl h
 refine⟨A,B,e,?_,?_⟩
 ·rw [e,Zc] at nd
  exact λz=>nd.2.2 _ z _ Qb rfl
 ·rw [e,Zc,Qr] at nd
  exact nd.2.1.1
def zc9{A B:List α}{c n:α}(h:c∉A):ins (A++c::B) (Gz c) n=A++c::n::B:=by
 have hi:(A++c::B).idxOf c=A.length:=by
  rw[List.idxOf_append,if_neg h,List.idxOf_cons_self];lia
 show(A++c::B).take ((A++c::B).idxOf c+1)++n::(A++c::B).drop ((A++c::B).idxOf c+1)=_
 rw[hi]
 have e1:(A++c::B).take (A.length+1)=A++[c]:=by
  rw[List.take_append,Qt (by exact DH _)]
  have:A.length+1-A.length=1:=by lia
  rw[this];rfl
 have e2:(A++c::B).drop (A.length+1)=B:=by
  rw[List.drop_append,Ud (by exact DH _)]
  have:A.length+1-A.length=1:=by lia
  rw[this];rfl
 rw[e1,e2,Qx];rfl
variable{zs:List α}{c n:α}
def zds(hc:c∈zs)(nd:zs.Nodup){w:α}:w∈UX n↔w=n∨w∈zs:=by
 obtain⟨A,B,rfl,h1,h2⟩:=NE nd
 rw[zc9 h1]
 simp only[Qk,Qf]
 constructor
 ·rintro (h | h | h | h)
  ·exact .inr IW
  ·exact .inr (OS IW)
  ·exact .inl h
  ·exact .inr zT
 ·rintro (h | h | h | h)
  ·exact .inr (OS IW)
  ·exact .inl h
  ·exact .inr IW
  ·exact .inr zT
def zit(hc:c∈zs)(nd:zs.Nodup):(UX n).length=zs.length+1:=by
 obtain⟨A,B,rfl,h1,h2⟩:=NE nd
 rw[zc9 h1]
 simp only[Qz,Qu];lia
def nd_ins(hc:c∈zs)(nd:zs.Nodup)(hn:n∉zs):(UX n).Nodup:=by
 obtain⟨A,B,rfl,h1,h2⟩:=NE nd
 rw[zc9 h1]
 rw[Zc,Qr]at nd
 rw[Qk,Qf,not_or,not_or]at hn
 obtain⟨nA,⟨ncB,nB⟩,nAB⟩:=nd
 rw[Zc,Qr,Qr]
 refine⟨nA,⟨?_,hn.2.2,nB⟩,λa ha b hb=>?_⟩
 ·rw[Qf,not_or];exact⟨λe=>hn.2.1 e.symm,ncB⟩
 ·rcases Qf.mp hb with z | z
  ·rw[z];exact nAB a ha c Qb
  ·rcases Qf.mp z with y | y
   ·rw[y];exact λe=>hn.1 (e▸ha)
   ·exact nAB a ha b (QK y)
def zeu(hc:c∈zs)(nd:zs.Nodup):DR c=n:=by
 obtain⟨A,B,rfl,h1,h2⟩:=NE nd
 rw[zc9 h1]
 have k:=za1 (B:=n::B) h1
 exact(Qn k).symm
def zet(hc:c∈zs)(nd:zs.Nodup)(hn:n∉zs):DR n=BG c:=by
 obtain⟨A,B,rfl,h1,h2⟩:=NE nd
 rw[zc9 h1]
 rw[Qk,Qf,not_or,not_or]at hn
 have e:A++c::n::B=(A++[c])++n::B:=by rw[Qx];rfl
 have sJ:n∉A++[c]:=by
  rw[Qk,not_or,Qc];exact⟨hn.1,hn.2.1⟩
 have k1:=za1 (B:=B) sJ
 have k2:=za1 (B:=B) h1
 rw[←e]at k1
 refine Qn (k1.symm.trans (Eq.trans ?_ k2))
 cases B with
 |cons b t=>rfl
 |nil=>cases A with
  |nil=>rfl
  |cons a t=>rfl
def zdq(hc:c∈zs)(nd:zs.Nodup)(hn:n∉zs){w:α}(hw:w∈zs)(rG:w≠c):DR w=BG w:=by
 obtain⟨A,B,rfl,h1,h2⟩:=NE nd
 rw[zc9 h1]
 rw[Zc,Qr]at nd
 obtain⟨nA,⟨ncB,nB⟩,nAB⟩:=nd
 rw[Qk,Qf,not_or,not_or]at hn
 rcases Qk.mp hw with h | h
 ·obtain ⟨A1,A2,rfl,g1,g2⟩:=zbu h nA
  have k1:=za1 (A:=A1) (B:=A2++c::n::B) g1
  have k2:=za1 (A:=A1) (B:=A2++c::B) g1
  rw[Qx,Ws,Qx,Ws]
  refine Qn (k1.symm.trans (Eq.trans ?_ k2))
  cases A2<;>rfl
 ·rcases Qf.mp h with z | z
  ·exact absurd z rG
  ·obtain ⟨B1,B2,rfl,g1,g2⟩:=zbu z nB
   have hwA:w∉A:=λq=>nAB _ q _ (QK z) rfl
   have dy:w≠n:=λq=>hn.2.2 (q▸z)
   have m1:w∉A++c::n::B1:=by
    simp only[Qk,Qf,not_or];exact⟨hwA,rG,dy,g1⟩
   have m2:w∉A++c::B1:=by
    simp only[Qk,Qf,not_or];exact⟨hwA,rG,g1⟩
   have k1:=za1 (B:=B2) m1
   have k2:=za1 (B:=B2) m2
   have e1:A++c::n::(B1++w::B2)=(A++c::n::B1)++w::B2:=by rw[Qx];rfl
   have e2:A++c::(B1++w::B2)=(A++c::B1)++w::B2:=by rw[Qx];rfl
   rw[e1,e2]
   refine Qn (k1.symm.trans (Eq.trans ?_ k2))
   cases B2 with
   |cons b t=>rfl
   |nil=>cases A<;>rfl
def nxt_rot(nd:zs.Nodup)(k:Nat){w:α}(hw:w∈zs):nxt (zs.drop k++zs.take k) w=BG w:=by
 obtain⟨A,B,rfl,h1,h2⟩:=zbu hw nd
 have k2:=za1 (B:=B) h1
 by_cases hk:k≤A.length
 ·have e:(A++w::B).drop k++(A++w::B).take k=A.drop k++w::(B++A.take k):=by
   rw[List.drop_append,List.take_append]
   have:k-A.length=0:=by lia
   rw[this,List.drop_zero,List.take_zero,Zx,Qx];rfl
  have k1:=za1 (A:=A.drop k) (B:=B++A.take k) (λz=>h1 (Jc z))
  rw[e]
  refine Qn (k1.symm.trans (Eq.trans ?_ k2))
  rw[Qx B,Wc]
 ·have e:(A++w::B).drop k++(A++w::B).take k=(B.drop (k - A.length - 1)++A)++w::B.take (k - A.length - 1):=by
   rw[List.drop_append,List.take_append,Ud Gg,Qt Gg]
   have:k-A.length=(k-A.length-1)+1:=by lia
   conv=>lhs;rw[this]
   rw[List.drop_succ_cons,List.take_succ_cons,Wy,Qx]
  have k1:=za1 (A:=B.drop (k-A.length-1)++A) (B:=B.take (k-A.length-1)) (λz=>by
   rcases Qk.mp z with y | y
   ·exact h2 (Jc y)
   ·exact h1 y)
  rw[e]
  refine Qn (k1.symm.trans (Eq.trans ?_ k2))
  rw[←Qx,Wc]
end nx
section
variable{α:Type}[DecidableEq α]
def st(r:α→List α)(s:α×α):α×α:=(s.2,nxt (r s.2) s.1)
inductive Conn(r:α→List α)(x:α):α→Prop
 |refl:Conn r x x
 |step {y z:α}:Conn r x y→z∈r y→Conn r x z
def Conn.trans{r:α→List α}{x y z:α}(a:WV y)(b:Conn r y z):WV z:=by
 induction b with
 |refl=>exact a
 |step _ h ih=>exact .step ih h
def Conn.mono(h:∀x y,y∈r x→y∈r' x)(a:WV y):Y0 x y:=by
 induction a with
 |refl=>exact .refl
 |step _ hz ih=>exact .step ih (h _ _ hz)
def wt(ns:List α)(r:α→List α)(a9:α→α)(t:α):Int:=(ns.map λx=>if a9 x=t then 2+(if r x=[] then 2 else 0)-((r x).length:Int) else 0).sum
def ct(cs:xa (α×α))(a9:α→α)(t:α):Int:=(cs.map λc=>if(c.any λs=>decide (a9 s.1=t))=true then(2:Int) else 0).sum
structure Cert(ns:List α)(r:α→List α)(cs:List (List (α×α)))(a9:α→α):Prop where
 nd:ns.Nodup
 ro:∀x,x∉ns→r x=[]
 rn:∀x,(r x).Nodup
 ir:∀x,x∉r x
 sy:∀x y,y∈r x→x∈r y
 cf:cs.flatten.Nodup
 cm:∀s,s∈cs.flatten↔s.1∈r s.2
 cy:∀c∈cs,Cyc (st r) c
 ln:∀x∈ns,a9 x∈ns
 la:∀x y,y∈r x→a9 y=a9 x
 co:∀x∈ns,∀y∈ns,a9 x=a9 y→WV y
 eu:∀x∈ns,WP Oa+WN Oa=4
variable{ns:List α}{r r':α→List α}{cs:List (List (α×α))}{a9:α→α}
def Cert.inn(C:QG a9){x y:α}(h:y∈r x):x∈ns:=Jg λz=>by rw[Mh z]at h;cases h
def Cert.inn'(C:QG a9){x y:α}(h:y∈r x):y∈ns:=C.inn (Dj h)
def ze4{g g':α→Int}:∀ {l:List α},l.Nodup→a∈l→(∀ x∈l,x≠a→g' x=g x)→(CF g').sum=(CF g).sum+(g' a - g a):=by
 intro l
 induction l with
 |nil=>intro _ h;cases h
 | cons b t ih =>
  intro nd h e
  rw[Qr]at nd
  rw[Qm,Qm,Zn,Zn]
  by_cases hb:b=a
  ·have:(t.map g').sum=(t.map g).sum:=by
    congr 1
    exact Zz λx hx=>e x Lf λz=>nd.1 (by rw[hb,←z];exact hx)
   rw[this,hb];lia
  ·have h':a∈t:=by
    rcases Qf.mp h with z | z
    ·exact absurd z.symm hb
    ·exact z
   rw[ih nd.2 h' λx hx=>e x Lf,e b Qb hb];lia
def zb4{β:Type}{g g':β→Int}{l:List β}(h:∀x∈l,g' x=g x):(CF g').sum=(CF g).sum:=by
 congr 1;exact Zz h
def zja(C:QG a9){N R:List (Sg (α×α))}{c0 news:List (α×α)}(hR:∀c∈R,c∈cs)(bQ:cs.flatten.Perm (c0++R.flatten))(hN:N.flatten.Perm (news++c0))(ay:news.Nodup)(db:∀s∈news,s.1∉r s.2)(hmem:∀s:α×α,s.1∈r' s.2↔s∈news∨s.1∈r s.2)(oj:∀c∈N,UF c)(aq:∀s:α×α,s.1∈r s.2→s∉c0→st r' s=BO s) :
  (N++R).flatten.Nodup∧(∀s,s∈(N++R).flatten↔s.1∈r' s.2)∧∀c∈N++R,UF c:=by
 have hp:(N++R).flatten.Perm (news++cs.flatten):=by
  rw[Wm]
  refine(MH hN).trans ?_
  rw[Qx]
  exact V' bQ.symm
 refine⟨?_,λs=>?_,λc hc=>?_⟩
 ·rw [hp.nodup_iff,Zc]
  exact⟨ay,C.cf,λa ha b hb e=>db a ha (by rw[e];exact(EN b).mp hb)⟩
 ·rw[hp.mem_iff,Qk,hmem,C.cm]
 ·rcases Qk.mp hc with z | z
  ·exact oj c z
  ·refine ze1 (fun y hy=>?_) (Bl (hR c z))
   have hyR:y∈R.flatten:=Zu.mpr ⟨c,z,hy⟩
   refine aq y ((EN y).mp (bQ.mem_iff.mpr (WC hyR))) λpq=>?_
   have:=bQ.nodup_iff.mp C.cf
   rw[Zc]at this
   exact this.2.2 y pq y hyR rfl
def zdw{β:Type}{g:β→Int}:∀{l:List β},(∀x∈l,g x=0)→(CF g).sum=0:=by
 intro l
 induction l with
 |nil=>intro _;rfl
 |cons a t ih =>
  intro h
  rw[Qm,Zn,h a Qb,ih λx hx=>h x Lf];rfl
def Cert.inc(C:QG a9){c:List (α×α)}(hc:c∈cs){s:α×α}(hs:s∈c):s.1∈r s.2:=(EN s).mp (AM ⟨c,hc,hs⟩)
def ct_lab{ah:α→α}{t:α}(h:∀c∈cs,∀s∈c,ah s.1=a9 s.1):ct cs ah t=WN t:=by
 refine zb4 λc hc=>?_
 have:(c.any λs=>decide (ah s.1=t))=c.any λs=>decide (a9 s.1=t):=by
  rw[Yw,Yb,Yb]
  constructor
  ·rintro⟨s,hs,e⟩;exact⟨s,hs,by rwa[h c hc s hs]at e⟩
  ·rintro⟨s,hs,e⟩;exact⟨s,hs,by rw[h c hc s hs];exact e⟩
 rw[this]
def cert_new(C:QG a9){x:α}(hx:x∉ns){ah:α→α}(hl:∀y∈ns,ah y=a9 y)(bx:ah x=x):Cert (ns++[x]) r cs ah:=by
 have hrx:r x=[]:=Mh hx
 have ne:∀{y},y∈ns→y≠x:=λ{y} hy e=>hx (e▸hy)
 have aB:∀c∈cs,∀s∈c,s.1∈ns:=λc hc s hs=>C.inn' yO
 have lj:∀t,ct cs ah t=WN t:=λt=>ct_lab λc hc s hs=>hl _ (aB c hc s hs)
 have lx:∀y∈ns,a9 y≠x:=λy hy e=>hx (e▸C.ln y hy)
 have tQ:WN x=0:=zdw λc hc=>if_neg λz=>by
  obtain⟨s,hs,e⟩:=Yb.mp z
  exact lx _ (aB c hc s hs) (SI e)
 have hw:∀t,wt (ns++[x]) r ah t=WP t+if x=t then 4 else 0:=λt=>by
  unfold wt
  rw[Qp,List.sum_append,Qm,Xo,Zn,List.sum_nil]
  congr 1
  ·exact zb4 λz hz=>by rw[hl z hz]
  ·rw[bx,hrx];simp
 refine⟨?_,λy hy=>C.ro y λz=>hy (YG z),C.rn,C.ir,C.sy,C.cf,C.cm,C.cy,λy hy=>?_,λy z hz=>?_,λy hy z hz e=>?_,λy hy=>?_⟩
 ·rw [Zc]
  exact⟨C.nd,Cr ⟨Gf,Zm⟩,λa ha b hb=>by rw[Qc.mp hb];exact ne ha⟩
 ·rcases Qk.mp hy with h | h
  ·rw[hl y h];exact YG (C.ln y h)
  ·rw[Qc.mp h,bx];exact WC Qb
 ·rw[hl _ (L5 hz),hl _ (EO hz)];exact C.la y z hz
 ·rcases Qk.mp hy with h | h <;> rcases Qk.mp hz with g | g
  ·rw[hl _ h,hl _ g]at e;exact C.co y h z g e
  ·rw [hl _ h,LU g,bx] at e
   exact absurd e (lx y h)
  ·rw [hl _ g,LU h,bx] at e
   exact absurd e.symm (lx z g)
  ·rw[Qc.mp h,Qc.mp g];exact .refl
 ·rw [lj,hw]
  rcases Qk.mp hy with h | h
  ·rw [hl _ h,if_neg (fun z=>lx y h z.symm)]
   have:=C.eu y h;lia
  ·rw [LU h,bx,CZ,tQ]
   have:WP x=0:=zdw λz hz=>if_neg (lx z hz)
   rw[this];rfl
end
section
variable{β:Type}
def zf3:∀{t:List β},g s'=f s→(∀y∈t,g y=f y)→K9 e→Lk g s' t e:=by
 intro t
 cases t with
 |nil=>intro h _ k;exact h.trans k
 |cons a t =>
  intro h hh k
  exact⟨h.trans k.1,lk_congr (λy hy=>hh y Su) k.2⟩
def lk_lab{γ:Type}{f:β→β}{lb:β→γ}{e:β}:∀{t:List β} {s:β},(∀y,y=s∨y∈t→lb (f y)=lb y)→K9 e→∀y∈t,lb y=lb s:=by
 intro t
 induction t with
 |nil=>intro s _ _ y hy;cases hy
 | cons a t ih =>
  intro s h k y hy
  have ha:lb a=lb s:=by rw[←k.1];exact h s Hf
  rcases Qf.mp hy with z | z
  ·rw[z];exact ha
  ·rw [← ha]
   exact ih (λy hy=>h y yP) k.2 y z
def zii{l m:List Int}(h:l.Perm m):l.sum=m.sum:=by
 induction h with
 |nil=>rfl
 |cons x _ ih=>rw[Zn,Zn,ih]
 |swap x y l=>rw[Zn,Zn,Zn,Zn];lia
 |trans _ _ a b=>exact a.trans b
end
section
variable{α:Type}[DecidableEq α]{ns:List α}{r r':α→List α}{cs:List (List (α×α))}{a9 ah:α→α}
def ct_perm{cs':List (Sg (α×α))}(h:cs.Perm cs')(t:α):WN t=ct cs' a9 t:=zii (h.map _)
def zdt(c:Sg (α×α))(t:α):ct (c::cs) a9 t=(if(c.any λs=>decide (a9 s.1=t))=true then(2:Int) else 0)+WN t:=by
 unfold ct;rw[List.map_cons,List.sum_cons]
def Cert.one_lab(C:QG a9){c:List (α×α)}(hc:c∈cs){s u:α×α}(hs:s∈c)(hu:u∈c):a9 u.1=a9 s.1:=by
 obtain⟨A,B,rfl⟩:=Yl hs
 have k:=zc3 (C.cy _ hc)
 have hl:∀y,y=s∨y∈B++A→a9 (BO y).1=a9 y.1:=λy hy=>by
  have bJ:y∈A++s::B:=by
   rcases hy with z | z
   ·rw[z];exact hs
   ·rcases Qk.mp z with q | q
    ·exact WC (QK q)
    ·exact YG q
  exact(C.la _ _ (Bm bJ)).symm
 rcases Qk.mp hu with z | z
 ·exact lk_lab (lb:=λy:α×α=>a9 y.1) hl k u (WC z)
 ·rcases Qf.mp z with q | q
  ·rw[q]
  ·exact lk_lab (lb:=λy:α×α=>a9 y.1) hl k u (YG q)
def zdv{c:List (α×α)}(h:∀s∈c,a9 s.1=u)(ax:c≠[]):(c.any λs=>decide (a9 s.1=t))=decide (u=t):=by
 rw[Yw,Yb,decide_eq_true_iff]
 constructor
 ·rintro⟨s,hs,e⟩;rw[←h s hs];exact of_decide_eq_true e
 ·intro e
  cases c with
  |nil=>exact absurd rfl ax
  |cons s _=>exact⟨s,Qb,HJ ((h s Qb).trans e)⟩
def zb0(hc:c∈cs):cs.flatten.Perm (c++(cs.erase c).flatten):=by
 have:=List.Perm.flatten (Kf hc)
 rwa[Yq]at this
def zfr(C:QG a9)(hp:p∈ns)(hx:x∉ns)(h1:r' x=[p])(h3:∀ y,y≠x→y≠p→r' y=r y)(hm:∀ w,w∈r' p↔w=x∨w∈r p)(hn:(r' p).Nodup)(ae:(r' p).length=(r p).length+1)(hl:∀y∈ns,ah y=a9 y)(bx:ah x=a9 p)(hc:cs'.flatten.Nodup∧(∀s,s∈cs'.flatten↔s.1∈r' s.2)∧∀c∈cs',UF c)(lj:∀t,ct cs' ah t=WN t+if a9 p=t then(if r p=[] then 2 else 0) else 0):Cert (ns++[x]) r' cs' ah:=by
 have eS:p≠x:=λe=>hx (e▸hp)
 have hrx:r x=[]:=Mh hx
 have ne:∀{y},y∈ns→y≠x:=λ{y} hy e=>hx (e▸hy)
 have sub:∀z y,y∈r z→y∈r' z:=λz y hy=>by
  by_cases hz:z=p
  ·rw[hz]at hy ⊢;exact(hm y).mpr II
  ·rw[h3 z (ne (EO hy)) hz];exact hy
 have hw:∀t,wt (ns++[x]) r' ah t=WP t-if a9 p=t then(if r p=[] then 2 else 0) else 0:=λt=>by
  unfold wt
  rw[Qp,List.sum_append,Qm,Xo,Zn,List.sum_nil,bx,h1]
  have e1:(ns.map λy=>if ah y=t then(2:Int)+(if r' y=[] then 2 else 0)-((r' y).length:Int) else 0).sum=(ns.map λy=>if a9 y=t then(2:Int)+(if r' y=[] then 2 else 0)-((r' y).length:Int) else 0).sum :=
   zb4 λy hy=>by rw[hl y hy]
  rw[e1,ze4 (g:=λy=>if a9 y=t then(2:Int)+(if r y=[] then 2 else 0)-((r y).length:Int) else 0) C.nd hp (λy hy aZ=>by rw[h3 y (ne hy) aZ])]
  have ax:r' p≠[]:=λe=>by rw[e]at ae;simp at ae
  by_cases ht:a9 p=t
  ·simp only [ht,if_true,ax,if_false,ae]
   by_cases mG:r p=[]
   ·simp[mG];lia
   ·simp[mG];lia
  ·simp only[ht,if_false];lia
 refine⟨?_,λy hy=>?_,λy=>?_,λy=>?_,λy z hz=>?_,hc.1,hc.2.1,hc.2.2,λy hy=>?_,λy z hz=>?_,λy hy z hz e=>?_,λy hy=>?_⟩
 ·rw [Zc]
  exact⟨C.nd,Cr ⟨Gf,Zm⟩,λa ha b hb=>by rw[Qc.mp hb];exact ne ha⟩
 ·rw [Qk,not_or,Qc] at hy
  rw[h3 y hy.2 (λe=>hy.1 (e▸hp))];exact C.ro y hy.1
 ·by_cases cb:y=x
  ·rw[cb,h1];exact Qr.mpr ⟨Gf,Zm⟩
  ·by_cases aZ:y=p
   ·rw[aZ];exact hn
   ·rw[h3 y cb aZ];exact C.rn y
 ·by_cases cb:y=x
  ·rw[cb,h1,Qc];exact Zk eS
  ·by_cases aZ:y=p
   ·rw[aZ,hm,not_or];exact⟨eS,C.ir p⟩
   ·rw[h3 y cb aZ];exact C.ir y
 ·by_cases cb:y=x
  ·rw [cb,h1,Qc] at hz
   rw[hz,cb];exact(hm x).mpr Hf
  ·by_cases aZ:y=p
   ·rw [aZ] at hz ⊢
    rcases(hm z).mp hz with q | q
    ·rw[q,h1];exact Qb
    ·exact sub z p (C.sy p z q)
   ·rw [h3 y cb aZ] at hz
    exact sub z y (C.sy y z hz)
 ·rcases Qk.mp hy with h | h
  ·rw[hl y h];exact YG (C.ln y h)
  ·rw[Qc.mp h,bx];exact YG (C.ln p hp)
 ·by_cases cb:y=x
  ·rw [cb,h1,Qc] at hz
   rw[hz,cb,bx,hl p hp]
  ·by_cases aZ:y=p
   ·rw [aZ] at hz ⊢
    rcases(hm z).mp hz with q | q
    ·rw[q,bx,hl p hp]
    ·rw[hl _ (L5 q),hl p hp];exact Mi z q
   ·rw [h3 y cb aZ] at hz
    rw[hl _ (L5 hz),hl _ (EO hz)];exact C.la y z hz
 ·have xp:Y0 x p:=.step .refl (by rw [h1];exact Qb)
  rcases Qk.mp hy with h | h<;>rcases Qk.mp hz with g | g
  ·rw[hl _ h,hl _ g]at e;exact(C.co y h z g e).mono sub
  ·rw [hl _ h,LU g,bx] at e
   rw[Qc.mp g]
   exact .step ((C.co y h p hp e).mono sub) ((hm x).mpr Hf)
  ·rw [hl _ g,LU h,bx] at e
   rw[Qc.mp h]
   exact xp.trans ((C.co p hp z g e).mono sub)
  ·rw[Qc.mp h,Qc.mp g];exact .refl
 ·have key:∀ u∈ns,wt (ns++[x]) r' ah (a9 u)+ct cs' ah (a9 u)=4:=fun u hu=>by
   rw[hw,lj]
   have:=C.eu u hu;lia
  rcases Qk.mp hy with h | h
  ·rw[hl _ h];exact key y h
  ·rw[Qc.mp h,bx];exact key p hp
def zfc(p:α):nxt [p] p=p:=by
 unfold nxt
 simp
def leaf_mem(C:QG a9)(hp:p∈ns)(hx:x∉ns)(h1:r' x=[p])(h3:∀ y,y≠x→y≠p→r' y=r y)(hm:∀ w,w∈r' p↔w=x∨w∈r p) :
  ∀s:α×α,s.1∈r' s.2↔s∈[(x,p),(p,x)]∨s.1∈r s.2:=λs=>by
 obtain⟨a,b⟩:=s
 have eS:p≠x:=λe=>hx (e▸hp)
 show a∈r' b↔(a,b)∈[(x,p),(p,x)]∨a∈r b
 rw[Qf,Qc,Prod.mk.injEq,Prod.mk.injEq]
 by_cases qc:b=x
 ·subst qc
  rw[h1,C.ro b hx,Qc]
  constructor
  ·intro e;exact .inl (RG ⟨e,rfl⟩)
  ·rintro ((⟨_,e⟩ | ⟨e,_⟩) | e)
   ·exact absurd e.symm eS
   ·exact e
   ·cases e
 ·by_cases iR:b=p
  ·subst iR
   rw[hm]
   constructor
   ·rintro (e | e)
    ·exact .inl (Rf ⟨e,rfl⟩)
    ·exact .inr e
   ·rintro ((⟨e,_⟩ | ⟨_,e⟩) | e)
    ·exact .inl e
    ·exact absurd e qc
    ·exact .inr e
  ·rw [h3 b qc iR]
   constructor
   ·exact .inr
   ·rintro ((⟨_,e⟩ | ⟨_,e⟩) | e)
    ·exact absurd e iR
    ·exact absurd e qc
    ·exact e
def leaf_nd(eS:p≠x):([(x,p),(p,x)]:List (α×α)).Nodup:=by
 rw[Qr,Qc]
 exact⟨λe=>eS (Uz e).1.symm,Cr ⟨Gf,Zm⟩⟩
def leaf_no(C:QG a9)(hx:x∉ns):∀s∈([(x,p),(p,x)]:List (α×α)),s.1∉r s.2:=λs hs h=>by
 rcases Qf.mp hs with e | e
 ·rw[e]at h;exact hx (L5 h)
 ·rw[Qc.mp e]at h;exact hx (EO h)
def cert_leaf0(C:QG a9)(hp:p∈ns)(hx:x∉ns)(jj:r p=[])(h1:r' x=[p])(h2:r' p=[x])(h3:∀ y,y≠x→y≠p→r' y=r y)(hl:∀ y∈ns,ah y=a9 y)(bx:ah x=a9 p) :
  Cert (ns++[x]) r' ([(x,p),(p,x)]::cs) ah:=by
 have eS:p≠x:=λe=>hx (e▸hp)
 have hm:∀w,w∈r' p↔w=x∨w∈r p:=λw=>by rw[h2,jj,Qc];simp
 refine Dk (by rw[h2];exact Qr.mpr ⟨Gf,Zm⟩) (by rw[h2,jj];rfl) hl bx ?_ λt=>?_
 ·refine zja (N:=[[(x,p),(p,x)]]) (R:=cs) (c0:=[]) (news:=[(x,p),(p,x)]) C (fun c h=>h) (by rw [Wy]) Gf (leaf_nd eS) (leaf_no C hx) (NF hm) (fun c hc=>?_) fun s hs _=>?_
  ·rw [LU hc]
   refine⟨(x,p),[(p,x)],rfl,?_,?_⟩
   ·show (p,KM x)=(p,x)
    rw[h2,zfc]
   ·show (x,nxt (r' x) p)=(x,p)
    rw[h1,zfc]
  ·have rQ:s.2≠x:=fun e=>hx (e ▸ C.inn hs)
   have bK:s.2≠p:=λe=>by rw[e,jj]at hs;cases hs
   unfold st;rw[h3 s.2 rQ bK]
 ·rw [zdt,zdv (u:=a9 p) (fun s hs=>?_) Gf]
  ·have:ct cs ah t=WN t:=ct_lab fun c hc s hs=>hl _ (L5 yO)
   rw[this]
   simp only[decide_eq_true_eq,jj,if_true]
   lia
  ·rcases Qf.mp hs with e | e
   ·rw[e];exact bx
   ·rw[Qc.mp e];exact hl p hp
def cert_leaf(C:QG a9)(hp:p∈ns)(hx:x∉ns)(hc:c∈r p)(h1:r' x=[p])(h2:r' p=DS x)(h3:∀ y,y≠x→y≠p→r' y=r y)(hl:∀ y∈ns,ah y=a9 y)(bx:ah x=a9 p) :
  ∃cs',Cert (ns++[x]) r' cs' ah:=by
 have eS:p≠x:=λe=>hx (e▸hp)
 have iC:x∉r p:=λh=>hx (L5 h)
 have hm:∀w,w∈r' p↔w=x∨w∈r p:=λw=>by rw[h2];exact zds hc TD
 obtain⟨c1,bC,cD⟩:=Zu.mp ((EN (c,p)).mpr hc)
 obtain⟨A,B,eF⟩:=Yl cD
 have k:=zc3 (eF▸C.cy c1 bC)
 have old:∀y∈c1,y.1∈r y.2:=λy hy=>Mj hy
 have nd1:c1.Nodup:=by
  have:=(zb0 bC).nodup_iff.mp C.cf
  rw[Zc]at this
  exact this.1
 have aq:∀s:α×α,s.1∈r s.2→s≠(c,p)→st r' s=BO s:=λs hs ax=>by
  have rQ:s.2≠x:=λe=>hx (e▸C.inn hs)
  by_cases bK:s.2=p
  ·unfold st
   rw[bK,h2]
   rw[bK]at hs
   rw[zdq hc TD iC hs (λe=>ax (Wz e bK))]
  ·unfold st;rw[h3 s.2 rQ bK]
 have inBA:∀y∈B++A,y∈c1∧y≠(c,p):=λy hy=>by
  rw[eF]at nd1 ⊢
  rw[Zc,Qr]at nd1
  rcases Qk.mp hy with z | z
  ·exact⟨WC (QK z),λe=>nd1.2.1.1 (e▸z)⟩
  ·exact⟨YG z,λe=>nd1.2.2 y z (c,p) Qb e⟩
 refine⟨[(c,p)::(p,x)::(x,p)::(B++A)]++cs.erase c1,Dk (by rw[h2];exact DT iC) (by rw[h2];exact zit hc TD) hl bx ?_ λt=>?_⟩
 ·refine zja (c0:=c1) (news:=[(x,p),(p,x)]) C (fun c h=>Uj h) (zb0 bC) ?_ (leaf_nd eS) (leaf_no C hx) (NF hm) (fun c' cv=>?_) fun s hs hn=>aq s hs fun e=>hn (e ▸ cD)
  ·rw [eF]
   refine Jh.mpr λa=>?_
   simp only[Yq,List.flatten_nil,Zx,Jv,Ki,List.count_nil]
   lia
  ·rw [LU cv]
   refine⟨(c,p),xc,?_,?_,zf3 (f:=st r) (s:=(c,p)) ?_ (λy hy=>aq y (old y (inBA y hy).1) (inBA y hy).2) k⟩
   ·show (p,KM c)=(p,x)
    rw[h2,zeu hc TD]
   ·show (x,nxt (r' x) p)=(x,p)
    rw[h1,zfc]
   ·show (p,KM x)=(p,nxt (r p) c)
    rw[h2,zet hc TD iC]
 ·have ax:r p≠[]:=Jr hc
  have e2:WN t=ct (c1::cs.erase c1) a9 t:=ct_perm (Kf bC) t
  have e3:FG ah t=FG a9 t:=ct_lab λc h s hs=>hl _ (L5 (C.inc (Uj h) hs))
  have lc:∀s∈c1,a9 s.1=a9 p:=λs hs=>(VT hs).trans (Mi c hc)
  rw[e2,zdt,Xu,zdt,e3,zdv (u:=a9 p) lc (Jr cD),zdv (u:=a9 p) (λs hs=>?_) Gf,if_neg ax]
  ·simp
  ·rcases Qf.mp hs with e | hs
   ·rw[e];exact(hl _ (L5 hc)).trans (Mi c hc)
   ·rcases Qf.mp hs with e | hs
    ·rw[e];exact hl p hp
    ·rcases Qf.mp hs with e | hs
     ·rw[e];exact bx
     ·rw[hl _ (L5 (old s (inBA s hs).1))];exact lc s (inBA s hs).1
def cert_tie(C:QG a9)(bC:c1∈cs)(cD:(c,p)∈c1)(cC:(a,o)∈c1)(iH:o≠p)(db:o∉r p)(h1:r' p=DS o)(h2:r' o=ins (r o) zU p)(h3:∀ y,y≠p→y≠o→r' y=r y) :
  ∃cs',Fl r' cs' a9:=by
 have hc:c∈r p:=Mj cD
 have ha:a∈r o:=Mj cC
 have hp:p∈ns:=C.inn hc
 have ho:o∈ns:=C.inn ha
 have pU:p∉r o:=λh=>db (C.sy o p h)
 have jI:∀w,w∈r' p↔w=o∨w∈r p:=λw=>by rw[h1];exact zds hc TD
 have bM:∀w,w∈r' o↔w=p∨w∈r o:=λw=>by rw[h2];exact zds ha CH
 have fP:a9 o=a9 p:=by
  rw[←C.la o a ha,←Mi c hc];exact VT cC
 obtain⟨A,B,eF⟩:=Yl cD
 have k:=zc3 (eF▸C.cy c1 bC)
 have old:∀y∈c1,y.1∈r y.2:=λy hy=>Mj hy
 have nd1:c1.Nodup:=by
  have:=(zb0 bC).nodup_iff.mp C.cf
  rw[Zc]at this
  exact this.1
 have rY:(a,o)∈B++A:=by
  rw[eF]at cC
  rcases Qk.mp cC with z | z
  ·exact WC z
  ·rcases Qf.mp z with q | q
   ·exact absurd (Uz q).2 iH
   ·exact YG q
 obtain⟨A2,B2,oH⟩:=Yl rY
 rw[oH]at k
 obtain⟨k1,k2⟩:=zgq.mp k
 have pm:c1.Perm ((c,p)::(A2++(a,o)::B2)):=by
  rw[eF,←oH]
  refine Jh.mpr λa=>?_
  simp only[Jv,Ki]
  lia
 have fg:=pm.nodup_iff.mp nd1
 rw[Qr,Zc,Qr]at fg
 obtain⟨n1,n2,⟨n3,n4⟩,n5⟩:=fg
 have inA:∀y∈A2,y∈c1∧y≠(c,p)∧y≠(a,o):=λy hy=>⟨pm.mem_iff.mpr (QK (YG hy)),λe=>n1 (e▸YG hy),λe=>n5 y hy (a,o) Qb e⟩
 have inB:∀y∈B2,y∈c1∧y≠(c,p)∧y≠(a,o):=λy hy=>⟨pm.mem_iff.mpr (QK (WC Ll)),λe=>n1 (e▸WC Ll),λe=>n3 (e▸hy)⟩
 have aq:∀s:α×α,s.1∈r s.2→s≠(c,p)→s≠(a,o)→st r' s=BO s:=λs hs cj bw=>by
  by_cases bK:s.2=p
  ·unfold st
   rw[bK,h1]
   rw[bK]at hs
   rw[zdq hc TD db hs (λe=>cj (Wz e bK))]
  ·by_cases pI:s.2=o
   ·unfold st
    rw[pI,h2]
    rw[pI]at hs
    rw[zdq ha CH pU hs (λe=>bw (Wz e pI))]
   ·unfold st;rw[h3 s.2 bK pI]
 have sub:∀z y,y∈r z→y∈r' z:=λz y hy=>by
  by_cases hz:z=p
  ·rw[hz]at hy ⊢;exact(jI y).mpr II
  ·by_cases c9:z=o
   ·rw[c9]at hy ⊢;exact(bM y).mpr II
   ·rw[h3 z hz c9];exact hy
 have hmem:∀s:α×α,s.1∈r' s.2↔s∈[(o,p),(p,o)]∨s.1∈r s.2:=λs=>by
  obtain⟨u,b⟩:=s
  show u∈r' b↔(u,b)∈[(o,p),(p,o)]∨u∈r b
  rw[Qf,Qc,Prod.mk.injEq,Prod.mk.injEq]
  by_cases iR:b=p
  ·subst iR
   rw[jI]
   constructor
   ·rintro (e | e)
    ·exact .inl (Rf ⟨e,rfl⟩)
    ·exact .inr e
   ·rintro ((⟨e,_⟩ | ⟨_,e⟩) | e)
    ·exact .inl e
    ·exact absurd e.symm iH
    ·exact .inr e
  ·by_cases tT:b=o
   ·subst tT
    rw[bM]
    constructor
    ·rintro (e | e)
     ·exact .inl (RG ⟨e,rfl⟩)
     ·exact .inr e
    ·rintro ((⟨_,e⟩ | ⟨e,_⟩) | e)
     ·exact absurd e iR
     ·exact .inl e
     ·exact .inr e
   ·rw [h3 b iR tT]
    constructor
    ·exact .inr
    ·rintro ((⟨_,e⟩ | ⟨_,e⟩) | e)
     ·exact absurd e iR
     ·exact absurd e tT
     ·exact e
 have nnd:([(o,p),(p,o)]:List (α×α)).Nodup:=by
  rw[Qr,Qc]
  exact⟨λe=>iH (Uz e).1,Cr ⟨Gf,Zm⟩⟩
 have cu:=zja (N:=[(c,p)::(p,o)::B2,(a,o)::(o,p)::A2]) (R:=cs.erase c1) (c0:=c1) (news:=[(o,p),(p,o)]) (r':=r') C (λc h=>Uj h) (zb0 bC) (by
   refine List.Perm.trans ?_ (V' pm.symm)
   refine Jh.mpr λa=>?_
   simp only[Yq,List.flatten_nil,Zx,Jv,Ki,List.count_nil]
   lia) nnd (λs hs h=>by
    rcases Qf.mp hs with e | e
    ·rw[e]at h;exact db h
    ·rw[Qc.mp e]at h;exact pU h) hmem (λc' cv=>by
   rcases Qf.mp cv with e | e
   ·rw [e]
    refine⟨(c,p),xc,?_,zf3 (f:=st r) (s:=(a,o)) ?_ (λy hy=>aq y (old y (inB y hy).1) (inB y hy).2.1 (inB y hy).2.2) k2⟩
    ·show (p,KM c)=(p,o)
     rw[h1,zeu hc TD]
    ·show (o,nxt (r' o) p)=(o,nxt (r o) a)
     rw[h2,zet ha CH pU]
   ·rw [LU e]
    refine⟨(a,o),xc,?_,zf3 (f:=st r) (s:=(c,p)) ?_ (λy hy=>aq y (old y (inA y hy).1) (inA y hy).2.1 (inA y hy).2.2) k1⟩
    ·show (o,nxt (r' o) a)=(o,p)
     rw[h2,zeu ha CH]
    ·show (p,KM o)=(p,nxt (r p) c)
     rw[h1,zet hc TD db]) λs hs hn=>aq s hs (λe=>hn (e▸cD)) λe=>hn (e▸cC)
 refine⟨_,C.nd,λy hy=>?_,λy=>?_,λy=>?_,λy z hz=>?_,cu.1,cu.2.1,cu.2.2,C.ln,λy z hz=>?_,λy hy z hz e=>(C.co y hy z hz e).mono sub,λy hy=>?_⟩
 ·rw[h3 y (λe=>hy (e▸hp)) (λe=>hy (e▸ho))];exact C.ro y hy
 ·by_cases aZ:y=p
  ·rw[aZ,h1];exact DT db
  ·by_cases fj:y=o
   ·rw[fj,h2];exact nd_ins ha CH pU
   ·rw[h3 y aZ fj];exact C.rn y
 ·by_cases aZ:y=p
  ·rw[aZ,jI,not_or];exact⟨Zk iH,C.ir p⟩
  ·by_cases fj:y=o
   ·rw[fj,bM,not_or];exact⟨iH,C.ir o⟩
   ·rw[h3 y aZ fj];exact C.ir y
 ·by_cases aZ:y=p
  ·rw [aZ] at hz ⊢
   rcases(jI z).mp hz with q | q
   ·rw[q];exact(bM p).mpr Hf
   ·exact sub z p (C.sy p z q)
  ·by_cases fj:y=o
   ·rw [fj] at hz ⊢
    rcases(bM z).mp hz with q | q
    ·rw[q];exact(jI o).mpr Hf
    ·exact sub z o (C.sy o z q)
   ·rw [h3 y aZ fj] at hz
    exact sub z y (C.sy y z hz)
 ·by_cases aZ:y=p
  ·rw [aZ] at hz ⊢
   rcases(jI z).mp hz with q | q
   ·rw[q];exact fP
   ·exact Mi z q
  ·by_cases fj:y=o
   ·rw [fj] at hz ⊢
    rcases(bM z).mp hz with q | q
    ·rw[q];exact fP.symm
    ·exact C.la o z q
   ·rw [h3 y aZ fj] at hz
    exact C.la y z hz
 ·have e2:WN PF=ct (c1::cs.erase c1) a9 PF:=ct_perm (Kf bC) _
  have lc:∀s∈c1,a9 s.1=a9 p:=λs hs=>(VT hs).trans (Mi c hc)
  have l1:∀s∈(c,p)::(p,o)::B2,a9 s.1=a9 p:=λs hs=>by
   rcases Qf.mp hs with e | hs
   ·rw[e];exact Mi c hc
   ·rcases Qf.mp hs with e | hs
    ·rw[e]
    ·exact lc s (inB s hs).1
  have l2:∀s∈(a,o)::(o,p)::A2,a9 s.1=a9 p:=λs hs=>by
   rcases Qf.mp hs with e | hs
   ·rw[e];exact(C.la o a ha).trans fP
   ·rcases Qf.mp hs with e | hs
    ·rw[e];exact fP
    ·exact lc s (inA s hs).1
  have lj:ct ([(c,p)::(p,o)::B2,(a,o)::(o,p)::A2]++cs.erase c1) a9 PF=WN PF+if a9 p=a9 y then 2 else 0:=by
   rw[e2,zdt,Ws,zdt,Ws,zdt,Wy,zdv lc (Jr cD),zdv l1 Gf,zdv l2 Gf]
   simp only[decide_eq_true_eq]
   split<;>lia
  have hw:wt ns r' a9 PF=WP PF-if a9 p=a9 y then 2 else 0:=by
   have ai:∀{zs:List α} {w n:α},w∈zs→zs.Nodup→ins zs (Gz w) n≠[]:=λ{zs w n} hw nd e=>by
    have:=zit (n:=n) hw nd
    rw[e]at this;simp at this
   unfold wt
   have s1:=ze4 (g:=λx=>if a9 x=a9 y then(2:Int)+(if r x=[] then 2 else 0)-((r x).length:Int) else 0)
    (g':=λx=>if x=p then(if a9 p=a9 y then(2:Int)+(if r' p=[] then 2 else 0)-((r' p).length:Int) else 0) else if a9 x=a9 y then(2:Int)+(if r x=[] then 2 else 0)-((r x).length:Int) else 0) C.nd hp (λx _ hx=>if_neg hx)
   have s2:=ze4 (g:=λx=>if x=p then(if a9 p=a9 y then(2:Int)+(if r' p=[] then 2 else 0)-((r' p).length:Int) else 0) else if a9 x=a9 y then(2:Int)+(if r x=[] then 2 else 0)-((r x).length:Int) else 0)
    (g':=fun x=>if a9 x=a9 y then (2:Int)+(if r' x=[] then 2 else 0) - ((r' x).length:Int) else 0) C.nd ho (fun x _ hx=>by
     by_cases iC:x=p
     ·rw[if_pos iC,iC]
     ·rw[if_neg iC,h3 x iC hx])
   rw[s2,s1]
   simp only[if_true,iH,if_false,fP,h1,h2,ai hc TD,ai ha CH,zit hc TD,zit ha CH,Jr hc,Jr ha]
   by_cases ht:a9 p=a9 y
   ·simp only[ht,if_true];lia
   ·simp only[ht,if_false];lia
  rw[lj,hw]
  have:=C.eu y hy
  lia
end
section
variable{α:Type}[DecidableEq α]
def Good(rs:Rs α):Prop:=∃cs a9,Cert (rs.map (·.1)) AN cs a9
def zi6{β:Type}{f:β→β}{c:List β}(h:Cyc f c){s:β}(hs:s∈c):f s∈c:=by
 obtain⟨A,B,rfl⟩:=Yl hs
 have k:=zc3 h
 cases e:B++A with
 |nil =>
  rw[e]at k
  rw[show f s=s from k];exact hs
 |cons a t =>
  rw[e]at k
  rw[k.1]
  have:a∈B++A:=by rw[e];exact Qb
  rcases Qk.mp this with z | z
  ·exact WC (QK z)
  ·exact YG z
variable{rs:Rs α}
def zfn(nd:(rs.map (·.1)).Nodup){p:α×List α}(h:p∈rs):J7 p.1=p.2:=by
 unfold row
 induction rs with
 |nil=>cases h
 | cons a t ih =>
  rw[Qm,Qr]at nd
  rcases Qf.mp h with z | z
  ·subst z;rw[Ub Gf];rfl
  ·rw [Uc]
   ·exact ih nd.2 z
   ·intro q
    exact nd.1 (by rw[of_decide_eq_true q];exact Qh.mpr ⟨p,z,rfl⟩)
def zgf(h:x∉rs.map (·.1)):J7 x=[]:=by
 unfold row
 rw[List.find?_eq_none.mpr]
 ·rfl
 ·intro p hp q
  exact h (of_decide_eq_true q▸Qh.mpr ⟨p,hp,rfl⟩)
def ziv(nd:(rs.map (·.1)).Nodup){s:α×α}:IsSt rs s↔s.1∈J7 s.2:=by
 constructor
 ·rintro ⟨p,hp,e,h⟩
  rw[←e,zfn nd hp];exact h
 ·intro h
  by_cases hx:s.2∈rs.map (·.1)
  ·obtain ⟨p,hp,e⟩:=Qh.mp hx
   have e':p.1=s.2:=e
   rw[←e',zfn nd hp]at h
   exact⟨p,hp,e',h⟩
  ·rw[zgf hx]at h;cases h
def zbv(x:α)(rr:List α):(Mf x rr).map (·.1)=rs.map (·.1):=by
 unfold za6
 rw[Zj]
 refine Zz λp _=>?_
 show(if p.1=x then(p.1,rr) else p).1=p.1
 split<;>rfl
def zbc{x:α}{rr:List α}(h:x∈rs.map (·.1)):row (Mf x rr) x=rr:=by
 unfold row za6
 induction rs with
 |nil=>cases h
 | cons a t ih =>
  rw[Qm]
  by_cases hx:a.1=x
  ·rw[if_pos hx,Ub (Gk hx)];rfl
  ·rw [Rm hx,Uc (Gk hx)]
   refine ih ?_
   rw[Qm]at h
   rcases Qf.mp h with z | z
   ·exact absurd z.symm hx
   ·exact z
def za7{x y:α}{rr:List α}(h:y≠x):row (Mf x rr) y=J7 y:=by
 unfold row za6
 induction rs with
 |nil=>rfl
 | cons a t ih =>
  rw[Qm]
  by_cases hy:a.1=y
  ·have hx:a.1≠x:=fun e=>h (hy ▸ e)
   rw[if_neg hx,Ub PH,Ub PH]
  ·have h1:(if a.1=x then (a.1,rr) else a).1=a.1:=by split <;> rfl
   rw[Uc (by rw[h1];simpa using hy),Uc PH]
   exact ih
def row_snoc{x:α}(h:x∉rs.map (·.1)):row (rs++[(x,[])])=row rs:=by
 funext y
 unfold row
 rw[List.find?_append]
 cases e:rs.find? λp=>decide (p.1=y) with
 |some p=>rfl
 |none =>
  rw[Option.none_or]
  by_cases hy:x=y
  ·rw[Ub PH];rfl
  ·rw[Uc PH];rfl
theorem zey:Gen (Good (α:=α)) where
 clo:=λrs ⟨cs,a9,C⟩ s hs=>by
  obtain⟨c,hc,h⟩:=Zu.mp ((EN s).mpr ((ziv C.nd).mp hs))
  exact(ziv C.nd).mpr ((EN _).mp (AM ⟨c,hc,zi6 yQ h⟩))
 nd:=λrs ⟨cs,a9,C⟩=>C.nd
 sub:=λrs ⟨cs,a9,C⟩ p hp=>by
  have e:=Dl hp
  exact⟨e▸C.rn p.1,λx hx=>C.inn' (x:=p.1) (Gp e hx)⟩
 sy:=λrs ⟨cs,a9,C⟩ p hp x hx=>C.sy p.1 x (by rw[Dl hp];exact hx)
 nil:=by
  refine⟨[],id,⟨Zm,GD,λ_=>Zm,λ_ h=>?_,λ_ _ h=>?_,Zm,λs=>⟨λh=>?_,λh=>?_⟩,λc h=>?_,λ_ h=>?_,λ_ _ h=>?_,λ_ h=>?_,λ_ h=>?_⟩⟩
  ·exact absurd h (by simp[row])
  ·exact absurd h (by simp[row])
  ·cases h
  ·exact absurd h (by simp[row])
  ·cases h
  ·cases h
  ·exact absurd h (by simp[row])
  ·cases h
  ·cases h
 new:=λrs x ⟨cs,a9,C⟩ hx=>by
  refine⟨cs,λy=>if y=x then x else a9 y,?_⟩
  rw[row_snoc hx,Qp]
  exact cert_new C hx (λy hy=>if_neg (λe:y=x=>hx (e▸hy))) CZ
 leaf:=λrs x p c ⟨cs,a9,C⟩ hx hp hc gI=>by
  have hV:p.1∈rs.map (·.1):=Qh.mpr ⟨p,hp,rfl⟩
  have eS:p.1≠x:=λe=>hx (e▸hV)
  have e0:(za6 (za6 (rs++[(x,[])]) p.1 PB) x [p.1]).map (·.1)=rs.map (·.1)++[x]:=by rw[zbv,zbv,Qp];rfl
  have rC:x∈(za6 (rs++[(x,[])]) p.1 PB).map (·.1):=by rw[zbv,Qp];exact WC Qb
  have sB:p.1∈(rs++[(x,([]:List α))]).map (·.1):=by rw[Qp];exact YG hV
  have r1:row (za6 (za6 (rs++[(x,[])]) p.1 PB) x [p.1]) x=[p.1]:=zbc rC
  have r2:row (za6 (za6 (rs++[(x,[])]) p.1 PB) x [p.1]) p.1=BN x:=by rw[za7 eS,zbc sB]
  have r3:∀y,y≠x→y≠p.1→row (za6 (za6 (rs++[(x,[])]) p.1 PB) x [p.1]) y=J7 y:=λy h1 h2=>by rw[za7 h1,za7 h2,row_snoc hx]
  have er:=Dl hp
  have hl:∀y∈rs.map (·.1),(λy=>if y=x then a9 p.1 else a9 y) y=a9 y:=λy hy=>if_neg (λe:y=x=>hx (e▸hy))
  have bx:(λy=>if y=x then a9 p.1 else a9 y) x=a9 p.1:=if_pos rfl
  unfold Good
  rw[e0]
  cases c with
  |none =>
   have h0:=gI rfl
   refine⟨_,_,cert_leaf0 C hV hx (er.trans h0) r1 ?_ r3 hl bx⟩
   rw[r2,h0];rfl
  |some y =>
   have hy:=hc y rfl
   obtain⟨cs',C'⟩:=cert_leaf C hV hx (c:=y) (Gp er hy) r1 (by rw[r2,er]) r3 hl bx
   exact⟨cs',_,C'⟩
 tie:=λrs c p n ⟨cs,a9,C⟩ hp hc h1 h2=>by
  have er:=Dl hp
  obtain⟨c1,bC,cD⟩:=Zu.mp ((EN (c,p.1)).mpr (Gp er hc))
  have cC:∀n,J8 (c,p.1) n∈c1:=λn=>by
   induction n with
   |zero=>exact cD
   |succ n ih=>exact zi6 (C.cy c1 bC) ih
  have kR:=cC n
  generalize J8 (c,p.1) n=q at h1 h2 kR
  have hV:p.1∈rs.map (·.1):=Qh.mpr ⟨p,hp,rfl⟩
  have mH:q.2∈rs.map (·.1):=C.inn (Mj kR)
  unfold Good
  rw[zbv,zbv]
  obtain⟨cs',C'⟩:=cert_tie (r':=row (za6 (Mf p.1 (FC q.2)) q.2 (ins (J7 q.2) (some q.1) p.1))) C bC cD (a:=q.1) (o:=q.2) kR h1 (Gp er h2)
   (by rw[za7 (Zk h1),zbc hV,er]) (by rw[zbc (Gp zbv mH)]) (λy h3 h4=>by rw[za7 h4,za7 h3])
  exact⟨cs',a9,C'⟩
end
section
variable{α:Type}[DecidableEq α]{ns kI:List α}{r r':α→List α}{cs:List (List (α×α))}{a9:α→α}
def zf1(zs:List α)(k:Nat):(zs.drop k++zs.take k).Perm zs:=by
 refine Wf.trans ?_
 rw[Wc]
def zgz(C:QG a9)(hn:kI.Perm ns)(hr:∀x,∃k,r' x=(r x).drop k++(r x).take k):Cert kI r' cs a9:=by
 have hp:∀x,(r' x).Perm (r x):=λx=>by obtain⟨k,e⟩:=hr x;rw[e];exact zf1 _ k
 have hm:∀{x y},y∈r' x↔y∈r x:=λ{x y}=>(hp x).mem_iff
 have aq:∀s:α×α,s.1∈r s.2→st r' s=BO s:=λs hs=>by
  obtain⟨k,e⟩:=hr s.2
  unfold st;rw[e,nxt_rot (C.rn _) k hs]
 have hw:∀t,wt kI r' a9 t=WP t:=λt=>by
  unfold wt
  rw[zii (hn.map _)]
  refine zb4 λx _=>?_
  have h1:=(hp x).length_eq
  have h2:(r' x=[])=(r x=[]):=propext ⟨λe=>by rw[e]at h1;exact List.eq_nil_of_length_eq_zero h1.symm,λe=>by rw[e]at h1;exact List.eq_nil_of_length_eq_zero h1⟩
  simp only[h1,h2]
 refine⟨hn.nodup_iff.mpr C.nd,λx hx=>?_,λx=>(hp x).nodup_iff.mpr (C.rn x),λx h=>C.ir x (hm.mp h),λx y h=>hm.mpr (Dj (hm.mp h)),C.cf,λs=>(EN s).trans hm.symm,λc hc=>?_,λx hx=>hn.mem_iff.mpr (C.ln x Ef),λx y h=>C.la x y (hm.mp h),λx hx y hy e=>?_,λx hx=>?_⟩
 ·have:=hp x
  rw[Mh (λz=>hx (hn.mem_iff.mpr z))]at this
  exact List.Perm.eq_nil this
 ·exact ze1 (λy hy=>aq y (Bm hy)) yQ
 ·exact(C.co x Ef y (hn.mem_iff.mp hy) e).mono λ_ _ h=>hm.mpr h
 ·rw[hw];exact C.eu x Ef
end
section
variable{α:Type}[DecidableEq α]{ns:List α}{r:α→List α}{cs:List (List (α×α))}{a9:α→α}
def nxt_rev{zs:List α}{q:α}(nd:zs.Nodup)(hq:q∈zs):nxt zs.reverse (BG q)=q:=by
 obtain⟨A,B,rfl,hA,hB⟩:=zbu hq nd
 have h1:=za1 (B:=B) hA
 cases B with
 | cons b B =>
  have e:nxt (A++q::b::B) q=b:=(Qn h1).symm
  have hb:b∉B.reverse:=by
   rw[We]
   have:=(Zc.mp nd).2.1
   simp only[Qr]at this
   exact this.2.1
  have h2:=za1 (B:=q::A.reverse) hb
  rw[e,show(A++q::b::B).reverse=B.reverse++b::(q::A.reverse) by simp]
  exact(Qn h2).symm
 | nil =>
  cases A with
  |nil=>rw[show([]++[q]:List α)=[q] from rfl,zfc,List.reverse_singleton,zfc]
  | cons a A =>
   have e:nxt (a::A++[q]) q=a:=(Qn h1).symm
   have ha:a∉q::A.reverse:=by
    intro z
    rcases Qf.mp z with z | z
    ·exact hA (z▸Qb)
    ·have:(a::(A++[q])).Nodup:=nd
     exact(Qr.mp this).1 (YG (We.mp z))
   have h2:=za1 (B:=[]) ha
   rw[e,show(a::A++[q]).reverse=(q::A.reverse)++[a] by simp]
   exact(Qn h2).symm
def mir:List (α×α)→List (α×α)
 |[]=>[]
 |s::t=>s.swap::t.reverse.map Prod.swap
theorem zis:∀c:List (α×α),(mir c).Perm (c.map Prod.swap)
 |[]=>.nil
 |s::t=>(t.reverse_perm.map _).cons _
theorem lk_mir{f g:α×α→α×α}{e:α×α}:∀{t:List (α×α)} {s:α×α},(∀y,y=s∨y∈t→g (f y).swap=y.swap)→K9 e→Lk g e.swap (t.reverse.map Prod.swap) s.swap
 |[],s,h,k=>by
  have k':f s=e:=k
  show g e.swap=s.swap
  rw[←k'];exact h s Hf
 | a::t,s,h,k=>by
  obtain⟨k1,k2⟩:f s=a∧Vr a t e:=k
  rw[List.reverse_cons,Qp]
  refine zgq.mpr ⟨lk_mir (λy hy=>h y (.inr ?_)) k2,?_⟩
  ·rcases hy with z | z
   ·rw[z];exact Qb
   ·exact QK z
  ·show g a.swap=s.swap
   rw[←k1];exact h s Hf
theorem zi3:∀cs:List (Sg (α×α)),(cs.map mir).flatten.Perm (cs.flatten.map Prod.swap)
 |[]=>.nil
 |c::cs=>by
  rw[Qm,Yq,Yq,Qp]
  exact(zis c).append (zi3 cs)
def cert_mir(C:QG a9):Fl (fun x=>(r x).reverse) PJ a9:=by
 have sw:∀s:α×α,s.swap.swap=s:=λ_=>rfl
 have hm:∀{s:α×α},s∈(cs.map mir).flatten↔s.swap∈cs.flatten:=λ{s}=>by
  rw[(zi3 cs).mem_iff,Qh]
  exact⟨λ⟨a,h,e⟩=>by rw[←e];exact h,λh=>⟨_,h,rfl⟩⟩
 refine⟨C.nd,λx hx=>by show(r x).reverse=[];rw[Mh hx];rfl,λx=>(Uq _).nodup_iff.mpr (C.rn x),λx h=>C.ir x O5,λx y h=>We.mpr (Dj O5),?_,λs=>?_,λc hc=>?_,C.ln,λx y h=>C.la x y O5,λx hx y hy e=>(C.co x hx y hy e).mono λ_ _ h=>We.mpr h,λx hx=>?_⟩
 ·rw [(zi3 cs).nodup_iff]
  have inj:∀l:List (α×α),l.Nodup→(l.map Prod.swap).Nodup:=λl=>by
   induction l with
   |nil=>exact λ_=>.nil
   |cons a t ih =>
    intro h
    rw[Qr]at h
    rw[Qm,Qr]
    refine⟨λz=>?_,ih h.2⟩
    obtain⟨b,hb,e⟩:=Qh.mp z
    exact h.1 (by rw[←sw a,←e,sw];exact hb)
  exact inj _ C.cf
 ·rw [hm,C.cm]
  exact⟨λh=>We.mpr (YU h),λh=>YU O5⟩
 ·obtain ⟨c0,h0,rfl⟩:=Qh.mp hc
  obtain⟨s,t,rfl,k⟩:=C.cy c0 h0
  refine⟨s.swap,xc,lk_mir (λy hy=>?_) k⟩
  have bJ:y.1∈r y.2:=C.inc h0 (by rcases hy with z | z;rw[z];exact Qb;exact QK z)
  show(y.2,nxt (r y.2).reverse (Dm y.1))=(y.2,y.1)
  rw[nxt_rev (C.rn _) bJ]
 ·have hw:wt ns (fun x=>(r x).reverse) a9 Oa=WP Oa:=by
   unfold wt
   refine zb4 λy _=>?_
   simp only[Ji,List.reverse_eq_nil_iff]
  have hc:ct PJ a9 Oa=WN Oa:=by
   unfold ct
   rw[Zj]
   refine zb4 λc hc=>?_
   have:((mir c).any λs=>decide (a9 s.1=a9 x))=(c.any λs=>decide (a9 s.1=a9 x)):=by
    rw[Yw,Yb,Yb]
    have aB:∀s∈c,a9 s.2=a9 s.1:=λs hs=>(C.la _ _ yO).symm
    constructor
    ·rintro ⟨s,hs,e⟩
     obtain⟨b,hb,e1⟩:=Qh.mp ((zis c).mem_iff.mp hs)
     refine⟨b,hb,?_⟩
     rw[←e1]at e
     exact decide_eq_true ((aB b hb).symm.trans (SI e))
    ·rintro ⟨s,hs,e⟩
     exact⟨s.swap,(zis c).mem_iff.mpr (Ts ⟨s,hs,rfl⟩),HJ ((aB s hs).trans (SI e))⟩
   show(if((mir c).any λs=>decide (a9 s.1=a9 x))=true then(2:Int) else 0)=_
   rw[this]
  rw[hw,hc];exact C.eu x hx
end
end Wb
end
section
namespace K21
open PySem L2 Wb
abbrev sSteps:Stmt:=top 12
structure BAt(H:Hp)(b:Nb)(bs:List ((Str×Str)×Addr))(r:Nq):Prop where
 dc:H b=some (.dT (bs.map λe=>(PK,IC)))
 tp:∀e∈bs,H e.2=some (.tup [.str (BO e.1).1,.str (BO e.1).2])
 nd:(bs.map (·.1)).Nodup
def BAt.keep{H H':Hp}{b:Nb}{bs:List ((Str×Str)×Addr)}{r:Nq}{xs:Nn}(h:BAt H b bs r)(k:W3 H')(hb:b∉xs)(ht:∀e∈bs,e.2∉xs):BAt H' b bs r :=
 ⟨k _ _ h.dc hb,λe he=>k _ _ (h.tp e he) (ht e he),h.nd⟩
def kP_inj{s u:Str×Str}(h:kP s=kP u):s=u:=by
 unfold kP at h
 injection h with h1 h2
 injection h2 with h2 _
 exact Wz (Wd h1) (Wd h2)
def valT_out{bs:List ((Str×Str)×Addr)}{s:Str×Str}(h:s∉bs.map (·.1)):valV (bs.map λe=>(PK,IC)) AO=none:=by
 induction bs with
 |nil=>rfl
 |cons a t ih =>
  rw[Qm,Qf,not_or]at h
  rw[Qm,zbm]
  ·exact ih h.2
  ·intro q;exact h.1 (kP_inj q).symm
def valT_in{bs:List ((Str×Str)×Addr)}(nd:(bs.map (·.1)).Nodup){e:(Str×Str)×Addr}(h:e∈bs):valV (bs.map fun e=>(PK,IC)) PK=some (.ref e.2):=by
 induction bs with
 |nil=>cases h
 | cons a t ih =>
  rw[Qm,Qr]at nd
  rw[Qm]
  rcases Qf.mp h with z | z
  ·subst z;exact zcg rfl
  ·rw [zbm]
   ·exact ih nd.2 z
   ·intro q
    exact nd.1 (by rw[kP_inj q];exact Qh.mpr ⟨e,z,rfl⟩)
inductive IspSteps(vs:List V)(H:Hp)(Q:VK):Prop
 |mk (d:Nb) (es:List Ent) (h0:vs=[.ref d]) (h1:TAt H d es) (h2:es.length≤60) (h3:(∀e∈es,e.2.1.Nodup∧e.2.1.length≤100)) (h4:∀(b:Nb) (bs:List ((Str×Str)×Addr)) (H':Hp),BAt H' b bs (row (rsOf es))→(∀s,s∈bs.map (·.1)↔s.1∈row (rsOf es) s.2)→bs.length≤10000→H b=none→Keep [] H H'→Q (.ref b) H'):IspSteps vs H Q
def spSteps:Sp:=λvs H Q _=>IspSteps vs H Q
def pidx(n j:Nat):Nat:=if j=0 then n-1 else j-1
def atI_prev{zs:List V}{j:Nat}(hj:j<zs.length):atI zs ((j:Int)-1)=zs[XH j]?:=by
 unfold pidx
 by_cases h:j=0
 ·subst h
  rw[if_pos rfl]
  unfold atI ixN
  have e1:¬(0:Int)≤((0:Nat):Int)-1:=by lia
  have e2:-(zs.length:Int)≤((0:Nat):Int)-1:=by lia
  rw[if_neg e1,if_pos e2]
  show zs[(((0:Nat):Int)-1+(zs.length:Int)).toNat]?=_
  congr 1;lia
 ·rw [Rm h]
  have e:(j:Int)-1=((j-1:Nat):Int):=by lia
  rw[e,za3 (Qd Gg),Qd Gg]
def idx_at{zs:Ng}(nd:zs.Nodup){i:Nat}(hi:i<zs.length):zs.idxOf zs[i]=i:=by
 have h1:zs.idxOf zs[i]<zs.length:=idx_lt PM
 have h2:zs[zs.idxOf zs[i]]=zs[i]:=List.getElem_idxOf h1
 exact(Wa nd).mp h2
def nxt_idx{zs:Ng}(nd:zs.Nodup){j:Nat}(hj:j<zs.length)(hp:XH j<zs.length):BG zs[XH j]=zs[j]:=by
 unfold nxt
 rw[idx_at nd hp]
 have e:(XH j+1)%zs.length=j:=by
  unfold pidx
  by_cases h:j=0
  ·rw [Rv h,h]
   have:zs.length-1+1=zs.length:=by lia
   rw[this,Nat.mod_self]
  ·rw [Rm h]
   have:j-1+1=j:=by lia
   rw[this,Nat.mod_eq_of_lt hj]
 rw[e,Zd,Qd hj];rfl
section
variable{P:Nk}{w:Nl}{K:Na}{mg:Nd}{base:No}
def ze6:zak ["rounds", "behind", "place", "around", "at", "to"] ["rounds"] (zai sSteps):=fsk
def ok_steps{f:Nb}{fd:Nv}(F:QD "steps_behind" "steps_behind" sSteps f fd)(o6:mg "enumerate" = none):ZB 1 f fd ["rounds"] spSteps:=by
 refine F.okL ze6 Gn
 obtain⟨d,es,rfl,T,aN,hok,k⟩:=h
 have hu:=zcd hr
 have ar  := sizeLine_eq
 refine⟨_,zad (MR ze6.nd pe_dnewT)
  (zad (zgh (Z0 EQ (MQ ze6.nd)
   (zad (B8 ze6.nd (QI Rz))
   (zag (Z0 (pi_enum rfl o6 SH) (Lz (MS ze6.nd) (SX (XI ze6.nd)))
    (zag (Bn HQ (zbo (zaa (WF RA (BC Rx zah) GD) RV)) (zbo (ZX TZ)) rfl)))))))
  (zag (zax HQ))),?_⟩
 refine λb hb=>?_
 have nfz:∀o' u',H d≠some Ss:=λo' u' z=>by rw[T.dc]at z;cases z
 have nbd:d≠b:=Ml hb
 have k1:Keep [] H (ZS b (.dT [])):=Keep.new hb
 have gJ:BAt (ZS b (.dT [])) b [] Hw:=⟨zab,λe he=>(by cases he),Zm⟩
 have T1:TAt (ZS b (.dT [])) d es:=MT Gf He
 generalize ZS b (.dT [])=H1 at k1 gJ T1
 have hbm:∀{H':Hp} {bs:List ((Str×Str)×Addr)},BAt H' b bs Hw→b≠d:=λ_=>Zk nbd
 refine⟨_,rfl,d,_,rfl,T1.dc,λo=>for_dict (λi σ H'=>Aj4 (Ex4 λx2 x3 x4 x5=>σ=[Ta,Gh b,x2,x3,x4,x5]) (H' d=some ER) (Keep [d,b] H1 H') (Ex1 λbs=>KW (bs.length≤100*i) (∀s,s∈bs.map (·.1)↔s.2∈(LX i).map (·.1)∧s.1∈ZJ s.2)))
  ⟨⟨_,_,_,_,rfl⟩,zab,HR,[],gJ.keep (xs:=[d]) HR (by simpa using Zk nbd) (λe he=>by cases he),RP,λs=>⟨λh=>(by cases h),λh=>(by cases h.1)⟩⟩
  (λi σ H' _ hh=>hh.2) ?_ ?_⟩
 ·rintro i pr σ H2 ju ⟨⟨x2,x3,x4,x5,rfl⟩,hz,k2,bs,bn,lm,bA⟩
  have hi:i<es.length:=by
   have:=(Tl ju).1
   rwa[Qa]at this
  have g1:pr=((Sum.inr es[i].1:Key),V.ref es[i].2.2):=by
   rw[Qo,Qd hi]at ju
   exact(Qn ju).symm
  subst g1
  have aT:es[i]∈es:=Qs hi
  obtain⟨ay,hln⟩:=hok _ aT
  have gC:ZJ es[i].1=es[i].2.1:=zaw T.nd aT
  have ba:=T1.ro _ aT
  have nrd:es[i].2.2≠d:=zat ba T1.dc Gm
  have nrb:es[i].2.2≠b:=zat ba gJ.dc Gm
  have cP:=k2 _ _ ba (by simp[nrd,nrb])
  refine⟨xc,xc,d,.ref es[i].2.2,rfl,Rf ⟨_,Sum.inr es[i].1,OS ⟨o,hz⟩,rfl,(zb6 T.nd aT).symm⟩,?_⟩
  have ci:es[i].1∉(LX i).map (·.1):=by
   have h1:(es.map (·.1)).take Hj=(es.map (·.1)).take i++[es[i].1]:=by
    rw[Ql (zm hi),Zl]
   have h2:((es.map (·.1)).take Hj).Nodup:=VD T.nd
   rw[h1,Zc,←Ut]at h2
   exact λz=>h2.2.2 _ z _ RU rfl
  refine⟨_,rfl,es[i].2.2,rfl,⟨_,Hy cP⟩,for_enum (xs:=es[i].2.1.map V.str) (λj σ H'=>Aj4 (Ex2 λx4 x5=>σ=[Ta,Gh b,Gz (.str es[i].1),Gz (.ref es[i].2.2),x4,x5]) (H' d=some ER) (Keep [d,b] H1 H') (Ex1 λbs=>KW (bs.length≤100*i+j) (∀s,s∈bs.map (·.1)↔(s.2∈(LX i).map (·.1)∧s.1∈ZJ s.2)∨∃(m:Nat) (hm:m<j) (hp:pidx es[i].2.1.length m<es[i].2.1.length),s=(es[i].2.1[HG m],es[i].1))))
   ⟨⟨_,_,rfl⟩,hz,k2,bs,bn,lm,fun s=>(bA s).trans ⟨.inl,fun h=>by
    rcases h with z | ⟨m,hm,_⟩
    ·exact z
    ·exact absurd hm (Xp m)⟩⟩ (λj σ H' _ hh=>hh.3 _ _ ba (by simp[nrd,nrb])) ?_ ?_⟩
  ·rintro j y t σ H3 hy ⟨⟨y4,y5,rfl⟩,iz,k3,lA,dZ,oq,fQ⟩ ht
   have hj:j<es[i].2.1.length:=by
    have:=(Tl hy).1
    rwa[Qa]at this
   have lX:y=.str es[i].2.1[j]:=by
    rw[Qo,Qd hj]at hy
    exact(Qn hy).symm
   subst lX
   have sA:pidx es[i].2.1.length j<es[i].2.1.length:=by unfold pidx;split<;>lia
   have gZ:=k3 _ _ ba (by simp[nrd,nrb])
   have k4:Keep [] H3 (WU t (.tup [Ht j,.str es[i].2.1[j]])):=Keep.new ht
   refine⟨t,xc,Hy zab,rfl,_,xc,_,xc,rfl,?_⟩
   generalize WU t (.tup [Ht j,.str es[i].2.1[j]])=H4 at k4
   refine⟨xc,xc,Sh,λv hv=>?_⟩
   have k5:Keep [] H4 (QT v (.tup [.str es[i].1,.str es[i].2.1[j]])):=Keep.new hv
   have hv5:(QT v (.tup [.str es[i].1,.str es[i].2.1[j]])) v=some (.tup [.str es[i].1,.str es[i].2.1[j]]):=zab
   generalize QT v (.tup [.str es[i].1,.str es[i].2.1[j]])=H5 at k5 hv5
   have kJ:Keep [] H3 H5:=k4.trans k5
   have sj:=kJ _ _ gZ Gf
   have e9:atI (es[i].2.1.map V.str) ((j:Int)-1)=some (.str es[i].2.1[A7]):=by
    rw[atI_prev (zm hj),Qa,Qo,Qd sA];rfl
   refine⟨xc,xc,xc,_,xc,rfl,es[i].2.2,_,_,xc,rfl,Hy sj,e9,xc,Sh,λq hq=>?_⟩
   have k6:Keep [] H5 (QU q (.tup [.str es[i].2.1[A7],.str es[i].1])):=Keep.new hq
   have mI:(QU q (.tup [.str es[i].2.1[A7],.str es[i].1])) q=some (.tup ((kP (es[i].2.1[A7],es[i].1)).map kV)):=zab
   generalize QU q (.tup [.str es[i].2.1[A7],.str es[i].1])=H6 at k6 mI
   have r8:Keep [] H3 H6:=kJ.trans k6
   have jU:BAt H6 b lA Hw:=dZ.keep r8 Gf He
   have hv6:=k6 _ _ hv5 Gf
   have hz6:=r8 _ _ iz Gf
   refine⟨b,xc,DPut.t jU.dc mI RQ,?_⟩
   have fX:(es[i].2.1[A7],es[i].1)∉lA.map (·.1):=λz=>by
    rcases(fQ _).mp z with⟨z1,_⟩ | ⟨m,hm,hpm,e⟩
    ·exact ci z1
    ·have e1:=(Uz e).1
     have e2:=(Wa ay).mp e1
     unfold pidx at e2
     by_cases hj0:j=0
     ·lia
     ·rw [Rm hj0] at e2
      by_cases gE:m=0
      ·rw[if_pos gE]at e2;lia
      ·rw[if_neg gE]at e2;lia
   have jt:putK (lA.map λe=>(PK,IC)) (kP (es[i].2.1[A7],es[i].1)) (Go v)=(lA++[((es[i].2.1[A7],es[i].1),v)]).map λe=>(PK,IC):=by
    rw[Fj (valT_out fX),Qp];rfl
   have aq:Bo (es[i].2.1[A7],es[i].1)=(es[i].1,es[i].2.1[j]):=by
    show(es[i].1,nxt (ZJ es[i].1) es[i].2.1[A7])=_
    rw[gC,nxt_idx ay hj sA]
   refine⟨⟨_,xc⟩,Gv nbd hz6,(Lu (r8.sub Gf)).trans HR,_,⟨by rw[zab,jt],λe he=>?_,?_⟩,?_,λs=>?_⟩
   ·rcases Qk.mp he with z | z
    ·have:=jU.tp e z
     rw[zaf (zat this jU.dc Gm)];exact this
    ·rw[Qc.mp z,aq,zaf (zat hv6 jU.dc Gm)];exact hv6
   ·rw [Qp,Zc]
    refine⟨dZ.nd,Cr ⟨Gf,Zm⟩,λx hx y hy e=>?_⟩
    have bJ:y=(es[i].2.1[A7],es[i].1):=by simpa using hy
    exact fX (by rw[←bJ,←e];exact hx)
   ·rw[Qz];show _+1≤_;exact zar4 ‹_›
   ·rw [Qp,Qk,fQ]
    constructor
    ·rintro ((z | ⟨m,hm,hp,e⟩) | z)
     ·exact .inl z
     ·exact .inr ⟨m,by exact zar16 ‹_›,hp,e⟩
     ·exact .inr ⟨j,by exact Qg _,sA,Gk z⟩
    ·rintro (z | ⟨m,hm,hp,e⟩)
     ·exact .inl (Rf z)
     ·by_cases hmj:m < j
      ·exact .inl (RG ⟨m,hmj,hp,e⟩)
      ·have:m=j:=by lia
       subst this
       exact .inr (Gp e Qb)
  ·rintro σ H3 ⟨⟨y4,y5,rfl⟩,iz,k3,lA,dZ,oq,fQ⟩
   rw[Qa]at fQ oq
   refine⟨⟨_,_,_,xc⟩,iz,k3,lA,dZ,Gg,λs=>(fQ s).trans ?_⟩
   have aJ:(LX Hj).map (·.1)=(LX i).map (·.1)++[es[i].1]:=by rw[Ql hi,Qp];rfl
   rw[aJ,Qk,Qc]
   constructor
   ·rintro (⟨z1,z2⟩ | ⟨m,hm,hp,e⟩)
    ·exact⟨Rf z1,z2⟩
    ·rw[e];exact⟨RG rfl,by rw[gC];exact Qs hp⟩
   ·rintro ⟨z1 | z1,z2⟩
    ·exact .inl ⟨z1,z2⟩
    ·refine .inr ?_
     rw[z1,gC]at z2
     obtain⟨q,hq,e⟩:=Zr z2
     by_cases fO:q+1<es[i].2.1.length
     ·have eU:pidx es[i].2.1.length (q+1) < es[i].2.1.length:=by unfold pidx;rw [ym];assumption
      refine⟨q+1,fO,eU,Wz ?_ z1⟩
      show s.1=es[i].2.1[HG (q+1)]
      rw[←e];congr 1
     ·have eU:pidx es[i].2.1.length 0 < es[i].2.1.length:=by unfold pidx;rw [CZ];lia
      refine⟨0,Gg,eU,Wz ?_ z1⟩
      show s.1=es[i].2.1[HG 0]
      rw[←e];congr 1
      unfold pidx;rw[if_pos rfl];lia
 ·rintro σ H2 ⟨⟨x2,x3,x4,x5,rfl⟩,hz,k2,bs,bn,lm,bA⟩
  rw[Qa]at bA lm
  rw[Qt GV]at bA
  refine⟨d,o,_,hz,nfz,?_⟩
  have kf:Keep [] H O6:=λc u ec _=>by
   have nc:c≠b:=W1 hb
   by_cases aD:c=d
   ·subst aD
    rw[zab,←T.dc];exact ec
   ·rw [zaf aD]
    exact k2 c u Ob (by simp[aD,nc])
  refine⟨xc,k b bs _ (bn.keep (xs:=[d]) HR (by simpa using Zk nbd) (λe he=>by simpa using zat (bn.tp e he) hz Gm)) (λs=>?_) Gg hb kf⟩
  rw[bA]
  constructor
  ·exact λh=>h.2
  ·intro h
   refine⟨?_,h⟩
   obtain⟨p,hp,e,_⟩:=(ziv (rs:=rsOf es) (by unfold rsOf;rw[List.map_map];exact T.nd)).mpr h
   obtain⟨en,bB,rfl⟩:=Qh.mp hp
   exact Qh.mpr ⟨en,bB,e⟩
end
abbrev sFaces:Stmt:=top 13
def zdk(H:Hp)(a:Nb)(h:Str):Prop:=∃t:List Str,H a=some (Gw ((h::t).map V.str))
def zff(es:List Ent):List Str:=(es.filter λe=>e.2.1.isEmpty).map (·.1)
inductive IspFaces(vs:List V)(H:Hp)(Q:VK):Prop
 |mk (d:Nb) (es:List Ent) (cs:List (List (Str×Str))) (a9:Nx) (h0:vs=[.ref d]) (h1:TAt H d es) (h2:es.length≤60) (h3:(∀e∈es,e.2.1.length≤100)) (h4:Cert (es.map (·.1)) (row (rsOf es)) cs a9) (h5:∀(l:Nb) (as:Nn) (hd hc:Ng) (cs':List (List (Str×Str))) (H':Hp),H' l=some (.lst (as.map V.ref))→as.length≤20000→Paired (zdk H') as hd→hd.Perm (zff es++hc)→cs'.Perm cs→Paired (λh c=>∃s∈c,s.1=h) hc cs'→Keep [] H H'→Q RH H'):IspFaces vs H Q
def spFaces:Sp:=λvs H Q _=>IspFaces vs H Q
def pt_truthK{X:Cx}{K:Na}{a:Expr}{ta:TE}(hK:X.K=K)(ha:Tr)(he:∀whole,isTrue a X.env whole=(do let v ←whole;standAt a.pos;holding [v] IV)) :
  PT X a (λ σ H Q=>ta σ H λx H'=>RTr K x H' Q):=hK▸zer ha he
def ndF:(["place", "rounds"]:List Str).Nodup:=by decide +kernel
def valG_out{gs:Nt}{s:Str×Str}(h:s∉gs):valV (gs.map λs=>(AO,Tp)) AO=none:=by
 induction gs with
 |nil=>rfl
 |cons a t ih =>
  rw[Qf,not_or]at h
  rw[Qm,zbm]
  ·exact ih h.2
  ·intro q;exact h.1 (kP_inj q).symm
def valG_in{gs:Nt}{s:Str×Str}(h:s∈gs):valV (gs.map λs=>(AO,Tp)) AO=some S1:=by
 induction gs with
 |nil=>cases h
 | cons a t ih =>
  rw[Qm]
  by_cases e:a=s
  ·exact zcg (by rw[e])
  ·rw [zbm (fun q=>e (kP_inj q))]
   rcases Qf.mp h with z | z
   ·exact absurd z.symm e
   ·exact ih z
def lk_get{β:Type}{f:β→β}{e:β}:∀{t:List β} {s:β},K9 e→∀k,k<(s::t).length→f ((s::t).getD k e)=(s::t).getD (k+1) e:=by
 intro t
 induction t with
 |nil =>
  intro s h k hk
  have:k=0:=by simp at hk;exact hk
  subst this;exact h
 | cons a t ih =>
  intro s h k hk
  cases k with
  |zero=>exact h.1
  |succ n =>
   have:=ih h.2 n yB
   simpa using this
def zda{H H':Hp}{D g:Nb}{fa:Nn}{hd:Ng}{xs:Nn}(k:W3 H')(h:Paired (zdk H) fa hd)(hx:∀a (h:Str) (t:Ng),H a=some (Gw ((h::t).map V.str))→a∉xs):DU hd :=
 Paired.imp' (λa h ⟨t,e⟩=>⟨t,k _ _ e (hx a h t e)⟩) h
def zav{α β:Type}{R:α→β→Prop}:∀{as cI:List α} {bs lB:List β},YT as bs→YT cI lB→YT (as++cI) (bs++lB):=by
 intro as cI bs lB r r'
 induction r with
 |nil=>exact r'
 |cons h t ih=>exact .cons h ih
section
variable{P:Nk}{w:Nl}{K:Na}{mg:Nd}{base:No}
def zdc:zak ["rounds", "behind", "found", "gone", "first", "face", "step"] ["rounds"] (zai sFaces):=fsk
def ok_faces{f fs:Nb}{fd fds:Nv}(F:QD "faces_of" "faces_of" sFaces f fd)(FS:QD "steps_behind" "steps_behind" sSteps fs fds)(bS:WK fds ["rounds"] [])(mS:mg "steps_behind" = some (Go fs))(GS:ZB 1 fs fds ["rounds"] spSteps)(aR:mg "sorted" = none):ZB 2 f fd ["rounds"] spFaces:=by
 refine F.okL zdc Gn
 obtain⟨d,es,cs,a9,rfl,T,aN,bp,C,k⟩:=h
 have hu:=zcd hr
 have eQ:(A.deeper (PyProof.Rows.envOfC "faces_of" (zai sFaces) s.heap.objs.size f cdv)).units+8<cLine:=Jo (Nat.add_le_add_left (by decide:8≤64) _) hr.units
 have ar  := sizeLine_eq
 refine⟨_,zad (MR zdc.nd (zcu GS hr rfl mS FS.kp bS .nil zcq Sj))
  (zad (zgh (ps_lc (i:=2) (M:=["place", "rounds"]) (ix:=[none,Gz 0]) zdc.nd rfl rfl (mkB zdc) rfl EQ (λC a5 ex s H=>JA ndF)
    (λC a5 ex s H=>zcs (pt_not (pt_truthK (K:=K) rfl (zq (by exact hu) HQ) (by intro _;rfl)))) (λC a5 ex s H=>zbi Sj) rfl))
  (zad (B8 zdc.nd pe_dnewT)
  (zad (Z0 (zao (Cs (zg9 rfl) RZ)) (MS zdc.nd)
   (zad (Mm zdc.nd So)
   (zad (Do zdc.nd Rx)
   (zad (DV (PN TF RA)
    (zad (Bn RA TF pe_bl rfl)
    (zad (zba (WQ RD (LA (SS (pv 6)))))
    (zag (Do zdc.nd (Mn HQ TF))))))
   (zag (zby (zer RD (by intro _;rfl)) (zag (Cq Rz TZ)) zau))))))
  (zag (zax (Cs (zfi eQ) RV)))))),?_⟩
 have ap:∀e∈es,ZJ e.1=e.2.1:=λe he=>zaw T.nd he
 refine⟨xc,d,es,rfl,T,aN,λe he=>⟨ap e he▸C.rn e.1,bp e he⟩,λb bs H1 gJ bA lm hbfr k1=>?_⟩
 have T1:TAt H1 d es:=MT Gf He
 have nfz:∀o' u',H d≠some Ss:=λo' u' z=>by rw[T.dc]at z;cases z
 refine⟨_,rfl,d,_,rfl,T1.dc,λo=>⟨λi m ys τ H2=>Aj6 (m=es.length-i) (i≤es.length) (Ex1 λx0=>τ=[x0,Ta]) (H2 d=some ER) (Keep [d] H1 H2) (Ex1 λ(as:Nn)=>Aj3 (ys=as.map V.ref) (as.length≤i) (zr (zdk H2) (zff (LX i)))),
  ⟨es.length,rfl,RP,⟨none,rfl⟩,zab,L7,[],rfl,RP,.nil⟩,?_⟩⟩
 rintro i m ys τ H2 ⟨rfl,hi,⟨x0,rfl⟩,hz,k2,fa,rfl,ic,kT⟩
 by_cases ad:i<es.length
 ·refine .inr ⟨⟨hz,by rw [Qa];exact ad⟩,by rw [Qa];lia,?_⟩
  rintro y H' ⟨rfl,pr,e1,rfl⟩
  have g1:pr=((Sum.inr es[i].1:Key),V.ref es[i].2.2):=by
   rw[Qo,Qd ad]at e1
   exact(Qn e1).symm
  subst g1
  have aT:es[i]∈es:=Qs ad
  have eR:=T1.ro _ aT
  have nri:es[i].2.2≠d:=zat eR T1.dc Gm
  have cP:=k2 _ _ eR (Gk nri)
  have aJ:es.take Hj=es.take i++[es[i]]:=Ql ad
  refine⟨xc,xc,d,.ref es[i].2.2,rfl,Rf ⟨_,Sum.inr es[i].1,OS ⟨o,hz⟩,rfl,(zb6 T.nd aT).symm⟩,_,OS (Rf ⟨_,Hy cP,rfl⟩),?_⟩
  have qa:(es[i].2.1.map V.str).isEmpty=es[i].2.1.isEmpty:=by cases es[i].2.1<;>rfl
  cases hb:es[i].2.1.isEmpty with
  | false =>
   refine zbk (by rw[qa,hb];rfl) ⟨_,?_,rfl,ad,⟨_,rfl⟩,hz,k2,fa,rfl,by exact zar16 ‹_›,?_⟩
   ·exact zar1 ‹_›
   ·unfold zff
    rw[aJ,Yx,Zt (by rw[hb];decide),Wo,Zx];exact kT
  | true =>
   refine zbt (by rw[qa,hb];rfl) ⟨_,rfl,Ib,λq hq=>⟨_,?_,rfl,ad,⟨_,rfl⟩,?_,S5 CO,fa++[q],?_,?_,?_⟩⟩
   ·exact zar1 ‹_›
   ·rw[zaf (Mo hq)];exact hz
   ·rw[Qp];rfl
   ·rw[Qz];show _+1≤_;exact zar4 ‹_›
   ·unfold zff
    rw[aJ,Yx,Zs (by rw[hb]),Wo,Qp]
    exact zav (zda (D:=d) (g:=d) (xs:=[]) CO kT (λ_ _ _ _=>by simp)) (Rk ⟨[],zab⟩)
 ·have cp:i=es.length:=by exact zar3 ‹_› ‹_›
  subst cp
  rw[Qt GV]at kT
  refine .inl ⟨⟨hz,Hx Qa⟩,λD hD=>?_⟩
  have ndD:d≠D:=Mo hD
  refine⟨d,o,_,AQ,nfz,?_⟩
  have k3:Keep [] H1 (W7 G'):=λc u ec _=>by
   by_cases aD:c=d
   ·subst aD
    rw[zab,←T1.dc];exact ec
   ·have oO:=k2 c u ec (Gk aD)
    rw[zaf aD,zaf (zac oO hD)];exact oO
  have c8:(W7 G') D=some zt:=by rw[zaf (Zk ndD)];exact zab
  have cR:Paired (zdk (W7 G')) fa (zff es):=Paired.imp' (λa h ⟨t,e⟩=>⟨t,by
   rw[zaf (zat e hz Gm),zaf (XG hD)];exact e⟩) kT
  generalize W7 G'=H3 at k3 c8 cR
  have dZ:BAt H3 b bs Hw:=gJ.keep k3 Gf He
  refine λg hg=>?_
  have k4:Keep [] H3 (WU g (.dT [])):=Keep.new hg
  have hg4:(WU g (.dT [])) g=some (.dT []):=zab
  generalize WU g (.dT [])=H4 at k4 hg4
  have ow:BAt H4 b bs Hw:=dZ.keep k4 Gf He
  refine⟨xc,b,_,bs.map (·.1),rfl,ow.dc,(by rw[Zj,Zj];rfl),λl as ws hl aj pa=>?_⟩
  have k5:Keep [] H4 (QT l HW):=Keep.new hl
  have cF:(QT l HW) l=some HW:=zab
  have kD:zbq (QT l HW) as ws:=zbq.keep pa λc x y ec=>k5 _ _ ec Gf
  have nDl:D≠l:=zac (k4 _ _ c8 Gf) hl
  generalize QT l HW=H5 at k5 cF kD
  have kJ:Keep [] H3 H5:=k4.trans k5
  have oG:=kJ _ _ c8 Gf
  have nU:=k5 _ _ hg4 Gf
  have iS:BAt H5 b bs Hw:=ow.keep k5 Gf He
  have hZ:Paired (zdk H5) fa (zff es):=zda (D:=d) (g:=d) kJ cR (λ_ _ _ _=>by simp)
  have gv:Keep [] H H5:=(SQ k3).trans kJ
  have nlg:l≠g:=zat cF nU Gm
  have nDg:D≠g:=zat oG nU Gm
  have nbg:b≠g:=zac dZ.dc hg
  have nbD:b≠D:=zat iS.dc oG Gm
  have bo:as.length=ws.length:=Zy kD
  have dz:ws.length≤10000:=by rw[aj.length_eq,Qa];exact lm
  have notDg:∀{H':Hp} {qo:Nn} {gs:Nt},H' D=some (Gw (qo.map V.ref))→H' g=some (.dT (gs.map λs=>(AO,Tp)))→∀a (h:Str) (t:Ng),H' a=some (Gw ((h::t).map V.str))→a≠D∧a≠g:=λ{H' qo gs} e1 e2 a h t e =>
   ⟨zat e e1 (by
    intro z
    have z':(h::t).map V.str=qo.map V.ref:=by injection z
    cases qo with
    |nil=>cases z'
    |cons x u=>rw[Qm,Qm]at z';injection z' with z1 _;cases z1),zat e e2 Gm⟩
  refine⟨l,rfl,⟨_,Gs cF⟩,zbb (xs:=as.map V.ref) (λi σ H'=>Aj3 (Ex3 λx4 x5 x6=>σ=[Ta,Gh b,Gh D,Gh g,x4,x5,x6]) (Keep [D,g] H5 H') (Ex5 λ(gs:Nt) (dn rem:xa (Str×Str)) (fa:Nn) (hc:Ng)=>Aj9 (H' g=some (.dT (gs.map λs=>(AO,Tp)))) gs.Nodup (∀s,s∈gs↔s∈dn.flatten) (cs.Perm (dn++rem)) (∀s∈ws.take i,s∈gs) (H' D=some zt) (DU (zff es++hc)) (Paired (λh c=>∃s∈c,s.1=h) hc dn) (fa.length≤100+i)))
   ⟨⟨_,_,_,rfl⟩,Keep.refl,[],[],cs,fa,[],nU,Zm,λs=>Iff.rfl,List.Perm.refl _,λs hs=>(by cases hs),oG,Gp Zx hZ,.nil,Gg⟩
   (λi σ H' _ hh=>SqL.of (L6 cF (by simp[Zk nDl,nlg]))) ?_ ?_⟩
  ·rintro i y σ H6 hx ⟨⟨x4,x5,x6,rfl⟩,k6,gs,dn,rem,oK,oo,tz,tu,jK,f8,pB,qe,hX,aD,o0⟩
   have hi:i<as.length:=by
    have:=(Tl hx).1
    rwa[Qa]at this
   have gS:y=.ref as[i]:=by
    rw[Qo,Qd hi]at hx
    exact(Qn hx).symm
   subst gS
   obtain⟨ao,jW⟩:=zay kD hi
   have nag:as[i]≠g:=zat jW nU Gm
   have naD:as[i]≠D:=zat jW oG Gm
   have oC:=k6 _ _ jW (by simp[nag,naD])
   have gA:ws[i]∈ws:=Qs ao
   have pN:ws[i].1∈ZJ ws[i].2:=(bA _).mp (aj.mem_iff.mp gA)
   have hwt:∀{qk:Nt},(∀s∈gs,s∈qk)→ws[i]∈qk→∀s∈ws.take Hj,s∈qk:=λ{qk} h1 h2 s hs=>by
    rw[Ql ao]at hs
    rcases Qk.mp hs with z | z
    ·exact h1 s (pB s z)
    ·rw[Qc.mp z];exact h2
   refine⟨TC,λfl gc=>?_⟩
   have k7:Keep [] H6 (YF fl Hk):=Keep.new gc
   have bU:(YF fl Hk) fl=some Hk:=zab
   have nfD:fl≠D:=Zk (zac qe gc)
   have nfg:fl≠g:=Zk (zac tz gc)
   have nafl:as[i]≠fl:=zac oC gc
   generalize YF fl Hk=H7 at k7 bU
   have nQ:=k7 _ _ tz Gf
   have u9:=k7 _ _ qe Gf
   have oB:=k7 _ _ oC Gf
   have gR:Keep [D,g] H5 H7:=k6.trans Il
   have tU:BAt H7 b bs Hw:=iS.keep gR (by simp[nbD,nbg]) λe he=>by
    have h1:=iS.tp e he
    simp[KN oG Gm,KN nU Gm]
   have nbfl:b≠fl:=zat tU.dc bU Gm
   have mQ:Paired (zdk H7) oK (zff es++oo):=zda (D:=d) (g:=d) k7 hX (λ_ _ _ _=>by simp)
   refine⟨xc,?_⟩
   by_cases fW:ws[i]∈gs
   ·-- it is gone already
    refine⟨λm σ H'=>Aj2 (σ=[Ta,Gh b,Gh D,Gh g,Gz (.ref as[i]),Gh fl,Gz (.ref as[i])]) (H'=H7),⟨0,rfl,rfl⟩,?_⟩
    rintro m σ H' ⟨rfl,rfl⟩
    have dg:=DGet.t (k:=kP ws[i]) nQ oB
    rw[valG_in fW]at dg
    refine⟨xc,xc,g,xc,dg,xc,W0 ?_⟩
    refine⟨xc,_,Rf ⟨_,Gs bU,rfl⟩,W0 ?_⟩
    exact⟨⟨_,_,xc⟩,gR,gs,dn,rem,oK,oo,nQ,tu,jK,f8,hwt (λ_ h=>h) fW,u9,mQ,aD,by exact zar16 ‹_›⟩
   ·-- a new cycle
    obtain⟨c,cu,mt⟩:=Zu.mp ((C.cm ws[i]).mpr pN)
    obtain⟨A1,B1,eF⟩:=Yl mt
    have kY:=zc3 (eF▸Bl cu)
    generalize hL:ws[i]::(B1++A1)=L
    have di:L.Perm c:=by
     rw[←hL,eF]
     refine Jh.mpr λa=>?_
     simp only[Jv,Ki];lia
    have bQ:=(List.Perm.flatten f8).nodup_iff.mp C.cf
    rw[Wm,Zc]at bQ
    have iQ:c∈rem:=by
     rcases Qk.mp (f8.mem_iff.mp cu) with z | z
     ·exact absurd ((jK _).mpr (AM ⟨c,z,mt⟩)) fW
     ·exact z
    have hLg:∀s∈L,s∉gs:=λs hs hg=>by
     exact absurd rfl (bQ.2.2 s ((jK s).mp hg) s (AM ⟨c,iQ,zV hs⟩))
    have oF:L.Nodup:=by
     rw[di.nodup_iff]
     have:=(zb0 cu).nodup_iff.mp C.cf
     rw[Zc]at this
     exact this.1
    have oE:∀s∈L,s.1∈ZJ s.2:=λs hs=>C.inc cu (zV hs)
    have hLpos:0<L.length:=by rw[←hL];simp
    have aW:gs++L |>.Nodup:=Zc.mpr ⟨tu,oF,λa ha b' e7 e=>hLg b' e7 (e▸ha)⟩
    have hsz:(gs++L).length≤10000:=by
     refine Ze (nodup_len aW (m:=bs.map (·.1)) λs hs=>?_) (zm lm)
     rcases Qk.mp hs with z | z
     ·obtain ⟨c',cv,bv⟩:=Zu.mp ((jK s).mp z)
      exact(bA s).mpr (C.inc (f8.mem_iff.mpr (YG cv)) bv)
     ·exact(bA s).mpr (oE s z)
    rw[Qz]at hsz
    have i9:∀k (hk:k<L.length),Bo L[k]=L.getD (k+1) ws[i]:=λk hk=>by
     have:=lk_get kY k (Gp hL hk)
     rw[hL,Zd,Qd hk]at this
     exact this
    refine⟨λm σ H'=>Ex2 λ(k:Nat) (t:Nb)=>Aj7 (m=L.length-k) (k≤L.length) (σ=[Ta,Gh b,Gh D,Gh g,Gz (.ref as[i]),Gh fl,Gh t]) (Keep [g,fl] H7 H') (H' g=some (CI k)) (H' fl=some (Ra k)) (H' t=some (.tup [.str (L.getD k ws[i]).1,.str (L.getD k ws[i]).2])),
     ⟨_,0,as[i],rfl,RP,rfl,Keep.refl,by rw[List.take_zero,Zx];exact nQ,bU,by rw[←hL];exact oB⟩,?_⟩
    rintro m σ H8 ⟨k8,t,rfl,hk8,rfl,gO,nP,gb,cZ⟩
    have dg:=DGet.t (k:=kP (L.getD k8 ws[i])) nP cZ
    by_cases dP:k8<L.length
    ·have gh:L.getD k8 ws[i]=L[k8]:=by rw [Zd,Qd dP];rfl
     have aJ:L.take (k8+1)=L.take k8++[L[k8]]:=Ql dP
     have ci:L[k8]∉gs++L.take k8:=λz=>by
      rcases Qk.mp z with q | q
      ·exact hLg _ (Qs dP) q
      ·have:=Yy (Uo (k8+1) L) oF
       rw[aJ,Zc]at this
       exact this.2.2 _ q _ RU rfl
     rw[gh]at cZ dg
     rw[valG_out ci]at dg
     refine⟨xc,xc,g,xc,dg,xc,UL ?_⟩
     refine⟨_,λ σ' H' z=>z,?_⟩
     have np:(Hg k8).length<sizeLine:=by
      rw[Qa,Qz,Zq];lia
     refine⟨xc,xc,g,xc,DPut.t (k:=kP L[k8]) nP cZ np,?_⟩
     have jt:putK (Hg k8) (kP L[k8]) S1=(gs++L.take (k8+1)).map λs=>(AO,Tp):=by
      rw[Fj (valG_out ci),aJ,←Qx,Qp (l₂:=[L[k8]])];rfl
     rw[jt]
     have ntg:t≠g:=zat cZ nP Gm
     have ntfl:t≠fl:=zat cZ gb Gm
     have k9:Keep [g,fl] H7 (KO g (CI (k8+1))):=gO.trans HR
     have hg9:(KO g (CI (k8+1))) g=some (CI (k8+1)):=zab
     have jM:(KO g (CI (k8+1))) fl=some (Ra k8):=by rw[zaf nfg];exact gb
     have iE:(KO g (CI (k8+1))) t=some (.tup [.str L[k8].1,.str L[k8].2]):=by rw[zaf ntg];exact cZ
     generalize KO g (CI (k8+1))=H9 at k9 hg9 jM iE
     refine⟨xc,HX jM,xc,t,_,_,xc,rfl,Hy iE,za3 (j:=0) rfl,fl,_,xc,rfl,jM,(by rw[Qa,Qa,Zq];lia),?_⟩
     have hfe:((L.take k8).map (·.1)).map V.str++[V.str L[k8].1]=((L.take (k8+1)).map (·.1)).map V.str:=by rw[aJ,Qp,Qp];rfl
     rw[hfe]
     have lR:Keep [g,fl] H7 (Vs (Ra (k8+1))):=k9.trans HR
     have nV:(Vs (Ra (k8+1))) g=some (CI (k8+1)):=by rw[zaf (Zk nfg)];exact hg9
     have iN:(Vs (Ra (k8+1))) fl=some (Ra (k8+1)):=zab
     have ml:(Vs (Ra (k8+1))) t=some (.tup [.str L[k8].1,.str L[k8].2]):=by rw[zaf ntfl];exact iE
     generalize Vs (Ra (k8+1))=gq at lR nV iN ml
     have jV:BAt gq b bs Hw:=tU.keep lR (by simp[nbg,nbfl]) λe he=>by
      have h1:=tU.tp e he
      simp[KN nQ Gm,KN bU Gm]
     obtain⟨e,he,hee⟩:=Qh.mp ((bA L[k8]).mpr (oE _ (Qs dP)))
     have dg2:=DGet.t (k:=kP L[k8]) jV.dc ml
     rw[←hee,valT_in jV.nd he]at dg2
     have jh:=jV.tp e he
     rw[hee,i9 k8 dP]at jh
     refine⟨xc,xc,b,xc,dg2,L.length-(k8+1),Ha,k8+1,e.2,rfl,dP,rfl,lR,nV,iN,jh⟩
    ·have hk:k8=L.length:=by exact zar3 ‹_› ‹_›
     subst hk
     have gh:L.getD L.length ws[i]=ws[i]:=by rw[Zd,Ka GV];rfl
     rw[Qt GV]at nP gb dg
     have hwL:ws[i]∈L:=by rw[←hL];exact Qb
     rw[gh,valG_in (WC hwL)]at dg
     refine⟨xc,xc,g,xc,dg,xc,W0 ?_⟩
     have ax:((L.map (·.1)).map V.str).isEmpty=false:=by rw[←hL];rfl
     refine⟨xc,_,Rf ⟨_,Gs gb,rfl⟩,zbt (by rw[ax];rfl) ?_⟩
     have hD8:=gO _ _ u9 (by simp[nDg,Zk nfD])
     refine⟨xc,HX hD8,xc,D,_,xc,rfl,hD8,RQ,?_⟩
     have k9:Keep [D,g] H5 (KO D (.lst (oK.map V.ref++[Go fl]))):=by
      refine Keep.trans (λc' u' ec cv=>?_) HR
      have h7:=gR c' u' ec cv
      refine gO c' u' h7 ?_
      have ncg:c'≠g:=λz=>cv (by simp[z])
      have ncf:c'≠fl:=λz=>by
       have:=k6 c' u' ec cv
       rw[z,gc]at this;cases this
      simp[ncg,ncf]
     refine⟨⟨_,_,xc⟩,k9,gs++L,dn++[c],rem.erase c,oK++[fl],oo++[ws[i].1],P5 nDg nP,aW,λs=>?_,?_,hwt (λs hs=>YG hs) (WC hwL),by rw[zab,Qp];rfl,?_,zav aD (Rk ⟨ws[i],mt,rfl⟩),by rw[Qz];show _+1≤_;exact zar4 ‹_›⟩
     ·rw[Qk,jK,Wm,Qk,Yq,List.flatten_nil,Zx,di.mem_iff]
     ·refine f8.trans ?_
      rw[Qx]
      exact V' (Kf iQ)
     ·rw [← Qx]
      refine zav (Paired.imp' (λa h ⟨t,e⟩=>⟨t,?_⟩) mQ) (Rk ⟨(B1++A1).map (·.1),?_⟩)
      ·have n1:=notDg u9 nQ a h t e
       have naf:a≠fl:=zat e bU (by intro z;injection z with z;cases z)
       rw[zaf n1.1]
       exact gO _ _ e (by simp[n1.2,naf])
      ·rw[zaf nfD,gb,←hL];rfl
  ·rintro σ H6 ⟨⟨x4,x5,x6,rfl⟩,k6,gs,dn,rem,oK,oo,tz,tu,jK,f8,pB,qe,hX,aD,o0⟩
   rw[Qa,bo,Qt GV]at pB
   have sm:rem=[]:=by
    cases rem with
    |nil=>rfl
    |cons c rem' =>
     have om:c∈cs:=f8.mem_iff.mpr C4
     obtain⟨s0,t0,gI,_⟩:=Bl om
     have ar:s0∈c:=by rw[gI];exact Qb
     have h1:s0∈ws:=aj.mem_iff.mpr ((bA s0).mpr (C.inc om ar))
     have h2:=(jK s0).mp (pB s0 h1)
     have h3:=(List.Perm.flatten f8).nodup_iff.mp C.cf
     rw[Wm,Zc]at h3
     exact absurd rfl (h3.2.2 s0 h2 s0 (AM ⟨c,Qb,ar⟩))
   rw[sm,Zx]at f8
   refine⟨xc,D,xc,Gs qe,λv hv=>?_,λl7 ws7 bz jx=>?_⟩
   ·obtain ⟨a,ha,rfl⟩:=Qh.mp hv
    obtain⟨j,hj,rfl⟩:=Zr ha
    obtain⟨_,t,e⟩:=zay hX hj
    exact⟨_,xc,e⟩
   ·obtain ⟨as7,rfl,aS⟩:=refs_perm jx
    obtain⟨hd7,da,bY⟩:=zei aS hX
    refine k l7 as7 hd7 oo dn _ zab (by rw[aS.length_eq];rw[Qa]at o0;lia) (Paired.imp' (λa h ⟨t,e⟩=>⟨t,Gv (XG bz) e⟩) bY) da f8.symm aD ?_
    refine(λc u ec _=>?_)
    have nD:c≠D:=λz=>by
     by_cases zd:c=d
     ·exact ndD (zd▸z)
     ·have h2:=k2 c u Ob (Gk zd)
      rw[z,hD]at h2;cases h2
    have nG:c≠g:=λz=>by
     have h1:=k3 c u Ob Gf
     rw[z,hg]at h1;cases h1
    have:=k6 c u (gv c u ec Gf) (by simp[nD,nG])
    rw[zaf (zac this bz)];exact this
end
abbrev zhf:Stmt:=top 14
abbrev zib:Stmt:=top 15
def marks(ks:Ng):List (Key×V):=ks.map λz=>((Sum.inr z:Key),Tp)
def zh1(h:x∉ks):valV (marks ks) CY=none:=by
 unfold marks
 induction ks with
 |nil=>rfl
 |cons a t ih =>
  rw[Qf,not_or]at h
  rw[Qm,zbm]
  ·exact ih h.2
  ·intro q;exact h.1 (Wd q).symm
def valM_in(h:x∈ks):valV (marks ks) CY=some S1:=by
 unfold marks
 induction ks with
 |nil=>cases h
 | cons a t ih =>
  rw[Qm]
  by_cases e:a=x
  ·exact zcg (by rw[e])
  ·rw [zbm (fun q=>e Pb)]
   rcases Qf.mp h with z | z
   ·exact absurd z.symm e
   ·exact ih z
def putM_new(h:x∉ks):VZ S1=marks (ks++[x]):=by
 rw[Fj (zh1 h)];unfold marks;rw[List.map_append];rfl
def putM_old(h:x∈ks):VZ S1=marks ks:=by
 unfold putK marks
 rw[if_pos]
 ·rw [Zj]
  refine Zz λz _=>?_
  show(if(Sum.inr z:Key)=Sum.inr x then((Sum.inr z:Key),Tp) else(OU,Tp))=_
  split<;>rfl
 ·exact Yb.mpr ⟨_,Ts ⟨x,h,rfl⟩,Gf⟩
def mkeys(ks:Ng):((marks ks).map λp=>kV p.1)=ks.map V.str:=by unfold marks;rw[List.map_map];rfl
inductive IspPiece(vs:List V)(H:Hp)(Q:VK):Prop
 |mk (d:Nb) (es:List Ent) (cs:List (List (Str×Str))) (a9:Nx) (x:Str) (h0:vs=[.ref d,.str x]) (h1:TAt H d es) (h2:es.length≤60) (h3:Cert (es.map (·.1)) (row (rsOf es)) cs a9) (h4:x∈es.map (·.1)) (h5:∀(l:Nb) (zs:Ng) (H':Hp),H' l=some (.lst (zs.map V.str))→zs.Nodup→zs.Pairwise leS→(∀y,y∈zs↔y∈es.map (·.1)∧a9 y=a9 x)→H l=none→Keep [] H H'→Q (.ref l) H'):IspPiece vs H Q
def spPiece:Sp:=λvs H Q _=>IspPiece vs H Q
def seqO(b:Bool)(xs:List V):HO:=bif b then .tup xs else .lst xs
structure GAt(b:Bool)(H:Hp)(d:Nb)(es:List Ent):Prop where
 dc:H d=some G'
 ro:∀e∈es,H e.2.2=some (seqO b LR)
 nd:(es.map (·.1)).Nodup
def GAt.keep(r:GAt b H d es)(k:W3 H')(hd:d∉xs)(h:∀e∈es,e.2.2∉xs):GAt b H' d es:=⟨P4,λe he=>k _ _ CG (h e he),r.nd⟩
def SqB(b:Bool)(K:Na)(H:Hp)(a:Nb)(xs:List V):Prop:=bif b then JP xs else YM xs
def ItB(b:Bool)(K:Na)(a:Nb):It:=bif b then Fe a else K1 a
def SqB.of{b:Bool}{K:Na}{H:Hp}{a:Nb}{xs:List V}(h:H a=some (seqO b xs)):Fm H a xs:=by
 cases b
 ·exact SqL.of h
 ·exact SqT.of h
def GAt.sq{b:Bool}{K:Na}{H:Hp}{d:Nb}{es:List Ent}{e:Ent}(r:GAt b H d es)(he:e∈es):Fm H e.2.2 LR:=SqB.of CG
def iB(b:Bool)(K:Na)(tl:TE):TI:=λ σ H R=>tl σ H λx H1=>RI1 x (λa=>∃xs,Fm H1 a xs) λa=>R (Fn a) H1
def pi_b(b:Bool){X:Cx}{tg l:Expr}{tl:TE}(hl:Ov):UU l (iB b X.K tl):=by
 cases b
 ·exact zao hl
 ·exact pi_tup hl
def for_b(b:Bool){K:Na}{a:Nb}{xs:List V}{g:TG}{tb:TS}{D:Ends}{σ:St}{H:Hp}(Pv:Nat→St→Hp→Prop)(h0:Cl)(hl:∀i σ H,i≤xs.length→Pv i σ H→Fm H a xs)(hs:∀i x σ H,xs[i]?=some x→Pv i σ H→g x σ H λ σ2 H2=>tb {D with nx:=Pv Hj,ct:=Pv Hj,bk:=D.nx} σ2 H2)(hd:∀σ H,Pv xs.length σ H→YB H) :
  ∃W:Nat→Nat→St→Hp→Prop,(∃m,W 0 m σ H)∧∀i m σ H,W i m σ H →
   ((Fn a).stop i H∧YB H)∨((Fn a).go i H∧∃N:St→Hp→Prop,GZ∧∀x H',(Fn a).yld i H x H'→g x σ H' λ σ2 H2=>tb {D with nx:=N,ct:=N,bk:=D.nx} σ2 H2):=by
 cases b
 ·exact zbb Pv h0 hl hs hd
 ·exact for_tup Pv h0 hl hs hd
inductive IspPieceG(b:Bool)(vs:List V)(H:Hp)(Q:VK):Prop
 |mk (d:Nb) (es:List Ent) (x:Str) (h0:vs=[.ref d,.str x]) (h1:GAt b H d es) (h2:es.length≤60) (h3:∀z y,y∈row (rsOf es) z→y∈es.map (·.1)) (h4:x∈es.map (·.1)) (h5:∀(l:Nb) (zs:Ng) (H':Hp),H' l=some (.lst (zs.map V.str))→zs.Nodup→zs.Pairwise leS→(∀y,y∈zs↔Conn (row (rsOf es)) x y)→H l=none→Keep [] H H'→Q (.ref l) H'):IspPieceG b vs H Q
def spPieceG(b:Bool):Sp:=λvs H Q _=>IspPieceG b vs H Q
section
variable{P:Nk}{w:Nl}{K:Na}{mg:Nd}{base:No}
def zgd:zak ["rounds", "start", "reached", "waiting", "place", "other"] ["rounds", "start"] (zai zhf):=fsk
def ok_pieceG(b:Bool){f:Nb}{fd:Nv}(F:QD "piece_from" "piece_from" zhf f fd)(aR:mg "sorted" = none):ZB 1 f fd ["rounds", "start"] (spPieceG b):=by
 refine F.okL zgd Gn
 obtain⟨d,es,x,rfl,T,aN,gl,hx,k⟩:=h
 have hu:=zcd hr
 have ar  := sizeLine_eq
 refine⟨_,zad (Mp zgd.nd (pe_disp (pps_cons HQ pe_bl pps_nil) rfl rfl Gj Gj))
  (zad (B8 zgd.nd (zbi RZ))
  (zad (DV (zer RA (by intro _;rfl))
   (zad (BD zgd.nd (pe_bm0 Zp PySem.F.slot_list_pop PySem.F.type_list_pop mt_pop RA))
   (zag (Z0 (pi_b b (QI Rx)) (XI zgd.nd)
    (zag (zby (PN RD Rz)
     (zad yR
     (zag (Cq RA TZ))) zau))))))
  (zag (zax (Cs (zdj rfl) RV))))),?_⟩
 have ap:∀e∈es,ZJ e.1=e.2.1:=λe he=>zaw T.nd he
 refine λre dL=>⟨_,rfl,zab,[(CY,S1)],rfl,(by show 1≤15;decide),?_⟩
 have gE:(zhl [] [((Sum.inr x:Key),Tp)])=marks [x]:=rfl
 rw[gE]
 have kre:Keep [] H (upd (ZS re (.dK [])) re (.dK (marks [x]))):=by rw[upd_upd];exact Keep.new dL
 have dJ:(upd (ZS re (.dK [])) re (.dK (marks [x]))) re=some (.dK (marks [x])):=zab
 generalize upd (ZS re (.dK [])) re (.dK (marks [x]))=H1 at kre dJ
 refine⟨xc,Ib,λwa rH=>?_⟩
 have k2:Keep [] H (QJ wa (.lst [TR])):=kre.trans (Gx rH)
 have je:H wa=none:=zaz (xs:=[]) kre rH Gf
 have me:(QJ wa (.lst [TR])) wa=some (Gw ([x].map V.str)):=zab
 have pe:re≠wa:=zac dJ rH
 have fF:(QJ wa (.lst [TR])) re=some (.dK (marks [x])):=by rw[zaf pe];exact dJ
 generalize QJ wa (.lst [TR])=H2 at k2 me fF
 have T2:GAt b H2 d es:=T.keep k2 Gf He
 have iZ:d≠re:=Ml dL
 have ndw:d≠wa:=Ml je
 have rowne:∀e∈es,e.2.2≠re∧e.2.2≠wa:=λe he=>⟨zac (T.ro e he) dL,zac (T.ro e he) je⟩
 refine⟨λm σ H'=>Aj3 (Ex2 λx4 x5=>σ=[Ta,SK x,Gh re,Gh wa,x4,x5]) (Keep [re,wa] H2 H') (Ex2 λ(ks wl:Ng)=>Aj9 (H' re=some yS) (H' wa=some (Gw (wl.map V.str))) ks.Nodup wl.Nodup (∀z∈wl,z∈ks) (∀z∈ks,z∈es.map (·.1)∧NH z) (x∈ks) (∀z∈ks,z∉wl→∀y∈ZJ z,y∈ks) (m=es.length+wl.length-ks.length)),
  ⟨_,⟨none,none,rfl⟩,Keep.refl,[x],[x],fF,me,Cr ⟨Gf,Zm⟩,Cr ⟨Gf,Zm⟩,λz h=>h,λz h=>(by rw[Qc.mp h];exact⟨hx,.refl⟩),Qb,λz h h'=>absurd h h',rfl⟩,?_⟩
 rintro m σ H3 ⟨⟨x4,x5,rfl⟩,k3,ks,wl,ce,jg,eZ,dy,pA,iJ,hxk,gG,rfl⟩
 have hkle:ks.length≤es.length:=by
  have:=zck eZ (m:=es.map (·.1)) λz hz=>(iJ z hz).1
  rwa[Qa]at this
 have ma:wl.length≤ks.length:=zck dy pA
 refine⟨xc,_,Rf ⟨_,Gs jg,rfl⟩,?_⟩
 rcases List.eq_nil_or_concat wl with dz | ⟨ini,z,dz⟩
 ·-- all are reached
  subst dz
  refine W0 ?_
  refine⟨xc,re,_,ks,rfl,Rf ce,mkeys ks,λl zs hl aj aQ=>?_⟩
  have kf:Keep [] H H3:=λc u ec _=>k3 c u (k2 c u ec Gf) (by simp[W1 dL,W1 je])
  refine k l zs _ zab (aj.nodup_iff.mpr eZ) (aQ Gg) (λy=>?_) (zu kf hl) (kf.trans PP)
  rw[aj.mem_iff]
  constructor
  ·exact λh=>(iJ y h).2
  ·intro hc
   induction hc with
   |refl=>exact hxk
   |step _ hz ih=>exact gG _ ih Gf _ hz
 ·rw [List.concat_eq_append] at dz
  subst dz
  refine zbt (by rw[Qp];cases ini<;>rfl) ?_
  refine⟨_,λ σ' H' zz=>zz,?_⟩
  have eJ:z∈ks:=pA z C4
  obtain⟨en,bB,cY⟩:=Qh.mp (iJ z eJ).1
  have lW:en.1=z:=cY
  rw[Zc]at dy
  obtain⟨aB,_,tL⟩:=dy
  have hzi:z∉ini:=λq=>tL z q z Qb rfl
  have fO:((ini++[z]).map V.str)[((ini++[z]).map V.str).length-1]?=some E9:=by
   rw[Qp,Qz,Kn Gf]
   simp
  have lh:((ini++[z]).map V.str).dropLast=ini.map V.str:=by rw[Qp];exact List.dropLast_concat
  refine⟨xc,HX jg,wa,_,xc,rfl,jg,fO,?_⟩
  rw[lh]
  have k4:Keep [re,wa] H2 (WU wa S3):=k3.trans HR
  have md:(WU wa S3) wa=some S3:=zab
  have fE:(WU wa S3) re=some yS:=by rw[zaf pe];exact ce
  generalize WU wa S3=H4 at k4 md fE
  have T4:GAt b H4 d es:=T2.keep k4 (by simp[iZ,ndw]) λe he=>by simp[(rowne e he).1,(rowne e he).2]
  have dg:DGet H4 d E9 Eg:=by
   have:=DGet.k (k:=Sum.inr en.1) T4.dc
   rw[zb6 T4.nd bB,lW]at this
   exact this
  have hrz:ZJ z=en.2.1:=by rw[←lW];exact ap en bB
  refine⟨_,rfl,_,rfl,d,_,rfl,dg,en.2.2,rfl,⟨_,GAt.sq T4 bB⟩,for_b b (xs:=en.2.1.map V.str) (λj σ H'=>Aj3 (Ex1 λx5=>σ=[Ta,SK x,Gh re,Gh wa,SK z,x5]) (Keep [re,wa] H2 H') (Ex1 λ(nw:Ng)=>Aj5 (H' re=some (SJ (ks++nw))) (H' wa=some (Gw ((ini++nw).map V.str))) ((ks++nw).Nodup) (∀y∈nw,y∈es.map (·.1)∧NH y) (∀y∈en.2.1.take j,y∈ks++nw)))
   ⟨⟨_,rfl⟩,k4,[],Gp Zx fE,Gp Zx md,Gp Zx eZ,λy hy=>(by cases hy),λy hy=>(by cases hy)⟩
   (λj σ H' _ hh=>(SqB.of (L6 (T2.ro en bB) (by simp[(rowne en bB).1,(rowne en bB).2])))) ?_ ?_⟩
  ·rintro j y σ H5 hy ⟨⟨y5,rfl⟩,k5,nw,bX,gX,cT,dO,fm⟩
   have hj:j<en.2.1.length:=by
    have:=(Tl hy).1
    rwa[Qa]at this
   have lX:y=.str en.2.1[j]:=by
    rw[Qo,Qd hj]at hy
    exact(Qn hy).symm
   subst lX
   have lY:en.2.1[j]∈ZJ z:=by rw[hrz];exact Qs hj
   have aJ:en.2.1.take (j+1)=en.2.1.take j++[en.2.1[j]]:=Ql hj
   have hsz:(ks++nw).length≤es.length:=by
    have:=zck cT (m:=es.map (·.1)) λq hq=>by
     rcases Qk.mp hq with h | h
     ·exact(iJ q h).1
     ·exact(dO q h).1
    rwa[Qa]at this
   have qt:=DGet.k (k:=Sum.inr en.2.1[j]) bX
   by_cases aB:en.2.1[j]∈ks++nw
   ·rw [valM_in aB] at qt
    refine⟨xc,xc,re,xc,qt,xc,W0 ?_⟩
    refine⟨⟨xc⟩,k5,nw,bX,gX,cT,dO,λq hq=>?_⟩
    rw[aJ]at hq
    rcases Qk.mp hq with h | h
    ·exact fm q h
    ·rw[Qc.mp h];exact aB
   ·rw [zh1 aB] at qt
    refine⟨xc,xc,re,xc,qt,xc,UL ?_⟩
    refine⟨xc,xc,re,xc,DPut.k (k:=Sum.inr en.2.1[j]) bX (by unfold marks;rw[List.length_map];lia),?_⟩
    rw[putM_new aB]
    have jf:(QU re (SJ (ks++nw++[en.2.1[j]]))) wa=some (Gw ((ini++nw).map V.str)):=by rw[zaf (Zk pe)];exact gX
    have dI:(QU re (SJ (ks++nw++[en.2.1[j]]))) re=some (SJ (ks++nw++[en.2.1[j]])):=zab
    have k6:Keep [re,wa] H2 (QU re (SJ (ks++nw++[en.2.1[j]]))):=k5.trans HR
    generalize QU re (SJ (ks++nw++[en.2.1[j]]))=H6 at jf dI k6
    rw[Qz]at hsz
    rw[Qz,Qu,Wi]at ma
    refine⟨xc,HX jf,xc,wa,_,xc,rfl,jf,(by rw[Qa,Qz];lia),?_⟩
    refine⟨⟨xc⟩,Oj HR,nw++[en.2.1[j]],by rw[zaf pe,←Qx];exact dI,by rw[zab,←Qx,Qp (l₂:=[en.2.1[j]])];rfl,?_,λq hq=>?_,λq hq=>?_⟩
    ·rw [← Qx,Zc]
     refine⟨cT,Cr ⟨Gf,Zm⟩,λa ha b hb e=>?_⟩
     rw[Qc.mp hb]at e
     exact aB (e▸ha)
    ·rcases Qk.mp hq with h | h
     ·exact dO q h
     ·rw [LU h]
      exact⟨gl z _ lY,.step (iJ z eJ).2 lY⟩
    ·rw [aJ] at hq
     rw[←Qx]
     rcases Qk.mp hq with h | h
     ·exact YG (fm q h)
     ·exact WC h
  ·rintro σ H5 ⟨⟨y5,rfl⟩,k5,nw,bX,gX,cT,dO,fm⟩
   rw[Qa,Qt GV]at fm
   have hsz:(ks++nw).length≤es.length:=by
    have:=zck cT (m:=es.map (·.1)) λq hq=>by
     rcases Qk.mp hq with h | h
     ·exact(iJ q h).1
     ·exact(dO q h).1
    rwa[Qa]at this
   have fH:=cT
   rw[Zc]at fH
   refine⟨es.length+(ini++nw).length-(ks++nw).length,?_,⟨_,xc⟩,k5,ks++nw,ini++nw,bX,gX,cT,?_,?_,?_,YG hxk,?_,rfl⟩
   ·rw [Qz] at hsz
    rw[Qz,Qz,Qz,Qu,Wi]
    rw[Qz,Qu,Wi]at ma
    lia
   ·rw [Zc]
    refine⟨aB,fH.2.1,λa ha b hb e=>fH.2.2 a (pA a (YG ha)) b hb e⟩
   ·intro q hq
    rcases Qk.mp hq with h | h
    ·exact YG (pA q (YG h))
    ·exact WC h
   ·intro q hq
    rcases Qk.mp hq with h | h
    ·exact iJ q h
    ·exact dO q h
   ·intro q hq mH y hy
    rw[Qk,not_or]at mH
    rcases Qk.mp hq with h | h
    ·by_cases hqz:q=z
     ·rw[hqz,hrz]at hy;exact fm y hy
     ·exact YG (gG q h (by rw[Qk,not_or,Qc];exact⟨mH.1,hqz⟩) y hy)
    ·exact absurd h mH.2
def ok_piece(F:QD "piece_from" "piece_from" zhf f fd)(aR:mg "sorted" = none):ZB 1 f fd ["rounds", "start"] spPiece :=
 (ok_pieceG true F aR).imp fun vs H Q E ⟨d,es,cs,a9,x,e,T,aN,C,hx,k⟩=>⟨d,es,x,e,⟨T.dc,T.ro,T.nd⟩,aN,fun z y h=>C.inn' h,hx,fun l zs H' h1 h2 h3 h4=>k l zs H' h1 h2 h3 fun y=>(h4 y).trans ⟨fun h=>by
  induction h with
  |refl=>exact⟨hx,rfl⟩
  |step _ lY ih=>exact⟨L5 lY,(C.la _ _ lY).trans ih.2⟩,λh=>C.co x hx y h.1 h.2.symm⟩⟩
end
def IsPiece(ns:Ng)(a9:Nx)(zs:Ng):Prop:=zs.Nodup∧∃s∈ns,∀y,y∈zs↔y∈ns∧a9 y=a9 s
structure InRow(ns:Ng)(zss:List (List Str)):Prop where
 so:∀zs∈zss,zs.Pairwise leS
 hd:zss.Pairwise λa b=>∀x∈a.head?,∀y∈b.head?,leS x y
 al:∀y∈ns,∃zs∈zss,y∈zs
def zg3(H:Hp)(a:Nb)(zs:Ng):Prop:=H a=some Cg
inductive IspPieces(vs:List V)(H:Hp)(Q:VK):Prop
 |mk (d:Nb) (es:List Ent) (cs:List (List (Str×Str))) (a9:Nx) (h0:vs=[.ref d]) (h1:TAt H d es) (h2:es.length≤60) (h3:Cert (es.map (·.1)) (row (rsOf es)) cs a9) (h4:∀(l:Nb) (as:Nn) (zss:List (List Str)) (H':Hp),H' l=some (.lst (as.map V.ref))→Paired (zg3 H') as zss→(∀zs∈zss,IsPiece (es.map (·.1)) a9 zs)→InRow (es.map (·.1)) zss→Keep [] H H'→Q (.ref l) H'):IspPieces vs H Q
def spPieces:Sp:=λvs H Q _=>IspPieces vs H Q
section
variable{P:Nk}{w:Nl}{K:Na}{mg:Nd}{base:No}
def zdx:zak ["rounds", "found", "reached", "start", "piece", "place"] ["rounds"] (zai zib):=fsk
def ok_pieces(F:QD "pieces_of" "pieces_of" zib f fd)(FP:QD "piece_from" "piece_from" zhf fp fdp)(bP:WK fdp ["rounds", "start"] [])(mP:mg "piece_from" = some (Go fp))(GP:ZB 1 fp fdp ["rounds", "start"] spPiece)(aR:mg "sorted" = none):ZB 2 f fd ["rounds"] spPieces:=by
 refine F.okL zdx Gn
 obtain⟨d,es,cs,a9,rfl,T,aN,C,k⟩:=h
 have hu:=zcd hr
 have ar  := sizeLine_eq
 refine⟨_,zad (MR zdx.nd So)
  (zad (Mp zdx.nd zf2)
  (zad (Z0 (zao (Cs (zdj rfl) Sj)) (Di zdx.nd)
   (zag (zby (PN RA Rz)
    (zad (BD zdx.nd (NI bP .nil zcq (ZQ SH)))
    (zad (Cq HQ S4)
    (zag (Z0 (Iw Rx) (XI zdx.nd)
     (zag yR))))) zau)))
  (zag (zax HQ)))),?_⟩
 refine⟨TC,λfo nZ re dL=>?_⟩
 have fC:H re=none:=zaz (xs:=[]) (Gx nZ) dL Gf
 have qU:fo≠re:=zac (o:=_) zab dL
 have k1:Keep [] H (upd yT re (.dK [])):=(Gx nZ).trans (Gx dL)
 have ga:(upd yT re (.dK [])) fo=some Hk:=by rw[zaf qU];exact zab
 have dJ:(upd yT re (.dK [])) re=some (.dK []):=zab
 generalize upd yT re (.dK [])=H1 at k1 ga dJ
 have T1:TAt H1 d es:=MT Gf He
 refine⟨xc,d,_,es.map (·.1),rfl,.inl T1.dc,zex es,λl ws hl aj aQ=>?_⟩
 replace aQ:=aQ RQ
 have k2:Keep [] H1 (QJ l Re):=Keep.new hl
 have az:(QJ l Re) l=some Re:=zab
 have nlf:l≠fo:=Zk (zac ga hl)
 generalize QJ l Re=H2 at k2 az
 have jL:=k2 _ _ ga Gf
 have fF:=k2 _ _ dJ Gf
 have nlr:l≠re:=zat az fF Gm
 have T2:TAt H2 d es:=T1.keep k2 Gf He
 have kk2:Keep [] H H2:=k1.trans k2
 have ndf:d≠fo:=Ml nZ
 have iZ:d≠re:=Ml fC
 have dz:ws.length=es.length:=by rw[aj.length_eq,Qa]
 refine⟨l,rfl,⟨_,E3⟩,ze0 (zs:=ws) (λi σ H'=>Aj3 (Ex3 λx3 x4 x5=>σ=[Ta,Gh fo,Gh re,x3,x4,x5]) (Keep [fo,re] H2 H') (Ex3 λ(as:Nn) (zss:xa Str) (ks:Ng)=>Aj8 (H' fo=some HW) (H' re=some yS) (zr (zg3 H') zss) (∀zs∈zss,IsPiece (es.map (·.1)) a9 zs) (as.length≤i) ks.Nodup (∀z∈ks,z∈es.map (·.1)) (Aj7 (∀a∈as,a≠fo) (∀y∈ws.take i,y∈ks) (∀y∈ks,∃zs∈zss,y∈zs) (∀zs∈zss,∀y∈zs,y∈ks) (∀zs∈zss,∀x∈zs.head?,x∈ws.take i) (zss.Pairwise λa b=>∀x∈a.head?,∀y∈b.head?,leS x y) (∀zs∈zss,zs.Pairwise leS))))
  ⟨⟨_,_,_,rfl⟩,Keep.refl,[],[],[],jL,fF,.nil,λzs h=>(by cases h),RP,Zm,λz h=>(by cases h),λz h=>(by cases h),λz h=>(by cases h),λz h=>(by cases h),λz h=>(by cases h),λz h=>(by cases h),List.Pairwise.nil,λz h=>(by cases h)⟩ (λi σ H' _ hh=>SqL.of (L6 az (by simp[nlf,nlr]))) ?_ ?_⟩
 ·rintro i hi σ H3 ⟨⟨x3,x4,x5,rfl⟩,k3,as,zss,ks,f',ce,cR,jz,tX,eZ,l4,ig,c1,c2,c6,c3,c4,c5⟩
  have dg:=DGet.k (k:=Sum.inr ws[i]) ce
  have T3:TAt H3 d es:=T2.keep k3 (by simp[ndf,iZ]) λe he=>by
   have h1:=T.ro e he
   simp[zac h1 nZ,zac h1 fC]
  by_cases aB:ws[i]∈ks
  ·rw [valM_in aB] at dg
   refine⟨xc,xc,re,xc,dg,xc,W0 ?_⟩
   refine⟨⟨_,_,xc⟩,k3,as,zss,ks,f',ce,cR,jz,by exact zar16 ‹_›,eZ,l4,ig,λy hy=>?_,c2,c6,λzs h x hx=>Wv (i:=i) (by rw[List.take_take,Nat.min_eq_left (Um i)];exact c3 zs h x hx),c4,c5⟩
   rw[Ql hi]at hy
   rcases Qk.mp hy with h | h
   ·exact c1 y h
   ·rw[Qc.mp h];exact aB
  ·rw [zh1 aB] at dg
   refine⟨xc,xc,re,xc,dg,xc,UL ?_⟩
   have gU:=aj.mem_iff.mp PM
   refine⟨xc,xc,d,es,cs,a9,ws[i],rfl,T3,aN,C,gU,λp zs H4 bq cY rq cz sC k4=>?_⟩
   obtain⟨ja,sW⟩:∃ja,ja=ks:=⟨_,rfl⟩
   rw[←sW]at ce eZ l4 aB c1 c2 c6
   have fZ:=k4 _ _ f' Gf
   have fE:=k4 _ _ ce Gf
   have npf:p≠fo:=Zk (zac f' sC)
   have npr:p≠re:=zat bq fE Gm
   refine⟨xc,HX fZ,xc,fo,_,xc,rfl,fZ,RQ,?_⟩
   have k5:Keep [fo,re] H2 (QT fo (.lst (as.map V.ref++[Sv]))):=(Lu AR).trans HR
   have nY:(QT fo (.lst (as.map V.ref++[Sv]))) fo=some (Gw ((as++[p]).map V.ref)):=by rw[zab,Qp];rfl
   have bX:(QT fo (.lst (as.map V.ref++[Sv]))) re=some (SJ ja):=by rw[zaf (Zk qU)];exact fE
   have aP:(QT fo (.lst (as.map V.ref++[Sv]))) p=some Cg:=by rw[zaf npf];exact bq
   have hZ:Paired (zg3 (QT fo (.lst (as.map V.ref++[Sv])))) (as++[p]) (zss++[zs]):=by
    refine zav ?_ (Rk aP)
    have:∀{as:Nn} {zss:List (Sg Str)},Paired (zg3 H3) as zss→(∀a∈as,a≠fo)→Paired (zg3 (QT fo (.lst (as.map V.ref++[Sv])))) as zss:=λ{as zss} r ha=>by
     have h2:∀(L:List V),Paired (zg3 (yU fo L)) as zss:=λL=>by
      induction r with
      |nil=>exact .nil
      |cons h t ih=>exact .cons (by unfold zg3;rw[zaf (ha _ List.mem_cons_self)];exact k4 _ _ h Gf) (ih λa h=>ha a (MV h))
     exact h2 _
    exact this cR ig
   have ox:∀a∈as++[p],a≠fo:=λa ha=>by
    rcases Qk.mp ha with h | h
    ·exact ig a h
    ·rw[Qc.mp h];exact npf
   generalize QT fo (.lst (as.map V.ref++[Sv]))=H5 at k5 nY bX aP hZ
   refine⟨_,rfl,p,rfl,⟨_,Gs aP⟩,zbb (xs:=zs.map V.str) (λj σ H'=>Aj3 (Ex1 λx5=>σ=[Ta,Gh fo,Gh re,Gz (.str ws[i]),Ig,x5]) (Keep [re] H5 H') (Ex1 λ(ks:Ng)=>Aj4 (H' re=some yS) ks.Nodup (∀z∈ks,z∈es.map (·.1)) (∀z,z∈ks↔z∈ja∨z∈zs.take j)))
    ⟨⟨_,rfl⟩,Keep.refl,ja,bX,eZ,l4,λz=>⟨.inl,λh=>h.elim id λh=>(by cases h)⟩⟩ (λj σ H' _ hh=>SqL.of (L6 aP (Gk npr))) ?_ ?_⟩
   ·rintro j y σ H6 hy ⟨⟨y5,rfl⟩,k6,j6,dI,fR,fS,ck⟩
    have hj:j<zs.length:=by
     have:=(Tl hy).1
     rwa[Qa]at this
    obtain⟨z,hz,rfl,ez⟩:∃z,z∈zs∧y=V.str z∧z=zs[j]:=by
     rw[Qo,Qd hj]at hy
     exact⟨zs[j],Qs hj,(Qn hy).symm,rfl⟩
    have step:∀q,(q∈j6∨q=z)↔q∈ja∨q∈zs.take (j+1):=λq=>by
     rw[ck,Ql hj,Qk,Qc,ez,or_assoc]
    have hsz:j6.length≤es.length:=by
     have:=zck fR fS
     rwa[Qa]at this
    refine⟨xc,xc,re,xc,DPut.k (k:=Sum.inr z) dI (by unfold marks;rw[List.length_map];lia),⟨xc⟩,Oj HR,?_⟩
    by_cases eJ:z∈j6
    ·exact⟨j6,by rw[zab,putM_old eJ],fR,fS,λq=>by rw[←step q];exact⟨.inl,λh=>h.elim id λe=>e▸eJ⟩⟩
    ·refine ⟨j6++[z],by rw [zab,putM_new eJ],?_,fun q hq=>?_,fun q=>by rw [← step q,Qk,Qc]⟩
     ·rw [Zc]
      refine⟨fR,Cr ⟨Gf,Zm⟩,λa ha b hb e=>?_⟩
      rw[Qc.mp hb]at e
      exact eJ (e▸ha)
     ·rcases Qk.mp hq with h | h
      ·exact fS q h
      ·rw[Qc.mp h];exact((cz z).mp hz).1
   ·rintro σ H6 ⟨⟨y5,rfl⟩,k6,j6,dI,fR,fS,ck⟩
    rw[Qa,Qt GV]at ck
    have l':ws[i]∈zs:=(cz _).mpr ⟨gU,rfl⟩
    have iM:zs.head?=some ws[i]:=by
     cases rp:zs with
     |nil=>rw[rp]at l';cases l'
     | cons m t =>
      have hmz:m∈zs:=by rw[rp];exact Qb
      obtain⟨nj,pY⟩:=(cz m).mp hmz
      obtain⟨j,hj,ej⟩:=Zr (aj.mem_iff.mpr nj)
      have h1:leS m ws[i]:=by
       rw[rp]at l' rq
       rcases Qf.mp l' with q | q
       ·rw[q];exact λz=>Ww _ z
       ·exact(Jq.mp rq).1 _ q
      have cG:i≤j:=Nat.le_of_not_lt λad=>by
       have gE:m∈ja:=c1 m (by rw[←ej,←Ux (j:=i) (h:=by rw[Zq];lia)];exact Qs _)
       obtain⟨iW,eM,sK⟩:=c2 m gE
       obtain⟨_,s,_,hs⟩:=jz iW eM
       exact aB (c6 iW eM _ ((hs _).mpr ⟨gU,pY.symm.trans ((hs m).mp sK).2⟩))
      have h2:leS ws[i] m:=by
       rcases Nat.lt_or_eq_of_le cG with q | q
       ·rw[←ej];exact Kq.mp aQ i j hi hj q
       ·subst q;rw[ej];exact λz=>Ww _ z
      rw[leS_anti _ _ h1 h2];rfl
    have tk:ws.take Hj=ws.take i++[ws[i]]:=Ql hi
    refine⟨⟨_,_,xc⟩,k5.trans LS,as++[p],zss++[zs],j6,k6 _ _ nY (Gk qU),dI,Paired.imp' (λa zs h=>k6 _ _ h (by simpa using Fo bX Gm)) hZ,λq hq=>?_,by rw[Qz];show _+1≤_;exact zar4 ‹_›,fR,fS,ox,λy hy=>?_,λy hy=>?_,λq hq y hy=>?_,λq hq x hx=>?_,?_,λq hq=>?_⟩
    ·rcases Qk.mp hq with h | h
     ·exact jz q h
     ·rw[Qc.mp h];exact⟨cY,ws[i],gU,cz⟩
    ·rw [tk] at hy
     rcases Qk.mp hy with h | h
     ·exact(ck y).mpr (Rf (c1 y h))
     ·rw[Qc.mp h];exact(ck _).mpr (RG l')
    ·rcases (ck y).mp hy with h | h
     ·obtain ⟨z,hz,lX⟩:=c2 y h
      exact⟨z,YG hz,lX⟩
     ·exact⟨zs,C4,h⟩
    ·rcases Qk.mp hq with h | h
     ·exact(ck y).mpr (Rf (c6 q h y hy))
     ·rw[Qc.mp h]at hy;exact(ck y).mpr II
    ·rw [tk]
     rcases Qk.mp hq with h | h
     ·exact YG (c3 q h x hx)
     ·rw [LU h,iM] at hx
      rw[←Qn hx];exact WC Qb
    ·rw [List.pairwise_append]
     refine⟨c4,Xg _ _,λa ha b hb x hx y hy=>?_⟩
     rw[Qc.mp hb,iM]at hy
     rw[←Qn hy]
     obtain⟨j,hj,ej⟩:=Zr (c3 a ha x hx)
     rw[Zq]at hj
     rw[←ej,Ux]
     exact Kq.mp aQ j i Gg hi Gg
    ·rcases Qk.mp hq with h | h
     ·exact c5 q h
     ·rw[Qc.mp h];exact rq
 ·rintro σ H3 ⟨⟨x3,x4,x5,rfl⟩,k3,as,zss,ks,f',ce,cR,jz,tX,eZ,l4,ig,c1,c2,c6,c3,c4,c5⟩
  rw[Qa,Qt GV]at c1
  refine⟨xc,k fo as zss H3 f' cR jz ⟨c5,c4,λy hy=>c2 y (c1 y (aj.mem_iff.mpr hy))⟩ λc u ec _=>k3 c u (kk2 c u ec Gf) (by simp[W1 nZ,W1 fC])⟩
end
end K21
end
section
namespace L2
open PySem
def zfd(T:St→Prop)(q:V→Bool)(ha:YM xs)(hn:xs.length≤sizeLine)(h0:T τ)(hs:∀x∈xs,∀τ,T τ→∀(k1:V→St→Hp→Prop) (k0:St→Hp→Prop),(q x=true→∀τ2,T τ2→k1 x τ2 H)→(q x=false→∀τ2,T τ2→k0 τ2 H)→g x τ H λ τ2 H2=>tc τ2 H2 λb H3=>if b=true then te τ2 H3 λy H4=>k1 y τ2 H4 else k0 τ2 H3)(hq:∀D,H D=none→Q Sz (ZS D (Gw (xs.filter q)))):rLC g tc te Q (K1 a) τ H:=by
 refine⟨λi m ys τ H1=>Aj5 (H1=H) (T τ) (m=xs.length-i) (i≤xs.length) (ys=(IS i).filter q),⟨_,rfl,h0,rfl,RP,rfl⟩,?_⟩
 rintro i m ys τ H1 ⟨rfl,ht,rfl,hi,rfl⟩
 by_cases ad:i<xs.length
 ·have ic:((IS i).filter q).length≤i:=XJ (by rw [Zq];lia)
  refine .inr ⟨⟨xs,xs[i],ha,Qd ad⟩,Gg,?_⟩
  rintro x H' ⟨rfl,hx⟩
  have gy:=hx xs ha
  rw[Qd ad]at gy
  have pz:xs[i]=x:=Qn gy
  have aJ:xs.take Hj=xs.take i++[x]:=by rw[Ql ad,pz]
  refine hs x (pz▸Qs ad) τ ht (λy τ2 H4=>∃m',m'<xs.length-i∧Aj5 (H4=H') (T τ2) (m'=xs.length-Hj) (i+1≤xs.length) ((IS i).filter q++[y]=(IS Hj).filter q))
   (λ τ2 H4=>∃m',m'<xs.length-i∧Aj5 (H4=H') (T τ2) (m'=xs.length-Hj) (i+1≤xs.length) ((IS i).filter q=(IS Hj).filter q)) (λsu τ2 h2=>?_) λsu τ2 h2=>?_
  ·exact⟨_,Ha,rfl,h2,rfl,ad,by rw[aJ,Yx,Zs su,Wo]⟩
  ·exact⟨_,Ha,rfl,h2,rfl,ad,by rw[aJ,Yx,Zt (by rw[su];decide),Wo,Zx]⟩
 ·have e:i=xs.length:=by exact zar3 ‹_› ‹_›
  subst e
  refine .inl ⟨⟨xs,ha,GV⟩,λD hD=>?_⟩
  rw[Qt GV]
  exact hq D hD
end L2
namespace K21
open PySem L2 Wb
def sum_filter{α:Type}{p:α→Bool}{f:α→Int}:∀l:List α,(l.map λx=>if p x=true then f x else 0).sum=((l.filter p).map f).sum:=by
 intro l
 induction l with
 |nil=>rfl
 |cons a t ih =>
  rw[Qm,Zn,ih]
  by_cases h:p a=true
  ·rw[if_pos h,Zs h,Qm,Zn]
  ·rw[if_neg h,Zt h];lia
def sum_parts{α:Type}{f:α→List Str}:∀l:List α,(l.map λx=>(2:Int)+(if f x=[] then 2 else 0)-((f x).length:Int)).sum=2*(l.length:Int)+2*((l.filter λx=>(f x).isEmpty).length:Int)-(((l.map λx=>(f x).length).sum:Nat):Int):=by
 intro l
 induction l with
 |nil=>rfl
 |cons a t ih =>
  rw[Qm,Zn,ih,Qm,Zn,Qu]
  by_cases h:f a=[]
  ·rw[Zs (by rw[h];rfl),Qu,if_pos h];lia
  ·rw[Zt (by rw[List.isEmpty_iff];exact h),if_neg h];lia
def sum_twos{α:Type}{p:α→Bool}:∀l:List α,(l.map λx=>if p x=true then(2:Int) else 0).sum=2*((l.filter p).length:Int):=by
 intro l
 induction l with
 |nil=>rfl
 |cons a t ih =>
  rw[Qm,Zn,ih]
  by_cases h:p a=true
  ·rw[if_pos h,Zs h,Qu];lia
  ·rw[if_neg h,Zt h];lia
def iso_eq{es:List Ent}(nd:(es.map (·.1)).Nodup):zff es=(es.map (·.1)).filter λx=>(ZJ x).isEmpty:=by
 unfold zff
 rw[Jn]
 congr 1
 exact Kv λe he=>by
  show e.2.1.isEmpty=(ZJ e.1).isEmpty
  rw[XL he]
def piece_count{es:List Ent}{cs cs':List (Sg (Str×Str))}{a9:Nx}(C:Cert (es.map (·.1)) Hw cs a9){zs hd hc:Ng}(hz:IsPiece (es.map (·.1)) a9 zs)(hh:hd.Perm (zff es++hc))(jP:cs'.Perm cs)(hp:Paired (fun h c=>∃ s∈c,s.1=h) hc cs') :
  2*zs.length+2*(hd.filter λh=>decide (h∈zs)).length=(zs.map λx=>(ZJ x).length).sum+4:=by
 obtain⟨cY,s,hs,cz⟩:=hz
 have heu:=C.eu s hs
 have p1:((es.map (·.1)).filter λx=>decide (a9 x=a9 s)).Perm zs:=(Jb (Yy Jj C.nd) cY).mpr λy=>by
  rw[Zg,decide_eq_true_iff,cz]
 have e1:wt (es.map (·.1)) Hw a9 (a9 s)=2*(zs.length:Int)+2*((zs.filter λx=>(ZJ x).isEmpty).length:Int)-(((zs.map λx=>(ZJ x).length).sum:Nat):Int):=by
  unfold wt
  have:=sum_filter (p:=λx=>decide (a9 x=a9 s)) (f:=λx=>(2:Int)+(if ZJ x=[] then 2 else 0)-((ZJ x).length:Int)) (es.map (·.1))
  simp only[decide_eq_true_eq]at this
  rw[this,zii (p1.map _),sum_parts]
 have e2:WN (a9 s)=2*((cs.filter λc=>c.any λu=>decide (a9 u.1=a9 s)).length:Int):=sum_twos _
 have e3:(hd.filter λh=>decide (h∈zs)).length=((zff es).filter λh=>decide (h∈zs)).length+(hc.filter λh=>decide (h∈zs)).length:=by
  rw[(hh.filter _).length_eq,Yx,Qz]
 have e4:((zff es).filter λh=>decide (h∈zs)).length=(zs.filter λx=>(ZJ x).isEmpty).length:=by
  refine List.Perm.length_eq ((Jb ?_ (Yy Jj cY)).mpr λy=>?_)
  ·rw [iso_eq C.nd]
   exact Yy Jj (Yy Jj C.nd)
  ·rw [iso_eq C.nd,Zg,Zg,Zg,decide_eq_true_iff]
   exact⟨λ⟨⟨_,a⟩,b⟩=>⟨b,a⟩,λ⟨a,b⟩=>⟨⟨((cz y).mp a).1,b⟩,a⟩⟩
 have e5:(hc.filter λh=>decide (h∈zs)).length=(cs'.filter λc=>c.any λu=>decide (a9 u.1=a9 s)).length:=by
  have aB:∀c∈cs',c∈cs:=λc h=>jP.mem_iff.mp h
  clear jP e3 e4 hh
  induction hp with
  |nil=>rfl
  | cons h t ih =>
   rename_i h0 c0 _ _
   have iht:=ih λc hc=>aB c (QK hc)
   obtain⟨u,hu,rfl⟩:=h
   have gI:=aB c0 Qb
   have hun:u.1∈es.map (·.1):=C.inn' (C.inc gI hu)
   by_cases hz:u.1∈zs
   ·have hl:=((cz _).mp hz).2
    have ij:(c0.any λu=>decide (a9 u.1=a9 s))=true:=Yb.mpr ⟨u,hu,HJ hl⟩
    rw[Zs IL,Zs (p:=λc:List (Str×Str)=>c.any λu=>decide (a9 u.1=a9 s)) ij,Qu,Qu,iht]
   ·rw [Zt IL,Zt,iht]
    intro q
    obtain⟨v,hv,e⟩:=Yb.mp q
    exact hz ((cz _).mpr ⟨hun,(C.one_lab gI hv hu).trans (SI e)⟩)
 have e6:=(jP.filter λc=>c.any λu=>decide (a9 u.1=a9 s)).length_eq
 lia
def ix_listK(hK:X.K=K):IxR X (rIxL K):=hK▸za2
def zfb(hK:X.K=K):Y3 (compareOp .In) (rIn K false):=hK▸op_in_seq
def ze3(hK:X.K=K):Y4 (.builtin "len") (λxs H Q=>Ex2 λp ys=>Aj3 (xs=[Sv]) (YY p ys∨SqT K H p ys) (Q Cp H)):=hK▸zaq
abbrev sFlat:Stmt:=top 38
inductive IspFlat(vs:List V)(H:Hp)(Q:VK):Prop
 |mk (d:Nb) (es:List Ent) (cs:List (List (Str×Str))) (a9:Nx) (h0:vs=[.ref d]) (h1:TAt H d es) (h2:es.length≤60) (h3:(∀e∈es,e.2.1.length≤100)) (h4:Cert (es.map (·.1)) (row (rsOf es)) cs a9) (h5:∀H',Keep [] H H'→Q .non H'):IspFlat vs H Q
def spFlat:Sp:=λvs H Q _=>IspFlat vs H Q
def ndFB:(["face", "piece"]:List Str).Nodup:=by decide +kernel
def inPc(H:Hp)(zs:Ng):V→Bool
 |.ref a=>match H a with
  |some (.lst (.str h::_))=>decide (h∈zs)
  |_=>false
 |_=>false
def inPc_ref(e:zdk H a h):inPc H zs Rg=decide (h∈zs):=by
 obtain⟨t,e⟩:=e
 show(match H a with | some (.lst (.str h::_))=>decide (h∈zs) | _=>false)=_
 rw[e];rfl
def filt_len(r:zr (zdk H) hd):((as.map V.ref).filter (inPc H zs)).length=(hd.filter λh=>decide (h∈zs)).length:=by
 induction r with
 |nil=>rfl
 |cons h t ih =>
  rename_i a b _ _
  rw[Qm]
  have e:=inPc_ref (zs:=zs) h
  by_cases hz:b∈zs
  ·rw[Zs (by rw[e];simpa using hz),Zs IL,Qu,Qu,ih]
  ·rw[Zt (by rw[e];simpa using hz),Zt IL,ih]
def sum_cast(ns:List Nat):(ns.map λn:Nat=>(n:Int)).sum=((ns.sum:Nat):Int):=by
 induction ns with
 |nil=>rfl
 |cons a t ih=>rw[Qm,Zn,Zn,ih];lia
section
variable{P:Nk}{w:Nl}{K:Na}{mg:Nd}{base:No}
def zfm:zak ["rounds", "found", "piece", "many_places", "many_ties", "many_faces"] ["rounds"] (zai sFlat):=fsk
def ok_flat(F:QD "refuse_not_flat" "refuse_not_flat" sFlat f fd)(FF:QD "faces_of" "faces_of" sFaces ff fdf)(bF:WK fdf ["rounds"] [])(mF:mg "faces_of" = some (Go ff))(GF:ZB 2 ff fdf ["rounds"] spFaces)(FP:QD "pieces_of" "pieces_of" zib fp fdp)(bP:WK fdp ["rounds"] [])(mP:mg "pieces_of" = some (Go fp))(GP:ZB 2 fp fdp ["rounds"] spPieces)(ae:mg "len" = none)(rR:mg "sum" = none):ZB 3 f fd ["rounds"] spFlat:=by
 refine F.okL zfm Gn
 obtain⟨d,es,cs,a9,rfl,T,aN,bp,C,k⟩:=h
 have hu:=zcd hr
 have ar  := sizeLine_eq
 refine⟨_,zad (MR zfm.nd (NJ bF .nil zcq Sj))
  (zag (Z0 (Iw (NI bP .nil zcq Sj)) (pg_name (i:=2) zfm.nd rfl Tz)
   (zad (B8 zfm.nd (Oy RV))
   (zad (BD zfm.nd (za4 op_fdiv (zal (call_sum rfl) Hh rR PyProof.Rows.boot_sum (zaa (zgi (M:=["place", "rounds"]) (ix:=[none,Gz 0]) (mkB zfm) rfl (Iw Rz) (λC a5 ex s H=>JA ndF) (λC a5 ex s H=>zc2)
      (λC a5 ex s H=>zal (ze3 (K:=K) rfl) Hh (by exact ae) Yc (Hz (zq (by exact hu) Ee)))) zae)) zah))
   (zad (Mm zfm.nd (UK Hh ae Yc (zaa (zgi (M:=["face", "piece"]) (ix:=[none,Gz 2]) (mkB zfm) rfl (Iw HQ) (λC a5 ex s H=>JA ndFB)
      (λC a5 ex s H=>zcs (zar (zfb (K:=K) rfl) (za5 (ix_listK (K:=K) rfl) Rj zah GD) HQ rfl)) (λC a5 ex s H=>pv 0)) zae)))
   (zag (SM (Bc (YC RA RD) (OA Rx) RE))))))))  ,?_⟩
 refine⟨xc,d,es,cs,a9,rfl,T,aN,bp,C,λfo fas hd hc cs' H1 ga hfal hhd hhp jP f8 k1=>?_⟩
 have T1:TAt H1 d es:=MT Gf He
 refine⟨xc,d,es,cs,a9,rfl,T1,aN,C,λl as zss H2 az kT jz _ k2=>?_⟩
 have T2:TAt H2 d es:=T1.keep k2 Gf He
 have jL:=k2 _ _ ga Gf
 have tq:Paired (zdk H2) fas hd:=zda (D:=d) (g:=d) k2 hhd (λ_ _ _ _=>by simp)
 refine⟨l,rfl,⟨_,E3⟩,zbb (xs:=as.map V.ref) (λi σ H'=>Aj2 (Keep [] H2 H') (Ex4 λx2 x3 x4 x5=>σ=[Ta,Gh fo,x2,x3,x4,x5])) ⟨Keep.refl,_,_,_,_,rfl⟩ (λi σ H' _ hh=>SqL.of (AI az)) ?_ ?_⟩
 ·rintro i y σ H3 hx ⟨k3,x2,x3,x4,x5,rfl⟩
  have hi:i<as.length:=by
   have:=(Tl hx).1
   rwa[Qa]at this
  have gS:y=.ref as[i]:=by
   rw[Qo,Qd hi]at hx
   exact(Qn hx).symm
  subst gS
  obtain⟨ao,f9⟩:=zay kT hi
  have pR:=jz _ Os
  have jQ:=piece_count C pR hhp jP f8
  generalize zss[i]=zs at f9 pR jQ
  have ik:H3 as[i]=some Cg:=k3 _ _ f9 Gf
  have jc:∀z∈zs,∃e∈es,e.1=z:=λz hz=>by
   obtain⟨_,s,_,hm⟩:=pR
   exact Qh.mp ((hm z).mp hz).1
  have bV:zs.length≤100:=by
   have:=zck pR.1 (m:=es.map (·.1)) λz hz=>by
    obtain⟨e,he,rfl⟩:=jc z hz
    exact Qh.mpr ⟨e,he,rfl⟩
   rw[Qa]at this
   lia
  refine⟨xc,as[i],xc,Se ik,?_⟩
  have T3:TAt H3 d es:=T2.keep k3 Gf He
  refine⟨xc,as[i],rfl,⟨_,Gs ik⟩,lc_at (xs:=zs.map V.str) (λ τ=>∃x0,τ=[x0,Ta]) ((zs.map λx=>((ZJ x).length:Int)).map V.int) (by rw[Qa,Qa,Qa]) (Gs ik) RQ ⟨none,rfl⟩ ?_ (λD hD=>?_)⟩
  ·rintro j hj nI τ ⟨x0,rfl⟩ kk hk
   rw[Qa]at hj
   rw[Zl]
   obtain⟨en,bB,de⟩:=jc _ (Qs hj)
   have dg:DGet H3 d (.str zs[j]) Eg:=by
    have:=DGet.k (k:=Sum.inr en.1) T3.dc
    rw[zb6 T3.nd bB,de]at this
    exact this
   refine⟨xc,xc,d,xc,dg,en.2.2,xc,RG (Hy (T3.ro en bB)),?_⟩
   have e:((zs.map λx=>((ZJ x).length:Int)).map V.int)[j]=V.int ((en.2.1.map V.str).length:Int):=by
    rw[Zl,Zl,←de,zaw T3.nd bB,Qa]
   rw[e]at hk
   exact hk _ ⟨_,rfl⟩
  ·have k4:Keep [] H3 (WU D (.lst ((zs.map fun x=>((ZJ x).length:Int)).map V.int))):=Keep.new hD
   have lw:(WU D (.lst ((zs.map λx=>((ZJ x).length:Int)).map V.int))) D=some (.lst ((zs.map λx=>((ZJ x).length:Int)).map V.int)):=zab
   generalize WU D (.lst ((zs.map λx=>((ZJ x).length:Int)).map V.int))=H4 at k4 lw
   refine⟨D,xc,Gs lw,RQ,λn hn=>?_,?_⟩
   ·obtain ⟨z,hz,rfl⟩:=Qh.mp hn
    obtain⟨en,bB,de⟩:=jc z hz
    have h1:=bp en bB
    rw[←de,zaw T3.nd bB]
    lia
   ·have mr:(zs.map fun x=>((ZJ x).length:Int)).sum=(((zs.map fun x=>(ZJ x).length).sum:Nat):Int):=by
     rw[←sum_cast,Zj];rfl
    rw[mr]
    refine⟨_,xc,rfl,⟨Gj,Gj⟩,?_⟩
    have fZ:=k4 _ _ (Ad jL) Gf
    have tY:=k4 _ _ ik Gf
    have nM:Paired (zdk H4) fas hd:=zda (D:=d) (g:=d) (Lu k4) tq (λ_ _ _ _=>by simp)
    refine⟨xc,fo,rfl,⟨_,Gs fZ⟩,zfd (xs:=fas.map V.ref) (λ τ=>∃x0,τ=[x0,Gz (.ref as[i])]) (inPc H4 zs) (Gs fZ) RQ ⟨none,rfl⟩ ?_ (λD2 dk=>?_)⟩
    ·rintro x hx τ ⟨x0,rfl⟩ kk1 kk0 i6 nz
     obtain⟨a,ha,rfl⟩:=Qh.mp hx
     obtain⟨j,hj,rfl⟩:=Zr ha
     obtain⟨l9,e9⟩:=zay nM hj
     have aB:=inPc_ref (zs:=zs) e9
     obtain⟨t,et⟩:=e9
     refine⟨xc,fas[j],_,_,xc,rfl,Gs et,za3 (j:=0) rfl,xc,as[i],xc,Se tY,rfl,zcl zs,xc,?_⟩
     cases hb:decide (hd[j]∈zs) with
     |true=>exact zbt (show inV _ _=true by rw[zfg];exact hb) ⟨_,rfl,i6 (aB.trans hb) _ ⟨_,rfl⟩⟩
     |false=>exact zbk (show inV _ _=false by rw[zfg];exact hb) (nz (aB.trans hb) _ ⟨_,rfl⟩)
    ·have k5:Keep [] H4 (yU D2 ((fas.map V.ref).filter (inPc H4 zs))):=Keep.new dk
     refine⟨D2,xc,Se zab,?_⟩
     rw[filt_len nM]
     refine⟨xc,xc,_,xc,rfl,xc,_,xc,rfl,rfl,xc,zbk ?_ ?_⟩
     ·rw [Bool.not_eq_false',decide_eq_true_iff]
      refine congrArg V.int ?_
      rw[Qa]
      lia
     ·exact⟨(Lu k4).trans k5,_,_,_,xc⟩
 ·rintro σ H3 ⟨k3,x2,x3,x4,x5,rfl⟩
  exact k H3 ((SQ k2).trans k3)
end
end K21
end
section
namespace K21
open PySem L2 Wb
abbrev sInit:Stmt:=NC 0
abbrev zg2:List Ent→List Ent→Prop:=Paired λt e=>t.1=e.1∧∃k,t.2.1=e.2.1.drop k++e.2.1.take k
inductive IspInit(C:Nb)(vs:List V)(H:Hp)(Q:VK):Prop
 |mk (x dx l:Nb) (as:Nn) (es:List Ent) (cs:List (List (Str×Str))) (a9:Nx) (h0:vs=[.ref x,.ref l]) (h1:H x=some (.ins C dx [])) (h2:RwAt H l as es) (h3:es.length≤40) (h4:(∀e∈es,zcm e.1)) (h5:Cert (es.map (·.1)) (row (rsOf es)) cs a9) (h6:∀(d:Addr) (ts av:List Ent) (H':Hp),WAt H' C x dx d ts→av.Perm es→zg2 ts av→Keep [x] H H'→Q .non H'):IspInit C vs H Q
def spInit(C:Nb):Sp:=λvs H Q _=>IspInit C vs H Q
def zb7(h:zg2 ts es):ts.map (·.1)=es.map (·.1):=by
 induction h with
 |nil=>rfl
 |cons h t ih=>rw[Qm,Qm,h.1,ih]
def zhe(h:zg2 ts es)(ht:t∈ts):∃e∈es,t.1=e.1∧∃k,t.2.1=e.2.1.drop k++e.2.1.take k:=by
 induction h with
 |nil=>cases ht
 | cons h _ ih =>
  rcases Qf.mp ht with z | z
  ·subst z;exact⟨_,Qb,h⟩
  ·obtain ⟨e,he,r⟩:=ih z
   exact⟨e,QK he,r⟩
def zc5(h:zg2 ts av)(hp:av.Perm es)(nd:(es.map (·.1)).Nodup):∀x,∃k,X7 x=(ZJ x).drop k++(ZJ x).take k:=λx=>by
 have fg:(ts.map (·.1)).Nodup:=by rw[zb7 h];exact(hp.map _).nodup_iff.mpr nd
 by_cases hx:x∈ts.map (·.1)
 ·obtain ⟨t,ht,rfl⟩:=Qh.mp hx
  obtain⟨e,he,e1,k,e2⟩:=zhe h ht
  refine⟨k,?_⟩
  rw[zaw fg ht,e1,XL (hp.mem_iff.mp he),e2]
 ·refine ⟨0,?_⟩
  have hx2:x∉es.map (·.1):=λz=>hx (by rw[zb7 h];exact(hp.map _).mem_iff.mpr z)
  have n1:x∉(S2 ts).map (·.1):=by unfold rsOf;rw[List.map_map];exact hx
  have n2:x∉(S2 es).map (·.1):=by unfold rsOf;rw[List.map_map];exact hx2
  rw[zgf n1,zgf n2];rfl
abbrev csInit:Scope:=scOf (eOf (sAt sInit 3))
def csInit_k:csInit.kind=.function:=by rfl
def csInit_c:∀y∈csInit.names,y.2≠.cell:=by decide +kernel
def csInit_n:∀y∈csInit.names,y.2=.local→csInit.names.lookup y.1=some .local:=by decide +kernel
def csInit_f:∀y∈csInit.names,y.2=.free→(zai sInit).names.lookup y.1=some .cell∨(zai sInit).names.lookup y.1=some .free:=by decide +kernel
section
variable{P:Nk}{w:Nl}{K:Na}{mg:Nd}{base:No}
def scInit:zak ["self", "rows", "rounds"] ["self", "rows"] (zai sInit):=fsk
def ok_init(F:QD "__init__" "Web.__init__" sInit f fd)(cW:VB C)(nW:M6 "rounds")(FN:QD "refuse_no_names" "refuse_no_names" zf0 fn fdn)(bN:WK fdn ["rows"] [])(mN:mg "refuse_no_names" = some (Go fn))(GN:ZB 2 fn fdn ["rows"] spNoNames)(FT:QD "refuse_twice" "refuse_twice" zd5 ft fdt)(bT:WK fdt ["rows"] [])(mT:mg "refuse_twice" = some (Go ft))(GT:ZB 1 ft fdt ["rows"] spTwice)(FO:QD "refuse_one_way" "refuse_one_way" zic fo fdo)(bO:WK fdo ["rows"] [])(mO:mg "refuse_one_way" = some (Go fo))(GO:ZB 1 fo fdo ["rows"] spOneWay)(FL:QD "from_least" "from_least" sLeast fl fdl)(bL:WK fdl ["around"] [])(mL:mg "from_least" = some (Go fl))(GL:ZB 1 fl fdl ["around"] spLeast)(FF:QD "refuse_not_flat" "refuse_not_flat" sFlat ff fdf)(bF:WK fdf ["rounds"] [])(mF:mg "refuse_not_flat" = some (Go ff))(GF:ZB 3 ff fdf ["rounds"] spFlat)(aR:mg "sorted" = none):ZB 4 f fd ["self", "rows"] zW:=by
 refine F.okL scInit Gn
 obtain⟨x,dx,l,as,es,cs,a9,rfl,hx,R,aN,hok,Ct,k⟩:=h
 have hu:=zcd hr
 have ai:BV _:=hr.mono Gj
 have bj:Mq _:=hr.mono Gj
 have ar  := sizeLine_eq
 refine⟨_,zad (zba (zcu GN bj rfl mN FN.kp bN .nil zcq RZ))
  (zad (zba (zcu GT ai rfl mT FT.kp bT .nil zcq RZ))
  (zad (zba (zcu GO ai rfl mO FO.kp bO .nil zcq RZ))
  (zad (ps_dc (i:=2) (M:=["place", "around"]) (ix:=[none,none]) scInit.nd rfl rfl (noB (n:=2) csInit_k csInit_c csInit_n csInit_f rfl ndPA) rfl
    (zao (Cs zfu RZ))
    (λC a5 ex s H=>pg_tupK (K:=K) (n:=2) rfl rfl OR)
    (λC a5 ex s H=>zc2) (λC a5 ex s H=>pv 0) (λC a5 ex s H=>zcu GL (by exact ai) rfl (by exact mL) FL.kp bL .nil zcq RZ) rfl)
  (zad (zba (NJ bF .nil zcq RV))
  (zag (ps_fld Rj Rz rfl)))))),?_⟩
 have ay:(es.map (·.1)).Nodup:=Ct.nd
 have ap:∀e∈es,ZJ e.1=e.2.1:=λe he=>zaw ay he
 have cE:∀e∈es,e.2.1.Nodup:=λe he=>ap e he▸Ct.rn e.1
 have fw:∀e∈es,∀y∈e.2.1,y∈es.map (·.1):=λe he y hy=>Ct.inn' (x:=e.1) (by rw[ap e he];exact hy)
 have bp:∀e∈es,e.2.1.length≤40:=λe he=>by
  have:=zck (cE e he) (fw e he)
  rw[Qa]at this
  exact Ze ‹_› ‹_›
 refine⟨xc,l,as,es,rfl,R,λe he=>⟨Ze (bp e he) Gj,hok e he,λy hy=>?_⟩,λH1 k1=>?_⟩
 ·obtain ⟨e',aU,rfl⟩:=Qh.mp (fw e he y hy)
  exact hok e' aU
 have R1:=R.keep k1
 refine⟨xc,l,as,es,rfl,R1,Gg,ay,λe he=>⟨Ze (bp e he) Gj,cE e he⟩,λH2 k2=>?_⟩
 have R2:=R1.keep k2
 refine⟨xc,l,as,es,rfl,R2,ay,λe he=>⟨?_,λy hy=>?_⟩,λH3 k3=>?_⟩
 ·rw[←ap e he];exact Ct.ir e.1
 ·obtain ⟨e',aU,bJ⟩:=Qh.mp (fw e he y hy)
  have lZ:e'.1=y:=bJ
  refine⟨e',aU,lZ,?_⟩
  rw[←ap e' aU,lZ]
  exact Ct.sy e.1 y (by rw[ap e he];exact hy)
 have R3:=R2.keep k3
 have gw:Keep [] H H3:=(SQ k2).trans k3
 have bo:as.length=es.length:=Zy R3.ts
 refine⟨xc,l,xc,SqL.of R3.ls,λv hv=>?_,λv hv u hu e=>?_,λl2 wsV az aj aQ=>?_⟩
 ·obtain ⟨a,ha,rfl⟩:=Qh.mp hv
  obtain⟨i,hi,rfl⟩:=Zr ha
  obtain⟨ao,h⟩:=FH hi
  exact⟨_,_,xc,h⟩
 ·obtain ⟨a,ha,rfl⟩:=Qh.mp hv
  obtain⟨b,hb,rfl⟩:=Qh.mp hu
  obtain⟨i,hi,rfl⟩:=Zr ha
  obtain⟨j,hj,rfl⟩:=Zr hb
  obtain⟨ao,h1⟩:=FH hi
  obtain⟨l9,h2⟩:=FH hj
  rw[zeq h1,zeq h2]at e
  have e':es[i].1=es[j].1:=by
   have q:es[i].1.cps.toList=es[j].1.cps.toList:=e
   generalize es[i].1=a1 at q ⊢
   generalize es[j].1=a2 at q ⊢
   cases a1;cases a2
   congr 1
   exact Xl.mp q
  have e2:(es.map (·.1))[i]'(zm ao)=(es.map (·.1))[j]'(zm l9):=by rw[Zl,Zl];exact e'
  have:=(Wa ay).mp e2
  subst this
  rfl
 ·obtain ⟨dl,rfl,br⟩:=refs_perm aj
  obtain⟨av,cg,dD⟩:=zei br R3.ts
  have k4:Keep [] H3 (WU l2 Lg):=Keep.new az
  have eY:(WU l2 Lg) l2=some Lg:=zab
  generalize WU l2 Lg=H4 at k4 eY
  have gY:Paired (Hr H4) dl av:=Paired.imp' (λ_ _ h=>k4 _ _ h Gf) dD
  have bW:∀e∈av,H4 e.2.2=some HU:=λe he=>k4 _ _ (R3.ro e (zZ he)) Gf
  have ni:(av.map (·.1)).Nodup:=(cg.map _).nodup_iff.mpr ay
  have oy:dl.length=av.length:=Zy gY
  have hel2:av.length=es.length:=cg.length_eq
  refine⟨l2,rfl,⟨_,Gs eY⟩,λi m ys τ H'=>Aj5 (m=av.length-i) (i≤av.length) (Ex2 λx0 x1=>τ=[x0,x1]) (Keep [] H4 H') (Ex1 λ(ts:List Ent)=>Aj3 (ys=(eWV ts)) (∀e∈ts,H' e.2.2=some (.tup LR)) (zg2 ts (av.take i))),
   ⟨av.length,rfl,RP,⟨none,none,rfl⟩,Keep.refl,[],rfl,λe he=>(by cases he),.nil⟩,?_⟩
  rintro i m ys τ H5 ⟨rfl,hi,⟨x0,x1,rfl⟩,k5,ts,rfl,jh,dF⟩
  by_cases ad:i<av.length
  ·have kO:=zb7 dF
   have htl:ts.length≤i:=by
    have:=congrArg List.length kO
    rw[Qa,Qa,Zq]at this
    lia
   refine .inr ⟨⟨_,.ref dl[i],ES,by rw[Qo,Qd (by exact zar6 ‹_› ‹_›)];rfl⟩,RQ,?_⟩
   rintro v H6 ⟨rfl,hv⟩
   have aY:=hv _ ES
   rw[Qo,Qd (by exact zar6 ‹_› ‹_›)]at aY
   obtain rfl:V.ref dl[i]=v:=Qn aY
   obtain⟨ao,f9⟩:=zay gY (by exact zar6 ‹_› ‹_›:i<dl.length)
   have aT:av[i]∈av:=Qs ad
   have cc:=k5 _ _ (bW _ aT) Gf
   have nh:av[i].1∉ts.map (·.1):=by
    rw[kO]
    have h1:(av.map (·.1)).take Hj=(av.map (·.1)).take i++[av[i].1]:=by
     rw[Ql (zm ad),Zl]
    have h2:((av.map (·.1)).take Hj).Nodup:=VD ni
    rw[h1,Zc,←Ut]at h2
    exact λz=>h2.2.2 _ z _ RU rfl
   refine⟨dl[i],xc,Hy (k5 _ _ f9 Gf),rfl,_,xc,_,xc,rfl,xc,xc,av[i].2.2,av[i].2.1,rfl,cc,Ze (bp _ (zZ aT)) Gj,λt j H7 hj pF htfr k7=>?_⟩
   refine⟨Sum.inr av[i].1,rfl,av.length-Hj,Ha,rfl,ad,⟨_,xc⟩,CK k7,ts++[(av[i].1,av[i].2.1.drop j++av[i].2.1.take j,t)],put_new (r:=av[i].2.1.drop j++av[i].2.1.take j) nh,λe he=>?_,?_⟩
   ·rcases Qk.mp he with z | z
    ·exact k7 _ _ (jh e z) Gf
    ·rw[Qc.mp z];exact pF
   ·rw [Ql ad]
    exact zav dF (.cons ⟨rfl,j,rfl⟩ .nil)
  ·have cp:i=av.length:=by exact zar3 ‹_› ‹_›
   subst cp
   rw[Qt GV]at dF
   refine .inl ⟨⟨_,ES,by rw[Qa,oy];exact Qg _⟩,λd hd=>?_⟩
   have k6:Keep [] H5 (QU d yV):=Keep.new hd
   have og:(QU d yV) d=some yV:=zab
   generalize QU d yV=H6 at k6 og
   have kO:=zb7 dF
   have T6:TAt H6 d ts:=⟨og,λe he=>k6 _ _ (jh e he) Gf,Gp kO ni⟩
   have htl:ts.length=es.length:=by
    have:=congrArg List.length kO
    rw[Qa,Qa,cg.length_eq]at this
    exact this
   have C6:Cert (ts.map (·.1)) (LH ts) cs a9:=zgz Ct (by rw[kO];exact cg.map _) (zc5 dF cg ay)
   refine⟨xc,d,ts,cs,a9,rfl,T6,Gg,λe he=>?_,C6,λH7 k7=>?_⟩
   ·obtain ⟨e',aU,_,kk,e2⟩:=zhe dF he
    rw[e2,(zf1 _ kk).length_eq]
    exact Ze (bp e' (zZ aU)) Gj
   ·have k07:Keep [] H H7:=(((gw.trans k4).trans k5).trans k6).trans k7
    have rE:=k07 _ _ hx Gf
    have T7:TAt H7 d ts:=T6.keep k7 Gf He
    have nxd:d≠x:=zat T7.dc rE Gm
    refine⟨xc,xc,x,C,dx,[],rfl,rE,cW,nW,Gj,?_⟩
    refine k d ts av _ ⟨zab,T7.keep (xs:=[x]) HR (Gk nxd) λe he=>by simpa using zat (T7.ro e he) rE Gm⟩ cg dF ((k07.sub Gf).trans HR)
end
def zgk:∀{as:List α} {bs:List β} (n:Nat),YT as bs→YT (as.take n) (bs.take n):=by
 intro as bs n r
 induction r generalizing n with
 |nil=>rw[List.take_nil,List.take_nil];exact .nil
 |cons h t ih =>
  cases n with
  |zero=>exact .nil
  |succ k=>exact .cons h (ih k)
def zgl:∀{as:List α} {bs:List β} (n:Nat),YT as bs→YT (as.drop n) (bs.drop n):=by
 intro as bs n r
 induction r generalizing n with
 |nil=>rw[List.drop_nil,List.drop_nil];exact .nil
 |cons h t ih =>
  cases n with
  |zero=>exact .cons h t
  |succ k=>exact ih k
section
variable{P:Nk}{w:Nl}{K:Na}{mg:Nd}{base:No}
end
end K21
end
section
namespace L2
open PySem PySem.Spec PyProof.Rows
inductive Cal(P:Nk)(w:Nl)(K:Na)(mg:Nd)(base:No)(x:Str)(ps:Ng)(k:Nat)(sp:Sp):Prop
 |mk {f:Nb} {fd:Nv} {st:Stmt} (F:Fun K x x st f fd) (b:Binds K fd ps []) (m:mg x=some (.ref f)) (G:FnOk P w K mg base CX0 k f fd ps sp):Cal P w K mg base x ps k sp
def pcl(T:Cal X.prog X.w X.K X.mg X.base x ps k sp)(hr:U0 X.A)(ha:VP (e::es) t)(hg:V4 x:=by exact rfl)(gf:HK=false:=by decide)(he:starEach (e::es) X.env=(false,CA)::starEach es X.env:=by rfl)(aO:(Ln Rw).any (·.1)=false:=by rfl) :
  PE X (.Call zC (e::es) [] pos) (tCall sp [] E0 t):=by
 obtain⟨F,b,m,G⟩:=T
 exact zcu G hr hg m F.kp b .nil zcq ha gf he aO
section
variable{X:Cx}
def pair_eq{q r:Str×Str}:((Ro 2).all (λj=>if j=0 then q.1==r.1 else q.2==r.2)&&true)=decide (q=r):=by
 rw[show List.range 2=[0,1] from rfl,Yw]
 simp[Prod.ext_iff]
def pair_at{A:Np}{s:Ni}{l b:Nb}{q r:Str×Str}{t1 t2 t3 t4:Tok}(h:A.units<cLine)(p:s.heap.IsTuple l #[.str q.1 t1,.str q.2 t2])(p2:s.heap.IsTuple b #[.str r.1 t3,.str r.2 t4]):SeqAt.RcAt A s RH OL (decide (q=r)):=by
 rw[←pair_eq]
 refine SeqAt.RcAt.tuples (e:=λj=>if j=0 then q.1==r.1 else q.2==r.2) p p2 h λj j1 j2=>?_
 have r9:j<2:=by simpa using j1
 match j,r9 with
 |0,_=>exact Uy q.1 t1 r.1 t3
 |1,_=>exact Uy q.2 t2 r.2 t4
def op_ne_pairsS(hu:X.A.units<cLine):Y3 Lr (λx y H Q=>Ex4 λ(a b:Nb) (q r:Str×Str)=>Aj5 (x=.ref a) (y=.ref b) (H a=some (.tup [.str q.1,.str q.2])) (H b=some (.tup [yk,yl])) (Q (yr (!decide (q=r))) H)):=by
 intro a5 s σ H x y v u Q I rx ry h
 obtain⟨a,b,q,r,rfl,rfl,ha,hb,k⟩:=h
 cases rx;cases ry
 obtain⟨_,a7,r1,p⟩:=MO ha
 obtain⟨_,aI,r2,p2⟩:=XR _ hb
 obtain⟨u1,u2,rfl,⟨t1,rfl⟩,⟨t2,rfl⟩⟩:=vals2 r1
 obtain⟨w1,w2,rfl,⟨t3,rfl⟩,⟨t4,rfl⟩⟩:=vals2 r2
 refine SeqAt.RcNeAt.tuples (e:=λj=>if j=0 then q.1==r.1 else q.2==r.2) p p2 hu (λj j1 j2=>?_) _ _ _ _ ⟨yr (!decide (q=r)),H,I,?_,k⟩
 ·have r9:j < 2:=by simpa using j1
  match j,r9 with
  |0,_=>exact Uy q.1 t1 r.1 t3
  |1,_=>exact Uy q.2 t2 r.2 t4
 ·show Value.bool _=Value.bool _
  congr 1
  rw[←pair_eq];rfl
end
end L2
namespace K21
open PySem L2 Wb
abbrev sCell:Stmt:=top 44
abbrev sPot:Stmt:=top 45
abbrev sTake:Stmt:=top 46
abbrev sBehind:Stmt:=top 48
abbrev sFace:Stmt:=top 49
inductive zhz(vs:List V)(H:Hp)(Q:VK):Prop
 |mk (a:Nb) (zs:Ng) (x:Str) (h0:vs=[.ref a,.str x]) (h1:H a=some (.lst (zs.map V.str))) (h2:x∈zs) (h3:zs.length≤900) (h4:Q (.str (nxt zs x)) H):zhz vs H Q
def spBehindS:Sp:=λvs H Q _=>zhz vs H Q
structure RF(H:Hp)(d:Nb)(es:List Ent):Prop where
 dc:DP G'
 nd:(es.map (·.1)).Nodup
 ro:∀e∈es,H e.2.2=some HU
def RF.get(R:RF H d es)(he:e∈es):BT d Rb z3:=.inl ⟨_,RO,R.dc,rfl,(zb6 R.nd he).symm⟩
def RF.keep(R:RF H d es)(k:Keep [] H H'):RF H' d es :=
 ⟨R.dc.imp (λe=>k _ _ e Gf) λ⟨o,e⟩=>⟨o,Ij e⟩,R.nd,λe he=>k _ _ (NB he) Gf⟩
def RF.inn{d:Nb}(R:RF H d es)(h:a∈es.map (·.1)):∃e∈es,e.1=a∧BT d (RN a) z3:=by
 obtain⟨e,he,ea⟩:=Qh.mp h
 have ea':e.1=a:=ea
 subst ea'
 exact⟨e,he,rfl,R.get he⟩
structure Rnd(r:Nq)(s:Str×Str)(L:Nt):Prop where
 cy:∃t,L=s::t∧Vt s t s
 nd:L.Nodup
 al:∀u∈L,u.1∈r u.2
def rnd_of{ns:Ng}{r:Nq}{cs:List (Sg (Str×Str))}{a9:Nx}(C:QG a9){s:Str×Str}(hs:s.1∈r s.2):∃L,Rnd r s L:=by
 obtain⟨c,cu,mt⟩:=Zu.mp ((EN s).mpr hs)
 obtain⟨A1,B1,eF⟩:=Yl mt
 have kY:=zc3 (eF▸Bl cu)
 have di:(s::(B1++A1)).Perm c:=by
  rw[eF]
  refine Jh.mpr λa=>?_
  simp only[Jv,Ki];lia
 refine⟨s::(B1++A1),⟨xc,kY⟩,?_,λu hu=>C.inc cu (zV hu)⟩
 rw[di.nodup_iff]
 have:=(zb0 cu).nodup_iff.mp C.cf
 rw[Zc]at this
 exact this.1
inductive IspStepsS(vs:List V)(H:Hp)(Q:VK):Prop
 |mk (d:Nb) (es:List Ent) (cs:List (List (Str×Str))) (a9:Nx) (s:Str×Str) (h0:vs=[.ref d,.str s.1,.str s.2]) (h1:RF H d es) (h2:s.1∈row (rsOf es) s.2) (h3:Cert (es.map (·.1)) (row (rsOf es)) cs a9) (h4:es.length≤40)
  (h6:∀(t:Nb) (ps:Nn) (L:Nt) (H':Hp),H t=none→H' t=some (Gw (ps.map V.ref))→zbq H' ps L→X1 s L→L.length≤1600→(∀a∈ps,H a=none)→Keep [] H H'→Q TK H'):IspStepsS vs H Q
def zh6:Sp:=λvs H Q _=>IspStepsS vs H Q
def steps_len{es:List Ent}{r:Nq}{cs:List (Sg (Str×Str))}{a9:Nx}(C:Cert (es.map (·.1)) r cs a9)(h:es.length≤40){L:Nt}(nd:L.Nodup)(al:∀u∈L,u.1∈r u.2):L.length≤1600:=by
 have ji:∀u∈L,u∈(es.map (·.1)).flatMap λx=>(es.map (·.1)).map λy=>(x,y):=λu hu=>by
  have h1:=al u hu
  refine List.mem_flatMap.mpr ⟨u.1,L5 h1,Ts ⟨u.2,EO h1,rfl⟩⟩
 have:=nodup_len nd ji
 rw[List.length_flatMap]at this
 simp only[Qa,List.map_const',List.sum_replicate_nat]at this
 have h2:es.length*es.length≤40*40:=Nat.mul_le_mul h h
 lia
section
variable{P:Nk}{w:Nl}{K:Na}{mg:Nd}{base:No}
def scBehind:zak ["_law_around", "_law_place"] ["_law_around", "_law_place"] (zai sBehind):=fsk
def ok_behindS(F:QD "_law_behind" "_law_behind" sBehind f fd)(ae:mg "len" = none):ZB 1 f fd ["_law_around", "_law_place"] spBehindS:=by
 refine F.okL scBehind Gn
 obtain⟨a,zs,x,rfl,ha,hx,hz,k⟩:=h
 have hu:=zcd hr
 refine⟨_,zag (zax (QZ Rj (XY (OA (Vq Rj RZ))
  (UK Hh ae Yc Sj)) GD)),?_⟩
 obtain⟨i1,i2⟩:=ziw hx
 have dN:0<zs.length:=Yh hx
 have hm:(zs.idxOf x+1)%zs.length<zs.length:=Dp dN
 have g:(zs.map V.str)[(zs.idxOf x+1)%zs.length]?=some (RN (BG x)):=by
  rw[Qo,Qd hm]
  unfold nxt
  simp[List.getD,hm]
 have e1:((zs.idxOf x:Nat):Int)+1=((zs.idxOf x+1:Nat):Int):=by lia
 have g2:atI Rl ((((zs.idxOf x:Nat):Int)+1)%((zs.map V.str).length:Int))=some (RN (BG x)):=by
  rw[e1,Qa,←Int.natCast_emod]
  exact za3 g
 refine⟨xc,xc,HX ha,xc,a,_,_,xc,rfl,ha,rfl,zcl zs,i1,i2,_,xc,rfl,xc,a,xc,Se ha,_,xc,rfl,?_,a,_,_,xc,rfl,Gs ha,g2,k⟩
 rw[Qa];exact zar9 ‹_›
def scFace:zak [qR, "_law_p", "_law_q", "_law_found", "_law_here"] [qR, "_law_p", "_law_q"] (zai sFace):=fsk
def ok_face(F:QD "_law_face" "_law_face" sFace f fd)(GB:ZK "_law_behind" ["_law_around", "_law_place"] 1 spBehindS) :
  FnOk P w K mg base CX0 2 f fd [qR, "_law_p", "_law_q"] zh6:=by
 refine F.okL scFace Gn
 obtain⟨d,es,cs,a9,sp,rfl,R,aq,C,aN,k⟩:=h
 have hu:=zcd hr
 refine⟨_,zad (B8 scFace.nd (zbi (Hz (zbo (ZU RV)))))
  (zad (BD scFace.nd (zbo (Ae (pcl GB hr (zaa (QI Rz) RZ)))))
  (zad (DV (zar (op_ne_pairsS (Wk zB hu)) Rx (QZ RA zah (fun _ _=>rfl)) rfl)
   (zad (Cq RA S4)
   (zag (BD scFace.nd (zbo (zaa (SS Rx) (zaa (pcl GB hr (zaa (QI (SS Rx)) (LA (SS Rx)))) zae)))))))
  (zag (zax RA)))),?_⟩
 obtain⟨L,⟨lt,eL,kY⟩,nd,al⟩:=rnd_of C aq
 have hLb:=steps_len C aN nd al
 have di:0<L.length:=by rw[eL];simp
 have i9:∀k (hk:k<L.length),Bo L[k]=L.getD (k+1) sp:=λk hk=>by
  have:=lk_get kY k (by rw[←eL];exact hk)
  rw[←eL,Zd,Qd hk]at this
  exact this
 have rn:∀e∈es,e.2.1.length≤900:=λe he=>by
  have h1:e.2.1.Nodup:=by have:=C.rn e.1;rw[JC he]at this;exact this
  have:∀y∈e.2.1,y∈es.map (·.1):=λy hy=>C.inn' (x:=e.1) (by rw[JC he];exact hy)
  have:=zck h1 this
  rw[Qa]at this
  lia
 have at':∀{H':Hp},RF H' d es→∀q:Str×Str,q.1∈ZJ q.2→∃e∈es,DGet H' d (.str q.2) z3∧H' e.2.2=some HU∧q.1∈e.2.1∧Bo q=(q.2,FI q.1):=λ{H'} R' q hq=>by
  obtain⟨e,he,ee,g⟩:=R'.inn (EO hq)
  have hr:=JC he
  rw[ee]at hr
  exact⟨e,he,g,R'.ro e he,by rw[←hr];exact hq,by show(q.2,nxt (ZJ q.2) q.1)=_;rw[hr]⟩
 have i0:∀x y:V,atI [x,y] ((0:Nat):Int)=some x:=λx y=>za3 rfl
 have i1:∀x y:V,atI [x,y] ((1:Nat):Int)=some y:=λx y=>za3 rfl
 have ar  := sizeLine_eq
 refine⟨xc,xc,Sh,λt0 rP=>⟨Ib,λl hl=>?_⟩⟩
 have k1:Keep [] H (upd (ZS t0 (.tup [CS,CT])) l (.lst [yW])):=(Gx rP).trans PP
 have ntl:t0≠l:=zac (o:=_) zab hl
 have dG:(upd (ZS t0 (.tup [CS,CT])) l (.lst [yW])) t0=some (.tup [CS,CT]):=by rw[zaf ntl];exact zab
 have aE:(upd (ZS t0 (.tup [CS,CT])) l (.lst [yW])) l=some (.lst [yW]):=zab
 have fl:H l=none:=zaz (xs:=[]) (Gx rP) hl Gf
 generalize upd (ZS t0 (.tup [CS,CT])) l (.lst [yW])=H1 at k1 dG aE
 have R1:=R.keep k1
 obtain⟨e,he,g1,g2,g3,g5⟩:=at' R1 sp aq
 refine⟨xc,xc,xc,d,xc,g1,xc,_,e.2.1,sp.1,rfl,g2,g3,rn e he,Sh,λt ht=>?_⟩
 have h0:L[0]'(di)=sp:=by
  have:L[0]?=some sp:=by rw[eL];rfl
  exact(Qy.mp this).2
 have e5:[V.str sp.2,V.str (FI sp.1)]=[V.str (CQ 1).1,V.str (CQ 1).2]:=by rw[←i9 0 di,h0,g5]
 rw[e5]
 have nlt:l≠t:=zac aE ht
 have nX:∀{a:Nb},H1 a=none→H a=none:=λ{a} h=>zaz k1 h Gf
 refine⟨λm σ H2=>Ex3 λ(n:Nat) (t:Nb) (as:Nn)=>Aj9 (m=L.length-n) (n<L.length) (σ=[Ta,Gz CS,Gz CT,EW,Gh t]) (Keep [l] H1 H2) (H2 l=some (Gw ((t0::as).map V.ref))) (zbq H2 (t0::as) (L.take (n+1))) (H2 t=some (.tup [.str (CQ (n+1)).1,.str (CQ (n+1)).2])) (as.length=n) (Aj2 (∀a∈t0::as,H a=none) (H t=none)),
  ⟨_,0,t,[],rfl,di,rfl,Tq,Gv nlt aE,?_,zab,rfl,λa ha=>by rw[Qc.mp ha];exact rP,nX ht⟩,?_⟩
 ·rw [show L.take (0+1)=[sp] by rw [eL];rfl]
  exact .cons (Gv (zac dG ht) dG) .nil
 rintro m σ H2 ⟨n,t,as,rfl,hn,rfl,k2,az,pa,c7,bo,lf,hft⟩
 have rO:=k2 _ _ dG (Gk ntl)
 refine⟨xc,xc,l,_,_,xc,rfl,E3,(show atI ((t0::as).map V.ref) ((0:Nat):Int)=some yW from za3 rfl),t,t0,CQ (n+1),sp,rfl,rfl,c7,rO,xc,?_⟩
 by_cases bm:n+1=L.length
 ·have hL:L.getD (n+1) sp=sp:=by rw [Zd,Ka Gg];rfl
  refine zbk (by rw[decide_eq_true hL];rfl) ?_
  rw[Qt Gg]at pa
  exact⟨xc,k l (t0::as) L H2 fl az pa ⟨⟨lt,eL,kY⟩,nd,al⟩ hLb lf λc o ec _=>k2 c o (k1 _ _ ec Gf) (by simpa using W1 fl)⟩
 ·have cj:n+1 < L.length:=by lia
  have gh:L.getD (n+1) sp=L[n+1]:=by rw[Zd,Qd cj];rfl
  rw[gh]at c7 ⊢
  have ax:L[n+1]≠sp:=λz=>by
   rw[←h0]at z
   have:=(Wa (h₀:=cj) (h₁:=di) nd).mp z
   lia
  refine zbt (by rw[decide_eq_false ax];rfl) ?_
  have qQ:t≠l:=zat c7 az Gm
  refine⟨_,λ σ' H' z=>z,?_⟩
  refine⟨xc,HX az,xc,l,_,xc,rfl,az,by rw[Qa,Qu];lia,?_⟩
  have k3:Keep [l] H1 (yX l ((t0::as).map V.ref++[La t])):=k2.trans L7
  have mj:(yX l ((t0::as).map V.ref++[La t])) t=some (.tup [.str L[n+1].1,.str L[n+1].2]):=by rw[zaf qQ];exact c7
  have dU:(yX l ((t0::as).map V.ref++[La t])) l=some (Gw ((t0::(as++[t])).map V.ref)):=by rw[zab,←Ws,Qp];rfl
  have pa3:zbq (yX l ((t0::as).map V.ref++[La t])) (t0::(as++[t])) (L.take (n+1+1)):=by
   rw[Ql cj,←Ws]
   refine zav (zbq.keep pa λb x y eb=>?_) (Rk mj)
   rw[zaf (zat eb az Gm)];exact eb
  generalize QA l (Gw ((t0::as).map V.ref++[La t]))=H3 at k3 mj dU pa3
  have R3:RF H3 d es:=⟨R1.dc.imp (λz=>k3 _ _ z (by simpa using zat z aE (by intro q;cases q))) λ⟨o,z⟩=>⟨o,k3 _ _ z (by simpa using zat z aE (by intro q;cases q))⟩,R1.nd,λe he=>k3 _ _ (R1.ro e he) (by simpa using zac (NB he) fl)⟩
  obtain⟨e,he,g1,g2,g3,g5⟩:=at' R3 L[n+1] (al _ (Qs cj))
  refine⟨xc,t,_,_,xc,rfl,Hy mj,Lm,xc,xc,t,_,_,xc,rfl,Hy mj,Lm,d,xc,g1,xc,t,_,_,xc,rfl,Hy mj,ID,_,e.2.1,L[n+1].1,rfl,g2,g3,rn e he,Sh,λt' pG=>?_⟩
  have e6:[V.str L[n+1].2,V.str (FI L[n+1].1)]=[V.str (CQ (n+1+1)).1,V.str (CQ (n+1+1)).2]:=by rw[←i9 (n+1) cj,g5]
  rw[e6]
  have nl':l≠t':=zac dU pG
  have ft':H t'=none:=nX (zaz k3 pG (by simpa using Zk nl'))
  refine⟨L.length-(n+1),Gg,n+1,t',as++[t],rfl,cj,rfl,Lu (Gx pG),Gv nl' dU,zbq.keep pa3 λb x y eb=>by rw[zaf (zac eb pG)];exact eb,zab,by rw[Qz,bo];rfl,λa ha=>?_,ft'⟩
  rw[←Ws]at ha
  rcases Qk.mp ha with z | z
  ·exact lf a z
  ·rw[Qc.mp z];exact hft
inductive IspCell(K:Na)(vs:List V)(H:Hp)(Q:VK):Prop
 |mk (a:Nb) (ns:List Int) (j:Nat) (h0:vs=[.ref a,.int j]) (h1:SqL K H a (ns.map V.int)) (h3:∀c:Int,Q (.int c) H):IspCell K vs H Q
def spCell(K:Na):Sp:=λvs H Q _=>IspCell K vs H Q
inductive IspPot(vs:List V)(H:Hp)(Q:VK):Prop
 |mk (c:Int) (h0:vs=[.int c]) (h3:∀(l:Nb) (b m:Int) (H':Hp),H l=none→Pot H' l b m→Keep [] H H'→Q (.ref l) H'):IspPot vs H Q
def spPot:Sp:=λvs H Q _=>IspPot vs H Q
def scCell:zak [qS, "_law_k"] [qS, "_law_k"] (zai sCell):=fsk
def ok_cell(F:QD "_law_cell" "_law_cell" sCell f fd)(ae:mg "len" = none):ZB 1 f fd [qS, "_law_k"] z4:=by
 refine F.okL scCell Gn
 obtain⟨a,ns,j,rfl,hS,k⟩:=h
 refine⟨_,zad (zby (FE HQ (Oy Sj) RE) (zag (zax (LC Rj HQ))) zau) (zag (zax zah)),?_⟩
 refine⟨xc,xc,a,xc,Rf hS,_,xc,rfl,xc,?_⟩
 refine ite2 (λad=>?_) (λ_=>k _)
 have sS:(j:Int)<((ns.map V.int).length:Int):=of_decide_eq_true ad
 have l9:j<ns.length:=by rw[Qa]at sS;lia
 have g:(ns.map V.int)[j]?=some (.int ns[j]):=by rw[Qo,Qd l9];rfl
 exact⟨xc,xc,a,_,_,xc,rfl,hS,za3 g,k _⟩
def scPot:zak ["_law_cell_here"] ["_law_cell_here"] (zai sPot):=fsk
def ok_pot(F:QD "_law_pot" "_law_pot" sPot f fd)(sO:mg "max" = none)(tZ:mg "abs" = none):ZB 1 f fd ["_law_cell_here"] spPot:=by
 refine F.okL scPot Gn
 obtain⟨c,rfl,k⟩:=h
 refine⟨_,zag (zax (zbi (zaa (zal (call_max2 rfl) Hh sO PyProof.Rows.boot_max (WB (Hz (BC Rj (za4 op_pow zah zah)))))
    (zaa (OA (XY (zal call_abs Hh tZ PyProof.Rows.boot_abs Sj) zah)) zae)))),?_⟩
 refine⟨xc,_,xc,rfl,⟨Gj,Gj,Gj⟩,_,xc,rfl,_,xc,xc,xc,_,xc,rfl,(by show(0:Int)<2147483563;decide),_,xc,rfl,Sh,λl hl=>?_⟩
 have h1:0≤(if c<0 then -c else c)%2147483563:=Xq _ Gj
 have h2:(if c<0 then -c else c)%2147483563<2147483563:=Ko _ Gj
 refine k l _ _ _ hl ⟨zab,?_,Gg,Gg⟩ PP
 split<;>lia
def scTake:zak [qP,qM, "_law_digit"] [qP,qM] (zai sTake):=fsk
def ok_take(F:QD "_law_take" "_law_take" sTake f fd)(dm:mg "divmod" = none):ZB 1 f fd [qP,qM] zfl:=by
 refine F.okL scTake Gn
 obtain⟨p,b,m,n,rfl,⟨hp,hb,hm,bM⟩,hn,bw,k⟩:=h
 have i0:atI [Sy b,Sy m] ((0:Nat):Int)=some (Ht b):=za3 rfl
 have i1:atI [Sy b,Sy m] ((1:Nat):Int)=some (Ht m):=za3 rfl
 refine⟨_,zad (zby (FJ OD zah RE)
   (zad (zd6 (zal zg0 Hh dm PyProof.Rows.boot_divmod (zaa (QZ Rj zah (fun _ _=>rfl)) RZ)) (Lz (Fp set_list) (SX (MQ scTake.nd))))
    (zag Oc)) zau)
   (zad (zd6 (XY (OA (K' (LC Rj zah) zah)) zah) (Fp set_list))
   (zag (zax (XY (za4 op_fdiv (XY (K' OD OD) zah) zah) HQ)))),?_⟩
 refine⟨xc,p,_,_,xc,rfl,Gs hp,i0,_,xc,rfl,xc,?_⟩
 refine ite2 (λdN=>?_) (λhneg=>?_)
 ·have lq:0 < b:=of_decide_eq_true dN
  refine⟨xc,p,_,_,xc,rfl,Gs hp,i0,xc,b,n,rfl,⟨hn,bw⟩,λt ht=>?_⟩
  have npt:p≠t:=zac hp ht
  refine⟨t,xc,Hy zab,rfl,_,xc,xc,p,_,0,0,rfl,rfl,(Gv npt hp),rfl,_,xc,rfl,xc,?_⟩
  refine k (b%n) (b/n) m _ (Xq _ Gg) (Ko _ hn) ⟨zab,Int.ediv_nonneg hb Gg,hm,bM⟩ λc o e hc=>?_
  rw[zaf hc,zaf (XG ht)]
  exact e
 ·have i1':∀ x:Int,atI [Sy b,Sy x] ((1:Nat):Int)=some (Ht x):=fun x=>za3 rfl
  have r0:0≤(m*39373+7919)%2147483629:=Xq _ Gj
  have r1:(m*39373+7919)%2147483629<2147483629:=Ko _ Gj
  refine⟨xc,p,_,_,xc,rfl,Gs hp,i1,_,xc,rfl,Rf ⟨Gg,Gg⟩,_,xc,rfl,_,xc,rfl,(by show(0:Int)<2147483629;decide),xc,p,_,1,1,rfl,rfl,hp,rfl,?_⟩
  refine⟨xc,p,_,_,xc,rfl,Th,i1' _,xc,p,_,_,xc,rfl,Th,i1' _,_,xc,rfl,Rf ⟨Gg,Gg⟩,_,xc,rfl,(by show(0:Int)<2147483563;decide),_,xc,rfl,⟨Gj,Gj⟩,xc,_,xc,rfl,hn,?_⟩
  refine k _ b ((m*39373+7919)%2147483629) _ (Xq _ Gg) (Ko _ hn) ⟨zab,hb,r0,Gg⟩ λc o e hc=>?_
  rw[zaf hc]
  exact e
end
end K21
end
section
namespace L2
open PySem PySem.Spec PyProof.Rows
def zg8(P:St→Hp→Prop)(h:∀D':Ends,(∀σ H,P σ H→D'.nx σ H)→t D' σ H)(hD:∀σ H,P σ H→u D σ H):tSeq t u D σ H:=h {D with nx:=u D} hD
end L2
namespace K21
open PySem L2 Wb
abbrev sPut:Stmt:=top 50
inductive IspPut(vs:List V)(H:Hp)(Q:VK):Prop
 |mk (d:Nb) (es:List Ent) (e1 e2:Ent) (c1 c2:Option Str) (h0:vs=[.ref d,.str e1.1,zbp c1,.str e2.1,zbp c2]) (h1:RAt H d es) (h2:e1∈es) (h2':e2∈es) (ax:e1.1≠e2.1) (h3:(∀x,c1=some x→x∈e1.2.1)) (h3':(∀x,c2=some x→x∈e2.2.1)) (h4:∀e∈es,e.2.1.length≤900) (h5:es.length≤900)
  (h6:∀(a1 a2:Nb) (H':Hp),RAt H' d (UP a2)→Keep [d] H H'→Q .non H'):IspPut vs H Q
def spPut:Sp:=λvs H Q _=>IspPut vs H Q
def PutI(d:Nb)(es:List Ent)(e1 e2:Ent)(c1 c2:Option Str)(H:Hp)(a1 a2:Nb):Nat→Prop
 |0=>K7 es
 |1=>K7 (Af c1)
 |_=>K7 (UP a2)
def mem_setE(h:e∈es)(hx:e.1≠x):e∈UW x r a:=by
 unfold setE
 exact Qh.mpr ⟨e,h,by rw[if_neg hx]⟩
section
variable{P:Nk}{w:Nl}{K:Na}{mg:Nd}{base:No}
def scPut:zak [qR, "_law_one", "_law_corner_of",qO, "_law_after", "_law_place", "_law_corner", "_law_new", "_law_row", "_law_at"] [qR, "_law_one", "_law_corner_of",qO, "_law_after"] (zai sPut):=fsk
def ok_put(F:QD "_law_put" "_law_put" sPut f fd):ZB 1 f fd [qR, "_law_one", "_law_corner_of",qO, "_law_after"] spPut:=by
 refine F.okL scPut Gn
 obtain⟨d,es,e1,e2,c1,c2,rfl,R,bm,dY,ax,bC,jS,hl,aN,k⟩:=h
 have hu:=zcd hr
 have ar:=sizeLine_eq
 refine⟨_,zag (Z0 (pi_tup (zbo (zaa (zbo (ZU (ZX SH))) (Hz (zbo (QC (Q8 RZ))))))) (Lz (XI scPut.nd) (zaj (VE scPut.nd) (SX (zam 7 scPut.nd))))
  (zad (zap 8 scPut.nd (QI RD))
  (zad (zap 9 scPut.nd zah)
  (zad (zby (za TF) (zag (zap 9 scPut.nd (YC (Vq Ox ET) zah))) zau)
  (zag (Bn Rj RD (K8 (K8 (JU Ox zct (zb2 Od)) OH) (JU Ox (zb2 Od) zct)) rfl)))))),?_⟩
 refine⟨xc,xc,xc,(Gi 3),λt1 dG=>?_⟩
 have k1:Keep [] H (ZS t1 (.tup [Sn,zbp c1,SU])):=Keep.new dG
 have g1:(ZS t1 (.tup [Sn,zbp c1,SU])) t1=some (.tup [Sn,zbp c1,SU]):=zab
 generalize ZS t1 (.tup [Sn,zbp c1,SU])=H1 at k1 g1
 refine⟨xc,xc,xc,(Gi 3),λt2 c7=>⟨Sh,λq hq=>?_⟩⟩
 have k2:Keep [] H1 (QJ t2 (.tup [SU,zbp c2,Sn])):=Keep.new c7
 have g2:(QJ t2 (.tup [SU,zbp c2,Sn])) t2=some (.tup [SU,zbp c2,Sn]):=zab
 generalize QJ t2 (.tup [SU,zbp c2,Sn])=H2 at k2 g2 hq
 have k3:Keep [] H2 (QA q (.tup [Go t1,Go t2])):=Keep.new hq
 have pQ:(QA q (.tup [Go t1,Go t2])) q=some (.tup [Go t1,Go t2]):=zab
 generalize QA q (.tup [Go t1,Go t2])=H3 at k3 pQ
 have dw:Keep [] H H3:=(SQ k2).trans k3
 have g13:=(S5 k3) _ _ g1 Gf
 have g23:=k3 _ _ g2 Gf
 have R3:RAt H3 d es:=R.keep dw Gf λ_ _=>by simp
 have ndq:q≠d:=zat pQ R3.dc Gm
 have nd1:t1≠d:=zat g13 R3.dc Gm
 have fg:t2≠d:=zat g23 R3.dc Gm
 refine⟨q,rfl,⟨_,Hy pQ⟩,for_tup (xs:=[Go t1,Go t2]) (λi σ H'=>Aj2 (Ex5 λx5 x6 x7 x8 x9=>σ=[Ta,Gz Sn,L9 c1,Gz SU,L9 c2,x5,x6,x7,x8,x9]) (Aj2 (Keep [d] H3 H') (Ex2 λa1 a2=>Vu i)))
  ⟨⟨_,_,_,_,_,rfl⟩,Keep.refl,0,0,R3⟩ (λi σ H' _ hh=>SqT.of (hh.2.1 _ _ pQ (Gk ndq))) ?_ ?_⟩
 ·rintro i v σ H4 hv ⟨⟨x5,x6,x7,x8,x9,rfl⟩,k4,a1,a2,hR⟩
  obtain⟨t,am,e,c,n,rfl,ht,R4,he,hc,f7,hesl,fin⟩:∃(t:Nb) (am:List Ent) (e:Ent) (c:Option Str) (n:Str),v=.ref t∧H4 t=some (.tup [Rb,zbp c,RN n])∧RAt H4 d am∧e∈am∧(∀x,c=some x→x∈e.2.1)∧e.2.1.length≤900∧am.length≤900 ∧
    ∀(a:Nb) (H':Hp),RAt H' d (setE am e.1 (VF n) a)→Ex2 λa1 a2=>Vu Hj:=by
   match i,hv,hR with
   |0,hv,hR=>exact⟨t1,es,e1,c1,e2.1,(Qn hv).symm,k4 _ _ g13 (Gk nd1),hR,bm,bC,hl e1 bm,aN,λa H' r=>⟨a,0,r⟩⟩
   |1,hv,hR=>exact⟨t2,_,e2,c2,e1.1,(Qn hv).symm,k4 _ _ g23 (Gk fg),hR,mem_setE dY (Zk ax),jS,hl e2 dY,by unfold setE;rw[List.length_map];exact aN,λa H' r=>⟨a1,a,r⟩⟩
   |n+2,hv,hR=>cases hv
  clear hv hR
  have ap:=R4.ro e he
  refine⟨t,xc,Hy ht,rfl,_,xc,_,xc,_,xc,rfl,xc,xc,d,xc,(zb6 R4.nd he▸DGet.k (k:=Sum.inr e.1) R4.dc),?_⟩
  show tSeq (tAsg (tC (Sy 0)) (zez 9)) _ _ _ _
  refine zg8 (λ σ' H'=>Aj2 (σ'=[Ta,Gz Sn,L9 c1,Gz SU,L9 c2,C2,L9 c,SK n,z3,RJ 0]) (H4=H')) (λD' bE=>bE _ _ ⟨rfl,rfl⟩) ?_
  rintro σ' H' ⟨rfl,rfl⟩
  dsimp only
  refine zg8 (λ σ' H'=>Aj2 (Ex1 λj:Nat=>Aj3 (σ'=[Ta,Gz Sn,L9 c1,Gz SU,L9 c2,C2,L9 c,SK n,z3,RJ j]) (j≤e.2.1.length) (VF n=e.2.1.take j++n::e.2.1.drop j)) (H4=H')) (λD' bE=>?_) ?_
  ·cases c with
   |none=>exact⟨xc,xc,iteF (bE _ _ ⟨⟨0,rfl,RP,rfl⟩,rfl⟩)⟩
   |some x =>
    have hx:=hc x rfl
    obtain⟨i1,i2⟩:=ziw hx
    refine⟨xc,xc,iteT ⟨xc,HX ap,xc,e.2.2,_,_,xc,rfl,ap,rfl,zcl _,i1,i2,_,xc,rfl,bE _ _ ⟨⟨e.2.1.idxOf x+1,?_,idx_lt hx,rfl⟩,rfl⟩⟩⟩
    have e1:((e.2.1.idxOf x+1:Nat):Int)=(e.2.1.idxOf x:Int)+1:=by lia
    rw[e1];rfl
  rintro σ' H' ⟨⟨j,rfl,hj,ei⟩,rfl⟩
  have aA:(e.2.1.map V.str).length=e.2.1.length:=Qa ..
  refine⟨xc,xc,xc,e.2.2,xc,Gs ap,λp1 h1=>?_⟩
  refine⟨xc,Ib,λp2 h2=>?_⟩
  have du:p1≠p2:=zac (o:=_) zab h2
  refine⟨p1,p2,_,xc,rfl,Ik,zab,?_,λp3 h3=>?_⟩
  ·have:=Xx none (some (j:Int))
   rw[aA]at this
   show _+1≤sizeLine
   lia
  generalize dj:upd (yU p1 (Y1 none (some (j:Int)))) p2 (.lst [RN n])=H5 at h3 ⊢
  have k5:Keep [] H4 H5:=by rw[←dj];exact(Gx h1).trans CP
  have iG:=k5 _ _ ap Gf
  have n3:e.2.2≠p3:=zac iG h3
  refine⟨xc,xc,xc,e.2.2,xc,Gs (by rw[zaf n3];exact iG),λp4 h4=>?_⟩
  have n34:p3≠p4:=zac (o:=_) zab h4
  refine⟨p3,p4,_,xc,rfl,(Gv n34 zab),zab,?_,λp5 h5=>?_⟩
  ·have q1:=Xx none (some (j:Int))
   have q2:=Xx (some (j:Int)) none
   rw[aA]at q1 q2
   rw[Qz]
   show _+1+_≤sizeLine
   lia
  generalize hH4:upd (QU p3 (Gw (Y1 none (some (j:Int))++[RN n]))) p4 (Gw (Y1 (some (j:Int)) none))=H6 at h5 ⊢
  have k6:Keep [] H4 H6:=by rw[←hH4];exact(CK (Gx h3)).trans IM
  have og:=k6 _ _ R4.dc Gf
  have nd5:d≠p5:=zac og h5
  refine⟨xc,xc,d,xc,DPut.k (k:=Sum.inr e.1) (Gv nd5 og) RQ,?_⟩
  have fT:e.1∈am.map (·.1):=Qh.mpr ⟨e,he,rfl⟩
  have el:Y1 none (some (j:Int))++[V.str n]++Y1 (some (j:Int)) none=(VF n).map V.str:=by
   rw[zht Ch,zf6 Ch,ei,Qp,Qm,Ut,Jk,Qx]
   rfl
  refine⟨⟨_,_,_,_,xc⟩,λx o ex nx=>?_,fin p5 _ ⟨?_,λe' aU=>?_,by rw[zb3];exact R4.nd⟩⟩
  ·have nxd:x≠d:=fun z=>nx (by rw [z];exact Qc.mpr rfl)
   have e4:=k4 x o ex nx
   rw[zaf nxd,zaf (zac (Iy e4) h5)]
   exact k6 _ _ e4 Gf
  ·rw[zab,put_setE (r:=VF n) fT]
  ·unfold setE at aU
   obtain⟨e0,h0,rfl⟩:=Qh.mp aU
   by_cases z:e0.1=e.1
   ·rw [Rv z]
    rw[zaf (Zk nd5),zab,el]
   ·rw [Rm z]
    have r0:=R4.ro e0 h0
    have nd0:e0.2.2≠d:=zat r0 R4.dc Gm
    rw[zaf nd0,zaf (zac (Iy r0) h5)]
    exact k6 _ _ r0 Gf
 ·rintro σ H4 ⟨⟨x5,x6,x7,x8,x9,rfl⟩,k4,a1,a2,hR⟩
  exact k a1 a2 H4 hR λc o ec nc=>k4 c o (dw c o ec Gf) nc
end
end K21
end
section
namespace Wb
section
variable{α:Type}[DecidableEq α]
theorem itr_front(rs:Rs α)(s:α×α):∀n,J8 s (n+1)=J8 (stp rs s) n
 |0=>rfl
 |n+1=>congrArg (stp rs) (itr_front rs s n)
theorem lk_itr:∀{t:List (α×α)} {s:α×α},Lk (st AN) s t e→run rs s (t.length+1)=s::t
 |[],s,k=>rfl
 |y::t,s,k=>by
  have h1:=lk_itr k.2
  have hs:stp rs s=y:=k.1
  unfold run at h1 ⊢
  rw[Qu,List.range_succ_eq_map,Qm,Zj,←h1]
  refine congrArg (s::·) (Zz λn _=>?_)
  show J8 s (n+1)=_
  rw[itr_front,hs]
end
end Wb
namespace K21
open PySem L2 Wb
abbrev sCross:Stmt:=top 52
structure DrE(H:Hp)(d:Nb)(es:List Ent):Prop where
 ra:K7 es
 gd:Good EK
 few:es.length≤16
def zbg(es:List Ent):(S2 es).map (·.1)=es.map (·.1):=by
 unfold rsOf;rw[List.map_map];rfl
def DrE.k0(r:NK es)(k:Keep [] H H'):YV es:=⟨r.ra.keep k Gf λ_ _=>by simp,r.gd,r.few⟩
def DrE.pot(r:NK es)(h:Vo m)(k:Keep [p] H H'):YV es :=
 ⟨r.ra.keep k (by simpa using pot_nd h r.ra.dc) λe he=>by simpa using zdi h (r.ra.ro e he),r.gd,r.few⟩
def DrE.cert(r:NK es):∃cs a9,Cert (es.map (·.1)) Hw cs a9:=by
 obtain⟨cs,a9,C⟩:=r.gd
 rw[zbg]at C
 exact⟨cs,a9,C⟩
def DrE.row(r:NK es):∀e∈es,e.2.1.length≤16:=λe he=>by
 have:=zey.rows r.gd (e.1,e.2.1) (Ts ⟨e,he,rfl⟩)
 rw[show(S2 es).length=es.length from Qa ..]at this
 exact Ze this r.few
def DrE.rf(r:NK es):RF H d es:=⟨.inl r.ra.dc,r.ra.nd,r.ra.ro⟩
inductive IspCross(vs:List V)(H:Hp)(Q:VK):Prop
 |mk (p d:Nb) (b m:Int) (es:List Ent) (h0:vs=[.ref d,.ref p]) (h1:Pot H p b m) (h2:DrE H d es) (h3:∀(b' m':Int) (ag:List Ent) (H':Hp),Pot H' p b' m'→DrE H' d ag→ag.map (·.1)=es.map (·.1)→Keep [d,p] H H'→Q .non H'):IspCross vs H Q
def zgc:Sp:=λvs H Q _=>IspCross vs H Q
def rnd_itr(R:Rnd AN s L)(hu:u∈L)(hv:v∈L):∃n,J8 u n=v:=by
 obtain⟨t,rfl,k⟩:=R.cy
 obtain⟨A,B,e⟩:=Yl hu
 have c:Cyc (st AN) (A++u::B):=⟨s,t,e.symm,k⟩
 have kl:=zc3 c
 have aY:v∈u::(B++A):=by
  rw[e]at hv
  rcases Qk.mp hv with z | z
  ·exact QK (WC z)
  ·rcases Qf.mp z with y | y
   ·rw[y];exact Qb
   ·exact QK (YG y)
 rw[←lk_itr kl]at aY
 obtain⟨n,_,e2⟩:=Qh.mp aY
 exact⟨n,e2⟩
def good_tie(G:Good EK)(R:X1 s L)(hu:u∈L)(hv:v∈L)(nd:(es.map (·.1)).Nodup)(h1:e1∈es)(h2:e2∈es)(q1:e1.1=u.2)(q2:e2.1=v.2)(ax:v.2≠u.2)(mV:v.2∉e1.2.1) :
  Good (S2 (YX a2)):=by
 obtain⟨n,hn⟩:=rnd_itr R hu hv
 rw[zc1,zc1]
 have dC:u.1∈e1.2.1:=by
  have:=R.al u hu
  rw[←q1,XL h1]at this;exact this
 have hs:u=(u.1,e1.1):=Wz rfl q1.symm
 have key:=zey.tie EK u.1 (e1.1,e1.2.1) n G (Ts ⟨e1,h1,rfl⟩) dC (by rw[←hs,hn,q1];exact ax) (by rw[←hs,hn];exact mV)
 rw[←hs,hn,←q2,XL h2]at key
 exact key
def ndCr:(["_law_place",qR]:List Str).Nodup:=by decide +kernel
def some_ok(R:RAt H0 d es)(aN:es.length≤16)(nfz:∀ o' u',X.H₀ d≠some Ss)(fin:∀(D:Nb) (G:Ng) (H':Hp),H' D=some Lv→(∀y,y∈G→∃e∈es,e.1=y∧e.2.1≠[])→G.length≤16→Keep [] H0 H'→D'.nx ((some Cf::σ).set 2 (Gh D)) H') :
  sThaw X (tAsg (tLC [none,Gz 0] (iDict (tVar 0)) (zez 0) (tTest (tOp (FA K) (tDGet (tVar 1) (tVar 0)) (tLst tNil))) (tVar 0)) (zez 2)) D' (some Cf::σ) H0:=by
 have ar:=sizeLine_eq
 refine⟨_,rfl,d,_,rfl,R.dc,λo=>⟨λi m ys τ H1=>Aj6 (m=es.length-i) (i≤es.length) (ys=((LX i).filter λe=>!e.2.1.isEmpty).map (λe=>V.str e.1)) (Ex1 λx=>τ=[x,Ta]) (H1 d=some ER) (Keep [d] H0 H1),
  ⟨es.length,Gf,RP,rfl,⟨none,rfl⟩,zab,L7⟩,?_⟩⟩
 rintro i m1 ys τ H1 ⟨rfl,hi,rfl,⟨x0,rfl⟩,hz,k1⟩
 by_cases ad:i<es.length
 ·refine .inr ⟨⟨hz,by rw [Qa];exact ad⟩,?_,?_⟩
  ·have h1:(((LX i).filter fun e=>!e.2.1.isEmpty).map (fun e=>V.str e.1)).length≤es.length:=by
    rw[Qa]
    exact XJ (GK Zq)
   lia
  ·rintro x H' ⟨rfl,pr,e1,rfl⟩
   have g1:pr=((Sum.inr es[i].1:Key),V.ref es[i].2.2):=by
    rw[Qo,Qd ad]at e1
    exact(Qn e1).symm
   subst g1
   have aT:es[i]∈es:=Qs ad
   have eR:=R.ro _ aT
   have nri:es[i].2.2≠d:=zat eR R.dc Gm
   have ba:=k1 _ _ eR (Gk nri)
   refine⟨xc,xc,d,.ref es[i].2.2,rfl,Rf ⟨_,Sum.inr es[i].1,OS ⟨o,hz⟩,rfl,(zb6 R.nd aT).symm⟩,TC,λq hq=>?_⟩
   have nq:es[i].2.2≠q:=zac ba hq
   have nqd:d≠q:=Mo hq
   refine⟨es[i].2.2,q,xc,rfl,Gs (by rw[zaf nq];exact ba),Th,xc,?_⟩
   have i5:Keep [d] H0 (YI q Hk):=k1.trans CO
   have c9:(YI q Hk) d=some ER:=by rw[zaf nqd];exact hz
   have aJ:es.take Hj=es.take i++[es[i]]:=Ql ad
   have qa:(es[i].2.1.map V.str).isEmpty=es[i].2.1.isEmpty:=by cases es[i].2.1<;>rfl
   rw[if_pos rfl,qa]
   by_cases hb:es[i].2.1.isEmpty=true
   ·rw [hb]
    refine iteF ⟨_,?_,rfl,ad,?_,⟨_,rfl⟩,c9,i5⟩
    ·exact zar1 ‹_›
    ·rw[aJ,Yx,Zt (by rw[hb];decide),Wo,Zx]
   ·have e7:es[i].2.1.isEmpty=false:=by simpa using hb
    rw[e7]
    refine iteT ⟨_,rfl,_,?_,rfl,ad,?_,⟨_,rfl⟩,c9,i5⟩
    ·exact zar1 ‹_›
    ·rw [aJ,Yx,Zs (by rw [e7];decide),Wo,Qp]
     rfl
 ·have cp:i=es.length:=by exact zar3 ‹_› ‹_›
  subst cp
  refine .inl ⟨⟨hz,Hx Qa⟩,λD hD=>?_⟩
  have ndD:d≠D:=Mo hD
  rw[Qt GV]
  refine⟨d,o,_,AQ,nfz,?_⟩
  have hDm:((es.filter λe=>!e.2.1.isEmpty).map λe=>V.str e.1)=((es.filter λe=>!e.2.1.isEmpty).map (·.1)).map V.str:=by rw[Zj];rfl
  rw[hDm]
  have hG:∀y,y∈(es.filter λe=>!e.2.1.isEmpty).map (·.1)→∃e∈es,e.1=y∧e.2.1≠[]:=λy hy=>by
   obtain⟨e,he,ee⟩:=Qh.mp hy
   rw[Zg]at he
   exact⟨e,he.1,ee,by simpa using he.2⟩
  have lu:((es.filter λe=>!e.2.1.isEmpty).map (·.1)).length≤16:=by
   rw[Qa];exact XJ aN
  generalize(es.filter λe=>!e.2.1.isEmpty).map (·.1)=G at hG lu
  have k2:Keep [] H0 (U6 G'):=λc u ec _=>by
   by_cases aD:c=d
   ·subst aD
    rw[zab,←R.dc];exact ec
   ·have oO:=k1 c u ec (Gk aD)
    rw[zaf aD,zaf (zac oO hD)];exact oO
  have dk:(U6 G') D=some Lv:=by rw[zaf (Zk ndD)];exact zab
  generalize U6 G'=H2 at k2 dk
  exact fin D G H2 dk hG lu k2
section
variable{P:Nk}{w:Nl}{K:Na}{mg:Nd}{base:No}
def zef:zak [qR,qP, "_law_some", "_law_p", "_law_face_here", "_law_first", "_law_second"] [qR,qP] (zai sCross):=fsk
def ok_cross(F:QD "_law_crossed" "_law_crossed" sCross f fd)(GT:ZK "_law_take" [qP,qM] 1 zfl)(GF:ZK "_law_face" [qR, "_law_p", "_law_q"] 2 zh6)(GI:ZK "_law_put" [qR, "_law_one", "_law_corner_of",qO, "_law_after"] 1 spPut)(ae:mg "len" = none):ZB 3 f fd [qR,qP] zgc:=by
 refine F.okL zef (λcdv A outer s0 H0 vs Q E hr h=>?_)
 obtain⟨p,d,b,m,es,rfl,hp,D0,kq⟩:=h
 have R:=D0.ra
 have aN:=D0.few
 have hu:=zcd hr
 have dB:=Ku hu
 have ai:BV _:=hr.mono Gj
 have ar:=sizeLine_eq
 have i0:∀x y:V,atI [x,y] ((0:Nat):Int)=some x:=λx y=>za3 rfl
 have i1:∀x y:V,atI [x,y] ((1:Nat):Int)=some y:=λx y=>za3 rfl
 refine⟨_,zad (zgh (ps_lc (i:=2) (M:=["_law_place",qR]) (ix:=[none,Gz 0]) zef.nd rfl rfl (mkB zef) rfl EQ (λC a5 ex s H=>JA ndCr)
    (λC a5 ex s H=>zcs (zar (zhj (K:=K) rfl dB) (zq (by exact hu) HQ) So RE)) (λC a5 ex s H=>pv 0) rfl))
  (zag (zby (Va Rz So RE)
   (zad (B8 zef.nd Ag)
   (zad (BD zef.nd (pcl GF hr (ZQ (QC (LA (QZ OF (RT (Hz OF)) GD))))))
   (zad (Mm zef.nd Ah)
   (zad (Do zef.nd Ah)
   (zag (zby (PW.pt (pw_and (Bc (WF RD zah (fun _ _=>rfl)) (WF TF zah (fun _ _=>rfl)) RE) (zig (Fk (WF TF zah (fun _ _=>rfl)) (QI (WF RD zah (fun _ _=>rfl))) rfl))))
    (zag (zba (FK (ZQ (OI RD (pv 6) (SS (pv 6))))))) zau))))))
   zau)),?_⟩
 have nfz:∀o' u',H0 d≠some Ss:=λo' u' z=>by rw[R.dc]at z;cases z
 refine zg8 (λ σ' H2=>Ex2 λ(D:Nb) (G:Ng)=>Aj5 (σ'=[Ta,Ig,Gh D,none,none,none,none]) (H2 D=some Lv) (∀y,y∈G→∃e∈es,e.1=y∧e.2.1≠[]) (G.length≤16) (Keep [] H0 H2)) (λD' bE=>some_ok R aN nfz λD G H' a b c k=>bE _ _ ⟨D,G,rfl,a,b,c,k⟩) ?_
 rintro σ' H2 ⟨D,G,rfl,dk,hG,lu,k2⟩
 dsimp only
 have D2:=D0.k0 k2
 have br:=hp.keep k2 Gf
 have none':∀(b1 m1:Int) (H1:Hp),Pot H1 p b1 m1→DrE H1 d es→Keep [p] H0 H1→Q .non H1:=λb1 m1 H1 eT D1 k1=>kq b1 m1 es H1 eT D1 rfl (k1.sub Gf)
 refine⟨xc,TC,λq hq=>?_⟩
 have nDq:D≠q:=zac dk hq
 refine⟨D,q,xc,rfl,Gs (by rw[zaf nDq];exact dk),Th,xc,?_⟩
 have k3:Keep [] H2 (QA q Hk):=Keep.new hq
 have c8:=(zaf (o:=.lst []) nDq).trans dk
 generalize QA q Hk=H3 at k3 c8
 have D3:=D2.k0 k3
 have be:=br.keep k3 Gf
 have dw:=k2.trans k3
 rw[if_pos rfl]
 cases G with
 |nil=>exact W0 EU
 | cons g0 gt =>
  refine UL ?_
  generalize u8:g0::gt=G at c8 hG lu
  have hGp:0<G.length:=by rw[←u8];simp
  have aA:(G.map V.str).length=G.length:=Qa ..
  refine⟨xc,xc,xc,D,xc,Se c8,p,b,m,xc,be,C5,C5,λj4 b4 m4 H4 ke oI bq gP=>?_⟩
  obtain⟨j4,rfl⟩:=Zo ke
  rw[aA]at oI
  have jJ:j4<G.length:=by lia
  have k4:=zbd gP
  have lw:=k4 _ _ c8 (by simpa using zdi be c8)
  have D4:=D3.pot be k4
  have fh:Keep [p] H0 H4:=(dw.sub Gf).trans k4
  refine⟨D,_,_,xc,rfl,Gs lw,za3 (by rw[Qo,Qd jJ];rfl),?_⟩
  obtain⟨e0,cq,ui,jG⟩:=hG G[j4] (Qs jJ)
  rw[←ui]
  have g4:NZ Eh:=zb6 D4.ra.nd cq▸DGet.k (k:=Sum.inr e0.1) D4.ra.dc
  have bW:=D4.ra.ro e0 cq
  have si:=D4.row e0 cq
  have jj:0<e0.2.1.length:=Uu.mpr jG
  have cn:(e0.2.1.map V.str).length=e0.2.1.length:=Qa ..
  refine⟨xc,xc,xc,xc,d,xc,g4,xc,xc,xc,d,xc,g4,e0.2.2,xc,Se bW,p,b4,m4,xc,bq,GK cn,GK cn,λj5 b5 m5 H5 j' ly aP gu=>?_⟩
  obtain⟨j5,rfl⟩:=Zo j'
  rw[cn]at ly
  have nH:j5<e0.2.1.length:=by lia
  have k5:=zbd gu
  have D5:=D4.pot bq k5
  have fB:=D5.ra.ro e0 cq
  have gv:=fh.trans k5
  refine⟨e0.2.2,_,_,xc,rfl,Gs fB,za3 (by rw[Qo,Qd nH];rfl),?_⟩
  obtain⟨cs,a9,C⟩:=D5.cert
  have mJ:e0.2.1[j5]∈ZJ e0.1:=by rw[JC cq];exact Qs nH
  refine⟨d,es,cs,a9,(e0.1,e0.2.1[j5]),rfl,D5.rf,YU mJ,C,Gg,λl6 ps L H6 fl6 dS lM RL u7 _ k6=>?_⟩
  have aO:=Zy lM
  have di:0<L.length:=by obtain⟨t,e,_⟩:=RL.cy;rw[e];simp
  have bd:=aP.keep k6 Gf
  have D6:=D5.k0 k6
  have iy:=gv.trans LS
  have dR:(ps.map V.ref).length=ps.length:=Qa ..
  have nlp:l6≠p:=zat dS bd.1 (by
   intro z
   injection z with z
   rcases ps with _ | ⟨_,_⟩<;>cases z)
  refine⟨xc,xc,xc,l6,xc,Se dS,p,b5,m5,xc,bd,GK dR,GK dR,λj7 b7 m7 H7 qg qf aS lN=>?_⟩
  obtain⟨j7,rfl⟩:=Zo qg
  rw[dR]at qf
  have hj7:j7<ps.length:=by lia
  have k7:=zbd lN
  have D7:=FM k7
  have gR:=iy.trans k7
  have bz:=k7 _ _ dS EV
  have pd:zbq H7 ps L:=zbq.keep lM λc x y ec=>k7 _ _ ec (by simpa using zat ec bd.1 Gm)
  refine⟨l6,_,_,xc,rfl,Gs bz,za3 (by rw[Qo,Qd hj7];rfl),?_⟩
  refine⟨xc,xc,xc,l6,xc,Se bz,p,b7,m7,xc,aS,GK dR,GK dR,λj8 b8 m8 H8 uc h81 bG gO=>?_⟩
  obtain⟨j8,rfl⟩:=Zo uc
  rw[dR]at h81
  have pZ:j8<ps.length:=by lia
  have k8:=zbd gO
  have D8:=D7.pot aS k8
  have gQ:=gR.trans k8
  have kZ:=k8 _ _ bz EV
  have pa8:zbq H8 ps L:=zbq.keep pd λc x y ec=>k8 _ _ ec (by simpa using zat ec aS.1 Gm)
  refine⟨l6,_,_,xc,rfl,Gs kZ,za3 (by rw[Qo,Qd pZ];rfl),?_⟩
  obtain⟨h7,iD⟩:=zay pa8 hj7
  obtain⟨h8,fk⟩:=zay pa8 pZ
  have mu:L[j7]∈L:=Qs h7
  have mv:L[j8]∈L:=Qs h8
  generalize L[j7]=u at iD mu
  generalize L[j8]=v at fk mv
  obtain⟨e1,bm,q1⟩:=Qh.mp (EO (RL.al u mu))
  obtain⟨e2,dY,q2⟩:=Qh.mp (EO (RL.al v mv))
  have cN:e1.1=u.2:=q1
  have fe:e2.1=v.2:=q2
  refine⟨xc,ps[j7],_,_,xc,rfl,Hy iD,Lm,xc,ps[j8],_,_,xc,rfl,Ak,Lm,rfl,xc,?_⟩
  by_cases c1:u.2=v.2
  ·exact zbk (by show(!decide (V.str u.2=V.str v.2))=false;rw[c1,decide_eq_true rfl];rfl) Ot
  refine zbt (by show(!decide (V.str u.2=V.str v.2))=true;rw[decide_eq_false (λz=>c1 (by injection z))];rfl) ?_
  have g8:DGet H8 d (.str u.2) Ei:=cN▸(NL bm▸DGet.k (k:=Sum.inr e1.1) D8.ra.dc)
  refine⟨xc,ps[j8],_,_,xc,rfl,Ak,Lm,xc,xc,ps[j7],_,_,xc,rfl,Hy iD,Lm,d,xc,g8,e1.2.2,xc,xb,rfl,zcl _,xc,?_⟩
  rw[zfg]
  by_cases c2:v.2∈e1.2.1
  ·exact zbk (by rw[decide_eq_true c2];rfl) Ot
  refine zbt (by rw[decide_eq_false c2];rfl) ?_
  have pi:u.1∈e1.2.1:=by have:=RL.al u mu;rw[←cN,JC bm]at this;exact this
  have ph:v.1∈e2.2.1:=by have:=RL.al v mv;rw[←fe,JC dY]at this;exact this
  refine⟨xc,xc,ps[j7],_,_,xc,rfl,Hy iD,Lm,xc,ps[j7],_,_,xc,rfl,Hy iD,ID,xc,ps[j8],_,_,xc,rfl,Ak,Lm,xc,ps[j8],_,_,xc,rfl,Ak,ID,d,es,e1,e2,some u.1,some v.1,by rw[cN,fe];rfl,D8.ra,bm,dY,λz=>c1 (by rw[←cN,z,fe]),λy z=>by rw[←Qn z];exact pi,λy z=>by rw[←Qn z];exact ph,λe he=>Vv Gj,Gg,λa1 a2 H9 R9 k9=>?_⟩
  refine kq b8 m8 _ H9 (bG.keep k9 (by simpa using Zk (pot_nd bG D8.ra.dc))) ⟨R9,good_tie D8.gd RL mu mv C.nd bm dY cN fe (Zk c1) c2,by unfold setE;rw[List.length_map,List.length_map];exact aN⟩ (by rw[zb3,zb3]) ((gQ.sub Gf).trans CL)
end
end K21
end
section
namespace K21
open PySem L2 Wb
abbrev sFilled:Stmt:=top 53
def rnd_tie{es:List Ent}{e1 e2:Ent}{u v:Str×Str}{a1 a2:Nb}{X rest:Nt}(nd:(es.map (·.1)).Nodup)(cE:∀ e∈es,e.2.1.Nodup)(R:X1 u (u::(X++v::rest)))(h1:e1∈es)(h2:e2∈es)(q1:e1.1=u.2)(q2:e2.1=v.2)(ax:v.2≠u.2)(mV:v.2∉e1.2.1)(pH:u.2∉e2.2.1) :
  Rnd (LH (YX a2)) u (u::([(u.2,v.2)]++rest)):=by
 have r1:ZJ e1.1=e1.2.1:=XL h1
 have r2:ZJ e2.1=e2.2.1:=XL h2
 have hu:u.1∈e1.2.1:=by have:=R.al u Qb;rw[←q1,r1]at this;exact this
 have hvL:v∈u::(X++v::rest):=QK C4
 have hv:v.1∈e2.2.1:=by have:=R.al v hvL;rw[←q2,r2]at this;exact this
 have du:e1.1≠e2.1:=λz=>ax (by rw[←q1,z,q2])
 have i6:e1.1∈(S2 es).map (·.1):=by rw[zbg];exact Qh.mpr ⟨e1,h1,rfl⟩
 have i5:e2.1∈(S2 es).map (·.1):=by rw[zbg];exact Qh.mpr ⟨e2,h2,rfl⟩
 rw[zc1,zc1]
 have g1:QE u.2=JK e2.1:=by rw[←q1,za7 du,zbc i6]
 have g2:QE v.2=JL e1.1:=by rw[←q2,zbc (Gp zbv i5)]
 have g0:∀y,y≠u.2→y≠v.2→QE y=ZJ y:=λy a b=>by rw[za7 (q2▸b),za7 (q1▸a)]
 generalize row (za6 (za6 EK e1.1 (JK e2.1)) e2.1 (JL e1.1))=r' at g1 g2 g0
 have nd1:=cE e1 h1
 have fg:=cE e2 h2
 have nu:u∉X++v::rest:=(Qr.mp R.nd).1
 have pf:=(Zc.mp (Qr.mp R.nd).2).2.1
 have nv:v∉rest:=(Qr.mp pf).1
 have nur:u∉rest:=λz=>nu (WC (QK z))
 have bo:∀y∈rest,y.1∈ZJ y.2:=λy hy=>R.al y (QK (WC Ll))
 have ku:ZJ u.2=e1.2.1:=q1▸r1
 have ko:ZJ v.2=e2.2.1:=q2▸r2
 have sG:e2.1∉e1.2.1:=q2▸mV
 have mq:e1.1∉e2.2.1:=q1▸pH
 have db:∀y:Str×Str,y.1∈ZJ y.2→y≠(u.2,v.2):=λy hy z=>by
  rw[z]at hy
  exact pH (ko▸hy)
 obtain⟨t,et,kt⟩:=R.cy
 have et':X++v::rest=t:=(List.cons.inj et).2
 rw[←et']at kt
 refine⟨⟨xc,?_,zf3 (f:=st Hw) (s:=v) ?_ (λy hy=>?_) (zgq.mp kt).2⟩,?_,λy hy=>?_⟩
 ·show (u.2,nxt (r' u.2) u.1)=(u.2,v.2)
  rw[g1,zeu hu nd1,q2]
 ·show (v.2,nxt (r' v.2) u.2)=(v.2,nxt (ZJ v.2) v.1)
  rw[g2,ko,←q1,zet hv fg mq]
 ·show (y.2,nxt (r' y.2) y.1)=(y.2,nxt (ZJ y.2) y.1)
  have bJ:=bo y hy
  congr 1
  by_cases a:y.2=u.2
  ·rw [a] at bJ ⊢
   rw[ku]at bJ ⊢
   rw[g1]
   exact zdq hu nd1 sG bJ λb=>nur ((Wz b a:y=u)▸hy)
  ·by_cases c:y.2=v.2
   ·rw [c] at bJ ⊢
    rw[ko]at bJ ⊢
    rw[g2]
    exact zdq hv fg mq bJ λb=>nv ((Wz b c:y=v)▸hy)
   ·rw[g0 _ a c]
 ·refine Qr.mpr ⟨fun z=>?_,Qr.mpr ⟨fun z=>db _ (bo _ z) rfl,(Qr.mp pf).2⟩⟩
  rcases Qf.mp z with y | y
  ·exact db u (R.al u Qb) y
  ·exact nur y
 ·have grow:∀ z:Str×Str,z.1∈ZJ z.2→z.1∈r' z.2:=fun z hz=>by
   by_cases a:z.2=u.2
   ·rw [a] at hz ⊢
    rw[g1,zds hu nd1];exact .inr (ku▸hz)
   ·by_cases c:z.2=v.2
    ·rw [c] at hz ⊢
     rw[g2,zds hv fg];exact .inr (ko▸hz)
    ·rw[g0 _ a c];exact hz
  rcases Qf.mp hy with z | z
  ·rw[z];exact grow u (R.al u Qb)
  ·rcases Qf.mp z with y' | y'
   ·rw [y']
    show u.2∈r' v.2
    rw[g2,zds hv fg];exact .inl q1.symm
   ·exact grow y (bo y y')
inductive IspFilled(vs:List V)(H:Hp)(Q:VK):Prop
 |mk (d:Nb) (es:List Ent) (h0:vs=[.ref d]) (h2:DrE H d es) (h3:∀(ag:List Ent) (H':Hp),DrE H' d ag→ag.map (·.1)=es.map (·.1)→Keep [d] H H'→Q .non H'):IspFilled vs H Q
def spFilled:Sp:=λvs H Q _=>IspFilled vs H Q
def Grow(es ag:List Ent):Prop:=ag.map (·.1)=es.map (·.1)∧∀x y,y∈ZJ x→y∈row (S2 ag) x
def Grow.refl:Grow es es:=⟨rfl,λ_ _ h=>h⟩
def Grow.trans(h:Grow a b)(k:Grow b c):Grow a c:=⟨k.1.trans h.1,λx y z=>k.2 x y (h.2 x y z)⟩
def grow_tie(nd:(es.map (·.1)).Nodup)(cE:∀e∈es,e.2.1.Nodup)(h1:e1∈es)(h2:e2∈es)(du:e1.1≠e2.1)(m1:c1∈e1.2.1)(m2:c2∈e2.2.1) :
  Grow es (setE (Af (Gz c1)) e2.1 (ins e2.2.1 (Gz c2) e1.1) a2):=by
 refine⟨by rw[zb3,zb3],λx y h=>?_⟩
 rw[zc1,zc1]
 have i6:e1.1∈(S2 es).map (·.1):=by rw[zbg];exact Qh.mpr ⟨e1,h1,rfl⟩
 have i5:e2.1∈(S2 es).map (·.1):=by rw[zbg];exact Qh.mpr ⟨e2,h2,rfl⟩
 by_cases a:x=e2.1
 ·rw [a] at h ⊢
  rw[XL h2]at h
  rw[zbc (Gp zbv i5),zds m2 (cE e2 h2)]
  exact .inr h
 ·rw [za7 a]
  by_cases b:x=e1.1
  ·rw [b] at h ⊢
   rw[XL h1]at h
   rw[zbc i6,zds m1 (cE e1 h1)]
   exact .inr h
  ·rw[za7 b];exact h
def cut_from2(g:α→V)(xs:List α)(k:Nat):cutV (Ep g) (some (k:Int)) none=(xs.drop k).map g:=by
 rw[Jk]
 unfold cutV
 have e1:HT.sIx (Ep g).length 0 (some (k:Int))=min k (Ep g).length:=by rw[HT.sIx_nat]
 have e2:HT.sIx (Ep g).length (Ep g).length none=(Ep g).length:=rfl
 rw[e1,e2]
 by_cases h:k≤(Ep g).length
 ·rw[Nat.min_eq_left h,Qt (Hx Kd)]
 ·rw[Nat.min_eq_right Gg,Kl,List.take_zero,Ud Gg]
section
variable{P:Nk}{w:Nl}{K:Na}{mg:Nd}{base:No}
def zdy:zak [qR, "_law_place",qO, "_law_face_here", "_law_first", "_law_second"] [qR] (zai sFilled):=fsk
def ok_filled(F:QD "_law_filled" "_law_filled" sFilled f fd)(GF:ZK "_law_face" [qR, "_law_p", "_law_q"] 2 zh6)(GI:ZK "_law_put" [qR, "_law_one", "_law_corner_of",qO, "_law_after"] 1 spPut)(au:mg "list" = none):ZB 3 f fd [qR] spFilled:=by
 refine F.okL zdy (λcdv A outer s0 H0 vs Q E hr h=>?_)
 obtain⟨d,es,rfl,D0,kq⟩:=h
 have hu:=zcd hr
 have ai:BV _:=hr.mono Gj
 have ar:=sizeLine_eq
 have i0:∀x y:V,atI [x,y] ((0:Nat):Int)=some x:=λx y=>za3 rfl
 have i1:∀x y:V,atI [x,y] ((1:Nat):Int)=some y:=λx y=>za3 rfl
 refine⟨_,zag (Z0 (Iw (MI Hh au Wj Sj)) (zam 1 zdy.nd)
  (zag (Z0 (zao (AK (Hz (QI Ee)))) (MQ zdy.nd)
   (zad (B8 zdy.nd (LM GF hr (ZU RV)))
   (zad (BD zdy.nd (LC RA zah))
   (zag (Z0 (Iw (JU RA (zb2 zah) zct)) (XI zdy.nd)
    (zag (zby (PW.pt (pw_and (Bc (WF Rx zah (fun _ _=>rfl)) (WF RD zah (fun _ _=>rfl)) RE) (zig (Fk (WF RD zah (fun _ _=>rfl)) (QI (WF Rx zah (fun _ _=>rfl))) rfl))))
     (zag (zba (FK (ZQ (OI Rx RD (SS RD)))))) zau))))))))),?_⟩
 refine⟨xc,d,xc,.inl D0.ra.dc,λl1 aE=>?_⟩
 rw[zex]
 have nd1:l1≠d:=Zk (zac D0.ra.dc aE)
 have k1:Keep [] H0 (NM l1 Gr):=Keep.new aE
 have g1:(NM l1 Gr) l1=some Gr:=zab
 generalize NM l1 Gr=H1 at k1 g1
 refine⟨l1,rfl,⟨_,Gs g1⟩,ze0 (zs:=es.map (·.1)) (λi σ H'=>Aj3 (Ex5 λx1 x2 x3 x4 x5=>σ=[Ta,x1,x2,x3,x4,x5]) (Keep [d] H1 H') (Ex1 λag:List Ent=>Dq (ag.map (·.1)=es.map (·.1))))
  ⟨⟨_,_,_,_,_,rfl⟩,Keep.refl,es,D0.k0 k1,rfl⟩ (λi σ H' _ hh=>SqL.of (L6 g1 (Gk nd1))) ?_ ?_⟩
 ·rintro i hi σ H2 ⟨⟨x1,x2,x3,x4,x5,rfl⟩,k2,av,D2,n2⟩
  have aO:(es.map (·.1))[i]'(hi)∈av.map (·.1):=by rw[n2];exact Qs hi
  generalize(es.map (·.1))[i]'(hi)=pl at aO
  obtain⟨e,he,rfl,g2⟩:=D2.rf.inn aO
  refine⟨xc,xc,d,xc,g2,e.2.2,xc,Se (D2.ra.ro e he),λl3 dU=>?_⟩
  have pf:l3≠d:=Zk (zac D2.ra.dc dU)
  have k3:Keep [] H2 (QA l3 HU):=Keep.new dU
  have g3:(QA l3 HU) l3=some HU:=zab
  generalize QA l3 HU=H3 at k3 g3
  refine⟨l3,rfl,⟨_,Gs g3⟩,ze0 (zs:=e.2.1) (λj σ H'=>Aj3 (Ex4 λx2 x3 x4 x5=>σ=[Ta,C2,x2,x3,x4,x5]) (Keep [d] H3 H') (Ex1 λag:List Ent=>Dq (Grow av ag)))
   ⟨⟨_,_,_,_,rfl⟩,Keep.refl,av,D2.k0 k3,Grow.refl⟩ (λi σ H' _ hh=>SqL.of (L6 g3 (Gk pf))) ?_ ?_⟩
  ·rintro j hj σ H4 ⟨⟨x2,x3,x4,x5,rfl⟩,k4,es4,D4,qm⟩
   have hot:e.2.1[j]∈row (S2 av) e.1:=by rw[zaw D2.ra.nd he];exact Qs hj
   generalize e.2.1[j]=ot at hot
   obtain⟨cs,a9,C⟩:=D4.cert
   have h4:=D4.few
   refine⟨xc,xc,xc,d,es4,cs,a9,(e.1,ot),rfl,D4.rf,YU (qm.2 _ _ hot),C,Gg,λl6 ps L H6 fl6 dS lM RL u7 _ k6=>?_⟩
   have D6:=D4.k0 k6
   have aO:=Zy lM
   have di:0<L.length:=by obtain⟨t,z,_⟩:=RL.cy;rw[z];simp
   have eU:0<ps.length:=by lia
   have nl6:l6≠d:=zat dS D6.ra.dc Gm
   refine⟨xc,l6,_,_,xc,rfl,Gs dS,za3 (by rw[Qo,Qd eU];rfl),?_⟩
   refine⟨xc,xc,l6,xc,Gs dS,λl7 bz=>?_⟩
   have nl7:l7≠d:=Zk (zac D6.ra.dc bz)
   have k7:Keep [] H6 (Ci l7 (UN (some (2:Int)) none)):=Keep.new bz
   have g7:(Ci l7 (UN (some (2:Int)) none)) l7=some (Gw (UN (some (2:Int)) none)):=zab
   generalize YF l7 (Gw (UN (some (2:Int)) none))=H7 at k7 g7
   have ec:UN (Gz (2:Int)) none=(ps.drop 2).map V.ref:=cut_from2 V.ref ps 2
   rw[ec]at g7
   have D7:=D6.k0 k7
   have pd:zbq H7 ps L:=zbq.keep lM λc x y ec=>k7 _ _ ec Gf
   obtain⟨t,eL,kt⟩:=RL.cy
   have iD:H7 ps[0]=some (.tup [Rb,RN ot]):=by
    obtain⟨h7,z⟩:=zay pd eU
    rw[show L[0]=(e.1,ot) by simp[eL]]at z
    exact z
   have nps:∀{c:Nb} {x y:V},H7 c=some (.tup [x,y])→c∉[d]:=λhc=>by simpa using zat hc D7.ra.dc Gm
   refine⟨l7,rfl,⟨_,Gs g7⟩,zbb (xs:=(ps.drop 2).map V.ref) (λn σ H'=>Aj3 (Ex1 λx5=>σ=[Ta,C2,SK ot,Gh l6,Gz (.ref ps[0]),x5]) (Keep [d] H7 H') (Ex2 λ(ag:List Ent) (X:Nt)=>Aj3 (YV ag) (Grow es4 ag) (DD (e.1,ot) ((e.1,ot)::(X++L.drop (n+2))))))
    ⟨⟨_,rfl⟩,Keep.refl,es4,t.take 1,D7,Grow.refl,?_⟩ (λi σ H' _ hh=>SqL.of (L6 g7 (Gk nl7))) ?_ ?_⟩
   ·rw[eL,List.drop_succ_cons,Wc,←eL];exact RL
   ·rintro n x σ H8 hx ⟨⟨x5,rfl⟩,k8,cV,X,D8,ql,R8⟩
    have bw:n<(ps.drop 2).length:=by have:=(Tl hx).1;rwa[Qa]at this
    have hn:n+2<ps.length:=by rw[Kd]at bw;lia
    rw[Qo,List.getElem?_drop,Nat.add_comm 2 n,Qd hn]at hx
    cases hx
    obtain⟨hL,hv7⟩:=zay pd hn
    have fk:=k8 _ _ hv7 (nps hv7)
    have eQ:=k8 _ _ iD (nps iD)
    have eD:L.drop (n+2)=L[n+2]::L.drop (n+1+2):=Yo hL
    rw[eD]at R8
    generalize L[n+2]=v at fk R8
    obtain⟨cs8,lab8,C8⟩:=D8.cert
    have mv:v∈(e.1,ot)::(X++v::L.drop (n+1+2)):=QK C4
    obtain⟨e1,bm,q1⟩:=Qh.mp (C8.inn (R8.al _ Qb))
    obtain⟨e2,dY,q2⟩:=Qh.mp (C8.inn (R8.al v mv))
    have cN:e1.1=ot:=q1
    have fe:e2.1=v.2:=q2
    have skip:Ex2 λ(ag:List Ent) (X:Nt)=>Aj3 (DrE H8 d ag) (Grow es4 ag) (DD (e.1,ot) ((e.1,ot)::(X++L.drop (n+1+2)))):=⟨cV,X++[v],D8,ql,Gp Qx R8⟩
    refine⟨xc,ps[0],_,_,xc,rfl,Hy eQ,Lm,xc,ps[n+2],_,_,xc,rfl,Ak,Lm,rfl,xc,?_⟩
    by_cases c1:ot=v.2
    ·exact zbk (by show(!decide (V.str ot=V.str v.2))=false;rw[c1,decide_eq_true rfl];rfl) ⟨⟨_,rfl⟩,k8,skip⟩
    refine zbt (by show(!decide (V.str ot=V.str v.2))=true;rw[decide_eq_false (λz=>c1 (by injection z))];rfl) ?_
    have g8:DGet H8 d (RN ot) Ei:=cN▸(NL bm▸DGet.k (k:=Sum.inr e1.1) D8.ra.dc)
    refine⟨xc,ps[n+2],_,_,xc,rfl,Ak,Lm,xc,xc,ps[0],_,_,xc,rfl,Hy eQ,Lm,d,xc,g8,e1.2.2,xc,xb,rfl,zcl _,xc,?_⟩
    rw[zfg]
    by_cases c2:v.2∈e1.2.1
    ·exact zbk (by rw[decide_eq_true c2];rfl) ⟨⟨_,rfl⟩,k8,skip⟩
    refine zbt (by rw[decide_eq_false c2];rfl) ?_
    have pi:e.1∈e1.2.1:=by have:=R8.al _ Qb;rw[show(e.1,ot).2=e1.1 from cN.symm,Vw bm]at this;exact this
    have ph:v.1∈e2.2.1:=by have:=R8.al v mv;rw[←fe,Vw dY]at this;exact this
    have du:e1.1≠e2.1:=λz=>c1 (by rw[←cN,z,fe])
    have cE:∀e∈cV,e.2.1.Nodup:=λe he=>by have:=C8.rn e.1;rw[Vw he]at this;exact this
    have pH:ot∉e2.2.1:=λz=>c2 (by
     have:=C8.sy e2.1 ot (by rw[Vw dY];exact z)
     rw[←cN,Vw bm,fe]at this;exact this)
    have h8:=D8.few
    refine⟨xc,xc,ps[0],_,_,xc,rfl,Hy eQ,Lm,xc,ps[0],_,_,xc,rfl,Hy eQ,ID,xc,ps[n+2],_,_,xc,rfl,Ak,Lm,xc,ps[n+2],_,_,xc,rfl,Ak,ID,d,cV,e1,e2,some e.1,some v.1,by rw[cN,fe];rfl,D8.ra,bm,dY,du,λy z=>by rw[←Qn z];exact pi,λy z=>by rw[←Qn z];exact ph,λe he=>Vv Gj,Gg,λa1 a2 H9 R9 k9=>?_⟩
    refine⟨⟨xc⟩,k8.trans k9,_,[(ot,v.2)],⟨R9,good_tie (u:=(e.1,ot)) D8.gd R8 Qb mv C8.nd bm dY cN fe (Zk c1) c2,by unfold setE;rw[List.length_map,List.length_map];exact h8⟩,ql.trans (grow_tie C8.nd cE bm dY du pi ph),?_⟩
    exact rnd_tie (u:=(e.1,ot)) C8.nd cE R8 bm dY cN fe (Zk c1) c2 pH
   ·rintro σ H8 ⟨⟨x5,rfl⟩,k8,cV,X,D8,ql,R8⟩
    refine⟨⟨_,_,_,xc⟩,?_,cV,D8,qm.trans ql⟩
    exact((Lw LS).trans Il).trans k8
  ·rintro σ H4 ⟨⟨x2,x3,x4,x5,rfl⟩,k4,es4,D4,qm⟩
   exact⟨⟨_,_,_,_,xc⟩,(S5 AS).trans k4,es4,D4,qm.1.trans n2⟩
 ·rintro σ H2 ⟨⟨x1,x2,x3,x4,x5,rfl⟩,k2,av,D2,n2⟩
  exact kq av H2 D2 n2 ((k1.sub Gf).trans k2)
end
abbrev sGrown:Stmt:=top 51
def set_comm{rs:Rs Str}{x y:Str}{a b:Ng}(h:x≠y):za6 (Mf x a) y b=za6 (Mf y b) x a:=by
 unfold za6
 rw[Zj,Zj]
 refine Zz λp _=>?_
 show(if(if p.1=x then(p.1,a) else p).1=y then((if p.1=x then(p.1,a) else p).1,b) else(if p.1=x then(p.1,a) else p))=(if(if p.1=y then(p.1,b) else p).1=x then((if p.1=y then(p.1,b) else p).1,a) else(if p.1=y then(p.1,b) else p))
 by_cases p1:p.1=x
 ·by_cases p2:p.1=y
  ·exact absurd (p1.symm.trans p2) h
  ·simp[p1,p2,h,Zk h]
 ·by_cases p2:p.1=y
  ·simp[p1,p2,h,Zk h]
  ·simp[p1,p2]
inductive IspGrown(vs:List V)(H:Hp)(Q:VK):Prop
 |mk (p nl:Nb) (b m:Int) (ns:Ng) (h0:vs=[.ref p,.ref nl]) (h1:Pot H p b m) (h2:H nl=some (.lst (ns.map V.str))) (hn:ns.Nodup) (hl:ns.length≤16)
  (h3:∀(d:Nb) (b' m':Int) (ag:List Ent) (H':Hp),H d=none→U3 m'→YV ag→ag.map (·.1)=ns→Keep [p] H H'→Q Cf H'):IspGrown vs H Q
def spGrown:Sp:=λvs H Q _=>IspGrown vs H Q
section
variable{P:Nk}{w:Nl}{K:Na}{mg:Nd}{base:No}
def zee:zak [qP, "_law_names_here",qR, "_law_name", "_law_some",qO, "_law_corner"] [qP, "_law_names_here"] (zai sGrown):=fsk
def ok_grown(F:QD "_law_grown" "_law_grown" sGrown f fd)(GT:ZK "_law_take" [qP,qM] 1 zfl)(GI:ZK "_law_put" [qR, "_law_one", "_law_corner_of",qO, "_law_after"] 1 spPut)(ae:mg "len" = none)(au:mg "list" = none):ZB 2 f fd [qP, "_law_names_here"] spGrown:=by
 refine F.okL zee (λcdv A outer s0 H0 vs Q E hr h=>?_)
 obtain⟨p,nl,b,m,ns,rfl,hp,kU,hnn,hnn2,kq⟩:=h
 have hu:=zcd hr
 have dB:=Ku hu
 have ai:BV _:=hr.mono Gj
 have ar:=sizeLine_eq
 refine⟨_,zad (Mp zee.nd zf2)
  (zad (Z0 (Iw HQ) (Di zee.nd)
   (zad (BD zee.nd (MI Hh au Wj RV))
   (zad (UR RA So rfl)
   (zag (zby (PW.pt (pw_and (Va Rx So RE) (zig (FJ Ow zah RE))))
    (zad (Mm zee.nd (QZ Rx (QO (ZQ (LA (Oy S4)))) GD))
    (zad (Do zee.nd zhi)
    (zad (zby (Va z6 So RE)
     (zag (Do zee.nd (QZ z6 (QO (ZQ (LA (Oy (Hz z6))))) GD))) zau)
    (zag (zba (FK (ZX (QC (Fq (QR ET))))))))))
    zau)))))
  (zag Oc)),?_⟩
 intro d hd
 have k1:Keep [] H0 (NM d (.dK [])):=Keep.new hd
 have g1:(NM d (.dK [])) d=some (.dK []):=zab
 generalize NM d (.dK [])=H1 at k1 g1
 have eT:=hp.keep k1 Gf
 have jF:=k1 _ _ kU Gf
 have npl:nl≠p:=zdi eT jF
 have ndl:nl≠d:=zac kU hd
 have npd:p≠d:=zac hp.1 hd
 have D1:DrE H1 d []:=⟨⟨g1,λe he=>(by cases he),Zm⟩,zey.nil,RP⟩
 have sH:(ns.map V.str).length=ns.length:=Qa ..
 refine⟨_,rfl,nl,rfl,⟨_,Gs jF⟩,ze0 (zs:=ns) (λi σ H'=>Aj3 (Ex4 λx3 x4 x5 x6=>σ=[Ig,Gh nl,Ta,x3,x4,x5,x6]) (Keep [p,d] H1 H') (Ex3 λ(ag:List Ent) (b' m':Int)=>W8 (ag.map (·.1)=ns.take i)))
  ⟨⟨_,_,_,_,rfl⟩,Keep.refl,[],b,m,D1,eT,rfl⟩ (λi σ H' _ hh=>SqL.of (L6 jF (by simp;exact⟨npl,ndl⟩))) ?_ ?_⟩
 ·rintro i hi σ H2 ⟨⟨x3,x4,x5,x6,rfl⟩,k2,es,b2,m2,D2,br,n2⟩
  have hx:ns[i]∉es.map (·.1):=by
   rw[n2]
   intro z
   obtain⟨j,hj,ej⟩:=List.mem_take_iff_getElem.mp z
   have:=(Wa (h₀:=by lia) (h₁:=hi) hnn).mp ej
   lia
  have aJ:ns.take Hj=ns.take i++[ns[i]]:=Ql hi
  have f7:es.length<16:=by
   have:=congrArg List.length n2
   rw[Qa,Zq]at this
   lia
  generalize ns[i]=x at hx aJ
  refine⟨xc,d,xc,.inl D2.ra.dc,λl hl=>?_⟩
  rw[zex]
  refine⟨TC,λa ha=>?_⟩
  have nla:l≠a:=zac (o:=_) zab ha
  have dU:(upd O7 a Hk) l=some Gr:=by rw[zaf nla];exact zab
  have ha3:(upd O7 a Hk) a=some (Gw (([]:List Str).map V.str)):=zab
  have k3:Keep [] H2 (upd O7 a Hk):=(Gx hl).trans (Gx ha)
  generalize upd O7 a Hk=H3 at dU ha3 k3
  have D3:=D2.k0 k3
  have be:=br.keep k3 Gf
  refine⟨xc,xc,d,xc,DPut.k (k:=Sum.inr x) D3.ra.dc RQ,?_⟩
  have R4:=rat_new D3.ra hx ha3
  have k4:Keep [d] H3 (WU d LW):=Keep.wr Qb
  have nld:l≠d:=zat dU D3.ra.dc Gm
  generalize WU d LW=H4 at R4 k4
  have eY:=k4 _ _ dU (Gk nld)
  have bq:=be.keep k4 AT
  have bi:rsOf (es++[(x,[],a)])=rsOf es++[(x,[])]:=by unfold rsOf;rw[List.map_append];rfl
  have hxr:x∉(S2 es).map (·.1):=by rw[zbg];exact hx
  have D4:DrE H4 d (es++[(x,[],a)]):=⟨R4,by rw[bi];exact zey.new _ _ D3.gd hxr,by rw[Qz];show _+1≤16;lia⟩
  have fh:Keep [p,d] H1 H4:=(S5 AS).trans AR
  have nm:(es++[(x,([]:List Str),a)]).map (·.1)=ns.take Hj:=by rw[aJ,←n2,Qp];rfl
  refine⟨xc,TC,λq hq=>?_⟩
  have nlq:l≠q:=zac eY hq
  refine⟨l,q,xc,rfl,Gs (by rw[zaf nlq];exact eY),Th,xc,?_⟩
  have k5:Keep [] H4 (QT q Hk):=Keep.new hq
  have cF:=(zaf (o:=.lst []) nlq).trans eY
  generalize QT q Hk=H5 at k5 cF
  have D5:=D4.k0 k5
  have aP:=bq.keep k5 Gf
  have gv:=fh.trans Im
  rw[if_pos rfl]
  by_cases pW:es=[]
  ·refine zbk (by rw[pW];rfl) ⟨⟨_,_,_,_,rfl⟩,gv,_,b2,m2,D5,aP,nm⟩
  refine zbt (by cases es with | nil=>exact absurd rfl pW | cons _ _=>rfl) ?_
  refine⟨xc,p,b2,m2,8,rfl,aP,Gj,Gj,λd6 b6 m6 H6 h60 h61 bd qX=>?_⟩
  have k6:=zbd qX
  have D6:=D5.pot aP k6
  have dS:=k6 _ _ cF (by simpa using zdi aP cF)
  have iy:=gv.trans LS
  refine⟨_,xc,rfl,xc,?_⟩
  refine ite2 (λ_=>?_) (λ_=>⟨⟨_,_,_,_,rfl⟩,iy,_,b6,m6,D6,bd,nm⟩)
  have dN:0<es.length:=Uu.mpr pW
  have aA:((es.map (·.1)).map V.str).length=es.length:=by rw[Qa,Qa]
  refine⟨xc,xc,xc,l,xc,Se dS,p,b6,m6,xc,bd,C5,C5,λj7 b7 m7 H7 qg qf aS lN=>?_⟩
  obtain⟨j,rfl⟩:=Zo qg
  have hj:j<es.length:=by rw[aA]at qf;lia
  have k7:=zbd lN
  have bz:=k7 _ _ dS (by simpa using zdi bd dS)
  have D7:=FM k7
  have gR:=iy.trans Il
  refine⟨l,_,_,xc,rfl,Gs bz,za3 (by rw[Qo,Qo,Qd hj];rfl),?_⟩
  have iP:es[j]∈es:=Qs hj
  generalize es[j]=e at iP
  have jN:e∈es++[(x,([]:List Str),a)]:=YG iP
  have hx4:(x,([]:List Str),a)∈es++[(x,([]:List Str),a)]:=WC Qb
  have nex:e.1≠x:=λq=>hx (q▸Qh.mpr ⟨e,iP,rfl⟩)
  have g7:=DGet.k (k:=Sum.inr e.1) D7.ra.dc
  rw[zb6 D7.ra.nd jN]at g7
  have hr7:=D7.ra.ro e jN
  have bp:=D7.row e jN
  have sd:(e.2.1.map V.str).length=e.2.1.length:=Qa ..
  show tSeq (tAsg (tC V.non) (zez 6)) _ _ _ _
  refine zg8 (λ σ' H'=>Aj2 (σ'=[Ig,Gh nl,Ta,SK x,EW,C2,some .non]) (H7=H')) (λD' bE=>bE _ _ ⟨rfl,rfl⟩) ?_
  rintro σ' H' ⟨rfl,rfl⟩
  dsimp only
  refine zg8 (λ σ' H'=>Ex3 λ(c:Option Str) (b8 m8:Int)=>Aj6 (σ'=[Ig,Gh nl,Ta,SK x,EW,C2,L9 c]) (∀y,c=some y→y∈e.2.1) (c=none→e.2.1=[]) (YV (es++[(x,[],a)])) (Pot H' p b8 m8) (Keep [p,d] H1 H')) (λD' bE=>?_) ?_
  ·refine ⟨_,rfl,_,rfl,d,_,rfl,g7,TC,fun q hq=>?_⟩
   have nq:e.2.2≠q:=zac hr7 hq
   refine⟨e.2.2,q,xc,rfl,Gs (by rw[zaf nq];exact hr7),Th,xc,?_⟩
   have k8:Keep [] H7 (JD q Hk):=Keep.new hq
   have D8:=D7.k0 k8
   have bG:=aS.keep k8 Gf
   have gQ:=gR.trans (k8.sub Gf)
   generalize JD q Hk=H8 at D8 bG gQ
   rw[if_pos rfl]
   by_cases h0:e.2.1=[]
   ·exact zbk (by rw[h0];rfl) (bE _ _ ⟨none,b7,m7,rfl,λy z=>(by cases z),λ_=>h0,D8,bG,gQ⟩)
   ·refine zbt (by revert h0;cases e.2.1 with | nil=>exact fun h0=>absurd rfl h0 | cons _ _=>exact fun _=>rfl) ?_
    have g8:=DGet.k (k:=Sum.inr e.1) D8.ra.dc
    rw[NL jN]at g8
    have sn:=D8.ra.ro e jN
    have jj:0<e.2.1.length:=Uu.mpr h0
    refine⟨xc,xc,d,xc,g8,xc,xc,xc,d,xc,g8,e.2.2,xc,Se sn,p,b7,m7,xc,bG,GK sd,GK sd,λj9 b9 m9 H9 ub h91 jA pj=>?_⟩
    obtain⟨j9,rfl⟩:=Zo ub
    have sY:j9<e.2.1.length:=by rw[sd]at h91;lia
    have k9:=zbd pj
    have D9:=D8.pot bG k9
    refine⟨e.2.2,_,_,xc,rfl,Gs (D9.ra.ro e jN),za3 (by rw[Qo,Qd sY];rfl),bE _ _ ⟨some e.2.1[j9],b9,m9,rfl,λy z=>by rw[←Qn z];exact Qs sY,λz=>(by cases z),D9,jA,gQ.trans CL⟩⟩
  rintro σ' H8 ⟨c,b8,m8,rfl,hc,gI,D8,bG,gQ⟩
  refine⟨xc,xc,xc,xc,d,_,(x,[],a),e,none,c,rfl,D8.ra,hx4,jN,Zk nex,λy z=>(by cases z),hc,λe he=>Vv Gj,by have:=D8.few;lia,λa1 a2 H9 R9 k9=>?_⟩
  refine⟨⟨_,_,_,xc⟩,gQ.trans CL,_,b8,m8,⟨R9,?_,by unfold setE;rw[List.length_map,List.length_map];exact D8.few⟩,bG.keep k9 AT,by rw[zb3,zb3];exact nm⟩
  rw[zc1,zc1,bi,set_comm (Zk nex)]
  exact zey.leaf EK x (e.1,e.2.1) c D3.gd hxr (Ts ⟨e,iP,rfl⟩) hc gI
 ·rintro σ H2 ⟨⟨x3,x4,x5,x6,rfl⟩,k2,es,b2,m2,D2,br,n2⟩
  rw[Qt (Hx sH)]at n2
  exact⟨xc,kq d b2 m2 es H2 hd br D2 n2 λc o ec nc=>k2 c o TH (by simp;exact⟨Gk nc,W1 hd⟩)⟩
end
end K21
end
section
namespace Wb
section
variable{α:Type}[DecidableEq α]
def zgw{A B:List α}{n:α}(h:n∉A):(A++n::B).erase n=A++B:=by
 rw[List.erase_append_right _ h,List.erase_cons_head]
def nxt_erase{zs:List α}(nd:zs.Nodup){n w:α}(hn:n∈zs)(hw:w∈zs)(dy:w≠n):nxt (zs.erase n) w=if BG w=n then BG n else BG w:=by
 obtain⟨A,B,rfl,hA,hB⟩:=zbu hw nd
 have k1:=za1 (B:=B) hA
 rw[Zc,Qr]at nd
 obtain⟨nA,⟨_,nB⟩,nAB⟩:=nd
 rcases Qk.mp hn with h | h
 ·obtain ⟨A1,A2,rfl,h1,h2⟩:=zbu h nA
  have e0:(A1++n::A2)++w::B=A1++n::(A2++w::B):=by rw[Qx];rfl
  have hw':w∉A1++A2:=λz=>hA (by
   rcases Qk.mp z with q | q
   ·exact YG q
   ·exact WC (QK q))
  have k2:=za1 (B:=B) hw'
  have e1:((A1++n::A2)++w::B).erase n=(A1++A2)++w::B:=by rw[e0,zgw h1,Qx]
  have k3:=za1 (B:=A2++w::B) h1
  rw[←e0]at k3
  rw[e1]
  cases B with
  |cons b t =>
   have q1:=Qn k1;have q2:=Qn k2
   rw[if_neg (λz=>nAB n h n (QK (by rw[q1.trans z];exact Qb)) rfl)]
   exact q2.symm.trans q1
  | nil =>
   cases A1 with
   |cons a t =>
    have q1:=Qn k1;have q2:=Qn k2
    rw[if_neg (λz=>h1 (by rw[q1.trans z];exact Qb))]
    exact q2.symm.trans q1
   |nil =>
    have q1:=Qn k1
    rw[if_pos q1.symm]
    refine Qn (k2.symm.trans (Eq.trans ?_ k3))
    cases A2<;>rfl
 ·have h':n∈B:=by
   rcases Qf.mp h with z | z
   ·exact absurd z.symm dy
   ·exact z
  obtain⟨B1,B2,rfl,h1,h2⟩:=zbu h' nB
  have sJ:n∉A:=λz=>nAB n z n h rfl
  have hm:n∉A++w::B1:=by
   simp only[Qk,Qf,not_or];exact⟨sJ,λz=>dy z.symm,h1⟩
  have e0:A++w::(B1++n::B2)=(A++w::B1)++n::B2:=by rw[Qx];rfl
  have e1:(A++w::(B1++n::B2)).erase n=A++w::(B1++B2):=by rw[e0,zgw hm,Qx];rfl
  have k2:=za1 (B:=B1++B2) hA
  have k3:=za1 (B:=B2) hm
  rw[←e0]at k3
  rw[e1]
  cases B1 with
  |cons b t =>
   have q1:=Qn k1;have q2:=Qn k2
   rw[if_neg (λz=>h1 (by rw[q1.trans z];exact Qb))]
   exact q2.symm.trans q1
  |nil =>
   have q1:=Qn k1
   rw[if_pos q1.symm]
   refine Qn (k2.symm.trans (Eq.trans ?_ k3))
   cases B2 with
   |cons b t=>rfl
   |nil=>cases A<;>rfl
def nxt_self{zs:List α}(nd:zs.Nodup)(hw:w∈zs)(h:BG w=w):zs=[w]:=by
 obtain⟨A,B,rfl,hA,hB⟩:=zbu hw nd
 have k:=za1 (B:=B) hA
 rw[h]at k
 cases B with
 |cons b t=>exact absurd (by rw[←Qn k];exact Qb) hB
 |nil =>
  cases A with
  |nil=>rfl
  |cons a t=>exact absurd (by rw[←Qn k];exact Qb) hA
structure Web(ns:List α)(r:α→List α)(cs:List (List (α×α))):Prop where
 nd:ns.Nodup
 ro:∀x,x∉ns→r x=[]
 rn:∀x,(r x).Nodup
 ir:∀x,x∉r x
 sy:∀x y,y∈r x→x∈r y
 cf:cs.flatten.Nodup
 cm:∀s,s∈cs.flatten↔s.1∈r s.2
 cy:∀c∈cs,Cyc (st r) c
def vl(r:α→List α)(x:α):Int:=2+(if r x=[] then 2 else 0)-((r x).length:Int)
def tot(ns:List α)(r:α→List α)(cs:xa (α×α)):Int:=(ns.map (vl r)).sum+2*(cs.length:Int)
structure Flat(ns:List α)(r:α→List α)(cs:List (List (α×α))):Prop extends Web ns r cs where
 fl:∀T:List α,(∀t∈T,t∈ns)→T.Pairwise (λx y=>¬WV y)→4*(T.length:Int)≤BX r cs
def Conn.symm{r:α→List α}(sy:∀x y,y∈r x→x∈r y)(h:WV y):Conn r y x:=by
 induction h with
 |refl=>exact .refl
 |step a hz ih=>exact Conn.trans (.step .refl (sy _ _ hz)) ih
variable{ns:List α}{r r':α→List α}{cs:List (List (α×α))}
def Web.inn(C:JE cs)(h:y∈r x):x∈ns:=Jg λz=>by rw[Mh z]at h;cases h
structure Less(r r':α→List α)(v u:α):Prop where
 tie:u∈r v
 one:r' v=(r v).erase u
 two:r' u=(r u).erase v
 els:∀x,x≠v→x≠u→r' x=r x
section del
variable{v u:α}(C:Web ns r cs)(L:Less r r' v u)
include C L
theorem del_ne:v≠u:=λe=>C.ir u (by have:=L.tie;rwa[e]at this)
theorem zcb(s:α×α):s.1∈r' s.2↔s.1∈r s.2∧s≠(v,u)∧s≠(u,v):=by
 obtain⟨a,b⟩:=s
 have eO:=Mr L
 by_cases hb:b=v
 ·subst hb
  show a∈r' b↔a∈r b∧_
  rw[L.one,(C.rn b).mem_erase_iff]
  constructor
  ·rintro ⟨h1,h2⟩
   exact⟨h2,λe=>eO Ry,λe=>h1 R6⟩
  ·rintro ⟨h1,h2,h3⟩
   exact⟨λe=>h3 (by rw[e]),h1⟩
 ·by_cases bn:b=u
  ·subst bn
   show a∈r' b↔a∈r b∧_
   rw[L.two,(C.rn b).mem_erase_iff]
   constructor
   ·rintro ⟨h1,h2⟩
    exact⟨h2,λe=>h1 R6,λe=>hb Ry⟩
   ·rintro ⟨h1,h2,h3⟩
    exact⟨λe=>h2 (by rw[e]),h1⟩
  ·show a∈r' b↔a∈r b∧_
   rw[L.els b hb bn]
   exact⟨λh=>⟨h,λe=>bn Ry,λe=>hb Ry⟩,λh=>h.1⟩
theorem del_st{s:α×α}(hs:s.1∈r' s.2):st r' s=if BO s=(v,u) then BO (u,v) else if BO s=(u,v) then BO (v,u) else BO s:=by
 have hm:=(JF s).mp hs
 obtain⟨a,b⟩:=s
 have eO:=Mr L
 obtain⟨ha,cj,bw⟩:=hm
 by_cases hb:b=v
 ·subst hb
  have tV:a≠u:=λe=>bw (by rw[e])
  have k:=DW L.tie ha tV
  show(b,DX a)=if(b,YW a)=(b,u) then(b,YW u) else if(b,YW a)=(u,b) then _ else(b,YW a)
  rw[L.one,k]
  by_cases h:YW a=u
  ·rw[if_pos h,if_pos (by rw[h])]
  ·rw[if_neg h,if_neg (λe=>h Ry),if_neg (λe=>eO R6)]
 ·by_cases bn:b=u
  ·subst bn
   have tV:a≠v:=λe=>cj (by rw[e])
   have k:=DW Ej ha tV
   show(b,DX a)=if(b,YW a)=(v,b) then _ else if(b,YW a)=(b,v) then(b,YW v) else(b,YW a)
   rw[L.two,k,if_neg (λe=>hb R6)]
   by_cases h:YW a=v
   ·rw[if_pos h,if_pos (by rw[h])]
   ·rw[if_neg h,if_neg (λe=>h Ry)]
  ·show (b,DX a)=if (b,YW a)=(v,u) then _ else if (b,YW a)=(u,v) then _ else (b,YW a)
   rw[if_neg (λe=>hb R6),if_neg (λe=>bn R6),L.els b hb bn]
theorem del_web(hp:cs.flatten.Perm ((v,u)::(u,v)::cs'.flatten))(hc:∀c∈cs',UF c):Web ns r' cs':=by
 have eO:=Mr L
 have nd:=hp.nodup_iff.mp C.cf
 rw[Qr,Qr,Qf,not_or]at nd
 refine⟨C.nd,λx hx=>?_,λx=>?_,λx h=>?_,λx y h=>?_,nd.2.2,λs=>?_,hc⟩
 ·have hv:x≠v:=fun e=>hx (by rw [e];exact C.inn L.tie)
  have hu:x≠u:=λe=>hx (by rw[e];exact C.inn Ej)
  rw[L.els x hv hu,Mh hx]
 ·by_cases h1:x=v
  ·rw[h1,L.one];exact(C.rn v).erase _
  ·by_cases h2:x=u
   ·rw[h2,L.two];exact(C.rn u).erase _
   ·rw[L.els x h1 h2];exact C.rn x
 ·exact C.ir x ((JF (x,x)).mp h).1
 ·obtain ⟨h1,h2,h3⟩:=(JF (y,x)).mp h
  exact(JF (x,y)).mpr ⟨Dj h1,λe=>h3 (by cases e;rfl),λe=>h2 (by cases e;rfl)⟩
 ·rw [zcb C L,← C.cm,hp.mem_iff,Qf,Qf]
  constructor
  ·intro h
   exact⟨zT,λe=>nd.1.2 (e▸h),λe=>nd.2.1 (e▸h)⟩
  ·rintro ⟨h | h | h,h2,h3⟩
   ·exact absurd h h2
   ·exact absurd h h3
   ·exact h
theorem del_tot:BX r' cs'=BX r cs+2+(if r' v=[] then 2 else 0)+(if r' u=[] then 2 else 0)+2*((cs'.length:Int)-(cs.length:Int)):=by
 have eO:=Mr L
 have hv:=C.inn L.tie
 have hu:=C.inn Ej
 have e1:=ze4 (g:=vl r) (g':=λx=>if x=v then X8 v else NN x) C.nd hv λx _ h=>if_neg h
 have e2:=ze4 (g:=λx=>if x=v then X8 v else NN x) (g':=vl r') C.nd hu λx _ h=>by
  show X8 x=if x=v then X8 v else NN x
  by_cases hx:x=v
  ·rw[if_pos hx,hx]
  ·rw[if_neg hx];unfold vl;rw[L.els x hx h]
 have a1:(if v=v then X8 v else NN v)=X8 v:=if_pos rfl
 have a2:(if u=v then X8 v else NN u)=NN u:=if_neg λe=>eO e.symm
 have l1:=Yi L.tie
 have l2:=Yi Ej
 have p1:=Yh L.tie
 have p2:=Yh Ej
 have n1:r v≠[]:=λe=>by have:=L.tie;rw[e]at this;cases this
 have n2:r u≠[]:=λe=>by have:=YU L.tie;rw[e]at this;cases this
 have b1:X8 v=NN v+1+(if r' v=[] then 2 else 0):=by
  unfold vl;rw[if_neg n1];rw[←L.one]at l1;rw[l1];lia
 have b2:X8 u=NN u+1+(if r' u=[] then 2 else 0):=by
  unfold vl;rw[if_neg n2];rw[←L.two]at l2;rw[l2];lia
 unfold tot
 rw[e2,e1]
 show(_+((if v=v then X8 v else NN v)-NN v))+(X8 u-(if u=v then X8 v else NN u))+_=_
 rw[a1,a2,b1,b2];lia
theorem del_conn(h:WV y):Y0 x y∨(Y0 x v∧Y0 u y)∨(Y0 x u∧Y0 v y):=by
 induction h with
 |refl=>exact .inl .refl
 | @step y z a hz ih =>
  by_cases h1:(z,y)=(v,u)
  ·cases h1
   rcases ih with h | ⟨h,_⟩ | ⟨h,_⟩
   ·exact .inr (RG ⟨h,.refl⟩)
   ·exact .inl h
   ·exact .inr (RG ⟨h,.refl⟩)
  ·by_cases h2:(z,y)=(u,v)
   ·cases h2
    rcases ih with h | ⟨h,_⟩ | ⟨h,_⟩
    ·exact .inr (Rf ⟨h,.refl⟩)
    ·exact .inr (Rf ⟨h,.refl⟩)
    ·exact .inl h
   ·have eM:z∈r' y:=(JF (z,y)).mpr ⟨hz,h1,h2⟩
    rcases ih with h | ⟨h,k⟩ | ⟨h,k⟩
    ·exact .inl (.step h eM)
    ·exact .inr (Rf ⟨h,.step k eM⟩)
    ·exact .inr (RG ⟨h,.step k eM⟩)
end del
end
section
variable{α:Type}[DecidableEq α]{ns:List α}{r r':α→List α}{cs:List (List (α×α))}
def Web.iso(C:JE cs)(h:p∈r q):(r q).erase p=[]↔BO (p,q)=(q,p):=by
 constructor
 ·intro e
  have l:=Yi h
  rw[e]at l
  have p1:=Yh h
  obtain⟨a,ha⟩:=List.length_eq_one_iff.mp (show(r q).length=1 by simp at l;lia)
  rw[ha]at h
  have:p=a:=Qc.mp h
  show(q,nxt (r q) p)=_
  rw[ha,this,zfc]
 ·intro e
  have:=nxt_self (C.rn q) h Ry
  rw[this,List.erase_cons_head]
section del
variable{v u:α}(C:Web ns r cs)(L:Less r r' v u)
include C L
theorem lk_del:∀{t:List (α×α)} {s:α×α},Vt s t x→(∀y,y=s∨y∈t→y.1∈r' y.2)→Lk (st r') s t (if x=(v,u) then BO (u,v) else if x=(u,v) then BO (v,u) else x):=by
 intro t
 induction t with
 |nil=>intro s k h;rw[←show BO s=x from k];exact DY AL
 |cons a t ih =>
  intro s k h
  refine⟨?_,ih k.2 λy hy=>h y yP⟩
  have ha:=((JF a).mp (h a (RG Qb))).2
  rw[DY AL,k.1,if_neg ha.1,if_neg ha.2]
theorem rest_cyc(hc:c∈cs)(h1:(v,u)∉c)(h2:(u,v)∉c):UF c:=by
 refine ze1 (λy hy=>?_) yQ
 have hn:=zi6 yQ hy
 have bJ:y.1∈r' y.2:=(JF y).mpr ⟨(EN y).mp (AM ⟨c,hc,hy⟩),λe=>h1 (e▸hy),λe=>h2 (e▸hy)⟩
 rw[DY bJ,if_neg (show BO y≠(v,u) from λe=>h1 (by rw[←e];exact hn)),if_neg (show BO y≠(u,v) from λe=>h2 (by rw[←e];exact hn))]
theorem lk_conn(sy:∀x y,y∈r' x→x∈r' y):∀{t:List (α×α)} {s:α×α},Vt s t x→(∀y,y=s∨y∈t→y.1∈r' y.2)→Y0 s.1 x.1:=by
 intro t
 induction t with
 |nil=>intro s k h;rw[←show BO s=x from k];exact .step .refl (sy _ _ AL)
 |cons a t ih =>
  intro s k h
  refine Conn.trans (.step .refl (sy _ _ AL)) ?_
  have:=ih k.2 λy hy=>h y yP
  rwa[show a.1=s.2 by rw[←k.1];rfl]at this
end del
def filter_one{T:List α}{R:α→α→Prop}{P:α→Bool}(h:T.Pairwise fun x y=>¬ R x y)(hR:∀ x y,P x=false→P y=false→R x y):T.length≤(T.filter P).length+1:=by
 induction T with
 |nil=>exact Zb _
 | cons a t ih =>
  rw[Jq]at h
  by_cases ha:P a=true
  ·rw [Zs ha]
   have:=ih h.2
   rw[Qu,Qu];lia
  ·rw [Zt ha]
   have:t.filter P=t:=List.filter_eq_self.mpr λy hy=>by
    cases e:P y with
    |true=>rfl
    |false=>exact absurd (hR a y (Gk ha) e) (h.1 y hy)
   rw[this];exact Qg _
def web_less(C:JE cs)(L:XM u):∃ cs',Web ns r' cs'∧(BX r' cs'=BX r cs∧Y0 u v∨BX r' cs'=BX r cs+4):=by
 have eO:=Mr L
 have sM:v∈r u:=YU L.tie
 have ax:((u,v):α×α)≠(v,u):=λe=>eO Ry
 obtain⟨c,hc,hec⟩:=Zu.mp ((EN (v,u)).mpr sM)
 obtain⟨P,Q,ecq⟩:=Yl hec
 have k0:Vt (v,u) (Q++P) (v,u):=zc3 (ecq▸Bl hc)
 have pc:c.Perm ((v,u)::(Q++P)):=by
  rw[ecq];exact Kc.trans ((Wf).cons _)
 by_cases hb:(u,v)∈c
 ·have e7:(u,v)∈Q++P:=by
   rcases Qf.mp (pc.mem_iff.mp hb) with z | z
   ·exact absurd z ax
   ·exact z
  obtain⟨A,B,eAB⟩:=Yl e7
  rw[eAB]at k0 pc
  obtain⟨kA,kB⟩:=zgq.mp k0
  have p9:c.Perm ((v,u)::(u,v)::(A++B)):=pc.trans (Kc.cons _)
  let N:List (Sg (α×α)):=(if A=[] then[] else[A])++(if B=[] then[] else[B])
  have hN:N.flatten=A++B:=by
   show((if A=[] then[] else[A])++(if B=[] then[] else[B])).flatten=_
   rw[Wm]
   congr 1
   ·by_cases h:A=[]
    ·rw[if_pos h,h];rfl
    ·rw[if_neg h];simp
   ·by_cases h:B=[]
    ·rw[if_pos h,h];rfl
    ·rw[if_neg h];simp
  have hp:cs.flatten.Perm ((v,u)::(u,v)::(N++cs.erase c).flatten):=by
   rw[Wm,hN]
   refine(zb0 hc).trans ((p9.append_right _).trans ?_)
   exact List.Perm.refl _
  have nd:=hp.nodup_iff.mp C.cf
  have aB:∀y,y∈(N++cs.erase c).flatten→y.1∈r' y.2:=λy hy=>by
   rw[Qr,Qr,Qf,not_or]at nd
   exact(JF y).mpr ⟨(EN y).mp OT,λe=>nd.1.2 (e▸hy),λe=>nd.2.1 (e▸hy)⟩
  have dW:∀y∈A,y.1∈r' y.2:=λy hy=>aB y (by rw[Wm,hN];exact YG (YG hy))
  have fV:∀y∈B,y.1∈r' y.2:=λy hy=>aB y (by rw[Wm,hN];exact YG (WC hy))
  have cA:∀a t,A=a::t→UF A:=λa t e=>by
   subst e
   have k:=Ms kA.2 λy hy=>dW y Su
   rw[if_neg ax,if_pos rfl,kA.1]at k
   exact⟨a,t,rfl,k⟩
  have cB:∀a t,B=a::t→UF B:=λa t e=>by
   subst e
   have k:=Ms kB.2 λy hy=>fV y Su
   rw[if_pos rfl,kB.1]at k
   exact⟨a,t,rfl,k⟩
  have oj:∀d∈N++cs.erase c,UF d:=λd hd=>by
   rcases Qk.mp hd with z | z
   ·rcases Qk.mp z with y | y
    ·cases A with
     |nil=>rw[if_pos rfl]at y;cases y
     |cons a t =>
      rw[if_neg AU]at y
      rw[Qc.mp y];exact cA a t rfl
    ·cases B with
     |nil=>rw[if_pos rfl]at y;cases y
     |cons a t =>
      rw[if_neg AU]at y
      rw[Qc.mp y];exact cB a t rfl
   ·rw [Qr,Qr,Qf,not_or] at nd
    have hf:∀y∈d,y∈(N++cs.erase c).flatten:=λy hy=>Zu.mpr ⟨d,hd,hy⟩
    exact rest_cyc C L (Uj z) (λy=>nd.1.2 AV) (λy=>nd.2.1 AV)
  have W:=del_web C L hp oj
  have iA:r' u=[]↔A=[]:=by
   rw[L.two,C.iso sM]
   constructor
   ·intro e
    cases A with
    |nil=>rfl
    |cons a t =>
     have ha:a=(u,v):=kA.1.symm.trans e
     have:=((JF a).mp (dW a Qb)).2.2
     exact absurd ha this
   ·intro e;subst e;exact kA
  have iB:r' v=[]↔B=[]:=by
   rw[L.one,C.iso L.tie]
   constructor
   ·intro e
    cases B with
    |nil=>rfl
    |cons a t =>
     have ha:a=(v,u):=kB.1.symm.trans e
     have:=((JF a).mp (fV a Qb)).2.1
     exact absurd ha this
   ·intro e;subst e;exact kB
  have ht:BX r' (N++cs.erase c)=BX r cs+4:=by
   rw[del_tot C L (cs':=N++cs.erase c)]
   have lc:=Yi hc
   have lp:=Yh hc
   have ln:N.length=(if A=[] then 0 else 1)+(if B=[] then 0 else 1):=by
    show((if A=[] then[] else[A])++(if B=[] then[] else[B])).length=_
    rw[Qz]
    congr 1
    ·by_cases h:A=[]
     ·rw[if_pos h,if_pos h];rfl
     ·rw[if_neg h,if_neg h];rfl
    ·by_cases h:B=[]
     ·rw[if_pos h,if_pos h];rfl
     ·rw[if_neg h,if_neg h];rfl
   rw[Qz,ln,lc]
   by_cases hA:A=[]
   ·by_cases hB:B=[]
    ·rw[if_pos (iA.mpr hA),if_pos (iB.mpr hB),if_pos hA,if_pos hB];lia
    ·rw[if_pos (iA.mpr hA),if_neg (λz=>hB (iB.mp z)),if_pos hA,if_neg hB];lia
   ·by_cases hB:B=[]
    ·rw[if_neg (λz=>hA (iA.mp z)),if_pos (iB.mpr hB),if_neg hA,if_pos hB];lia
    ·rw[if_neg (λz=>hA (iA.mp z)),if_neg (λz=>hB (iB.mp z)),if_neg hA,if_neg hB];lia
  exact⟨N++cs.erase c,W,RG ht⟩
 ·obtain ⟨c2,jS,o8⟩:=Zu.mp ((EN (u,v)).mpr L.tie)
  have cu:c2≠c:=λe=>hb (e▸o8)
  have jR:c2∈cs.erase c:=(List.mem_erase_of_ne cu).mpr jS
  obtain⟨P2,Q2,oN⟩:=Yl o8
  have k2:Vt (u,v) (Q2++P2) (u,v):=zc3 (oN▸C.cy c2 jS)
  have p9:c2.Perm ((u,v)::(Q2++P2)):=by
   rw[oN];exact Kc.trans ((Wf).cons _)
  generalize hA:Q++P=A at k0 pc
  generalize hB:Q2++P2=B at k2 p9
  have hp:cs.flatten.Perm ((v,u)::(u,v)::((A++B)::(cs.erase c).erase c2).flatten):=by
   rw[Yq]
   refine(zb0 hc).trans ((pc.append_right _).trans ?_)
   rw[Ws]
   refine FQ ?_
   refine((zb0 jR).append_left A).trans ?_
   refine((p9.append_right _).append_left A).trans ?_
   rw[Ws]
   refine Kc.trans ?_
   rw[Qx]
  have nd:=hp.nodup_iff.mp C.cf
  have aB:∀y,y∈((A++B)::(cs.erase c).erase c2).flatten→y.1∈r' y.2:=λy hy=>by
   rw[Qr,Qr,Qf,not_or]at nd
   exact(JF y).mpr ⟨(EN y).mp OT,λe=>nd.1.2 (e▸hy),λe=>nd.2.1 (e▸hy)⟩
  have dW:∀y∈A,y.1∈r' y.2:=λy hy=>aB y (by rw[Yq];exact YG (YG hy))
  have fV:∀y∈B,y.1∈r' y.2:=λy hy=>aB y (by rw[Yq];exact YG (WC hy))
  have nA:∃a t,A=a::t:=by
   cases A with
   |nil =>
    have:=congrArg Prod.fst (show BO (v,u)=(v,u) from k0)
    exact absurd this.symm eO
   |cons a t=>exact⟨a,t,rfl⟩
  have nB:∃a t,B=a::t:=by
   cases B with
   |nil =>
    have:=congrArg Prod.fst (show BO (u,v)=(u,v) from k2)
    exact absurd this eO
   |cons a t=>exact⟨a,t,rfl⟩
  obtain⟨a,tA,rfl⟩:=nA
  obtain⟨b,tB,rfl⟩:=nB
  have oj:∀d∈((a::tA)++(b::tB))::(cs.erase c).erase c2,UF d:=λd hd=>by
   rcases Qf.mp hd with z | z
   ·have k:=Ms k0.2 fun y hy=>dW y Su
    have k':=Ms k2.2 λy hy=>fV y Su
    rw[if_pos rfl,k2.1]at k
    rw[if_neg ax,if_pos rfl,k0.1]at k'
    rw[z]
    exact⟨a,tA++b::tB,rfl,zgq.mpr ⟨k,k'⟩⟩
   ·rw [Qr,Qr,Qf,not_or] at nd
    have hf:∀y∈d,y∈(((a::tA)++(b::tB))::(cs.erase c).erase c2).flatten:=λy hy=>Zu.mpr ⟨d,hd,hy⟩
    exact rest_cyc C L (Uj (Uj z)) (λy=>nd.1.2 AV) (λy=>nd.2.1 AV)
  have W:=del_web C L hp oj
  have nu:r' u≠[]:=λe=>by
   rw[L.two,C.iso sM]at e
   have ha:a=(u,v):=k0.1.symm.trans e
   exact((JF a).mp (dW a Qb)).2.2 ha
  have nv:r' v≠[]:=λe=>by
   rw[L.one,C.iso L.tie]at e
   have ha:b=(v,u):=k2.1.symm.trans e
   exact((JF b).mp (fV b Qb)).2.1 ha
  have gj:Y0 u v:=by
   have:=lk_conn C L W.sy k0.2 λy hy=>dW y Su
   rwa[←k0.1]at this
  refine⟨_,W,Rf ⟨?_,gj⟩⟩
  rw[del_tot C L,if_neg nu,if_neg nv]
  have lc:=Yi hc
  have lc2:=Yi jR
  have lp:=Yh hc
  have lp2:=Yh jR
  rw[Qu,lc2,lc]
  lia
def zhv{v u:α}(C:JE cs)(L:XM u)(sy:∀x y,y∈r' x→x∈r' y){T:List α}(kS:T.Pairwise λx y=>¬Y0 x y):∃T':List α,(∀t∈T',t∈T)∧T'.Pairwise (λx y=>¬WV y)∧T.length≤T'.length+1:=by
 let P:α→Bool:=λx=>@decide (¬Y0 x v) Rq
 have hP:∀x,P x=false→Y0 x v:=λx e=>by
  have:=@of_decide_eq_false _ Rq e
  exact Classical.not_not.mp this
 refine⟨T.filter P,λt ht=>(IU ht).1,?_,filter_one (P:=P) kS λx y hx hy=>Conn.trans (hP x hx) (NO (hP y hy))⟩
 refine Ky ?_ (kS.filter P)
 intro x y hx hy rB hc
 have px:¬Y0 x v:=@of_decide_eq_true _ Rq (IU hx).2
 have py:¬Y0 y v:=@of_decide_eq_true _ Rq (IU hy).2
 rcases del_conn C L hc with h | ⟨h,_⟩ | ⟨_,h⟩
 ·exact rB h
 ·exact px h
 ·exact py (NO h)
def back_less(C:JE cs)(L:XM u)(sy:∀x y,y∈r' x→x∈r' y)(h:Y0 u v)(hc:WV y):Y0 x y:=by
 rcases del_conn C L hc with z | ⟨z1,z2⟩ | ⟨z1,z2⟩
 ·exact z
 ·exact(z1.trans (NO h)).trans z2
 ·exact(z1.trans h).trans z2
def flat_less{v u:α}(F:Fr r cs)(L:XM u):∃cs',Fr r' cs':=by
 obtain⟨cs',W,⟨ht,gj⟩ | ht⟩:=web_less F.toWeb L
 ·refine ⟨cs',W,fun T hT kS=>?_⟩
  rw[ht]
  exact F.fl T hT (kS.imp λ{x y} h hc=>h (back_less F.toWeb L W.sy gj hc))
 ·refine ⟨cs',W,fun T hT kS=>?_⟩
  obtain⟨T',h1,h2,h3⟩:=zhv F.toWeb L W.sy kS
  have:=F.fl T' (λt ht=>hT t (h1 t ht)) h2
  rw[ht]
  lia
def conn_iso(hr:r x=[])(h:WV y):y=x:=by
 induction h with
 |refl=>rfl
 |step _ hz ih=>rw[ih,hr]at hz;cases hz
def sum_one{L:List α}(nd:L.Nodup){a:α}(h:a∈L)(k:Int):(L.map λl=>if a=l then k else 0).sum=k:=by
 have:=ze4 (g:=λ_=>(0:Int)) (g':=λl=>if a=l then k else 0) nd h λx _ hx=>if_neg λe=>hx e.symm
 rw[this,zdw λ_ _=>rfl,if_pos rfl];lia
def zga{β:Type}(f g:β→Int):∀l:List β,(l.map λx=>f x+g x).sum=(CF f).sum+(CF g).sum:=by
 intro l
 induction l with
 |nil=>rfl
 |cons a t ih=>rw[Qm,Qm,Qm,Zn,Zn,Zn,ih];lia
def sum_exch{β:Type}{L:List α}(nd:L.Nodup)(f:β→α)(g:β→Int):∀{xs:List β},(∀x∈xs,f x∈L)→(L.map λl=>(xs.map λx=>if f x=l then g x else 0).sum).sum=(Ep g).sum:=by
 intro xs
 induction xs with
 |nil=>intro _;exact zdw λ_ _=>rfl
 |cons a t ih =>
  intro h
  rw[Qm,Zn,←ih λx hx=>h x Lf,←sum_one nd (h a Qb) (g a),←zga]
  refine zb4 λl _=>?_
  rw[Qm,Zn]
def labels(a9:α→α):∀ ns:List α,∃ L:List α,L.Nodup∧(∀ x∈ns,a9 x∈L)∧∀ l∈L,∃ x∈ns,a9 x=l:=by
 intro ns
 induction ns with
 |nil=>exact⟨[],Zm,(by intro x h;cases h),(by intro x h;cases h)⟩
 | cons a t ih =>
  obtain⟨L,h1,h2,h3⟩:=ih
  by_cases h:a9 a∈L
  ·refine ⟨L,h1,fun x hx=>?_,fun l hl=>?_⟩
   ·rcases Qf.mp hx with z | z
    ·rw[z];exact h
    ·exact h2 x z
   ·obtain ⟨x,hx,e⟩:=h3 l hl
    exact⟨x,Lf,e⟩
  ·refine ⟨a9 a::L,Cr ⟨h,h1⟩,fun x hx=>?_,fun l hl=>?_⟩
   ·rcases Qf.mp hx with z | z
    ·rw[z];exact Qb
    ·exact QK (h2 x z)
   ·rcases Qf.mp hl with z | z
    ·exact⟨a,Qb,z.symm⟩
    ·obtain ⟨x,hx,e⟩:=h3 l z
     exact⟨x,Lf,e⟩
def cert_flat{a9:α→α}(C:QG a9):Fr r cs:=by
 refine⟨⟨C.nd,C.ro,C.rn,C.ir,C.sy,C.cf,C.cm,C.cy⟩,λT hT hp=>?_⟩
 obtain⟨L,h1,h2,h3⟩:=labels a9 ns
 have e1:(L.map λl=>WP l).sum=(ns.map (vl r)).sum:=N0 h2
 have e2:(L.map λl=>WN l).sum=2*(cs.length:Int):=by
  have key:∀D:List (Sg (α×α)),(∀c∈D,c∈cs)→(L.map λl=>Fs l).sum=2*(D.length:Int):=by
   intro D
   induction D with
   |nil=>intro _;exact zdw λ_ _=>rfl
   | cons c D ih =>
    intro h
    have hc:=h c Qb
    obtain⟨s,t,rfl,_⟩:=Bl hc
    have ha:a9 s.1∈L:=h2 _ (L5 (Bm Qb))
    have hs:∀l∈L,ct ((s::t)::D) a9 l=(if a9 s.1=l then 2 else 0)+Fs l:=λl _=>by
     rw[zdt,zdv (λu hu=>C.one_lab hc Qb hu) AU]
     congr 1
     by_cases e:a9 s.1=l
     ·rw[if_pos e,if_pos (HJ e)]
     ·rw[if_neg e,if_neg (λz=>e (SI z))]
    rw[zb4 hs,zga,sum_one h1 ha,ih λd hd=>h d (QK hd),Qu];lia
  exact key cs λ_ h=>h
 have e3:(L.map λl=>WP l+WN l).sum=4*(L.length:Int):=by
  have:∀M:List α,(∀l∈M,l∈L)→(M.map λl=>WP l+WN l).sum=4*(M.length:Int):=by
   intro M
   induction M with
   |nil=>intro _;rfl
   |cons a t ih =>
    intro h
    obtain⟨x,hx,e⟩:=h3 a (h a Qb)
    rw[Qm,Zn,ih λl hl=>h l (QK hl),←e,C.eu x hx,Qu];lia
  exact this L λ_ h=>h
 rw[zga,e1,e2]at e3
 have nd:(T.map a9).Nodup:=Ur.mpr (Ky (λ{x y} hx hy h e=>h (C.co x (hT x hx) y (hT y hy) e)) hp)
 have:=nd.length_le_of_subset (l₂:=L) λl hl=>by
  obtain⟨x,hx,rfl⟩:=Qh.mp hl
  exact h2 x (hT x hx)
 rw[Qa]at this
 unfold tot
 lia
end
section
variable{α:Type}[DecidableEq α]{ns:List α}{r r':α→List α}{cs:List (List (α×α))}{a9:α→α}
def cutR(r:α→List α)(v u:α):α→List α:=λx=>if x=v then(r v).erase u else if x=u then(r u).erase v else r x
def cut_less(C:JE cs){v u:α}(h:u∈r v):Less r (cutR r v u) v u :=
 have eO:v≠u:=λe=>C.ir u (by rw[e]at h;exact h)
 ⟨h,CZ,(Rm (Zk eO)).trans CZ,λx h1 h2=>(Rm h1).trans (Rm h2)⟩
def sum_lt{f g:α→Nat}:∀ {l:List α},(∀ x∈l,f x≤g x)→(∃ a∈l,f a < g a)→(CF f).sum < (CF g).sum:=by
 intro l
 induction l with
 |nil=>rintro _ ⟨a,h,_⟩;cases h
 | cons b t ih =>
  rintro h ⟨a,ha,hl⟩
  rw[Qm,Qm,Zn,Zn]
  have h1:=h b Qb
  have h2:(t.map f).sum≤(t.map g).sum:=by
   clear ih hl ha
   induction t with
   |nil=>exact Qg _
   |cons c t ih2 =>
    rw[Qm,Qm,Zn,Zn]
    have:=h c Gf
    have:=ih2 (λx hx=>h x (by rcases Qf.mp hx with z | z<;>simp[z]))
    lia
  rcases Qf.mp ha with z | z
  ·subst z;lia
  ·have:=ih (fun x hx=>h x Lf) ⟨a,z,hl⟩
   lia
def genus:∀ (n:Nat) {r:α→List α} {cs:List (Sg (α×α))},JE cs→(ns.map fun x=>(r x).length).sum=n→∃ T:List α,(∀ t∈T,t∈ns)∧T.Pairwise (fun x y=>¬ Conn r x y)∧BX r cs≤4*(T.length:Int):=by
 intro n
 induction n using Nat.strongRecOn with
 | ind n ih =>
  intro r cs C hn
  by_cases h:∃v u,u∈r v
  ·obtain ⟨v,u,h⟩:=h
   have L:=cut_less C h
   obtain⟨cs',W,hh⟩:=web_less C L
   have fM:∀x∈ns,(cutR r v u x).length≤(r x).length:=λx _=>by
    unfold cutR
    by_cases e1:x=v
    ·rw[if_pos e1,e1];exact List.length_erase_le ..
    ·rw [Rm e1]
     by_cases e2:x=u
     ·rw[if_pos e2,e2];exact List.length_erase_le ..
     ·rw[if_neg e2];exact Qg _
   have ad:(ns.map λx=>(cutR r v u x).length).sum<n:=by
    rw[←hn]
    refine sum_lt fM ⟨v,EO h,?_⟩
    rw[L.one,Yi h]
    have:=Yh h
    lia
   obtain⟨T,h1,h2,h3⟩:=ih _ ad W rfl
   rcases hh with⟨ht,gj⟩ | ht
   ·exact⟨T,h1,h2.imp λ{x y} h hc=>h (back_less C L W.sy gj hc),by rw[←ht];exact h3⟩
   ·obtain ⟨T',g1,g2,g3⟩:=zhv C L W.sy h2
    exact⟨T',λt ht=>h1 t (g1 t ht),g2,Gg⟩
  ·have hr:∀ x,r x=[]:=fun x=>by
    cases e:r x with
    |nil=>rfl
    |cons a t=>exact absurd ⟨x,a,Gp e Qb⟩ h
   have jP:cs=[]:=by
    cases cs with
    |nil=>rfl
    |cons c t =>
     obtain⟨s,t',rfl,_⟩:=Bl Qb
     have:=(EN s).mp (by rw[Yq];exact YG Qb)
     rw[hr]at this
     cases this
   refine⟨ns,λt h=>h,C.nd.imp λ{x y} h hc=>h (conn_iso (hr x) hc).symm,?_⟩
   have:∀l:List α,(CF (vl r)).sum=4*(l.length:Int):=by
    intro l
    induction l with
    |nil=>rfl
    |cons a t ih2 =>
     rw[Qm,Zn,ih2,Qu]
     unfold vl
     rw[if_pos (hr a),hr a,Wi]
     lia
   unfold tot
   rw[jP,this,Wi]
   lia
def Web.inc(C:JE cs){c:List (α×α)}(hc:c∈cs){s:α×α}(hs:s∈c):s.1∈r s.2:=(EN s).mp (AM ⟨c,hc,hs⟩)
def Web.one_lab(C:JE cs)(la:∀ x y,y∈r x→a9 y=a9 x){c:List (α×α)}(hc:c∈cs){s u:α×α}(hs:s∈c)(hu:u∈c):a9 u.1=a9 s.1:=by
 obtain⟨A,B,rfl⟩:=Yl hs
 have k:=zc3 (C.cy _ hc)
 have hl:∀y,y=s∨y∈B++A→a9 (BO y).1=a9 y.1:=λy hy=>by
  have bJ:y∈A++s::B:=by
   rcases hy with z | z
   ·rw[z];exact hs
   ·rcases Qk.mp z with q | q
    ·exact WC (QK q)
    ·exact YG q
  exact(la _ _ (Bm bJ)).symm
 rcases Qk.mp hu with z | z
 ·exact lk_lab (lb:=λy:α×α=>a9 y.1) hl k u (WC z)
 ·rcases Qf.mp z with q | q
  ·rw[q]
  ·exact lk_lab (lb:=λy:α×α=>a9 y.1) hl k u (YG q)
def sum_filter(p:β→Bool)(f:β→Int):∀l:List β,((l.filter p).map f).sum=(l.map λx=>if p x=true then f x else 0).sum:=by
 intro l
 induction l with
 |nil=>rfl
 |cons a t ih =>
  rw[Qm,Zn]
  by_cases h:p a=true
  ·rw[Zs h,if_pos h,Qm,Zn,ih]
  ·rw[Zt h,if_neg h,ih];lia
theorem zi2(p:List β→Bool):∀cs:List (List β),(cs.filter p).flatten.Sublist cs.flatten
 |[]=>List.Sublist.refl _
 | c::t=>by
  by_cases h:p c=true
  ·rw [Zs h,Yq,Yq]
   exact List.Sublist.append (List.Sublist.refl _) (zi2 p t)
  ·rw [Zt h,Yq]
   exact(zi2 p t).trans (List.sublist_append_right _ _)
def sum_two(p:β→Bool)(l:List β):(l.map λc=>if p c=true then(2:Int) else 0).sum=2*((l.filter p).length:Int):=by
 rw[←sum_filter p λ_=>2]
 induction l.filter p with
 |nil=>rfl
 |cons a t ih=>rw[Qm,Zn,ih,Qu];lia
def piece_le(C:JE cs)(la:∀ x y,y∈r x→a9 y=a9 x)(co:∀ x∈ns,∀ y∈ns,a9 x=a9 y→WV y)(t:α):WP t+WN t≤4:=by
 let rt:α→List α:=λx=>if a9 x=t then r x else[]
 have r1:∀{x},a9 x=t→rt x=r x:=λh=>if_pos h
 have r0:∀{x},¬a9 x=t→rt x=[]:=λh=>if_neg h
 have rm:∀{x y},y∈rt x↔y∈r x∧a9 x=t:=λ{x y}=>by
  by_cases h:a9 x=t
  ·rw[r1 h];exact⟨λz=>⟨z,h⟩,λz=>z.1⟩
  ·rw[r0 h];exact⟨λz=>(by cases z),λz=>absurd z.2 h⟩
 have ij:∀{c},c∈cs→(c.any λs=>decide (a9 s.1=t))=true→∀s∈c,a9 s.2=t:=λ{c} hc h s hs=>by
  obtain⟨q,hq,e⟩:=Yb.mp h
  rw[←la _ _ yO,C.one_lab la hc hq hs]
  exact of_decide_eq_true e
 have W:Web (ns.filter λx=>decide (a9 x=t)) rt (cs.filter λc=>c.any λs=>decide (a9 s.1=t)):=by
  refine⟨C.nd.filter _,λx hx=>?_,λx=>?_,λx h=>C.ir x (rm.mp h).1,λx y h=>?_,Yy (zi2 _ cs) C.cf,λs=>?_,λc hc=>?_⟩
  ·by_cases h:a9 x=t
   ·rw [r1 h]
    exact C.ro x λz=>hx (Zg.mpr ⟨z,HJ h⟩)
   ·exact r0 h
  ·by_cases h:a9 x=t
   ·rw[r1 h];exact C.rn x
   ·rw[r0 h];exact Zm
  ·obtain ⟨h1,h2⟩:=rm.mp h
   exact rm.mpr ⟨YU h1,(la _ _ h1).trans h2⟩
  ·rw [rm]
   constructor
   ·intro h
    obtain⟨c,hc,hs⟩:=Zu.mp h
    obtain⟨h1,h2⟩:=Zg.mp hc
    exact⟨C.inc h1 hs,ij h1 h2 s hs⟩
   ·rintro ⟨h1,h2⟩
    obtain⟨c,hc,hs⟩:=Zu.mp ((EN s).mpr h1)
    exact Zu.mpr ⟨c,Zg.mpr ⟨hc,Yb.mpr ⟨s,hs,HJ ((la _ _ h1).trans h2)⟩⟩,hs⟩
  ·obtain ⟨h1,h2⟩:=Zg.mp hc
   refine ze1 (λy hy=>?_) (Bl h1)
   show(y.2,nxt (rt y.2) y.1)=(y.2,Dm y.1)
   rw[r1 (ij h1 h2 y hy)]
 have e1:((ns.filter λx=>decide (a9 x=t)).map (vl rt)).sum=WP t:=by
  rw[sum_filter]
  refine zb4 λx _=>?_
  by_cases h:a9 x=t
  ·rw [Rv (HJ h),Rv h]
   unfold vl
   rw[r1 h]
  ·rw[if_neg (Gk h),if_neg h]
 have e2:=sum_two (λc:List (α×α)=>c.any λs=>decide (a9 s.1=t)) cs
 obtain⟨T,h1,h2,h3⟩:=genus _ W rfl
 unfold tot at h3
 rw[e1,←e2]at h3
 have hl:T.length≤1:=by
  match T,h1,h2 with
  |[],_,_=>exact Zb _
  |[_],_,_=>exact Qg _
  | a::b::T',h1,h2 =>
   obtain⟨a1,a2⟩:=Zg.mp (h1 a Qb)
   obtain⟨b1,b2⟩:=Zg.mp (h1 b Gf)
   have a2:=of_decide_eq_true a2
   have b2:=of_decide_eq_true b2
   have key:∀{y},Conn r a y→Conn rt a y∧a9 y=t:=λ{y} h=>by
    induction h with
    |refl=>exact⟨.refl,a2⟩
    |step _ hz ih=>exact⟨.step ih.1 (rm.mpr ⟨hz,ih.2⟩),(la _ _ hz).trans ih.2⟩
   exact absurd (key (co a a1 b b1 (a2.trans b2.symm))).1 ((Jq.mp h2).1 b Qb)
 have:WP t+WN t≤4*(T.length:Int):=h3
 lia
def tot_sum(C:JE cs)(la:∀ x y,y∈r x→a9 y=a9 x){L:List α}(h1:L.Nodup)(h2:∀ x∈ns,a9 x∈L):(L.map fun l=>WP l+WN l).sum=BX r cs:=by
 have e1:(L.map λl=>WP l).sum=(ns.map (vl r)).sum:=N0 h2
 have e2:(L.map λl=>WN l).sum=2*(cs.length:Int):=by
  have key:∀D:List (Sg (α×α)),(∀c∈D,c∈cs)→(L.map λl=>Fs l).sum=2*(D.length:Int):=by
   intro D
   induction D with
   |nil=>intro _;exact zdw λ_ _=>rfl
   | cons c D ih =>
    intro h
    have hc:=h c Qb
    obtain⟨s,t,rfl,_⟩:=Bl hc
    have ha:a9 s.1∈L:=h2 _ (EO (YU (Bm Qb)))
    have hs:∀l∈L,ct ((s::t)::D) a9 l=(if a9 s.1=l then 2 else 0)+Fs l:=λl _=>by
     rw[zdt,zdv (λu hu=>C.one_lab la hc Qb hu) AU]
     congr 1
     by_cases e:a9 s.1=l
     ·rw[if_pos e,if_pos (HJ e)]
     ·rw[if_neg e,if_neg (λz=>e (SI z))]
    rw[zb4 hs,zga,sum_one h1 ha,ih λd hd=>h d (QK hd),Qu];lia
  exact key cs λ_ h=>h
 rw[zga,e1,e2]
 rfl
def all_four{g:α→Int}:∀ {L:List α},(∀ l∈L,g l≤4)→4*(L.length:Int)≤(L.map g).sum→∀ l∈L,g l=4:=by
 intro L
 induction L with
 |nil=>intro _ _ l hl;cases hl
 | cons a t ih =>
  intro h hs l hl
  rw[Qm,Zn,Qu]at hs
  have ha:=h a Qb
  have ht:(t.map g).sum≤4*(t.length:Int):=by
   clear ih hs hl ha
   induction t with
   |nil=>exact Int.le_refl _
   |cons b t ih =>
    rw[Qm,Zn,Qu]
    have:=h b Gf
    have:=ih λx hx=>h x (by rcases Qf.mp hx with z | z<;>simp[z])
    lia
  rcases Qf.mp hl with z | z
  ·rw[z];lia
  ·exact ih (λx hx=>h x Lf) Gg l z
def flat_cert(F:Fr r cs):∃a9,QG a9:=by
 have C:=F.toWeb
 let f:α→Option α:=λx=>ns.find? λy=>@decide (WV y) Rq
 have hf:∀{x},x∈ns→∃y,f x=some y∧y∈ns∧WV y:=λ{x} hx=>by
  cases e:f x with
  |none=>exact absurd (@decide_eq_true _ Rq (Conn.refl (r:=r) (x:=x))) (List.find?_eq_none.mp e x hx)
  |some y =>
   have h:=List.find?_some (p:=λy=>@decide (WV y) Rq) e
   exact⟨y,rfl,List.mem_of_find?_eq_some e,@of_decide_eq_true _ Rq h⟩
 have hs:∀{x y},WV y→f x=f y:=λ{x y} h=>by
  show ns.find? _=ns.find? _
  congr 1
  funext z
  congr 1
  exact propext ⟨λq=>(h.symm C.sy).trans q,λq=>h.trans q⟩
 let a9:α→α:=λx=>(f x).getD x
 have hl:∀{x},x∈ns→a9 x∈ns∧WV Oa:=λ{x} hx=>by
  obtain⟨y,e,h1,h2⟩:=hf hx
  show(f x).getD x∈ns∧WV ((f x).getD x)
  rw[e];exact⟨h1,h2⟩
 have he:∀{x y},x∈ns→y∈ns→WV y→a9 x=a9 y:=λ{x y} hx hy h=>by
  obtain⟨z,e,_⟩:=hf hy
  show(f x).getD x=(f y).getD y
  rw[hs h,e];rfl
 have la:∀x y,y∈r x→a9 y=a9 x:=λx y h=>(he (EO h) (EO (YU h)) (.step .refl h)).symm
 have co:∀x∈ns,∀y∈ns,a9 x=a9 y→WV y:=λx hx y hy e=>by
  have h1:=(hl hx).2
  rw[e]at h1
  exact h1.trans ((hl hy).2.symm C.sy)
 obtain⟨L,h1,h2,h3⟩:=labels a9 ns
 have hL:∀l∈L,l∈ns∧a9 l=l:=λl hl'=>by
  obtain⟨x,hx,e⟩:=h3 l hl'
  obtain⟨a,b⟩:=hl hx
  refine⟨e▸a,?_⟩
  have:=he hx a b
  rw[e]at this
  exact this.symm
 have fl:=F.fl L (λl h=>(hL l h).1) (Ky (λ{x y} hx hy rB hc=>rB (by
  have:=he (hL x hx).1 (hL y hy).1 hc
  rwa[(hL x hx).2,(hL y hy).2]at this)) h1)
 rw[←tot_sum C la h1 h2]at fl
 have four:=all_four (λl _=>piece_le C la co l) fl
 exact⟨a9,C.nd,C.ro,C.rn,C.ir,C.sy,C.cf,C.cm,C.cy,λx hx=>(hl hx).1,la,co,λx hx=>four _ (h2 x hx)⟩
def cert_less(C:QG a9)(L:XM u):∃cs' ah,Fl r' cs' ah:=by
 obtain⟨cs',F⟩:=flat_less (cert_flat C) L
 obtain⟨ah,C'⟩:=flat_cert F
 exact⟨cs',ah,C'⟩
end
section
variable{α:Type}[DecidableEq α]
def good_less{rs r1:Rs α}{u v:α}(G:Good rs)(h:u∈J7 v)(hn:r1.map (·.1)=rs.map (·.1))(hv:row r1 v=(J7 v).erase u)(hu:row r1 u=(J7 u).erase v)(ho:∀y,y≠v→y≠u→row r1 y=J7 y):Good r1:=by
 obtain⟨cs,a9,C⟩:=G
 obtain⟨cs',ah,C'⟩:=cert_less C (v:=v) (u:=u) (r':=row r1) ⟨h,hv,hu,ho⟩
 exact⟨cs',ah,Gp hn C'⟩
end
end Wb
namespace K21
open PySem L2 Wb
abbrev sUntied:Stmt:=top 55
def ndUb:(["_law_place",qO]:List Str).Nodup:=by decide +kernel
def ndUc:(["_law_place", "_law_one"]:List Str).Nodup:=by decide +kernel
def zhq{l:Ng}{x:Str}(nd:l.Nodup):(l.map V.str).filter (λv=>!decide (v=V.str x))=(l.erase x).map V.str:=by
 rw[nd.erase_eq_filter,Jn]
 congr 1
 refine Kv λa _=>?_
 show(!decide (V.str a=V.str x))=(a != x)
 by_cases h:a=x
 ·rw[h,decide_eq_true rfl,bne_self_eq_false];rfl
 ·rw [decide_eq_false (fun z=>h (by injection z))]
  exact(bne_iff_ne.mpr h).symm
section
variable{P:Nk}{w:Nl}{K:Na}{mg:Nd}{base:No}
def zdb:zak [qR,qP, "_law_some", "_law_one",qO] [qR,qP] (zai sUntied):=fsk
def ok_untied(F:QD "_law_untied" "_law_untied" sUntied f fd)(GT:ZK "_law_take" [qP,qM] 1 zfl)(ae:mg "len" = none):ZB 2 f fd [qR,qP] zgc:=by
 refine F.okL zdb (λcdv A outer s0 H0 vs Q E hr h=>?_)
 obtain⟨p,d,b,m,es,rfl,hp,D0,kq⟩:=h
 have R:=D0.ra
 have aN:=D0.few
 have hu:=zcd hr
 have dB:=Ku hu
 have ai:BV _:=hr.mono Gj
 have ar:=sizeLine_eq
 refine⟨_,zad (zgh (ps_lc (i:=2) (M:=["_law_place",qR]) (ix:=[none,Gz 0]) zdb.nd rfl rfl (mkB zdb) rfl EQ (λC a5 ex s H=>JA ndCr)
    (λC a5 ex s H=>zcs (zar (zhj (K:=K) rfl dB) (zq (by exact hu) HQ) So RE)) (λC a5 ex s H=>pv 0) rfl))
  (zag (zby (Va Rz So RE)
   (zad (zhh (i:=3) zdb.nd rfl Tz Ag)
   (zad (zhh (i:=4) zdb.nd rfl Tz (LC OF (RT (Hz OF))))
   (zad (Bn Rj RA (zgi (M:=["_law_place",qO]) (ix:=[none,Gz 4]) (mkB zdb) rfl (Iw OF) (λC a5 ex s H=>JA ndUb)
     (λC a5 ex s H=>zcs (Bc Rj HQ RE)) (λC a5 ex s H=>pv 0)) rfl)
   (zag (Bn Rj Rx (zgi (M:=["_law_place", "_law_one"]) (ix:=[none,Gz 3]) (mkB zdb) rfl (Iw (QI Rx)) (λC a5 ex s H=>JA ndUc)
     (λC a5 ex s H=>zcs (Bc Rj HQ RE)) (λC a5 ex s H=>pv 0)) rfl)))))
   zau)),?_⟩
 have nfz:∀o' u',H0 d≠some Ss:=λo' u' z=>by rw[R.dc]at z;cases z
 refine zg8 (λ σ' H2=>Ex2 λ(D:Nb) (G:Ng)=>Aj5 (σ'=[Ta,Ig,Gh D,none,none]) (H2 D=some Lv) (∀y,y∈G→∃e∈es,e.1=y∧e.2.1≠[]) (G.length≤16) (Keep [] H0 H2)) (λD' bE=>some_ok R aN nfz λD G H' a b c k=>bE _ _ ⟨D,G,rfl,a,b,c,k⟩) ?_
 rintro σ' H2 ⟨D,G,rfl,dk,hG,lu,k2⟩
 dsimp only
 have D2:=D0.k0 k2
 have br:=hp.keep k2 Gf
 have none':∀(b1 m1:Int) (H1:Hp),Pot H1 p b1 m1→DrE H1 d es→Keep [p] H0 H1→Q .non H1:=λb1 m1 H1 eT D1 k1=>kq b1 m1 es H1 eT D1 rfl (k1.sub Gf)
 refine⟨xc,TC,λq hq=>?_⟩
 have nDq:D≠q:=zac dk hq
 refine⟨D,q,xc,rfl,Gs (by rw[zaf nDq];exact dk),Th,xc,?_⟩
 have k3:Keep [] H2 (QA q Hk):=Keep.new hq
 have c8:=(zaf (o:=.lst []) nDq).trans dk
 generalize QA q Hk=H3 at k3 c8
 have D3:=D2.k0 k3
 have be:=br.keep k3 Gf
 have dw:=k2.trans k3
 rw[if_pos rfl]
 cases G with
 |nil=>exact W0 EU
 | cons g0 gt =>
  refine UL ?_
  generalize u8:g0::gt=G at c8 hG lu
  have hGp:0<G.length:=by rw[←u8];simp
  have aA:(G.map V.str).length=G.length:=Qa ..
  refine⟨xc,xc,xc,D,xc,Se c8,p,b,m,xc,be,C5,C5,λj4 b4 m4 H4 ke oI bq gP=>?_⟩
  obtain⟨j4,rfl⟩:=Zo ke
  rw[aA]at oI
  have jJ:j4<G.length:=by lia
  have k4:=zbd gP
  have lw:=k4 _ _ c8 (by simpa using zdi be c8)
  have D4:=D3.pot be k4
  have fh:Keep [p] H0 H4:=(dw.sub Gf).trans k4
  refine⟨D,_,_,xc,rfl,Gs lw,za3 (by rw[Qo,Qd jJ];rfl),?_⟩
  obtain⟨e0,cq,ui,jG⟩:=hG G[j4] (Qs jJ)
  rw[←ui]
  have g4:NZ Eh:=zb6 D4.ra.nd cq▸DGet.k (k:=Sum.inr e0.1) D4.ra.dc
  have bW:=D4.ra.ro e0 cq
  have si:=D4.row e0 cq
  have jj:0<e0.2.1.length:=Uu.mpr jG
  have cn:(e0.2.1.map V.str).length=e0.2.1.length:=Qa ..
  refine⟨xc,xc,d,xc,g4,xc,xc,xc,d,xc,g4,e0.2.2,xc,Se bW,p,b4,m4,xc,bq,GK cn,GK cn,λj5 b5 m5 H5 j' ly aP gu=>?_⟩
  obtain⟨j5,rfl⟩:=Zo j'
  rw[cn]at ly
  have nH:j5<e0.2.1.length:=by lia
  have k5:=zbd gu
  have D5:=D4.pot bq k5
  have fB:=D5.ra.ro e0 cq
  have gv:=fh.trans k5
  refine⟨e0.2.2,_,_,xc,rfl,Gs fB,za3 (by rw[Qo,Qd nH];rfl),?_⟩
  obtain⟨cs,a9,C⟩:=D5.cert
  have gE:e0.2.1[j5]∈e0.2.1:=Qs nH
  have mJ:e0.2.1[j5]∈ZJ e0.1:=by rw[JC cq];exact gE
  generalize e0.2.1[j5]=ot at gE mJ
  obtain⟨e1,bm,q1⟩:=Qh.mp (L5 mJ)
  have cN:e1.1=ot:=q1
  subst cN
  have cE:∀e∈es,e.2.1.Nodup:=λe he=>by have:=C.rn e.1;rw[JC he]at this;exact this
  have n01:e0.1≠e1.1:=λz=>by
   have:=C.ir e0.1
   rw[JC cq]at this
   exact this (z▸gE)
  have ndp:p≠d:=Zk (pot_nd aP D5.ra.dc)
  have g5:DGet H5 d (.str e0.1) Eh:=zb6 D5.ra.nd cq▸DGet.k (k:=Sum.inr e0.1) D5.ra.dc
  refine⟨xc,xc,d,xc,g5,e0.2.2,rfl,⟨_,Gs fB⟩,zfd (xs:=e0.2.1.map V.str) (λ τ=>∃x0,τ=[x0,Gz Sn]) (λv=>!decide (v=V.str e1.1)) (Gs fB) (GK cn) ⟨none,rfl⟩ ?_ (λl6 dS=>?_)⟩
  ·rintro x hx τ ⟨x0,rfl⟩ kk1 kk0 i6 nz
   obtain⟨a,ha,rfl⟩:=Qh.mp hx
   refine⟨xc,xc,rfl,xc,?_⟩
   show if(!decide (V.str a=V.str e1.1))=true then _ else _
   cases hb:(!decide (V.str a=V.str e1.1)) with
   |true=>exact UL ⟨_,rfl,i6 hb _ ⟨_,rfl⟩⟩
   |false=>exact W0 (nz hb _ ⟨_,rfl⟩)
  rw[zhq (cE e0 cq)]
  have k6:Keep [] H5 (QU l6 (Gw ((e0.2.1.erase e1.1).map V.str))):=Keep.new dS
  have g6:(QU l6 (Gw ((e0.2.1.erase e1.1).map V.str))) l6=some (Gw ((e0.2.1.erase e1.1).map V.str)):=zab
  generalize QU l6 (Gw ((e0.2.1.erase e1.1).map V.str))=H6 at k6 g6
  have D6:=D5.k0 k6
  have bd:=aP.keep k6 Gf
  refine⟨xc,xc,d,xc,DPut.k (k:=Sum.inr e0.1) D6.ra.dc RQ,?_⟩
  have R7:=rat_set D6.ra (Ts ⟨e0,cq,rfl⟩) g6
  have k7:Keep [d] H6 (YF d z7):=Keep.wr Qb
  generalize YF d z7=H7 at R7 k7
  have aS:=bd.keep k7 (Gk ndp)
  have jO:e1∈UW e0.1 C0 l6:=mem_setE bm (Zk n01)
  have g7:DGet H7 d Sn Ei:=zb6 R7.nd jO▸DGet.k (k:=Sum.inr e1.1) R7.dc
  have my:=R7.ro e1 jO
  have sf:=D6.row e1 bm
  have sT:(e1.2.1.map V.str).length=e1.2.1.length:=Qa ..
  refine⟨xc,xc,d,xc,g7,e1.2.2,rfl,⟨_,Gs my⟩,zfd (xs:=e1.2.1.map V.str) (λ τ=>∃x0,τ=[x0,Gz (.str e0.1)]) (λv=>!decide (v=V.str e0.1)) (Gs my) (GK sT) ⟨none,rfl⟩ ?_ (λl8 kZ=>?_)⟩
  ·rintro x hx τ ⟨x0,rfl⟩ kk1 kk0 i6 nz
   obtain⟨a,ha,rfl⟩:=Qh.mp hx
   refine⟨xc,xc,rfl,xc,?_⟩
   show if(!decide (V.str a=V.str e0.1))=true then _ else _
   cases hb:(!decide (V.str a=V.str e0.1)) with
   |true=>exact UL ⟨_,rfl,i6 hb _ ⟨_,rfl⟩⟩
   |false=>exact W0 (nz hb _ ⟨_,rfl⟩)
  rw[zhq (cE e1 bm)]
  have k8:Keep [] H7 (JD l8 (Gw ((e1.2.1.erase e0.1).map V.str))):=Keep.new kZ
  have g8:(JD l8 (Gw ((e1.2.1.erase e0.1).map V.str))) l8=some (Gw ((e1.2.1.erase e0.1).map V.str)):=zab
  generalize JD l8 (Gw ((e1.2.1.erase e0.1).map V.str))=H8 at k8 g8
  have R8:RAt H8 d _:=R7.keep k8 Gf λ_ _=>by simp
  have bG:=aS.keep k8 Gf
  refine⟨xc,xc,d,xc,DPut.k (k:=Sum.inr e1.1) R8.dc (by unfold setE;rw[List.length_map,List.length_map];lia),?_⟩
  have R9:=rat_set R8 (Ts ⟨e1,jO,rfl⟩) g8
  have k9:Keep [d] H8 (KO d (.dK (putK ((UW e0.1 C0 l6).map λe=>HI) (Sum.inr e1.1) (Go l8)))):=Keep.wr Qb
  generalize KO d (.dK (putK ((UW e0.1 C0 l6).map λe=>HI) (Sum.inr e1.1) (Go l8)))=H9 at R9 k9
  refine kq b5 m5 _ H9 (bG.keep k9 (Gk ndp)) ⟨R9,?_,by unfold setE;rw[List.length_map,List.length_map];exact aN⟩ (by rw[zb3,zb3]) (((((gv.sub Gf).trans LS).trans Il).trans (k8.sub Gf)).trans CL)
  rw[zc1,zc1]
  have h0n:e0.1∈(S2 es).map (·.1):=by rw[zbg];exact Qh.mpr ⟨e0,cq,rfl⟩
  have h1n:e1.1∈(S2 es).map (·.1):=by rw[zbg];exact Qh.mpr ⟨e1,bm,rfl⟩
  refine good_less D5.gd (v:=e0.1) (u:=e1.1) mJ (by rw[zbv,zbv]) ?_ ?_ λy h1 h2=>by rw[za7 h2,za7 h1]
  ·rw[za7 n01,zbc h0n,JC cq]
  ·rw[zbc (Gp zbv h1n),JC bm]
end
end K21
end
section
namespace L2
open PySem PySem.Spec PyProof.Rows
section
variable{M:Model}{A:Np}{E:Nc}{s:Ni}{B:No}{env:Env}{outer:List Env}{L e:Nb}{cls a0:Value}{R:Obj→Prop}{Q:Unit→Shared→Prop}
end
section
variable{P:Nk}{w:Nl}{K:Na}{mg:Nd}{base:No}{N ps:Ng}{qual:Str}{scope:Scope}{f:Nb}{cd:Value}{A:Np}{outer:List Env}{s:Ni}{H:Hp}{E:XK}
end
section
variable{X:Cx}{CX:CXT}{k:Nat}{f C:Nb}{fd:Nv}{ps:Ng}{sp:Sp}{dvs:List V}{ds:Nj}{E:St→XK}{x m:Str}{p pos apos:Pos}{e o:Expr}{es:Nr}{ta:TE}{t:TA}
end
section
variable{X:Cx}{a5:Nh}{σ:St}{H:Hp}{s:Ni}{E:Nc}{a:Nb}
end
end L2
end
section
namespace L2
open PySem PySem.Spec PyProof.Rows PySem.W PySem.Builtin PySem.Builtin.ObjectAttr PySem.Builtin.Getset_descriptor
section
variable{prog:Nk}{w:Nl}{A:Np}{E:Nc}{s:Ni}{K:Na}{x D:Nb}
end
section
variable{X:Cx}
end
section
variable{X:Cx}{k:Nat}{f:Nb}{fd:Nv}{ps:Ng}{sp:Sp}{dvs:List V}{ds:Nj}{x:Str}{p pos:Pos}{e:Expr}{es:Nr}{t:TA}
end
end L2
end
section
namespace L2
open PySem PySem.Spec PyProof.Rows
section
variable{X:Cx}
end
end L2
end
section
namespace K21
open PySem L2 Wb
abbrev sNames:Stmt:=top 47
abbrev iV(n:Nat):V:=.int (n:Int)
abbrev qwe:Str := "qwertyuiopasdfghjklzxcvbnm"
def qL(i:Nat):Nat:=qwe.cps.toList.getD i 0
def bitF:Nat→Nat→List Nat
 |0,_=>[]
 |f+1,n=>if n=0 then[] else DZ ((n-1)/2)++[(n-1)%2]
theorem bitF_zero:∀f,DZ 0=[]
 |0=>rfl
 |_+1=>rfl
def bit_nd:((Ro 42).map λi=>bitF i i).Nodup:=by decide +kernel
def bit_ok:∀i<42,(bitF i i).length≤8∧(1≤i→1≤(bitF i i).length)∧∀c∈bitF i i,c<2:=by decide +kernel
def stepS:List Nat:=[1,3,5,7,9,11]
def qL_ok:∀i<26,97≤qL i∧qL i≤122:=by decide +kernel
def qL_nd:((Ro 26).map qL).Nodup:=by decide +kernel
def qL_inj{a b:Nat}(ha:a<26)(hb:b<26)(h:qL a=qL b):a=b:=by
 refine(Wa (h₀:=by rw[Qa,Yj];exact ha) (h₁:=by rw[Qa,Yj];exact hb) qL_nd).mp ?_
 rw[Zl,Zl,Ui,Ui]
 exact h
def qwe_len:qwe.length=26:=by decide +kernel
def str_len(z:Str):z.cps.toList.length=z.length:=by simp[Str.length]
def zi7(a b:Str):(a++b).cps.toList=a.cps.toList++b.cps.toList:=by
 show(a.cps++b.cps).toList=_
 simp
def app_len(a b:Str):(a++b).length=a.length+b.length:=by
 rw[←str_len,←str_len,←str_len,zi7,Qz]
def qL_at{x:Nat}(h:x<26):KP (x:Int)=some (qL x):=by
 refine za3 ?_
 have hl:qwe.cps.toList.length=26:=by rw[str_len];exact qwe_len
 unfold qL
 rw[Zd,Qd Gg];rfl
def step_inj{s b a c:Nat}(hs:s∈stepS)(ha:a<26)(hc:c<26)(h:(b+s*a)%26=(b+s*c)%26):a=c:=by
 simp[stepS]at hs
 rcases hs with rfl | rfl | rfl | rfl | rfl | rfl<;>lia
def wrd(b s n:Nat):List Nat:=(bitF n n).map λd=>qL ((b+s*d)%26)
theorem zhm:∀{l m:List Nat},(∀x∈l,∀y∈m,f x=f y→x=y)→l.map f=m.map f→l=m
 |[],[],_,_=>rfl
 |[],_::_,_,h=>by cases h
 |_::_,[],_,h=>by cases h
 |x::l,y::m,i,h=>by
  rw[Qm,Qm]at h
  injection h with h1 h2
  rw[i x Qb y Qb h1,zhm (λa ha c hc=>i a (QK ha) c (QK hc)) h2]
def wrd_inj{b s m n:Nat}(hs:s∈stepS)(hm:m<42)(hn:n<42)(h:NP m=NP n):m=n:=by
 have e:bitF m m=bitF n n:=zhm (λx hx y hy z=>by
  have h1:=(bit_ok m hm).2.2 x hx
  have h2:=(bit_ok n hn).2.2 y hy
  exact step_inj (b:=b) hs Gg Gg (qL_inj PQ PQ z)) h
 refine(Wa (h₀:=by rw[Qa,Yj];exact hm) (h₁:=by rw[Qa,Yj];exact hn) bit_nd).mp ?_
 rw[Zl,Zl,Ui,Ui]
 exact e
def wrd_ok{b s n:Nat}(hn:n<42)(h1:1≤n):1≤(NP n).length∧(NP n).length≤8∧∀c∈NP n,97≤c∧c≤122:=by
 unfold wrd
 rw[Qa]
 refine⟨(bit_ok n hn).2.1 h1,(bit_ok n hn).1,λc hc=>?_⟩
 obtain⟨d,_,rfl⟩:=Qh.mp hc
 exact qL_ok _ PQ
theorem mul_cps(c:Nat):∀n:Nat,n≤8→(Txt.mul (⟨#[c]⟩:Str) (n:Int)).cps.toList=FD c
 |0,_=>rfl
 |1,_=>rfl
 |2,_=>rfl
 |3,_=>rfl
 |4,_=>rfl
 |5,_=>rfl
 |6,_=>rfl
 |7,_=>rfl
 |8,_=>rfl
 |n+9,h=>by lia
inductive IspNames(vs:List V)(H:Hp)(Q:VK):Prop
 |mk (p:Nb) (b m:Int) (n:Nat) (h0:vs=[.ref p,iV n]) (h1:Pot H p b m) (h2:n≤16) (h3:∀(l:Nb) (zs:Ng) (b' m':Int) (H':Hp),H' l=some (.lst (zs.map V.str))→zs.length=n→zs.Nodup→(∀z∈zs,zcm z)→Pot H' p b' m'→H l=none→Keep [p] H H'→Q (.ref l) H'):IspNames vs H Q
def spNames:Sp:=λvs H Q _=>IspNames vs H Q
section
variable{P:Nk}{w:Nl}{K:Na}{mg:Nd}{base:No}
def zce:zak [qP,qM, "_law_letters", "_law_step", "_law_begin", "_law_found", "_law_k", "_law_word", "_law_number", "_law_digit", "_law_sign"] [qP,qM] (zai sNames):=fsk
def ok_names(F:QD "_law_names" "_law_names" sNames f fd)(GT:ZK "_law_take" [qP,qM] 1 zfl)(aV:mg "range" = none)(dm:mg "divmod" = none):ZB 2 f fd [qP,qM] spNames:=by
 refine F.okL zce GQ
 obtain⟨p,b,m,n,rfl,hp,hn,k⟩:=h
 have ar:=sizeLine_eq
 have ai:BV _:=hr.mono Gj
 refine⟨_,zad (Mp zce.nd pe_str)
  (zad (B8 zce.nd (LC (zbi (WB (WB (WB (WB (WB Sk)))))) Ow))
  (zad (BD zce.nd Ow)
  (zad (Mm zce.nd So)
  (zad (zby (zar zil Ow zah RE)
   (zad (Z0 (Bp RZ) (VE zce.nd)
    (zad (zap 7 zce.nd pe_str)
    (zad (zap 8 zce.nd (OA (YC Rx TF)))
    (zad (DV (FJ Ox zah RE)
     (zad (zd6 (zal zg0 Hh dm PyProof.Rows.boot_divmod (zaa (BC Ox zah) Sk)) (Lz (zam 8 zce.nd) (SX (zam 9 zce.nd))))
     (zag (zap 7 zce.nd (za4 zhk (PR Od) Lx)))))
    (zag (Cq RD (BW zae)))))))
   (zag Oe)) zau)
  (zad (Z0 (Bp RZ) (VE zce.nd)
   (zad (zap 10 zce.nd (Fa pe_str Ow GD))
   (zag (zba (WQ RD (LA (za4 zhk (PR TF) (za4 op_mul_str (pv 10) Ow))))))))
  (zag Oe)))))),?_⟩
 refine⟨(Gi 6),λq hq=>?_⟩
 have k1:Keep [] H (ZS q (.lst [Ht 1,Ht 3,Ht 5,Ht 7,Ht 9,Ht 11])):=Keep.new hq
 have da:(ZS q (.lst [Ht 1,Ht 3,Ht 5,Ht 7,Ht 9,Ht 11])) q=some (.lst [Ht 1,Ht 3,Ht 5,Ht 7,Ht 9,Ht 11]):=zab
 have nqp:q≠p:=Zk (zac hp.1 hq)
 generalize ZS q (.lst [Ht 1,Ht 3,Ht 5,Ht 7,Ht 9,Ht 11])=H1 at k1 da
 have eT:=hp.keep k1 Gf
 refine⟨xc,p,b,m,6,rfl,eT,Gj,Gj,λd2 b2 m2 H2 h20 h21 br kp2=>?_⟩
 have bY:=kp2 _ _ da nqp
 have k2:Keep [p] H H2:=(k1.sub Gf).trans (zbd kp2)
 obtain⟨st,e9,aq⟩:∃st:Nat,atI [Sy 1,Sy 3,Sy 5,Sy 7,Sy 9,Sy 11] d2=some (iV st)∧st∈stepS:=by
  obtain⟨jn,rfl⟩:=Zo h20
  have hj:jn<6:=by lia
  have:∀j:Fin 6,∃bb∈stepS,[Sy 1,Sy 3,Sy 5,Sy 7,Sy 9,Sy 11][j.1]?=some (iV bb):=by decide
  obtain⟨bb,h1,h2⟩:=this ⟨jn,hj⟩
  exact⟨bb,za3 h2,h1⟩
 have hst2:st≤11:=by
  have:∀x∈stepS,x≤11:=by decide
  exact this st aq
 refine⟨q,_,_,iV st,rfl,rfl,Gs bY,e9,?_⟩
 refine⟨xc,p,b2,m2,26,rfl,br,Gj,Gj,λd3 b3 m3 H3 h30 h31 be lO=>?_⟩
 obtain⟨bg,rfl⟩:=Zo h30
 have hbg:bg<26:=by lia
 have k3:=k2.trans (zbd lO)
 refine⟨TC,λl hl=>?_⟩
 have nlp:l≠p:=Zk (zac be.1 hl)
 have flH:H l=none:=zaz k3 hl EV
 have k4:Keep [p] H (WU l Hk):=k3.trans PP
 have bq:Pot (WU l Hk) p b3 m3:=be.keep (xs:=[]) PP Gf
 have eY:(WU l Hk) l=some (Gw (([]:List Str).map V.str)):=zab
 generalize WU l Hk=H4 at k4 bq eY
 refine⟨xc,p,b3,m3,3,rfl,bq,Gj,Gj,λd5 b5 m5 H5 j' ly aP gu=>?_⟩
 have k5:=k4.trans (zbd gu)
 have cF:=gu _ _ eY nlp
 refine⟨rfl,xc,?_⟩
 have mX:∀{zs:Ng} {i:Nat},zs.length=i→i<n→(zs.map V.str).length<sizeLine:=λh1 h2=>by rw[Qa];lia
 refine ite2 (λ_=>?_) (λ_=>?_)
 ·refine ⟨_,rfl,(n:Int),rfl,Gg,Gg,?_⟩
  rw[Wx]
  refine zcw (lo:=0) (λi σ H'=>Aj4 (Ex5 λx6 x7 x8 x9 im=>σ=[Ig,Cn n,SK qwe,Cn st,Cn bg,EW,x6,x7,x8,x9,im]) (Keep [p] H H') (Pot H' p b5 m5) (Ex1 λzs:List Str=>Aj2 (H' l=some Cg) (zs.map (·.cps.toList)=(Ro i).map (λk=>FR (bg+k+1)))))
   ⟨⟨_,_,_,_,_,rfl⟩,k5,aP,[],cF,rfl⟩ ?_ ?_
  ·rintro i σ H7 hi ⟨⟨x6,x7,x8,x9,im,rfl⟩,k7,aS,zs,bz,cx⟩
   have bV:zs.length=i:=by
    have:=congrArg List.length cx
    rwa[Qa,Qa,Yj]at this
   refine⟨xc,xc,_,xc,rfl,_,xc,rfl,?_⟩
   have e8:(bg:Int)+(0+(i:Int))+1=((bg+i+1:Nat):Int):=by lia
   rw[e8]
   refine⟨λm σ H'=>Ex3 λ(c f:Nat) (z:Str)=>Aj7 (m=c) (Ex1 λx9=>σ=[Ig,Cn n,SK qwe,Cn st,Cn bg,EW,RJ (0+(i:Int)),SK z,Cn c,x9,im]) (Keep [] H7 H') (c≤f) ((DZ c).map (λd=>qL ((bg+st*d)%26))++z.cps.toList=FR (bg+i+1)) (z.length+c≤bg+i+1) True,
    ⟨bg+i+1,bg+i+1,bg+i+1, "",rfl,⟨_,rfl⟩,Keep.refl,GV,by show _++[]=_;rw[Zx];rfl,by show 0+_≤_;lia,trivial⟩,?_⟩
   rintro m σ H8 ⟨c,f,z,rfl,⟨x9,rfl⟩,k8,hcf,he,hzl2,_⟩
   refine⟨xc,_,xc,rfl,xc,?_⟩
   by_cases h0:m=0
   ·subst h0
    refine zbk (Sc Gg) ?_
    rw[bitF_zero]at he
    refine⟨xc,HX (k8 _ _ bz Gf),xc,l,_,xc,rfl,k8 _ _ bz Gf,mX bV hi,?_⟩
    refine⟨⟨_,_,_,_,xc⟩,λc u ec hc=>by rw[zaf (W1 flH)];exact k8 _ _ (k7 c u ec hc) Gf,(aS.keep k8 Gf).keep (xs:=[l]) HR (by simpa using Zk nlp),zs++[z],by rw[zab,Qp];rfl,?_⟩
    rw[Qp,cx,List.range_succ,Qp,Qm,Qm,←he];rfl
   ·refine zbt (HJ Gg) ?_
    cases f with
    |zero=>lia
    | succ f =>
     have e1:(m:Int)-1=((m-1:Nat):Int):=by lia
     have e2:((m:Int)-1)/2=(((m-1)/2:Nat):Int):=by lia
     have e3:((m:Int)-1)%2=(((m-1)%2:Nat):Int):=by lia
     have bM:(m-1)%2<2:=Dp Gj
     refine⟨_,λ σ' H' z=>z,?_⟩
     refine⟨xc,_,xc,rfl,_,xc,⟨Gj,Gj⟩,λt ht=>?_⟩
     rw[e2,e3]
     have gT:(bg+st*((m-1)%2))%26<26:=Dp Gj
     have e9:KP (((bg:Int)+(st:Int)*(((m-1)%2:Nat):Int))%26)=some (qL ((bg+st*((m-1)%2))%26)):=by
      rw[←Int.natCast_mul,←Int.natCast_add]
      exact qL_at gT
     refine⟨t,xc,Hy zab,rfl,_,xc,_,xc,rfl,?_⟩
     refine⟨xc,xc,xc,xc,_,xc,rfl,Rf ⟨Gg,Gg⟩,_,xc,rfl,_,xc,rfl,Gj,_,_,xc,rfl,by rw[qwe_len];lia,e9,xc,_,xc,rfl,by show 1+z.length≤sizeLine;lia,?_⟩
     refine⟨(m-1)/2,Gg,(m-1)/2,f,xc,⟨xc⟩,k8.trans Tq,Gg,?_,?_,trivial⟩
     ·rw [← he,zi7]
      show(DZ _).map _++([_]++_)=(if m=0 then[] else DZ ((m-1)/2)++[(m-1)%2]).map _++_
      rw[if_neg h0,Qp,Qx];rfl
     ·rw [app_len]
      show 1+z.length+(m-1)/2≤_
      lia
  ·rintro σ H7 ⟨⟨x6,x7,x8,x9,im,rfl⟩,k7,aS,zs,bz,cx⟩
   have bV:zs.length=n:=by
    have:=congrArg List.length cx
    rwa[Qa,Qa,Yj]at this
   refine⟨xc,k l zs b5 m5 H7 bz bV ?_ (λz hz=>?_) aS flH k7⟩
   ·refine zfp (f:=fun z:Str=>z.cps.toList) ?_
    rw[cx]
    exact zdr λa ha c hc h=>by
     have:=wrd_inj aq Gg Gg h
     lia
   ·have:z.cps.toList∈(Ro n).map (fun k=>FR (bg+k+1)):=by rw [← cx];exact Qh.mpr ⟨z,hz,rfl⟩
    obtain⟨j,hj,e⟩:=Qh.mp this
    have nI:j<n:=Wh.mp hj
    have:=wrd_ok (b:=bg) (s:=st) (n:=bg+j+1) Gg Gg
    rw[e]at this
    exact⟨by rw[←str_len];exact this.1,by rw[←str_len];exact this.2.1,this.2.2⟩
 ·refine ⟨_,rfl,(n:Int),rfl,Gg,Gg,?_⟩
  rw[Wx]
  refine zcw (lo:=0) (λi σ H'=>Aj3 (Ex5 λx6 x7 x8 x9 im=>σ=[Ig,Cn n,SK qwe,Cn st,Cn bg,EW,x6,x7,x8,x9,im]) (Keep [p] H H') (Ex3 λ(zs:Ng) (b' m':Int)=>Aj4 (H' l=some Cg) (zs.map (λz=>z.cps.toList.headD 0)=(Ro i).map (λk=>qL ((bg+st*k)%26))) (∀z∈zs,zcm z) (U3 m')))
   ⟨⟨_,_,_,_,_,rfl⟩,k5,[],b5,m5,cF,rfl,λz hz=>(by cases hz),aP⟩ ?_ ?_
  ·rintro i σ H7 hi ⟨⟨x6,x7,x8,x9,im,rfl⟩,k7,zs,b7,m7,bz,cx,hok,aS⟩
   have bV:zs.length=i:=by
    have:=congrArg List.length cx
    rwa[Qa,Qa,Yj]at this
   refine⟨xc,p,b7,m7,2,rfl,aS,Gj,Gj,λd8 b8 m8 H8 uc h81 bG gO=>?_⟩
   obtain⟨j8,rfl⟩:=Zo uc
   have pZ:j8<2:=by lia
   have tW:atI ("ab" : Str).cps.toList (j8:Int)=some (97+j8):=by
    refine za3 ?_
    have:∀j:Fin 2,("ab" : Str).cps.toList[j.1]?=some (97+j.1):=by decide +kernel
    exact this ⟨j8,pZ⟩
   refine⟨_,_,xc,rfl,Gj,tW,?_⟩
   have kZ:=gO _ _ bz nlp
   have gT:(bg+st*i)%26<26:=Dp Gj
   have e9:KP (((bg:Int)+(st:Int)*(0+(i:Int)))%26)=some (qL ((bg+st*i)%26)):=by
    rw[Int.zero_add,←Int.natCast_mul,←Int.natCast_add]
    exact qL_at gT
   refine⟨xc,HX kZ,xc,xc,xc,xc,_,xc,rfl,Rf ⟨Gg,Gg⟩,_,xc,rfl,_,xc,rfl,Gj,_,_,xc,rfl,by rw[qwe_len];lia,e9,xc,xc,p,b8,m8,8,rfl,bG,Gj,Gj,λd9 b9 m9 H9 ub h91 jA pj=>?_⟩
   obtain⟨j9,rfl⟩:=Zo ub
   have sY:j9<8:=by lia
   have hl9:=pj _ _ kZ nlp
   have hmc:=mul_cps (97+j8) j9 Gg
   have pY:(Txt.mul (⟨#[97+j8]⟩:Str) (j9:Int)).length=j9:=by rw[←str_len,hmc,Jz]
   refine⟨_,j9,rfl,rfl,by show 1≤1000;decide,Gg,_,xc,rfl,by rw[pY];show 1+j9≤sizeLine;lia,l,_,xc,rfl,hl9,mX bV hi,?_⟩
   have k9:=(k7.trans (zbd gO)).trans (zbd pj)
   refine⟨⟨_,_,_,_,xc⟩,λc u ec hc=>by rw[zaf (W1 flH)];exact k9 c u ec hc,zs++[(⟨#[qL ((bg+st*i)%26)]⟩:Str)++Txt.mul (⟨#[97+j8]⟩:Str) (j9:Int)],b9,m9,by rw[zab,Qp];rfl,?_,λz hz=>?_,jA.keep (xs:=[l]) HR (by simpa using Zk nlp)⟩
   ·rw[Qp,cx,List.range_succ,Qp,Qm,Qm,zi7];rfl
   ·rcases Qk.mp hz with y | y
    ·exact hok z y
    ·rw [LU y]
     have h1:=qL_ok _ gT
     refine⟨by rw[app_len];show 1≤1+_;lia,by rw[app_len,pY];show 1+j9≤8;lia,λc hc=>?_⟩
     rw[zi7,hmc]at hc
     rcases Qk.mp hc with y | y
     ·rw[show c=qL ((bg+st*i)%26) from Qc.mp y];exact h1
     ·rw[List.eq_of_mem_replicate y];lia
  ·rintro σ H7 ⟨⟨x6,x7,x8,x9,im,rfl⟩,k7,zs,b7,m7,bz,cx,hok,aS⟩
   have bV:zs.length=n:=by
    have:=congrArg List.length cx
    rwa[Qa,Qa,Yj]at this
   refine⟨xc,k l zs b7 m7 H7 bz bV ?_ hok aS flH k7⟩
   refine zfp (f:=λz:Str=>z.cps.toList.headD 0) ?_
   rw[cx]
   exact zdr λa ha c hc h=>step_inj (b:=bg) aq Gg Gg (qL_inj PQ PQ h)
end
end K21
end
section
namespace Wb
section
variable{α β:Type}[DecidableEq α][DecidableEq β]{ns:List α}{r:α→List α}{cs:List (List (α×α))}{f:α→β}
theorem idx_map(hf:∀x y,f x=f y→x=y)(w:α):∀zs:List α,(zs.map f).idxOf (f w)=zs.idxOf w
 |[]=>rfl
 |a::t=>by
  rw[Qm,List.idxOf_cons,List.idxOf_cons,idx_map hf w t]
  by_cases h:a=w
  ·rw[h,beq_self_eq_true,beq_self_eq_true]
  ·rw[beq_eq_false_iff_ne.mpr h,beq_eq_false_iff_ne.mpr λe=>h (NQ e)]
def nxt_map(hf:∀x y,f x=f y→x=y)(zs:List α)(w:α):nxt (zs.map f) (f w)=f (BG w):=by
 unfold nxt
 rw[idx_map hf,Qa,Zd,Zd,Qo]
 cases zs[(zs.idxOf w+1)%zs.length]?<;>rfl
def lk_map{γ δ:Type}{F:γ→γ}{G:δ→δ}{g:γ→δ}{e:γ}:∀{t:List γ} {s:γ},(∀y,y=s∨y∈t→G (g y)=g (F y))→Lk F s t e→Lk G (g s) (t.map g) (g e):=by
 intro t
 induction t with
 |nil=>intro s h k;exact(h s Hf).trans (congrArg g k)
 |cons a t ih =>
  intro s h k
  exact⟨(h s Hf).trans (congrArg g k.1),ih (λy hy=>h y yP) k.2⟩
def cert_map(hf:∀x y,f x=f y→x=y){a:α}(C:Fl r cs λ_=>a){r':β→List β}(hr:∀x,r' (f x)=(r x).map f)(mG:∀y,(∀x,y≠f x)→r' y=[])(ha:a∈ns) :
  Cert (ns.map f) r' (cs.map λc=>c.map λs=>(Al,Am)) λ_=>f a:=by
 have hm:∀{y z},z∈r' y→∃x w,y=f x∧z=f w∧w∈r x:=λ{y z} h=>by
  by_cases hy:∃x,y=f x
  ·obtain ⟨x,rfl⟩:=hy
   rw[hr]at h
   obtain⟨w,hw,rfl⟩:=Qh.mp h
   exact⟨x,w,rfl,rfl,hw⟩
  ·rw [mG y fun x e=>hy ⟨x,e⟩] at h
   cases h
 have hb:∀{x w},w∈r x→f w∈r' (f x):=λh=>by rw[hr];exact Qh.mpr ⟨_,h,rfl⟩
 have hg:∀s t:α×α,(Al,Am)=(f t.1,f t.2)→s=t:=λs t e=>Wz (NQ R6) (NQ Ry)
 have nj:∀{l:List α},l.Nodup→(CF f).Nodup:=λnd=>Ur.mpr (nd.imp λh e=>h (NQ e))
 have ic:(cs.map λc=>c.map λs=>(Al,Am)).flatten=cs.flatten.map λs=>(Al,Am):=List.map_flatten.symm
 refine⟨nj C.nd,λy hy=>?_,λy=>?_,λy h=>?_,λx y h=>?_,?_,λs=>?_,λc hc=>?_,λx hx=>Qh.mpr ⟨a,ha,rfl⟩,λ_ _ _=>rfl,λx hx y hy _=>?_,λx hx=>?_⟩
 ·cases e:r' y with
  |nil=>rfl
  |cons z t =>
   obtain⟨x,w,rfl,_,hw⟩:=hm (y:=y) (z:=z) (Gp e Qb)
   exact absurd (Ts ⟨x,EO hw,rfl⟩) hy
 ·by_cases hy:∃ x,y=f x
  ·obtain ⟨x,rfl⟩:=hy
   rw[hr];exact nj (C.rn x)
  ·rw[mG y λx e=>hy ⟨x,e⟩];exact Zm
 ·obtain ⟨x,w,e1,e2,hw⟩:=hm h
  have:=NQ (e1.symm.trans e2)
  subst this
  exact C.ir _ hw
 ·obtain ⟨a,w,rfl,rfl,hw⟩:=hm h
  exact hb (YU hw)
 ·rw [ic]
  exact Ur.mpr (C.cf.imp λh e=>h (hg _ _ e))
 ·rw [ic]
  constructor
  ·intro h
   obtain⟨t,ht,rfl⟩:=Qh.mp h
   exact hb ((EN t).mp ht)
  ·intro h
   obtain⟨x,w,e1,e2,hw⟩:=hm h
   exact Qh.mpr ⟨(w,x),(EN (w,x)).mpr hw,Wz e2.symm e1.symm⟩
 ·obtain ⟨c0,gI,rfl⟩:=Qh.mp hc
  obtain⟨s,t,rfl,k⟩:=C.cy c0 gI
  refine⟨(Al,Am),xc,lk_map (g:=λs:α×α=>(Al,Am)) (λy _=>?_) k⟩
  show(f y.2,nxt (r' (f y.2)) (f y.1))=(f y.2,f (Dm y.1))
  rw[hr,nxt_map hf]
 ·obtain ⟨x0,hx0,rfl⟩:=Qh.mp hx
  obtain⟨y0,pq,rfl⟩:=Qh.mp hy
  have:=C.co x0 hx0 y0 pq rfl
  clear hy pq
  induction this with
  |refl=>exact .refl
  |step _ hz ih=>exact .step ih (hb hz)
 ·have e1:wt (ns.map f) r' (fun _=>f a) (f a)=wt ns r (fun _=>a) a:=by
   unfold wt
   rw[Zj]
   refine zb4 λx _=>?_
   show(if f a=f a then _ else _)=_
   rw[if_pos rfl,if_pos rfl,hr,Qa]
   simp only[List.map_eq_nil_iff]
  have e2:ct (cs.map λc=>c.map λs=>(Al,Am)) (λ_=>f a) (f a)=ct cs (λ_=>a) a:=by
   unfold ct
   rw[Zj]
   refine zb4 λc _=>?_
   show(if(List.any (c.map λs=>(Al,Am)) λs=>decide (f a=f a))=true then _ else _)=_
   rw[List.any_map]
   simp only[Function.comp_def,decide_true]
  rw[e1,e2]
  exact C.eu a ha
end
end Wb
end
section
namespace Wb
open PySem
def bk(n j:Nat):Nat:=if j=0 then n-1 else j-1
def trR(m i:Nat):List Nat :=
 if i < 2*m then
  (if i%2=0 then[2*m,2*Vb (i/2),i+1,2*((i/2+1)%m)+1,2*((i/2+1)%m)]
    else[2*m+1,2*((i/2+1)%m)+1,i-1,2*Vb (i/2),2*Vb (i/2)+1])
 else if i=2*m then(Ro m).map (2*·)
 else((Ro m).map λk=>2*k+1).reverse
def trF(m:Nat)(i:Fin (2*m+2)):List (Fin (2*m+2)):=(JM i.1).filterMap λk=>if h:k<2*m+2 then some ⟨k,h⟩ else none
def trT(m:Nat):List (Fin (2*m+2)×Fin (2*m+2)×Fin (2*m+2)):=(List.finRange (2*m+2)).flatMap λa=>(VG a).filterMap λb=>if a<b∧a<nxt (VG b) a then some (a,b,nxt (VG b) a) else none
def trC(m:Nat):List (Sg (Fin (2*m+2)×Fin (2*m+2))):=(trT m).map λt=>[(t.1,t.2.1),(t.2.1,t.2.2),(t.2.2,t.1)]
def tr0(m:Nat):Fin (2*m+2):=⟨0,Gg⟩
structure TrOk(m:Nat):Prop where
 lo:∀i<2*m+2,∀k∈JM i,k<2*m+2
 cyc:∀t∈trT m,Fb (t.1,t.2.1)=(t.2.1,t.2.2)∧Fb (t.2.1,t.2.2)=(t.2.2,t.1)∧Fb (t.2.2,t.1)=(t.1,t.2.1)
 rn:∀x,(VG x).Nodup
 ir:∀x,x∉VG x
 sy:∀x,∀y∈VG x,x∈VG y
 cf:(trC m).flatten.Nodup
 cm:∀s∈(trC m).flatten,s.1∈VG s.2
 mc:∀x,∀y∈VG x,(y,x)∈(trC m).flatten
 eu:wt (List.finRange (2*m+2)) (trF m) (λ_=>tr0 m) (tr0 m)+ct (trC m) (λ_=>tr0 m) (tr0 m)=4
 up:∀x:Fin (2*m+2),x.1=0∨∃y∈VG x,y<x
def tr_cert(h:TrOk m):Cert (List.finRange (2*m+2)) (trF m) (trC m) λ_=>tr0 m:=by
 have con:∀n,∀x:Fin (2*m+2),x.1<n→Dr x:=by
  intro n
  induction n with
  |zero=>intro x hx;cases hx
  |succ n ih =>
   intro x hx
   rcases h.up x with z | ⟨y,hy,ad⟩
   ·rw[show x=tr0 m from Fin.ext z];exact .refl
   ·exact .step (ih y (Zw ad (Nat.le_of_lt_succ hx))) (h.sy x y hy)
 have oR:∀x:Fin (2*m+2),Dr x:=λx=>con _ x zB
 refine⟨List.nodup_finRange _,λx hx=>absurd (List.mem_finRange x) hx,h.rn,h.ir,λx y=>h.sy x y,h.cf,λs=>⟨h.cm s,λz=>h.mc s.2 s.1 z⟩,λc hc=>?_,λ_ _=>List.mem_finRange _,λ_ _ _=>rfl,λx _ y _ _=>((oR x).symm λa b=>h.sy a b).trans (oR y),λ_ _=>h.eu⟩
 obtain⟨t,ht,rfl⟩:=Qh.mp hc
 obtain⟨h1,h2,h3⟩:=h.cyc t ht
 exact⟨_,xc,h1,h2,h3⟩
def tr_ok(h3:3≤m)(h7:m≤7):TrOk m:=by
 have:m=3∨m=4∨m=5∨m=6∨m=7:=by lia
 rcases this with rfl | rfl | rfl | rfl | rfl <;>
  exact⟨by decide +kernel,by decide +kernel,by decide +kernel,by decide +kernel,by decide +kernel,by decide +kernel,by decide +kernel,by decide +kernel,by decide +kernel,by decide +kernel⟩
def tr_good{m:Nat}(h3:3≤m)(h7:m≤7){nm:Nat→Str}(inj:∀i j,i<2*m+2→j<2*m+2→nm i=nm j→i=j) :
  Good ((Ro (2*m+2)).map λi=>(nm i,(JM i).map nm)):=by
 have h:=tr_ok h3 h7
 have hf:∀x y:Fin (2*m+2),nm x.1=nm y.1→x=y:=λx y e=>Fin.ext (inj _ _ x.2 y.2 e)
 have hn:((Ro (2*m+2)).map λi=>(nm i,(JM i).map nm)).map (·.1)=(List.finRange (2*m+2)).map λx=>nm x.1:=by
  rw[Zj]
  refine Xi Gf λi h1 h2=>?_
  simp
 have ay:(((Ro (2*m+2)).map λi=>(nm i,(JM i).map nm)).map (·.1)).Nodup:=by
  rw[hn]
  exact Ur.mpr ((List.nodup_finRange _).imp λne e=>ne (NQ e))
 refine⟨_,_,hn▸cert_map (f:=λx:Fin (2*m+2)=>nm x.1) hf (tr_cert h) (λx=>?_) (λy hy=>?_) (List.mem_finRange _)⟩
 ·have hmem:(nm x.1,(JM x.1).map nm)∈(Ro (2*m+2)).map fun i=>(nm i,(JM i).map nm):=Qh.mpr ⟨x.1,Wh.mpr x.2,rfl⟩
  rw[zfn ay hmem]
  show(JM x.1).map _=(List.filterMap _ _).map _
  have kX:=h.lo x.1 x.2
  generalize JM x.1=ks at kX
  induction ks with
  |nil=>rfl
  |cons a t ih =>
   have ha:=kX a Qb
   rw[List.filterMap_cons,dif_pos ha,Qm,Qm,ih λk hk=>kX k (QK hk)]
 ·refine zgf fun z=>?_
  rw[hn]at z
  obtain⟨x,_,e⟩:=Qh.mp z
  exact hy x e.symm
end Wb
end
section
namespace L2
open PySem PySem.Spec PyProof.Rows
section
variable{X:Cx}
end
section
variable{X:Cx}{a5:Nh}{σ:St}{H:Hp}{s:Ni}
end
section
variable{prog:Nk}{w:Nl}{A:Np}{E:Nc}{s:Ni}
def rev_no_len:typeLookup (.type "list_reverseiterator") "__len__" = pure none:=by rw[typeLookup_type,builtinLookup_eq_fast];kernel_rfl
def rev_hint:typeLookup (.type "list_reverseiterator") "__length_hint__" = pure (Gz (.builtin "list_reverseiterator.__length_hint__")):=by rw[typeLookup_type,builtinLookup_eq_fast];kernel_rfl
def hint_rev(hT:s.TypeIs (Go r) "list_reverseiterator")(h:Q false s):ZG (Builtin.List.listLengthHint (Go r)) Q E s:=by
 unfold Builtin.List.listLengthHint
 refine wpAny_bind (KD rev_no_len ?_)
 show ZV A (specialOf (yL r) (Str.ofString "__length_hint__") >>= _) _ _ _
 refine wpAny_bind (KD rev_hint ?_)
 generalize hid:("list_reverseiterator.__length_hint__" : String)=id0
 wp_delta
 rw[show splitId id0=some ("list_reverseiterator", "__length_hint__") from by subst hid;decide +kernel]
 subst hid
 refine wpAny_bind (wpAny_isInstance (T := "list_reverseiterator") (b:=true) hT (by rw[isSubtype_type];kernel_rfl) ?_)
 refine wpAny_ite_split (λjX=>absurd jX Gj) (λ_=>?_)
 refine wpAny_ite_split (λ_=>?_) (λjX=>absurd (by decide +kernel) jX)
 refine wpAny_ite_split (λjX=>absurd jX Gj) (λ_=>?_)
 exact wpAny_pure h
def zjf(hh:A.handled=none)(i8:s.heap.IsRevIter I l ((items.size:Int)-1))(hl:s.heap.IsList l items)(ax:l≠I)(hn:items.size≤sizeLine)(hQ:∀h' tk af c',(∀b o,b≠I→s.heap.get? b=some o→h'.get? b=some o)→h'.get? s.heap.objs.size=some {cls:=.type "list",dict:=none,data:=.seq af c',slots:=#[]}→ItemsOf (λi v=>items[items.size-1-i]?=some v) af items.size→Q Gy {s with heap:=h',toks:=tk}) :
  wpAny GJ A (call (.type "list") [CW]) Q E s:=by
 have W:=Walks.listRev (prog:=prog) (w:=w) (A:=A.in1.in1) hh I l ax items
 refine callType_codes (Q₁:=λobj s₁=>obj=.ref s.heap.objs.size∧s₁={s with heap:=s.heap.push {cls:=.type "list",data:=.seq #[]}}) PySem.F.called_list (PySem.F.typeCall_list_1 _) PySem.F.entry_list_init
  (code_list_new _ ⟨rfl,rfl⟩) λobj s₁ h₁=>?_
 obtain⟨rfl,rfl⟩:=h₁
 have hS:(s.heap.push {cls:=.type "list",data:=.seq #[]}).get? s.heap.objs.size=some {cls:=.type "list",data:=.seq #[]}:=JH rfl
 have hSI:s.heap.objs.size≠I:=by obtain⟨o,e,_⟩:=i8;exact Yp TU
 have hSl:s.heap.objs.size≠l:=by obtain⟨o,e,_⟩:=hl;exact Yp TU
 have eB:s.heap.objs.size∉[I,l]:=by simp;exact⟨hSI,hSl⟩
 refine⟨⟨_,hS,rfl⟩,PySem.F.args_list_init_2 _ _,?_⟩
 show ZV _ (do let old ←Builtin.List.listItems Gy;Builtin.List.listUpdate Gy (λ_=>#[]);letGo old.toList.reverse;Bd CW .none) _ _ _
 refine wpAny_bind ?_
 unfold Builtin.List.listItems
 refine wpAny_bind (JN (wpAny_pure ?_))
 show ZV _ (updateSeq s.heap.objs.size (λ_=>#[]) >>= λ_=>letGo (#[]:Array Value).toList.reverse >>= λ_=>Bd CW .none) _ _ _
 refine wpAny_bind (wpAny_updateSeq hS rfl ?_)
 have hS₂:=Us (Obj.mapSeq (λ_=>(#[]:Array Value))) hS rfl
 have oth:∀b o,s.heap.get? b=some o→((s.heap.push {cls:=.type "list",data:=.seq #[]}).update s.heap.objs.size (Obj.mapSeq (λ_=>(#[]:Array Value)))).get? b=some o :=
  λb o e=>(Vl (Yp TU)).trans LZ
 refine wpAny_bind (wpAny_letGo ?_)
 generalize(s.heap.push {cls:=.type "list",data:=.seq #[]}).update s.heap.objs.size (Obj.mapSeq (λ_=>(#[]:Array Value)))=h2 at hS₂ oth
 have i7:h2.IsRevIter I l ((items.size:Int)-1):=i8.at λo e=>oth I o e
 have az:h2.IsList l items:=hl.at λo e=>oth l o e
 unfold Builtin.List.listExtendWith
 refine wpAny_bind (wpAny_typeOf (T := "list_reverseiterator") i7.typeIs ?_)
 have h1:Builtin.List.listSameRef Gy CW=false:=by simp[Builtin.List.listSameRef,hSI]
 have e1:(Value.type "list_reverseiterator" == Value.type "list")=false:=by decide
 have e2:(Value.type "list_reverseiterator" == Value.type "tuple")=false:=by decide
 simp only[h1,e1,e2,Bool.or_false,Js,if_false]
 refine wpAny_bind (wpAny_pyIter_revIter i7 ?_)
 refine wpAny_bind (z8 (hint_rev i7.typeIs ?_))
 refine wpAny_ite_split (λjX=>absurd jX Gj) (λ_=>?_)
 refine wpAny_pure ⟨plainId_quiet PySem.F.plain_extend_loop _,codeAny_extend_loopS W.toS hn s.heap.objs.size eB .none items.size 0 _ #[] _ rfl RP ⟨RP,Gk i7,az⟩ hS₂ (ItemsOf.nil _) λs' ut c' hm cU il=>?_⟩
 rw[Moved.eq_with hm]
 refine⟨rfl,hQ s'.heap s'.toks ut c' (λb o hb e=>hm.heap b o (λhmem=>?_) (oth b o e)) cU il⟩
 rcases Qf.mp hmem with e' | hmem
 ·exact absurd (Qv e) (by rw[e'];exact Yu _)
 ·exact hb (Qc.mp hmem)
end
section
variable{X:Cx}
def tRev(K:Na)(t:TE):TE:=λ σ H Q=>t σ H λv H1=>Ex2 λl xs=>Aj3 (v=.ref l) (SqL K H1 l xs) (∀p,H1 p=none→Q Sv (QJ p LT))
def pe_rev(hc:X.calm=true)(hg:V4 "list")(hm:X.mg "list" = none)(hg':V4 "reversed")(sR:X.mg "reversed" = none)(he:Z7 e t)(h1:starEach [e] X.env=[(false,CA)]:=by rfl)(h2:starEach [.Call (.Name "reversed" p2) [e] [] q2] X.env=[(false,Hm (.Call (.Name "reversed" p2) [e] [] q2))]:=by rfl) :
  PE X (.Call (.Name "list" p1) [.Call (.Name "reversed" p2) [e] [] q2] [] q1) (tRev X.K t):=by
 intro a5 s σ H Q I h
 refine Call_ (Bw boot_list (Ua (rest:=[]) ?_ h2 rfl))
 rw[h2]
 show ZV _ (spliced ((false,Hm (.Call (.Name "reversed" p2) [e] [] q2))::[])) _ _ s
 refine Jy (Call_ (zgs I hg' sR boot_reversed (Ua (rest:=[]) ?_ h1 rfl)))
 rw[h1]
 show ZV _ (spliced ((false,CA)::[])) _ _ s
 refine Jy (thn Ri λu s1 ⟨v,H1,I1,r1,l,xs,ev,hq,q⟩=>Xr ?_)
 subst ev
 cases r1
 obtain⟨a7,rv,pl,hz⟩:=I1.list hq
 have ae:=rv.length
 have hl:=pl.isList
 have lt:l<s1.heap.objs.size:=by obtain⟨o,z,_⟩:=hl;exact Qv z
 refine call_reversed_list hl (Xr ?_)
 have hsz:(s1.heap.push (revObj l ((a7.toArray.size:Int)-1))).objs.size=s1.heap.objs.size+1:=Wp ..
 refine zjf (s:={s1 with heap:=s1.heap.push (revObj l ((a7.toArray.size:Int)-1))}) (I:=s1.heap.objs.size) (l:=l) (items:=a7.toArray) (I1.ok.hd hc) ⟨_,SA,rfl,rfl⟩ (hl.at λo z=>WG z) IK (by simp;lia) λh' tk af c' kp hn il=>?_
 have lP:∀b o,s1.heap.get? b=some o→h'.get? b=some o:=λb o z=>kp b o (Zi (Qv z)) (WG z)
 have hf:H1 (s1.heap.push (revObj l ((a7.toArray.size:Int)-1))).objs.size=none:=I1.hok.fresh (by rw[hsz];exact Um _)
 have eacc:af=a7.reverse.toArray:=by
  refine Array.ext (by simpa using il.1) λi hi aK=>?_
  have:=il.2 i af[i] (by simp[hi])
  have hil:i<a7.length:=by simpa using aK
  simp only[List.getElem?_toArray,Qw]at this
  rw[Qd Gg]at this
  show af[i]=a7.reverse[i]'(Gk aK)
  rw[List.getElem_reverse]
  exact(Qn this).symm
 subst eacc
 exact⟨Go _,_,I1.laid (t':=tk) lP (by rw[hsz];exact Um _) (show QB _ h' _ LT from⟨Gp Ji hz,a7.reverse,c',rv.reverse,hn⟩),rfl,q _ hf⟩
def gTwo(K:Na)(t:TGs):TG:=λv σ H Q=>Ex3 λ(a:Nb) (x y:V)=>Aj3 (v=.ref a) (YM [x,y]) (t [x,y] σ H Q)
def draw_two(ne:a≠it)(hi:s.heap.IsListIter it a 0)(hl:s.heap.IsList a #[u1,u2])(q:∀h',h'.IsListIter it a 2→Heap.SameBut it s.heap h'→Q [u1,u2] {s with heap:=h'}):K0 A (draw SC 2) Q E s:=by
 apply wpAny_bind (m:=pyNext SC)
 apply wpAny_pyNext_list_item hi hl (x:=u1) rfl
 intro h1 i1 s1
 have l1:h1.IsList a #[u1,u2]:=hl.extBut s1.extBut ne
 apply wpAny_bind
 apply wpAny_holding
 apply wpAny_bind (m:=pyNext SC)
 apply wpAny_pyNext_list_item (s:={s with heap:=h1}) i1 l1 (x:=u2) rfl
 intro h2 i2 s2
 apply wpAny_bind
 apply wpAny_holding
 apply wpAny_pure
 apply wpAny_pure
 apply wpAny_pure
 exact q h2 i2 (s1.trans s2)
def pg_two(hc:X.calm=true)(h:Fd [e1,e2] t)(hn:(assignEach [e1,e2] X.env).length=2:=by rfl)(aq:(assignEach [e1,e2] X.env).findIdx? (·.1)=none:=by rfl):PG X (.Tuple [e1,e2] k pos) (gTwo X.K t):=by
 intro a5 s σ H v u Q I r ⟨a,x,y,z,hq,hw⟩
 subst z
 cases r
 obtain⟨a7,rv,hp,_⟩:=I.list hq
 have rv':=rv
 obtain⟨u1,u2,rfl,_,_⟩:=vals2 rv'
 have hl:s.heap.IsList a #[u1,u2]:=hp.isList
 have ne:a≠s.heap.objs.size:=by
  obtain⟨o,ho,_⟩:=hl
  exact Zi (Qv ho)
 rw[assign_Tuple]
 apply wpAny_bind
 apply wpAny_standAt
 unfold unpack
 rw[hn,aq]
 apply wpAny_bind
 apply wpAny_holding
 unfold unpackItems
 apply wpAny_bind
 unfold notIterableAtAll
 apply wpAny_bind
 apply wpAny_specialOf hl.typeIs slot_list_iter.lookup
 apply wpAny_pure
 rw[if_neg Gf]
 apply wpAny_bind
 apply wpAny_holding
 apply wpAny_pyIter_list hl
 have lp:(s.heap.push {cls:=.type "list_iterator",data:=.fields #[Rg,IB]}).IsList a #[u1,u2]:=hl.push _
 apply wpAny_bind
 apply wpAny_holding
 apply draw_two ne ⟨_,SA,rfl,rfl⟩ lp
 intro h1 i1 s1
 rw[if_neg Gf]
 apply wpAny_bind
 apply wpAny_holding
 apply KB i1 (lp.extBut s1.extBut ne) rfl
 intro h2 x2
 rw[if_neg Gf]
 apply wpAny_pure
 have I1:ZA H {s with heap:=h2}:=I.kept (t':=s.toks) λb o e=>by
  have nb:=Zi TU
  exact x2 b o nb (s1.extBut b o nb LZ)
 exact h a5 _ σ H [x,y] _ Q I1 rv hw
end
end L2
end
section
namespace K21
open PySem L2 Wb
abbrev sRings:Stmt:=top 54
def ordP(m i:Nat):Nat:=if i<2*m then(if i%2=0 then i/2 else m+i/2) else i
def nmP(zs:Ng)(m i:Nat):Str:=zs.getD (Fc i) ""
def cut_mid{xs:List V}{a b:Nat}(h:a≤b)(hb:b≤xs.length):M7 (some (a:Int)) (some (b:Int))=(xs.drop a).take (b-a):=by
 unfold cutV
 have e1:QN 0 (some (a:Int))=a:=by rw[HT.sIx_nat];lia
 have e2:QN xs.length (some (b:Int))=b:=by rw[HT.sIx_nat];lia
 rw[e1,e2]
def nm_inn(h:k<m):ZW (2*k)=zs.getD k "" := by
 unfold nmP ordP
 rw[if_pos Gg,if_pos Gg,show 2*k/2=k by lia]
def nm_out(h:k<m):ZW (2*k+1)=zs.getD (m+k) "" := by
 unfold nmP ordP
 rw[if_pos Gg,if_neg Gg,show(2*k+1)/2=k by lia]
def nm_cap(h:2*m≤i):ZW i=zs.getD i "" := by
 unfold nmP ordP
 rw[if_neg Gg]
def tr_inn(h:k<m):JM (2*k)=[2*m,2*Vb k,2*k+1,2*((k+1)%m)+1,2*((k+1)%m)]:=by
 unfold trR
 rw[if_pos Gg,if_pos Gg,show 2*k/2=k by lia]
def tr_out(h:k<m):JM (2*k+1)=[2*m+1,2*((k+1)%m)+1,2*k,2*Vb k,2*Vb k+1]:=by
 unfold trR
 rw[if_pos Gg,if_neg Gg,show(2*k+1)/2=k by lia,Nat.add_sub_cancel]
def ord_lt(h7:m≤7)(h:i<2*m+2):Fc i<16:=by
 unfold ordP
 split<;>(try split)<;>lia
def ord_inj(hi:i<2*m+2)(hj:j<2*m+2)(h:Fc i=Fc j):i=j:=by
 unfold ordP at h
 split at h<;>split at h<;>(try split at h)<;>(try split at h)<;>lia
def nm_inj(nd:zs.Nodup)(hz:zs.length=16)(h7:m≤7)(hi:i<2*m+2)(hj:j<2*m+2)(h:ZW i=ZW j):i=j:=by
 have h1:=FU hi
 have h2:=FU hj
 unfold nmP at h
 rw[Zd,Zd,Qd Gg,Qd Gg]at h
 exact ord_inj hi hj ((Wa nd).mp h)
def innP(zs:Ng)(m:Nat):List Str:=(Ro m).map λk=>ZW (2*k)
def outP(zs:Ng)(m:Nat):List Str:=(Ro m).map λk=>ZW (2*k+1)
def inn_cut(h:m≤zs.length):(zs.map V.str).take m=(BY m).map V.str:=by
 unfold innP
 refine Xi (by simp;lia) λi h1 h2=>?_
 have hi:i<m:=by rw[Qa,Qa,Yj]at h2;exact h2
 rw[Ux,Zl,Zl,Zl,Ui,nm_inn hi,Zd,Qd Gg]
 rfl
def out_cut(h:2*m≤zs.length):((zs.map V.str).drop m).take m=(BZ m).map V.str:=by
 unfold outP
 refine Xi (by simp;lia) λi h1 h2=>?_
 have hi:i<m:=by rw[Qa,Qa,Yj]at h2;exact h2
 rw[Ux,List.getElem_drop,Zl,Zl,Zl,Ui,nm_out hi,Zd,Qd Gg]
 rfl
def cap_cut(h:2*m+2≤zs.length):((zs.map V.str).drop (2*m)).take 2=[Hn (2*m),Hn (2*m+1)]:=by
 rw[nm_cap GV,nm_cap (Um _),Zd,Zd,Qd Gg,Qd Gg]
 rw[Yo RQ,Yo RQ,Zl,Zl]
 rfl
def at_rg(h:k<m):atI (((Ro m).map f).map V.str) (k:Int)=some (RN (f k)):=by
 refine za3 ?_
 rw[Qo,Qo,List.getElem?_range h]
 rfl
def at_rg'(h:k<m):atI (((Ro m).map f).map V.str) ((k:Int)-1)=some (RN (f (Vb k))):=by
 have hl:(((Ro m).map f).map V.str).length=m:=by rw[Qa,Qa,Yj]
 rw[atI_prev (Gp hl h),hl]
 have hb:pidx m k<m:=by unfold pidx;split<;>lia
 rw[Qo,Qo,List.getElem?_range hb]
 rfl
inductive TrI(zs:Ng)(m:Nat)(H3:Hp)(d:Nb)(c:Nat)(H':Hp):Prop
 |mk (es:List Ent) (ra:RAt H' d es) (rs:rsOf es=(List.range c).map λi=>(ZW i,(JM i).map Og)) (kp:Keep [d] H3 H'):US H3 d c H'
def TrI.k0(h:A8)(k:Keep [] H' H2):US H3 d c H2:=by
 obtain⟨es,ra,rs,kp⟩:=h
 exact⟨es,ra.keep k Gf He,rs,kp.trans (k.sub Gf)⟩
def TrI.kp(h:A8):Keep [d] H3 H':=by
 obtain⟨_,_,_,kp⟩:=h
 exact kp
def TrI.put(h:A8)(nd:zs.Nodup)(hz:zs.length=16)(h7:m≤7)(hc:c<2*m+2)(ha:H' a=some (Gw (((JM c).map Og).map V.str))) :
  ∃kv:List (Key×V),H' d=some (.dK kv)∧kv.length≤16∧US H3 d (c+1) (YI d (.dK (putK kv (RY (ZW c)) Rg))):=by
 obtain⟨es,ra,rs,kp⟩:=h
 have bB:es.length=c:=by
  have:=congrArg List.length rs
  unfold rsOf at this
  rw[Qa,Qa,Yj]at this;exact this
 have hxn:ZW c∉es.map (·.1):=λz=>by
  rw[←zbg,rs,Zj]at z
  obtain⟨i,hi,e⟩:=Qh.mp z
  have aK:=Wh.mp hi
  have:=nm_inj nd hz h7 Gg hc e
  lia
 refine⟨_,ra.dc,RQ,es++[(ZW c,(JM c).map Og,a)],rat_new ra hxn ha,?_,kp.trans HR⟩
 rw[List.range_succ,Qp,←rs]
 unfold rsOf
 rw[Qp];rfl
inductive IspRings(vs:List V)(H:Hp)(Q:VK):Prop
 |mk (l:Nb) (zs:Ng) (m:Nat) (h0:vs=[.ref l,.int (m:Int)]) (h1:H l=some (.lst (zs.map V.str))) (hn:zs.Nodup) (hl:zs.length=16) (h3:3≤m) (h7:m≤7)
  (h3:∀(d:Nb) (ag:List Ent) (H':Hp),H d=none→YV ag→(∀x∈ag.map (·.1),x∈zs)→Keep [] H H'→Q Cf H'):IspRings vs H Q
def spRings:Sp:=λvs H Q _=>IspRings vs H Q
section
variable{P:Nk}{w:Nl}{K:Na}{mg:Nd}{base:No}
def zdm:zak [qN,qM,qR, "_law_inner", "_law_outer", "_law_top", "_law_ground", "_law_k", "_law_ahead"] [qN,qM] (zai sRings):=fsk
def ok_rings(F:QD "_law_two_rings" "_law_two_rings" sRings f fd)(aV:mg "range" = none)(au:mg "list" = none)(sk:mg "reversed" = none):ZB 1 f fd [qN,qM] spRings:=by
 refine F.okL zdm GQ
 obtain⟨l,zs,m,rfl,hl,ay,bV,h3,h7,kq⟩:=h
 have hu:=zcd hr
 have ar:=sizeLine_eq
 refine⟨_,zad (Mp zdm.nd zf2)
  (zad (B8 zdm.nd (JB zct (zb2 HQ)))
  (zad (BD zdm.nd (JB (zb2 HQ) (zb2 zj)))
  (zad (zd6 (JB (zb2 zj) (zb2 (OA zj))) (pg_two rfl (zaj (XI zdm.nd) (SX (VE zdm.nd)))))
  (zad (Z0 (Bp RZ) (zam 7 zdm.nd)
   (zad (zap 8 zdm.nd (XY (OA Lx) HQ))
   (zad (UR (LC RA Lx) (zbi (QR (zaa (LC RA AW) (A9 Rx Ox RA)))) rfl)
   (zag (UR (LC Rx Lx) (zbi (YJ (zaa (LC Rx Ox) (A9 RA AW Rx)))) rfl)))))
  (zad (UR RD (AK SH) rfl)
  (zad (UR TF (pe_rev rfl Hh au Hh sk Rx) rfl)
  (zag Oc))))))),?_⟩
 intro d hd
 have aA:(zs.map V.str).length=16:=by rw[Qa,bV]
 have k1:Keep [] H (ZS d (.dK [])):=Keep.new hd
 have g1:(ZS d (.dK [])) d=some (.dK []):=zab
 generalize ZS d (.dK [])=H1 at k1 g1
 have aE:=k1 _ _ hl Gf
 refine⟨xc,xc,xc,l,xc,Gs aE,λia hia=>?_⟩
 rw[zht C5,inn_cut Gg]
 have k2:Keep [] H1 (QJ ia (Gw ((BY m).map V.str))):=Keep.new hia
 have g2:(QJ ia (Gw ((BY m).map V.str))) ia=some (Gw ((BY m).map V.str)):=zab
 generalize QJ ia (Gw ((BY m).map V.str))=H2 at k2 g2
 have az:=k2 _ _ aE Gf
 have em:(2:Int)*(m:Int)=((2*m:Nat):Int):=by lia
 refine⟨xc,xc,xc,xc,_,xc,rfl,Rf ⟨Gg,Gg⟩,xc,l,xc,E3,λoa hoa=>?_⟩
 rw[em,cut_mid Gg C5,show 2*m-m=m by lia,out_cut Gg]
 have k3:Keep [] H2 (yX oa ((BZ m).map V.str)):=Keep.new hoa
 have g3:(yX oa ((BZ m).map V.str)) oa=some (Gw ((BZ m).map V.str)):=zab
 generalize QA oa (Gw ((BZ m).map V.str))=H3 at k3 g3
 have dU:=k3 _ _ az Gf
 refine⟨xc,xc,_,xc,rfl,Rf ⟨Gg,Gg⟩,xc,xc,_,xc,rfl,Rf ⟨Gg,Gg⟩,_,xc,rfl,xc,l,xc,Gs dU,λca hca=>?_⟩
 rw[em,show((2*m:Nat):Int)+2=((2*m+2:Nat):Int) by lia,cut_mid Gg C5,show 2*m+2-2*m=2 by lia,cap_cut Gg]
 refine⟨ca,_,xc,Th,_,xc,_,xc,rfl,?_⟩
 have k4:Keep [] H3 (WU ca (.lst [Hn (2*m),Hn (2*m+1)])):=Keep.new hca
 generalize WU ca (.lst [Hn (2*m),Hn (2*m+1)])=H4 at k4
 have gi:H4 ia=some (Gw ((BY m).map V.str)):=(Lu k4) _ _ g2 Gf
 have go:H4 oa=some (Gw ((BZ m).map V.str)):=k4 _ _ g3 Gf
 have fh:Keep [] H1 H4:=(S5 k3).trans k4
 have gd:H4 d=some (.dK []):=fh _ _ g1 Gf
 have T0:US H4 d 0 H4:=⟨[],⟨gd,λe he=>(by cases he),Zm⟩,rfl,Keep.refl⟩
 have nid:ia∉[d]:=by simpa using zat gi gd Gm
 have nod:oa∉[d]:=by simpa using zat go gd Gm
 refine⟨xc,(m:Int),rfl,Gg,Gg,?_⟩
 rw[Wx]
 refine zcw (lo:=0) (λi σ H'=>Aj2 (Ex2 λx7 x8=>σ=[EW,Gz (.int (m:Int)),Ta,Gh ia,Gh oa,SK (ZW (2*m)),SK (ZW (2*m+1)),x7,x8]) (US H4 d (2*i) H'))
  ⟨⟨_,_,rfl⟩,T0⟩ ?_ ?_
 ·rintro i σ H5 hi ⟨⟨x7,x8,rfl⟩,T5⟩
  have e0:(0:Int)+(i:Int)=(i:Int):=Int.zero_add _
  rw[e0]
  have eon:((i:Int)+1)%(m:Int)=((Hj%m:Nat):Int):=by simp
  have pS:Hj%m<m:=Dp Gg
  refine⟨xc,_,xc,rfl,xc,_,xc,rfl,(by show(0:Int)<m;lia),?_⟩
  rw[eon]
  have ri:=tr_inn hi
  have ro:=tr_out hi
  generalize(i+1)%m=on at pS ri ro
  have gi5:=FV gi nid
  have go5:=FV go nod
  refine⟨xc,xc,xc,_,xc,rfl,ia,_,_,xc,rfl,Gs gi5,at_rg' hi,xc,xc,oa,_,_,xc,rfl,Gs go5,yn,xc,xc,oa,_,_,xc,rfl,Gs go5,at_rg pS,xc,xc,ia,_,_,xc,rfl,Gs gi5,at_rg pS,(Gi 5),λa6 h6=>?_⟩
  have T6:US H4 d (2*i) (QU a6 (.lst [Hn (2*m),Hn (2*Vb i),Hn (2*i+1),Hn (2*on+1),Hn (2*on)])):=T5.k0 (Gx h6)
  have g6:(QU a6 (.lst [Hn (2*m),Hn (2*Vb i),Hn (2*i+1),Hn (2*on+1),Hn (2*on)])) a6=some (Gw (((JM (2*i)).map Og).map V.str)):=by rw[zab,ri];rfl
  generalize QU a6 (.lst [Hn (2*m),Hn (2*Vb i),Hn (2*i+1),Hn (2*on+1),Hn (2*on)])=H6 at T6 g6
  obtain⟨kv,dv,kl,T7⟩:=T6.put ay bV h7 Gg g6
  refine⟨xc,xc,xc,ia,_,_,xc,rfl,Gs (T6.kp _ _ gi nid),yn,d,xc,DPut.k (k:=Sum.inr (ZW (2*i))) dv Gg,?_⟩
  generalize YF d (Ek kv (2*i) a6)=H7 at T7
  have gi7:=FW gi nid
  have go7:=FW go nod
  refine⟨xc,xc,xc,oa,_,_,xc,rfl,Gs go7,at_rg pS,xc,xc,ia,_,_,xc,rfl,Gs gi7,yn,xc,xc,_,xc,rfl,ia,_,_,xc,rfl,Gs gi7,at_rg' hi,xc,xc,_,xc,rfl,oa,_,_,xc,rfl,Gs go7,at_rg' hi,(Gi 5),λa8 h8=>?_⟩
  have T8:US H4 d (2*i+1) (JD a8 (.lst [Hn (2*m+1),Hn (2*on+1),Hn (2*i),Hn (2*Vb i),Hn (2*Vb i+1)])):=T7.k0 (Gx h8)
  have g8:(JD a8 (.lst [Hn (2*m+1),Hn (2*on+1),Hn (2*i),Hn (2*Vb i),Hn (2*Vb i+1)])) a8=some (Gw (((JM (2*i+1)).map Og).map V.str)):=by rw[zab,ro];rfl
  generalize JD a8 (.lst [Hn (2*m+1),Hn (2*on+1),Hn (2*i),Hn (2*Vb i),Hn (2*Vb i+1)])=H8 at T8 g8
  obtain⟨kv8,uk,kl8,T9⟩:=T8.put ay bV h7 Gg g8
  refine⟨xc,xc,xc,oa,_,_,xc,rfl,Gs (T8.kp _ _ go nod),yn,d,xc,DPut.k (k:=Sum.inr (ZW (2*i+1))) uk Gg,?_⟩
  exact⟨⟨_,xc⟩,by rw[show 2*Hj=2*i+1+1 by lia];exact T9⟩
 ·rintro σ H5 ⟨⟨x7,x8,rfl⟩,T5⟩
  have rt:JM (2*m)=(Ro m).map (2*·):=by unfold trR;rw[if_neg Gg,if_pos rfl]
  have rg:JM (2*m+1)=((Ro m).map λk=>2*k+1).reverse:=by unfold trR;rw[if_neg Gg,if_neg Gg]
  refine⟨xc,ia,xc,Se (FV gi nid),λa6 h6=>?_⟩
  have T6:US H4 d (2*m) (QU a6 (Gw ((BY m).map V.str))):=T5.k0 (Gx h6)
  have g6:(QU a6 (Gw ((BY m).map V.str))) a6=some (Gw (((JM (2*m)).map Og).map V.str)):=by rw[zab,rt];unfold innP;rw[List.map_map,List.map_map,List.map_map];rfl
  generalize QU a6 (Gw ((BY m).map V.str))=H6 at T6 g6
  obtain⟨kv,dv,kl,T7⟩:=T6.put ay bV h7 Gg g6
  refine⟨xc,xc,d,xc,DPut.k (k:=Sum.inr (ZW (2*m))) dv Gg,?_⟩
  generalize YF d (Ek kv (2*m) a6)=H7 at T7
  refine⟨xc,oa,xc,Gs (FW go nod),λa8 h8=>?_⟩
  have T8:US H4 d (2*m+1) (JD a8 (.lst ((BZ m).map V.str).reverse)):=T7.k0 (Gx h8)
  have g8:(JD a8 (.lst ((BZ m).map V.str).reverse)) a8=some (Gw (((JM (2*m+1)).map Og).map V.str)):=by
   rw[zab,rg,Xh,Xh];unfold outP;rw[List.map_map,List.map_map,List.map_map];rfl
  generalize JD a8 (.lst ((BZ m).map V.str).reverse)=H8 at T8 g8
  obtain⟨kv8,uk,kl8,T9⟩:=T8.put ay bV h7 Gg g8
  refine⟨xc,xc,d,xc,DPut.k (k:=Sum.inr (ZW (2*m+1))) uk Gg,?_⟩
  generalize KO d (Ek kv8 (2*m+1) a8)=H9 at T9
  obtain⟨es,ra,rs,kp⟩:=T9
  have bB:es.length=2*m+2:=by
   have:=congrArg List.length rs
   unfold rsOf at this
   rw[Qa,Qa,Yj]at this;exact this
  refine⟨xc,kq d es H9 hd ⟨ra,?_,Gg⟩ (λx hx=>?_) λc o ec _=>kp c o (fh c o TH Gf) (by simpa using W1 hd)⟩
  ·rw [rs]
   exact tr_good h3 h7 λi j hi hj e=>nm_inj ay bV h7 hi hj e
  ·rw [← zbg,rs,Zj] at hx
   obtain⟨i,hi,rfl⟩:=Qh.mp hx
   have aK:=FU (Wh.mp hi)
   show zs.getD (Fc i) "" ∈ zs
   rw[Zd,Qd Gg]
   exact Qs _
end
abbrev sRounds:Stmt:=top 56
inductive IspRounds(K:Na)(vs:List V)(H:Hp)(Q:VK):Prop
 |mk (a:Nb) (ns:List Int) (mo:Nat) (h0:vs=[.ref a,.int (mo:Int)]) (h1:SqL K H a (ns.map V.int)) (h2:1≤mo) (h3:mo≤16)
  (h4:∀(d:Nb) (ag:List Ent) (H':Hp),H d=none→YV ag→(∀x∈ag.map (·.1),zcm x)→Keep [] H H'→Q Cf H'):FX Q
def spRounds(K:Na):Sp:=λvs H Q _=>FX Q
section
variable{P:Nk}{w:Nl}{K:Na}{mg:Nd}{base:No}
def zcy:zak [qS, "_law_most",qP,qN, "_law_way",qR, "_law_k"] [qS, "_law_most"] (zai sRounds):=fsk
def ok_rounds(F:QD "_law_rounds" "_law_rounds" sRounds f fd)(GP:ZK "_law_pot" ["_law_cell_here"] 1 spPot)(GC:ZK "_law_cell" [qS, "_law_k"] 1 z4)(GT:ZK "_law_take" [qP,qM] 1 zfl)(GN:ZK "_law_names" [qP,qM] 2 spNames)(GR:ZK "_law_two_rings" [qN,qM] 1 spRings)(GU:ZK "_law_untied" [qR,qP] 2 zgc)(GG:ZK "_law_grown" [qP,qN] 2 spGrown)(GX:ZK "_law_crossed" [qR,qP] 3 zgc)(GL:ZK "_law_filled" [qR] 3 spFilled)(aV:mg "range" = none):ZB 4 f fd [qS, "_law_most"] (spRounds K):=by
 refine F.okL zcy GQ
 obtain⟨a,ns,mo,rfl,hS,jI,bM,kq⟩:=h
 have ar:=sizeLine_eq
 have ai:BV _:=hr.mono Gj
 have bj:Mq _:=hr.mono Gj
 refine⟨_,zad (Mp zcy.nd (FY (Hz (LM GC ai Sk))))
  (zad (B8 zcy.nd (pcl GN bj (ZX Sk)))
  (zad (BD zcy.nd (QO (ZX Sk)))
  (zad (zby (Bj zah RE)
   (zad (Mm zcy.nd (pcl GR ai (QC (Hz (YC zah (QO (ZX Sk)))))))
   (zad (Z0 (Bp (NR zae)) (VE zcy.nd)
    (zag (zba (pcl GU bj (QR RV)))))
   (zag Oe))) zau)
  (zad (Mm zcy.nd (pcl GG bj (Ae (JU RA zct (zb2 (YC zah (QO (ZX RZ))))))))
  (zad (Z0 (Bp (NR zae)) (VE zcy.nd)
    (zag (zba (pcl GX hr (QR RV)))))
  (zad (OG (Bj zah RE) (zag (zba (pcl GL hr TZ))))
  (zag Oe))))))),?_⟩
 refine⟨xc,a,ns,0,rfl,hS,λc=>⟨c,rfl,λp b m H1 eU eT k1=>?_⟩⟩
 refine⟨xc,p,b,m,16,rfl,eT,Gj,λnl zs b2 m2 H2 ng bV lV lU br fnl k2=>?_⟩
 refine⟨xc,p,b2,m2,4,rfl,br,Gj,Gj,λwy b3 m3 H3 h30 h31 be lO=>?_⟩
 have k3:=zbd lO
 have nlp:nl≠p:=zdi br ng
 have mZ:=k3 _ _ ng EV
 have dw:Keep [] H H3:=λc o ec _=>by
  have ncp:c∉[p]:=by simpa using W1 eU
  exact k3 c o (k2 c o TH ncp) ncp
 have newp:∀{H4:Hp},Keep [p] H3 H4→Keep [] H H4:=λk c o ec _=>k c o (dw c o ec Gf) (by simpa using W1 eU)
 refine⟨xc,rfl,xc,?_⟩
 refine ite2 (λ_=>?_) (λ_=>?_)
 ·refine ⟨_,rfl,_,rfl,p,b3,m3,5,rfl,be,Gj,Gj,fun d4 b4 m4 H4 ke oI bq gP=>?_⟩
  obtain⟨j4,rfl⟩:=Zo ke
  have k4:=zbd gP
  have jE:=k4 _ _ mZ EV
  refine⟨_,xc,rfl,nl,zs,3+j4,rfl,jE,lV,bV,Gg,Gg,λd es H5 fd5 D5 nsub k5=>?_⟩
  have aP:=bq.keep k5 Gf
  have npd:p≠d:=zac bq.1 fd5
  refine⟨xc,p,b4,m4,5,rfl,aP,Gj,Gj,λd6 b6 m6 H6 h60 h61 bd qX=>?_⟩
  have k6:=zbd qX
  have D6:=D5.pot aP k6
  have iy:Keep [] H H6:=newp ((Lw Im).trans k6)
  have fd:H d=none:=zaz (newp k4) fd5 Gf
  refine⟨d6,rfl,Gg,Gg,?_⟩
  refine zcw (lo:=0) (λi σ H'=>Aj3 (Ex1 λx6=>σ=[Gh a,Gz (.int (mo:Int)),Ig,Gh nl,RJ wy,Ta,x6]) (Keep [d,p] H6 H') (Ex3 λ(ag:List Ent) (b' m':Int)=>W8 (ag.map (·.1)=es.map (·.1))))
   ⟨⟨_,rfl⟩,Keep.refl,es,b6,m6,D6,bd,rfl⟩ ?_ ?_
  ·rintro i σ H7 hi ⟨⟨x6,rfl⟩,k7,oM,b7,m7,D7,aS,n7⟩
   refine⟨xc,xc,p,d,b7,m7,oM,rfl,aS,D7,λb8 m8 cV H8 bG D8 n8 k8=>?_⟩
   exact⟨⟨xc⟩,k7.trans k8,cV,b8,m8,D8,bG,n8.trans n7⟩
  ·rintro σ H7 ⟨⟨x6,rfl⟩,k7,oM,b7,m7,D7,aS,n7⟩
   refine⟨xc,kq d oM H7 fd D7 (λx hx=>lU x (nsub x (n7▸hx))) λc o ec _=>k7 c o (iy c o ec Gf) ?_⟩
   simp
   exact⟨W1 fd,W1 eU⟩
 ·refine ⟨_,rfl,_,rfl,_,rfl,_,rfl,p,b3,m3,mo,rfl,be,Gg,Gg,fun d4 b4 m4 H4 ke oI bq gP=>?_⟩
  obtain⟨j4,rfl⟩:=Zo ke
  have k4:=zbd gP
  have jE:=k4 _ _ mZ EV
  refine⟨_,xc,rfl,xc,nl,xc,Gs jE,λl5 cF=>?_⟩
  have aA:(zs.map V.str).length=16:=by rw[Qa,bV]
  rw[show(1:Int)+(j4:Int)=((1+j4:Nat):Int) from rfl,zht C5,←Ut]
  have k5:Keep [] H4 (yU l5 ((Oh (1+j4)).map V.str)):=Keep.new cF
  have g5:(yU l5 ((Oh (1+j4)).map V.str)) l5=some (Gw ((Oh (1+j4)).map V.str)):=zab
  generalize QT l5 (Gw ((Oh (1+j4)).map V.str))=H5 at k5 g5
  have aP:=bq.keep k5 Gf
  refine⟨p,l5,b4,m4,Oh (1+j4),rfl,aP,g5,lV.sublist (Uo _ _),GK Zq,λd b6 m6 es H6 fd6 bd D6 n6 k6=>?_⟩
  have npd:p≠d:=zac aP.1 fd6
  have gv:Keep [] H H5:=newp (Lw Im)
  have fd:H d=none:=zaz gv fd6 Gf
  have iy:Keep [] H H6:=newp ((Lw Im).trans k6)
  refine⟨xc,p,b6,m6,25,rfl,bd,Gj,Gj,λd7 b7 m7 H7 qg qf aS lN=>?_⟩
  have k7:=zbd lN
  have D7:=FM k7
  have gR:Keep [] H H7:=λc o ec _=>k7 c o (iy c o ec Gf) (by simpa using W1 eU)
  refine⟨d7,rfl,Gg,Gg,?_⟩
  have fin:∀(ag:List Ent) (H':Hp),YV ag→ag.map (·.1)=es.map (·.1)→Keep [d,p] H7 H'→Q Cf H':=λag H' D' n' k'=>by
   refine kq d ag H' fd D' (λx hx=>lU x (Wv (n6▸n'▸hx))) λc o ec _=>k' c o (gR c o ec Gf) ?_
   simp
   exact⟨W1 fd,W1 eU⟩
  refine zcw (lo:=0) (λi σ H'=>Aj3 (Ex1 λx6=>σ=[Gh a,Gz (.int (mo:Int)),Ig,Gh nl,RJ wy,Ta,x6]) (Keep [d,p] H7 H') (Ex3 λ(ag:List Ent) (b' m':Int)=>W8 (ag.map (·.1)=es.map (·.1))))
   ⟨⟨_,rfl⟩,Keep.refl,es,b7,m7,D7,aS,rfl⟩ ?_ ?_
  ·rintro i σ H8 hi ⟨⟨x6,rfl⟩,k8,cV,b8,m8,D8,bG,n8⟩
   refine⟨xc,xc,p,d,b8,m8,cV,rfl,bG,D8,λb9 m9 ue H9 jA D9 n9 k9=>?_⟩
   exact⟨⟨xc⟩,k8.trans k9,ue,b9,m9,D9,jA,n9.trans n8⟩
  ·rintro σ H8 ⟨⟨x6,rfl⟩,k8,cV,b8,m8,D8,bG,n8⟩
   refine⟨xc,rfl,xc,?_⟩
   refine ite2 (λ_=>?_) (λ_=>?_)
   ·refine⟨xc,d,cV,rfl,D8,λue H9 D9 n9 k9=>⟨_,rfl,fin ue H9 D9 (n9.trans n8) (k8.trans CL)⟩⟩
   ·exact⟨xc,fin cV H8 D8 n8 k8⟩
end
abbrev sRows:Stmt:=top 57
def zjg(hK:X.K=K):Y4 (.type "list") (λxs H Q=>Ex2 λp ys=>Aj3 (xs=[Sv]) ((YY p ys)∨( SqT K H p ys)) (∀l,H l=none→Q RH (EX TX))):=hK▸zc0
inductive IspRows(vs:List V)(H:Hp)(Q:VK):Prop
 |mk (d:Nb) (es:List Ent) (h0:vs=[.ref d]) (h2:DrE H d es)
  (h3:∀(l:Nb) (as:Nn) (am:List Ent) (H':Hp),ND am→rsOf am=rsOf es→H l=none→Keep [] H H'→Q RH H'):IspRows vs H Q
def spRows:Sp:=λvs H Q _=>IspRows vs H Q
section
variable{P:Nk}{w:Nl}{K:Na}{mg:Nd}{base:No}
def scRows:zak [qR] [qR] (zai sRows):=fsk
def ok_rows(F:QD "_law_rows" "_law_rows" sRows f fd)(au:mg "list" = none):ZB 1 f fd [qR] spRows:=by
 refine F.okL scRows Gn
 obtain⟨d,es,rfl,D0,kq⟩:=h
 have R:=D0.ra
 have aN:=D0.few
 have hu:=zcd hr
 have ar:=sizeLine_eq
 refine⟨_,zag (zax (pe_thaw (zgi (M:=["_law_place",qR]) (ix:=[none,Gz 0]) (mkB scRows) rfl EQ (λC a5 ex s H=>JA ndCr)
    (λC a5 ex s H=>zc2) (λC a5 ex s H=>zbo (ZQ (LA (zbr (zjg (K:=K) rfl) Hh (by exact au) Wj (Hz (zq (by exact hu) (pv 1)))))))))),?_⟩
 have nfz:∀o' u',H d≠some Ss:=λo' u' z=>by rw[R.dc]at z;cases z
 have aA:(eWV es).length=es.length:=Qa ..
 refine⟨_,rfl,d,_,rfl,R.dc,λo=>⟨λi m ys τ H'=>Ex2 λ(as:Nn) (am:List Ent)=>Aj9 (m=es.length-i) (i≤es.length) (ys=as.map V.ref) (Ex1 λx=>τ=[x,Ta]) (H' d=some ER) Cj (∀e∈am,H' e.2.2=some HU) (rsOf am=rsOf (LX i)) (Keep [d] H H'),
  ⟨es.length,[],[],Gf,RP,rfl,⟨none,rfl⟩,zab,.nil,λe he=>(by cases he),rfl,L7⟩,?_⟩⟩
 rintro i m1 ys τ H1 ⟨as,am,rfl,hi,rfl,⟨x0,rfl⟩,hz,aJ,gC,bi,k1⟩
 have f7:am.length=i:=by
  have:=congrArg List.length bi
  unfold rsOf at this
  rw[Qa,Qa,Zq]at this;lia
 have bo:as.length=i:=by rw[Zy aJ,f7]
 by_cases ad:i<es.length
 ·refine .inr ⟨⟨hz,by rw [aA];exact ad⟩,by rw [Qa];lia,?_⟩
  rintro x H' ⟨rfl,pr,e1,rfl⟩
  have g1:pr=((Sum.inr es[i].1:Key),V.ref es[i].2.2):=by
   rw[Qo,Qd ad]at e1
   exact(Qn e1).symm
  subst g1
  have aT:es[i]∈es:=Qs ad
  have tk:es.take Hj=es.take i++[es[i]]:=Ql ad
  generalize es[i]=e at aT tk
  have eR:=NB aT
  have ba:=k1 _ _ eR (by simpa using zat eR R.dc Gm)
  refine⟨Rb,rfl,xc,Rb,rfl,d,Tg,rfl,Rf ⟨_,Sum.inr e.1,OS ⟨o,hz⟩,rfl,(zb6 R.nd aT).symm⟩,e.2.2,xc,Se ba,λq hq=>⟨Sh,λt ht=>?_⟩⟩
  have k2:Keep [] H' (WI (.tup [Rb,Go q])):=(Gx hq).trans Tq
  have c7:(WI (.tup [Rb,Go q])) t=some (.tup [Rb,Go q]):=zab
  have bY:(WI (.tup [Rb,Go q])) q=some HU:=by rw[zaf (zac (o:=_) zab ht)];exact zab
  generalize WI (.tup [Rb,Go q])=H2 at k2 c7 bY
  refine⟨_,Ha,as++[t],am++[(e.1,e.2.1,q)],rfl,ad,by rw[Qp];rfl,⟨xc⟩,Ix hz,zav (Paired.imp' (λa p h=>k2 _ _ h Gf) aJ) (Rk c7),λe' aU=>?_,?_,SQ (k2.sub Gf)⟩
  ·rcases Qk.mp aU with z | z
   ·exact k2 _ _ (gC e' z) Gf
   ·rw[Qc.mp z];exact bY
  ·rw [tk]
   unfold rsOf at bi ⊢
   rw[Qp,Qp,bi];rfl
 ·have cp:i=es.length:=by exact zar3 ‹_› ‹_›
  subst cp
  refine .inl ⟨⟨hz,Hx aA⟩,λD hD=>?_⟩
  rw[Qt GV]at bi
  have ndD:d≠D:=Mo hD
  refine⟨d,o,_,AQ,nfz,?_⟩
  have tk:∀{c:Nb} {u:HO},H1 c=some u→c≠d→(upd (QJ D HW) d G') c=some u:=λh n=>by rw[zaf n,zaf (zac h hD)];exact h
  have lf:H D=none:=zaz k1 hD (by simpa using Zk ndD)
  refine kq D as am _ ⟨P5 ndD zab,Paired.imp' (λa e h=>tk h z9) aJ,λe he=>tk (gC e he) (zat (gC e he) hz Gm)⟩ bi lf λc u ec _=>?_
  by_cases aD:c=d
  ·subst aD
   rw[zab,←R.dc];exact ec
  ·exact tk (k1 c u ec (Gk aD)) aD
end
end K21
end
section
namespace L2
open PySem PySem.Spec PyProof.Rows
section
variable{prog:Nk}{w:Nl}
end
section
variable{X:Cx}{i o:Expr}{ty td:TE}
end
end L2
namespace L2
end L2
namespace K21
open PySem L2 Wb
structure HAt(H:Hp)(u:Nb)(hs:List (Str×Int)):Prop where
 dc:H u=some (.dK (hs.map λe=>Gu))
 nd:(hs.map (·.1)).Nodup
def zh2{hs:List Hi}{x:Str}(h:x∉hs.map (·.1)):valV (hs.map λe=>Gu) CY=none:=by
 induction hs with
 |nil=>rfl
 |cons a t ih =>
  rw[Qm,Qf,not_or]at h
  rw[Qm,zbm]
  ·exact ih h.2
  ·intro q;exact h.1 (Wd q).symm
def zeb{hs:List Hi}(nd:(hs.map (·.1)).Nodup){e:Str×Int}(h:e∈hs):valV (hs.map fun e=>Gu) RO=some (.int e.2):=by
 induction hs with
 |nil=>cases h
 | cons a t ih =>
  rw[Qm,Qr]at nd
  rw[Qm]
  rcases Qf.mp h with z | z
  ·subst z;exact zcg rfl
  ·rw [zbm]
   ·exact ih nd.2 z
   ·intro q
    exact nd.1 (by rw[Wd q];exact Qh.mpr ⟨e,z,rfl⟩)
def HAt.keep{H H':Hp}{u:Nb}{hs:List Hi}{xs:Nn}(h:HAt H u hs)(k:W3 H')(hu:u∉xs):Mt u hs:=⟨k _ _ h.dc hu,h.nd⟩
def hueV(hs:List Hi)(z:Str):V:=(valV (hs.map λe=>Gu) OU).getD .non
def HAt.new{H:Hp}{u:Nb}{hs:List Hi}(h:HAt H u hs){x:Str}(v:Int)(hx:x∉hs.map (·.1)):HAt (ZS u (.dK (putK (hs.map λe=>Gu) CY (Ht v)))) u (hs++[(x,v)]):=by
 refine⟨by rw[zab,Fj (zh2 hx),Qp];rfl,?_⟩
 rw[Qp,Zc]
 refine⟨h.nd,Cr ⟨Gf,Zm⟩,λy hy z hz e=>?_⟩
 have eM:z=x:=by simpa using hz
 exact hx (by rw[←eM,←e];exact hy)
end K21
namespace K21
open PySem L2 Wb
inductive IspPieceL(vs:List V)(H:Hp)(Q:VK):Prop
 |mk (d:Nb) (es:List Ent) (x:Str) (h0:vs=[.ref d,.str x]) (h1:RAt H d es) (h2:es.length≤60) (h3:∀z y,y∈row (rsOf es) z→y∈es.map (·.1)) (h4:x∈es.map (·.1)) (h5:∀(l:Nb) (zs:Ng) (H':Hp),H' l=some (.lst (zs.map V.str))→zs.Nodup→zs.Pairwise leS→(∀y,y∈zs↔Conn (row (rsOf es)) x y)→H l=none→Keep [] H H'→Q (.ref l) H'):IspPieceL vs H Q
def spPieceL:Sp:=λvs H Q _=>IspPieceL vs H Q
section
variable{P:Nk}{w:Nl}{K:Na}{mg:Nd}{base:No}
def ok_pieceL(F:QD "piece_from" "piece_from" zhf f fd)(aR:mg "sorted" = none):ZB 1 f fd ["rounds", "start"] spPieceL :=
 (ok_pieceG false F aR).imp λvs H Q E ⟨d,es,x,e,T,r1,r2,r3,r4⟩=>⟨d,es,x,e,⟨T.dc,T.ro,T.nd⟩,r1,r2,r3,r4⟩
end
end K21
namespace K21
open PySem L2 Wb
structure HF(H:Hp)(u:Nb)(hs:List (Str×Int)):Prop where
 dc:H u=some (.dK (hs.map λe=>Gu))∨∃o,H u=some (.frz o (.dK (hs.map λe=>Gu)))
 nd:(hs.map (·.1)).Nodup
def HF.get(h:HF H u hs)(k:Key):BT u (kV k) (valV (hs.map λe=>Gu) k):=.inl ⟨_,k,h.dc,rfl,rfl⟩
def HF.keep(h:HF H u hs)(k:Keep [] H H'):HF H' u hs:=⟨h.dc.imp (λe=>k _ _ e Gf) λ⟨o,e⟩=>⟨o,Ij e⟩,h.nd⟩
def tw(hs:List Hi)(h0 o:Int)(y:Str):Bool:=inV (hueV hs y) [Sy h0,Sy o]
def r2(es:List Ent)(hs:List Hi)(h0 o:Int)(z:Str):List Str:=(ZJ z).filter (Vc o)
end K21
namespace L2
open PySem PySem.Spec PyProof.Rows
def pi_lstK{X:Cx}{K:Na}{tg l:Expr}{tl:TE}(hK:X.K=K)(hl:Ov):UU l (iList K tl):=hK▸zao hl
def or_no{t u:TT}{A B:TS}{D:Ends}{σ:St}{H:Hp}(ht:∀k:Bool→Hp→Prop,k false H→t σ H k)(hu:∀k:Bool→Hp→Prop,k false H→u σ H k)(q:B D σ H):tIfS (tOr t u) A B D σ H :=
 ht _ (by
  show if(false=true) then _ else u σ H (λb H1=>if b=true then A D σ H1 else B D σ H1)
  exact iteF (hu _ (iteF q)))
end L2
namespace K21
open PySem L2 Wb
abbrev zia:Stmt:=NC 2
abbrev zhg:Stmt:=top 17
def vltOf:Expr→Expr
 |.DictComp _ e _ _ _=>e
 |e=>e
def valH_is(hs:List Hi)(z:Str):valV (hs.map λe=>Gu) OU=none∨∃n,valV (hs.map λe=>Gu) OU=some (Ht n):=by
 induction hs with
 |nil=>exact .inl rfl
 |cons a t ih =>
  rw[Qm]
  by_cases h:a.1=z
  ·rw[h,zcg rfl];exact .inr ⟨_,rfl⟩
  ·rw[zbm (λq=>h Pb)];exact ih
def conn_two{es fs:List Ent}{hs:List Hi}{h o:Int}{s:Str}{ws:Ng}(gA:ws=(es.map (·.1)).filter (tw hs h o))(gl:∀ z y,y∈ZJ z→y∈es.map (·.1))(ar:s∈ws)(hf:∀z,row (S2 fs) z=if z∈ws then(ZJ z).filter λy=>decide (y∈ws) else[])(y:Str):Conn (LH fs) s y↔N3 y:=by
 constructor
 ·intro c
  induction c with
  |refl=>exact .refl
  | @step z y _ hz ih =>
   rw[hf]at hz
   split at hz
   ·have:=Zg.mp hz
    have hy:=of_decide_eq_true this.2
    rw[gA]at hy
    exact .step ih (Zg.mpr ⟨this.1,(IU hy).2⟩)
   ·cases hz
 ·intro c
  suffices Conn (LH fs) s y∧y∈ws from this.1
  induction c with
  |refl=>exact⟨.refl,ar⟩
  |@step z y _ hz ih =>
   have:=Zg.mp hz
   have hy:y∈ws:=by rw[gA];exact Zg.mpr ⟨gl z y this.1,this.2⟩
   exact⟨.step ih.1 (by rw[hf,if_pos ih.2];exact Zg.mpr ⟨this.1,HJ hy⟩),hy⟩
inductive zhx(C:Nb)(vs:List V)(H:Hp)(Q:VK):Prop
 |mk (x dx d:Nb) (es:List Ent) (e:Ent) (h0:vs=[.ref x,.str e.1]) (h1:WAt H C x dx d es) (h2:e∈es) (h3:∀l,H l=none→Q (.ref l) (upd H l (.lst (e.2.1.map V.str)))):zhx C vs H Q
def zc6(C:Nb):Sp:=λvs H Q _=>zhx C vs H Q
inductive IspChain(C:Nb)(vs:List V)(H:Hp)(Q:VK):Prop
 |mk (x dx d u:Nb) (es:List Ent) (hs:List (Str×Int)) (s:Str) (h o:Int) (h0:vs=[.ref x,.ref u,.str s,.int o]) (h1:WAt H C x dx d es) (h2:es.length≤40) (h2':∀e∈es,e.2.1.length≤100) (h3:∀z y,y∈row (rsOf es) z→y∈es.map (·.1)) (h4:HF H u hs) (h5:(s,h)∈hs) (h6:s∈es.map (·.1)) (h8:o≠h) (h9:0≤o)
  (h7:∀(l:Nb) (zs:Ng) (H':Hp),H' l=some Cg→zs.Nodup→zs.Pairwise leS→(∀y,y∈zs↔N3 y)→H l=none→Keep [] H H'→Q RH H'):IspChain C vs H Q
def spChain(C:Nb):Sp:=λvs H Q _=>IspChain C vs H Q
def ndA:(["place", "hues", "two"]:List Str).Nodup:=by decide +kernel
abbrev csB:Scope:=scOf yY
def ndB:(["place", "web", "within"]:List Str).Nodup:=by decide +kernel
abbrev csD:Scope:=scOf (vltOf yY)
def csD_f{env:Env}(h:env.scope=zai zhg):∀y∈csD.names,y.2=.free→(EY csB).names.lookup y.1=some .cell∨(EY csB).names.lookup y.1=some .free:=by
 unfold relabel Env.kindOf
 rw[h]
 decide +kernel
def csD_l:csD.names.lookup ("within" : Str)=some NameKind.free:=by decide +kernel
def ndD:(["beside", "within"]:List Str).Nodup:=by decide +kernel
section
variable{P:Nk}{w:Nl}{K:Na}{mg:Nd}{base:No}
def scRoundOf:zak ["self", "place"] ["self", "place"] (zai zia):=fsk
def ok_roundof(F:QD "round_of" "Web.round_of" zia f fd)(cW:VB C)(nW:M6 "rounds")(au:mg "list" = none):ZB 1 f fd ["self", "place"] IN:=by
 refine F.okL scRoundOf Gn
 obtain⟨x,dx,d,es,e,rfl,wt,he,k⟩:=h
 have hu:=zcd hr
 refine⟨_,zad (SM (PN HQ zi))
  (zag (zax (AK (Hz (Mn zi Ee))))),?_⟩
 have g:=DGet.k (k:=Sum.inr e.1) wt.ta.dc
 rw[zb6 wt.ta.nd he]at g
 refine⟨xc,xc,x,C,dx,_,xc,wt.ob,cW,nW,rfl,d,xc,g,xc,W0 ?_⟩
 exact⟨xc,x,C,dx,_,xc,wt.ob,cW,nW,rfl,xc,d,xc,g,e.2.2,xc,RG (Hy (wt.ta.ro e he)),k⟩
def ze7:zak ["web", "hues", "start", "other", "two", "within", "rounds"] ["web", "hues", "start", "other"] (zai zhg):=fsk
def ok_chain(F:QD "chain" "chain" zhg f fd)(cW:VB C)(nW:M6 "rounds")(mP:BP "places" fp)(bP:WK fdp ["self"] [])(GP:ZB 1 fp fdp ["self"] yM)(mR:BP "round_of" fr)(bR:WK fdr ["self", "place"] [])(GR:ZB 1 fr fdr ["self", "place"] IN)(GF:ZK "piece_from" ["rounds", "start"] 1 spPieceL) :
  FnOk P w K mg base CX0 2 f fd ["web", "hues", "start", "other"] (spChain C):=by
 refine F.okL ze7 GQ
 obtain⟨x,dx,d,u,es,hs,s,h0,o,rfl,wt,aN,bp,gl,hh,rW,kR,hoh,ho,k⟩:=h
 have hu:=zcd hr
 have ai:BV _:=hr.mono Gj
 have ar  := sizeLine_eq
 refine⟨_,zad (SM (PW.pt (pw_or (PN Rz HQ) (pw_or1 (PN Rz zi)))))
  (zad (SM (PW.pt (pw_or (zar zil RA (Mn HQ Rz) RE) (pw_or1 (FE RA zah RE)))))
  (zad (zhh (i:=4) ze7.nd rfl Tz (zbo (zaa (Mn HQ Rz) SH)))
  (zad (zhh (i:=5) ze7.nd rfl Tz (zgi (M:=["place", "hues", "two"]) (ix:=[none,Gz 1,Gz 4]) (mkB ze7) rfl (Iw (zij (pl:=_) Rj cW mP GP ai bP .nil zcq)) (λC a5 ex s H=>JA ndA)
      (λC a5 ex s H=>zcs (PW.pt (pw_and (Ic (by exact hu) Rj) (zig (zar (zfb (K:=K) rfl) (zq (by exact hu) HQ) Rz rfl))))) (λC a5 ex s H=>pv 0)))
  (zad (ps_dc (i:=6) (M:=["place", "web", "within"]) (ix:=[none,Gz 0,Gz 5]) ze7.nd rfl rfl (mkB ze7) rfl (Iw RD) (fun C a5 ex s H=>JA ndB)
      (λC a5 ex s H=>zc2) (λC a5 ex s H=>pv 0)
      (fun C a5 ex s H=>zgi (M:=["beside", "within"]) (ix:=[none,Gz 2]) ⟨by rfl,by decide +kernel,by decide +kernel,csD_f rfl,rfl,ndD,fun j i x h1 h2=>by
       match j,h1,h2 with
       |0,_,h2=>cases h2
       |1,h1,h2=>cases h1;cases h2;exact⟨rfl,csD_l⟩
       |n+2,h1,_=>cases h1⟩ rfl (pi_lstK (K:=K) rfl (ze8 (pl:=_) HQ cW mR GR (by exact ai) bR .nil zcq Sj)) (λC a5 ex s H=>JA ndD)
       (λC a5 ex s H=>zcs (zar (zfb (K:=K) rfl) Rj HQ rfl)) (λC a5 ex s H=>pv 0)) rfl)
  (zag (zax (pcl GF ai (YJ RV)))))))),?_⟩
 have ay:=wt.ta.nd
 obtain⟨en,bB,tK⟩:=Qh.mp kR
 have o7:en.1=s:=tK
 have dA:valV (hs.map λe=>Gu) (RY s)=some O8:=Vx rW
 have g1:∀{H':Hp},HF H' u hs→DGet H' u (RN s) (RJ h0):=λ{H'} hh'=>by
  have:=hh'.get (RY s)
  rwa[dA]at this
 have g2:BT d (RN s) Eg:=by
  have:=DGet.k (k:=Sum.inr en.1) wt.ta.dc
  rw[zb6 ay bB,o7]at this
  exact this
 have rL:Vc o s=true:=by
  unfold tw hueV
  rw[dA]
  show(_||_)=true
  rw[Kk]
  exact .inl (CM h0)
 refine or_no (λk hk=>⟨_,rfl,_,rfl,u,_,rfl,g1 hh,_,rfl,hk⟩) (λk hk=>⟨_,rfl,_,rfl,x,C,dx,_,_,rfl,wt.ob,cW,nW,rfl,d,_,rfl,g2,_,rfl,hk⟩) ?_
 dsimp only[tNext]
 refine or_no (λk hk=>⟨_,rfl,_,rfl,_,rfl,u,_,rfl,g1 hh,rfl,_,rfl,?_⟩) (λk hk=>⟨_,rfl,_,_,rfl,rfl,_,rfl,?_⟩) ?_
 ·rw[decide_eq_false (λe=>hoh (by injection e))];exact hk
 ·rw[decide_eq_false Gg];exact hk
 refine⟨xc,xc,u,xc,g1 hh,xc,Sh,λtp jh=>?_⟩
 have k1:Keep [] H (ZS tp (.tup [O8,yo])):=Keep.new jh
 have dG:(ZS tp (.tup [O8,yo])) tp=some (.tup [O8,yo]):=zab
 generalize ZS tp (.tup [O8,yo])=H1 at k1 dG
 have qz:∀{H':Hp},Keep [] H H'→Q4 d es:=λkk=>wt.keep kk Gf Gf λ_ _=>by simp
 refine⟨xc,x,dx,xc,(qz k1).ob,rfl,x,dx,d,es,rfl,qz k1,λpl aO=>⟨pl,rfl,⟨_,Th⟩,?_⟩⟩
 have k2:Keep [] H (QJ pl Gr):=k1.trans (Gx aO)
 have mK:(QJ pl Gr) pl=some Gr:=zab
 have c7:(QJ pl Gr) tp=some (.tup [O8,yo]):=by rw[zaf (zac dG aO)];exact dG
 generalize QJ pl Gr=H2 at k2 mK c7
 have tt:HF H2 u hs:=hh.keep k2
 refine zfd (xs:=(es.map (·.1)).map V.str) (λ τ=>∃x0,τ=[x0,some (.ref u),some (.ref tp)]) (λv=>match v with | .str z=>tw hs h0 o z | _=>false) (SqL.of mK) (by rw[Qa,Qa];lia) ⟨none,rfl⟩ ?_ (λwi hwi=>?_)
 ·rintro v hv τ ⟨x0,rfl⟩ q1 q0 h1 qj
  obtain⟨z,hz,rfl⟩:=Qh.mp hv
  have gz:=tt.get OU
  refine⟨xc,xc,u,xc,gz,xc,?_⟩
  rcases valH_is hs z with hn | ⟨n,hn⟩
  ·rw [hn]
   exact iteF (iteF (qj (by show Vc o z=false;unfold tw hueV;rw[hn];rfl) _ ⟨_,rfl⟩))
  ·rw [hn] at gz ⊢
   refine iteT ⟨_,rfl,_,rfl,u,_,rfl,gz,_,rfl,tp,_,rfl,RG (Hy c7),rfl,rfl,_,rfl,?_⟩
   have e2:(if false=true then !inV (Ht n) [O8,yo] else inV (Ht n) [O8,yo])=Vc o z:=by unfold tw hueV;rw[hn];rfl
   rw[e2]
   cases htw:Vc o z with
   |false=>exact iteF (qj htw _ ⟨_,rfl⟩)
   |true=>exact iteT ⟨_,rfl,h1 htw _ ⟨_,rfl⟩⟩
 have ew:((es.map (·.1)).map V.str).filter (λv=>match v with | .str z=>tw hs h0 o z | _=>false)=((es.map (·.1)).filter (tw hs h0 o)).map V.str:=Jn
 rw[ew]
 obtain⟨ws,gA⟩:∃ws,ws=(es.map (·.1)).filter (Vc o):=⟨_,rfl⟩
 rw[←gA]
 have dy:ws.Nodup:=gA▸Yy Jj ay
 have hwe:∀z∈ws,z∈es.map (·.1):=λz hz=>by rw[gA]at hz;exact(IU hz).1
 have dz:ws.length≤es.length:=by
  have:=zck dy hwe
  rwa[Qa]at this
 have kQ:s∈ws:=by rw[gA];exact Zg.mpr ⟨kR,rL⟩
 have k3:Keep [] H (QA wi Re):=k2.trans (Gx hwi)
 have jd:(QA wi Re) wi=some Re:=zab
 generalize QA wi Re=H3 at k3 jd
 refine⟨xc,wi,rfl,⟨_,Gs jd⟩,?_⟩
 refine⟨λi m ys τ H'=>Aj5 (m=ws.length-i) (i≤ws.length) (∃x0,τ=[x0,Ih,Gh wi]) (Keep [] H3 H') (Ex1 λ(fs:List Ent)=>Aj4 (ys=eWV fs) (rsOf fs=(ws.take i).map λz=>(z,(ZJ z).filter λy=>decide (y∈ws))) (∀e∈fs,H' e.2.2=some HU) (∀e∈fs,H3 e.2.2=none)),
  ⟨_,rfl,RP,⟨none,rfl⟩,λ_ _ e _=>e,[],rfl,rfl,λe he=>(by cases he),λe he=>(by cases he)⟩,?_⟩
 rintro i m ys τ H4 ⟨rfl,hi,⟨x0,rfl⟩,k4,fs,rfl,bi,cc,lf⟩
 have iI:fs.map (·.1)=ws.take i:=by
  rw[←zbg,bi,Zj]
  exact List.map_id _
 have ic:fs.length=i:=by
  have:=congrArg List.length iI
  rw[Qa,Zq]at this;lia
 have gW:=k4 _ _ jd Gf
 by_cases ad:i<ws.length
 ·refine .inr ⟨⟨_,_,Gs gW,by rw [Qo,Qd ad];rfl⟩,by rw [Qa,ic];lia,?_⟩
  rintro v H4 ⟨rfl,hv⟩
  have aY:=hv _ (Gs gW)
  rw[Qo,Qd ad]at aY
  have rJ:v=.str ws[i]:=(Qn aY).symm
  subst rJ
  have hzw:ws[i]∈ws:=Qs ad
  obtain⟨e,he,q5⟩:=Qh.mp (hwe _ hzw)
  have o4:e.1=ws[i]:=q5
  have w4:=qz (Lu k4)
  have tk:ws.take Hj=ws.take i++[ws[i]]:=Ql ad
  have hzf:ws[i]∉fs.map (·.1):=by
   rw[iI]
   have:(ws.take Hj).Nodup:=VD dy
   rw[tk,Zc]at this
   exact λz=>this.2.2 _ z _ RU rfl
  have dL:ZJ ws[i]=e.2.1:=by rw[←o4];exact zaw ay he
  have f7:=bp e he
  refine⟨xc,xc,x,dx,xc,w4.ob,rfl,xc,x,dx,d,es,e,by rw[o4];rfl,w4,he,λl hl=>⟨l,rfl,⟨_,Th⟩,?_⟩⟩
  have k5:Keep [] H4 (QT l HU):=Keep.new hl
  have cF:(QT l HU) l=some HU:=zab
  generalize QT l HU=H5 at k5 cF
  have rF:=k5 _ _ gW Gf
  refine zfd (xs:=e.2.1.map V.str) (λ τ=>∃x0,τ=[x0,some (.ref wi)]) (λv=>match v with | .str z=>decide (z∈ws) | _=>false) (SqL.of cF) (by rw[Qa];lia) ⟨none,rfl⟩ ?_ (λq hq=>?_)
  ·rintro v hv τ ⟨x0,rfl⟩ q1 q0 h1 qj
   obtain⟨z,hz,rfl⟩:=Qh.mp hv
   refine⟨xc,xc,wi,xc,Se rF,rfl,zcl _,xc,?_⟩
   have e2:(if false=true then !inV E9 (ws.map V.str) else inV E9 (ws.map V.str))=decide (z∈ws):=zfg
   rw[e2]
   cases hb:decide (z∈ws) with
   |false=>exact iteF (qj hb _ ⟨_,rfl⟩)
   |true=>exact iteT ⟨_,rfl,h1 hb _ ⟨_,rfl⟩⟩
  ·have eq:(e.2.1.map V.str).filter (fun v=>match v with | .str z=>decide (z∈ws) | _=>false)=(e.2.1.filter fun z=>decide (z∈ws)).map V.str:=Jn
   rw[eq]
   refine⟨Sum.inr ws[i],rfl,ws.length-Hj,Gg,rfl,ad,⟨xc⟩,(Lw k5).trans CO,fs++[(ws[i],e.2.1.filter λz=>decide (z∈ws),q)],put_new (r:=e.2.1.filter λz=>decide (z∈ws)) hzf,?_,λe' aU=>?_,λe' aU=>?_⟩
   ·rw [tk,Qp,← bi,← dL]
    unfold rsOf
    rw[Qp];rfl
   ·rcases Qk.mp aU with z | z
    ·have:=k5 _ _ (cc e' z) Gf
     rw[zaf (zac this hq)];exact this
    ·rw[Qc.mp z];exact zab
   ·rcases Qk.mp aU with z | z
    ·exact lf e' z
    ·rw[Qc.mp z];exact zaz (Lw k5) hq Gf
 ·have e:i=ws.length:=by lia
  subst e
  rw[Qt GV]at bi iI
  refine .inl ⟨⟨_,Gs gW,Hx Qa⟩,λdd gF=>?_⟩
  have RF:RAt (QT dd (CJ fs)) dd fs:=⟨zab,λe he=>by rw[zaf (zac (cc e he) gF)];exact cc e he,Gp iI dy⟩
  have kf:Keep [] H (QT dd (CJ fs)):=(Lu k4).trans (Gx gF)
  generalize QT dd (CJ fs)=H6 at RF kf
  have hfz:∀z,row (S2 fs) z=if z∈ws then(ZJ z).filter λy=>decide (y∈ws) else[]:=λz=>by
   by_cases hz:z∈ws
   ·rw [Rv hz]
    have hmem:(z,(ZJ z).filter λy=>decide (y∈ws))∈rsOf fs:=by rw[bi];exact Qh.mpr ⟨z,hz,rfl⟩
    exact zfn (p:=(z,(ZJ z).filter λy=>decide (y∈ws))) (by rw[zbg,iI];exact dy) hmem
   ·rw [Rm hz]
    exact zgf (by rw[zbg,iI];exact hz)
  refine⟨xc,xc,dd,fs,s,rfl,RF,Gg,λz y hy=>?_,Gp iI kQ,λl zs H7 bz cY cx cz fl k7=>k l zs H7 bz cY cx (λy=>(cz y).trans (conn_two gA gl kQ hfz y)) (zu kf fl) (kf.trans k7)⟩
  rw[hfz]at hy
  split at hy
  ·rw[iI];exact of_decide_eq_true (IU hy).2
  ·cases hy
end
end K21
namespace K21
open PySem L2 Wb
abbrev sExIn:Stmt:=top 18
def ex(zs:Ng)(a b:Int)(hs:List Hi):List Hi:=hs.map λe=>(e.1,if e.1∈zs then(if e.2=a then b else a) else e.2)
def ex_keys(zs:Ng)(a b:Int)(hs:List Hi):(FZ hs).map (·.1)=hs.map (·.1):=by
 unfold ex;rw[List.map_map];rfl
def ex_nil(a b:Int)(hs:List Hi):ex [] a b hs=hs:=by
 unfold ex
 rw[Zz (g:=id) λe _=>by simp]
 exact List.map_id _
def ex_put(nd:(hs.map (·.1)).Nodup)(he:e∈hs) :
  putK ((FZ hs).map λe=>Gu) RO (Ht (if e.2=a then b else a))=(ex (zs++[e.1]) a b hs).map λe=>Gu:=by
 unfold putK
 rw[if_pos]
 ·unfold ex
  rw[Zj,Zj,Zj]
  refine Zz λq hq=>?_
  show(if(Sum.inr q.1:Key)=Sum.inr e.1 then((Sum.inr q.1:Key),Sy (if e.2=a then b else a)) else(yj,Sy (if q.1∈zs then(if q.2=a then b else a) else q.2)))=(yj,Sy (if q.1∈zs++[e.1] then(if q.2=a then b else a) else q.2))
  by_cases h:q.1=e.1
  ·have hqe:q=e:=by
    obtain⟨i,hi,rfl⟩:=Zr hq
    obtain⟨j,hj,rfl⟩:=Zr he
    have:i=j:=(Wa (h₀:=by rw[Qa];exact hi) (h₁:=by rw[Qa];exact hj) nd).mp (by rw[Zl,Zl];exact h)
    subst this;rfl
   subst hqe
   rw[if_pos rfl,if_pos C4]
  ·rw [if_neg fun z=>h (Wd z)]
   by_cases hz:q.1∈zs
   ·rw[if_pos hz,if_pos (YG hz)]
   ·rw[if_neg hz,if_neg λz=>by
     rcases Qk.mp z with y | y
     ·exact hz y
     ·exact h (LU y)]
 ·rw [Yb]
  unfold ex
  rw[Zj]
  exact⟨_,Ts ⟨e,he,rfl⟩,Gf⟩
inductive IspExIn(vs:List V)(H:Hp)(Q:VK):Prop
 |mk (u l:Nb) (hs:List (Str×Int)) (zs:Ng) (a b:Int) (h0:vs=[.ref u,.ref l,.int a,.int b]) (h1:HF H u hs) (h2:H l=some (.lst (zs.map V.str))) (h3:∀z∈zs,z∈hs.map (·.1)) (h3':hs.length≤40)
  (h4:∀(t:Nb) (H':Hp),H t=none→Mt t (FZ hs)→Keep [] H H'→Q TK H'):IspExIn vs H Q
def spExIn:Sp:=λvs H Q _=>IspExIn vs H Q
section
variable{P:Nk}{w:Nl}{K:Na}{mg:Nd}{base:No}
def scExIn:zak ["hues", "places", "one", "other", "told", "place"] ["hues", "places", "one", "other"] (zai sExIn):=fsk
def ok_exin(F:QD "exchanged_in" "exchanged_in" sExIn f fd)(cr:mg "dict" = none):ZB 1 f fd ["hues", "places", "one", "other"] spExIn:=by
 refine F.okL scExIn Gn
 obtain⟨u,l,hs,zs,a,b,rfl,hh,hl,hzh,iL,k⟩:=h
 have hu:=zcd hr
 have ar  := sizeLine_eq
 refine⟨_,zad (BD scExIn.nd (zbr zfs Hh cr Xm Sj))
  (zad (Z0 (Iw HQ) (XI scExIn.nd)
   (zag (Bn Rx RD (pe_ifExp (zar zil (QI RD) Rz RE) RA Rz) rfl)))
  (zag (zax Rx))),?_⟩
 refine⟨xc,u,xc,hh.dc,λt ht=>?_⟩
 have k1:Keep [] H (ZS t (.dK (hs.map λe=>Gu))):=Keep.new ht
 have dG:HAt (ZS t (.dK (hs.map λe=>Gu))) t (ex (Oh 0) a b hs):=⟨by rw[zab,List.take_zero,ex_nil],by rw[ex_keys];exact hh.nd⟩
 generalize ZS t (.dK (hs.map λe=>Gu))=H1 at k1 dG
 refine⟨_,rfl,l,rfl,⟨_,Gs (k1 _ _ hl Gf)⟩,zbb (xs:=zs.map V.str) (λi σ H'=>Aj3 (Ex1 λx5=>σ=[yp,EW,RJ a,RJ b,Gh t,x5]) (Mt t (Bq hs)) (Keep [] H H'))
  ⟨⟨_,rfl⟩,dG,k1⟩ (λi σ H' _ q=>SqL.of (q.3 _ _ hl Gf)) ?_ ?_⟩
 ·rintro i v σ H2 hv ⟨⟨x5,rfl⟩,c7,k2⟩
  have hi:i<zs.length:=by
   have:=(Tl hv).1
   rwa[Qa]at this
  have rJ:v=.str zs[i]:=by
   rw[Qo,Qd hi]at hv
   exact(Qn hv).symm
  subst rJ
  obtain⟨e,he,ez⟩:=Qh.mp (hzh _ PM)
  have ez':e.1=zs[i]:=ez
  have tk:zs.take Hj=zs.take i++[e.1]:=by rw[ez'];exact Ql hi
  have hg:=(hh.keep k2).get RO
  rw[Vx he]at hg
  rw[←ez']
  have fin:∀v,v=(if e.2=a then b else a)→Aj3 (Ex1 λx5=>[Gz (La u),EW,RJ a,RJ b,Gh t,C2]=[Gz (La u),EW,RJ a,RJ b,Gh t,x5]) (HAt (QA t (.dK (putK ((Bq hs).map λe=>Gu) RO (Ht v)))) t (ex (Oh Hj) a b hs)) (Keep [] H (QA t (.dK (putK ((Bq hs).map λe=>Gu) RO (Ht v))))):=λv hv=>by
   subst hv
   refine⟨⟨xc⟩,⟨by rw[zab,ex_put hh.nd he,tk],by rw[ex_keys];exact hh.nd⟩,λc w' ec _=>?_⟩
   rw[zaf (W1 ht)];exact k2 c w' ec Gf
  have ae:((Bq hs).map λe=>Gu).length<sizeLine:=by
   unfold ex;rw[List.length_map,List.length_map];lia
  refine⟨xc,xc,u,xc,hg,xc,rfl,xc,?_⟩
  by_cases qb:e.2=a
  ·rw [HJ (congrArg V.int qb)]
   exact iteT ⟨_,rfl,_,rfl,_,rfl,t,_,rfl,DPut.k (k:=Sum.inr e.1) c7.dc ae,fin b (by rw[if_pos qb])⟩
  ·rw [decide_eq_false (fun q=>qb (by injection q))]
   exact iteF ⟨_,rfl,_,rfl,_,rfl,t,_,rfl,DPut.k (k:=Sum.inr e.1) c7.dc ae,fin a (by rw[if_neg qb])⟩
 ·rintro σ H2 ⟨⟨x5,rfl⟩,c7,k2⟩
  rw[Qa,Qt GV]at c7
  exact⟨xc,k t H2 ht c7 k2⟩
end
end K21
end
section
namespace HT
open PySem PyProof.Rows
inductive Alike:List Value→List Value→Bool→Prop
 |nil:Alike [] [] false
 |int {a t c u vs ws b}:Alike vs ws b→Alike (.int a t::vs) (.int c u::ws) (if a=c then b else decide (a<c))
 |str {x y:Str} {t u vs ws b}:Alike vs ws b→Alike (.str x t::vs) (.str y u::ws) (if x=y then b else decide (x.cps.toList<y.cps.toList))
def Alike.length(h:Alike vs ws b):vs.length=ws.length:=by
 induction h with
 |nil=>rfl
 |int _ ih=>rw[Qu,Qu,ih]
 |str _ ih=>rw[Qu,Qu,ih]
section
open PySem.SeqAt
open PySem.AutoSeq1 (wpAny_loadPart')
open PySem.MeetsSeq PySem.MeetsSeq2 PySem.MeetsSeq3
def zg6(l b:Nb)(items items2:Array Value)(n n2:Nat)(dd ul:Option Addr)(sl qD:Array S0)(B:Bool)(hi:Vd B) :
  Meets (Builtin.«tuple.__lt__» ⟨[RH,OL],[]⟩) (λ_ R s=>s.heap.get? l=some {cls:=.type "tuple",dict:=dd,data:=.seq items n,slots:=sl}∧s.heap.get? b=some {cls:=.type "tuple",dict:=ul,data:=.seq items2 n2,slots:=qD}∧R (L4 (OC B)) s) :=
 .of_wp λprog w A R s h=>by
  obtain⟨hp,g,d,tk,os⟩:=s;obtain⟨hl,hb,h⟩:=h
  have f2:=AutoSeq1.sub_tuple_tuple
  have z1:items.size=items2.size:=by have:=hi.length;simpa using this
  wp_walk using wpAny_loadPart' hl,wpAny_loadPart' hb,wpAny_forIn_list _ (λrest b s'=>b.1=none∧s'=⟨hp,g,d,tk,os⟩∧∃(vs ws:Nj) (B':Bool),rest=vs.zip ws∧Alike vs ws B'∧R (L4 (OC B')) ⟨hp,g,d,tk,os⟩) _
  case turn =>
   rintro⟨y,x⟩ rest b s' ⟨e7,rfl,vs,ws,B',hz,ha,hR⟩
   cases ha with
   |nil=>rw[List.zip_nil_left]at hz;cases hz
   | @int a t c u vs ws B2 lr =>
    rw[Jp]at hz
    injection hz with cb hrest
    injection cb with hy hx
    subst hy hx
    obtain⟨e,he,nK⟩:=eqAt_int A.in1 ⟨hp,g,d,tk,os⟩ a t c u
    refine wpAny_bind (he prog w _ _ ?_)
    cases e with
    |true =>
     rw[if_pos (nK.mp rfl)]at hR
     wp_walk
     exact⟨rfl,rfl,_,_,_,hrest,lr,hR⟩
    |false =>
     rw[if_neg (λq=>absurd (nK.mpr q) Zh)]at hR
     have eR:=rcLt_int A.in1 ⟨hp,g,d,tk,os⟩ a t c u prog w
     wp_walk using eR
     exact⟨xc,Gk hR⟩
   | @str x' y' t u vs ws B2 lr =>
    rw[Jp]at hz
    injection hz with cb hrest
    injection cb with hy hx
    subst hy hx
    have he:=Uy (A:=A.in1) (s:=⟨hp,g,d,tk,os⟩) x' t y' u
    refine wpAny_bind (he prog w _ _ ?_)
    by_cases e:x'=y'
    ·rw [Rv e] at hR
     rw[show(x'==y')=true from beq_iff_eq.mpr e]
     wp_walk
     exact⟨rfl,rfl,_,_,_,hrest,lr,hR⟩
    ·rw [Rm e] at hR
     rw[show(x'==y')=false from beq_eq_false_iff_ne.mpr e]
     have eR:∀(E:Nc) (Q:Nc) (h:Q (.bool (decide (x'.cps.toList<y'.cps.toList))) ⟨hp,g,d,tk,os⟩),ZI A.in1 (zE (.str x' t) (.str y' u)) Q E ⟨hp,g,d,tk,os⟩:=λE Q h=>(PyProof.Rows.lt_str h:ZI A.in1 (Op (.str x' t) (.str y' u)) Q E ⟨hp,g,d,tk,os⟩)
     wp_walk using eR
     exact⟨xc,Gk hR⟩
  case fin =>
   rintro⟨b1,b2⟩ s' ⟨e7,rfl,vs,ws,B',hz,ha,hR⟩
   simp only at e7
   subst e7
   have hv:B'=decide (items.size<items2.size):=by
    cases ha with
    |nil=>exact(Sc Gg).symm
    |int _=>rw[Jp]at hz;cases hz
    |str _=>rw[Jp]at hz;cases hz
   rw[hv]at hR
   wp_walk
   exact⟨xc,by simpa[Builtin.Tuple.tupleCompareSizes] using hR⟩
  case h =>
   exact⟨rfl,rfl,items.toList,items2.toList,B,rfl,hi,h⟩
end
section
variable{prog:Nk}{w:Nl}{A:Np}{E:Nc}{s:Ni}
def lt_tupA(hl:MY l items)(hb:MY b items2)(hi:Vd B)(hu:A.units<cLine)(h:Q (OC B) s):ZG (Op RH OL) Q E s:=by
 obtain⟨⟨cls,dd,data,sl⟩,ho,hc,n,hd⟩:=id hl
 obtain⟨⟨cls2,ul,data2,qD⟩,gD,jS,n2,oi⟩:=id hb
 simp only at hc hd jS oi
 subst hc hd jS oi
 exact richCompare_meets_room (op:=.Lt) ⟨_,ho,rfl⟩ ⟨_,gD,rfl⟩ PySem.F.slot_tuple_lt PySem.F.entry_tuple_lt (PySem.F.args_tuple_lt_2 _ _) (zg6 l b items items2 n n2 dd ul sl qD B hi)
  ⟨ho,gD,show Value.bool B≠Value.notImplemented∧Q (OC B) s from⟨(λx=>nomatch x),h⟩⟩ hu
end
end HT
namespace PySem
section
variable{prog:Nk}{w:Nl}{A:Np}{R:Nw}{I:Nb}{fp wr:Nn}{n:Nat}{P:Nat→Value→Prop}{St:Nat→Heap→Prop}
abbrev KpT(wr:Nn)(S:Nb)(h0 h:No):Prop:=∀b o,b∉wr→b≠S→h0.get? b=some o→h.get? b=some o
abbrev CmpT(prog:Nk)(w:Nl)(A:Np)(wr:Nn)(S:Nb)(h0:No)(P:Nat→Value→Prop)(bt:Nat→Nat→Bool):Prop :=
 ∀i j vi vj (s:Ni) (Q E:Nc),BE s.heap→P i vi→P j vj→Q (OC (bt i j)) s→ZG (zE vi vj) Q E s
def minT_go(W:JQ St)(bt:Nat→Nat→Bool)(h0:No)(S:Nb)(gk:V0 bt)(eB:S∉fp):∀ (k j:Nat) (s:Ni) (vb:Value) (c:Nat),n - (j+1)=k→j+1≤n→St (j+1) s.heap→P (Ti j) vb →
  s.heap.get? S=some {cls:=.type "list",dict:=none,data:=.seq #[vb,vb] c,slots:=#[]}→BE s.heap→(∀v h' tk,P (Ti (n-1)) v→BE h'→R (L4 v) {s with heap:=h',toks:=tk}) →
  codeAny GJ A (.builtin "min.loop" ⟨[CW,.none,Go S],[]⟩) R s:=by
 have jY:S∉wr:=λh=>eB AG
 have nm:(toString "min" ++ toString ".loop" : String) = "min.loop" := by decide
 intro k
 induction k with
 | zero =>
  intro j s vb c hk hj aq hb hS kp hR
  have e:j+1=n:=by lia
  refine codeAny_builtin F.entry_min_loop (by
   rw[Yv Uv _]
   refine(show ZV _ (seqItems? (Go S) >>= _) _ _ _ from wpAny_bind (JN ?_))
   refine(show ZV _ (tryCatch (Lp I) _ >>= _) _ _ _ from wpAny_bind (wpAny_tryCatch (W.done s _ _ (e▸aq) λh' tk q=>?_)))
   refine(show ZV _ (updateSeq S (λ_=>#[]) >>= _) _ _ _ from wpAny_bind (wpAny_updateSeq (q S _ jY hS) rfl (RS (wpAny_letGo (wpAny_pure ?_)))))
   exact hR vb _ tk (by rw[←e];exact hb) λb o hw hs z=>(Vl (Zk hs)).trans yZ)
 | succ k ih =>
  intro j s vb c hk hj aq hb hS kp hR
  have lt:j+1<n:=by lia
  refine codeAny_builtin F.entry_min_loop (by
   rw[Yv Uv _]
   refine(show ZV _ (seqItems? (Go S) >>= _) _ _ _ from wpAny_bind (JN ?_))
   refine(show ZV _ (tryCatch (Lp I) _ >>= _) _ _ _ from wpAny_bind (wpAny_tryCatch (W.item (j+1) s _ _ lt aq λv h' tk hP dH q=>?_)))
   have cU:=q S _ jY hS
   have lP:BE h':=λb o hw hs z=>q b o hw (NS z)
   refine(show ZV _ (tryCatch (holding [v,v] (richCompare .Lt v vb >>= _)) _ >>= _) _ _ _ from wpAny_bind (wpAny_tryCatch (z8 (RS (gk (j+1) (argBest bt j) v vb _ _ _ lP hP hb ?_)))))
   refine wpAny_bind (z8 (wpAny_truthy_bool (RS (wpAny_letGo (wpAny_pure ?_)))))
   cases hq:bt (j+1) (Ti j) with
   | true =>
    rw[if_pos rfl]
    refine wpAny_bind (NT (RS (wpAny_letGo ?_)))
    rw[nm]
    have gm:argBest bt (j+1)=j+1:=if_pos hq
    exact wpAny_pure ⟨plainId_quiet Uv _,ih (j+1) _ v _ Gg lt (MK dH λb hf o z=>(Vl (λh:S=b=>eB (Gp h hf))).trans z) (Gp gm hP) (Us _ cU rfl)
     (λb o hw hs z=>(Vl (Zk hs)).trans (lP b o hw hs z)) λv' oJ fc p z=>hR v' oJ fc p z⟩
   |false =>
    rw[if_neg Zh]
    refine wpAny_bind (wpAny_letGo ?_)
    rw[nm]
    have gm:argBest bt (j+1)=argBest bt j:=if_neg (by rw[hq];decide)
    exact wpAny_pure ⟨Aj Uv,ih (j+1) _ vb c Gg lt dH (Gp gm hb) cU lP λv' oJ fc p z=>hR v' oJ fc p z⟩)
def minT_first(W:JQ St)(bt:Nat→Nat→Bool)(h0:No)(S:Nb)(gk:V0 bt)(eB:S∉fp)(hn:0<n)(aq:St 0 s.heap)(hS:s.heap.get? S=some {cls:=.type "list",dict:=none,data:=.seq #[] c,slots:=#[]})(kp:BE s.heap)(hR:∀v h' tk,P (Ti (n-1)) v→BE h'→R (L4 v) {s with heap:=h',toks:=tk}) :
  codeAny GJ A (.builtin "min.loop" ⟨[CW,.none,Go S],[]⟩) R s:=by
 have jY:S∉wr:=λh=>eB AG
 have nm:(toString "min" ++ toString ".loop" : String) = "min.loop" := by decide
 refine codeAny_builtin F.entry_min_loop (by
  rw[Yv Uv _]
  refine(show ZV _ (seqItems? (Go S) >>= _) _ _ _ from wpAny_bind (JN ?_))
  refine(show ZV _ (tryCatch (Lp I) _ >>= _) _ _ _ from wpAny_bind (wpAny_tryCatch (W.item 0 s _ _ hn aq λv h' tk hP dH q=>?_)))
  have cU:=q S _ jY hS
  refine(show ZV _ (updateSeq S (λ_=>#[v,v]) >>= _) _ _ _ from wpAny_bind (NT ?_))
  rw[nm]
  exact wpAny_pure ⟨plainId_quiet Uv _,minT_go W bt h0 S gk eB _ 0 _ v _ rfl hn (MK dH λb hf o z=>(Vl (λh:S=b=>eB (Gp h hf))).trans z) hP (Us _ cU rfl)
   (λb o hw hs z=>(Vl (Zk hs)).trans yZ) λv' oJ fc p z=>hR v' oJ fc p z⟩)
end
section
variable{prog:Nk}{w:Nl}{A:Np}{E:Nc}{s:Ni}
def call_minT(h:ZI A.in1 (Ip x) (λit s₂=>∃I fp wr n P St bt,it=.ref I∧JQ St∧St 0 s₂.heap∧(∀b∈fp,b<s₂.heap.objs.size)∧0<n ∧
   CmpT prog w A.in1 wr s₂.heap.objs.size s₂.heap P bt∧∀v h' tk,P (Ti (n-1)) v→(∀b o,b∉wr→s₂.heap.get? b=some o→h'.get? b=some o)→Q v {s₂ with heap:=h',toks:=tk}) E s) :
  wpAny GJ A (call (.builtin "min") [x]) Q E s:=by
 have nm:(toString "min" ++ toString ".loop" : String) = "min.loop" := by decide
 refine call_function_tree F.kind_min F.plain_min F.entry_min (F.args_min1 _) (show ZV _ (Builtin.Builtins.bindParams "min" ["key", "default"] 0 ⟨[],[]⟩ >>= _) _ _ _ from wpAny_bind (wpAny_of_eq (show Builtin.Builtins.bindParams "min" ["key", "default"] 0 ⟨[],[]⟩=pure [none,none] from rfl) (RS (wpAny_pure ?_))))
 refine wpAny_bind (MX (λit s₂ ⟨I,fp,wr,n,P,St,bt,e,W,aq,hfp,hn,gk,hQ⟩=>?_) λ_ _ e=>e)
 subst e
 refine wpAny_bind (wpAny_newObj_type ?_)
 rw[nm]
 exact wpAny_pure ⟨plainId_quiet Uv _,minT_first W bt s₂.heap s₂.heap.objs.size gk (λhm=>Yu _ (hfp _ hm)) hn (MK aq λb _ o e=>WG e) SA (λb o _ _ z=>WG z)
  λv h' tk hP hk=>hQ v h' tk hP λb o hw e=>hk b o hw E7 e⟩
end
end PySem
end
section
namespace L2
open PySem PySem.Spec PyProof.Rows
def ltK(k l:Nat×Str):Bool:=if(k.1:Int)=(l.1:Int) then(if k.2=l.2 then false else decide (k.2.cps.toList<l.2.cps.toList)) else decide ((k.1:Int)<(l.1:Int))
def leK(k l:Nat×Str):Prop:=k.1<l.1∨k.1=l.1∧leS k.2 l.2
def ltK_irrefl(k:Nat×Str):ltK k k=false:=by unfold ltK;rw[if_pos rfl,if_pos rfl]
def ltK_iff:ltK k l=true↔k.1<l.1∨k.1=l.1∧k.2.cps.toList<l.2.cps.toList:=by
 unfold ltK
 by_cases h:(k.1:Int)=(l.1:Int)
 ·have h':k.1=l.1:=by lia
  rw[if_pos h]
  by_cases h2:k.2=l.2
  ·rw [Rv h2,h2]
   refine⟨λz=>(by cases z),λz=>?_⟩
   rcases z with z | z
   ·lia
   ·exact absurd z.2 (Ww _)
  ·rw [Rm h2,decide_eq_true_eq]
   exact⟨λz=>.inr ⟨h',z⟩,λz=>z.elim (λy=>by lia) (·.2)⟩
 ·rw [Rm h,decide_eq_true_eq]
  exact⟨λz=>.inl Gg,λz=>z.elim (λy=>by lia) λy=>absurd (congrArg Int.ofNat y.1) h⟩
def ltK_trans(h1:ltK a b=true)(h2:ltK b c=true):ltK a c=true:=by
 rw[ltK_iff]at h1 h2 ⊢
 rcases h1 with h1 | ⟨e1,h1⟩
 ·rcases h2 with h2 | ⟨e2,_⟩
  ·exact .inl (Wk h1 h2)
  ·exact .inl (e2▸h1)
 ·rcases h2 with h2 | ⟨e2,h2⟩
  ·exact .inl (e1▸h2)
  ·exact .inr ⟨e1.trans e2,List.lt_trans h1 h2⟩
def leK_of(h:¬ltK l k=true):leK k l:=by
 rw[ltK_iff]at h
 rcases Nat.lt_trichotomy k.1 l.1 with z | z | z
 ·exact .inl z
 ·exact .inr ⟨z,λy=>h (RG ⟨z.symm,y⟩)⟩
 ·exact absurd (Rf z) h
def zfq(h1:leS x y)(h2:leS y x):x=y:=Tm.str_ext (List.le_antisymm (EL h1) (EL h2))
def leK_antisymm(h1:leK k l)(h2:leK l k):k=l:=by
 rcases h1 with h1 | ⟨e,h1⟩
 ·rcases h2 with h2 | ⟨e2,_⟩<;>lia
 ·rcases h2 with h2 | ⟨_,h2⟩
  ·lia
  ·exact Wz e (zfq h1 h2)
theorem zdu(bt:Nat→Nat→Bool)(hi:∀i,bt i i=false)(ht:∀i j k,bt i j=true→bt j k=true→bt i k=true):∀k j,j≤k→¬bt j (Ti k)=true
 |0,j,h=>by
  have:j=0:=by lia
  subst this
  show ¬bt 0 0=true
  rw[hi];decide
 | k+1,j,h=>by
  show ¬bt j (if bt (k+1) (Ti k)=true then k+1 else argBest bt k)=true
  by_cases ad:bt (k+1) (Ti k)=true
  ·rw [Rv ad]
   by_cases hj:j=k+1
   ·subst hj;rw[hi];decide
   ·exact λz=>F' Gg (ht _ _ _ z ad)
  ·rw [Rm ad]
   by_cases hj:j=k+1
   ·subst hj;exact ad
   ·exact F' Gg
section
variable{X:Cx}
abbrev KAt(H:Hp):List Addr→List (Nat×Str)→Prop:=Paired λa k=>H a=some (.tup [Ht (k.1:Int),.str k.2])
def kat_at(r:KAt H as ks)(hi:i<as.length):i<ks.length∧H as[i]=some (.tup [Ht ((ks.getD i (0,Str.empty)).1:Int),.str (ks.getD i (0,Str.empty)).2]):=by
 induction r generalizing i with
 |nil=>exact absurd hi (Xp _)
 | cons h t ih =>
  cases i with
  |zero=>exact⟨Nat.zero_lt_succ _,h⟩
  |succ j =>
   obtain⟨a,b⟩:=ih (i:=j) (Xn hi)
   exact⟨Nat.succ_lt_succ a,b⟩
def call_min_is(hc:X.calm=true)(hu:X.A.units+1<cLine):Y4 (.builtin "min") (λxs H Q=>Ex3 λ(p:Nb) (as:Nn) (ks:Sg (Nat×Str))=>Aj5 (xs=[Sv]) (WH Ls) (KAt H as ks) (ks≠[]) (∀a k,k∈ks→H a=some (.tup [Ht (k.1:Int),.str k.2])→(∀k'∈ks,leK k k')→Q Rg H)):=by
 intro a5 s σ H xs us Q I r h
 obtain⟨p,as,ks,rfl,hq,hk,ax,q⟩:=h
 obtain⟨u,rfl,rx⟩:=vals1 r
 cases rx
 have dN:0<ks.length:=Uu.mpr ax
 have bo:as.length=ks.length:=Zy hk
 refine call_minT (Dd hq λa7 It h1 rv W st lt keep=>⟨It,_,_,_,_,_,λi j=>ltK (ks.getD i (0,Str.empty)) (ks.getD j (0,Str.empty)),rfl,W,st,lt,?_,λi j vi vj s' Q' E' kp hi hj cQ=>?_,λv h' tk hv k=>?_⟩)
 ·have:=rv.length
  rw[Qa]at this
  rw[Qw];lia
 ·have hl:=rv.length
  rw[Qa]at hl
  have I':=keep s'.heap s'.toks λb o hb e=>kp b o hb E7 e
  have gs:∀(i:Nat) (v:Value),a7.toArray[i]?=some v→∃a n t y u,v=.ref a∧IsTup s'.heap a #[IE n,.str y u]∧n=((ks.getD i (0,Str.empty)).1:Int)∧y=(ks.getD i (0,Str.empty)).2:=λi v e=>by
   have e':a7[i]?=some v:=by simpa using e
   have hi:i<a7.length:=(Tl e').1
   have ao:i<as.length:=by lia
   obtain⟨u,e2,e3⟩:=rv.get (i:=i) (x:=.ref as[i]) (by simp[ao])
   rw[e']at e2
   cases e2
   cases e3
   obtain⟨_,aI,r2,o,e1,c,n,d⟩:=I'.hok _ _ (kat_at hk ao).2
   obtain⟨u1,u2,rfl,⟨t1,rfl⟩,⟨t2,rfl⟩⟩:=vals2 r2
   exact⟨_,_,t1,_,t2,rfl,⟨o,e1,c,n,d⟩,rfl,rfl⟩
  obtain⟨a,n,t,y,u,rfl,h1,rfl,rfl⟩:=gs i vi hi
  obtain⟨a',n',t',y',u',rfl,h2,rfl,rfl⟩:=gs j vj hj
  exact HT.lt_tupA h1 h2 (Ht (.str .nil)) hu cQ
 ·have hl:=rv.length
  rw[Qa]at hl
  have i5:=argBest_lt (bt:=λi j=>ltK (ks.getD i (0,Str.empty)) (ks.getD j (0,Str.empty))) (a7.toArray.size-1)
  have least:=zdu (λi j=>ltK (ks.getD i (0,Str.empty)) (ks.getD j (0,Str.empty))) (λi=>ltK_irrefl _) (λi j k=>ltK_trans) (a7.toArray.size-1)
  generalize argBest (λi j=>ltK (ks.getD i (0,Str.empty)) (ks.getD j (0,Str.empty))) (a7.toArray.size-1)=b at hv i5 least
  rw[Qw]at i5 least
  have bn:b<as.length:=by lia
  have aY:a7[b]?=some v:=by simpa using hv
  obtain⟨u,e2,e3⟩:=rv.get (i:=b) (x:=.ref as[b]) (by simp[bn])
  rw[aY]at e2
  cases e2
  cases e3
  obtain⟨dZ,e9⟩:=kat_at hk bn
  have g1:ks.getD b (0,Str.empty)=ks[b]:=by simp[List.getD,dZ]
  rw[g1]at e9
  refine⟨.ref as[b],H,Ma k,rfl,q _ ks[b] (Qs dZ) e9 λk' nC=>?_⟩
  obtain⟨j,hj,rfl⟩:=Zr nC
  have:=least j Gg
  have g2:ks.getD j (0,Str.empty)=ks[j]:=by simp[List.getD,hj]
  rw[g1,g2]at this
  exact leK_of this
end
end L2
end
section
namespace Wb
open PySem L2
def dg(r:Nq)(D:Ng)(y:Str):Nat:=((r y).filter λz=>decide (z∉D)).length
structure Pre(ns:Ng)(r:Nq)(D:Ng):Prop where
 sub:∀x∈D,x∈ns
 nd:D.Nodup
 le:∀(i:Nat) (h:i<D.length),∀z∈ns,z∉D.take i→leK (U1 (D.take i) D[i],D[i]) (U1 (D.take i) z,z)
structure zcp(ns:Ng)(r:Nq)(T:Ng):Prop extends Pre ns r T where
 pm:T.Perm ns
variable{ns kI T T' D:Ng}{r r':Nq}
def zcv{l:Ng}(nd:l.Nodup){i:Nat}(h:i<l.length):l[i]∉l.take i:=λz=>by
 have h2:(l.take Hj).Nodup:=VD nd
 rw[Ql h,Zc]at h2
 exact h2.2.2 _ z _ RU rfl
def dg_turn(hr:∀y,(r' y).Perm (r y))(D:Ng)(y:Str):dg r' D y=YA y:=(List.Perm.filter _ (hr y)).length_eq
def Pre.nil:Mu []:=⟨λx hx=>(by cases hx),Zm,λi h=>absurd h (Xp _)⟩
def Pre.snoc(P:Mu D){y:Str}(hy:y∈ns)(pk:y∉D)(hl:∀z∈ns,z∉D→leK (YA y,y) (YA z,z)):Mu (D++[y]):=by
 refine⟨λx hx=>?_,?_,λi h=>?_⟩
 ·rcases Qk.mp hx with z | z
  ·exact P.sub x z
  ·rw[Qc.mp z];exact hy
 ·rw [Zc]
  exact⟨P.nd,Xg _ _,λa ha b hb e=>pk (by rw[←Qc.mp hb,←e];exact ha)⟩
 ·rw [Qz,Uw] at h
  by_cases hi:i<D.length
  ·rw [List.take_append_of_le_length (Wu hi),List.getElem_append_left hi]
   exact P.le i hi
  ·have hi:i=D.length:=by lia
   subst hi
   rw[List.take_append_of_le_length GV,Qt GV,List.getElem_append_right GV]
   simp only[Kl,List.getElem_singleton]
   exact hl
def Pre.order(P:Mu D)(nd:ns.Nodup)(all:∀x∈ns,x∈D):Ds D:=⟨P,(Jb P.nd nd).mpr λx=>⟨P.sub x,all x⟩⟩
def zcp.turn(hp:kI.Perm ns)(hr:∀y,(r' y).Perm (r y))(a:zcp kI r' T):Ds T :=
 ⟨⟨fun x hx=>hp.mem_iff.mp (a.sub x hx),a.nd,fun i h z hz hn=>by
  have:=a.le i h z (hp.mem_iff.mpr hz) hn
  rw[dg_turn hr,dg_turn hr]at this
  exact this⟩,a.pm.trans hp⟩
def zcp.one(a:Ds T)(b:Ds T'):T=T':=by
 have hl:T.length=T'.length:=a.pm.length_eq.trans b.pm.length_eq.symm
 have key:∀i,i≤T.length→T.take i=T'.take i:=by
  intro i
  induction i with
  |zero=>intro _;rfl
  |succ i ih =>
   intro h
   have e:=ih (Nat.le_of_succ_le h)
   have hi:i<T.length:=h
   have aK:i<T'.length:=hl▸h
   have h1:=a.le i hi T'[i] (b.sub _ Pu) (by rw[e];exact zcv b.nd aK)
   have h2:=b.le i aK T[i] (a.sub _ PM) (by rw[←e];exact zcv a.nd hi)
   rw[←e]at h2
   have e3:T[i]=T'[i]:=congrArg Prod.snd (leK_antisymm h1 h2)
   rw[Ql hi,Ql aK,e,e3]
 have:=key T.length GV
 rwa[Qt GV,Qt (Km hl.symm)]at this
def dg_snoc(rn:∀x,(r x).Nodup)(sy:∀x y,y∈r x→x∈r y){x:Str}(hx:x∉D)(y:Str):(dg r D y:Int)-(if y∈r x then 1 else 0)=(U1 (D++[x]) y:Int):=by
 have e:(r y).filter (λz=>decide (z∉D++[x]))=((r y).filter λz=>decide (z∉D)).erase x:=by
  rw[List.Nodup.erase_eq_filter ((rn y).filter _),List.filter_filter]
  apply Kv
  intro z _
  rw[Yw]
  simp only[decide_eq_true_eq,Qk,Qc,not_or,Jf,bne_iff_ne]
  exact⟨λh=>⟨h.2,h.1⟩,λh=>⟨h.2,h.1⟩⟩
 unfold dg
 rw[e]
 by_cases h:y∈r x
 ·have hm:x∈(r y).filter fun z=>decide (z∉D):=Zg.mpr ⟨sy _ _ h,Gk hx⟩
  have hp:=Yh hm
  rw[if_pos h,Yi hm]
  lia
 ·have hm:x∉(r y).filter fun z=>decide (z∉D):=fun z=>h (sy _ _ (IU z).1)
  rw[if_neg h,List.erase_of_not_mem hm]
  lia
def dg_nil(r:Nq)(y:Str):U1 [] y=(r y).length:=by
 unfold dg
 rw[List.filter_eq_self.mpr λz _=>by simp]
def sorted_one:∀ {l m:Ng},l.Perm m→l.Pairwise leS→m.Pairwise leS→l=m:=by
 intro l
 induction l with
 |nil=>intro m h _ _;exact(List.Perm.nil_eq h)
 | cons a t ih =>
  intro m h p q
  cases m with
  |nil=>exact absurd h.length_eq Gf
  | cons b u =>
   rw[Jq]at p q
   have e:a=b:=by
    have h1:b∈a::t:=h.mem_iff.mpr Qb
    have h2:a∈b::u:=h.mem_iff.mp Qb
    rcases Qf.mp h1 with z | z
    ·exact z.symm
    ·rcases Qf.mp h2 with y | y
     ·exact y
     ·exact zfq (p.1 b z) (q.1 a y)
   subst e
   rw[ih ((List.perm_cons a).mp h) p.2 q.2]
end Wb
namespace K21
open PySem L2 Wb
abbrev sOrder:Stmt:=top 20
def cnt(ks:Ng)(F:Str→Int):List (Key×V):=ks.map λy=>((Sum.inr y:Key),Sy (F y))
def cnt_out{ks:Ng}{F:Str→Int}{x:Str}(h:x∉ks):valV (Mv F) CY=none:=by
 unfold cnt
 induction ks with
 |nil=>rfl
 |cons a t ih =>
  rw[Qf,not_or]at h
  rw[Qm,zbm]
  ·exact ih h.2
  ·intro q;exact h.1 (Wd q).symm
def cnt_in{ks:Ng}{F:Str→Int}{x:Str}(h:x∈ks):valV (Mv F) CY=some (Ht (F x)):=by
 unfold cnt
 induction ks with
 |nil=>cases h
 | cons a t ih =>
  rw[Qm]
  by_cases e:a=x
  ·rw[zcg (by rw[e]),e]
  ·rw [zbm (fun q=>e Pb)]
   rcases Qf.mp h with z | z
   ·exact absurd z.symm e
   ·exact ih z
def cnt_new{ks:Ng}{F:Str→Int}{x:Str}(h:x∉ks):V1 (Ht (F x))=cnt (ks++[x]) F:=by
 rw[Fj (cnt_out h)];unfold cnt;rw[List.map_append];rfl
def cnt_put{ks:Ng}{F:Str→Int}{x:Str}(h:x∈ks)(v:Int):V1 (Ht v)=cnt ks λy=>if y=x then v else F y:=by
 unfold putK cnt
 rw[if_pos]
 ·rw [Zj]
  refine Zz λz _=>?_
  show(if(Sum.inr z:Key)=Sum.inr x then((Sum.inr z:Key),Sy v) else(OU,Sy (F z)))=(OU,Sy (if z=x then v else F z))
  by_cases e:z=x
  ·rw[if_pos (by rw[e]),if_pos e]
  ·rw[if_neg (λq=>e Pb),if_neg e]
 ·exact Yb.mpr ⟨_,Ts ⟨x,h,rfl⟩,Gf⟩
def cnt_drop(ks:Ng)(F:Str→Int)(x:Str):dropK (Mv F) CY=cnt (ks.filter λy=>decide (y≠x)) F:=by
 unfold dropK cnt
 rw[Jn]
 congr 1
 apply Kv
 intro y _
 show decide ((Sum.inr y:Key)≠Sum.inr x)=decide (y≠x)
 rw[Yw,decide_eq_true_eq,decide_eq_true_eq]
 exact⟨λh e=>h (by rw[e]),λh e=>h (Wd e)⟩
def zgy{ks:Ng}{F G:Str→Int}(h:∀y∈ks,F y=G y):Mv F=Mv G:=Zz λy hy=>by rw[h y hy]
def Keep.fr{H H':Hp}{a:Nb}{o:HO}(k:Keep [] H H')(h:H a=none):Keep [] H (YI a o):=λc u ec hc=>by rw[zaf (W1 h)];exact k c u ec hc
end K21
namespace K21
open PySem L2 Wb
def ndOA:(["place", "web"]:List Str).Nodup:=by decide +kernel
def ndOB:(["place", "many"]:List Str).Nodup:=by decide +kernel
inductive IspOrder(C:Nb)(vs:List V)(H:Hp)(Q:VK):Prop
 |mk (x dx d:Nb) (es:List Ent) (h0:vs=[.ref x]) (h1:WAt H C x dx d es) (h2:es.length≤100) (h3:∀y,(row (rsOf es) y).Nodup) (h4:∀a b,b∈row (rsOf es) a→a∈row (rsOf es) b) (h5:∀(l:Nb) (T:Ng) (H':Hp),H' l=some (.lst (T.map V.str))→zcp (es.map (·.1)) (row (rsOf es)) T→H l=none→Keep [] H H'→Q (.ref l) H'):IspOrder C vs H Q
def spOrder(C:Nb):Sp:=λvs H Q _=>IspOrder C vs H Q
section
variable{P:Nk}{w:Nl}{K:Na}{mg:Nd}{base:No}
def zed:zak ["web", "many", "taken", "least", "other"] ["web"] (zai sOrder):=fsk
def ok_order{f C fp fr:Nb}{fd fdp fdr:Nv}(F:QD "order" "order" sOrder f fd)(cW:VB C)(mP:BP "places" fp)(bP:WK fdp ["self"] [])(GP:ZB 1 fp fdp ["self"] yM)(mR:BP "round_of" fr)(bR:WK fdr ["self", "place"] [])(GR:ZB 1 fr fdr ["self", "place"] IN)(ae:mg "len" = none)(jH:mg "min" = none):ZB 2 f fd ["web"] (spOrder C):=by
 refine F.okL zed Gn
 obtain⟨x,dx,d,es,rfl,wt,aN,rn,sy,k⟩:=h
 have hu:=zcd hr
 have ar:sizeLine=16777216:=sizeLine_eq
 refine⟨_,zad (zhh (i:=1) zed.nd rfl Tz (pe_dc (M:=["place", "web"]) (ix:=[none,Gz 0]) (mkB zed) rfl (Iw (zij (pl:=_) Rj cW mP GP hr bP .nil zcq)) (λC a5 ex s H=>JA ndOA)
    (λC a5 ex s H=>zc2) (λC a5 ex s H=>pv 0)
    (λC' a5 ex s H=>zal (ze3 (K:=K) rfl) Hh (by exact ae) Yc (Hz (ze8 (pl:=_) Ee (by exact cW) (by exact mR) GR (by exact hr) bR .nil zcq Sj)))))
  (zad (Mp zed.nd So)
  (zad (DV (zer HQ (fun _=>rfl))
   (zad (B8 zed.nd (WF (zal (call_min_is rfl hu) Hh jH PyProof.Rows.boot_min (zaa (pe_thaw (zgi (M:=["place", "many"]) (ix:=[none,Gz 1]) (mkB zed) rfl (zeh HQ) (fun C a5 ex s H=>JA ndOB)
    (λC a5 ex s H=>zc2) (λC a5 ex s H=>zbo (zaa (zq (by exact hu) HQ) Sj)))) zae)) zah GD))
   (zad (Cq Rz SH)
   (zad (ps_ddel HQ RA)
   (zag (Z0 (Iw (ze8 (pl:=_) Rj cW mR GR hr bR .nil zcq SH)) (MS zed.nd)
    (zag (zby (Ic hu Rx) (zag (ps_daug hu HQ Rx zah in_sub (λ_ _ _=>rfl))) zau))))))))
  (zag Oc))),?_⟩
 have ay:(es.map (·.1)).Nodup:=wt.ta.nd
 have ap:∀e∈es,ZJ e.1=e.2.1:=λe he=>zaw ay he
 generalize i4:es.map (·.1)=ns at ay k
 have kU:ns.length=es.length:=by rw[←i4,Qa]
 refine⟨xc,x,dx,xc,wt.ob,rfl,x,dx,d,es,rfl,wt,λl hl=>?_⟩
 rw[i4]
 have k1:Keep [] H (EX Lh):=Keep.new hl
 have aE:(EX Lh) l=some Lh:=zab
 generalize ZS l Lh=H1 at k1 aE
 refine⟨l,rfl,⟨_,Gs aE⟩,λi m ys τ H'=>Aj5 (m=es.length-i) (i≤es.length) (Ex1 λx0=>τ=[x0,Ih]) (Keep [] H1 H') (ys=cnt (ns.take i) λy=>((KQ [] y:Nat):Int)),
  ⟨es.length,rfl,RP,⟨none,rfl⟩,Keep.refl,rfl⟩,?_⟩
 rintro i m ys τ H2 ⟨rfl,hi,⟨x0,rfl⟩,k2,rfl⟩
 have az:=k2 _ _ aE Gf
 by_cases ad:i<es.length
 ·have ao:i < ns.length:=kU ▸ ad
  have aT:es[i]∈es:=Qs ad
  have hni:ns[i]=es[i].1:=by simp[←i4]
  refine .inr ⟨⟨_,.str ns[i],E3,by rw[Qo,Qd ao];rfl⟩,by unfold cnt;rw[List.length_map,List.length_take];lia,?_⟩
  rintro v H3 ⟨rfl,hv⟩
  have aY:=hv _ E3
  rw[Qo,Qd ao]at aY
  obtain rfl:V.str ns[i]=v:=Qn aY
  have lF:WAt H3 C x dx d es:=wt.keep (SQ k2) Gf Gf He
  refine⟨xc,xc,x,dx,xc,lF.ob,rfl,xc,x,dx,d,es,es[i],by rw[hni];rfl,lF,aT,λq hq=>?_⟩
  refine⟨q,xc,Se zab,Sum.inr ns[i],rfl,es.length-Hj,Ha,rfl,ad,⟨xc⟩,S5 CO,?_⟩
  have hF:(((es[i].2.1.map V.str).length:Nat):Int)=((KQ [] ns[i]:Nat):Int):=by rw[dg_nil,hni,ap _ aT,Qa]
  rw[hF,Ql ao]
  exact cnt_new (F:=λy=>((KQ [] y:Nat):Int)) (zcv ay ao)
 ·have cp:i=es.length:=by exact zar3 ‹_› ‹_›
  subst cp
  refine .inl ⟨⟨_,E3,by rw[Qa,kU];exact Qg _⟩,λmm hmm=>?_⟩
  rw[Qt (Km kU)]
  generalize row EK=r at rn sy k ap
  have kH2:Keep [] H H2:=k1.trans k2
  have fmm:H mm=none:=zaz kH2 hmm Gf
  have k3:Keep [] H (QA mm (.dK (cnt ns λy=>((U1 [] y:Nat):Int)))):=kH2.fr fmm
  have sQ:(QA mm (.dK (cnt ns λy=>((U1 [] y:Nat):Int)))) mm=some (.dK (cnt ns λy=>((U1 [] y:Nat):Int))):=zab
  generalize QA mm (.dK (cnt ns λy=>((U1 [] y:Nat):Int)))=H3 at k3 sQ
  refine⟨TC,λtk htk=>?_⟩
  have ftk:H tk=none:=zaz k3 htk Gf
  have nmt:mm≠tk:=zac sQ htk
  refine⟨λm σ H'=>Ex2 λ(D ks:Ng)=>Aj8 (m=ks.length) (Ex2 λx3 x4=>σ=[Ih,Gh mm,Gh tk,x3,x4]) (H' mm=some Ck) (H' tk=some (Gw (D.map V.str))) (Mu D) ks.Nodup (∀y,y∈ks↔y∈ns∧y∉D) (Keep [] H H'),
   ⟨ns.length,[],ns,rfl,⟨none,none,rfl⟩,Gv nmt sQ,zab,Pre.nil,ay,λy=>⟨λh=>⟨h,Gf⟩,λh=>h.1⟩,k3.fr ftk⟩,?_⟩
  rintro m σ H4 ⟨D,ks,rfl,⟨x3,x4,rfl⟩,hm4,mi,PD,eZ,bA,k4⟩
  refine⟨xc,_,OS (RG ⟨_,hm4,rfl⟩),?_⟩
  by_cases sX:ks=[]
  ·subst sX
   refine W0 ⟨_,rfl,k tk D H4 mi (PD.order ay λy hy=>?_) ftk k4⟩
   by_cases h:y∈D
   ·exact h
   ·exact absurd ((bA y).mpr ⟨hy,h⟩) Gf
  ·refine zbt (by cases ks with
    |nil=>exact absurd rfl sX
    |cons _ _=>rfl) ?_
   refine⟨_,λ σ' H' zz=>zz,?_⟩
   have iJ:ks.length≤ns.length:=zck eZ λy hy=>((bA y).mp hy).1
   have gG:(cnt ks λy=>((dg r D y:Nat):Int)).length=ks.length:=Qa ..
   refine⟨_,rfl,mm,_,rfl,hm4,λo=>⟨λi m ys τ H'=>Aj6 (m=ks.length-i) (i≤ks.length) (Ex1 λx0=>τ=[x0,Gh mm]) (H' mm=some (SV Ck)) (Keep [mm] H4 H') (Ex1 λ(as:Nn)=>Aj3 (ys=as.map V.ref) (as.length=i) (KAt H' as ((ks.take i).map λy=>(YA y,y)))),
    ⟨ks.length,rfl,RP,⟨none,rfl⟩,zab,L7,[],rfl,rfl,.nil⟩,?_⟩⟩
   rintro i m ys τ H5 ⟨rfl,hi,⟨x0,rfl⟩,hz,k5,as,rfl,bo,ka⟩
   by_cases ad:i<ks.length
   ·refine .inr ⟨⟨hz,by rw [gG];exact ad⟩,by rw [Qa];lia,?_⟩
    rintro v H6 ⟨rfl,pr,e1,rfl⟩
    have g1:pr=((Sum.inr ks[i]:Key),Sy ((YA ks[i]:Nat):Int)):=by
     unfold cnt at e1
     rw[Qo,Qd ad]at e1
     exact(Qn e1).symm
    subst g1
    refine⟨xc,xc,mm,xc,Rf ⟨_,Sum.inr ks[i],OS ⟨o,hz⟩,rfl,(cnt_in (Qs ad)).symm⟩,xc,Sh,λt ht=>⟨ks.length-Hj,Ha,rfl,ad,⟨_,rfl⟩,?_,CK Tq,as++[t],?_,?_,?_⟩⟩
    ·rw[zaf (Mo ht)];exact hz
    ·rw[Qp];rfl
    ·rw[Qz,bo];rfl
    ·rw [Ql ad,Qp]
     refine zav (Paired.imp' (λa k h=>?_) ka) (Rk zab)
     rw[zaf (zac h ht)];exact h
   ·have cp:i=ks.length:=by exact zar3 ‹_› ‹_›
    subst cp
    rw[Qt GV]at ka
    refine .inl ⟨⟨hz,Hx gG⟩,λL hL=>?_⟩
    have nmL:mm≠L:=Mo hL
    have nfz:∀o' u',H mm≠some Ss:=λo' u' z=>by rw[fmm]at z;cases z
    refine⟨mm,o,_,Gv nmL hz,nfz,?_⟩
    have k6:Keep [mm] H4 (Q9 Ck):=(CK (Gx hL)).trans L7
    have hm6:(Q9 Ck) mm=some Ck:=zab
    have hL6:(Q9 Ck) L=some HW:=by rw[zaf (Zk nmL)];exact zab
    have ka6:KAt (Q9 Ck) as (ks.map λy=>(YA y,y)):=Paired.imp' (λa k h=>by
     rw[zaf z9,zaf (zac h hL)];exact h) ka
    generalize Q9 Ck=H6 at k6 hm6 hL6 ka6
    have kH6:Keep [] H H6:=λc u ec _=>k6 c u (k4 c u ec Gf) (by simpa using W1 fmm)
    have gB:=k6 _ _ mi (by simpa using Zk nmt)
    refine⟨L,as,xc,Gs hL6,ka6,Gk sX,λa kk l4 ha fM=>?_⟩
    obtain⟨y,hy,rfl⟩:=Qh.mp l4
    obtain⟨hyn,pk⟩:=(bA y).mp hy
    have sV:∀z∈ns,z∉D→leK (YA y,y) (YA z,z):=λz h1 h2=>fM _ (Ts ⟨z,(bA z).mpr ⟨h1,h2⟩,rfl⟩)
    have PD':=PD.snoc hyn pk sV
    have hDl:D.length≤ns.length:=zck PD.nd PD.sub
    refine⟨a,_,1,xc,rfl,Hy ha,rfl,?_⟩
    refine⟨xc,HX gB,xc,tk,_,xc,rfl,gB,RQ,?_⟩
    have k7:Keep [] H (Ci tk (D.map V.str++[V.str y])):=kH6.fr ftk
    have pF:(Ci tk (D.map V.str++[V.str y])) tk=some (Gw ((D++[y]).map V.str)):=by rw[zab,Qp];rfl
    have hm7:(Ci tk (D.map V.str++[V.str y])) mm=some Ck:=by rw[zaf nmt];exact hm6
    generalize YF tk (Gw (D.map V.str++[V.str y]))=H7 at k7 pF hm7
    refine⟨xc,xc,mm,_,RY y,rfl,hm7,rfl,by rw[cnt_in hy];rfl,?_⟩
    rw[cnt_drop]
    have hkf:∀z,z∈ks.filter (λz=>decide (z≠y))↔z∈ns∧z∉D++[y]:=λz=>by
     rw[Zg,bA z,decide_eq_true_eq,Qk,Qc,not_or]
     exact⟨λh=>⟨h.1.1,h.1.2,h.2⟩,λh=>⟨⟨h.1,h.2.1⟩,h.2.2⟩⟩
    have nr:(ks.filter λz=>decide (z≠y)).Nodup:=eZ.filter _
    have ny:(ks.filter λz=>decide (z≠y)).length<ks.length:=List.length_filter_lt_length_iff_exists.mpr ⟨y,hy,Gf⟩
    generalize ks.filter (λz=>decide (z≠y))=kf at hkf nr ny
    have k8:Keep [] H (JD mm PU):=k7.fr fmm
    have sP:(JD mm PU) mm=some PU:=zab
    have cZ:(JD mm PU) tk=some (Gw ((D++[y]).map V.str)):=by rw[zaf (Zk nmt)];exact pF
    generalize JD mm PU=H8 at k8 sP cZ
    obtain⟨en,bB,tJ⟩:=Qh.mp (by rw[i4];exact hyn:y∈es.map (·.1))
    have iO:en.1=y:=tJ
    have hry:r y=en.2.1:=by rw[←iO];exact ap en bB
    have km:WAt H8 C x dx d es:=wt.keep k8 Gf Gf He
    refine⟨xc,x,dx,xc,km.ob,rfl,xc,x,dx,d,es,en,by rw[iO];rfl,km,bB,λq hq=>?_⟩
    have nqm:mm≠q:=zac sP hq
    have nqt:tk≠q:=zac cZ hq
    have fq:H q=none:=zaz k8 hq Gf
    refine⟨q,rfl,⟨_,Th⟩,zbb (xs:=en.2.1.map V.str) (λj σ H'=>Aj5 (Ex1 λx4=>σ=[Ih,Gh mm,Gh tk,SK y,x4]) (H' q=some (Gw (en.2.1.map V.str))) (H' tk=some (Gw ((D++[y]).map V.str))) (H' mm=some (.dK (cnt kf λz=>((dg r D z:Nat):Int)-if z∈en.2.1.take j then 1 else 0))) (Keep [] H H'))
     ⟨⟨_,rfl⟩,zab,Gv nqt cZ,?_,k8.fr fq⟩ (λj σ H' _ hh=>SqL.of hh.2) ?_ ?_⟩
    ·rw [zaf nqm,sP]
     congr 2
    ·rintro j v σ H9 rD ⟨⟨x4,rfl⟩,sv,iE,nn,k9⟩
     have hj:j<en.2.1.length:=by
      have:=(Tl rD).1
      rwa[Qa]at this
     have gS:v=.str en.2.1[j]:=by
      rw[Qo,Qd hj]at rD
      exact(Qn rD).symm
     subst gS
     have cE:en.2.1.Nodup:=hry▸rn y
     have mV:=zcv cE hj
     have g9:=DGet.k (k:=Sum.inr en.2.1[j]) nn
     by_cases eJ:en.2.1[j]∈kf
     ·rw [cnt_in eJ,Rm mV] at g9
      refine⟨xc,xc,mm,xc,g9,xc,UL ?_⟩
      refine⟨xc,xc,mm,xc,g9,_,xc,rfl,_,DPut.k (k:=Sum.inr en.2.1[j]) nn (by unfold cnt;rw[List.length_map];lia),⟨xc⟩,?_,?_,?_,k9.fr fmm⟩
      ·rw[zaf (Zk nqm)];exact sv
      ·rw[zaf (Zk nmt)];exact iE
      ·rw [zab,cnt_put eJ]
       congr 2
       refine zgy λz _=>?_
       rw[Ql hj]
       by_cases hz:z=en.2.1[j]
       ·rw [Rv hz,hz,Rv C4]
        lia
       ·rw [Rm hz]
        by_cases c9:z∈en.2.1.take j
        ·rw[if_pos c9,if_pos (YG c9)]
        ·rw[if_neg c9,if_neg (λh=>(Qk.mp h).elim c9 λh=>hz (LU h))]
     ·rw [cnt_out eJ] at g9
      refine⟨xc,xc,mm,xc,g9,xc,W0 ⟨⟨xc⟩,sv,iE,?_,k9⟩⟩
      rw[nn]
      congr 2
      refine zgy λz hz=>?_
      rw[Ql hj]
      have ax:z≠en.2.1[j]:=λe=>eJ (e▸hz)
      by_cases c9:z∈en.2.1.take j
      ·rw[if_pos c9,if_pos (YG c9)]
      ·rw[if_neg c9,if_neg (λh=>(Qk.mp h).elim c9 λh=>ax (LU h))]
    ·rintro σ H9 ⟨⟨x4,rfl⟩,sv,iE,nn,k9⟩
     refine⟨_,ny,D++[y],kf,rfl,⟨_,xc⟩,?_,iE,PD',nr,hkf,k9⟩
     rw[nn]
     congr 2
     refine zgy λz _=>?_
     rw[Qa,Qt GV,←hry]
     exact dg_snoc rn sy pk z
end
end K21
end
section
namespace Wb
open PySem L2
def IsMex(us:List Int)(n:Nat):Prop:=(n:Int)∉us∧∀m:Nat,m<n→(m:Int)∈us
def IsMex.one{us lH:List Int}{n m:Nat}(h:∀z,z∈us↔z∈lH)(a:IsMex us n)(b:IsMex lH m):n=m:=by
 rcases Nat.lt_trichotomy n m with z | z | z
 ·exact absurd ((h _).mpr (b.2 n z)) a.1
 ·exact z
 ·exact absurd ((h _).mp (a.2 m z)) b.1
def mex_ex(us:List Int):∃n,n≤us.length∧IsMex us n:=by
 have h1:∃n,n≤us.length∧(n:Int)∉us:=by
  refine Ks λh=>?_
  have all:∀n,n≤us.length→(n:Int)∈us:=λn hn=>Ks λz=>h ⟨n,hn,z⟩
  have nd:((Ro (us.length+1)).map λn:Nat=>(n:Int)).Nodup:=Ur.mpr (List.nodup_range.imp λh e=>h (Int.ofNat.inj e))
  have:=nd.length_le_of_subset (l₂:=us) λz hz=>by
   obtain⟨n,hn,rfl⟩:=Qh.mp hz
   exact all n (Nat.le_of_lt_succ (Wh.mp hn))
  rw[Qa,Yj]at this
  exact absurd this (Nat.not_succ_le_self _)
 obtain⟨n,hn⟩:=h1
 induction n using Nat.strongRecOn with
 | ind n ih =>
  by_cases h:∃m,m<n∧(m:Int)∉us
  ·obtain ⟨m,hm,hmu⟩:=h
   exact ih m hm ⟨Ze (Wu hm) hn.1,hmu⟩
  ·exact⟨n,hn.1,hn.2,λm hm=>Ks λz=>h ⟨m,hm,z⟩⟩
noncomputable def mex(us:List Int):Nat:=Classical.choose (mex_ex us)
def mex_is(us:List Int):IsMex us (mex us):=(Kb (mex_ex us)).2
def mex_eq(h:∀z,z∈us↔z∈lH):mex us=mex lH:=(mex_is us).one h (mex_is lH)
end Wb
namespace K21
open PySem L2 Wb
abbrev sFree:Stmt:=top 2
def ndFr:(["other", "hues"]:List Str).Nodup:=by decide +kernel
def inV_int{x:Int}{zs:List Int}:inV (Ht x) (zs.map V.int)=decide (x∈zs):=by
 unfold inV
 rw[Yw,Yb,decide_eq_true_iff]
 constructor
 ·rintro ⟨v,hv,e⟩
  obtain⟨y,hy,rfl⟩:=Qh.mp hv
  have e':y=x:=eq_of_beq e
  rw[←e'];exact hy
 ·exact λh=>⟨_,Ts ⟨x,h,rfl⟩,CM x⟩
def flat_ints(zs:List Int):(zs.map V.int).all zdl=true:=Ug.mpr λv hv=>by
 obtain⟨y,_,rfl⟩:=Qh.mp hv
 rfl
noncomputable def frV(us:List Int)(many:Nat):V:=if mex us<many then .int (mex us:Nat) else .non
inductive IspFree(C:Nb)(vs:List V)(H:Hp)(Q:VK):Prop
 |mk (x dx d u:Nb) (es:List Ent) (e:Ent) (D:Ng) (F:Str→Int) (many:Nat) (h0:vs=[.ref x,.ref u,.str e.1,.int many]) (h1:WAt H C x dx d es) (h2:H u=some (.dK (cnt D F))) (h3:e∈es) (h4:e.2.1.length≤100) (h5:many≤100)
  (h7:∀H',Keep [] H H'→Q (frV ((e.2.1.filter λz=>decide (z∈D)).map F) many) H'):IspFree C vs H Q
def spFree(C:Nb):Sp:=λvs H Q _=>IspFree C vs H Q
section
variable{P:Nk}{w:Nl}{K:Na}{mg:Nd}{base:No}
def scFree:zak ["web", "hues", "place", "many", "around", "hue"] ["web", "hues", "place", "many"] (zai sFree):=fsk
def ok_free{f C fr:Nb}{fd fdr:Nv}(F:QD "free_hue" "free_hue" sFree f fd)(cW:VB C)(mR:BP "round_of" fr)(bR:WK fdr ["self", "place"] [])(GR:ZB 1 fr fdr ["self", "place"] IN)(aV:mg "range" = none):ZB 2 f fd ["web", "hues", "place", "many"] Oi:=by
 refine F.okL scFree Gn
 obtain⟨x,dx,d,u,es,e,D,G,many,rfl,wt,hd,he,f7,hmy,k⟩:=h
 have hu:=zcd hr
 have ar:sizeLine=16777216:=sizeLine_eq
 refine⟨_,zad (ps_lc (i:=4) (M:=["other", "hues"]) (ix:=[none,Gz 1]) scFree.nd rfl rfl (mkB scFree) rfl (Iw (ze8 (pl:=_) Rj cW mR GR hr bR .nil zcq RV)) (λC a5 ex s H=>JA ndFr)
    (λC a5 ex s H=>zcs (Ic (by exact hu) Rj)) (λC a5 ex s H=>zbz (by exact hu) HQ Rj) rfl)
  (zad (Z0 (Bp SH) (XI scFree.nd)
   (zag (OG (Fk RD Rx rfl) (zag Oe))))
  (zag (zax zhi))),?_⟩
 refine⟨xc,x,dx,xc,wt.ob,rfl,xc,x,dx,d,es,e,rfl,wt,he,λq hq=>?_⟩
 have k1:Keep [] H (ZS q HU):=Keep.new hq
 have da:(ZS q HU) q=some HU:=zab
 generalize ZS q HU=H1 at k1 da
 have li:=k1 _ _ hd Gf
 refine⟨q,rfl,⟨_,Gs da⟩,λi m ys τ H'=>Aj5 (m=e.2.1.length-i) (i≤e.2.1.length) (Ex1 λx0=>τ=[x0,yp]) (H'=H1) (ys=(((e.2.1.take i).filter λz=>decide (z∈D)).map G).map V.int),
  ⟨e.2.1.length,rfl,RP,⟨none,rfl⟩,rfl,rfl⟩,?_⟩
 rintro i m ys τ H' ⟨rfl,hi,⟨x0,rfl⟩,rfl,rfl⟩
 by_cases ad:i<e.2.1.length
 ·have ic:=Wg (fun z=>decide (z∈D)) (e.2.1.take i)
  rw[Zq]at ic
  refine .inr ⟨⟨_,.str e.2.1[i],Gs da,by rw[Qo,Qd ad];rfl⟩,by rw[Qa,Qa];lia,?_⟩
  rintro v H3 ⟨rfl,hv⟩
  have aY:=hv _ (Gs da)
  rw[Qo,Qd ad]at aY
  obtain rfl:V.str e.2.1[i]=v:=Qn aY
  have g:=DGet.k (k:=Sum.inr e.2.1[i]) li
  by_cases hz:e.2.1[i]∈D
  ·rw [cnt_in hz] at g
   refine⟨xc,xc,u,xc,g,xc,UL ⟨xc,xc,u,xc,g,e.2.1.length-Hj,Ha,rfl,ad,⟨xc⟩,rfl,?_⟩⟩
   rw[Ql ad,Yx,Zs IL,Wo,Qp,Qp];rfl
  ·rw [cnt_out hz] at g
   refine⟨xc,xc,u,xc,g,xc,W0 ⟨e.2.1.length-Hj,Ha,rfl,ad,⟨xc⟩,rfl,?_⟩⟩
   rw[Ql ad,Yx,Zt IL,Wo,Zx]
 ·have cp:i=e.2.1.length:=by exact zar3 ‹_› ‹_›
  subst cp
  refine .inl ⟨⟨_,Gs da,Hx Qa⟩,λL hL=>?_⟩
  rw[Qt GV]
  generalize pC:(e.2.1.filter λz=>decide (z∈D)).map G=us at k
  have k2:Keep [] H (YI L Li):=k1.trans (Gx hL)
  have hL2:(YI L Li) L=some Li:=zab
  generalize YI L Li=H2 at k2 hL2
  have pX:=mex_is us
  refine⟨xc,many,rfl,Gg,Gg,zcw (λi σ H'=>Aj3 (H'=H2) (Ex1 λx5=>σ=[Ih,yp,C2,Gz (.int many),Gh L,x5]) (∀m:Nat,m<i→(m:Int)∈us)) ⟨rfl,⟨_,rfl⟩,λm hm=>absurd hm (Xp _)⟩ ?_ ?_⟩
  ·rintro i σ H3 hi ⟨rfl,⟨x5,rfl⟩,aW⟩
   have ei:(0:Int)+(i:Int)=(i:Int):=by lia
   rw[ei]
   refine⟨xc,xc,L,xc,Se hL2,rfl,flat_ints us,xc,?_⟩
   by_cases aB:(i:Int)∈us
   ·refine zbk (by rw [CZ,inV_int,HJ aB];rfl) ⟨rfl,⟨_,rfl⟩,fun m hm=>?_⟩
    rcases Nat.lt_succ_iff_lt_or_eq.mp hm with z | z
    ·exact aW m z
    ·rw[z];exact aB
   ·refine zbt (by rw [CZ,inV_int,Sc aB];rfl) ⟨_,rfl,?_⟩
    have:mex us=i:=pX.one (λ_=>Iff.rfl) ⟨aB,aW⟩
    unfold frV at k
    rw[this,if_pos (show i<many by lia)]at k
    exact k _ k2
  ·rintro σ H3 ⟨rfl,⟨x5,rfl⟩,aW⟩
   unfold frV at k
   rw[if_neg λz=>pX.1 (aW _ Gg)]at k
   exact k _ k2
end
end K21
end
section
namespace Wb
open PySem L2
section
variable{α β:Type}
structure Bud(f:Nat→Option α×Nat)(R:Option α)(N b:Nat):Prop where
 le:N≤b
 is:∀m,f m=if N≤m then(R,N) else(none,m)
def goB:List (Nat→Option α×Nat)→Nat→Nat→Option α×Nat
 |[],_,s=>(none,s)
 |g::t,m,s=>if s=m then(none,s) else match g (m-s-1) with
  |(some a,n)=>(zU,s+1+n)
  |(none,n)=>V2 (s+1+n)
theorem goB_end:∀(t:Sg (Nat→Option α×Nat)) (m:Nat),V2 m=(none,m)
 |[],_=>rfl
 |_::_,_=>if_pos rfl
theorem goB_bud:∀{gs:List (Nat→Option α×Nat)},(∀g∈gs,∃R N,Bud g R N b)→∃R N,N≤gs.length*(b+1)∧∀m s,s≤m→goB gs m s=if s+N≤m then(R,s+N) else(none,m)
 |[],_=>⟨none,0,Zb _,λm s h=>by
  show(none,s)=_
  rw[if_pos Gg];rfl⟩
 | g::t,h=>by
  obtain⟨R1,N1,l1,e1⟩:=h g Qb
  obtain⟨R2,N2,l2,e2⟩:=goB_bud λg hg=>h g (QK hg)
  have hl:(g::t).length*(b+1)=t.length*(b+1)+(b+1):=by rw[Qu,Nat.add_mul,Nat.one_mul]
  cases R1 with
  | some a =>
   refine⟨zU,1+N1,GK hl,λm s hs=>?_⟩
   show(if s=m then(none,s) else match g (m-s-1) with | (some a,n)=>(some a,s+1+n) | (none,n)=>goB t m (s+1+n))=_
   by_cases hm:s=m
   ·rw[if_pos hm,if_neg Gg,hm]
   ·rw [Rm hm,e1]
    by_cases hn:N1≤m-s-1
    ·rw [Rv hn,Rv Gg]
     show(zU,s+1+N1)=(zU,s+(1+N1))
     rw[Nat.add_assoc]
    ·rw [Rm hn,ym]
     show V2 (s+1+(m-s-1))=_
     rw[show s+1+(m-s-1)=m by lia,goB_end]
  | none =>
   refine⟨R2,1+N1+N2,GK hl,λm s hs=>?_⟩
   show(if s=m then(none,s) else match g (m-s-1) with | (some a,n)=>(some a,s+1+n) | (none,n)=>goB t m (s+1+n))=_
   by_cases hm:s=m
   ·rw[if_pos hm,if_neg Gg,hm]
   ·rw [Rm hm,e1]
    by_cases hn:N1≤m-s-1
    ·rw [Rv hn]
     show V2 (s+1+N1)=_
     rw[e2 _ _ Gg]
     by_cases h2:s+1+N1+N2≤m
     ·rw[if_pos h2,if_pos Gg,show s+1+N1+N2=s+(1+N1+N2) by lia]
     ·rw[if_neg h2,if_neg Gg]
    ·rw [Rm hn,ym]
     show V2 (s+1+(m-s-1))=_
     rw[show s+1+(m-s-1)=m by lia,goB_end]
end
noncomputable def chH(c:Str→Prop):List Str:=open Classical in if h:∃L:List Str,L.Nodup∧L.Pairwise leS∧∀y,y∈L↔c y then Classical.choose h else[]
def chH_eq(nd:zs.Nodup)(so:zs.Pairwise leS)(hm:∀y,y∈zs↔c y):zs=chH c:=by
 have h:∃L:List Str,L.Nodup∧L.Pairwise leS∧∀y,y∈L↔c y:=⟨zs,nd,so,hm⟩
 unfold chH
 rw[dif_pos h]
 obtain⟨h1,h2,h3⟩:=Kb h
 exact sorted_one ((Jb nd h1).mpr λy=>(hm y).trans (h3 y).symm) so h2
def chH_nd(c:Str→Prop):(chH c).Nodup:=by
 unfold chH
 split
 ·rename_i h;exact(Kb h).1
 ·exact Zm
def chH_mem(h:y∈chH c):c y:=by
 unfold chH at h
 split at h
 ·rename_i z;exact((Kb z).2.2 y).mp h
 ·cases h
end Wb
namespace K21
open PySem L2 Wb
def hu(hs:List (Str×Int))(z:Str):Int:=match hueV hs z with
 |.int n=>n
 |_=>0
abbrev Swap:=Str×Int×List Str
noncomputable def chN(r:Nq)(hs:List Hi)(q:Str×Int):List Str:=chH (Conn (λz=>(r z).filter (tw hs (J1 q.1) q.2)) q.1)
noncomputable def swN(r:Nq)(hs:List Hi)(q:Str×Int):Swap:=(q.1,q.2,chN r hs q)
def exN(hs:List Hi)(w:Swap):List Hi:=ex w.2.2 (J1 w.1) w.2.1 hs
def usN(r:Nq)(hs:List Hi)(x:Str):List Int:=((r x).filter λz=>decide (z∈hs.map (·.1))).map (hu hs)
noncomputable def trN(r:Nq)(hs:List Hi)(x:Str):List Hi:=((chH (·∈r x)).filter λs=>decide (s∈hs.map (·.1))).flatMap λs=>(([0,1,2,3]:List Int).filter λo=>!decide (o=J1 s)).map λo=>(s,o)
noncomputable def onN(r:Nq)(hs:List Hi)(x:Str)(m:Nat):Option Io×Nat:=goB ((Br x).map λq _=>(if mex (BH x)<4 then some [ya] else none,0)) m 0
noncomputable def twN(r:Nq)(hs:List Hi)(x:Str)(m:Nat):Option Io×Nat:=goB ((Br x).map λq b=>((Z3 b).1.map (swN r hs q::·),(Z3 b).2)) m 0
noncomputable def fsN(r:Nq)(hs:List Hi)(x:Str)(m:Nat):Option Io×Nat :=
 if mex (usN r hs x)<4 then(some [],0) else match onN r hs x m with
  |(some L,n)=>(Gz L,n)
  |(none,n)=>((WR (m-n)).1,n+(WR (m-n)).2)
abbrev Step:=Str×Int×List Swap
noncomputable def cbN(r:Nq)(hs:List Hi)(x:Str)(L:List Swap):List Hi:=ZZ hs++[(x,(mex PV:Int))]
noncomputable def fpN(r:Nq):List Str→List Hi→Nat→Nat→Option (List Step)×Nat
 |[],_,_,s=>(some [],s)
 |x::t,hs,m,s=>match fsN r hs x (m-s) with
  |(none,n)=>(none,s+n)
  |(some L,n)=>((WT (s+n)).1.map ((x,(mex PV:Int),L)::·),(WT (s+n)).2)
def tr_len(h:(r x).length≤d):(Br x).length≤d*4:=by
 unfold trN
 have h1:((chH (·∈r x)).filter λs=>decide (s∈hs.map (·.1))).length≤d:=by
  refine XJ (Ze (zck (chH_nd _) λy hy=>?_) h)
  exact chH_mem hy
 generalize(chH (·∈r x)).filter (λs=>decide (s∈hs.map (·.1)))=l at h1
 refine Ze ?_ (Nat.mul_le_mul_right 4 h1)
 clear h1
 induction l with
 |nil=>exact Zb _
 |cons a t ih =>
  rw[List.flatMap_cons,Qz,Qa,Qu,Nat.add_mul,Nat.one_mul]
  have:=Wg (λo=>!decide (o=J1 a)) ([0,1,2,3]:List Int)
  have h4:([0,1,2,3]:List Int).length=4:=rfl
  lia
def on_bud(h:(r x).length≤16):∃R N,Bud (onN r hs x) R N 64:=by
 obtain⟨R,N,l,e⟩:=goB_bud (b:=0) (gs:=(Br x).map λq _=>(if mex (BH x)<4 then some [ya] else none,0)) λg hg=>by
  obtain⟨q,_,rfl⟩:=Qh.mp hg
  exact⟨_,0,GV,λm=>by rw[if_pos RP]⟩
 have:=tr_len (hs:=hs) h
 rw[Qa]at l
 refine⟨R,N,Gg,λm=>?_⟩
 have:=e m 0 RP
 rw[Nat.zero_add]at this
 exact this
def tw_bud(h:(r x).length≤16):∃R N,Bud (twN r hs x) R N 4160:=by
 obtain⟨R,N,l,e⟩:=goB_bud (b:=64) (gs:=(Br x).map λq b=>((Z3 b).1.map (swN r hs q::·),(Z3 b).2)) λg hg=>by
  obtain⟨q,_,rfl⟩:=Qh.mp hg
  obtain⟨R,N,l,e⟩:=on_bud (r:=r) (hs:=Y6 ya) h
  refine⟨R.map (swN r hs q::·),N,l,λm=>?_⟩
  show((Z3 m).1.map (swN r hs q::·),(Z3 m).2)=_
  rw[e]
  by_cases h:N≤m
  ·rw[if_pos h,if_pos h]
  ·rw[if_neg h,if_neg h];rfl
 have:=tr_len (hs:=hs) h
 rw[Qa]at l
 refine⟨R,N,Gg,λm=>?_⟩
 have:=e m 0 RP
 rw[Nat.zero_add]at this
 exact this
def tw_zero(r:Nq)(hs:List Hi)(x:Str):WR 0=(none,0):=goB_end _ 0
def fs_bud(h:(r x).length≤16):∃ R N,Bud (fsN r hs x) R N 4224:=by
 by_cases h0:mex (usN r hs x)<4
 ·exact⟨some [],0,Gj,λm=>by unfold fsN;rw[if_pos h0,if_pos (Nat.zero_le _)]⟩
 obtain⟨R1,N1,l1,e1⟩:=on_bud (hs:=hs) h
 obtain⟨R2,N2,l2,e2⟩:=tw_bud (hs:=hs) h
 cases R1 with
 | some L =>
  refine⟨Gz L,N1,Gg,λm=>?_⟩
  unfold fsN
  rw[if_neg h0,e1]
  by_cases hm:N1≤m
  ·rw[if_pos hm]
  ·rw [Rm hm]
   show((WR (m-m)).1,m+(WR (m-m)).2)=_
   rw[Kl,tw_zero];rfl
 | none =>
  refine⟨R2,N1+N2,Gg,λm=>?_⟩
  unfold fsN
  rw[if_neg h0,e1]
  by_cases hm:N1≤m
  ·rw [Rv hm]
   show((WR (m-N1)).1,N1+(WR (m-N1)).2)=_
   rw[e2]
   by_cases h2:N2≤m-N1
   ·rw[if_pos h2,if_pos Gg]
   ·rw [Rm h2,ym]
    show(none,N1+(m-N1))=(none,m)
    rw[show N1+(m-N1)=m by lia]
  ·rw [Rm hm,ym]
   show((WR (m-m)).1,m+(WR (m-m)).2)=_
   rw[Kl,tw_zero];rfl
theorem fp_bud:∀{xs:Ng} {hs:List Hi},(∀x∈xs,(r x).length≤16)→∃R N,N≤4224*xs.length∧∀m s,s≤m→Ve hs m s=if s+N≤m then(R,s+N) else(none,m)
 |[],hs,_=>⟨some [],0,Zb _,λm s h=>by
  show(some [],s)=_
  rw[if_pos Gg];rfl⟩
 | x::t,hs,h=>by
  obtain⟨R1,N1,l1,e1⟩:=fs_bud (hs:=hs) (h x Qb)
  have hl:4224*(x::t).length=4224*t.length+4224:=by rw[Qu,Nat.mul_add]
  cases R1 with
  | none =>
   refine⟨none,N1,Gg,λm s bv=>?_⟩
   show(match fsN r hs x (m-s) with | (none,n)=>(none,s+n) | (some L,n)=>_)=_
   rw[e1]
   by_cases hm:N1≤m-s
   ·rw[if_pos hm,if_pos Gg]
   ·rw [Rm hm,ym]
    show(none,s+(m-s))=_
    rw[show s+(m-s)=m by lia]
  | some L =>
   obtain⟨R2,N2,l2,e2⟩:=fp_bud (hs:=UG L) λy hy=>h y Ll
   refine⟨R2.map ((x,(mex PV:Int),L)::·),N1+N2,Gg,λm s bv=>?_⟩
   show(match fsN r hs x (m-s) with | (none,n)=>(none,s+n) | (some L,n)=>((fpN r t (cbN r hs x L) m (s+n)).1.map ((x,(mex (usN r (L.foldl exN hs) x):Int),L)::·),(fpN r t (cbN r hs x L) m (s+n)).2))=_
   rw[e1]
   by_cases hm:N1≤m-s
   ·rw [Rv hm]
    show((WT (s+N1)).1.map ((x,(mex PV:Int),L)::·),(WT (s+N1)).2)=_
    rw[e2 _ _ Gg]
    by_cases h2:s+N1+N2≤m
    ·rw[if_pos h2,if_pos Gg,show s+(N1+N2)=s+N1+N2 by lia]
    ·rw[if_neg h2,if_neg Gg];rfl
   ·rw [Rm hm,ym]
    show(none,s+(m-s))=_
    rw[show s+(m-s)=m by lia]
end K21
end
section
namespace K21
open PySem L2 Wb
abbrev sSwapOf:Stmt:=top 22
abbrev zh9:Stmt:=top 23
structure WOk(es:List Ent):Prop where
 few:es.length≤16
 rl:∀e∈es,e.2.1.length≤16
 cl:∀z y,y∈ZJ z→y∈es.map (·.1)
 rn:∀y,(ZJ y).Nodup
 sy:∀a b,b∈ZJ a→a∈ZJ b
inductive SwAt(B H:Hp)(a:Nb)(w:Swap):Prop
 |mk (l:Nb) (h0:B l=none) (h1:H a=some (.tup [.str w.1,.int w.2.1,.ref l])) (h2:H l=some (.lst (w.2.2.map V.str))):SwAt B H a w
def SwAt.keep(h:KR w)(k:Keep [] H H'):SwAt B H' a w:=by
 obtain⟨l,h0,h1,h2⟩:=h
 exact⟨l,h0,Ij h1,Ij h2⟩
def SwAt.old(h:KR w)(k:Keep [] B' B):SwAt B' H a w:=by
 obtain⟨l,h0,h1,h2⟩:=h
 exact⟨l,zu k h0,h1,h2⟩
def HAt.hf(h:HAt H u hs):HF H u hs:=⟨.inl h.dc,h.nd⟩
def hu_in(nd:(hs.map (·.1)).Nodup)(h:e∈hs):J1 e.1=e.2:=by
 unfold hu hueV
 rw[zeb nd h];rfl
def hu_at(nd:(hs.map (·.1)).Nodup)(h:s∈hs.map (·.1)):(s,J1 s)∈hs:=by
 obtain⟨e,he,rfl⟩:=Qh.mp h
 rw[hu_in nd he];exact he
def tw_key(h:tw hs a b y=true):y∈hs.map (·.1):=by
 refine Jg λz=>?_
 unfold tw hueV at h
 rw[zh2 z]at h
 cases h
def ch_key(hq:q.1∈hs.map (·.1))(h:y∈chN r hs q):y∈hs.map (·.1):=by
 have c:=chH_mem h
 induction c with
 |refl=>exact hq
 |step _ hz _=>exact tw_key (IU hz).2
def zf5(hs:List Hi)(w:Swap):(Y6 w).map (·.1)=hs.map (·.1):=ex_keys ..
inductive IspSwapOf(C:Nb)(vs:List V)(H:Hp)(Q:VK):Prop
 |mk (x dx d u:Nb) (es:List Ent) (hs:List (Str×Int)) (s:Str) (o:Int) (h0:vs=[.ref x,.ref u,.str s,.int o]) (h1:WAt H C x dx d es) (h2:WOk es) (h3:HAt H u hs) (h4:∀x∈hs.map (·.1),x∈es.map (·.1)) (h5:s∈hs.map (·.1)) (h6:o≠hu hs s) (h7:0≤o)
  (h8:∀(a:Nb) (H':Hp),SwAt H H' a (ZP (s,o))→H a=none→Keep [] H H'→Q Rg H'):Ga Q
def zh5(C:Nb):Sp:=λvs H Q _=>Ga Q
inductive zhw(vs:List V)(H:Hp)(Q:VK):Prop
 |mk (B:Hp) (u a:Nb) (hs:List (Str×Int)) (w:Swap) (h0:vs=[.ref u,.ref a]) (h1:HAt H u hs) (h2:SwAt B H a w) (h3:w.1∈hs.map (·.1)) (h4:∀y∈w.2.2,y∈hs.map (·.1)) (h5:hs.length≤16)
  (h8:∀(t:Nb) (H':Hp),H t=none→Mt t (Y6 w)→Keep [] H H'→Q TK H'):zhw vs H Q
def zek:Sp:=λvs H Q _=>zhw vs H Q
section
variable{P:Nk}{w:Nl}{K:Na}{mg:Nd}{base:No}
def scSwapOf:zak ["web", "hues", "start", "other"] ["web", "hues", "start", "other"] (zai sSwapOf):=fsk
def ok_swapof(F:QD "swap_of" "swap_of" sSwapOf f fd)(GC:ZK "chain" ["web", "hues", "start", "other"] 2 (spChain C)) :
  FnOk P w K mg base CX0 3 f fd ["web", "hues", "start", "other"] (zh5 C):=by
 refine F.okL scSwapOf GQ
 obtain⟨x,dx,d,u,es,hs,s,o,rfl,wt,W,hh,hk,hsk,ho,ho0,kq⟩:=h
 refine⟨_,zag (LB (ZX (QC (Hz (SE GC hr (ZX (QC zae))))))),?_⟩
 refine⟨xc,xc,xc,xc,xc,xc,x,dx,d,u,es,hs,s,J1 s,o,rfl,wt,Ze W.few Gj,λe he=>XN Gj,W.cl,hh.hf,VH hsk,hk _ hsk,ho,ho0,λl zs H1 hl cY cx cz fl k1=>⟨(Gi 3),λt ht=>?_⟩⟩
 have e:zs=chN Hw hs (s,o):=chH_eq cY cx cz
 refine kq t _ ⟨l,fl,zab,?_⟩ (zu k1 ht) (SQ (Gx ht))
 rw[zaf (zac hl ht),hl,e];rfl
def zen:zak ["hues", "swap", "start", "other", "places"] ["hues", "swap"] (zai zh9):=fsk
def ok_swapped(F:QD "swapped" "swapped" zh9 f fd)(GE:ZK "exchanged_in" ["hues", "places", "one", "other"] 1 spExIn) :
  FnOk P w K mg base CX0 2 f fd ["hues", "swap"] zek:=by
 refine F.okL zen GQ
 obtain⟨_,u,a,hs,w',rfl,hh,⟨l,_,ha,hl⟩,hw1,hw2,iL,kq⟩:=h
 have dC:=zcd hr
 refine⟨_,zad (zd6 HQ (Lz (MQ zen.nd) (zaj (Di zen.nd) (SX (MS zen.nd)))))
  (zag (zax (LM GE hr (Q8 (zaa (zbz dC Rj Rz) SH))))),?_⟩
 refine⟨xc,a,xc,Hy ha,rfl,_,xc,_,xc,_,xc,rfl,?_⟩
 have g:=hh.hf.get (Sum.inr w'.1)
 rw[Vx (e:=(w'.1,J1 w'.1)) (VH hw1)]at g
 exact⟨xc,xc,xc,xc,u,xc,g,xc,u,l,hs,w'.2.2,J1 w'.1,w'.2.1,rfl,hh.hf,hl,hw2,Ze iL Gj,λt H' ht h' k'=>kq t H' ht h' k'⟩
end
abbrev sTries:Stmt:=top 27
abbrev PSI(H:Hp):List Addr→List Hi→Prop:=Paired λa q=>H a=some (.tup [.str q.1,.int q.2])
def PSI.keep(h:PSI H as qs)(k:Keep [] H H'):Gb qs:=Paired.imp' (λ_ _ z=>k _ _ z Gf) h
def four_take(h:j<4):([0,1,2,3]:List Int).take (j+1)=([0,1,2,3]:List Int).take j++[(0:Int)+(j:Int)]:=by
 match j,h with
 |0,_=>rfl
 |1,_=>rfl
 |2,_=>rfl
 |3,_=>rfl
def ndTa:(["start", "hues"]:List Str).Nodup:=by decide +kernel
def ndTb:(["start", "other", "hues"]:List Str).Nodup:=by decide +kernel
inductive IspTries(C:Nb)(vs:List V)(H:Hp)(Q:VK):Prop
 |mk (x dx d u:Nb) (es:List Ent) (hs:List (Str×Int)) (e:Ent) (h0:vs=[.ref x,.ref u,.str e.1]) (h1:WAt H C x dx d es) (h2:WOk es) (h3:HAt H u hs) (h4:e∈es)
  (h8:∀(l:Nb) (as:Nn) (H':Hp),H' l=some HW→Gb (W2 e.1)→Keep [] H H'→Q RH H'):IspTries C vs H Q
def spTries(C:Nb):Sp:=λvs H Q _=>IspTries C vs H Q
section
variable{P:Nk}{w:Nl}{K:Na}{mg:Nd}{base:No}
def zh8:zak ["web", "hues", "place", "starts"] ["web", "hues", "place"] (zai sTries):=fsk
def ok_tries(F:QD "tries" "tries" sTries f fd)(cW:VB C)(mR:BP "round_of" fr)(bR:WK fdr ["self", "place"] [])(GR:ZB 1 fr fdr ["self", "place"] IN)(aR:mg "sorted" = none)(aV:mg "range" = none)(hF:mg "FOUR" = some O9):ZB 2 f fd ["web", "hues", "place"] AX:=by
 refine F.okL zh8 GQ
 obtain⟨x,dx,d,u,es,hs,e,rfl,wt,W,hh,he,kq⟩:=h
 have dC:=zcd hr
 have ar:=sizeLine_eq
 refine⟨_,zad (ps_lc (i:=3) (M:=["start", "hues"]) (ix:=[none,Gz 1]) zh8.nd rfl rfl (mkB zh8) rfl (zao (Cs zft (Hz (ze8 (pl:=_) Rj cW mR GR hr bR .nil zcq RV)))) (λC a5 ex s H=>JA ndTa)
    (λC a5 ex s H=>zcs (Ic (by exact dC) Rj)) (λC a5 ex s H=>pv 0) rfl)
  (zag (zax (pe_lc2 (M:=["start", "other", "hues"]) (ix:=[none,none,Gz 1]) (mkB zh8) rfl (Iw RA) (λC a5 ex s H=>JA ndTb)
    (λC a5 ex s H=>zci rfl (by exact aV) (Hz (zgj (v:=.int 4) rfl (by exact hF) ⟨tk,rfl⟩))) (λC a5 ex s H=>zam 1 ndTb)
    (λC a5 ex s H=>zcs (Bc HQ (zq (by exact dC) Rz) RE)) (λC a5 ex s H=>zbo (ZQ RZ))))),?_⟩
 have dL:ZJ e.1=e.2.1:=Vf he
 have f7:=KS he
 refine⟨xc,x,dx,xc,wt.ob,rfl,xc,x,dx,d,es,e,rfl,wt,he,λq hq=>?_⟩
 refine⟨q,e.2.1,rfl,Th,λl1 ws aE aj aQ=>?_⟩
 have ay:ws.Nodup:=aj.nodup_iff.mpr (dL▸W.rn e.1)
 have ews:ws=chH (·∈ZJ e.1):=chH_eq ay (aQ Gg) λy=>by rw[dL];exact aj.mem_iff
 have dz:ws.length≤16:=by rw[aj.length_eq];exact f7
 have k1:Keep [] H (UH Re):=(Gx hq).trans (Gx aE)
 have g1:(UH Re) l1=some Re:=zab
 generalize UH Re=H1 at k1 g1
 have nN:HAt H1 u hs:=hh.keep k1 Gf
 refine⟨l1,rfl,⟨_,SqL.of g1⟩,zfd (xs:=ws.map V.str) (λ τ=>∃x0,τ=[x0,some (.ref u)]) (λv=>match v with | .str z=>decide (z∈hs.map (·.1)) | _=>false) (SqL.of g1) (by rw[Qa];lia) ⟨none,rfl⟩ ?_ (λsl pL=>?_)⟩
 ·rintro v hv τ ⟨x0,rfl⟩ q1 q0 h1 h0
  obtain⟨z,hz,rfl⟩:=Qh.mp hv
  have gz:=nN.hf.get OU
  refine⟨xc,xc,u,xc,gz,xc,?_⟩
  by_cases hk:z∈hs.map (·.1)
  ·rw [Vx (e:=(z,J1 z)) (VH hk)]
   exact iteT ⟨_,rfl,h1 (HJ hk) _ ⟨_,rfl⟩⟩
  ·rw [zh2 hk]
   exact iteF (h0 (Sc hk) _ ⟨_,rfl⟩)
 have ef:(ws.map V.str).filter (λv=>match v with | .str z=>decide (z∈hs.map (·.1)) | _=>false)=(ws.filter λz=>decide (z∈hs.map (·.1))).map V.str:=Jn
 rw[ef]
 have etr:W2 e.1=(ws.filter λz=>decide (z∈hs.map (·.1))).flatMap λs=>(([0,1,2,3]:List Int).filter λo=>!decide (o=J1 s)).map λo=>(s,o):=by unfold trN;rw[←ews]
 rw[etr]at kq
 have aq:∀y∈ws.filter (λz=>decide (z∈hs.map (·.1))),y∈hs.map (·.1):=λy hy=>of_decide_eq_true (IU hy).2
 have rV:(ws.filter λz=>decide (z∈hs.map (·.1))).length≤16:=XJ dz
 generalize ws.filter (λz=>decide (z∈hs.map (·.1)))=S at kq aq rV
 have k2:Keep [] H (QJ sl Ly):=k1.trans (Gx pL)
 have g2:(QJ sl Ly) sl=some Ly:=zab
 generalize QJ sl Ly=H2 at k2 g2
 have tt:HAt H2 u hs:=hh.keep k2 Gf
 refine⟨_,rfl,sl,rfl,⟨_,Gs g2⟩,λi m ys τ H'=>Aj5 (m=S.length-i) (i≤S.length) (Ex2 λx0 x1=>τ=[x0,x1,yp]) (Keep [] H2 H') (Ex1 λas:List Addr=>Aj3 (ys=as.map V.ref) (as.length≤4*i) (Gb ((S.take i).flatMap λs=>(([0,1,2,3]:List Int).filter λo=>!decide (o=J1 s)).map λo=>(s,o)))),
  ⟨S.length,rfl,RP,⟨none,none,rfl⟩,Keep.refl,[],rfl,RP,.nil⟩,?_⟩
 rintro i m ys τ H3 ⟨rfl,hi,⟨x0,x1,rfl⟩,k3,as,rfl,bo,pa⟩
 have g3:=k3 _ _ g2 Gf
 by_cases ad:i<S.length
 ·refine .inr ⟨⟨_,.str S[i],Gs g3,by rw [Qo,Qd ad];rfl⟩,?_⟩
  rintro v H4 ⟨rfl,hv⟩
  have aY:=hv _ (Gs g3)
  rw[Qo,Qd ad]at aY
  obtain rfl:V.str S[i]=v:=Qn aY
  have pN:=aq _ (Qs ad)
  have tk:S.take Hj=S.take i++[S[i]]:=Ql ad
  generalize S[i]=s at pN tk
  refine⟨(4:Int),rfl,Gj,Gg,?_⟩
  refine⟨λj m2 ys τ H2'=>Aj5 (m2=4-j) (j≤4) (Ex1 λx1=>τ=[SK s,x1,yp]) (Keep [] H2 H2') (Ex1 λas:List Addr=>Aj3 (ys=as.map V.ref) (as.length≤4*i+j) (PSI H2' as (((S.take i).flatMap λs=>(([0,1,2,3]:List Int).filter λo=>!decide (o=J1 s)).map λo=>(s,o))++((([0,1,2,3]:List Int).take j).filter λo=>!decide (o=J1 s)).map λo=>(s,o)))),
   ⟨4,rfl,RP,⟨_,rfl⟩,k3,as,rfl,bo,Gk pa⟩,?_⟩
  rintro j m2 ys τ H5 ⟨rfl,hj,⟨x1',rfl⟩,k5,dl,rfl,oy,qJ⟩
  by_cases dQ:j<4
  ·refine .inr ⟨dQ,by rw [Qa];lia,?_⟩
   rintro y H6 ⟨rfl,rfl⟩
   have gs:=(tt.keep k5 Gf).hf.get (RY s)
   rw[Vx (e:=(s,J1 s)) (VH pN)]at gs
   have aJ:=four_take dQ
   refine⟨xc,xc,xc,u,xc,gs,rfl,xc,?_⟩
   by_cases hb:(0:Int)+(j:Int)=J1 s
   ·refine zbk (by show (!decide (V.int _=V.int _))=false;rw [HJ (congrArg V.int hb)];rfl) ⟨_,Ha,rfl,dQ,⟨_,rfl⟩,k5,dl,rfl,Gg,?_⟩
    rw[aJ,Yx,Zt (by rw[decide_eq_true hb];decide),Wo,Zx];exact qJ
   ·refine zbt (by show (!decide (V.int _=V.int _))=true;rw [decide_eq_false (fun z=>hb (by injection z))];rfl) ⟨_,rfl,_,rfl,Sh,fun t ht=>⟨_,Ha,rfl,dQ,⟨_,rfl⟩,CK Tq,dl++[t],by rw [Qp];rfl,by rw [Qz];show _+1≤_;lia,?_⟩⟩
    rw[aJ,Yx,Zs (by rw[decide_eq_false hb];rfl),Wo,Qp,←Qx]
    exact zav (PSI.keep qJ Tq) (Rk zab)
  ·have ej:j=4:=by lia
   subst ej
   refine .inl ⟨GV,_,Ha,rfl,ad,⟨_,_,rfl⟩,k5,dl,rfl,Gg,?_⟩
   rw[tk,List.flatMap_append,List.flatMap_cons,List.flatMap_nil,Zx]
   exact qJ
 ·have cp:i=S.length:=by exact zar3 ‹_› ‹_›
  subst cp
  refine .inl ⟨⟨_,Gs g3,Hx Qa⟩,λD hD=>?_⟩
  rw[Qt GV]at pa
  exact kq D as _ zab (PSI.keep pa (Gx hD)) ((S5 k3).trans (Gx hD))
end
abbrev sOne:Stmt:=top 28
inductive zd4(B H:Hp)(l:Nb)(L:List Swap):Prop
 |mk (as:Nn) (h0:B l=none) (h1:H l=some (.lst (as.map V.ref))) (h2:Paired (SwAt B H) as L):zd4 B H l L
def zd4.keep(h:MU L)(k:Keep [] H H'):zd4 B H' l L:=by
 obtain⟨as,h0,h1,h2⟩:=h
 exact⟨as,h0,Ij h1,Paired.imp' (λ_ _ z=>z.keep k) h2⟩
def zd4.old(h:MU L)(k:Keep [] B' B):zd4 B' H l L:=by
 obtain⟨as,h0,h1,h2⟩:=h
 exact⟨as,zu k h0,h1,Paired.imp' (λ_ _ z=>z.old k) h2⟩
inductive ResAt(B H:Hp)(t:Nb)(p:Option (List Swap)×Nat):Prop
 |no (h0:p.1=none) (h1:H t=some (.tup [.non,.int (p.2:Nat)])):ResAt B H t p
 |yes (l:Nb) (L:List Swap) (h0:p.1=some L) (h1:H t=some (.tup [.ref l,.int (p.2:Nat)])) (h2:zd4 B H l L):ResAt B H t p
inductive IspOne(C:Nb)(vs:List V)(H:Hp)(Q:VK):Prop
 |mk (x dx d u:Nb) (es:List Ent) (hs:List (Str×Int)) (e:Ent) (m:Nat) (h0:vs=[.ref x,.ref u,.str e.1,.int (m:Int)]) (h1:WAt H C x dx d es) (h2:WOk es) (h3:HAt H u hs) (h4:e∈es) (h5:∀x∈hs.map (·.1),x∈es.map (·.1))
  (h8:∀(t:Nb) (H':Hp),NU (Z' hs e.1 m)→Keep [] H H'→Q TK H'):IspOne C vs H Q
def spOne(C:Nb):Sp:=λvs H Q _=>IspOne C vs H Q
def hs_cnt{hs:List Hi}(nd:(hs.map (·.1)).Nodup):(hs.map λe=>Gu)=cnt (hs.map (·.1)) (hu hs):=by
 unfold cnt
 rw[Zj]
 refine Zz λe he=>?_
 show((Sum.inr e.1:Key),V.int e.2)=(RO,Sy (J1 e.1))
 rw[hu_in nd he]
def zfk{r:Nq}{hs:List Hi}{x:Str}{q:Str×Int}(h:q∈Br x):q.1∈hs.map (·.1)∧q.2≠J1 q.1∧0≤q.2∧q.1∈r x:=by
 unfold trN at h
 obtain⟨s,h1,h2⟩:=List.mem_flatMap.mp h
 obtain⟨o,h3,rfl⟩:=Qh.mp h2
 have h4:=Zg.mp h1
 have h5:=Zg.mp h3
 refine⟨of_decide_eq_true h4.2,λz=>?_,?_,chH_mem h4.1⟩
 ·have h6:(!decide (o=J1 s))=true:=h5.2
  rw[decide_eq_true z]at h6;cases h6
 ·have h7:=h5.1
  simp at h7
  show 0≤o
  lia
def zix{α:Type}{g:Nat→Option α×Nat}{t:List (Nat→Option α×Nat)}{m s n:Nat}{a:α}(h:s≠m)(hg:g (m-s-1)=(zU,n)):goB (g::t) m s=(zU,s+1+n):=by
 show(if s=m then(none,s) else _)=_
 rw[if_neg h,hg]
def ziy{α:Type}{g:Nat→Option α×Nat}{t:List (Nat→Option α×Nat)}{m s n:Nat}(h:s≠m)(hg:g (m-s-1)=(none,n)):goB (g::t) m s=V2 (s+1+n):=by
 show(if s=m then(none,s) else _)=_
 rw[if_neg h,hg]
def hs_len{es:List Ent}{hs:List Hi}(W:WOk es)(nd:(hs.map (·.1)).Nodup)(h:∀x∈hs.map (·.1),x∈es.map (·.1)):hs.length≤16:=by
 have:=zck nd h
 rw[Qa,Qa]at this
 exact Ze this W.few
def us_is{es:List Ent}{e:Ent}(nd:(es.map (·.1)).Nodup)(he:e∈es)(hs:List Hi):(e.2.1.filter λz=>decide (z∈hs.map (·.1))).map (hu hs)=ZY hs e.1:=by
 unfold usN
 rw[XL he]
section
variable{P:Nk}{w:Nl}{K:Na}{mg:Nd}{base:No}
def scOne:zak ["web", "hues", "place", "most", "steps", "start", "other", "swap"] ["web", "hues", "place", "most"] (zai sOne):=fsk
def ok_one{tk:Tok}(F:QD "by_one" "by_one" sOne f fd)(GT:ZK "tries" ["web", "hues", "place"] 2 AX)(GS:ZK "swap_of" ["web", "hues", "start", "other"] 3 (zh5 C))(GX:ZK "swapped" ["hues", "swap"] 2 zek)(GH:ZK "free_hue" ["web", "hues", "place", "many"] 2 Oi)(hF:mg "FOUR" = some O9):ZB 4 f fd ["web", "hues", "place", "most"] (spOne C):=by
 refine F.okL scOne GQ
 obtain⟨x,dx,d,u,es,hs,e,m,rfl,wt,W,hh,he,hk,kq⟩:=h
 have bj:Mq _:=hr.mono Gj
 have ar:=sizeLine_eq
 refine⟨_,zad (BD scOne.nd zah)
  (zad (Z0 OV (Lz (XI scOne.nd) (SX (VE scOne.nd)))
   (zad (XO zau)
   (zad (ps_aug (i:=4) scOne.nd rfl EC zah ip_add)
   (zad (zap 7 scOne.nd (SE GS hr (QR ET)))
   (zag (zby (za (LM GH bj (Dt (Ae (zgj (v:=.int 4) rfl hF ⟨tk,rfl⟩)))))
    (zag (LB (zaa OH S4))) zau))))))
  (zag ze)),?_⟩
 have iL:=XQ hk
 show Y7 _
 refine zg8 (λ σ' H'=>Aj2 (σ'=[Ih,yp,C2,Gz (.int (m:Int)),RJ ((0:Nat):Int),none,none,none]) (H=H')) (λD' bE=>bE _ _ ⟨rfl,rfl⟩) ?_
 rintro σ' H' ⟨rfl,rfl⟩
 dsimp only
 refine⟨xc,xc,xc,x,dx,d,u,es,hs,e,rfl,wt,W,hh,he,λl as H1 aE iY k1=>?_⟩
 have tm:=@zfk Hw hs e.1
 have e0:Z' hs e.1 m=goB ((W2 e.1).map λq _=>(if mex AY<4 then some [A0] else none,0)) m 0:=rfl
 generalize hT:W2 e.1=T at iY e0 tm
 have qd:as.length=T.length:=Zy iY
 refine⟨l,rfl,⟨_,Gs aE⟩,zbb (xs:=as.map V.ref) (λi σ H'=>Aj3 (Ex3 λx5 x6 x7=>σ=[Ih,yp,C2,Gz (.int (m:Int)),RJ ((i:Nat):Int),x5,x6,x7]) (Keep [] H1 H') (Z' hs e.1 m=goB ((T.drop i).map λq _=>(if mex AY<4 then some [A0] else none,0)) m i))
  ⟨⟨_,_,_,rfl⟩,Keep.refl,e0⟩ (λi σ H' _ hh=>SqL.of (L6 aE Gf)) ?_ ?_⟩
 ·rintro i v σ H2 hv ⟨⟨x5,x6,x7,rfl⟩,k2,ei⟩
  have hi:i<as.length:=by have:=(Tl hv).1;rwa[Qa]at this
  rw[Qo,Qd hi]at hv
  cases hv
  obtain⟨aK,da⟩:=zay iY hi
  rw[Yo aK,Qm]at ei
  obtain⟨t1,t2,t3,t4⟩:=tm Pu
  have bY:=k2 _ _ da Gf
  generalize T[i]=q at bY ei t1 t2 t3 t4
  have bZ:=k1.trans k2
  refine⟨as[i],xc,Hy bY,rfl,_,xc,_,xc,rfl,?_⟩
  refine⟨xc,xc,rfl,xc,?_⟩
  by_cases hm:i=m
  ·refine zbt (HJ (by rw [hm])) ⟨_,rfl,Sh,fun t ht=>?_⟩
   have e1:Z' hs e.1 m=(none,i):=by rw[ei];exact if_pos hm
   refine kq t _ (.no (by rw[e1]) (Gp e1 zab)) (AZ Tq)
  refine zbk (decide_eq_false (λz=>hm (by injection z with z;lia))) ⟨_,rfl,_,_,rfl,rfl,?_⟩
  have wk:∀{H':Hp},Keep [] H H'→Q4 d es:=λkk=>wt.keep kk Gf Gf λ_ _=>by simp
  refine⟨xc,xc,xc,xc,x,dx,d,u,es,hs,q.1,q.2,rfl,wk bZ,W,Ea bZ,hk,t1,t2,t3,λa H3 lI fa k3=>?_⟩
  have gw:=bZ.trans k3
  refine⟨xc,xc,xc,H2,u,a,hs,A0,rfl,Ea gw,lI,t1,λy hy=>ch_key t1 hy,iL,λu4 H4 fu h4 k4=>?_⟩
  have kK:=gw.trans k4
  refine⟨xc,x,dx,d,u4,es,e,(Y6 A0).map (·.1),hu Sx,4,rfl,wk kK,by rw[←hs_cnt h4.nd];exact h4.dc,he,XN Gj,Gj,λH5 k5=>⟨_,rfl,?_⟩⟩
  rw[Mw he]
  have lS:=kK.trans k5
  have qC:=(lI.keep (Lw k5)).old bZ
  have dq:(((i+1:Nat):Nat):Int)=(i:Int)+1:=by lia
  unfold frV
  by_cases hx:mex AY<4
  ·have qp:Z' hs e.1 m=(some [A0],i+1):=by
    exact ei.trans (zix (a:=[A0]) (n:=0) hm (by show(if _ then _ else _,0)=_;rw[if_pos hx]))
   rw[if_pos hx]
   refine UL ⟨_,rfl,Ib,λl6 h6=>?_⟩
   have k6:Keep [] H5 (QU l6 (.lst [Rg])):=Keep.new h6
   have g6:(QU l6 (.lst [Rg])) l6=some (Gw ([a].map V.ref)):=zab
   generalize QU l6 (.lst [Rg])=H6 at k6 g6
   refine⟨xc,Sh,λt7 h7=>?_⟩
   have k7:Keep [] H6 (YF t7 (.tup [Go l6,Ht ((i:Int)+1)])):=Keep.new h7
   refine kq t7 _ (.yes l6 [A0] (by rw[qp]) (by rw[qp,zab];rfl) ⟨[a],zu lS h6,k7 _ _ g6 Gf,Rk (qC.keep (Oj k7))⟩) ((lS.trans k6).trans k7)
  ·have qp:=ei.trans (ziy hm (n:=0) (by show (if _ then _ else _,0)=_;rw [Rm hx]))
   rw[if_neg hx]
   refine W0 ⟨⟨_,_,_,by rw[dq];rfl⟩,((S5 k3).trans k4).trans k5,qp⟩
 ·rintro σ H2 ⟨⟨x5,x6,x7,rfl⟩,k2,ei⟩
  rw[Qa,qd,Ud GV]at ei
  have e1:Z' hs e.1 m=(none,T.length):=ei
  refine⟨xc,Sh,λt ht=>?_⟩
  exact kq t _ (.no (by rw[e1]) (by rw[e1,zab,Qa,qd])) ((SQ k2).trans Tq)
end
abbrev sTwo:Stmt:=top 29
theorem ziz:∀{gs:List (Nat→Option α×Nat)} {m s:Nat},goB gs m s=(zU,k)→∃g∈gs,∃b n,g b=(zU,n)
 |[],m,s,h=>by cases h
 | g::t,m,s,h=>by
  by_cases hm:s=m
  ·have:goB (g::t) m s=(none,s):=if_pos hm
   rw[this]at h;cases h
  ·rcases hg:g (m - s - 1) with ⟨_ | a',n⟩
   ·rw [ziy hm hg] at h
    obtain⟨g',h1,h2⟩:=ziz h
    exact⟨g',QK h1,h2⟩
   ·rw [zix hm hg] at h
    cases h
    exact⟨g,Qb,_,n,hg⟩
def on_one(h:(JR m).1=some L):∃q∈Br x,L=[ya]∧mex (BH x)<4:=by
 have h':JR m=(Gz L,(JR m).2):=Wz h rfl
 unfold onN at h'
 obtain⟨g,hg,b,n,e⟩:=ziz h'
 obtain⟨q,hq,rfl⟩:=Qh.mp hg
 have e1:(if mex (BH x)<4 then some [ya] else none)=some L:=congrArg Prod.fst e
 split at e1
 ·rename_i z
  exact⟨q,hq,(Qn e1).symm,z⟩
 ·cases e1
def on_le(h:(r x).length≤16):(JR m).2≤m:=by
 obtain⟨R,N,_,e⟩:=on_bud (hs:=hs) h
 rw[e]
 split
 ·assumption
 ·exact Qg _
inductive IspTwo(C:Nb)(vs:List V)(H:Hp)(Q:VK):Prop
 |mk (x dx d u:Nb) (es:List Ent) (hs:List (Str×Int)) (e:Ent) (m:Nat) (h0:vs=[.ref x,.ref u,.str e.1,.int (m:Int)]) (h1:WAt H C x dx d es) (h2:WOk es) (h3:HAt H u hs) (h4:e∈es) (h5:∀x∈hs.map (·.1),x∈es.map (·.1))
  (h8:∀(t:Nb) (H':Hp),NU (Z5 m)→Keep [] H H'→Q TK H'):IspTwo C vs H Q
def spTwo(C:Nb):Sp:=λvs H Q _=>IspTwo C vs H Q
section
variable{P:Nk}{w:Nl}{K:Na}{mg:Nd}{base:No}
def scTwo:zak ["web", "hues", "place", "most", "steps", "start", "other", "first", "second", "more"] ["web", "hues", "place", "most"] (zai sTwo):=fsk
def ok_two(F:QD "by_two" "by_two" sTwo f fd)(GT:ZK "tries" ["web", "hues", "place"] 2 AX)(GS:ZK "swap_of" ["web", "hues", "start", "other"] 3 (zh5 C))(GX:ZK "swapped" ["hues", "swap"] 2 zek)(GO:ZK "by_one" ["web", "hues", "place", "most"] 4 (spOne C)) :
  FnOk P w K mg base CX0 5 f fd ["web", "hues", "place", "most"] (spTwo C):=by
 refine F.okL scTwo GQ
 obtain⟨x,dx,d,u,es,hs,e,m,rfl,wt,W,hh,he,hk,kq⟩:=h
 have bj:Mq _:=hr.mono Gj
 have mE:Room 3 _:=hr.mono Gj
 have ar:=sizeLine_eq
 refine⟨_,zad (BD scTwo.nd zah)
  (zad (Z0 OV (Lz (XI scTwo.nd) (SX (VE scTwo.nd)))
   (zad (XO zau)
   (zad (zap 7 scTwo.nd (SE GS mE (QR ET)))
   (zad (zd6 (BQ (ZQ (Dt (Ae (BC (BC RA Rx) zah))))) (Lz (zam 8 scTwo.nd) (SX (zam 9 scTwo.nd))))
   (zad (ps_aug (i:=4) scTwo.nd rfl EC (YC zah Od) ip_add)
   (zag (zby (za Ox)
    (zag (LB (zaa (K8 OH Ox) S4))) zau)))))))
  (zag ze)),?_⟩
 have iL:=XQ hk
 have bp:(ZJ e.1).length≤16:=by rw[Vf he];exact KS he
 show Y7 _
 refine zg8 (λ σ' H'=>Aj2 (σ'=[Ih,yp,C2,Gz (.int (m:Int)),RJ ((0:Nat):Int),none,none,none,none,none]) (H=H')) (λD' bE=>bE _ _ ⟨rfl,rfl⟩) ?_
 rintro σ' H' ⟨rfl,rfl⟩
 dsimp only
 refine⟨xc,xc,xc,x,dx,d,u,es,hs,e,rfl,wt,W,hh,he,λl as H1 aE iY k1=>?_⟩
 have tm:=@zfk Hw hs e.1
 obtain⟨G,hG⟩:∃G:Str×Int→Nat→Option Io×Nat,G=λq b=>((Z' Sx e.1 b).1.map (ZP q::·),(Z' Sx e.1 b).2):=⟨_,rfl⟩
 have e0:Z5 m=goB ((W2 e.1).map G) m 0:=by rw[hG];rfl
 generalize hT:W2 e.1=T at iY e0 tm
 have qd:as.length=T.length:=Zy iY
 refine⟨l,rfl,⟨_,Gs aE⟩,zbb (xs:=as.map V.ref) (λi σ H'=>Ex1 λs:Nat=>Aj4 (Ex5 λx5 x6 x7 x8 x9=>σ=[Ih,yp,C2,Gz (.int (m:Int)),RJ ((s:Nat):Int),x5,x6,x7,x8,x9]) (Keep [] H1 H') (s≤m) (Z5 m=goB ((T.drop i).map G) m s))
  ⟨0,⟨_,_,_,_,_,rfl⟩,Keep.refl,RP,e0⟩ (λi σ H' _ hh=>SqL.of (by obtain⟨_,_,z,_,_⟩:=hh;exact z _ _ aE Gf)) ?_ ?_⟩
 ·rintro i v σ H2 hv ⟨s,⟨x5,x6,x7,x8,x9,rfl⟩,k2,rT,ei⟩
  have hi:i<as.length:=by have:=(Tl hv).1;rwa[Qa]at this
  rw[Qo,Qd hi]at hv
  cases hv
  obtain⟨aK,da⟩:=zay iY hi
  rw[Yo aK,Qm]at ei
  obtain⟨t1,t2,t3,t4⟩:=tm Pu
  have bY:=k2 _ _ da Gf
  generalize T[i]=q at bY ei t1 t2 t3 t4
  have bZ:=k1.trans k2
  refine⟨as[i],xc,Hy bY,rfl,_,xc,_,xc,rfl,?_⟩
  refine⟨xc,xc,rfl,xc,?_⟩
  by_cases hm:s=m
  ·refine zbt (HJ (by rw [hm])) ⟨_,rfl,Sh,fun t ht=>?_⟩
   have e1:Z5 m=(none,s):=by rw[ei];exact if_pos hm
   refine kq t _ (.no (by rw[e1]) (Gp e1 zab)) (AZ Tq)
  refine zbk (decide_eq_false (λz=>hm (by injection z with z;lia))) ?_
  have wk:∀{H':Hp},Keep [] H H'→Q4 d es:=λkk=>wt.keep kk Gf Gf λ_ _=>by simp
  refine⟨xc,xc,xc,xc,x,dx,d,u,es,hs,q.1,q.2,rfl,wk bZ,W,Ea bZ,hk,t1,t2,t3,λa H3 lI fa k3=>?_⟩
  have gw:=bZ.trans k3
  refine⟨xc,xc,xc,H2,u,a,hs,A0,rfl,Ea gw,lI,t1,λy hy=>ch_key t1 hy,iL,λu4 H4 fu h4 k4=>?_⟩
  have kK:=gw.trans k4
  have em:(m:Int)-(s:Int)-1=((m-s-1:Nat):Int):=by lia
  refine⟨xc,xc,xc,_,xc,rfl,_,xc,rfl,x,dx,d,u4,es,Sx,e,m-s-1,by rw[em];rfl,wk kK,W,h4,he,Gp zf5 hk,λt5 H5 r5 k5=>?_⟩
  have lS:=kK.trans k5
  have qC:=(lI.keep (Lw k5)).old bZ
  have fM:=on_le (hs:=Y6 A0) (m:=m-s-1) bp
  have nO:G q (m-s-1)=((Z' Sx e.1 (m-s-1)).1.map (ZP q::·),(Z' Sx e.1 (m-s-1)).2):=by rw[hG]
  have h1L:=@on_one Hw Sx e.1 (m-s-1)
  generalize Z' Sx e.1 (m-s-1)=p5 at r5 fM nO h1L
  have dq:(s:Int)+(1+(p5.2:Int))=((s+1+p5.2:Nat):Int):=by lia
  rcases r5 with⟨r0,r1⟩ | ⟨l5,L,r0,r1,r2⟩
  ·refine ⟨t5,_,rfl,Hy r1,rfl,_,_,rfl,_,_,rfl,rfl,?_⟩
   refine⟨xc,xc,_,xc,rfl,_,xc,rfl,?_⟩
   refine⟨xc,xc,W0 ?_⟩
   rw[r0]at nO
   exact⟨s+1+p5.2,⟨_,_,_,_,_,by rw[←dq];rfl⟩,((S5 k3).trans k4).trans k5,Gg,ei.trans (ziy hm nO)⟩
  ·refine ⟨t5,_,rfl,Hy r1,rfl,_,_,rfl,_,_,rfl,rfl,?_⟩
   refine⟨xc,xc,_,xc,rfl,_,xc,rfl,?_⟩
   refine⟨xc,xc,UL ?_⟩
   rw[r0]at nO
   have eo:Z5 m=(some (ZP q::L),s+1+p5.2):=ei.trans (zix hm nO)
   obtain⟨lC,_,g5,kD⟩:=r2.old kK
   obtain⟨q',_,eL,_⟩:=h1L r0
   have bo:lC.length=1:=by rw[Zy kD,eL];rfl
   refine⟨xc,Ib,λl6 h6=>?_⟩
   have k6:Keep [] H5 (QU l6 (.lst [Rg])):=Keep.new h6
   have g6:(QU l6 (.lst [Rg])) l6=some (.lst [Rg]):=zab
   generalize QU l6 (.lst [Rg])=H6 at k6 g6
   refine⟨xc,l6,l5,_,xc,rfl,g6,Iy g5,by rw[Qa,bo];show 1+1≤_;lia,λl7 h7=>?_⟩
   have k7:Keep [] H6 (Ci l7 ([La a]++lC.map V.ref)):=Keep.new h7
   have g7:(Ci l7 ([La a]++lC.map V.ref)) l7=some (Gw ((a::lC).map V.ref)):=zab
   generalize YF l7 (Gw ([La a]++lC.map V.ref))=H7 at k7 g7
   refine⟨xc,Sh,λt8 h8=>?_⟩
   have k8:Keep [] H7 (JD t8 (.tup [Go l7,Ht ((s:Int)+(1+(p5.2:Int)))])):=Keep.new h8
   have qZ:=(Oj k7).trans k8
   refine kq t8 _ (.yes l7 (ZP q::L) (by rw[eo]) (by rw[eo,zab];exact congrArg (λz=>some (HO.tup [La l7,Sy z])) dq) ⟨a::lC,zu (lS.trans k6) h7,k8 _ _ g7 Gf,.cons (qC.keep qZ) (Paired.imp' (λ_ _ z=>z.keep qZ) kD)⟩) (lS.trans qZ)
 ·rintro σ H2 ⟨s,⟨x5,x6,x7,x8,x9,rfl⟩,k2,rT,ei⟩
  rw[Qa,qd,Ud GV]at ei
  have e1:Z5 m=(none,s):=ei
  refine⟨xc,Sh,λt ht=>?_⟩
  exact kq t _ (.no (by rw[e1]) (by rw[e1,zab])) ((SQ k2).trans Tq)
end
abbrev sFs:Stmt:=top 30
abbrev sBack:Stmt:=top 24
def WOf(hs:List Hi)(w:Swap):Prop:=w.1∈hs.map (·.1)∧∀y∈w.2.2,y∈hs.map (·.1)
def wof_sw(h:q.1∈hs.map (·.1)):WOf hs ya:=⟨h,λy hy=>ch_key h hy⟩
def fs_some(h:(JS m).1=some L):(∀ w∈L,WOf hs w)∧mex PV < 4:=by
 unfold fsN at h
 split at h
 ·rename_i z
  cases h
  exact⟨λw hw=>(by cases hw),z⟩
 ·rcases ho:JR m with ⟨_ | L1,n⟩
  ·rw [ho] at h
   have h':(WR (m-n)).1=some L:=h
   have h2:WR (m-n)=(Gz L,(WR (m-n)).2):=Wz h' rfl
   unfold twN at h2
   obtain⟨g,hg,b,k,e⟩:=ziz h2
   obtain⟨q,hq,rfl⟩:=Qh.mp hg
   have e1:(Z3 b).1.map (swN r hs q::·)=some L:=congrArg Prod.fst e
   cases gD:(Z3 b).1 with
   |none=>rw[gD]at e1;cases e1
   | some L2 =>
    rw[gD]at e1
    obtain⟨q',cQ,rfl,hm⟩:=on_one gD
    cases e1
    refine⟨λw hw=>?_,hm⟩
    rcases Qf.mp hw with z | z
    ·rw[z];exact wof_sw (zfk hq).1
    ·rw [LU z]
     have:=wof_sw (r:=r) (zfk cQ).1
     unfold WOf at this ⊢
     rw[zf5]at this
     exact this
  ·rw [ho] at h
   have h1:some L1=some L:=h
   cases h1
   obtain⟨q,hq,rfl,hm⟩:=on_one (L:=L) (show(JR m).1=some L by rw[ho])
   refine⟨λw hw=>?_,hm⟩
   rw[Qc.mp hw]
   exact wof_sw (zfk hq).1
theorem zcx:∀(L:List Swap) (hs:List Hi),(ZZ hs).map (·.1)=hs.map (·.1)
 |[],_=>rfl
 |w::t,hs=>by rw[Jm,zcx t,zf5]
inductive IspFs(C:Nb)(vs:List V)(H:Hp)(Q:VK):Prop
 |mk (x dx d u:Nb) (es:List Ent) (hs:List (Str×Int)) (e:Ent) (m:Nat) (h0:vs=[.ref x,.ref u,.str e.1,.int (m:Int)]) (h1:WAt H C x dx d es) (h2:WOk es) (h3:HAt H u hs) (h4:e∈es) (h5:∀x∈hs.map (·.1),x∈es.map (·.1))
  (h8:∀(t:Nb) (H':Hp),NU (QH m)→Keep [] H H'→Q TK H'):IspFs C vs H Q
def spFs(C:Nb):Sp:=λvs H Q _=>IspFs C vs H Q
inductive IspBack(C:Nb)(vs:List V)(H:Hp)(Q:VK):Prop
 |mk (B:Hp) (x dx d u l:Nb) (es:List Ent) (hs:List (Str×Int)) (e:Ent) (L:List Swap) (h0:vs=[.ref x,.ref u,.str e.1,.ref l,.int 4]) (h1:WAt H C x dx d es) (h2:WOk es) (h3:HAt H u hs) (h4:e∈es) (h5:∀x∈hs.map (·.1),x∈es.map (·.1)) (h6:e.1∉hs.map (·.1)) (h7:zd4 B H l L) (h7':∀w∈L,WOf hs w) (h7'':mex (usN (row (rsOf es)) (L.foldl exN hs) e.1)<4)
  (h8:∀(t a b:Nb) (H':Hp),H' t=some (.tup [Rg,OL])→H' a=some (.tup [Rb,Ht (mex S6:Nat),RH])→Mt b (Mx L)→Keep [] H H'→Q TK H'):IspBack C vs H Q
def spBack(C:Nb):Sp:=λvs H Q _=>IspBack C vs H Q
section
variable{P:Nk}{w:Nl}{K:Na}{mg:Nd}{base:No}
def scFs:zak ["web", "hues", "place", "most", "swaps", "steps", "more"] ["web", "hues", "place", "most"] (zai sFs):=fsk
def ok_fs(F:QD "four_swaps" "four_swaps" sFs f fd)(GH:ZK "free_hue" ["web", "hues", "place", "many"] 2 Oi)(GO:ZK "by_one" ["web", "hues", "place", "most"] 4 (spOne C))(GT:ZK "by_two" ["web", "hues", "place", "most"] 5 (spTwo C))(hF:mg "FOUR" = some O9):ZB 6 f fd ["web", "hues", "place", "most"] (spFs C):=by
 refine F.okL scFs GQ
 obtain⟨x,dx,d,u,es,hs,e,m,rfl,wt,W,hh,he,hk,kq⟩:=h
 have bj:Mq _:=hr.mono Gj
 have mD:Room 4 _:=hr.mono Gj
 have ar:=sizeLine_eq
 refine⟨_,zad (zby (za (SE GH bj (Ae (zgj (v:=.int 4) rfl hF ⟨tk,rfl⟩))))
   (zag (LB (ML Sk))) zau)
  (zad (zd6 (SE GO mD (ZX (QC zae))) (Y9 (Gc (SX (XI scFs.nd)))))
  (zad (OG (za Rx) (zag (LB (Q8 TZ))))
  (zad (zd6 (SE GT hr (Ae (BC RA RD))) (Y9 (Gc (SX (VE scFs.nd)))))
  (zag (LB (Q8 (Hz (YC RD TF)))))))),?_⟩
 have iL:=XQ hk
 have bp:(ZJ e.1).length≤16:=by rw[Vf he];exact KS he
 have wk:∀{H':Hp},Keep [] H H'→Q4 d es:=λkk=>wt.keep kk Gf Gf λ_ _=>by simp
 refine⟨xc,xc,xc,x,dx,d,u,es,e,hs.map (·.1),hu hs,4,rfl,wt,by rw[←hs_cnt hh.nd];exact hh.dc,he,XN Gj,Gj,λH1 k1=>⟨_,rfl,?_⟩⟩
 rw[Mw he]
 unfold frV
 by_cases hx:mex (ZY hs e.1)<4
 ·rw [Rv hx]
  have ef:QH m=(some [],0):=by unfold fsN;rw[if_pos hx]
  refine UL ⟨TC,λl2 h2=>⟨Sh,λt3 h3=>?_⟩⟩
  refine kq t3 _ (.yes l2 [] (by rw[ef]) (by rw[ef,zab];rfl) ⟨[],zu k1 h2,?_,.nil⟩) ((SQ CP).trans EM)
  rw[zaf (zac (o:=_) zab h3)];exact zab
 rw[if_neg hx]
 have ef:fsN (row (rsOf es)) hs e.1 m=match onN (row (rsOf es)) hs e.1 m with
  |(some L,n)=>(Gz L,n)
  |(none,n)=>((Z5 (m-n)).1,n+(Z5 (m-n)).2):=by
  show(if _ then _ else _)=_
  rw[if_neg hx]
  try(rcases Z' hs e.1 m with⟨_ | _,_⟩<;>rfl)
 refine W0 ?_
 refine⟨xc,xc,xc,xc,x,dx,d,u,es,hs,e,m,rfl,wk k1,W,Ea k1,he,hk,λt2 H2 r2 k2=>?_⟩
 have bZ:=k1.trans k2
 have fM:=on_le (hs:=hs) (m:=m) bp
 generalize Z' hs e.1 m=p2 at r2 fM ef
 rcases r2 with⟨r0,r1⟩ | ⟨l2,L,r0,r1,r2⟩
 ·refine ⟨t2,_,rfl,Hy r1,rfl,_,_,rfl,_,_,rfl,rfl,?_⟩
  refine⟨xc,xc,W0 ?_⟩
  have em:(m:Int)-(p2.2:Int)=((m-p2.2:Nat):Int):=by lia
  have iT:QH m=((Z5 (m-p2.2)).1,p2.2+(Z5 (m-p2.2)).2):=by
   rw[ef]
   rcases p2 with⟨_ | _,n⟩
   ·rfl
   ·cases r0
  refine⟨xc,xc,xc,xc,xc,_,xc,rfl,x,dx,d,u,es,hs,e,m-p2.2,by rw[em];rfl,wk bZ,W,Ea bZ,he,hk,λt3 H3 r3 k3=>?_⟩
  generalize Z5 (m-p2.2)=p3 at r3 iT
  have cH:(p2.2:Int)+(p3.2:Int)=((p2.2+p3.2:Nat):Int):=by lia
  rcases r3 with⟨qF,ku⟩ | ⟨l3,L3,qF,ku,ko⟩
  ·refine ⟨t3,_,rfl,Hy ku,rfl,_,_,rfl,_,_,rfl,rfl,?_⟩
   refine⟨xc,xc,xc,_,xc,rfl,Sh,λt4 h4=>?_⟩
   exact kq t4 _ (.no (Gp iT qF) (by rw[iT,zab,cH])) ((AZ k3).trans IM)
  ·refine ⟨t3,_,rfl,Hy ku,rfl,_,_,rfl,_,_,rfl,rfl,?_⟩
   refine⟨xc,xc,xc,_,xc,rfl,Sh,λt4 h4=>?_⟩
   exact kq t4 _ (.yes l3 L3 (Gp iT qF) (by rw[iT,zab,cH]) ((ko.keep IM).old bZ)) ((AZ k3).trans IM)
 ·refine ⟨t2,_,rfl,Hy r1,rfl,_,_,rfl,_,_,rfl,rfl,?_⟩
  refine⟨xc,xc,UL ?_⟩
  have iT:QH m=(Gz L,p2.2):=by
   rw[ef]
   rcases p2 with⟨_ | _,n⟩
   ·cases r0
   ·cases r0;rfl
  refine⟨xc,xc,Sh,λt4 h4=>?_⟩
  exact kq t4 _ (.yes l2 L (by rw[iT]) (by rw[iT,zab]) ((r2.keep IM).old k1)) (AZ IM)
end
end K21
end
section
namespace L2
open PySem PySem.Spec PyProof.Rows
section
variable{X:Cx}
theorem fm_some{β γ:Type}{f:β→Option γ}{g:β→γ}:∀{l:List β},(∀x∈l,f x=some (g x))→l.filterMap f=l.map g
 |[],_=>rfl
 |a::t,h=>by rw[List.filterMap_cons,h a Qb,Qm,fm_some λx hx=>h x Lf]
def pick_sr(a7:Nj):slicePick a7.toArray none none (Gz (-1))=a7.reverse.toArray:=by
 unfold slicePick sliceBounds
 simp only[Option.getD_some,show ¬((-1:Int)>0) by decide,if_false,Qw]
 congr 1
 unfold sliceRange
 simp only[show ¬((-1:Int)>0) by decide,if_false]
 have hc:(if((a7.length:Int)-1) > -1 then(((a7.length:Int)-1) - -1 - -1-1)/(- -1) else 0).toNat=a7.length:=by
  split
  ·rw[show(- (-1:Int))=1 from rfl,Int.ediv_one];lia
  ·lia
 rw[hc,List.filterMap_map]
 have hk:∀k∈List.range a7.length,((a7.toArray[·]?)∘λ(k:Nat)=>(((a7.length:Int)-1)+-1*(k:Int)).toNat) k=some (a7.reverse.getD k .none):=λk hk=>by
  have hk:=Wh.mp hk
  have e:(((a7.length:Int)-1)+-1*(k:Int)).toNat=a7.length-1-k:=by lia
  show a7.toArray[(((a7.length:Int)-1)+-1*(k:Int)).toNat]?=_
  rw[e,List.getElem?_toArray,Zd,List.getElem?_reverse hk]
  rw[Qd Gg]
  rfl
 rw[fm_some hk]
 apply Xi
 ·simp
 ·intro i h1 h2
  have h3:i<a7.reverse.length:=h2
  rw[Zl,Ui,Zd,Qd h3]
  rfl
def pe_sr(he:Lb):Z7 (SW e RC) (λ σ H Q=>te σ H λx H1=>Ex2 λa xs=>Aj3 (x=.ref a) (SqL X.K H1 a xs) (∀p,H1 p=none→Q Sv (QJ p LT))):=by
 intro a5 s σ H Q I h
 refine Subscript_ (thn Ri λv s1 ⟨x,H1,I1,r1,a,xs,ex,hx,q⟩=>?_)
 subst ex
 cases r1
 refine wpAny_Slice (thn (zct (X:=X) a5 s1 σ H1 (λo H'=>o=none∧H'=H1) I1 ⟨rfl,rfl⟩) λvl s2 ⟨l,H2,I2,pl,el,eh⟩=>?_)
 subst el;subst eh
 refine thn (zct (X:=X) a5 s2 σ H2 (λo H'=>o=none∧H'=H2) I2 ⟨rfl,rfl⟩) λvu s3 ⟨l,H3,I3,pu,el,eh⟩=>?_
 subst el;subst eh
 refine thn (zb2 (X:=X) (pe_un un_neg (zah (X:=X))) a5 s3 σ H3 (λo H'=>o=some (-1)∧H'=H3) I3 ⟨_,rfl,_,rfl,rfl,rfl⟩) λvs s4 ⟨l,H4,I4,ps,el,eh⟩=>?_
 subst el;subst eh
 have I5:ZA H4 {s4 with heap:=s4.heap.push {cls:=.type "slice",data:=.fields #[vl,vu,vs]}}:=I4.kept (t':=s4.toks) λb ob q=>WG q
 obtain⟨a7,r,ht,hz⟩:=I5.list hx
 have ae:=r.length
 show ZE (subscriptTail e RC Rg PX) SY X.xe {s4 with heap:=s4.heap.push {cls:=.type "slice",data:=.fields #[vl,vu,vs]}}
 refine tail_any (ops:=[Rg,PX]) ht.isList.typeIs slot_list_getitem.lookup ?_ (by with_unfolding_all rfl)
 refine KF (Heap.IsSliceOf.new ..) pl pu ps Gj ?_ (by rw[Qw]<;>exact zea ‹_› ‹_›)
 rw[pick_sr]
 refine⟨Go _,_,I5.laid (t':=s4.toks) (o:=.lst xs.reverse) (λb ob q=>WG q) GV ?_,rfl,q _ (I5.hok.fresh GV)⟩
 exact⟨Gp Ji hz,_,0,r.reverse,SA⟩
end
end L2
end
section
namespace K21
open PySem L2 Wb
abbrev sFp:Stmt:=top 31
section
variable{P:Nk}{w:Nl}{K:Na}{mg:Nd}{base:No}
def scBack:zak ["web", "hues", "place", "swaps", "many", "swap", "behind"] ["web", "hues", "place", "swaps", "many"] (zai sBack):=fsk
def ok_back(F:QD "come_back" "come_back" sBack f fd)(GX:ZK "swapped" ["hues", "swap"] 2 zek)(GH:ZK "free_hue" ["web", "hues", "place", "many"] 2 Oi)(cr:mg "dict" = none):ZB 3 f fd ["web", "hues", "place", "swaps", "many"] (spBack C):=by
 refine F.okL scBack GQ
 obtain⟨B,x,dx,d,u,l,es,hs,e,L,rfl,wt,W,hh,he,hk,hek,⟨as,_,hl,pa⟩,hL,pX,kq⟩:=h
 have dC:=zcd hr
 have ar:=sizeLine_eq
 refine⟨_,zad (Z0 (Iw RA) (XI scBack.nd)
   (zag (MR scBack.nd (pcl GX hr (ZU TZ)))))
  (zad (Do scBack.nd (zbr zfs Hh cr Xm RZ))
  (zad (zb9 dC TF Rz (SE GH hr (ZX (Q8 zae))) rfl)
  (zag (LB (zaa (zbo (ZX (zaa (zbz dC TF Rz) SH))) (YJ zae)))))),?_⟩
 have iL:=XQ hk
 have wk:∀{H':Hp},Keep [] H H'→Q4 d es:=λkk=>wt.keep kk Gf Gf λ_ _=>by simp
 have u7:as.length=L.length:=Zy pa
 refine⟨_,rfl,l,rfl,⟨_,Gs hl⟩,zbb (xs:=as.map V.ref) (λi σ H'=>Ex1 λu':Addr=>Aj3 (Ex1 λx5=>σ=[Ih,Gh u',C2,EW,RJ 4,x5,none]) (Keep [] H H') (Mt u' ((L.take i).foldl exN hs)))
  ⟨u,⟨_,rfl⟩,Keep.refl,hh⟩ (λi σ H' _ hh=>SqL.of (by obtain⟨_,_,z,_⟩:=hh;exact z _ _ hl Gf)) ?_ ?_⟩
 ·rintro i v σ H2 hv ⟨u2,⟨x5,rfl⟩,k2,h2⟩
  have hi:i<as.length:=by have:=(Tl hv).1;rwa[Qa]at this
  rw[Qo,Qd hi]at hv
  cases hv
  obtain⟨aK,hq⟩:=zay pa hi
  have tk:L.take Hj=L.take i++[L[i]]:=Ql aK
  have hw:=hL _ Pu
  generalize L[i]=w' at hq tk hw
  refine⟨xc,xc,B,u2,as[i],_,w',rfl,h2,hq.keep k2,by rw[zcx];exact hw.1,by rw[zcx];exact hw.2,?_,λu3 H3 fu h3 k3=>⟨u3,⟨_,rfl⟩,S5 k3,by rw[tk,List.foldl_append];exact h3⟩⟩
  have:=congrArg List.length (zcx (L.take i) hs)
  rw[Qa,Qa]at this
  lia
 ·rintro σ H2 ⟨u2,⟨x5,rfl⟩,k2,h2⟩
  rw[Qa,u7,Qt GV]at h2
  have hfk:=zcx L hs
  have ic:(ZZ hs).length≤16:=by
   have:=congrArg List.length hfk
   rw[Qa,Qa]at this
   lia
  refine⟨xc,u2,xc,h2.hf.dc,λb hb=>?_⟩
  have k3:Keep [] H2 (QA b (.dK ((ZZ hs).map λe=>Gu))):=Keep.new hb
  have dZ:HAt (QA b (.dK ((ZZ hs).map λe=>Gu))) b (ZZ hs):=⟨zab,h2.nd⟩
  generalize QA b (.dK ((ZZ hs).map λe=>Gu))=H3 at k3 dZ
  have gw:=k2.trans k3
  have h23:=h2.keep k3 Gf
  refine⟨xc,xc,xc,xc,x,dx,d,u2,es,e,(ZZ hs).map (·.1),hu (ZZ hs),4,rfl,wk gw,by rw[←hs_cnt h23.nd];exact h23.dc,he,XN Gj,Gj,λH4 k4=>?_⟩
  rw[Mw he]
  have efr:frV S6 4=.int (mex S6:Nat):=by unfold frV;rw[if_pos pX]
  rw[efr]
  have ow:=dZ.keep k4 Gf
  have kW:e.1∉(ZZ hs).map (·.1):=by rw[hfk];exact hek
  refine⟨xc,xc,b,xc,DPut.k (k:=Sum.inr e.1) ow.dc RQ,?_⟩
  have iS:=ow.new (mex S6:Int) kW
  have fb:H b=none:=zaz k2 hb Gf
  have k5:Keep [] H (QT b (.dK (putK ((ZZ hs).map λe=>Gu) RO (Ht (mex S6:Nat))))):=(gw.trans k4).fr fb
  generalize QT b (.dK (putK ((ZZ hs).map λe=>Gu) RO (Ht (mex S6:Nat))))=H5 at iS k5
  have g5:=iS.hf.get RO
  rw[zeb iS.nd (e:=(e.1,(mex S6:Int))) C4]at g5
  refine⟨xc,xc,xc,b,xc,g5,xc,(Gi 3),λa6 h6=>?_⟩
  have k6:Keep [] H5 (QU a6 (.tup [Rb,Ht (mex S6:Nat),RH])):=Keep.new h6
  have g6:(QU a6 (.tup [Rb,Ht (mex S6:Nat),RH])) a6=some (.tup [Rb,Ht (mex S6:Nat),RH]):=zab
  generalize QU a6 (.tup [Rb,Ht (mex S6:Nat),RH])=H6 at k6 g6
  refine⟨xc,Sh,λt7 h7=>?_⟩
  have k7:Keep [] H6 (YF t7 (.tup [Go a6,OL])):=Keep.new h7
  exact kq t7 a6 b _ zab (k7 _ _ g6 Gf) (iS.keep (Oj k7) Gf) ((CK k6).trans k7)
end
inductive StAt(B H:Hp)(a:Nb)(sp:Step):Prop
 |mk (l:Nb) (h1:H a=some (.tup [.str sp.1,.int sp.2.1,.ref l])) (h2:zd4 B H l sp.2.2):StAt B H a sp
def SwAt.kb(h:KR w)(k:Keep [p] H H')(hB:B p=some o)(hp:H p=some Sq):SwAt B H' a w:=by
 obtain⟨l,h0,h1,h2⟩:=h
 exact⟨l,h0,k _ _ h1 (by simpa using KN hp Gm),k _ _ h2 (by simpa using λz:l=p=>(by rw[z,hB]at h0;cases h0))⟩
def zd4.kb(h:MU L)(k:Keep [p] H H')(hB:B p=some o)(hp:H p=some Sq):zd4 B H' l L:=by
 obtain⟨as,h0,h1,h2⟩:=h
 exact⟨as,h0,k _ _ h1 (by simpa using λz:l=p=>(by rw[z,hB]at h0;cases h0)),Paired.imp' (λ_ _ z=>z.kb k hB hp) h2⟩
def StAt.kb(h:My H a sp)(k:Keep [p] H H')(hB:B p=some o)(hp:H p=some Sq):My H' a sp:=by
 obtain⟨l,h1,h2⟩:=h
 exact⟨l,k _ _ h1 (by simpa using KN hp Gm),h2.kb k hB hp⟩
def StAt.keep(h:My H a sp)(k:Keep [] H H'):My H' a sp:=by
 obtain⟨l,h1,h2⟩:=h
 exact⟨l,Ij h1,h2.keep k⟩
def SwAt.ol(h:KR w)(k:∀c,B c=none→B' c=none):SwAt B' H a w:=by
 obtain⟨l,h0,h1,h2⟩:=h
 exact⟨l,k _ h0,h1,h2⟩
def zd4.ol(h:MU L)(k:∀c,B c=none→B' c=none):zd4 B' H l L:=by
 obtain⟨as,h0,h1,h2⟩:=h
 exact⟨as,k _ h0,h1,Paired.imp' (λ_ _ z=>z.ol k) h2⟩
inductive PapAt(H:Hp)(t:Nb)(p:Option (List Step)×Nat):Prop
 |no (h0:p.1=none) (h1:H t=some (.tup [.non,.int (p.2:Nat)])):PapAt H t p
 |yes (l:Nb) (as:Nn) (B:Hp) (L:List Step) (h0:p.1=some L) (h1:H t=some (.tup [.ref l,.int (p.2:Nat)])) (h2:H l=some (.lst (as.map V.ref))) (h3:Paired (StAt B H) as L):PapAt H t p
def zi1(h:JS (m-s)=(none,n)):fpN r (x::t) hs m s=(none,s+n):=by
 show(match fsN r hs x (m-s) with | (none,n)=>(none,s+n) | (some L,n)=>_)=_
 rw[h]
def zi0(h:JS (m-s)=(Gz L,n)):fpN r (x::t) hs m s=((WT (s+n)).1.map ((x,(mex PV:Int),L)::·),(WT (s+n)).2):=by
 show(match fsN r hs x (m-s) with | (none,n)=>(none,s+n) | (some L,n)=>((fpN r t (cbN r hs x L) m (s+n)).1.map ((x,(mex (usN r (L.foldl exN hs) x):Int),L)::·),(fpN r t (cbN r hs x L) m (s+n)).2))=_
 rw[h]
def fs_le(h:(r x).length≤16):(JS m).2≤m:=by
 obtain⟨R,N,_,e⟩:=fs_bud (hs:=hs) h
 rw[e]
 split
 ·assumption
 ·exact Qg _
inductive IspFp(C:Nb)(vs:List V)(H:Hp)(Q:VK):Prop
 |mk (x dx d:Nb) (es:List Ent) (m:Nat) (h0:vs=[.ref x,.int (m:Int)]) (h1:WAt H C x dx d es) (h2:WOk es)
  (h8:∀(t:Nb) (T:Ng) (H':Hp),zcp (es.map (·.1)) Hw T→PapAt H' t (QQ T.reverse [] m 0)→Keep [] H H'→Q TK H'):IspFp C vs H Q
def spFp(C:Nb):Sp:=λvs H Q _=>IspFp C vs H Q
section
variable{P:Nk}{w:Nl}{K:Na}{mg:Nd}{base:No}
def scFp:zak ["web", "most", "paper", "hues", "steps", "place", "swaps", "more", "step"] ["web", "most"] (zai sFp):=fsk
def ok_fp(F:QD "four_paper" "four_paper" sFp f fd)(GO:ZK "order" ["web"] 2 (spOrder C))(GS:ZK "four_swaps" ["web", "hues", "place", "most"] 6 (spFs C))(GB:ZK "come_back" ["web", "hues", "place", "swaps", "many"] 3 (spBack C))(hF:mg "FOUR" = some O9):ZB 7 f fd ["web", "most"] (spFp C):=by
 refine F.okL scFp GQ
 obtain⟨x,dx,d,es,m,rfl,wt,W,kq⟩:=h
 have bj:Mq _:=hr.mono Gj
 have mE:Room 3 _:=hr.mono Gj
 have ar:=sizeLine_eq
 refine⟨_,zad (Mp scFp.nd So)
  (zad (B8 scFp.nd zf2)
  (zad (BD scFp.nd zah)
  (zad (Z0 (Iw (pe_sr (pcl GO bj Sj))) (XI scFp.nd)
   (zad (zd6 (LM GS hr (QC (QR (Hz (BC (pv 1) Rx))))) (Lz (VE scFp.nd) (SX (zam 7 scFp.nd))))
   (zad (ps_aug (i:=4) scFp.nd rfl EC Lx ip_add)
   (zad (OG (zch (pc_isN TF)) (zag ze))
   (zad (zd6 (LM GB mE (QC (QR (YJ (Hz (zgj (v:=.int 4) rfl hF ⟨tk,rfl⟩)))))) (Lz (zam 8 scFp.nd) (SX (Di scFp.nd))))
   (zag (Cq Rz (Hz Ox))))))))
  (zag (LB (ZX S4)))))),?_⟩
 refine⟨TC,λpl aO=>λu0 mh=>?_⟩
 have k1:Keep [] H (upd y8 u0 (.dK [])):=(Gx aO).trans (Gx mh)
 have npu:pl≠u0:=zac (o:=_) zab mh
 have g1:(upd y8 u0 (.dK [])) pl=some (Gw (([]:List Addr).map V.ref)):=by rw[zaf npu];exact zab
 have h1:HAt (upd y8 u0 (.dK [])) u0 []:=⟨zab,Zm⟩
 generalize upd y8 u0 (.dK [])=H1 at k1 g1 h1
 have wk:∀{H':Hp},Keep [] H H'→Q4 d es:=λkk=>wt.keep kk Gf Gf λ_ _=>by simp
 show Y7 _
 refine zg8 (λ σ' H'=>Aj2 (σ'=[Ih,Gz (.int (m:Int)),Gh pl,Gh u0,RJ ((0:Nat):Int),none,none,none,none]) (H1=H')) (λD' bE=>bE _ _ ⟨rfl,rfl⟩) ?_
 rintro σ' H' ⟨rfl,rfl⟩
 dsimp only
 refine⟨xc,x,dx,d,es,rfl,wk k1,Ze W.few Gj,W.rn,W.sy,λol T H2 pT O fol k2=>?_⟩
 refine⟨ol,xc,Gs pT,λrl bp=>?_⟩
 rw[←Xh]
 have k3:Keep [] H1 (QA rl S7):=k2.trans (Gx bp)
 have g3:(QA rl S7) rl=some S7:=zab
 have nrp:rl≠pl:=Zk (zac (Ix g1) bp)
 generalize QA rl S7=H3 at k3 g3
 have hRn:T.reverse.Nodup:=(Uq T).nodup_iff.mpr O.nd
 have u5:∀y∈T.reverse,y∈es.map (·.1):=λy hy=>O.pm.mem_iff.mp (We.mp hy)
 have hRl:T.reverse.length≤16:=by
  rw[Ji,O.pm.length_eq,Qa];exact W.few
 have kq':=kq
 clear kq
 obtain⟨R,hR⟩:∃R,R=T.reverse:=⟨_,rfl⟩
 rw[←hR]at g3 hRn u5 hRl
 have fin:∀(t:Nb) (H':Hp),PapAt H' t (QQ R [] m 0)→Keep [] H H'→Q TK H':=λt H' p k=>kq' t T H' O (hR▸p) k
 have kH:∀{H':Hp},Keep [pl] H3 H'→Keep [] H H':=λkk c o ec _=>kk c o (Ad TH) (by simpa using W1 aO)
 refine⟨rl,rfl,⟨_,Gs g3⟩,ze0 (zs:=R) (λi σ H'=>Ex5 λ(u:Nb) (s:Nat) (hs:List Hi) (as:Nn) (Pd:List Step)=>Aj9 (as.length=i) (Ex4 λx5 x6 x7 x8=>σ=[Ih,Gz (.int (m:Int)),Gh pl,yp,RJ ((s:Nat):Int),x5,x6,x7,x8]) (Keep [pl] H3 H') (s≤m) (Mt u hs) (hs.map (·.1)=R.take i) (H' pl=some HW) (zr (StAt H3 H') Pd) (QQ R [] m 0=((QQ (R.drop i) hs m s).1.map (Pd++·),(QQ (R.drop i) hs m s).2)))
  ⟨u0,0,[],[],[],rfl,⟨_,_,_,_,rfl⟩,Keep.refl,RP,h1.keep k3 Gf,rfl,Ad g1,.nil,?_⟩ (λi σ H' _ hh=>SqL.of (by obtain⟨_,_,_,_,_,_,_,z,_⟩:=hh;exact z _ _ g3 (Gk nrp))) ?_ ?_⟩
 ·rw [List.drop_zero]
  refine Wz ?_ rfl
  show _=Option.map (λx=>[]++x) _
  cases(QQ R [] m 0).1<;>rfl
 ·rintro i hi σ H4 ⟨u,s,hs,as,Pd,bo,⟨x5,x6,x7,x8,rfl⟩,k4,rT,h4,bA,hW,qI,ei⟩
  have hx:R[i]∉hs.map (·.1):=by rw[bA];exact zcv hRn hi
  have hkm:∀y∈hs.map (·.1),y∈es.map (·.1):=λy hy=>u5 y (Wv (bA▸hy))
  have tk:R.take Hj=R.take i++[R[i]]:=Ql hi
  rw[Yo hi]at ei
  obtain⟨e,he,ee⟩:=Qh.mp (u5 _ PM)
  have ee':e.1=R[i]:=ee
  rw[←ee']at hx tk ei ⊢
  have bp:(ZJ e.1).length≤16:=by rw[Vf he];exact KS he
  have em:(m:Int)-(s:Int)=((m-s:Nat):Int):=by lia
  refine⟨xc,xc,xc,xc,xc,_,xc,rfl,x,dx,d,u,es,hs,e,m-s,by rw[em];rfl,wk (kH k4),W,h4,he,hkm,λt5 H5 r5 k5=>?_⟩
  have fM:=fs_le (hs:=hs) (m:=m-s) bp
  have iF:=@fs_some Hw hs e.1 (m-s)
  have tF:QH (m-s)=((QH (m-s)).1,(QH (m-s)).2):=rfl
  generalize aP:QH (m-s)=p5 at r5 fM iF tF
  have dq:(s:Int)+(p5.2:Int)=((s+p5.2:Nat):Int):=by lia
  rcases r5 with⟨r0,r1⟩ | ⟨l5,L,r0,r1,r2⟩
  ·refine ⟨t5,_,rfl,Hy r1,rfl,_,_,rfl,_,_,rfl,rfl,?_⟩
   refine⟨xc,xc,_,xc,rfl,?_⟩
   refine⟨xc,xc,UL ?_⟩
   have e1:QQ R [] m 0=(none,s+p5.2):=by
    rw[ei,zi1 (n:=p5.2) (by rw[aP,tF,r0])];rfl
   refine⟨xc,Sh,λt6 h6=>?_⟩
   exact fin t6 _ (.no (by rw[e1]) (by rw[e1,zab];exact congrArg (λz=>some (HO.tup [V.non,Sy z])) dq)) (((kH k4).trans k5).trans (Gx h6))
  ·refine ⟨t5,_,rfl,Hy r1,rfl,_,_,rfl,_,_,rfl,rfl,?_⟩
   refine⟨xc,xc,_,xc,rfl,?_⟩
   refine⟨xc,xc,W0 ?_⟩
   obtain⟨cD,cC⟩:=iF r0
   refine⟨xc,xc,xc,xc,H4,x,dx,d,u,l5,es,hs,e,L,rfl,wk ((kH k4).trans k5),W,h4.keep k5 Gf,he,hkm,hx,r2,cD,cC,λt6 a6 b6 H6 g6 ga6 jU k6=>?_⟩
   refine⟨t6,xc,Hy g6,rfl,_,xc,_,xc,rfl,?_⟩
   have r6:=k5.trans k6
   have fG:=r6 _ _ hW Gf
   have hB:H3 pl=some (Gw (([]:List Addr).map V.ref)):=k3 _ _ g1 Gf
   refine⟨xc,HX fG,xc,pl,_,xc,rfl,fG,RQ,?_⟩
   have k7:Keep [pl] H6 (Ci pl (as.map V.ref++[La a6])):=Keep.wr Qb
   have g7:(Ci pl (as.map V.ref++[La a6])) pl=some (Gw ((as++[a6]).map V.ref)):=by rw[zab,Qp];rfl
   generalize YF pl (Gw (as.map V.ref++[La a6]))=H7 at k7 g7
   have old:∀c,H4 c=none→H3 c=none:=λc hc=>zaz k4 hc (by simpa using λz:c=pl=>(by rw[z,hW]at hc;cases hc))
   have st6:StAt H3 H6 a6 (e.1,(mex S6:Int),L):=⟨l5,ga6,(r2.keep k6).ol old⟩
   refine⟨b6,s+p5.2,Mx L,as++[a6],Pd++[(e.1,(mex S6:Int),L)],by rw[Qz,bo];rfl,⟨_,_,_,_,by rw[←dq];rfl⟩,(Lw (r6.sub Gf)).trans k7,Gg,jU.keep k7 (by simpa using zat jU.dc fG Gm),?_,g7,?_,?_⟩
   ·unfold cbN
    rw[Qp,zcx,bA,tk];rfl
   ·exact zav (Paired.imp' (λ_ _ z=>(z.keep r6).kb k7 hB fG) qI) (Rk (st6.kb k7 hB fG))
   ·rw [ei,zi0 (n:=p5.2) (L:=L) (by rw [aP,tF,r0])]
    refine Wz ?_ rfl
    show Vg (Vg _)=Vg _
    rw[Option.map_map]
    congr 1
    funext z
    show Pd++(_::z)=(Pd++[_])++z
    rw[Qx];rfl
 ·rintro σ H4 ⟨u,s,hs,as,Pd,bo,⟨x5,x6,x7,x8,rfl⟩,k4,rT,h4,bA,hW,qI,ei⟩
  rw[Qa,Ud GV]at ei
  have e1:QQ R [] m 0=(Gz Pd,s):=by rw[ei];show(Gz (Pd++[]),s)=_;rw[Zx]
  refine⟨xc,xc,Sh,λt ht=>?_⟩
  have k5:=Keep.new (xs:=[]) (o:=.tup [Go pl,Ht ((s:Nat):Int)]) ht
  exact fin t _ (.yes pl as H3 Pd (by rw[e1]) (by rw[e1,zab]) (k5 _ _ hW Gf) (Paired.imp' (λ_ _ z=>z.keep k5) qI)) ((kH k4).trans k5)
end
end K21
end
section
namespace L2
open PySem PySem.Spec PyProof.Rows
section
variable{X:Cx}
end
section
variable{X:Cx}{K:Na}{o e tg l:Expr}{es:Nr}{to tl:TE}{t:TA}{name:Str}{apos cpos:Pos}{T id:String}{r:V→List V→Hp→VK→Prop}
end
section
variable{X:Cx}{CX:CXT}{k:Nat}{f C:Nb}{fd:Nv}{ps:Ng}{sp:Sp}{dvs:List V}{ds:Nj}{E:St→XK}{m:Str}{pos apos:Pos}{e o:Expr}{es:Nr}{ta:TE}{t:TA}
end
def paired_get{α β:Type}{R:α→β→Prop}{as:List α}{bs:List β}(r:YT as bs):∀(j:Nat) (h1:j<as.length) (h2:j<bs.length),R as[j] bs[j]:=by
 induction r with
 |nil=>intro j h1;cases h1
 |cons h t ih =>
  intro j h1 h2
  cases j with
  |zero=>exact h
  |succ j=>exact ih j (Xn h1) (Xn h2)
section
variable{X:Cx}{a5:Nh}{σ:St}{H:Hp}{s:Ni}
def zfe{R:V→V→Prop}{A:Np}{xs ys:List V}{a7 aI:Nj}(r:WD a7)(r2:YK aI)(pr:YT xs ys)(h:∀x y u v,R x y→WJ u→YD v→UB u v true) :
  ∀j (h1:j<a7.toArray.size) (h2:j<aI.toArray.size),UB a7.toArray[j] aI.toArray[j] true:=by
 intro j h1 h2
 rw[Qw]at h1 h2
 have a1:j<xs.length:=by rw[r.length];exact h1
 have a2:j<ys.length:=by rw[r2.length];exact h2
 obtain⟨u1,e1,q1⟩:=r.get (Qd a1)
 obtain⟨u2,e2,q2⟩:=r2.get (Qd a2)
 rw[Kg,Kg,(Tl e1).2,(Tl e2).2]
 exact h _ _ _ _ (paired_get pr j a1 a2) q1 q2
end
def SameM(H:Hp):Nat→V→V→Prop
 |0,x,y=>zdl x=true∧x=y
 |n+1,x,y=>(zdl x=true∧x=y)∨∃a b xs ys,x=.ref a∧y=.ref b∧((H a=some Sq∧H b=some TX)∨(H a=some RX∧H b=some LY))∧Paired (Ft n) xs ys
section
variable{X:Cx}{a5:Nh}{σ:St}{H:Hp}{s:Ni}
def same_m(I:Hb):∀ (n:Nat) (A:Np) (x y:V) (u v:Value),Ft n x y→WJ u→YD v→A.units+n < cLine→UB u v true:=by
 have fl:∀(A:Np) (x y:V) (u v:Value),zdl x=true∧x=y→WJ u→YD v→UB u v true:=λA x y u v ⟨f,e⟩ rx ry=>by
  subst e
  have:=eqAt_V (A:=A) (s:=s) rx ry f f
  rw[eqV_self f]at this
  exact this
 intro n
 induction n with
 |zero=>intro A x y u v h rx ry _;exact fl A x y u v h rx ry
 | succ n ih =>
  intro A x y u v h rx ry hu
  rcases h with h | ⟨a,b,xs,ys,rfl,rfl,hc,pr⟩
  ·exact fl A x y u v h rx ry
  ·cases rx;cases ry
   by_cases ne:a=b
   ·subst ne;exact SeqAt.EqAt.same _
   have dB:A.in1.units+n<cLine:=by
    have:A.in1.units=A.units+1:=rfl
    lia
   have mh:A.units<cLine:=by lia
   have hl:=Zy pr
   refine SeqAt.EqAt.of_refs ne ?_
   rcases hc with⟨h1,h2⟩ | ⟨h1,h2⟩
   ·obtain ⟨a7,r,pl,_⟩:=I.list (X:=X) (Gs h1)
    obtain⟨aI,r2,iu,_⟩:=I.list (X:=X) (Gs h2)
    have l1:=r.length
    have l2:=r2.length
    have:=SeqAt.RcAt.lists (A:=A) (s:=s) (e:=λ_=>true) pl.isList iu.isList (by rw[Qw,Qw];lia) mh (zfe r r2 pr λx y u v q1 q2 q3=>ih A.in1 x y u v q1 q2 q3 dB)
    rw[show(List.range a7.toArray.size).all (λ_=>true)=true by simp]at this
    exact this
   ·obtain ⟨a7,r,pl,_⟩:=I.tuple (X:=X) yb
    obtain⟨aI,r2,iu,_⟩:=I.tuple (X:=X) (Hy h2)
    have l1:=r.length
    have l2:=r2.length
    have:=SeqAt.RcAt.tuples (A:=A) (s:=s) (e:=λ_=>true) pl iu mh (zfe r r2 pr λx y u v q1 q2 q3=>ih A.in1 x y u v q1 q2 q3 dB)
    rw[show((Ro (min a7.toArray.size aI.toArray.size)).all (λ_=>true)&&a7.toArray.size==aI.toArray.size)=true by simp;lia]at this
    exact this
def op_eq_tupD(hu:X.A.units+8<cLine):Y3 (compareOp .Eq) (λx y H Q=>Ex4 λa b xs ys=>Aj6 (x=.ref a) (y=.ref b) (H a=some RX) (H b=some LY) (Paired (Ft 6) xs ys) (Q S1 H)):=by
 intro a5 s σ H x y v u Q I rx ry h
 obtain⟨a,b,xs,ys,rfl,rfl,h1,h2,pr,q⟩:=h
 cases rx;cases ry
 obtain⟨a7,r,pl,_⟩:=I.tuple (X:=X) yb
 obtain⟨aI,r2,iu,_⟩:=I.tuple (X:=X) (Hy h2)
 have l1:=r.length
 have l2:=r2.length
 have hl:=Zy pr
 have dB:X.A.in1.units+6<cLine:=by
  have:X.A.in1.units=X.A.units+1:=rfl
  lia
 refine SeqAt.RcAt.tuples (e:=λ_=>true) pl iu Gg (zfe r r2 pr λx y u v q1 q2 q3=>same_m I 6 X.A.in1 x y u v q1 q2 q3 dB) _ _ _ _ ⟨S1,H,I,?_,q⟩
 show Value.bool _=Value.bool true
 simp
 lia
end
end L2
namespace K21
open PySem L2 Wb
def same_flat(h:zdl x=true):Ft n x x:=by
 cases n with
 |zero=>exact⟨h,rfl⟩
 |succ n=>exact .inl ⟨h,rfl⟩
end K21
end
section
namespace L2
open PySem PySem.Spec PyProof.Rows
def flatD:V→PyData→Prop
 |.non,d=>d=.none
 |.bl b,d=>d=.bool b
 |.int i,d=>d=.int i
 |.str z,d=>d=.str z
 |_,_=>False
def RdV(H:Hp):Nat→V→PyData→Prop
 |0,x,d=>Fu d
 |n+1,x,d=>Fu d∨∃a xs ds,x=.ref a∧((H a=some Sq∧d=.list ds)∨(H a=some RX∧d=.tuple ds))∧Vy xs ds
section
variable{X:Cx}{a5:Nh}{σ:St}{H:Hp}{s:Ni}
theorem zhp:∀{x:V} {u:Value} {d:PyData},Fu d→WJ u→Reads h u d []
 |.non,u,d,f,r=>by cases f;cases r;exact .none
 |.bl b,u,d,f,r=>by cases f;cases r;exact .bool b
 |.int i,u,d,f,r=>by cases f;obtain⟨t,rfl⟩:=r;exact .int i t
 |.str z,u,d,f,r=>by cases f;obtain⟨t,rfl⟩:=r;exact .str z t
theorem zgg(f:∀x u d,R x d→WJ u→∃as,Reads h u d as):∀{xs:List V} {us:Nj} {ds:List PyData},YT xs ds→WD us→∃as,ReadsAll h us ds as
 |_,_,_,.nil,.nil=>⟨_,.nil⟩
 |_,_,_,.cons p t,.cons q v=>by
  obtain⟨a,h1⟩:=f _ _ _ p q
  obtain⟨b,h2⟩:=zgg f t v
  exact⟨_,LJ h1 h2⟩
theorem zif(I:Hb):∀(n:Nat) (x:V) (u:Value) (d:PyData),VI n x d→WJ u→∃as,Reads s.heap u d as
 |0,x,u,d,h,r=>⟨_,zhp h r⟩
 | n+1,x,u,d,h,r=>by
  rcases h with h | ⟨a,xs,ds,rfl,hc,pr⟩
  ·exact⟨_,zhp h r⟩
  ·cases r
   rcases hc with⟨h1,rfl⟩ | ⟨h1,rfl⟩
   ·obtain ⟨a7,v,⟨o,m,e1,e2,_,e3⟩,_⟩:=I.list (X:=X) (Gs h1)
    obtain⟨as,h2⟩:=Gd v
    exact⟨_,.list e1 e2 e3 h2⟩
   ·obtain ⟨a7,v,⟨o,e1,e2,m,e3⟩,_⟩:=I.tuple (X:=X) yb
    obtain⟨as,h2⟩:=Gd v
    exact⟨_,.tuple e1 e2 e3 h2⟩
def zdg(hg:X.A.guards=some [])(hu:X.A.units+8<cLine):Y4 (.builtin "repr") (λxs H Q=>Ex2 λa d=>Aj7 (xs=[Rg]) (VI 6 Rg d) (d.showable=true) (d.hasDict=false) (d.depth≤6) (d.shown.length≤sizeLine) (Q (.str d.shown) H)):=by
 intro a5 s σ H xs us Q I r h
 obtain⟨a,d,rfl,h1,h2,h3,h4,h5,q⟩:=h
 obtain⟨u,rfl,rx⟩:=vals1 r
 obtain⟨as,rd⟩:=zif I 6 _ u _ h1 rx
 cases rx
 exact repr_of_reads' rd h2 (PyData.noDict_hsm h3) hg Gg (λ_ _ e=>e) (λh' u tk hk=>⟨.str d.shown,H,I.kept hk,⟨_,rfl⟩,q⟩) h5
end
end L2
end
section
namespace K21
open PySem L2 Wb
def swD(w:Swap):PyData:=.tuple [.str w.1,.int w.2.1,PY]
def stD(q:Step):PyData:=.tuple [.str q.1,.int q.2.1,Ai]
def papD(p:Option (List Step)×Nat):PyData:=.tuple [match p.1 with | none=>.none | some L=>.list (L.map stD),.int (p.2:Nat)]
def zdo(h:Fu d):VI n x d:=by
 cases n with
 |zero=>exact h
 |succ n=>exact .inl h
theorem rd_strs(H:Hp)(n:Nat):∀zs:List Str,Vy Rl (zs.map PyData.str)
 |[]=>.nil
 |z::t=>.cons L8 (rd_strs H n t)
theorem rd_refs{α:Type}{n:Nat}{R:Addr→α→Prop}{D:α→PyData}(f:∀a w,R a w→VI n Rg (D w)):∀{as:Nn} {L:List α},YT as L→Vy Ls (L.map D)
 |_,_,.nil=>.nil
 |_,_,.cons h t=>.cons (f _ _ h) (rd_refs f t)
def rd_sw(h:KR w):VI 2 Rg (swD w):=by
 obtain⟨l,_,h1,h2⟩:=h
 exact .inr ⟨a,_,_,rfl,RG ⟨h1,rfl⟩,.cons L8 (LJ (zdo rfl) (.cons (OS ⟨l,_,_,rfl,Rf ⟨h2,rfl⟩,rd_strs H 0 _⟩) .nil))⟩
def rd_st{B H:Hp}{a:Nb}{q:Step}(h:My H a q):VI 4 Rg (stD q):=by
 obtain⟨l,h1,as,_,h2,h3⟩:=h
 exact .inr ⟨a,_,_,rfl,RG ⟨h1,rfl⟩,.cons L8 (.cons L8 (.cons (.inr ⟨l,_,_,rfl,Rf ⟨h2,rfl⟩,rd_refs (R:=SwAt B H) (λ_ _ z=>rd_sw z) h3⟩) .nil))⟩
def rd_pap{H:Hp}{a:Nb}{p:Option (List Step)×Nat}(h:PapAt H a p):VI 6 Rg (papD p):=by
 rcases h with⟨h0,h1⟩ | ⟨l,as,B,L,h0,h1,h2,h3⟩
 ·refine .inr ⟨a,_,_,rfl,RG ⟨h1,rfl⟩,.cons ?_ (Rk L8)⟩
  rw[h0];exact zdo rfl
 ·refine .inr ⟨a,_,_,rfl,RG ⟨h1,rfl⟩,.cons ?_ (Rk L8)⟩
  rw[h0]
  exact .inr ⟨l,_,_,rfl,Rf ⟨h2,rfl⟩,rd_refs (R:=My H) (λ_ _ z=>rd_st z) h3⟩
structure SwSm(N:Ng)(w:Swap):Prop where
 s:w.1∈N
 lo:0≤w.2.1
 hi:w.2.1<4
 nd:w.2.2.Nodup
 ro:∀y∈w.2.2,y∈N
structure StSm(N:Ng)(q:Step):Prop where
 s:q.1∈N
 lo:0≤q.2.1
 hi:q.2.1<4
 le:q.2.2.length≤2
 sw:∀w∈q.2.2,SwSm N w
def tr_hi(h:q∈Br x):q.2<4:=by
 unfold trN at h
 obtain⟨s,_,h2⟩:=List.mem_flatMap.mp h
 obtain⟨o,h3,rfl⟩:=Qh.mp h2
 have:=(IU h3).1
 simp only[Qf,Je,or_false]at this
 show o<4
 lia
def sw_sm(h:q∈Br x)(hN:∀y∈hs.map (·.1),y∈N):SwSm N ya :=
 ⟨hN _ (zfk h).1,(zfk h).2.2.1,tr_hi h,chH_nd _,λy hy=>hN _ (ch_key (zfk h).1 hy)⟩
def fs_sm(hN:∀ y∈hs.map (·.1),y∈N)(h:(JS m).1=some L):L.length≤2∧∀ w∈L,SwSm N w:=by
 unfold fsN at h
 split at h
 ·cases h
  exact⟨Gj,λw hw=>(by cases hw)⟩
 ·rcases ho:JR m with ⟨_ | L1,n⟩
  ·rw [ho] at h
   have h':(WR (m-n)).1=some L:=h
   have h2:WR (m-n)=(Gz L,(WR (m-n)).2):=Wz h' rfl
   unfold twN at h2
   obtain⟨g,hg,b,k,e⟩:=ziz h2
   obtain⟨q,hq,rfl⟩:=Qh.mp hg
   have e1:(Z3 b).1.map (swN r hs q::·)=some L:=congrArg Prod.fst e
   cases gD:(Z3 b).1 with
   |none=>rw[gD]at e1;cases e1
   | some L2 =>
    rw[gD]at e1
    obtain⟨q',cQ,rfl,hm⟩:=on_one gD
    cases e1
    refine⟨Qg 2,λw hw=>?_⟩
    rcases Qf.mp hw with z | z
    ·rw[z];exact sw_sm hq hN
    ·rw [LU z]
     exact sw_sm cQ (Gp zf5 hN)
  ·rw [ho] at h
   have h1:some L1=some L:=h
   cases h1
   obtain⟨q,hq,rfl,hm⟩:=on_one (L:=L) (show(JR m).1=some L by rw[ho])
   refine⟨(by show 1≤2;decide),λw hw=>?_⟩
   rw[Qc.mp hw]
   exact sw_sm hq hN
theorem fp_sm{r:Nq}{N:Ng}:∀{xs:Ng} {hs:List Hi} {m s:Nat} {L:List Step},(∀y∈xs,y∈N)→(∀y∈hs.map (·.1),y∈N)→(Ve hs m s).1=some L→L.length=xs.length∧∀q∈L,StSm N q
 |[],hs,m,s,L,_,_,h=>by
  have h':some []=some L:=h
  cases h'
  exact⟨rfl,λq hq=>(by cases hq)⟩
 | x::t,hs,m,s,L,hx,hN,h=>by
  cases e:JS (m-s) with
  | mk a n =>
   cases a with
   |none=>rw[zi1 e]at h;cases h
   | some L1 =>
    rw[zi0 e]at h
    have h':Vg (fpN r t (UG L1) m (s+n)).1=some L:=h
    obtain⟨L2,e2,rfl⟩:=Option.map_eq_some_iff.mp h'
    have hk:∀y∈(UG L1).map (·.1),y∈N:=λy hy=>by
     unfold cbN at hy
     rw[Qp,zcx]at hy
     rcases Qk.mp hy with z | z
     ·exact hN y z
     ·rw[Qc.mp z];exact hx x Qb
    obtain⟨h1,h2⟩:=fp_sm (λy hy=>hx y Ll) hk e2
    refine⟨by rw[Qu,Qu,h1],λq hq=>?_⟩
    rcases Qf.mp hq with z | z
    ·rw [z]
     obtain⟨a1,a2⟩:=fs_sm hN (L:=L1) (show(JS (m-s)).1=some L1 by rw[e])
     have a3:=(fs_some (L:=L1) (show(JS (m-s)).1=some L1 by rw[e])).2
     exact⟨hx x Qb,Int.natCast_nonneg _,by show(mex _:Int)<4;lia,a1,a2⟩
    ·exact h2 q z
structure Dok(d:PyData)(k n:Nat):Prop where
 sh:d.showable=true
 nd:d.hasDict=false
 dp:d.depth≤k
 lv:d.leavesShort 8=true
 wt:d.weight≤n
inductive zg5(k n:Nat):List PyData→Prop
 |nil:zg5 k n []
 |cons {d:PyData} {t:List PyData}:Dok d k n→zg5 k n t→zg5 k n (d::t)
def dok_all(h:Fv ds):PyData.showableAll ds=true∧PyData.hasDictAll ds=false∧PyData.depthAll ds≤k∧PyData.leavesShortAll 8 ds=true∧PyData.weightAll ds≤(n+1)*ds.length:=by
 induction h with
 |nil=>exact⟨rfl,rfl,RP,rfl,RP⟩
 |cons a _ ih =>
  obtain⟨h1,h2,h3,h4,h5⟩:=ih
  refine⟨?_,?_,?_,?_,?_⟩
  ·simp only[PyData.showableAll,a.sh,h1,Bool.and_self]
  ·simp only[PyData.hasDictAll,a.nd,h2,Bool.or_self]
  ·simp only[PyData.depthAll];have:=a.dp;lia
  ·simp only[PyData.leavesShortAll,a.lv,h4,Bool.and_self]
  ·simp only[PyData.weightAll,Qu,Nat.mul_add];have:=a.wt;lia
def Dok.mono{d:PyData}{k n k' n':Nat}(h:Dok d k n)(hk:k≤k')(hn:n≤n'):Dok d k' n':=⟨h.sh,h.nd,Ze h.dp hk,h.lv,Ze h.wt hn⟩
def zi4{k n m:Nat}{ds:List PyData}(h:Fv ds)(hl:(n+1)*ds.length≤m):Dok (.list ds) (k+1) m:=by
 obtain⟨h1,h2,h3,h4,h5⟩:=dok_all h
 exact⟨by simpa only [PyData.showable] using h1,by simpa only [PyData.hasDict] using h2,by simp only[PyData.depth];lia,by simpa only [PyData.leavesShort] using h4,by simp only[PyData.weight];lia⟩
def dok_tup{k n m:Nat}{ds:List PyData}(h:Fv ds)(hl:(n+1)*ds.length≤m):Dok (.tuple ds) (k+1) m:=by
 obtain⟨h1,h2,h3,h4,h5⟩:=dok_all h
 exact⟨by simpa only [PyData.showable] using h1,by simpa only [PyData.hasDict] using h2,by simp only[PyData.depth];lia,by simpa only [PyData.leavesShort] using h4,by simp only[PyData.weight];lia⟩
def dok_str(h:zcm z):Dok E9 0 8:=⟨by simp only[PyData.showable],by simp only[PyData.hasDict],by simp only[PyData.depth];lia,by
 simp only[PyData.leavesShort,Ug,decide_eq_true_eq]
 intro c hc
 have:=(h.2.2 c hc).2
 have:(16:Nat) ^ 8=4294967296:=by decide
 lia,h.2.1⟩
def dok_int{n:Nat}(h:n<10000):Dok (.int (n:Int)) 0 20:=by
 have hl:(n:Int).natAbs.log2<20:=by
  by_cases h0:n=0
  ·subst h0;decide
  ·refine (Nat.log2_lt h0).mpr ?_
   have:(2:Nat) ^ 20=1048576:=by decide
   lia
 refine⟨by simp only[PyData.showable,decide_eq_true_eq];lia,by simp only[PyData.hasDict],by simp only[PyData.depth];lia,?_,?_⟩
 ·simp only [PyData.leavesShort,decide_eq_true_eq]
  show(Str.ofString (toString (n:Int))).length≤8
  rw[ofString_length]
  exact Ze (int_text_length_le10 (k:=4) Gj (by show n<10 ^ 4;lia)) Gj
 ·simp only [PyData.weight]
  split<;>lia
def dok_intN(h0:0≤i)(h:i<4):Dok Ew 0 20:=by
 obtain⟨n,rfl⟩:=Zo h0
 exact dok_int Gg
theorem zd3{α:Type}{f:α→PyData}{k n:Nat}:∀{L:List α},(∀w∈L,Dok (f w) k n)→Fv (L.map f)
 |[],_=>.nil
 |w::t,h=>.cons (h w Qb) (zd3 λz hz=>h z (QK hz))
def dok_sw(hN:∀y∈N,zcm y)(hl:N.length≤16)(h:SwSm N w):Dok (swD w) 2 600:=by
 have l1:w.2.2.length≤16:=Ze (zck h.nd h.ro) hl
 have d3:Dok PY 1 144:=zi4 (k:=0) (n:=8) (zd3 λy hy=>dok_str (hN y (h.ro y hy))) RQ
 exact dok_tup (k:=1) (n:=144) (.cons ((dok_str (hN _ h.s)).mono Gj Gj) (LJ ((dok_intN h.lo h.hi).mono Gj Gj) (Rk d3))) (by simp only[Qu,Wi];lia)
def dok_st{N:Ng}{q:Step}(hN:∀y∈N,zcm y)(hl:N.length≤16)(h:StSm N q):Dok (stD q) 4 4000:=by
 have d3:Dok Ai 3 1202:=zi4 (k:=2) (n:=600) (zd3 λw hw=>dok_sw hN hl (h.sw w hw)) (by rw[Qa];have:=h.le;lia)
 exact dok_tup (k:=3) (n:=1202) (.cons ((dok_str (hN _ h.s)).mono Gj Gj) (LJ ((dok_intN h.lo h.hi).mono Gj Gj) (Rk d3))) (by simp only[Qu,Wi];lia)
def dok_pap{r:Nq}{xs N:Ng}{m:Nat}(hN:∀y∈N,zcm y)(hl:N.length≤16)(hx:∀y∈xs,y∈N)(hxl:xs.length≤16)(hr:∀y∈xs,(r y).length≤16)(hm:m<10000):Dok (papD (Ve [] m 0)) 6 200000:=by
 obtain⟨R,n0,_,eN⟩:=fp_bud (hs:=[]) hr
 have e1:=eN m 0 RP
 have h2:(Ve [] m 0).2<10000:=by
  rw[e1];split
  ·show 0+n0<10000;lia
  ·exact hm
 have d2:=(dok_int h2).mono (k':=5) (n':=70000) Gj Gj
 unfold papD
 refine dok_tup (k:=5) (n:=70000) (.cons ?_ (Rk d2)) (by simp only[Qu,Wi];lia)
 cases e:(Ve [] m 0).1 with
 |none=>exact⟨rfl,rfl,RP,rfl,RP⟩
 |some L =>
  obtain⟨h3,h4⟩:=fp_sm (N:=N) hx (λy hy=>(by cases hy)) e
  exact zi4 (k:=4) (n:=4000) (zd3 λq hq=>dok_st hN hl (h4 q hq)) RQ
def Dok.fits(h:Dok d k n)(hn:n≤200000):d.shown.length≤sizeLine:=PyData.shown_fits (B:=8) Gj Gj h.lv (Ze h.wt (Ze hn Gj))
abbrev sMir:Stmt:=top 42
abbrev sORows:Stmt:=top 58
def row_mir(rs:Rs Str)(x:Str):row (rs.map λp=>(p.1,p.2.reverse)) x=(J7 x).reverse:=by
 unfold row
 induction rs with
 |nil=>rfl
 | cons a t ih =>
  rw[Qm,Ul,Ul]
  by_cases h:a.1=x
  ·simp only[h,decide_true,Option.map_some,Option.getD_some]
  ·simp only [h,decide_false]
   exact ih
def pe_srK(hK:X.K=K)(he:Lb):Z7 (SW e RC) (λ σ H Q=>te σ H λx H1=>Ex2 λa xs=>Aj3 (x=.ref a) (SqL K H1 a xs) (∀p,H1 p=none→Q Sv (QJ p LT))):=hK▸pe_sr he
def mk_web{C:Nb}{H4:Hp}{rl:Nb}{as:Nn}{es4:List Ent}{cs:List (Sg (Str×Str))}{a9:Nx}{Q:Addr→Hp→Prop}{E:XK}(RW:RwAt H4 rl as es4)(hl:es4.length≤16)(nok:∀e∈es4,zcm e.1)(Ct:Cert (es4.map (·.1)) (LH es4) cs a9)(k:∀(x dx d:Nb) (ts:List Ent) (H':Hp),Q4 d ts→WOk ts→(ts.map (·.1)).Perm (es4.map (·.1))→(∀y,(X7 y).Perm (IO es4))→Cert (ts.map (·.1)) (LH ts) cs a9→Keep [] H4 H'→Q x H') :
  ∀x dx,H4 x=none→H4 dx=none→dx≠x→spInit C [E5,Go rl] (JG (.ins C dx [])) (λv H2=>v=.non∧Q x H2) E:=by
 intro x dx hx hdx ax
 have k5:Keep [] H4 (JG (.ins C dx [])):=λc u ec _=>by
  rw[zaf (W1 hx),zaf (W1 hdx)];exact ec
 have hx5:(JG (.ins C dx [])) x=some (.ins C dx []):=zab
 generalize JG (.ins C dx [])=H5 at k5 hx5
 refine⟨x,dx,rl,as,es4,cs,a9,rfl,hx5,RW.keep k5,Gg,nok,Ct,λd2 ts av H6 wt bd gB k6=>⟨rfl,?_⟩⟩
 have jD:(ts.map (·.1)).Perm (es4.map (·.1)):=by rw[zb7 gB];exact bd.map _
 have gN:=zgz Ct jD (zc5 gB bd Ct.nd)
 have ad:ts.length≤16:=by
  have:=jD.length_eq
  rw[Qa,Qa]at this
  lia
 have W:WOk ts:=⟨ad,λe he=>by
  have h1:e.2.1.Nodup:=by have:=gN.rn e.1;rw[zaw gN.nd he]at this;exact this
  have:=zck h1 λy hy=>gN.inn' (x:=e.1) (by rw[zaw gN.nd he];exact hy)
  rw[Qa]at this
  lia,λz y hy=>gN.inn' hy,gN.rn,gN.sy⟩
 exact k x dx d2 ts H6 wt W jD (λy=>by obtain⟨j,e⟩:=zc5 gB bd Ct.nd y;rw[e];exact zf1 ..) gN λc o ec _=>k6 c o (k5 c o ec Gf) (by simpa using W1 hx)
inductive IspMir(C:Nb)(vs:List V)(H:Hp)(Q:VK):Prop
 |mk (x dx d:Nb) (es:List Ent) (cs:List (List (Str×Str))) (a9:Nx) (h0:vs=[.ref x]) (h1:WAt H C x dx d es) (h2:es.length≤16) (h3:∀e∈es,zcm e.1) (h4:Cert (es.map (·.1)) (row (rsOf es)) cs a9)
  (h5:∀(x dx d:Nb) (ts:List Ent) (H':Hp),Q4 d ts→WOk ts→(ts.map (·.1)).Perm (es.map (·.1))→(∀y,(X7 y).Perm (ZJ y))→Keep [] H H'→Q E5 H'):IspMir C vs H Q
def spMir(C:Nb):Sp:=λvs H Q _=>IspMir C vs H Q
inductive IspORows(vs:List V)(H:Hp)(Q:VK):Prop
 |mk (d p:Nb) (b m:Int) (es:List Ent) (h0:vs=[.ref d,.ref p]) (h1:Pot H p b m) (h2:RAt H d es) (h3:es.length≤16) (h4:∀e∈es,e.2.1.length≤30)
  (h6:∀(l:Addr) (as:List Addr) (am ag:List Ent) (b' m':Int) (H':Hp),ND am→zg2 am ag→ag.Perm es→U3 m'→Keep [p] H H'→Q RH H'):IspORows vs H Q
def spORows:Sp:=λvs H Q _=>IspORows vs H Q
section
variable{P:Nk}{w:Nl}{K:Na}{mg:Nd}{base:No}
def scMir:zak ["web"] ["web"] (zai sMir):=fsk
def ok_mir(F:QD "mirrored" "mirrored" sMir f fd)(cW:VB C)(mP:BP "places" fp)(bP:WK fdp ["self"] [])(GP:ZB 1 fp fdp ["self"] yM)(mR:BP "round_of" fr)(bR:WK fdr ["self", "place"] [])(GR:ZB 1 fr fdr ["self", "place"] IN)(MW:Mk K C fi)(mW:mg "Web" = some Ir)(bI:WK fdi ["self", "rows"] [])(GI:ZB 4 fi fdi ["self", "rows"] zW) :
  FnOk P w K mg base CX0 6 f fd ["web"] (spMir C):=by
 refine F.okL scMir Gn
 obtain⟨x,dx,d,es,cs,a9,rfl,wt,aN,nok,Ct,kq⟩:=h
 have ai:BV _:=hr.mono Gj
 have ar:=sizeLine_eq
 refine⟨_,zag (zax (zik MW GI hr rfl mW bI .nil zcq (zaa (zgi (M:=["place", "web"]) (ix:=[none,Gz 0]) (mkB scMir) rfl (Iw (zij (pl:=_) Rj cW mP GP ai bP .nil zcq)) (λC a5 ex s H=>JA ndOA)
    (λC a5 ex s H=>zc2) (λC' a5 ex s H=>zbo (ZQ (Hz (pe_srK (K:=K) rfl (ze8 (pl:=_) Ee (by exact cW) (by exact mR) GR (by exact ai) bR .nil zcq Sj)))))) zae))),?_⟩
 refine⟨xc,x,dx,xc,wt.ob,rfl,x,dx,d,es,rfl,wt,λl hl=>?_⟩
 have aA:((es.map (·.1)).map V.str).length=es.length:=by rw[Qa,Qa]
 have k1:Keep [] H (EX Gr):=Keep.new hl
 have aE:(EX Gr) l=some Gr:=zab
 generalize ZS l Gr=H1 at k1 aE
 refine⟨l,rfl,⟨_,Gs aE⟩,λi m ys τ H'=>Ex2 λ(as:Nn) (am:List Ent)=>Aj8 (m=es.length-i) (i≤es.length) (ys=as.map V.ref) (Ex1 λx0=>τ=[x0,Ih]) Cj (∀e∈am,H' e.2.2=some HU) (rsOf am=(S2 (LX i)).map λp=>(p.1,p.2.reverse)) (Keep [] H1 H'),
  ⟨es.length,[],[],rfl,RP,rfl,⟨none,rfl⟩,.nil,λe he=>(by cases he),rfl,Keep.refl⟩,?_⟩
 rintro i m ys τ H2 ⟨as,am,rfl,hi,rfl,⟨x0,rfl⟩,aJ,gC,bi,k2⟩
 have az:=k2 _ _ aE Gf
 have f7:am.length=i:=by
  have:=congrArg List.length bi
  unfold rsOf at this
  rw[Qa,Qa,Qa,Zq]at this;lia
 have bo:as.length=i:=by rw[Zy aJ,f7]
 by_cases ad:i<es.length
 ·have aT:es[i]∈es:=Qs ad
  have tk:es.take Hj=es.take i++[es[i]]:=Ql ad
  have hg:((es.map (·.1)).map V.str)[i]?=some (.str es[i].1):=by rw[Qo,Qo,Qd ad];rfl
  refine .inr ⟨⟨_,.str es[i].1,E3,hg⟩,RQ,?_⟩
  rintro v H3 ⟨rfl,hv⟩
  have aY:=hv _ E3
  rw[hg]at aY
  obtain rfl:V.str es[i].1=v:=Qn aY
  generalize es[i]=e at aT tk hg
  have lF:WAt H3 C x dx d es:=wt.keep (SQ k2) Gf Gf He
  refine⟨xc,xc,x,dx,xc,lF.ob,rfl,xc,x,dx,d,es,e,rfl,lF,aT,λq hq=>?_⟩
  refine⟨q,xc,Th,λq2 bY=>⟨Sh,λt ht=>?_⟩⟩
  rw[←Xh]at ht ⊢
  have k4:Keep [] H3 (Z4 (.tup [Rb,Go q2])):=((Gx hq).trans (Gx bY)).trans Tq
  have mi:(Z4 (.tup [Rb,Go q2])) t=some (.tup [Rb,Go q2]):=zab
  have pO:(Z4 (.tup [Rb,Go q2])) q2=some (Gw (e.2.1.reverse.map V.str)):=by rw[zaf (zac (o:=_) zab ht)];exact zab
  generalize Z4 (.tup [Rb,Go q2])=H4 at k4 mi pO
  refine⟨_,Ha,as++[t],am++[(e.1,e.2.1.reverse,q2)],rfl,ad,by rw[Qp];rfl,⟨xc⟩,zav (Paired.imp' (λa p h=>k4 _ _ h Gf) aJ) (Rk mi),λe' aU=>?_,?_,S5 k4⟩
  ·rcases Qk.mp aU with z | z
   ·exact k4 _ _ (gC e' z) Gf
   ·rw[Qc.mp z];exact pO
  ·rw [tk]
   unfold rsOf at bi ⊢
   rw[Qp,bi,Qp,Qp]
   rfl
 ·have cp:i=es.length:=by exact zar3 ‹_› ‹_›
  subst cp
  refine .inl ⟨⟨_,E3,Hx aA⟩,λD hD=>?_⟩
  rw[Qt GV]at bi
  have k3:=Keep.new (xs:=[]) (o:=.lst Ls) hD
  have hn:am.map (·.1)=es.map (·.1):=by
   rw[←zbg,bi,←zbg,Zj];rfl
  have ap:row (S2 am)=λy=>(ZJ y).reverse:=funext λy=>by rw[bi];exact row_mir _ y
  have C1:Cert (am.map (·.1)) (LH am) PJ a9:=by rw[hn,ap];exact cert_mir Ct
  refine mk_web ⟨zab,Paired.imp' (λ_ _ h=>k3 _ _ h Gf) aJ,λe he=>k3 _ _ (gC e he) Gf⟩ Gg (λe he=>?_) C1 λx2 dx2 d2 ts H' wt' W' eV hr' _ k'=>kq x2 dx2 d2 ts H' wt' W' (by rw[←hn];exact eV) (λy=>(hr' y).trans (by rw[ap];exact Uq _)) (((SQ k2).trans k3).trans k')
  have:e.1∈es.map (·.1):=hn▸Qh.mpr ⟨e,he,rfl⟩
  obtain⟨e',aU,ee⟩:=Qh.mp this
  rw[←ee];exact nok e' aU
def zge:zak [qR,qP, "_law_found", "_law_place", "_law_around", "_law_at"] [qR,qP] (zai sORows):=fsk
def ok_orows(F:QD "_law_other_rows" "_law_other_rows" sORows f fd)(GT:ZK "_law_take" [qP,qM] 1 zfl)(ae:mg "len" = none):ZB 2 f fd [qR,qP] spORows:=by
 refine F.okL zge Gn
 obtain⟨d,p,b,m,es,rfl,hp,R,aN,bp,k⟩:=h
 have hu:=zcd hr
 have ai:BV _:=hr.mono Gj
 have ar:sizeLine=16777216:=sizeLine_eq
 refine⟨_,zad (Mp zge.nd So)
  (zad (zgh (Z0 EQ (Di zge.nd)
   (zad (BD zge.nd OF)
   (zad (Mm zge.nd (zw S4))
   (zag (zba (ze9 Zp PySem.F.slot_list_insert PySem.F.type_list_insert mt_insert Rz (zaa (zw RV)
    (zaa (zbo (QC (Hz (K8 (JU Rx (zb2 RD) zct) (JU Rx zct (zb2 RD)))))) zae)))))))))
  (zag Oc)),?_⟩
 have ay:(es.map (·.1)).Nodup:=R.nd
 have ap:∀e∈es,ZJ e.1=e.2.1:=λe he=>zaw ay he
 refine⟨TC,λro cc=>?_⟩
 have nfz:∀o' u',H d≠some Ss:=λo' u' z=>by rw[R.dc]at z;cases z
 have npd:p≠d:=Zk (pot_nd hp R.dc)
 have npr:p≠ro:=zac hp.1 cc
 have iZ:d≠ro:=zac R.dc cc
 have k1:Keep [] H (CN ro):=Keep.new cc
 have mB:(CN ro) ro=some Hk:=zab
 generalize ZS ro Hk=H1 at k1 mB
 have R1:RAt H1 d es:=R.keep k1 Gf He
 have eT:Pot H1 p b m:=hp.keep k1 Gf
 have rowne:∀e∈es,e.2.2∉[p,d,ro]:=λe he=>by
  have h1:=NB he
  simp only[Qf,Je,or_false,not_or]
  exact⟨zdi hp h1,KN R.dc Gm,zac h1 cc⟩
 refine⟨_,rfl,d,_,rfl,R1.dc,λo=>for_dict (λi σ H'=>Aj4 (Ex3 λx3 x4 x5=>σ=[Ta,Ig,Gh ro,x3,x4,x5]) (H' d=some ER) (Keep [p,d,ro] H1 H') (Ex5 λ(b' m':Int) (as:Nn) (am ag:List Ent)=>Aj7 (U3 m') (H' ro=some HW) Cj (∀e∈am,H' e.2.2=some HU) (ag.Perm (LX i)) (zg2 am ag) (∀e∈am,e.2.2≠ro)))
  ⟨⟨_,_,_,rfl⟩,zab,HR,b,m,[],[],[],eT.keep (xs:=[d]) HR AT,P5 iZ mB,.nil,λe he=>(by cases he),List.Perm.refl _,.nil,λe he=>(by cases he)⟩ (λi σ H' _ hh=>hh.2) ?_ ?_⟩
 ·rintro i pr σ H2 ju ⟨⟨x3,x4,x5,rfl⟩,hz,k2,b2,m2,as,am,ag,br,jl,dD,fA,cg,dF,rowro⟩
  have hi:i<es.length:=by
   have:=(Tl ju).1
   rwa[Qa]at this
  have g1:pr=((Sum.inr es[i].1:Key),V.ref es[i].2.2):=by
   rw[Qo,Qd hi]at ju
   exact(Qn ju).symm
  subst g1
  have aT:es[i]∈es:=Qs hi
  have sf:=bp _ aT
  have ba:=R1.ro _ aT
  have cP:=k2 _ _ ba (rowne _ aT)
  have bo:as.length=i:=by
   rw[Zy dD,Zy dF,cg.length_eq,Zq];lia
  refine⟨xc,xc,d,.ref es[i].2.2,rfl,Rf ⟨_,Sum.inr es[i].1,OS ⟨o,hz⟩,rfl,(zb6 ay aT).symm⟩,?_⟩
  refine⟨xc,xc,es[i].2.2,xc,Se cP,_,xc,rfl,p,b2,m2,xc,br,RQ,RQ,λj3 b3 m3 H3 hj3 tf be lO=>?_⟩
  have k3:=zbd lO
  obtain⟨j,rfl⟩:=Zo hj3
  rw[Qa]at tf
  have hj:j≤es[i].2.1.length:=by lia
  have nrop:ro≠p:=Zk npr
  have jk:=k3 _ _ jl (by simpa using nrop)
  have gZ:=k3 _ _ cP (by simpa using zdi br cP)
  have iz:=k3 _ _ hz (by simpa using Zk npd)
  have rN:Paired (Hr H3) as am:=Paired.imp' (λa e h=>k3 _ _ h (by simpa using Fo br.1 Gm)) dD
  have mw:∀e∈am,H3 e.2.2=some HU:=λe he=>k3 _ _ (fA e he) (by simpa using zdi br (fA e he))
  refine⟨xc,HX jk,xc,xc,ro,xc,Se jk,_,xc,rfl,p,b3,m3,xc,be,RQ,RQ,λj4 b4 m4 H4 jJ sZ bq gP=>?_⟩
  have k4:=zbd gP
  obtain⟨n,rfl⟩:=Zo jJ
  rw[Qa]at sZ
  have hn:n≤as.length:=by lia
  have bW:=k4 _ _ jk (by simpa using nrop)
  have jm:=k4 _ _ gZ (by simpa using zdi be gZ)
  have hz4:=k4 _ _ iz (by simpa using Zk npd)
  have gY:Paired (Hr H4) as am:=Paired.imp' (λa e h=>k4 _ _ h (by simpa using Fo be.1 Gm)) rN
  have rZ:∀e∈am,H4 e.2.2=some HU:=λe he=>k4 _ _ (mw e he) (by simpa using zdi be (mw e he))
  refine⟨.str es[i].1,rfl,xc,xc,xc,es[i].2.2,xc,Gs jm,λq1 h1=>?_⟩
  have n1:es[i].2.2≠q1:=zac jm h1
  refine⟨xc,xc,xc,es[i].2.2,xc,Gs (by rw[zaf n1];exact jm),λq2 h2=>?_⟩
  have du:q1≠q2:=zac (o:=_) zab h2
  have aA:(es[i].2.1.map V.str).length=es[i].2.1.length:=Qa ..
  refine⟨q1,q2,_,xc,rfl,Ik,zab,?_,λq3 h3=>?_⟩
  ·have c1:=zbl (es[i].2.1.map V.str) (some (j:Int)) none
   have c2:=zbl (es[i].2.1.map V.str) none (some (j:Int))
   rw[aA]at c1 c2
   lia
  have ecut:cutV (es[i].2.1.map V.str) (some (j:Int)) none++cutV (es[i].2.1.map V.str) none (some (j:Int))=(es[i].2.1.drop j++es[i].2.1.take j).map V.str:=by
   rw[zf6 Ch,zht Ch,Qp,Jk,Ut]
  rw[ecut]
  have k5:Keep [] H4 (upd HZ q3 (Gw ((es[i].2.1.drop j++es[i].2.1.take j).map V.str))):=((Gx h1).trans CP).trans EM
  have sx:(upd HZ q3 (Gw ((es[i].2.1.drop j++es[i].2.1.take j).map V.str))) q3=some (Gw ((es[i].2.1.drop j++es[i].2.1.take j).map V.str)):=zab
  generalize upd HZ q3 (Gw ((es[i].2.1.drop j++es[i].2.1.take j).map V.str))=H5 at k5 sx
  refine⟨Sh,λt ht=>?_⟩
  have k6:Keep [] H4 (QU t (.tup [.str es[i].1,Go q3])):=k5.trans Tq
  have gB:(QU t (.tup [.str es[i].1,Go q3])) t=some (.tup [.str es[i].1,Go q3]):=zab
  have mI:(QU t (.tup [.str es[i].1,Go q3])) q3=some (Gw ((es[i].2.1.drop j++es[i].2.1.take j).map V.str)):=by rw[zaf (zac sx ht)];exact sx
  generalize QU t (.tup [.str es[i].1,Go q3])=H6 at k6 gB mI
  have mz:=k6 _ _ bW Gf
  refine⟨ro,_,_,n,rfl,rfl,mz,RQ,zm hn,?_⟩
  have einsert:(as.map V.ref).take n++V.ref t::(as.map V.ref).drop n=(as.take n++t::as.drop n).map V.ref:=by
   rw[Qp,Qm,Ut,Jk]
  have nq3ro:q3≠ro:=λz=>by
   have h6:=k5 _ _ bW Gf
   have eM:=(zac (H:=upd (yU q1 (cutV (es[i].2.1.map V.str) (some (j:Int)) none)) q2 (Gw (cutV (es[i].2.1.map V.str) none (some (j:Int))))) (a:=ro) (b:=q3) (((Keep.new (xs:=[]) h1).trans CP) _ _ bW Gf) h3)
   exact eM z.symm
  have keepro:∀{a:Nb} {u:HO},H6 a=some u→a≠ro→(Ci ro ((as.map V.ref).take n++V.ref t::(as.map V.ref).drop n)) a=some u:=λ{a u} e ne=>by rw[zaf ne];exact e
  have tupro:∀{a:Nb} {xs:List V},H6 a=some RX→a≠ro:=λ{a xs} e=>zat e mz Gm
  refine⟨⟨_,_,xc⟩,by rw[zaf iZ];exact k6 _ _ hz4 Gf,(((S5 AS).trans AR).trans LS).trans HR,b4,m4,as.take n++t::as.drop n,am.take n++(es[i].1,es[i].2.1.drop j++es[i].2.1.take j,q3)::am.drop n,ag.take n++es[i]::ag.drop n,(bq.keep k6 Gf).keep (xs:=[ro]) HR (Gk npr),by rw[zab,einsert],?_,λe he=>?_,?_,?_,λe he=>?_⟩
  ·have h6:Paired (fun a (e:Ent)=>(Ci ro ((as.map V.ref).take n++V.ref t::(as.map V.ref).drop n)) a=some (.tup [Rb,Tg])) as am:=Paired.imp' (fun a e h=>keepro (Iy h) (tupro (Iy h))) gY
   exact zav (zgk n h6) (LJ (keepro gB (tupro gB)) (zgl n h6))
  ·have aU:e∈am∨e=(es[i].1,es[i].2.1.drop j++es[i].2.1.take j,q3):=by
    rcases Qk.mp he with z | z
    ·exact .inl (Wv z)
    ·rcases Qf.mp z with y | y
     ·exact .inr y
     ·exact .inl (Jc y)
   rcases aU with z | z
   ·exact keepro (Iy (rZ e z)) (rowro e z)
   ·rw[z];exact keepro mI nq3ro
  ·rw [Ql hi]
   have:(ag.take n++es[i]::ag.drop n).Perm (es[i]::ag):=by
    refine Kc.trans ?_
    rw[Wc]
   exact this.trans ((FQ cg).trans (List.perm_append_singleton _ _).symm)
  ·exact zav (zgk n dF) (.cons ⟨rfl,j,rfl⟩ (zgl n dF))
  ·rcases Qk.mp he with z | z
   ·exact rowro e (Wv z)
   ·rcases Qf.mp z with y | y
    ·rw[y];exact nq3ro
    ·exact rowro e (Jc y)
 ·rintro σ H2 ⟨⟨x3,x4,x5,rfl⟩,hz,k2,b2,m2,as,am,ag,br,jl,dD,fA,cg,dF,rowro⟩
  rw[Qa,Qt GV]at cg
  refine⟨d,o,_,hz,nfz,?_⟩
  have kf:Keep [p,ro] H1 O6:=λc u ec hc=>by
   by_cases aD:c=d
   ·subst aD
    rw[zab,←R1.dc];exact ec
   ·rw [zaf aD]
    refine k2 c u ec ?_
    simp only[Qf,Je,or_false,not_or]at hc ⊢
    exact⟨hc.1,aD,hc.2⟩
  have be:Pot O6 p b2 m2:=br.keep (xs:=[d]) HR AT
  have hR3:RwAt O6 ro as am:=⟨P5 iZ jl,Paired.imp' (λa e h=>by rw[zaf z9];exact h) dD,λe he=>by rw[zaf (zat (fA e he) hz Gm)];exact fA e he⟩
  generalize QA d G'=H3 at kf be hR3
  refine⟨xc,k ro as am ag b2 m2 _ hR3 dF cg be λc o ec hc=>kf c o TH ?_⟩
  simp only[Qf,Je,or_false,not_or]at hc ⊢
  exact⟨hc,W1 cc⟩
end
section
variable{r r':Nq}
def conn_same(h:∀x y,y∈r x↔y∈r' x)(s:Str):Conn (λz=>(r z).filter p) s=Conn (λz=>(r' z).filter p) s:=by
 have key:∀{r r':Nq},(∀x y,y∈r x↔y∈r' x)→∀y,Conn (λz=>(r z).filter p) s y→Conn (λz=>(r' z).filter p) s y:=λ{r r'} h y c=>Conn.mono (λa b hb=>by
  have:=Zg.mp hb
  exact Zg.mpr ⟨(h a b).mp this.1,this.2⟩) c
 funext y
 exact propext ⟨key h y,key (λa b=>(h a b).symm) y⟩
def ch_same(h:∀x y,y∈r x↔y∈r' x):chN r=chN r':=by
 funext hs q
 unfold chN
 rw[conn_same h]
def sw_same(h:∀x y,y∈r x↔y∈r' x):swN r=swN r':=by
 funext hs q
 unfold swN
 rw[ch_same h]
def zio(h:∀x y,y∈r x↔y∈r' x)(hs:List Hi)(x:Str):mex (usN r hs x)=mex (usN r' hs x):=by
 refine mex_eq λz=>?_
 unfold usN
 rw[Qh,Qh]
 constructor<;>rintro⟨a,ha,e⟩<;>have:=Zg.mp ha
 ·exact⟨a,Zg.mpr ⟨(h x a).mp this.1,this.2⟩,e⟩
 ·exact⟨a,Zg.mpr ⟨(h x a).mpr this.1,this.2⟩,e⟩
def tr_same(h:∀x y,y∈r x↔y∈r' x):trN r=trN r':=by
 funext hs x
 unfold trN
 rw[show(λy=>y∈r x)=λy=>y∈r' x from funext λy=>propext (h x y)]
def on_same(h:∀x y,y∈r x↔y∈r' x):onN r=onN r':=by
 funext hs x m
 unfold onN
 rw[tr_same h,sw_same h]
 congr 1
 refine Zz λq _=>?_
 funext _
 rw[zio h]
def tw_same(h:∀x y,y∈r x↔y∈r' x):twN r=twN r':=by
 funext hs x m
 unfold twN
 rw[tr_same h,sw_same h,on_same h]
def fs_same(h:∀x y,y∈r x↔y∈r' x):fsN r=fsN r':=by
 funext hs x m
 unfold fsN
 rw[zio h,on_same h,tw_same h]
theorem fp_same(h:∀x y,y∈r x↔y∈r' x):∀(xs:Ng) (hs:List Hi) (m s:Nat),Ve hs m s=fpN r' xs hs m s
 |[],_,_,_=>rfl
 | x::t,hs,m,s=>by
  cases e:fsN r' hs x (m-s) with
  | mk a n =>
   cases a with
   |none=>rw[zi1 e,zi1 (by rw[fs_same h];exact e)]
   |some L =>
    have hc:UG L=cbN r' hs x L:=by unfold cbN;rw[zio h]
    rw[zi0 e,zi0 (by rw[fs_same h];exact e),hc,fp_same h t,zio h]
end
def pap_ok(W:WOk es)(nd:(es.map (·.1)).Nodup)(nok:∀e∈es,zcm e.1)(O:zcp (es.map (·.1)) Hw T)(hM:M<10000):Dok (papD (QQ T.reverse [] M 0)) 6 200000:=by
 have hm:∀y∈T.reverse,y∈es.map (·.1):=λy hy=>O.pm.mem_iff.mp (We.mp hy)
 refine dok_pap (N:=es.map (·.1)) (λy hy=>?_) (by rw[Qa];exact W.few) hm ?_ (λy hy=>?_) hM
 ·obtain ⟨e,he,rfl⟩:=Qh.mp hy
  exact nok e he
 ·rw[Ji,O.pm.length_eq,Qa];exact W.few
 ·obtain ⟨e,he,rfl⟩:=Qh.mp (hm y hy)
  rw[XL he];exact KS he
def pap_same(hp:(ag.map (·.1)).Perm (es.map (·.1)))(hr:∀y,(IO ag).Perm (ZJ y))(O:zcp (es.map (·.1)) Hw T)(O':zcp (ag.map (·.1)) (LH ag) T'):fpN (LH ag) T'.reverse [] M 0=QQ T.reverse [] M 0:=by
 rw[(O'.turn hp hr).one O,fp_same λy z=>(hr y).mem_iff]
def RowC(H:Hp)(pl:Nb)(v:V):Prop:=∃b s o r zs,v=.ref b∧H b=some (.tup [RN s,yo,Go r])∧r≠pl∧H r=some OO
def StC(H:Hp)(pl:Nb)(v:V):Prop:=∃a s h l ys,v=.ref a∧H a=some (.tup [RN s,Ht h,RH])∧l≠pl∧H l=some TX∧∀v∈ys,Ge v
def RowC.clr(h:Ge v)(hc:H c=some (Gw cs)):RowC (CN c) pl v:=by
 obtain⟨b,s,o,r,zs,rfl,h1,h2,h3⟩:=h
 have e1:(CN c) b=some (.tup [RN s,yo,Go r]):=by rw[zaf (KN hc Gm)];exact h1
 by_cases e:r=c
 ·subst e;exact⟨b,s,o,r,[],rfl,e1,h2,zab⟩
 ·exact⟨b,s,o,r,zs,rfl,e1,h2,Gv e h3⟩
def StC.clr(h:StC H pl v)(hc:H c=some (Gw cs)):StC (CN c) pl v:=by
 obtain⟨a,s,o,l,ys,rfl,h1,h2,h3,h4⟩:=h
 have e1:(CN c) a=some (.tup [RN s,yo,RH]):=by rw[zaf (KN hc Gm)];exact h1
 by_cases e:l=c
 ·subst e;exact⟨a,s,o,l,[],rfl,e1,h2,zab,λv hv=>(by cases hv)⟩
 ·exact⟨a,s,o,l,ys,rfl,e1,h2,Gv e h3,λv hv=>(h4 v hv).clr hc⟩
def WAt.clr(h:Mg es)(hc:H c=some (Gw cs)):WAt (ZS c o) C x dx d es :=
 h.keep (Keep.wr (xs:=[c]) Qb) (by simpa using zat h.ob hc Gm) (by simpa using zat h.ta.dc hc Gm) λe he=>by simpa using zat (h.ta.ro e he) hc Gm
def stc_of(aO:H pl=some HW)(hp:zr (My H) L):∀v∈as.map V.ref,StC H pl v:=by
 intro v hv
 obtain⟨a,ha,rfl⟩:=Qh.mp hv
 obtain⟨i,hi,rfl⟩:=Zr ha
 obtain⟨aK,q⟩:=zay hp hi
 obtain⟨l,h1,bs,_,h2,h3⟩:=q
 have no:∀{r:Nb} {zs:Ng},H r=some Cg→r≠pl:=λ{r zs} e z=>by
  subst z
  rw[e]at aO
  have aO:zs.map V.str=as.map V.ref:=by injection(Qn aO)
  have:V.ref as[i]∈zs.map V.str:=aO▸Qh.mpr ⟨_,ha,rfl⟩
  obtain⟨z,_,e⟩:=Qh.mp this
  cases e
 have row:∀v∈bs.map V.ref,Ge v:=λv hv=>by
  obtain⟨b,hb,rfl⟩:=Qh.mp hv
  obtain⟨j,hj,rfl⟩:=Zr hb
  obtain⟨_,q⟩:=zay h3 hj
  obtain⟨r,_,g1,g2⟩:=q
  exact⟨_,_,_,r,xc,g1,no g2,g2⟩
 refine⟨_,_,_,l,xc,h1,λz=>?_,h2,row⟩
 subst z
 rw[h2]at aO
 have e:bs.map V.ref=as.map V.ref:=by injection(Qn aO)
 obtain⟨b,s,o,r,zs,e1,e2,e3,e4⟩:=row (.ref as[i]) (e▸Qh.mpr ⟨_,ha,rfl⟩)
 cases e1
 rw[h1]at e2
 cases e2
 exact e3 rfl
abbrev sLaw:Stmt:=top 59
inductive IspLaw(K:Na)(vs:List V)(H:Hp)(Q:VK):Prop
 |mk (a:Nb) (ns:List Int) (h0:vs=[.ref a]) (h1:SqL K H a (ns.map V.int)) (h3:∀H',Q (.bl true) H'):IspLaw K vs H Q
def spLaw(K:Na):Sp:=λvs H Q _=>IspLaw K vs H Q
def sq_keep(h:YM xs)(k:Keep [] H H'):SqL K H' a xs:=h.imp (λr=>r.imp (λe=>k _ _ e Gf) λ⟨o,e⟩=>⟨o,Ij e⟩) id
def cut_ints(ns:List Int)(lo hi:Option Int):∃ms:List Int,cutV Tx lo hi=ms.map V.int:=by
 unfold cutV
 exact⟨(ns.drop _).take _,by rw[Ut,Jk]⟩
def cert_nil:Cert (([]:List Ent).map (·.1)) (row (rsOf [])) [] id :=
 ⟨Zm,GD,λ_=>Zm,λ_ h=>(by cases h),λ_ _ h=>(by cases h),Zm,λs=>⟨λh=>(by cases h),λh=>(by cases h)⟩,λ_ h=>(by cases h),λ_ h=>(by cases h),λ_ _ h=>(by cases h),λ_ h=>(by cases h),λ_ h=>(by cases h)⟩
section
variable{P:Nk}{w:Nl}{K:Na}{mg:Nd}{base:No}
def zdn:zak [qS,qR, "_law_cell_here",qP, "_law_k", "_law_most", "_law_web", "_law_due",qO, "_law_found", "_law_place", "_law_hue", "_law_swaps", "_law_start", "_law_other_hue", "_law_row_of"] [qS] yc:=fsk
def ok_law(F:QD "law" "law" sLaw f fd)(GP:ZK "_law_pot" ["_law_cell_here"] 1 spPot)(GC:ZK "_law_cell" [qS, "_law_k"] 1 z4)(GT:ZK "_law_take" [qP,qM] 1 zfl)(GN:ZK "_law_rounds" [qS, "_law_most"] 4 (spRounds K))(GX:ZK "_law_crossed" [qR,qP] 3 zgc)(GR:ZK "_law_rows" [qR] 1 spRows)(GB:ZK "_law_other_rows" [qR,qP] 2 spORows)(GM:ZK "mirrored" ["web"] 6 (spMir C))(MW:Mk K C fi)(mW:mg "Web" = some Ir)(bI:WK fdi ["self", "rows"] [])(GI:ZB 4 fi fdi ["self", "rows"] zW)(GO:ZK "four_paper" ["web", "most"] 7 (spFp C))(aV:mg "range" = none)(hJ:mg "repr" = none):ZB 8 f fd [qS] (spLaw K):=by
 refine F.okL zdn GQ
 obtain⟨a,ns,rfl,ha,kq⟩:=h
 have ai:BV _:=hr.mono Gj
 have bj:Mq _:=hr.mono Gj
 have mE:Room 3 _:=hr.mono Gj
 have mD:Room 4 _:=hr.mono Gj
 have ss:Room 5 _:=hr.mono Gj
 have hr6:Room 6 _:=hr.mono Gj
 have ar:=sizeLine_eq
 have eQ:=Jo (Nat.add_le_add_left (show 8≤16*7+200 by decide) _) (Jo (Km (Nat.add_assoc ..).symm) hr.un)
 have i0:∀x y:V,atI [x,y] ((0:Nat):Int)=some x:=λx y=>za3 rfl
 refine⟨_,zad (MR zdn.nd (LM GN mD Sk))
  (zad (Z0 (Iw (JB (zb2 zah) (zb2 zah))) (MQ zdn.nd)
   (zad (B8 zdn.nd (FY RV))
   (zag (Z0 (Bp (Hz (YC zah (QO (QC Sk))))) (MS zdn.nd)
    (zag (zba (pcl GX mE (ZU SH))))))))
  (zad (B8 zdn.nd (FY (Hz (OA (LM GC ai Sk)))))
  (zad (Mm zdn.nd (QO (QC Sk)))
  (zad (Do zdn.nd (yd (Hz (pcl GR ai RZ))))
  (zad (zap 7 zdn.nd PZ)
  (zad (zap 8 zdn.nd (yd (Hz (pcl GB bj (ZU SH)))))
  (zad (zby (PW.pt (pw_or (zf (zaa (pcl GM hr6 ET) TZ))
   (pw_or1 (zf (zaa Ox TZ))))) zb zau)
  (zad (zap 9 zdn.nd (BQ (YJ TZ)))
  (zad (zby (zch (zfa (WF Od zah (fun _ _=>rfl))))
   (zad (Z0 (zao (WF Od zah (fun _ _=>rfl))) (Oz 10 11 12)
    (zad (Z0 (Iw (pv 12)) (Oz 13 14 15)
     (zag (zba (X3 (pv 15)))))
    (zag (zba (X3 (pv 12))))))
   (zag (zba (X3 (SS Od))))) zau)
  (zag (zax (pe_and (pe_cmpR zil PZ Lx RE)
   (pe_one (pe_cmpR (op_eq_tupD eQ) (BQ (zaa (yd (ML zae)) TZ)) (zbo (ML Sk)) RE)))))))))))))),?_⟩
 refine⟨xc,a,ns,16,rfl,ha,Gj,Gj,λd es H1 fd D1 nok k1=>?_⟩
 have ha1:=sq_keep ha k1
 refine⟨xc,xc,xc,a,xc,ha1,λsl pL=>?_⟩
 obtain⟨ms,hms⟩:=cut_ints ns (Gz 1) (Gz 13)
 rw[hms]
 have k2:Keep [] H1 (QJ sl Lj):=Keep.new pL
 have g2:(QJ sl Lj) sl=some Lj:=zab
 generalize QJ sl Lj=H2 at k2 g2
 have nsd:sl≠d:=Zk (zac D1.ra.dc pL)
 refine⟨sl,rfl,⟨_,Gs g2⟩,zbb (xs:=ms.map V.int) (λi σ H'=>Aj3 (Ex3 λx2 x3 x4=>σ=[Gh a,Ta,x2,x3,x4,none,none,none,none,none,none,none,none,none,none,none]) (Keep [d] H2 H') (Ex1 λag:List Ent=>Dq (ag.map (·.1)=es.map (·.1))))
  ⟨⟨_,_,_,rfl⟩,Keep.refl,es,D1.k0 k2,rfl⟩ (λi σ H' _ hh=>SqL.of (L6 g2 (Gk nsd))) ?_ ?_⟩
 ·rintro i v σ H3 hv ⟨⟨x2,x3,x4,rfl⟩,k3,cH,D3,n3⟩
  obtain⟨c,_,rfl⟩:=Qh.mp (Yd hv)
  refine⟨xc,c,rfl,λp b m H4 fp4 bq k4=>?_⟩
  refine⟨xc,p,b,m,3,rfl,bq,Gj,Gj,λd5 b5 m5 H5 j' ly aP gu=>?_⟩
  have k5:=zbd gu
  have D5:=(D3.k0 k4).pot bq k5
  refine⟨_,xc,rfl,1+d5,rfl,Gg,Gg,?_⟩
  have kd:∀{H':Hp},Keep [d,p] H5 H'→Keep [d] H2 H':=λkk c o ec nc=>by
   have ec3:=k3 c o ec nc
   have ncp:c≠p:=zac ec3 fp4
   exact kk c o (k5 c o (k4 c o ec3 Gf) (Gk ncp)) (by simp;exact⟨Gk nc,ncp⟩)
  refine zcw (lo:=0) (λi σ H'=>Aj3 (Ex1 λx4=>σ=[Gh a,Ta,RJ c,Ig,x4,none,none,none,none,none,none,none,none,none,none,none]) (Keep [d,p] H5 H') (Ex3 λ(ag:List Ent) (b' m':Int)=>W8 (ag.map (·.1)=es.map (·.1))))
   ⟨⟨_,rfl⟩,Keep.refl,cH,b5,m5,D5,aP,n3⟩ ?_ ?_
  ·rintro j σ H6 hj ⟨⟨x4,rfl⟩,k6,uf,b6,m6,D6,bd,n6⟩
   refine⟨xc,xc,p,d,b6,m6,uf,rfl,bd,D6,λb7 m7 oM H7 aS D7 n7 k7=>?_⟩
   exact⟨⟨xc⟩,Oj k7,oM,b7,m7,D7,aS,n7.trans n6⟩
  ·rintro σ H6 ⟨⟨x4,rfl⟩,k6,uf,b6,m6,D6,bd,n6⟩
   exact⟨⟨_,_,xc⟩,kd k6,uf,D6,n6⟩
 rintro σ H3 ⟨⟨x2,x3,x4,rfl⟩,k3,cH,D3,n3⟩
 have dw:Keep [] H H3:=λc o ec _=>k3 c o (k2 c o TH Gf) (by simpa using W1 fd)
 refine⟨xc,a,ns,1,rfl,sq_keep ha dw,λc=>⟨_,_,rfl,rfl,c+55,rfl,λp b m HA fpA hpA kA=>?_⟩⟩
 refine⟨xc,p,b,m,401,rfl,hpA,Gj,Gj,λn1 b5 m5 HB j' ly aP gu=>?_⟩
 obtain⟨M,rfl⟩:=Zo j'
 have k3B:Keep [] H3 HB:=λc' o ec _=>zbd gu c' o (kA c' o ec Gf) (by simpa using W1 fpA)
 have DB:=D3.k0 k3B
 have kkB:=dw.trans k3B
 have hM:M<10000:=by lia
 refine⟨xc,d,cH,rfl,DB,λrl as es4 H4 RW bi frl k4=>?_⟩
 obtain⟨cs,a9,C3⟩:=D3.cert
 have kW:es4.map (·.1)=cH.map (·.1):=by rw[←zbg,bi,zbg]
 have Ct:Cert (es4.map (·.1)) (LH es4) cs a9:=by rw[kW,bi];exact C3
 have qT:∀y∈cH.map (·.1),zcm y:=λy hy=>nok y (n3▸hy)
 have nk:∀{ts:List Ent},(∀y∈ts.map (·.1),y∈cH.map (·.1))→∀e∈ts,zcm e.1:=λh e he=>qT _ (h _ (Ts ⟨e,he,rfl⟩))
 have ll:∀{ts:List Ent},(ts.map (·.1)).Perm (cH.map (·.1))→ts.length≤16:=λh=>by
  have:=h.length_eq
  rw[Qa,Qa]at this
  rw[this];exact D3.few
 refine mk_web RW (ll (.of_eq kW)) (nk λy hy=>kW▸hy) Ct λx dx d2 ts H6 wt W bd sr gN k6=>?_
 have hV:(ts.map (·.1)).Perm (cH.map (·.1)):=kW▸bd
 have nokT:=nk λy hy=>hV.mem_iff.mp hy
 refine⟨xc,xc,x,dx,d2,ts,M,rfl,wt,W,λt7 T H7 O p7 k7=>?_⟩
 have hd:=pap_ok W wt.ta.nd nokT O hM
 refine⟨t7,xc,rd_pap p7,hd.sh,hd.nd,hd.dp,OX,?_⟩
 have k37:Keep [] HB H7:=(Lw k6).trans k7
 have aS:=aP.keep k37 Gf
 have D7:=DB.k0 k37
 have se:∀e∈cH,e.2.1.length≤16:=λe he=>by
  have h1:e.2.1.Nodup:=by have:=C3.rn e.1;rw[zaw C3.nd he]at this;exact this
  have:=zck h1 λy hy=>C3.inn' (x:=e.1) (by rw[zaw C3.nd he];exact hy)
  rw[Qa]at this
  exact Ze this D3.few
 refine⟨xc,xc,d,p,b5,m5,cH,rfl,aS,D7.ra,D3.few,λe he=>Ze (se e he) Gj,λol as8 cV es8' b8 m8 H8 RW8 cZ jy bG k8=>?_⟩
 have pV:(cV.map (·.1)).Perm (cH.map (·.1)):=by rw[zb7 cZ];exact jy.map _
 have C8:=zgz C3 pV (zc5 cZ jy C3.nd)
 have km:=wt.keep k7 Gf Gf He
 have km:=km.pot aS k8
 refine mk_web RW8 (ll pV) (nk λy hy=>pV.mem_iff.mp hy) C8 λx9 dx9 d9 ts9 H9 wt9 W9 jA hr9 _ k9=>?_
 have wtA:=km.keep k9 Gf Gf He
 refine⟨xc,x,dx,d2,ts,cs,a9,rfl,wtA,W.few,nokT,gN,λxM dxM dM tsM HM wtM WM hpM hrM kM=>?_⟩
 refine⟨xc,xM,dxM,dM,tsM,M,rfl,wtM,WM,λtM TM HN OM pM kN=>?_⟩
 rw[pap_same hpM hrM O OM]at pM
 refine⟨tM,xc,rd_pap pM,hd.sh,hd.nd,hd.dp,OX,xc,rfl,?_⟩
 have kMN:=kM.trans kN
 have wt9N:=wt9.keep kMN Gf Gf He
 have wtN:=wtA.keep kMN Gf Gf He
 have sn:∀y,(IO cV).Perm (IO cH):=λy=>by obtain⟨j,e⟩:=zc5 cZ jy C3.nd y;rw[e];exact zf1 ..
 have hrT:∀y,(X7 y).Perm (IO cH):=λy=>(sr y).trans (by rw[bi])
 refine⟨xc,zbk Gf ?_⟩
 refine⟨xc,xc,x9,dx9,d9,ts9,M,rfl,wt9N,W9,λtP TP HP OP pP kP=>?_⟩
 rw[pap_same ((jA.trans pV).trans hV.symm) (λy=>((hr9 y).trans (sn y)).trans (hrT y).symm) O OP]at pP
 refine⟨tP,xc,rd_pap pP,hd.sh,hd.nd,hd.dp,OX,xc,rfl,?_⟩
 refine⟨xc,zbk Gf ?_⟩
 have wtP:=wtN.keep kP Gf Gf He
 refine⟨xc,xc,x,dx,d2,ts,M,rfl,wtP,W,λcJ T10 gq O10 p10 lR=>?_⟩
 have lG:=wtP.keep lR Gf Gf He
 obtain⟨due,o9⟩:∃due,due=(papD (X4 T.reverse [] M 0)).shown:=⟨_,rfl⟩
 rw[←o9]
 dsimp only[zez]
 refine zg8 (λ σ H'=>Aj2 (Ex6 λy1 y2 y3 y4 y5 y6=>σ=[Gh a,Ta,x2,Ig,x4,Gz (.int (M:Int)),Ih,SK due,Gh x9,Gh cJ,y1,y2,y3,y4,y5,y6]) ye) (λD' bE=>?_) ?_
 ·rcases p10 with ⟨h0,h1⟩ | ⟨pl,as,B,L,h0,h1,h2,h3⟩
  ·refine ⟨_,rfl,cJ,_,_,_,rfl,rfl,yb,ID,_,rfl,W0 ?_⟩
   exact bE _ _ ⟨⟨_,_,_,_,_,_,rfl⟩,lG⟩
  ·refine ⟨_,rfl,cJ,_,_,_,rfl,rfl,yb,ID,_,rfl,UL ?_⟩
   refine⟨_,rfl,cJ,_,_,_,rfl,rfl,SqT.of h1,i0 _ _,pl,rfl,⟨_,Gs h2⟩,zbb (xs:=as.map V.ref) (λi σ H'=>Aj5 (Ex6 λy1 y2 y3 y4 y5 y6=>σ=[Gh a,Ta,x2,Ig,x4,Gz (.int (M:Int)),Ih,SK due,Gh x9,Gh cJ,y1,y2,y3,y4,y5,y6]) (H' cJ=some (.tup [Go pl,Ht ((X4 T10.reverse [] M 0).2:Nat)])) (H' pl=some HW) ye (∀v∈as.map V.ref,StC H' pl v))
    ⟨⟨_,_,_,_,_,_,rfl⟩,h1,h2,lG,stc_of h2 h3⟩ (λi σ H' _ hh=>SqL.of hh.3) ?_ ?_⟩
   ·rintro i v σ oV hv ⟨⟨y1,y2,y3,y4,y5,y6,rfl⟩,g1,g2,g3,g4⟩
    obtain⟨b,z,o,l,ys,rfl,e1,e2,e3,e4⟩:=g4 v (Yd hv)
    refine⟨b,xc,Hy e1,rfl,_,xc,_,xc,_,xc,rfl,?_⟩
    refine⟨_,rfl,l,rfl,⟨_,Gs e3⟩,zbb (xs:=ys) (λi σ H'=>Aj6 (Ex5 λy1 y2 y4 y5 y6=>σ=[Gh a,Ta,x2,Ig,x4,Gz (.int (M:Int)),Ih,SK due,Gh x9,Gh cJ,y1,y2,EW,y4,y5,y6]) (H' cJ=some (.tup [Go pl,Ht ((X4 T10.reverse [] M 0).2:Nat)])) (H' pl=some HW) ye (∀v∈as.map V.ref,StC H' pl v) (Aj2 (H' l=some TX) (∀v∈ys,RowC H' pl v)))
     ⟨⟨_,_,_,_,_,rfl⟩,g1,g2,g3,g4,e3,e4⟩ (λi σ H' _ hh=>SqL.of hh.6.1) ?_ ?_⟩
    ·rintro j u σ H12 hu ⟨⟨y1,y2,y4,y5,y6,rfl⟩,g1,g2,g3,g4,e3,e4⟩
     have dC:=Yd hu
     obtain⟨b',z',o',r,zs,rfl,f1,f2,f3⟩:=e4 u dC
     have nlr:r≠l:=λq=>by
      subst q
      rw[f3]at e3
      have e3:zs.map V.str=ys:=by injection(Qn e3)
      rw[←e3]at dC
      obtain⟨_,_,q⟩:=Qh.mp dC
      cases q
     refine⟨b',xc,Hy f1,rfl,_,xc,_,xc,_,xc,rfl,?_⟩
     refine⟨xc,HX f3,r,xc,rfl,f3,?_⟩
     exact⟨⟨_,_,_,_,xc⟩,Gv (zat g1 f3 Gm) g1,P5 f2 g2,g3.clr f3,λv hv=>(g4 v hv).clr f3,P5 nlr e3,λv hv=>(e4 v hv).clr f3⟩
    ·rintro σ H12 ⟨⟨y1,y2,y4,y5,y6,rfl⟩,g1,g2,g3,g4,e3,e4⟩
     refine⟨xc,HX e3,l,xc,rfl,e3,?_⟩
     exact⟨⟨_,_,_,_,_,xc⟩,Gv (zat g1 e3 Gm) g1,P5 e2 g2,g3.clr e3,λv hv=>(g4 v hv).clr e3⟩
   ·rintro σ oV ⟨⟨y1,y2,y3,y4,y5,y6,rfl⟩,g1,g2,g3,g4⟩
    refine⟨xc,cJ,_,_,xc,rfl,Hy g1,ID,HX g2,pl,xc,rfl,g2,?_⟩
    exact bE _ _ ⟨⟨_,_,_,_,_,_,rfl⟩,g3.clr g2⟩
 ·rintro σ oV ⟨⟨y1,y2,y3,y4,y5,y6,rfl⟩,qy⟩
  refine⟨xc,xc,x,dx,d2,ts,M,rfl,qy,W,λt12 T12 H12 O12 p12 k12=>?_⟩
  rw[O12.one O]at p12
  refine⟨t12,xc,rd_pap p12,hd.sh,hd.nd,hd.dp,OX,xc,rfl,?_⟩
  rw[←o9]
  refine⟨xc,zbt Gf ?_⟩
  refine⟨TC,λl0 hl0=>?_⟩
  refine mk_web (as:=[]) (es4:=[]) ⟨zab,.nil,λe he=>(by cases he)⟩ RP (λe he=>(by cases he)) cert_nil λxE dxE dE tsE HE wtE WE hpE _ _ kE=>?_
  refine⟨xc,xE,dxE,dE,tsE,M,rfl,wtE,WE,λtE TE HF OE pE kF=>?_⟩
  have hTE:TE=[]:=List.Perm.eq_nil (OE.pm.trans hpE)
  subst hTE
  rcases pE with⟨h0,_⟩ | ⟨l,cI,B',L',h0,h1,h2,h3⟩
  ·cases h0
  ·cases h0
   cases h3
   refine⟨TC,λl1 aE=>⟨Sh,λq hq=>?_⟩⟩
   have kG:Keep [] HF (upd (upd HF l1 Hk) q (.tup [Go l1,Ht 0])):=(Gx aE).trans CO
   exact⟨tE,q,_,xc,rfl,kG _ _ h1 Gf,zab,.cons (RG ⟨l,l1,_,xc,rfl,.inl ⟨kG _ _ h2 Gf,by rw[zaf (zac (o:=_) zab hq)];exact zab⟩,.nil⟩) (Rk (same_flat rfl)),kq _⟩
end
end K21
end
section
namespace L2
open PySem
def Nf(K:Na)(x:Str)(st:Stmt):Prop:=∃f fd,ZO x=some Pg∧QD x x st f fd
def Nm(K:Na)(C:Nb)(x q:Str)(st:Stmt):Prop:=∃f fd,Z1 x=some Pg∧XE TJ=true∧YN TJ=true∧QD x q st f fd
def zd8{K:Na}{x q:Str}{st:Stmt}{f:Nb}{fd:Nv}{ps:Ng}(F:QD x q st f fd)(h:∀(kV doc pm:Value) (an:Option Addr) (cdv ct:Value) (us:Nj),us.length=ps.length→bindArgs (UC q (zdf st) (zco st) Ty .none kV doc pm an cdv ct) ⟨us,[]⟩=pure Tn:=by(intro _ _ _ _ _ _ us hl;rcases us with _ | ⟨_,_ | ⟨_,_ | ⟨_,_ | ⟨_,_ | ⟨_,_ | ⟨_,_⟩⟩⟩⟩⟩⟩<;>first | rfl | cases hl)):WK fd ps []:=F.binds h
def nf{P:Nk}{w:Nl}{K:Na}{h:No}{mg:Nd}{base:No}(X:K.In h)(G:En){x:Str}{st:Stmt}{ps:Ng}{k:Nat}{sp:Sp}(N:Y5 x st)(T:∀f fd,QD x x st f fd→ZB k f fd ps sp)(b:∀(kV doc pm:Value) (an:Option Addr) (cdv ct:Value) (us:Nj),us.length=ps.length→bindArgs LE ⟨us,[]⟩=pure Tn:=by(intro _ _ _ _ _ _ us hl;rcases us with _ | ⟨_,_ | ⟨_,_ | ⟨_,_ | ⟨_,_ | ⟨_,_ | ⟨_,_⟩⟩⟩⟩⟩⟩<;>first | rfl | cases hl)):ZK x ps k sp :=
 let⟨f,fd,a,F⟩:=N
 .mk F (F.binds b) (NV a) (T f fd F)
def nfo{P:Nk}{w:Nl}{K:Na}{h:No}{mg:Nd}{base:No}(X:K.In h)(G:En){x:Str}{st:Stmt}{ps:Ng}{k:Nat}{sp:Sp}(N:Y5 x st)(T:∀f fd,QD x x st f fd→ZB k f fd ps sp)(b:∀(kV doc pm:Value) (an:Option Addr) (cdv ct:Value) (us:Nj),us.length=ps.length→bindArgs LE ⟨us,[]⟩=pure Tn:=by(intro _ _ _ _ _ _ us hl;rcases us with _ | ⟨_,_ | ⟨_,_ | ⟨_,_ | ⟨_,_ | ⟨_,_ | ⟨_,_⟩⟩⟩⟩⟩⟩<;>first | rfl | cases hl)):∃f fd,QD x x st f fd∧WK fd ps []∧mg x=some TJ∧ZB k f fd ps sp :=
 let⟨f,fd,a,F⟩:=N
 ⟨f,fd,F,F.binds b,NV a,T f fd F⟩
end L2
namespace K21
open PySem L2 Wb PyProof.Rows
theorem all_mk{l:PySem.W.OpenLaw}{w:Nl}{K:Na}{h:No}{mg:Nd}{fa C:Nb}(X:K.In h)(G:En)(hfa:mg "law" = some EB)(aC:ZO "Web" = some (Gh C))(h_free_hue:Y5 "free_hue" sFree)(h_steps_behind:Y5 "steps_behind" sSteps)(h_faces_of:Y5 "faces_of" sFaces)(h_piece_from:Y5 "piece_from" zhf)(h_pieces_of:Y5 "pieces_of" zib)(h_chain:Y5 "chain" zhg)(h_exchanged_in:Y5 "exchanged_in" sExIn)(h_order:Y5 "order" sOrder)(h_swap_of:Y5 "swap_of" sSwapOf)(h_swapped:Y5 "swapped" zh9)(h_come_back:Y5 "come_back" sBack)(h_tries:Y5 "tries" sTries)(h_by_one:Y5 "by_one" sOne)(h_by_two:Y5 "by_two" sTwo)(h_four_swaps:Y5 "four_swaps" sFs)(h_four_paper:Y5 "four_paper" sFp)(h_is_name:Y5 "is_name" zid)(h_refuse_no_names:Y5 "refuse_no_names" zf0)(h_refuse_twice:Y5 "refuse_twice" zd5)(h_refuse_one_way:Y5 "refuse_one_way" zic)(h_refuse_not_flat:Y5 "refuse_not_flat" sFlat)(h_from_least:Y5 "from_least" sLeast)(h__law_cell:Y5 "_law_cell" sCell)(h__law_pot:Y5 "_law_pot" sPot)(h__law_take:Y5 "_law_take" sTake)(h__law_names:Y5 "_law_names" sNames)(h__law_behind:Y5 "_law_behind" sBehind)(h__law_face:Y5 "_law_face" sFace)(h__law_put:Y5 "_law_put" sPut)(h__law_grown:Y5 "_law_grown" sGrown)(h__law_crossed:Y5 "_law_crossed" sCross)(h__law_filled:Y5 "_law_filled" sFilled)(h__law_two_rings:Y5 "_law_two_rings" sRings)(h__law_untied:Y5 "_law_untied" sUntied)(h__law_rounds:Y5 "_law_rounds" sRounds)(h__law_rows:Y5 "_law_rows" sRows)(h__law_other_rows:Y5 "_law_other_rows" sORows)(h_mirrored:Y5 "mirrored" sMir)(g___init__:Nm K C "__init__" "Web.__init__" sInit)(g_places:Nm K C "places" "Web.places" sPlaces)(g_round_of:Nm K C "round_of" "Web.round_of" zia){fL:Nb}{od an:Option Addr}{sl:Array S0}{oc kV dc pm cd ct:Value}(aL:ZO "law" = some (Gh fL))(lL:K.lookup fL=some ⟨oc,od,.func (PySem.W.fnOf "law" "law" (zdf sLaw) (zco sLaw) yc .none kV dc pm an cd ct),sl⟩)(cL:BI cd "law" = true)(kL:YN (Go fL)=true)(pg:Y' Str.empty=true)(gF:J9 C=true)(po:X0 C=true)(sa:Z1 "__setattr__" = some (Gz (.builtin "object.__setattr__")))(mk:K2 C=true)(kc:YN Ir=true)(nR:Z1 "rounds" = some none){tkM tkF:Tok}(aM:ZO "MOST_LETTERS" = some (Gz (Sl 8 tkM)))(aF:ZO "FOUR" = some (Gz (Sl 4 tkF)))(z_len:ZO "len" = some none)(z_sorted:ZO "sorted" = some none)(z_range:ZO "range" = some none)(z_min:ZO "min" = some none)(z_max:ZO "max" = some none)(z_abs:ZO "abs" = some none)(z_divmod:ZO "divmod" = some none)(z_tuple:ZO "tuple" = some none)(z_list:ZO "list" = some none)(z_dict:ZO "dict" = some none)(z_set:ZO "set" = some none)(z_isinstance:ZO "isinstance" = some none)(z_str:ZO "str" = some none)(z_all:ZO "all" = some none)(z_sum:ZO "sum" = some none)(z_enumerate:ZO "enumerate" = some none)(z_reversed:ZO "reversed" = some none)(z_repr:ZO "repr" = some none) :
  ∃fd:FuncData,(∀(s:Ni) (v:Value),Ba ⟨[v],[]⟩ [("_law_script",v)])∧∀base:Heap,K.In base→base.Ns mainGlobals mg→FnOk l.prog w K mg base CX0 8 fa fd ["_law_script"] (spLaw K):=by
 have e:=hfa.symm.trans (NV aL)
 cases e
 have FL:=fun_mk (st:=sLaw) lL cL kL
 have cW:VB C:=⟨pg,gF,po,sa⟩
 have mC:=NV aC
 have y_len:=UO z_len
 have y_sorted:=UO z_sorted
 have y_range:=UO z_range
 have y_min:=UO z_min
 have y_max:=UO z_max
 have y_abs:=UO z_abs
 have y_divmod:=UO z_divmod
 have y_tuple:=UO z_tuple
 have y_list:=UO z_list
 have y_dict:=UO z_dict
 have y_set:=UO z_set
 have y_isinstance:=UO z_isinstance
 have y_str:=UO z_str
 have y_all:=UO z_all
 have y_sum:=UO z_sum
 have y_enumerate:=UO z_enumerate
 have y_reversed:=UO z_reversed
 have y_repr:=UO z_repr
 obtain⟨q0,_,ag0,ig0,kg0,ux⟩:=g___init__
 obtain⟨q1,_,ur,rj,qY,qw⟩:=g_places
 obtain⟨q2,_,oU,lT,lQ,lE⟩:=g_round_of
 refine⟨PySem.W.fnOf "law" "law" (zdf sLaw) (zco sLaw) yc .none kV dc pm an cd ct,λs v=>.of_eq rfl,λbase _ _=>?_⟩
 have cl:=@nf l.prog w K h mg base X G
 have cm:=@nfo l.prog w K h mg base X G
 have mM:=NV aM
 have mF:=NV aF
 have GTake:=cl h__law_take λ_ _ F=>ok_take F y_divmod
 have GPot:=cl h__law_pot λ_ _ F=>ok_pot F y_max y_abs
 have GCell:=cl h__law_cell λ_ _ F=>ok_cell F y_len
 have GBehind:=cl h__law_behind λ_ _ F=>ok_behindS F y_len
 have GFace:=cl h__law_face λ_ _ F=>ok_face F GBehind
 have GPut:=cl h__law_put λ_ _ F=>ok_put F
 have GCross:=cl h__law_crossed λ_ _ F=>ok_cross F GTake GFace GPut y_len
 have GFilled:=cl h__law_filled λ_ _ F=>ok_filled F GFace GPut y_list
 have GGrown:=cl h__law_grown λ_ _ F=>ok_grown F GTake GPut y_len y_list
 have GUntied:=cl h__law_untied λ_ _ F=>ok_untied F GTake y_len
 have GNames:=cl h__law_names λ_ _ F=>ok_names F GTake y_range y_divmod
 have GRings:=cl h__law_two_rings λ_ _ F=>ok_rings F y_range y_list y_reversed
 have GRounds:=cl h__law_rounds λ_ _ F=>ok_rounds F GPot GCell GTake GNames GRings GUntied GGrown GCross GFilled y_range
 have GRows:=cl h__law_rows λ_ _ F=>ok_rows F y_list
 have GPlaces:=ok_places (P:=l.prog) (w:=w) (mg:=mg) (base:=base) qw cW nR y_list
 have GRoundOf:=ok_roundof (P:=l.prog) (w:=w) (mg:=mg) (base:=base) lE cW nR y_list
 have GPieceL:=cl h_piece_from λ_ _ F=>ok_pieceL F y_sorted
 have GChain:=cl h_chain λ_ _ F=>ok_chain F cW nR ⟨ur,rj,qY⟩ (zd8 qw) GPlaces ⟨oU,lT,lQ⟩ Ol GRoundOf GPieceL
 have GExIn:=cl h_exchanged_in λ_ _ F=>ok_exin F y_dict
 have GOrder:=cl h_order λ_ _ F=>ok_order F cW ⟨ur,rj,qY⟩ (zd8 qw) GPlaces ⟨oU,lT,lQ⟩ Ol GRoundOf y_len y_min
 have GFree:=cl h_free_hue λ_ _ F=>ok_free F cW ⟨oU,lT,lQ⟩ Ol GRoundOf y_range
 have GSwapOf:=cl h_swap_of λ_ _ F=>ok_swapof F GChain
 have GSwapped:=cl h_swapped λ_ _ F=>ok_swapped F GExIn
 have GTries:=cl h_tries λ_ _ F=>ok_tries F cW ⟨oU,lT,lQ⟩ Ol GRoundOf y_sorted y_range mF
 have GOneS:=cl h_by_one λ_ _ F=>ok_one F GTries GSwapOf GSwapped GFree mF
 have GTwo:=cl h_by_two λ_ _ F=>ok_two F GTries GSwapOf GSwapped GOneS
 have GFs:=cl h_four_swaps λ_ _ F=>ok_fs F GFree GOneS GTwo mF
 have GBack:=cl h_come_back λ_ _ F=>ok_back F GSwapped GFree y_dict
 have GFp:=cl h_four_paper λ_ _ F=>ok_fp F GOrder GFs GBack mF
 have GORows:=cl h__law_other_rows λ_ _ F=>ok_orows F GTake y_len
 obtain⟨_,_,F0,b0,m0,G0⟩:=cm h_is_name λ_ _ F=>ok_isname F mM y_isinstance y_str y_len y_all
 obtain⟨_,_,F1,b1,m1,G1⟩:=cm h_refuse_no_names λ_ _ F=>ok_nonames F F0 b0 m0 G0
 obtain⟨_,_,F2,b2,m2,G2⟩:=cm h_refuse_twice λ_ _ F=>ok_twice F y_len y_set
 obtain⟨_,_,F3,b3,m3,G3⟩:=cm h_refuse_one_way λ_ _ F=>ok_oneway F y_dict
 obtain⟨_,_,F4,b4,m4,G4⟩:=cm h_from_least λ_ _ F=>ok_least F y_min y_tuple
 obtain⟨_,_,F5,b5,m5,G5⟩:=cm h_steps_behind λ_ _ F=>ok_steps F y_enumerate
 obtain⟨_,_,F6,b6,m6,G6⟩:=cm h_faces_of λ_ _ F=>ok_faces F F5 b5 m5 G5 y_sorted
 obtain⟨_,_,F7,b7,m7,G7⟩:=cm h_piece_from λ_ _ F=>ok_piece F y_sorted
 obtain⟨_,_,F8,b8,m8,G8⟩:=cm h_pieces_of λ_ _ F=>ok_pieces F F7 b7 m7 G7 y_sorted
 obtain⟨_,_,F9,b9,m9,G9⟩:=cm h_refuse_not_flat λ_ _ F=>ok_flat F F6 b6 m6 G6 F8 b8 m8 G8 y_len y_sum
 have GInit:=ok_init (P:=l.prog) (w:=w) (mg:=mg) (base:=base) ux cW nR F1 b1 m1 G1 F2 b2 m2 G2 F3 b3 m3 G3 F4 b4 m4 G4 F9 b9 m9 G9 y_sorted
 have GMir:=cl h_mirrored λ_ _ F=>ok_mir F cW ⟨ur,rj,qY⟩ (zd8 qw) GPlaces ⟨oU,lT,lQ⟩ Ol GRoundOf ⟨mk,ag0,ig0,kc⟩ mC (zd8 ux) GInit
 exact ok_law FL GPot GCell GTake GRounds GCross GRows GORows GMir ⟨mk,ag0,ig0,kc⟩ mC (zd8 ux) GInit GFp y_range y_repr
def walk{l:PySem.W.OpenLaw}{q:Nk}{loose:Ng}{XP:(Str→Option Value)→Heap→Prop}{d:DefRec}{K:Params→PySem.W.Frag}(hn:l.most=some 63)(oe:d.params.defaults=[])(F:∀ (w:Nl) (mg:Nd) (fa:Nb) (h:No),(K w.params).In h→h.Ns mainGlobals mg→mg d.name=some EB →
   ∃fd:FuncData,(∀(s:Ni) (u:Value),Ba ⟨[u],[]⟩ [("_law_script",u)])∧∀base:Heap,(K w.params).In base→base.Ns mainGlobals mg→KH CX0 8 fa fd ["_law_script"] (spLaw Pp)) :
  PySem.W.WalkO q loose XP (λw h=>(K w.params).In h) l.row.toRowW d [] (λf vs=>M8 vs) :=
 L2.walk_of (n:=63) (k:=8) (x := "_law_script") (CX:=λ_=>CX0) (sp:=λw=>spLaw Pp) hn Gj oe ⟨rfl,Gj,Gj,rfl⟩ (λ_ _ z=>z) F (λ_ _ a ns _ _ hS=>⟨a,ns,rfl,hS,λ_=>rfl⟩) λ_ _ _ _ _ z=>z
end K21
end
section
set_option Elab.async false
set_option linter.all false
open PySem PySem.W PySem.W.X PyProof.Rows
namespace PySem.W.Fast
def tw10220241334560988920:=0
def tw6259084855742034695:=0
def tw3861978292941763544:=0
def tw7828171393148609605:=0
def tw978535829747136156:=0
def tw11556010753171347769:=0
def tw10118677124540986994:=0
def tw7986021354016815364:=0
def tw4851684889575282043:=0
def tw10413239169299635703:=0
def tw11518081360559372347:=0
def tw4404703352975216957:=0
def tw7749071059622258567:=0
def tw15336781118427085840:=0
def tw18172054500637761111:=0
def tw12175938269742310671:=0
def tw3766082882191966226:=0
def tw6807032718560131911:=0
def tw3902053216738007331:=0
def tw8525263435259964592:=0
def tw10254236271726639978:=0
def tw12908818770453770407:=0
def tw12367417033811671729:=0
def tw13862888268556516015:=0
def tw16013253642351848926:=0
def tw1165610919426662755:=0
def tw6539327941979877921:=0
def tw17301910128845148836:=0
def tw11496304224402610928:=0
def tw16025739368617457937:=0
def tw13601125020713281183:=0
def tw14845549280016263658:=0
def tw4821450874657282545:=0
def tw2198522113106467835:=0
def tw472809640547654220:=0
def tw826207141134573721:=0
def tw17732863956191669734:=0
def tw15383077341543100244:=0
def tw1924356300393735754:=0
def tw14009706902959847815:=0
def tw14056148125813379491:=0
def tw7351923991037804613:=0
def tw13717382323960418932:=0
def tw12904886540088595924:=0
def tw2162695035582763246:=0
def tw3643188060620738577:=0
def tw13638051104226241331:=0
def tw7237428923657173401:=0
def tw11206834924497943154:=0
def tw14805433091080042447:=0
def tw5909294629435772908:=0
def tw17299141805522326512:=0
def tw15788005997318145651:=0
def tw116243967974990554:=0
def tw17875606015378486135:=0
def tw6125413887474611386:=0
def tw15101545793831770727:=0
def tw3516055604843797352:=0
def tw7276814957030635336:=0
def tw14000470554776912264:=0
def tw6448756313715109827:=0
def tw303838485092635459:=0
def tw9289662239390863646:=0
def tw14857801596760808923:=0
def tw5343350306052755624:=0
def tw11728227495122860678:=0
def tw17683158258457793860:=0
def tw12178895404876493275:=0
def tw3005702040204842472:=0
def tw3524281482349278940:=0
def tw2285532449139420015:=0
def tw12745906504906237383:=0
def tw7498289839935852760:=0
def tw5746485700977925388:=0
def tw5631014168680882319:=0
def tw5924755791833488478:=0
def tw5278563360689281722:=0
def tw16601505010312844739:=0
def tw7167222619124624464:=0
def tw13845725875690487493:=0
def tw15278916306591619004:=0
def tw7530692646497143044:=0
def tw14713482819167797023:=0
def tw1564836387625342080:=0
def tw5593301954014178581:=0
def tw11363302285768271218:=0
def tw8254423222329365723:=0
def tw14656655075599827460:=0
def tw8100598670294588433:=0
def tw8311848772124982682:=0
def tw7707182481675162437:=0
def tw8252545261256457542:=0
def tw2986397515572201556:=0
def tw8353703667970681223:=0
def tw2354539689734895740:=0
def tw1590394456012076539:=0
def tw15438994469800272776:=0
def tw15441737051043978246:=0
def tw18321778086569209016:=0
def tw13290588490574878924:=0
def tw14014071086616060895:=0
def tw6732302428730867071:=0
def tw475537569145128378:=0
def tw7598317583983343338:=0
def tw1424100971902626566:=0
def tw87817051982129356:=0
def tw6540279388776775656:=0
def tw15842340508562881680:=0
def tw4731874653978220304:=0
def tw6989369404735714887:=0
def tw6079877102377292283:=0
def tw262369102400938693:=0
def tw6143199325161890155:=0
def tw14048312265128822878:=0
def tw4424904808988599309:=0
def tw17057919581419303608:=0
def tw6057883969093814340:=0
def tw636582703141194746:=0
def tw13498007910305514889:=0
def tw14207250056425607411:=0
def tw5913896374341068195:=0
def tw3653607697848497676:=0
def tw925234481960528513:=0
def tw6843409059613494006:=0
def tw12911378019453784180:=0
def tw11335846086332232524:=0
def tw3152163351332139681:=0
def tw6223975337415148767:=0
def tw8929131963095498517:=0
def tw17108755203127289377:=0
end PySem.W.Fast
set_option maxRecDepth 100000 in
set_option maxHeartbeats 0 in
theorem PySem.Challenge.cw_fivehues_k54_four_hues_mirrored_holds : PySem.Challenge.rw_fivehues_k54_four_hues_mirrored.Holds := by
 w_on;o_law;z_head;(case hw=>w_witness2)
 k_fill
 intro w s0 s1 mg mb G y fa o pm cd doc dV kV ho hd hcd hD hmg hg args vals as L hpre hlay hrd hwl hlo
 z_open y L KX ZH ZN ZT
 refine K21.walk (l:=PySem.Challenge.rw_fivehues_k54_four_hues_mirrored) rfl rfl ?F w s0 s1 mg mb G KX fa o pm cd doc dV kV ho hd hcd hD hmg hg args vals as hpre hlay hrd hwl hlo
 case F =>
  clear KX ZH ZN ZT L y G hmg hg hpre hlay hrd hwl hlo ho hd hcd hD
  intro w mg fa h KX G hmg
  refine' K21.all_mk KX G hmg ?aC ?_ ?_ ?_ ?_ ?_ ?_ ?_ ?_ ?_ ?_ ?_ ?_ ?_ ?_ ?_ ?_ ?_ ?_ ?_ ?_ ?_ ?_ ?_ ?_ ?_ ?_ ?_ ?_ ?_ ?_ ?_ ?_ ?_ ?_ ?_ ?_ ?_ ?_ ?_ ?_ ?_ ?_ ?_ ?_ ?_ ?_ ?_ ?_ ?_ ?_ ?_ ?_ ?_ ?_ ?_ ?_ ?_ ?_ ?_ ?_ ?_ ?_ ?_ ?_ ?_ ?_ ?_ ?_ ?_ ?_ ?_ ?_
  (case aC=>k_is)
  all_goals(try k_is)
  all_goals(try first | exact⟨_,_,by k_is,L2.fun_mk (by k_is) (by k_is) (by k_is)⟩ | exact⟨_,_,by k_is,by k_is,by k_is,L2.fun_mk (by k_is) (by k_is) (by k_is)⟩ | k_is | kit_is | kts_exm | k_exc)
end
